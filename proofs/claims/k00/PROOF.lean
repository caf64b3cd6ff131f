import PyProof.Rows.All
import Wide.All
import OpenK.AllK
import Wide.FinOn
import HandS.ForMost
import HandS.Flow
import HandS.IsInst
import HandS.TupLe
import HandS.TupAny
import HandS.ForExc
import HandS.ExcInit
import HandS.CallSlots
import HandS.EndTab
import HandS.Lambda
import HandS.DictComp
import KE.KDictKeyed
import KE.KeyNested
import HandS.Zip
import HandS.Walk
import KE.GoesMore
import KE.GoesEnum
import KE.DataCmp
import KE.SortData
import KE.DataMinMax
import HandS.ExcValue
import HandS.SortKw
import KE.SortKeyHeap
import KE.KSortKey
import HandS.TupSets
import PyProof.MinMaxWalk
import PyProof.EnumMake
import PyProof.Draws
import HandS.Style
import HandS.Head0
import HandS.Head1
import HandS.Head2
import HandS.HeadHook1
import HandS.HeadHook2
import HandS.HeadHook3
import HandS.HeadHook4
import HandS.HeadWalk
import HandS.Text
import HandS.StrMore
import HandS.FStr
import HandS.RaiseMore
import HandS.Dict
import KE.KExcIs
import HandS.ExcField
import HandS.ExcIs
import HandS.TryOnly
import HandS.ExcBuiltin
import HandS.More
import HandS.OwnEq
import HandS.Codes
import HandS.Star
import HandS.Set
import HandS.SetFor
import HandS.Strs
import HandS.Small
import PyProof.Rows.StrRev
import PyProof.StrOps2
import PyProof.Rows.StrFit
import HandS.ListItems
import KE.KDictList
import KE.KDictCopyH
import HandS.WordsDict
import PySem.Challenge.RW_lockwright_k00_errors_of_the_package
set_option Elab.async false
set_option linter.all false
set_option maxRecDepth 100000
set_option autoImplicit false
namespace DN
open PySem L2 PySem.Spec
open PyProof.Rows hiding St
mutual
/-- a key as it is tracked -/
def NKey (K : PySem.W.Frag) (H : Hp) : NestedKey → V → Prop
  | .none, v => v = .non
  | .num i, v => v = .int i
  | .text x, v => v = .str x
  | .tup ks, v => ∃ b vs, v = .ref b ∧ SqT K H b vs ∧ NKeys K H ks vs
def NKeys (K : PySem.W.Frag) (H : Hp) : List NestedKey → List V → Prop
  | [], vs => vs = []
  | k :: ks, vs => ∃ v r, vs = v :: r ∧ NKey K H k v ∧ NKeys K H ks r
end
section
variable {X : Cx} {pins : List (Addr × Obj)} {σ : St} {H : Hp} {s : Shared}
mutual
theorem nkey_is (I : Inv X pins σ H s) : ∀ (k : NestedKey) (v : V) (u : Value), NKey X.K H k v → RelV v u → NestedIs s.heap k u
  | .none, v, u, h, r => by
    rw [show v = _ from h] at r
    rw [show u = Value.none from r]
    exact .none
  | .num i, v, u, h, r => by
    rw [show v = _ from h] at r
    obtain ⟨t, rfl⟩ := (show ∃ t, u = Value.int i t from r)
    exact .int i t
  | .text x, v, u, h, r => by
    rw [show v = _ from h] at r
    obtain ⟨t, rfl⟩ := (show ∃ t, u = Value.str x t from r)
    exact .text x t
  | .tup ks, v, u, h, r => by
    obtain ⟨b, vs, e, hs, hk⟩ := h
    rw [e] at r
    obtain rfl : u = Value.ref b := r
    obtain ⟨its, rv, ⟨o, h1, h2, n, h3⟩, _⟩ := I.tuple hs
    exact .tup h1 h2 h3 (by simpa using nkeys_are I ks vs its hk rv)
theorem nkeys_are (I : Inv X pins σ H s) : ∀ (ks : List NestedKey) (vs : List V) (us : List Value), NKeys X.K H ks vs → Vals vs us → NestedAll s.heap ks us
  | [], vs, us, h, r => by
    rw [show vs = _ from h] at r
    cases r
    exact .nil
  | k :: ks, vs, us, h, r => by
    obtain ⟨v, w, e, h1, h2⟩ := h
    rw [e] at r
    cases r with
    | cons r1 r2 => exact .cons (nkey_is I k v _ h1 r1) (nkeys_are I ks w _ h2 r2)
end
end
mutual
theorem NKey.mono {K : PySem.W.Frag} {H H' : Hp} (x : ∀ a vs, SqT K H a vs → SqT K H' a vs) : ∀ (k : NestedKey) (v : V), NKey K H k v → NKey K H' k v
  | .none, _, h => h
  | .num _, _, h => h
  | .text _, _, h => h
  | .tup ks, v, h => by
    obtain ⟨b, vs, e, hs, hk⟩ := h
    exact ⟨b, vs, e, x _ _ hs, NKeys.mono x ks vs hk⟩
theorem NKeys.mono {K : PySem.W.Frag} {H H' : Hp} (x : ∀ a vs, SqT K H a vs → SqT K H' a vs) : ∀ (ks : List NestedKey) (vs : List V), NKeys K H ks vs → NKeys K H' ks vs
  | [], _, h => h
  | k :: ks, vs, h => by
    obtain ⟨v, r, e, h1, h2⟩ := h
    exact ⟨v, r, e, NKey.mono x k v h1, NKeys.mono x ks r h2⟩
end
/-- an entry -/
def entN (w : World) (x : NestedKey × Addr × Value) : DictEntry := ⟨x.1.hash w, .ref x.2.1, x.2.2⟩
/-- the object at a is a dict of these entries -/
def RawN (a : Addr) (es : List DictEntry) : HO := .ext fun h => ∃ (o : Obj) (ep : Nat), h.get? a = some o ∧ o.ExactDict ∧ o.data = .dict es.toArray ep
abbrev NT (K : PySem.W.Frag) (H : Hp) : List (NestedKey × V) → List (NestedKey × Addr × Value) → Prop := Paired fun p q => p.1 = q.1 ∧ (NKey K H p.1 (.ref q.2.1) ∧ p.1.depth ≤ 8) ∧ RelV p.2 q.2.2
/-- a tracked dict -/
def DNat (K : PySem.W.Frag) (w : World) (H : Hp) (a : Addr) (kvs : List (NestedKey × V)) : Prop :=
  ∃ (xs : List (NestedKey × Addr × Value)) (c : Addr), NT K H kvs xs ∧ (c == sysModules) = false ∧ kvs.length ≤ sizeLine ∧ (xs.map (·.1)).Nodup ∧ H a = some (RawN c (xs.map (entN w)))
theorem NT.all {K : PySem.W.Frag} {H : Hp} {kvs : List (NestedKey × V)} {xs : List (NestedKey × Addr × Value)} (r : NT K H kvs xs) : ∀ x ∈ xs, NKey K H x.1 (.ref x.2.1) ∧ x.1.depth ≤ 8 := by
  induction r with
  | nil => intro x hx; cases hx
  | @cons p q ps qs h t ih =>
    intro x hx
    rcases List.mem_cons.mp hx with e | hx
    · subst e; rw [← h.1]; exact h.2.1
    · exact ih x hx
theorem NT.keeps {K : PySem.W.Frag} {H H' : Hp} {kvs : List (NestedKey × V)} {xs : List (NestedKey × Addr × Value)} (r : NT K H kvs xs) (x : ∀ a vs, SqT K H a vs → SqT K H' a vs) : NT K H' kvs xs :=
  Paired.mapP r fun _ _ z => ⟨z.1, ⟨NKey.mono x _ _ z.2.1.1, z.2.1.2⟩, z.2.2⟩
theorem NT.val {K : PySem.W.Frag} {H : Hp} {kvs : List (NestedKey × V)} {xs : List (NestedKey × Addr × Value)} (r : NT K H kvs xs) (k : NestedKey) : RelO (valV kvs k) ((atKey xs k).map (·.2)) := by
  induction r with
  | nil => trivial
  | @cons p q ps qs h t ih =>
    by_cases e : p.1 = k
    · have b : atKey (q :: qs) k = some q.2 := by simp [atKey, List.find?_cons, h.1.symm.trans e]
      rw [valV_pos e, b]
      exact h.2.2
    · have b : atKey (q :: qs) k = atKey qs k := by simp [atKey, List.find?_cons, show ¬ q.1 = k from fun z => e (h.1.trans z)]
      rw [valV_neg e, b]
      exact ih
theorem NT.swap {K : PySem.W.Frag} {H : Hp} {kvs : List (NestedKey × V)} {xs : List (NestedKey × Addr × Value)} (r : NT K H kvs xs) (k : NestedKey) {y : V} {u : Value} (ry : RelV y u) : NT K H (kvs.map fun kv => if kv.1 = k then (kv.1, y) else kv) (xs.map (putAt k u)) := by
  induction r with
  | nil => exact .nil
  | @cons p q ps qs h t ih =>
    rw [List.map_cons, List.map_cons]
    refine .cons ?_ ih
    unfold putAt
    by_cases z : p.1 = k
    · rw [if_pos z, if_pos (h.1.symm.trans z)]; exact ⟨h.1, h.2.1, ry⟩
    · rw [if_neg z, if_neg (fun y => z (h.1.trans y))]; exact h
theorem NT.put {K : PySem.W.Frag} {H : Hp} {kvs : List (NestedKey × V)} {xs : List (NestedKey × Addr × Value)} (r : NT K H kvs xs) (k : NestedKey) {b : Addr} {y : V} {u : Value} (hb : NKey K H k (.ref b) ∧ k.depth ≤ 8) (ry : RelV y u) : NT K H (putK kvs k y) (storedH xs k b u) := by
  have e : (kvs.any fun kv => decide (kv.1 = k)) = (atKey xs k).isSome := by
    have := (r.val k).isSome_eq
    rw [Option.isSome_map] at this
    rw [valV_any, this]
  unfold putK storedH
  rw [e]
  split
  · exact r.swap k ry
  · exact Paired.snoc r ⟨rfl, hb, ry⟩
/-- it tells its own address -/
theorem raw_addr {P : Program} {w : World} {H : Hp} {h : Heap} {a b : Addr} {es : List DictEntry} (ok : HOk P w H h) (e : H b = some (RawN a es)) : b = a := by
  obtain ⟨h1, _, h3⟩ := (show ObjOk P w H h b (RawN a es) from ok b _ e)
  by_cases hb : b = a
  · exact hb
  · obtain ⟨G, g1, g2⟩ := restrict h fun c => decide (c ≠ a)
    obtain ⟨o, ep, z, _⟩ := h3 h G h1 fun o ho => by rw [g1 b (by simpa using hb)]; exact ho
    rw [g2 a (by simp)] at z
    cases z
section
variable {X : Cx} {pins : List (Addr × Obj)} {σ : St} {H : Hp} {s : Shared} {a : Addr} {kvs : List (NestedKey × V)} {A : Around} {E : Value → Shared → Prop}
theorem nd_of (I : Inv X pins σ H s) (D : DNat X.K X.w H a kvs) : ∃ xs, NT X.K H kvs xs ∧ (a == sysModules) = false ∧ kvs.length ≤ sizeLine ∧ s.heap.DictOfH (nestedKind X.prog X.w) a xs := by
  obtain ⟨xs, c, r, hs, hl, hn, e⟩ := D
  obtain rfl := raw_addr I.hok e
  obtain ⟨⟨o, ep, h1, h2, h3⟩, _, _⟩ := (show ObjOk X.prog X.w H s.heap a (RawN a (xs.map (entN X.w))) from I.hok a _ e)
  refine ⟨xs, r, hs, hl, o, _, ep, h1, h2, h3, rfl, fun x hx => ?_, hn⟩
  obtain ⟨k1, k2⟩ := r.all x hx
  exact ⟨nkey_is I _ _ _ k1 rfl, k2⟩
theorem DNat.len {K : PySem.W.Frag} {w : World} (D : DNat K w H a kvs) : kvs.length ≤ sizeLine := by
  obtain ⟨_, _, _, _, h, _⟩ := D
  exact h
theorem key_is (I : Inv X pins σ H s) {k : NestedKey} {b : Addr} (h : NKey X.K H k (.ref b) ∧ k.depth ≤ 8) : (nestedKind X.prog X.w).is s.heap k b := ⟨nkey_is I _ _ _ h.1 rfl, h.2⟩
/-- what stands behind a store -/
theorem nd_put {h' : Heap} {t' : Nat} {k : NestedKey} {b : Addr} {y : V} {u : Value} {xs : List (NestedKey × Addr × Value)} (I : Inv X pins σ H s) (hm : Mut (H a)) (r : NT X.K H kvs xs) (hb : NKey X.K H k (.ref b) ∧ k.depth ≤ 8) (ry : RelV y u) (hs : Heap.SameBut a s.heap h')
    (dd : h'.DictOfH (nestedKind X.prog X.w) a (storedH xs k b u)) : Inv X pins σ (upd H a (RawN a ((storedH xs k b u).map (entN X.w)))) { s with heap := h', toks := t' } := by
  obtain ⟨q, es, ep, hq, h2, h3, h4, _, h5⟩ := dd
  have he : es = ((storedH xs k b u).map (entN X.w)).toArray := by rw [← h4.trans (show _ = (storedH xs k b u).map (entN X.w) from rfl), Array.toArray_toList]
  refine d_write I hm hs ⟨q, hq⟩ ⟨⟨q, ep, hq, h2, by rw [h3, he]⟩, ⟨q, hq⟩, fun h1 h2' ⟨o, e, f1, f2, f3⟩ st => ⟨o, e, st o f1, f2, f3⟩⟩
theorem n_dictSet {k : NestedKey} {b : Addr} {y : V} {u : Value} {Q : Unit → Shared → Prop} (hu : A.units + 64 < cLine) (I : Inv X pins σ H s) (D : DNat X.K X.w H a kvs) (hz : kvs.length < sizeLine) (hb : NKey X.K H k (.ref b) ∧ k.depth ≤ 8) (ry : RelV y u)
    (h : ∀ (H' : Hp) s', (∀ c, c ≠ a → H' c = H c) → DNat X.K X.w H' a (putK kvs k y) → Inv X pins σ H' s' → Q () s') : wpAny (model X.prog X.w) A (dictSet a (.ref b) u) Q E s := by
  obtain ⟨xs, c0, r, hsys, hl, hn, e⟩ := D
  obtain rfl := raw_addr I.hok e
  obtain ⟨xs', r', _, _, dd⟩ := nd_of I ⟨xs, _, r, hsys, hl, hn, e⟩
  have hln := Paired.length r'
  refine wpAny_dictSet_heap (hsz := by omega) (show (nestedKind X.prog X.w).room A from by show A.units + 8 < cLine; omega) (key_is I hb) dd fun h' dd' hs => ?_
  have key : ∀ c vs, SqT X.K H c vs → SqT X.K (upd H a (RawN a ((storedH xs' k b u).map (entN X.w)))) c vs := fun c vs q => by
    rcases q with (q | ⟨o, q⟩) | q
    · exact .inl (.inl (by rw [upd_ne (fun z => by rw [z, e] at q; cases q)]; exact q))
    · exact .inl (.inr ⟨o, by rw [upd_ne (fun z => by rw [z, e] at q; cases q)]; exact q⟩)
    · exact .inr q
  obtain ⟨_, _, _, _, _, _, _, _, hnd⟩ := id dd'
  refine h _ _ (fun c hc => upd_ne hc) ⟨storedH xs' k b u, _, (r'.put k hb ry).keeps key, hsys, ?_, hnd, upd_same⟩ (nd_put I (by rw [e]; exact True.intro) r' hb ry hs dd')
  have := length_putK kvs k y
  omega
end
/-- such a dict is no code object -/
theorem raw_code {a c : Addr} {es : List DictEntry} {q : Str} (e : RawN a es = LamX.CodeO c q) : False := by
  obtain ⟨o, ho⟩ : ∃ o : Obj, o = { cls := .type "dict", data := .dict es.toArray } := ⟨_, rfl⟩
  have hsz : ({ objs := Array.replicate a o } : Heap).objs.size = a := by simp
  obtain ⟨h, hh⟩ : ∃ h : Heap, h = ({ objs := Array.replicate a o } : Heap).push o := ⟨_, rfl⟩
  have hat : h.get? a = some o := by
    have := Heap.get?_push_size ({ objs := Array.replicate a o } : Heap) (o := o) (by rw [ho]; rfl)
    rw [hsz] at this
    rw [hh]; exact this
  have hall : ∀ b u, h.get? b = some u → u.data = .dict es.toArray := fun b u hb => by
    have hm : ∀ u ∈ h.objs, u = o := fun u hu => by
      rw [hh] at hu
      have hu : u ∈ (Array.replicate a o).push o := hu
      rcases Array.mem_push.mp hu with hu | hu
      · exact (Array.mem_replicate.mp hu).2
      · exact hu
    unfold Heap.get? at hb
    split at hb
    · cases hb
    · rw [hm u (Array.mem_of_getElem? hb), ho]
  injection e with e
  have h1 : ∃ (o' : Obj) (ep : Nat), h.get? a = some o' ∧ o'.ExactDict ∧ o'.data = .dict es.toArray ep := ⟨o, 0, hat, by rw [ho]; exact ⟨rfl, rfl, rfl⟩, by rw [ho]⟩
  obtain ⟨oc, vs, t, h2, h3, _⟩ := (congrFun e h).mp h1
  rw [hall c oc h2] at h3
  cases h3
end DN
namespace TD
open PySem L2 PySem.Spec
open PyProof.Rows hiding St
/-- the object at a is known, and has no dict -/
def NoD (K : PySem.W.Frag) (H : Hp) (a : Addr) : Prop := (∃ (o : Obj) (u : HO), H a = some (.frz o u) ∧ o.dict = none) ∨ ∃ o : Obj, K.lookup a = some o ∧ o.dict = none
abbrev tupOb (us : List Value) : Obj := { cls := .type "tuple", data := .seq us.toArray }
/-- what may stand for a new tuple -/
abbrev NewT (H : Hp) (xs : List V) (Q : VK) : Prop := ∀ (p : Addr) (o : Obj), H p = none → o.dict = none → Q (.ref p) (upd H p (.frz o (.tup xs)))
section
variable {X : Cx} {pins : List (Addr × Obj)} {σ : St} {H : Hp} {s : Shared}
theorem laid_frz {us : List Value} {xs : List V} (I : Inv X pins σ H s) (r : Vals xs us) (hz : xs.length ≤ sizeLine) : Inv X pins σ (upd H s.heap.objs.size (.frz (tupOb us) (.tup xs))) { s with heap := s.heap.push (tupOb us) } :=
  I.laid (t' := s.toks) (fun b u e => Heap.get?_push_of_some _ e) (Nat.le_refl _) ⟨Heap.get?_push_size _ rfl, hz, us, r, ⟨_, Heap.get?_push_size _ rfl, rfl, _, rfl⟩⟩
theorem told_frz {us : List Value} {xs : List V} {Q : VK} (I : Inv X pins σ H s) (r : Vals xs us) (hz : xs.length ≤ sizeLine) (q : NewT H xs Q) : EP X pins σ Q (.ref s.heap.objs.size) { s with heap := s.heap.push (tupOb us) } :=
  ⟨.ref s.heap.objs.size, _, laid_frz I r hz, rfl, q _ _ (I.hok.fresh (Nat.le_refl _)) rfl⟩
end
section
variable {X : Cx} {e : Expr} {es : List Expr} {te : TE} {t : TA} {pos : Pos}
def tTupF (t : TA) : TE := fun σ H Q => t σ H fun xs H1 => xs.length ≤ sizeLine ∧ NewT H1 xs Q
theorem pe_tupF {x1} (h : PA X es t) : PE X (.Tuple es x1 pos) (tTupF t) := by
  refine ⟨fun pins s σ H Q I hq => ?_⟩
  exact wpAny_Tuple_spliced (thn (h.run pos pins s σ H _ I hq) fun us s1 ⟨xs, H1, I1, r, z, q⟩ => ⟨by rw [← r.length]; exact z, told_frz I1 r z q⟩)
/-- t + u -/
def rCatF (K : PySem.W.Frag) : R2 := fun x y H Q => ∃ a b xs ys, x = .ref a ∧ y = .ref b ∧ SqT K H a xs ∧ SqT K H b ys ∧ xs.length + ys.length ≤ sizeLine ∧
  (xs = [] → Q (.ref b) H) ∧ (xs ≠ [] → ys = [] → Q (.ref a) H) ∧ (xs ≠ [] → ys ≠ [] → NewT H (xs ++ ys) Q)
theorem op_catF : OpR X (binaryOp .Add) (rCatF X.K) := by
  intro pins s σ H x y v u Q I rx ry h
  obtain ⟨a, b, xs, ys, rfl, rfl, ha, hb, hz, q0, q1, q2⟩ := h
  cases rx
  cases ry
  obtain ⟨its, r1, p1, _⟩ := I.tuple ha
  obtain ⟨its2, r2, p2, _⟩ := I.tuple hb
  by_cases hx : xs = []
  · subst hx
    cases r1
    exact cat_tup0 p1 p2 ⟨.ref b, H, I, rfl, q0 rfl⟩
  · refine HT.cat_tup p1 p2 (fun z => hx (r1.nil_iff.mp z)) (fun z => ⟨.ref a, H, I, rfl, q1 hx (r2.nil_iff.mp z)⟩) (fun z => ?_) (by rw [← r1.length, ← r2.length]; exact hz)
    exact told_frz I (r1.append r2) (by rw [List.length_append]; exact hz) (q2 hx fun w => z (r2.nil_iff.mpr w))
/-- t[lo:hi] -/
def rSlF (K : PySem.W.Frag) : V → Option Int → Option Int → Hp → VK → Prop := fun x lo hi H Q => ∃ a xs, x = .ref a ∧ SqT K H a xs ∧
  (HT.sIx xs.length 0 lo = 0 ∧ HT.sIx xs.length xs.length hi = xs.length → Q (.ref a) H) ∧ (¬ (HT.sIx xs.length 0 lo = 0 ∧ HT.sIx xs.length xs.length hi = xs.length) → NewT H (cutV xs lo hi) Q)
theorem sl_tupF : SlR X (rSlF X.K) := by
  intro pins s σ H x v vl vu lo hi sl Q I rx hs pl pu h
  obtain ⟨a, xs, rfl, hx, q1, q2⟩ := h
  cases rx
  obtain ⟨its, r, ht, hz⟩ := I.tuple hx
  have hlen : its.toArray.size = xs.length := by rw [List.size_toArray]; exact r.length.symm
  refine ⟨"tuple", _, PyProof.Rows.slot_tuple_getitem.lookup, ht.typeIs, ?_⟩
  by_cases hw : HT.sIx xs.length 0 lo = 0 ∧ HT.sIx xs.length xs.length hi = xs.length
  · exact getItem_tuple_whole ht hs pl pu (by rw [hlen]; exact hw) ⟨.ref a, H, I, rfl, q1 hw⟩
  · refine HT.getItem_tuple_cut ht hs pl pu (by rw [hlen]; exact hw) ?_ (by rw [hlen]; exact hz)
    rw [hlen]
    exact told_frz I ((r.drop (HT.sIx xs.length 0 lo)).take (HT.sIx xs.length xs.length hi - HT.sIx xs.length 0 lo)) (Nat.le_trans (cutV_length xs lo hi) hz) (q2 hw)
end
end TD
namespace DL
open PySem L2 PySem.Spec
open PyProof.Rows hiding St
inductive D where
  | non | bl (b : Bool) | int (i : Int) | str (x : Str) | tup (ds : List D) | fls (ds : List D) | loc (n : Nat) | adr (a : Addr) | ty (n : String)
inductive Ob where
  | lst (ds : List D)
  | ins (C : Addr) (fs : List (Str × D))
  | dK (kvs : List (Key × D))
  /-- an exception made and not raised, its class, its dict's place -/
  | err (e C : Addr) (d : Option Addr)
  /-- that dict -/
  | xdt (dx : Addr) (fs : List (Str × D))
  /-- a dict that nothing writes to -/
  | dkF (o : Obj) (kvs : List (Key × D))
  /-- a dict whose keys are tuples in tuples -/
  | dN (w : World) (kvs : List (NestedKey × D))
abbrev Sto := List Ob
abbrev Env' := List (Option D)
/-- a list that nothing writes to -/
def FzL (K : PySem.W.Frag) (H : Hp) (a : Addr) (xs : List V) : Prop :=
  (∃ o, H a = some (.frz o (.lst xs))) ∨
    ∃ (o : Obj) (its : Array Value) (n : Nat), K.lookup a = some o ∧ o.cls = .type "list" ∧ o.dict = none ∧ o.data = .seq its n ∧ its.size ≤ sizeLine ∧ Vals xs its.toList
theorem FzL.sq {K : PySem.W.Frag} {H : Hp} {a : Addr} {xs : List V} (h : FzL K H a xs) : SqL K H a xs := by
  rcases h with h | h
  · exact .inl (.inr h)
  · exact .inr h
/-- a pair of a text and a tuple -/
def pairD : D → Bool
  | .tup [.str _, .tup _] => true
  | _ => false
def pairsD (ds : List D) : Bool := ds.all pairD
/-- a tuple; one that may become a dict is known to have none of its own -/
structure TupD (K : PySem.W.Frag) (H : Hp) (a : Addr) (ds : List D) (vs : List V) : Prop where
  sq : SqT K H a vs
  nd : pairsD ds = true → TD.NoD K H a
instance {K : PySem.W.Frag} {H : Hp} {a : Addr} {ds : List D} {vs : List V} : CoeOut (TupD K H a ds vs) (SqT K H a vs) := ⟨TupD.sq⟩
mutual
def Rep (K : PySem.W.Frag) (H : Hp) (μ : List Addr) : D → V → Prop
  | .non, v => v = .non
  | .bl b, v => v = .bl b
  | .int i, v => v = .int i
  | .str x, v => v = .str x
  | .tup ds, v => ∃ a vs, v = .ref a ∧ TupD K H a ds vs ∧ Reps K H μ ds vs
  | .fls ds, v => ∃ a vs, v = .ref a ∧ FzL K H a vs ∧ Reps K H μ ds vs
  | .loc n, v => ∃ a, v = .ref a ∧ μ[n]? = some a
  | .adr a, v => v = .ref a
  | .ty n, v => v = .ty n
def Reps (K : PySem.W.Frag) (H : Hp) (μ : List Addr) : List D → List V → Prop
  | [], vs => vs = []
  | d :: ds, vs => ∃ v r, vs = v :: r ∧ Rep K H μ d v ∧ Reps K H μ ds r
end
/-- what may have come behind: nothing tracked is changed but what the store holds -/
structure Ext0 (H H' : Hp) (μ μ' : List Addr) : Prop where
  pre : ∀ (n : Nat) (a : Addr), μ[n]? = some a → μ'[n]? = some a
  tup : ∀ a xs, H a = some (.tup xs) → H' a = some (.tup xs)
  frz : ∀ a o u, H a = some (.frz o u) → H' a = some (.frz o u)
structure Ext (H H' : Hp) (μ μ' : List Addr) : Prop extends Ext0 H H' μ μ' where
  fra : ∀ a o, H a = some o → a ∉ μ → (∀ ps, o ≠ .tbl ps) → H' a = some o
  new : ∀ a, a ∈ μ' → a ∈ μ ∨ ∀ o, H a = some o → ∃ ps, o = .tbl ps
section
variable {K : PySem.W.Frag} {H H1 H2 H' : Hp} {μ μ1 μ2 μ' : List Addr}
theorem Ext.refl (H : Hp) (μ : List Addr) : Ext H H μ μ := ⟨⟨fun _ _ h => h, fun _ _ h => h, fun _ _ _ h => h⟩, fun _ _ h _ _ => h, fun _ h => .inl h⟩
theorem Ext.trans (x : Ext H H1 μ μ1) (y : Ext H1 H2 μ1 μ2) : Ext H H2 μ μ2 where
  pre n a h := y.pre n a (x.pre n a h)
  tup a xs h := y.tup a xs (x.tup a xs h)
  frz a o u h := y.frz a o u (x.frz a o u h)
  fra a o h hm hn := y.fra a o (x.fra a o h hm hn) (fun z => by
    rcases x.new a z with q | q
    · exact hm q
    · obtain ⟨ps, e⟩ := q o h
      exact hn ps e) hn
  new a h := by
    rcases y.new a h with q | q
    · exact x.new a q
    · by_cases hm : a ∈ μ
      · exact .inl hm
      · right
        intro o e
        by_cases ht : ∃ ps, o = .tbl ps
        · exact ht
        · exact q o (x.fra a o e hm fun ps z => ht ⟨ps, z⟩)
theorem Ext0.sqT (x : Ext0 H H' μ μ') {a : Addr} {xs : List V} (h : SqT K H a xs) : SqT K H' a xs := by
  rcases h with (h | ⟨o, h⟩) | h
  · exact .inl (.inl (x.tup _ _ h))
  · exact .inl (.inr ⟨o, x.frz _ _ _ h⟩)
  · exact .inr h
theorem Ext0.noD (x : Ext0 H H' μ μ') {a : Addr} (h : TD.NoD K H a) : TD.NoD K H' a := by
  rcases h with ⟨o, u, h, d⟩ | h
  · exact .inl ⟨o, u, x.frz _ _ _ h, d⟩
  · exact .inr h
theorem Ext0.tupD (x : Ext0 H H' μ μ') {a : Addr} {ds : List D} {xs : List V} (h : TupD K H a ds xs) : TupD K H' a ds xs := ⟨x.sqT h.sq, fun z => x.noD (h.nd z)⟩
theorem Ext0.fzL (x : Ext0 H H' μ μ') {a : Addr} {xs : List V} (h : FzL K H a xs) : FzL K H' a xs := by
  rcases h with ⟨o, h⟩ | h
  · exact .inl ⟨o, x.frz _ _ _ h⟩
  · exact .inr h
mutual
theorem Rep.mono0 (x : Ext0 H H' μ μ') : ∀ {d : D} {v : V}, Rep K H μ d v → Rep K H' μ' d v
  | .non, _, h => h
  | .bl _, _, h => h
  | .int _, _, h => h
  | .str _, _, h => h
  | .tup ds, _, h => by
    obtain ⟨a, vs, e, s, r⟩ := h
    exact ⟨a, vs, e, x.tupD s, Reps.mono0 x r⟩
  | .fls ds, _, h => by
    obtain ⟨a, vs, e, s, r⟩ := h
    exact ⟨a, vs, e, x.fzL s, Reps.mono0 x r⟩
  | .loc n, _, h => by
    obtain ⟨a, e, q⟩ := h
    exact ⟨a, e, x.pre n a q⟩
  | .adr _, _, h => h
  | .ty _, _, h => h
theorem Reps.mono0 (x : Ext0 H H' μ μ') : ∀ {ds : List D} {vs : List V}, Reps K H μ ds vs → Reps K H' μ' ds vs
  | [], _, h => h
  | d :: ds, _, h => by
    obtain ⟨v, r, e, h1, h2⟩ := h
    exact ⟨v, r, e, Rep.mono0 x h1, Reps.mono0 x h2⟩
end
theorem Rep.mono (x : Ext H H' μ μ') {d : D} {v : V} (h : Rep K H μ d v) : Rep K H' μ' d v := h.mono0 x.toExt0
theorem Reps.mono (x : Ext H H' μ μ') {d : List D} {v : List V} (h : Reps K H μ d v) : Reps K H' μ' d v := h.mono0 x.toExt0
theorem Reps.length : ∀ {ds : List D} {vs : List V}, Reps K H μ ds vs → ds.length = vs.length
  | [], _, h => by subst h; rfl
  | d :: ds, _, h => by
    obtain ⟨v, r, rfl, _, h2⟩ := h
    simp [Reps.length h2]
theorem Reps.get : ∀ {ds : List D} {vs : List V} {i : Nat} {d : D}, Reps K H μ ds vs → ds[i]? = some d → ∃ v, vs[i]? = some v ∧ Rep K H μ d v
  | [], _, i, d, h, e => by simp at e
  | x :: ds, _, 0, d, h, e => by
    obtain ⟨v, r, rfl, h1, _⟩ := h
    simp at e; subst e
    exact ⟨v, rfl, h1⟩
  | x :: ds, _, i + 1, d, h, e => by
    obtain ⟨v, r, rfl, _, h2⟩ := h
    simpa using Reps.get (i := i) h2 (by simpa using e)
theorem Reps.append : ∀ {ds es : List D} {vs us : List V}, Reps K H μ ds vs → Reps K H μ es us → Reps K H μ (ds ++ es) (vs ++ us)
  | [], _, _, _, h, g => by subst h; exact g
  | d :: ds, es, _, us, h, g => by
    obtain ⟨v, r, rfl, h1, h2⟩ := h
    exact ⟨v, r ++ us, rfl, h1, Reps.append h2 g⟩
theorem Reps.one {d : D} {v : V} (h : Rep K H μ d v) : Reps K H μ [d] [v] := ⟨v, [], rfl, h, rfl⟩
theorem Reps.take : ∀ {ds : List D} {vs : List V} (n : Nat), Reps K H μ ds vs → Reps K H μ (ds.take n) (vs.take n)
  | _, _, 0, _ => rfl
  | [], _, n + 1, h => by subst h; rfl
  | d :: ds, _, n + 1, h => by
    obtain ⟨v, r, rfl, h1, h2⟩ := h
    exact ⟨v, r.take n, rfl, h1, Reps.take n h2⟩
theorem Reps.drop : ∀ {ds : List D} {vs : List V} (n : Nat), Reps K H μ ds vs → Reps K H μ (ds.drop n) (vs.drop n)
  | _, _, 0, h => h
  | [], _, n + 1, h => by subst h; rfl
  | d :: ds, _, n + 1, h => by
    obtain ⟨v, r, rfl, h1, h2⟩ := h
    exact Reps.drop n h2
theorem Reps.set : ∀ {ds : List D} {vs : List V} (n : Nat) {d : D} {v : V}, Reps K H μ ds vs → Rep K H μ d v → Reps K H μ (ds.set n d) (vs.set n v)
  | [], _, n, _, _, h, _ => by subst h; rfl
  | d :: ds, _, 0, e, u, h, g => by
    obtain ⟨v, r, rfl, h1, h2⟩ := h
    exact ⟨u, r, rfl, g, h2⟩
  | d :: ds, _, n + 1, e, u, h, g => by
    obtain ⟨v, r, rfl, h1, h2⟩ := h
    exact ⟨v, r.set n u, rfl, h1, Reps.set n h2 g⟩
theorem Reps.reverse : ∀ {ds : List D} {vs : List V}, Reps K H μ ds vs → Reps K H μ ds.reverse vs.reverse
  | [], _, h => by subst h; rfl
  | d :: ds, _, h => by
    obtain ⟨v, r, rfl, h1, h2⟩ := h
    simp only [List.reverse_cons]
    exact (Reps.reverse h2).append (Reps.one h1)
def OFs (K : PySem.W.Frag) (H : Hp) (μ : List Addr) (fs : List (Str × D)) (gs : List (Str × V)) : Prop := fs.map (·.1) = gs.map (·.1) ∧ Reps K H μ (fs.map (·.2)) (gs.map (·.2))
def OKv (K : PySem.W.Frag) (H : Hp) (μ : List Addr) (fs : List (Key × D)) (gs : List (Key × V)) : Prop := fs.map (·.1) = gs.map (·.1) ∧ Reps K H μ (fs.map (·.2)) (gs.map (·.2))
def ORep (K : PySem.W.Frag) (H : Hp) (μ : List Addr) : Ob → HO → Prop
  | .lst ds, o => ∃ vs, o = .lst vs ∧ Reps K H μ ds vs
  | .ins C fs, o => ∃ dx gs, o = .ins C dx gs ∧ OFs K H μ fs gs
  | .dK kvs, o => ∃ gs, o = .dK gs ∧ OKv K H μ kvs gs
  | .err e C d, o => o = exo e C d
  | .xdt dx fs, o => ∃ gs, o = exd dx gs ∧ OFs K H μ fs gs
  | .dkF od kvs, o => ∃ gs, o = .frz od (.dK gs) ∧ OKv K H μ kvs gs
  | .dN w kvs, o => ∃ (a : Addr) (xs : List (NestedKey × Addr × Value)) (gs : List (NestedKey × V)), o = DN.RawN a (xs.map (DN.entN w)) ∧ DN.NT K H gs xs ∧ (a == sysModules) = false ∧ gs.length ≤ sizeLine ∧ (xs.map (·.1)).Nodup ∧ kvs.map (·.1) = gs.map (·.1) ∧ Reps K H μ (kvs.map (·.2)) (gs.map (·.2))
theorem ORep.mono0 (x : Ext0 H H' μ μ') : ∀ {b : Ob} {o : HO}, ORep K H μ b o → ORep K H' μ' b o
  | .lst ds, _, h => by obtain ⟨vs, e, r⟩ := h; exact ⟨vs, e, r.mono0 x⟩
  | .ins C fs, _, h => by obtain ⟨dx, gs, e, r1, r2⟩ := h; exact ⟨dx, gs, e, r1, r2.mono0 x⟩
  | .dK fs, _, h => by obtain ⟨gs, e, r1, r2⟩ := h; exact ⟨gs, e, r1, r2.mono0 x⟩
  | .err _ _ _, _, h => h
  | .xdt dx fs, _, h => by obtain ⟨gs, e, r1, r2⟩ := h; exact ⟨gs, e, r1, r2.mono0 x⟩
  | .dkF od fs, _, h => by obtain ⟨gs, e, r1, r2⟩ := h; exact ⟨gs, e, r1, r2.mono0 x⟩
  | .dN w fs, _, h => by obtain ⟨a, xs, gs, e, r1, r2, r3, r4, r5, r6⟩ := h; exact ⟨a, xs, gs, e, r1.keeps fun _ _ q => x.sqT q, r2, r3, r4, r5, r6.mono0 x⟩
theorem ORep.mono (x : Ext H H' μ μ') {b : Ob} {o : HO} (h : ORep K H μ b o) : ORep K H' μ' b o := h.mono0 x.toExt0
/-- the tables of code objects that defs with lambdas fill -/
class TabCtx where
  T : List (Addr × Str)
  /-- the dicts of the exceptions that are held, and what stands in them -/
  xs : List (Addr × List (Str × D))
variable [TC : TabCtx]
def ExcAt (K : PySem.W.Frag) (H : Hp) (μ : List Addr) : Prop := ∀ p ∈ TC.xs, p.1 ∉ μ ∧ ∃ gs, H p.1 = some (.xd gs) ∧ OFs K H μ p.2 gs
theorem ExcAt.ext (s : ExcAt K H μ) (x : Ext H H' μ μ') : ExcAt K H' μ' := fun p hp => by
  obtain ⟨hn, gs, e, r1, r2⟩ := s p hp
  refine ⟨fun z => ?_, gs, x.fra _ _ e hn (fun ps z => nomatch z), r1, r2.mono x⟩
  rcases x.new _ z with q | q
  · exact hn q
  · obtain ⟨ps, q⟩ := q _ e
    cases q
theorem ORep.plain : ∀ {b : Ob} {o : HO}, ORep K H μ b o → ∀ ps, o ≠ .tbl ps
  | .lst ds, _, h => by obtain ⟨vs, rfl, r⟩ := h; exact fun _ z => (nomatch z)
  | .ins C fs, _, h => by obtain ⟨dx, gs, rfl, r⟩ := h; exact fun _ z => (nomatch z)
  | .dK fs, _, h => by obtain ⟨gs, rfl, r⟩ := h; exact fun _ z => (nomatch z)
  | .err e C d, o, h => fun ps z => exo_tbl ((show o = exo e C d from h).symm.trans z)
  | .xdt dx fs, _, h => by
    obtain ⟨gs, rfl, r⟩ := h
    intro ps z
    have z' : HO.ext _ = HO.tbl ps := z
    cases z'
  | .dkF od fs, _, h => by obtain ⟨gs, rfl, r⟩ := h; exact fun _ z => (nomatch z)
  | .dN w fs, _, h => by
    obtain ⟨a, xs, gs, rfl, _⟩ := h
    intro ps z
    have z' : HO.ext _ = HO.tbl ps := z
    cases z'
/-- the tables, where a thing that is none of theirs is written -/
theorem tabs_upd {T : List (Addr × Str)} {p : Addr} {u : HO} (h : LamX.Tabs T H) (hp : ∀ o, H p = some o → (∀ ps, o ≠ .tbl ps) ∧ ∀ f, o ≠ .ext f) : LamX.Tabs T (upd H p u) := fun q hq => by
  obtain ⟨ps, h1, h2, h3⟩ := h q hq
  refine ⟨ps, ?_, h2, fun pos cv hc => ?_⟩
  · rw [upd_ne (fun e => by rw [e] at h1; exact (hp _ h1).1 ps rfl)]; exact h1
  · obtain ⟨c, e1, e2⟩ := h3 pos cv hc
    exact ⟨c, e1, by rw [upd_ne (fun e => by rw [e] at e2; exact (hp _ e2).2 _ rfl)]; exact e2⟩
structure SRep (K : PySem.W.Frag) (st : Sto) (μ : List Addr) (H : Hp) : Prop where
  len : st.length = μ.length
  nd : μ.Nodup
  at' : ∀ (n : Nat) (b : Ob), st[n]? = some b → ∃ a o, μ[n]? = some a ∧ H a = some o ∧ ORep K H μ b o
  tab : LamX.Tabs TC.T H
  exc : ExcAt K H μ
theorem SRep.mem {st : Sto} (s : SRep K st μ H) {a : Addr} (h : a ∈ μ) : ∃ (n : Nat) (b : Ob) (o : HO), μ[n]? = some a ∧ st[n]? = some b ∧ H a = some o ∧ ORep K H μ b o := by
  obtain ⟨n, e⟩ := List.mem_iff_getElem?.mp h
  have hn : n < st.length := by
    rw [s.len]
    exact (List.getElem?_eq_some_iff.mp e).1
  obtain ⟨a', o, e', ho, r⟩ := s.at' n _ (List.getElem?_eq_getElem hn)
  rw [e] at e'; cases e'
  exact ⟨n, _, o, e, List.getElem?_eq_getElem hn, ho, r⟩
theorem SRep.not_mem {st : Sto} (s : SRep K st μ H) {a : Addr} (h : H a = none) : a ∉ μ := fun hm => by
  obtain ⟨n, b, o, _, _, ho, _⟩ := s.mem hm
  rw [h] at ho; cases ho
/-- a new thing that the store does not hold (a tuple) -/
theorem Ext.laid {p : Addr} {o : HO} (h : H p = none) : Ext H (upd H p o) μ μ where
  pre _ _ q := q
  tup a xs q := by rw [upd_ne (ne_of_none q h)]; exact q
  frz a ob u q := by rw [upd_ne (ne_of_none q h)]; exact q
  fra a ob q _ _ := by rw [upd_ne (ne_of_none q h)]; exact q
  new a q := .inl q
theorem SRep.ext {st : Sto} (s : SRep K st μ H) (x : Ext H H' μ μ) (k : ∀ a o, a ∈ μ → H a = some o → H' a = some o) (ht : LamX.Tabs TC.T H') : SRep K st μ H' :=
  ⟨s.len, s.nd, fun n b e => by
    obtain ⟨a, o, e1, e2, r⟩ := s.at' n b e
    exact ⟨a, o, e1, k a o (List.mem_of_getElem? e1) e2, r.mono x⟩, ht, s.exc.ext x⟩
theorem SRep.laid {st : Sto} (s : SRep K st μ H) {p : Addr} {o : HO} (h : H p = none) : SRep K st μ (upd H p o) :=
  s.ext (Ext.laid h) (fun a ob _ q => by rw [upd_ne (ne_of_none q h)]; exact q) (tabs_upd s.tab fun o q => by rw [h] at q; cases q)
/-- a new thing that the store holds -/
theorem Ext.push {p : Addr} {o : HO} (h : H p = none) : Ext H (upd H p o) μ (μ ++ [p]) where
  pre n a q := by rw [List.getElem?_append_left (List.getElem?_eq_some_iff.mp q).1]; exact q
  tup a xs q := by rw [upd_ne (ne_of_none q h)]; exact q
  frz a ob u q := by rw [upd_ne (ne_of_none q h)]; exact q
  fra a ob q _ _ := by rw [upd_ne (ne_of_none q h)]; exact q
  new a q := by
    rcases List.mem_append.mp q with q | q
    · exact .inl q
    · rw [List.mem_singleton.mp q]; exact .inr fun o q => by rw [h] at q; cases q
theorem SRep.push {st : Sto} (s : SRep K st μ H) {p : Addr} {o : HO} {b : Ob} (h : H p = none) (r : ORep K (upd H p o) (μ ++ [p]) b o) : SRep K (st ++ [b]) (μ ++ [p]) (upd H p o) := by
  refine ⟨by simp [s.len], ?_, fun n c e => ?_, tabs_upd s.tab (fun o q => by rw [h] at q; cases q), s.exc.ext (Ext.push h)⟩
  · refine List.nodup_append.mpr ⟨s.nd, by simp, fun a ha b hb => ?_⟩
    rw [List.mem_singleton.mp hb]
    intro e
    exact s.not_mem h (e ▸ ha)
  · by_cases hn : n < st.length
    · rw [List.getElem?_append_left hn] at e
      obtain ⟨a, ob, e1, e2, r2⟩ := s.at' n c e
      refine ⟨a, ob, ?_, ?_, r2.mono (Ext.push h)⟩
      · rw [List.getElem?_append_left (List.getElem?_eq_some_iff.mp e1).1]; exact e1
      · rw [upd_ne (ne_of_none e2 h)]; exact e2
    · have hn' : n = st.length := by
        have := (List.getElem?_eq_some_iff.mp e).1
        simp at this
        omega
      subst hn'
      rw [List.getElem?_append_right (Nat.le_refl _)] at e
      simp at e
      subst e
      refine ⟨p, o, ?_, upd_same, r⟩
      rw [s.len, List.getElem?_append_right (Nat.le_refl _)]
      simp
/-- a thing of the store is written -/
theorem SRep.write {st : Sto} (s : SRep K st μ H) {n : Nat} {p : Addr} {o o' : HO} {b : Ob} (hp : μ[n]? = some p) (ho : H p = some o) (r : ORep K H μ b o') (hx : ∀ f, o ≠ .ext f := by intro f z; cases z) (mu : Mut (some o) := by trivial) : Ext H (upd H p o') μ μ ∧ SRep K (st.set n b) μ (upd H p o') := by
  have hm : p ∈ μ := List.mem_of_getElem? hp
  obtain ⟨_, b0, o0, _, _, h0, r0⟩ := s.mem hm
  rw [ho] at h0; cases h0
  have x : Ext H (upd H p o') μ μ := by
    refine ⟨⟨fun _ _ q => q, fun a xs q => ?_, fun a ob u q => ?_⟩, fun a ob q hn _ => ?_, fun _ q => .inl q⟩
    · rw [upd_ne (fun e => by subst e; rw [ho] at q; cases q; exact mu)]; exact q
    · rw [upd_ne (fun e => by subst e; rw [ho] at q; cases q; exact mu)]; exact q
    · rw [upd_ne (fun (e : a = p) => hn (by rw [e]; exact hm))]; exact q
  refine ⟨x, by simp [s.len], s.nd, fun m c e => ?_, tabs_upd s.tab (fun o1 q => by rw [ho] at q; cases q; exact ⟨r0.plain, hx⟩), s.exc.ext x⟩
  by_cases hmn : m = n
  · subst hmn
    have hl : m < st.length := by
      have := (List.getElem?_eq_some_iff.mp hp).1
      rw [s.len]; exact this
    rw [List.getElem?_set_self hl] at e
    cases e
    exact ⟨p, o', hp, upd_same, r.mono x⟩
  · rw [List.getElem?_set_ne (Ne.symm hmn)] at e
    obtain ⟨a, ob, e1, e2, r2⟩ := s.at' m c e
    refine ⟨a, ob, e1, ?_, r2.mono x⟩
    rw [upd_ne (fun e => hmn ?_)]
    · exact e2
    · subst e
      exact nd_ix s.nd e1 hp
end
end DL
namespace DL
open PySem L2 PySem.Spec
open PyProof.Rows hiding St
variable [TC : TabCtx]
/-- an exception: its class, its fields -/
structure DX where
  cls : Value
  fs : List (Str × D)
abbrev DK := D → Sto → Prop
abbrev DZ := DX → Env' → Sto → Prop
abbrev DTE := Env' → Sto → DK → DZ → Prop
abbrev DTT := Env' → Sto → (Bool → Sto → Prop) → DZ → Prop
abbrev DTA := Env' → Sto → (List D → Sto → Prop) → DZ → Prop
structure DEnds where
  nx : Env' → Sto → Prop
  rt : DK
  bk : Env' → Sto → Prop := fun _ _ => False
  ct : Env' → Sto → Prop := fun _ _ => False
  xs : DZ := fun _ _ _ => False
abbrev DTS := DEnds → Env' → Sto → Prop
abbrev DTG := D → Env' → Sto → (Env' → Sto → Prop) → Prop
structure ERep (K : PySem.W.Frag) (H : Hp) (μ : List Addr) (ρ : Env') (σ : St) : Prop where
  len : ρ.length = σ.length
  at' : ∀ (i : Nat) (d : D), ρ[i]? = some (some d) → ∃ v, σ[i]? = some (some v) ∧ Rep K H μ d v
def XRep (K : PySem.W.Frag) (H : Hp) (μ : List Addr) (x : DX) (c : Value) (dx : Option Addr) : Prop :=
  c = x.cls ∧ ((dx = none ∧ x.fs = []) ∨ ∃ d gs, dx = some d ∧ H d = some (.xd gs) ∧ OFs K H μ x.fs gs)
structure Stt (K : PySem.W.Frag) (ρ : Env') (st : Sto) (μ : List Addr) (σ : St) (H : Hp) : Prop where
  e : ERep K H μ ρ σ
  s : SRep K st μ H
section
variable {K : PySem.W.Frag} {H H1 H2 H' : Hp} {μ μ1 μ2 μ' : List Addr} {ρ : Env'} {st st' : Sto} {σ : St}
theorem ERep.mono (x : Ext H H' μ μ') (h : ERep K H μ ρ σ) : ERep K H' μ' ρ σ := ⟨h.len, fun i d e => by
  obtain ⟨v, e1, r⟩ := h.at' i d e
  exact ⟨v, e1, r.mono x⟩⟩
theorem ERep.set (h : ERep K H μ ρ σ) (i : Nat) {d : D} {v : V} (r : Rep K H μ d v) : ERep K H μ (ρ.set i (some d)) (σ.set i (some v)) := ⟨by simp [h.len], fun j e q => by
  by_cases hj : j = i
  · subst hj
    have hl : j < ρ.length := by
      have := (List.getElem?_eq_some_iff.mp q).1
      simpa using this
    rw [List.getElem?_set_self hl] at q
    cases q
    exact ⟨v, by rw [List.getElem?_set_self (by rw [← h.len]; exact hl)], r⟩
  · rw [List.getElem?_set_ne (Ne.symm hj)] at q
    obtain ⟨u, e1, r1⟩ := h.at' j e q
    exact ⟨u, by rw [List.getElem?_set_ne (Ne.symm hj)]; exact e1, r1⟩⟩
theorem ERep.unset (h : ERep K H μ ρ σ) (i : Nat) : ERep K H μ (ρ.set i none) (σ.set i none) := ⟨by simp [h.len], fun j e q => by
  by_cases hj : j = i
  · subst hj
    have hl : j < ρ.length := by
      have := (List.getElem?_eq_some_iff.mp q).1
      simpa using this
    rw [List.getElem?_set_self hl] at q
    cases q
  · rw [List.getElem?_set_ne (Ne.symm hj)] at q
    obtain ⟨u, e1, r1⟩ := h.at' j e q
    exact ⟨u, by rw [List.getElem?_set_ne (Ne.symm hj)]; exact e1, r1⟩⟩
def wipeD (ρ : Env') : List Nat → Env'
  | [] => ρ
  | v :: vs => (wipeD ρ vs).set v none
theorem ERep.wipe (h : ERep K H μ ρ σ) : ∀ vs : List Nat, ERep K H μ (wipeD ρ vs) (wipe σ vs)
  | [] => h
  | v :: vs => (ERep.wipe h vs).unset v
theorem Stt.mono (x : Ext H H' μ μ') (h : Stt K ρ st μ σ H) (s' : SRep K st' μ' H') : Stt K ρ st' μ' σ H' := ⟨h.e.mono x, s'⟩
/-- the wish about exceptions is served -/
def ZOk (K : PySem.W.Frag) (W : WX) (Z : DZ) (H : Hp) (μ : List Addr) : Prop :=
  ∀ x ρ' st' σ' H' μ' c dx, Z x ρ' st' → Ext H H' μ μ' → Stt K ρ' st' μ' σ' H' → XRep K H' μ' x c dx → W c dx σ' H'
theorem ZOk.mono {W : WX} {Z : DZ} (z : ZOk K W Z H μ) (x : Ext H H' μ μ') : ZOk K W Z H' μ' := fun _ _ _ _ _ _ _ _ h e => z _ _ _ _ _ _ _ _ h (x.trans e)
def EOk (K : PySem.W.Frag) (Qd : DK) (Q : VK) (H : Hp) (μ : List Addr) : Prop :=
  ∀ d st' H' μ' v, Qd d st' → Ext H H' μ μ' → SRep K st' μ' H' → Rep K H' μ' d v → Q v H'
theorem EOk.mono {Qd : DK} {Q : VK} (z : EOk K Qd Q H μ) (x : Ext H H' μ μ') : EOk K Qd Q H' μ' := fun _ _ _ _ _ h e => z _ _ _ _ _ h (x.trans e)
def TOk (K : PySem.W.Frag) (Qd : Bool → Sto → Prop) (Q : Bool → Hp → Prop) (H : Hp) (μ : List Addr) : Prop :=
  ∀ b st' H' μ', Qd b st' → Ext H H' μ μ' → SRep K st' μ' H' → Q b H'
theorem TOk.mono {Qd : Bool → Sto → Prop} {Q : Bool → Hp → Prop} (z : TOk K Qd Q H μ) (x : Ext H H' μ μ') : TOk K Qd Q H' μ' := fun _ _ _ _ h e => z _ _ _ _ h (x.trans e)
def AOk (K : PySem.W.Frag) (Qd : List D → Sto → Prop) (Q : List V → Hp → Prop) (H : Hp) (μ : List Addr) : Prop :=
  ∀ ds st' H' μ' vs, Qd ds st' → Ext H H' μ μ' → SRep K st' μ' H' → Reps K H' μ' ds vs → Q vs H'
def NOk (K : PySem.W.Frag) (Qd : Env' → Sto → Prop) (Q : St → Hp → Prop) (H : Hp) (μ : List Addr) : Prop :=
  ∀ ρ' st' σ' H' μ', Qd ρ' st' → Ext H H' μ μ' → Stt K ρ' st' μ' σ' H' → Q σ' H'
theorem NOk.mono {Qd : Env' → Sto → Prop} {Q : St → Hp → Prop} (z : NOk K Qd Q H μ) (x : Ext H H' μ μ') : NOk K Qd Q H' μ' := fun _ _ _ _ _ h e => z _ _ _ _ _ h (x.trans e)
structure SOk (K : PySem.W.Frag) (W : WX) (DD : DEnds) (D : Ends) (H : Hp) (μ : List Addr) : Prop where
  nx : NOk K DD.nx D.nx H μ
  rt : EOk K DD.rt D.rt H μ
  bk : NOk K DD.bk D.bk H μ
  ct : NOk K DD.ct D.ct H μ
  xs : ZOk K W DD.xs H μ
theorem SOk.mono {W : WX} {DD : DEnds} {D : Ends} (z : SOk K W DD D H μ) (x : Ext H H' μ μ') : SOk K W DD D H' μ' := ⟨z.nx.mono x, z.rt.mono x, z.bk.mono x, z.ct.mono x, z.xs.mono x⟩
def liftE (K : PySem.W.Frag) (W : WX) (t : DTE) : TE := fun σ H Q => ∃ ρ st μ Qd Z, Stt K ρ st μ σ H ∧ t ρ st Qd Z ∧ EOk K Qd Q H μ ∧ ZOk K W Z H μ
def liftT (K : PySem.W.Frag) (W : WX) (t : DTT) : TT := fun σ H Q => ∃ ρ st μ Qd Z, Stt K ρ st μ σ H ∧ t ρ st Qd Z ∧ TOk K Qd Q H μ ∧ ZOk K W Z H μ
def liftA (K : PySem.W.Frag) (W : WX) (t : DTA) : TA := fun σ H Q => ∃ ρ st μ Qd Z, Stt K ρ st μ σ H ∧ t ρ st Qd Z ∧ AOk K Qd Q H μ ∧ ZOk K W Z H μ
def liftS (K : PySem.W.Frag) (W : WX) (t : DTS) : TS := fun D σ H => ∃ ρ st μ DD, Stt K ρ st μ σ H ∧ t DD ρ st ∧ SOk K W DD D H μ
/-- a target; ws: the slots that it may store -/
def liftG (K : PySem.W.Frag) (ws : List Nat) (t : DTG) : TG := fun v σ H Q => ∃ d ρ st μ Qd, Stt K ρ st μ σ H ∧ Rep K H μ d v ∧ t d ρ st Qd ∧
  ∀ ρ' st' σ' H' μ', Qd ρ' st' → Ext H H' μ μ' → Stt K ρ' st' μ' σ' H' → (∀ vs, (∀ w ∈ ws, w ∈ vs) → wipe σ' vs = wipe σ vs) → Q σ' H'
end
abbrev DE (X : Cx) (W : WX) (e : Expr) (t : DTE) : Prop := PE X e (liftE X.K W t)
abbrev DT (X : Cx) (W : WX) (e : Expr) (t : DTT) : Prop := PT X e (liftT X.K W t)
abbrev DW (X : Cx) (W : WX) (e : Expr) (t : DTT) : Prop := PW X e (liftT X.K W t)
abbrev DA (X : Cx) (W : WX) (es : List Expr) (t : DTA) : Prop := PA X es (liftA X.K W t)
abbrev DS (X : Cx) (W : WX) (s : Stmt) (t : DTS) : Prop := PS X s (liftS X.K W t)
abbrev DSs (X : Cx) (W : WX) (s : List Stmt) (t : DTS) : Prop := PSs X s (liftS X.K W t)
abbrev DG (X : Cx) (ws : List Nat) (e : Expr) (t : DTG) : Prop := PG X e (liftG X.K ws t)
section
variable {X : Cx} {W : WX}
theorem pe_weak {e : Expr} {t u : TE} (h : PE X e t) (w : ∀ σ H Q, u σ H Q → t σ H Q) : PE X e u := ⟨fun pins s σ H Q I q => h.run pins s σ H Q I (w σ H Q q)⟩
theorem pt_weak {e : Expr} {t u : TT} (h : PT X e t) (w : ∀ σ H Q, u σ H Q → t σ H Q) : PT X e u := ⟨fun pins s σ H Q I q => h.run pins s σ H Q I (w σ H Q q)⟩
theorem pw_weak {e : Expr} {t u : TT} (h : PW X e t) (w : ∀ σ H Q, u σ H Q → t σ H Q) : PW X e u := ⟨fun wh pins s σ H Q I q => h.run wh pins s σ H Q I (w σ H Q q)⟩
theorem pa_weak {e : List Expr} {t u : TA} (h : PA X e t) (w : ∀ σ H Q, u σ H Q → t σ H Q) : PA X e u := ⟨fun pos pins s σ H Q I q => h.run pos pins s σ H Q I (w σ H Q q)⟩
theorem ps_weak {e : Stmt} {t u : TS} (h : PS X e t) (w : ∀ D σ H, u D σ H → t D σ H) : PS X e u := ⟨fun pins s σ H D I q => h.run pins s σ H D I (w D σ H q)⟩
theorem pss_weak {e : List Stmt} {t u : TS} (h : PSs X e t) (w : ∀ D σ H, u D σ H → t D σ H) : PSs X e u := ⟨fun pins s σ H D I q => h.run pins s σ H D I (w D σ H q)⟩
theorem pg_weak {e : Expr} {t u : TG} (h : PG X e t) (w : ∀ v σ H Q, u v σ H Q → t v σ H Q) : PG X e u := ⟨fun pins s σ H v u Q I r q => h.run pins s σ H v u Q I r (w v σ H Q q)⟩
def dVar (i : Nat) : DTE := fun ρ st Q _ => match ρ[i]? with | some (some d) => Q d st | _ => False
def dC (d : D) : DTE := fun _ st Q _ => Q d st
theorem de_var {i : Nat} {x : Str} {pos : Pos} (h : PE X (.Name x pos) (tVar i)) : DE X W (.Name x pos) (dVar i) := pe_weak h fun σ H Q ⟨ρ, st, μ, Qd, Z, hS, ht, hQ, _⟩ => by
  unfold dVar at ht
  split at ht
  · rename_i d e
    obtain ⟨v, e1, r⟩ := hS.e.at' i d e
    exact ⟨v, e1, hQ d st H μ v ht (Ext.refl _ _) hS.s r⟩
  · exact ht.elim
theorem dv (i : Nat) {x : Str} {pos : Pos} (hN : X.N[i]? = some x := by rfl) (hv : Vis X.env.scope x := by first | exact Or.inl rfl | exact Or.inr (Or.inl rfl) | exact Or.inr (Or.inr rfl)) (hd : (x == ("__debug__" : Str)) = false := by decide)
    (hcd : (x == ("__classdict__" : Str)) = false := by decide) : DE X W (.Name x pos) (dVar i) := de_var (pe_var hN hv hd hcd)
theorem de_c {e : Expr} {d : D} {v : V} (h : PE X e (tC v)) (r : ∀ H μ, Rep X.K H μ d v) : DE X W e (dC d) := pe_weak h fun σ H Q ⟨ρ, st, μ, Qd, Z, hS, ht, hQ, _⟩ => hQ d st H μ v ht (Ext.refl _ _) hS.s (r H μ)
theorem de_int {i : Int} {j : Nat} {pos : Pos} : DE X W (.Constant (.int i) j pos) (dC (.int i)) := de_c pe_int fun _ _ => rfl
theorem de_bl {i : Bool} {j : Nat} {pos : Pos} : DE X W (.Constant (.bool i) j pos) (dC (.bl i)) := de_c pe_bl fun _ _ => rfl
theorem de_non {j : Nat} {pos : Pos} : DE X W (.Constant .none j pos) (dC .non) := de_c pe_non fun _ _ => rfl
theorem de_str {x : Str} {j : Nat} {pos : Pos} : DE X W (.Constant (.str x) j pos) (dC (.str x)) := de_c pe_str fun _ _ => rfl
abbrev D2 := D → D → Sto → DK → Prop
def DOp (K : PySem.W.Frag) (r : R2) (dr : D2) : Prop :=
  ∀ {H : Hp} {μ : List Addr} {st : Sto} {x y : D} {v u : V} {Qd : DK} {Q : VK}, SRep K st μ H → Rep K H μ x v → Rep K H μ y u → dr x y st Qd → EOk K Qd Q H μ → r v u H Q
def dOp (dr : D2) (ta tb : DTE) : DTE := fun ρ st Q Z => ta ρ st (fun x st1 => tb ρ st1 (fun y st2 => dr x y st2 Q) Z) Z
/-- two in a row, by values -/
theorem lift2 {K : PySem.W.Frag} {r : R2} {dr : D2} {ta tb : DTE} (hr : DOp K r dr) (σ : St) (H : Hp) (Q : VK) (h : liftE K W (dOp dr ta tb) σ H Q) : tOp r (liftE K W ta) (liftE K W tb) σ H Q := by
  obtain ⟨ρ, st, μ, Qd, Z, hS, ht, hQ, hZ⟩ := h
  refine ⟨ρ, st, μ, _, Z, hS, ht, fun x st1 H1 μ1 v hx e1 s1 rv => ?_, hZ⟩
  refine ⟨ρ, st1, μ1, _, Z, hS.mono e1 s1, hx, fun y st2 H2 μ2 u hy e2 s2 ru => ?_, hZ.mono e1⟩
  exact hr s2 (rv.mono e2) ru hy (hQ.mono (e1.trans e2))
variable {a b c : Expr} {ta tb tc : DTE} {pos : Pos}
theorem de_op {op : Operator} {r : R2} {dr : D2} (ho : OpR X (binaryOp op) r) (hr : DOp X.K r dr) (ha : DE X W a ta) (hb : DE X W b tb) : DE X W (.BinOp a op b pos) (dOp dr ta tb) := pe_weak (pe_op ho ha hb) fun σ H Q h => lift2 hr σ H Q h
theorem de_cmp {op : CmpOp} {r : R2} {dr : D2} (ho : OpR X (compareOp op) r) (hr : DOp X.K r dr) (hm : behindInMarks op b = false) (ha : DE X W a ta) (hb : DE X W b tb) : DE X W (.Compare a [op] [b] pos) (dOp dr ta tb) := pe_weak (pe_cmpR ho ha hb hm) fun σ H Q h => lift2 hr σ H Q h
/-- a value as a test: it is a bool -/
def dTest (t : DTE) : DTT := fun ρ st Q Z => t ρ st (fun x st1 => match x with | .bl b => Q b st1 | _ => False) Z
theorem dt_cmp {op : CmpOp} {r : R2} {dr : D2} (ho : OpR X (compareOp op) r) (hr : DOp X.K r dr) (hm : behindInMarks op b = false) (ha : DE X W a ta) (hb : DE X W b tb) : DT X W (.Compare a [op] [b] pos) (dTest (dOp dr ta tb)) := pt_weak (pt_cmpR ho ha hb hm) fun σ H Q h => by
  obtain ⟨ρ, st, μ, Qd, Z, hS, ht, hQ, hZ⟩ := h
  refine lift2 (dr := dr) hr σ H _ ⟨ρ, st, μ, _, Z, hS, ht, fun x st1 H1 μ1 v hx e1 s1 rv => ?_, hZ⟩
  cases x with
  | bl b => exact ⟨b, rv, hQ b st1 H1 μ1 hx e1 s1⟩
  | _ => exact hx.elim
/-- a op b op' c -/
def dChain (r r' : D2) (ta tb tc : DTE) : DTE := fun ρ st Q Z => ta ρ st (fun x st1 => tb ρ st1 (fun y st2 => r x y st2 fun z st3 => match z with
  | .bl k => if k = true then tc ρ st3 (fun w st4 => r' y w st4 Q) Z else Q (.bl false) st3
  | _ => False) Z) Z
def dUn (f : D → Sto → DK → Prop) (ta : DTE) : DTE := fun ρ st Q Z => ta ρ st (fun x st1 => f x st1 Q) Z
theorem de_un {op : UnaryOp} {r : V → Hp → VK → Prop} {dr : D → Sto → DK → Prop} (ho : UnR X (unaryOp op) r) (hr : ∀ {H : Hp} {μ : List Addr} {st : Sto} {x : D} {v : V} {Qd : DK} {Q : VK}, SRep X.K st μ H → Rep X.K H μ x v → dr x st Qd → EOk X.K Qd Q H μ → r v H Q)
    (ha : DE X W a ta) : DE X W (.UnaryOp op a pos) (dUn dr ta) := pe_weak (pe_un ho ha) fun σ H Q ⟨ρ, st, μ, Qd, Z, hS, ht, hQ, hZ⟩ =>
  ⟨ρ, st, μ, _, Z, hS, ht, fun x st1 H1 μ1 v hx e1 s1 rv => hr s1 rv hx (hQ.mono e1), hZ⟩
/-- a value's truth -/
def truD (st : Sto) : D → (Bool → Prop) → Prop
  | .non, Q => Q false
  | .bl b, Q => Q b
  | .int i, Q => Q (i != 0)
  | .str y, Q => y.length ≤ sizeLine ∧ Q ((y.length : Int) != 0)
  | .tup ds, Q => Q (!ds.isEmpty)
  | .fls ds, Q => Q (!ds.isEmpty)
  | .loc n, Q => match st[n]? with
    | some (.lst ds) => Q (!ds.isEmpty)
    | some (.dK kvs) => Q (!kvs.isEmpty)
    | _ => False
  | _, _ => False
theorem Reps.isEmpty {K : PySem.W.Frag} {H : Hp} {μ : List Addr} {ds : List D} {vs : List V} (h : Reps K H μ ds vs) : ds.isEmpty = vs.isEmpty := by
  have := h.length
  cases ds <;> cases vs <;> simp_all
theorem truD_ok {K : PySem.W.Frag} {H : Hp} {μ : List Addr} {st : Sto} {d : D} {v : V} {Q : Bool → Prop} (s : SRep K st μ H) (r : Rep K H μ d v) (h : truD st d Q) : ∃ k, TruV K v H k ∧ Q k := by
  cases d with
  | non => rw [show v = _ from r]; exact ⟨false, rfl, h⟩
  | bl b => rw [show v = _ from r]; exact ⟨b, rfl, h⟩
  | int i => rw [show v = _ from r]; exact ⟨i != 0, rfl, h⟩
  | str y => rw [show v = _ from r]; exact ⟨_, ⟨h.1, rfl⟩, h.2⟩
  | tup ds =>
    obtain ⟨a, vs, rfl, hs, hr⟩ := r
    exact ⟨_, .inr (.inl ⟨vs, hs, rfl⟩), by rw [← hr.isEmpty]; exact h⟩
  | fls ds =>
    obtain ⟨a, vs, rfl, hs, hr⟩ := r
    exact ⟨_, .inl ⟨vs, hs.sq, rfl⟩, by rw [← hr.isEmpty]; exact h⟩
  | loc n =>
    obtain ⟨a, rfl, hn⟩ := r
    simp only [truD] at h
    split at h
    · rename_i ds e
      obtain ⟨a', o, e1, e2, vs, rfl, hr⟩ := s.at' _ _ e
      rw [hn] at e1; cases e1
      exact ⟨_, .inl ⟨vs, .inl (.inl e2), rfl⟩, by rw [← hr.isEmpty]; exact h⟩
    · rename_i kvs e
      obtain ⟨a', o, e1, e2, gs, rfl, hk, hr⟩ := s.at' _ _ e
      rw [hn] at e1; cases e1
      refine ⟨_, .inr (.inr ⟨gs, e2, rfl⟩), ?_⟩
      have := congrArg List.length hk
      simp at this
      have e : kvs.isEmpty = gs.isEmpty := by
        cases kvs <;> cases gs <;> simp_all
      rw [← e]; exact h
    · exact h.elim
  | _ => exact (show False from h).elim
/-- a value as a test, by its truth -/
def dTru (t : DTE) : DTT := fun ρ st Q Z => t ρ st (fun x st1 => truD st1 x fun b => Q b st1) Z
theorem dt_tru (ha : DE X W a ta) (he : ∀ whole, isTrue a X.env whole = (do let v ← whole; standAt a.pos; holding [v] (truthy v)) := by intro _; rfl) : DT X W a (dTru ta) := pt_weak (pt_truth ha he) fun σ H Q ⟨ρ, st, μ, Qd, Z, hS, ht, hQ, hZ⟩ =>
  ⟨ρ, st, μ, _, Z, hS, ht, fun x st1 H1 μ1 v hx e1 s1 rv => by
    obtain ⟨k, hk, q⟩ := truD_ok s1 rv hx
    exact ⟨k, hk, hQ k st1 H1 μ1 q e1 s1⟩, hZ⟩
def dNot (t : DTT) : DTT := fun ρ st Q Z => t ρ st (fun b st1 => Q (!b) st1) Z
def dAnd (t u : DTT) : DTT := fun ρ st Q Z => t ρ st (fun b st1 => if b = true then u ρ st1 Q Z else Q false st1) Z
def dOr (t u : DTT) : DTT := fun ρ st Q Z => t ρ st (fun b st1 => if b = true then Q true st1 else u ρ st1 Q Z) Z
variable {t u : DTT} {rest : List Expr}
theorem dt_not (ha : DT X W a t) : DT X W (.UnaryOp .Not a pos) (dNot t) := pt_weak (pt_not ha) fun σ H Q ⟨ρ, st, μ, Qd, Z, hS, ht, hQ, hZ⟩ =>
  ⟨ρ, st, μ, _, Z, hS, ht, fun b st1 H1 μ1 hx e1 s1 => hQ _ _ _ _ hx e1 s1, hZ⟩
theorem dw_and1 (ha : DT X W a t) : DW X W (.BoolOp .And [a] pos) t := pw_and1 ha
theorem dw_or1 (ha : DT X W a t) : DW X W (.BoolOp .Or [a] pos) t := pw_or1 ha
theorem dw_and (ha : DT X W a t) (hb : DW X W (.BoolOp .And (b :: rest) pos) u) : DW X W (.BoolOp .And (a :: b :: rest) pos) (dAnd t u) := pw_weak (pw_and ha hb) fun σ H Q ⟨ρ, st, μ, Qd, Z, hS, ht, hQ, hZ⟩ =>
  ⟨ρ, st, μ, _, Z, hS, ht, fun k st1 H1 μ1 hx e1 s1 => by
    cases k with
    | true =>
      refine iteT ?_
      exact ⟨ρ, st1, μ1, Qd, Z, hS.mono e1 s1, hx, hQ.mono e1, hZ.mono e1⟩
    | false =>
      refine iteF ?_
      exact hQ _ _ _ _ hx e1 s1, hZ⟩
theorem dw_or (ha : DT X W a t) (hb : DW X W (.BoolOp .Or (b :: rest) pos) u) : DW X W (.BoolOp .Or (a :: b :: rest) pos) (dOr t u) := pw_weak (pw_or ha hb) fun σ H Q ⟨ρ, st, μ, Qd, Z, hS, ht, hQ, hZ⟩ =>
  ⟨ρ, st, μ, _, Z, hS, ht, fun k st1 H1 μ1 hx e1 s1 => by
    cases k with
    | true =>
      refine iteT ?_
      exact hQ _ _ _ _ hx e1 s1
    | false =>
      refine iteF ?_
      exact ⟨ρ, st1, μ1, Qd, Z, hS.mono e1 s1, hx, hQ.mono e1, hZ.mono e1⟩, hZ⟩
theorem dw_pt {e : Expr} (h : DW X W e t) : DT X W e t := h.pt
/-- a if t else b -/
def dIf (t : DTT) (ta tb : DTE) : DTE := fun ρ st Q Z => t ρ st (fun k st1 => if k = true then ta ρ st1 Q Z else tb ρ st1 Q Z) Z
theorem de_if (hc : DT X W c t) (ha : DE X W a ta) (hb : DE X W b tb) : DE X W (.IfExp c a b pos) (dIf t ta tb) := pe_weak (pe_ifExp hc ha hb) fun σ H Q ⟨ρ, st, μ, Qd, Z, hS, ht, hQ, hZ⟩ =>
  ⟨ρ, st, μ, _, Z, hS, ht, fun k st1 H1 μ1 hx e1 s1 => by
    cases k with
    | true =>
      refine iteT ?_
      exact ⟨ρ, st1, μ1, Qd, Z, hS.mono e1 s1, hx, hQ.mono e1, hZ.mono e1⟩
    | false =>
      refine iteF ?_
      exact ⟨ρ, st1, μ1, Qd, Z, hS.mono e1 s1, hx, hQ.mono e1, hZ.mono e1⟩, hZ⟩
end
end DL
namespace DL
open PySem L2 PySem.Spec
open PyProof.Rows hiding St
variable [TC : TabCtx]
section
variable {X : Cx} {W : WX} {a b c e : Expr} {ta tb tc te : DTE} {pos : Pos} {es rest : List Expr} {t : DTA}
def dAndV (ta tb : DTE) : DTE := fun ρ st Q Z => ta ρ st (fun x st1 => truD st1 x fun k => if k = true then tb ρ st1 Q Z else Q x st1) Z
def dOrV (ta tb : DTE) : DTE := fun ρ st Q Z => ta ρ st (fun x st1 => truD st1 x fun k => if k = true then Q x st1 else tb ρ st1 Q Z) Z
def dNotV (ta : DTE) : DTE := fun ρ st Q Z => ta ρ st (fun x st1 => truD st1 x fun k => Q (.bl (!k)) st1) Z
theorem de_one (ha : DE X W a ta) {op : BoolOp} : DE X W (.BoolOp op [a] pos) ta := pe_one ha
theorem de_and (ha : DE X W a ta) (hb : DE X W (.BoolOp .And (b :: rest) pos) tb) : DE X W (.BoolOp .And (a :: b :: rest) pos) (dAndV ta tb) := pe_weak (pe_andT ha hb) fun σ H Q ⟨ρ, st, μ, Qd, Z, hS, ht, hQ, hZ⟩ =>
  ⟨ρ, st, μ, _, Z, hS, ht, fun x st1 H1 μ1 v hx e1 s1 rv => by
    obtain ⟨k, hk, q⟩ := truD_ok s1 rv hx
    refine ⟨k, hk, ?_⟩
    cases k with
    | true => exact iteT ⟨ρ, st1, μ1, Qd, Z, hS.mono e1 s1, q, hQ.mono e1, hZ.mono e1⟩
    | false => exact iteF (hQ _ _ _ _ _ q e1 s1 rv), hZ⟩
theorem de_or (ha : DE X W a ta) (hb : DE X W (.BoolOp .Or (b :: rest) pos) tb) : DE X W (.BoolOp .Or (a :: b :: rest) pos) (dOrV ta tb) := pe_weak (pe_orT ha hb) fun σ H Q ⟨ρ, st, μ, Qd, Z, hS, ht, hQ, hZ⟩ =>
  ⟨ρ, st, μ, _, Z, hS, ht, fun x st1 H1 μ1 v hx e1 s1 rv => by
    obtain ⟨k, hk, q⟩ := truD_ok s1 rv hx
    refine ⟨k, hk, ?_⟩
    cases k with
    | true => exact iteT (hQ _ _ _ _ _ q e1 s1 rv)
    | false => exact iteF ⟨ρ, st1, μ1, Qd, Z, hS.mono e1 s1, q, hQ.mono e1, hZ.mono e1⟩, hZ⟩
def dNil : DTA := fun _ st Q _ => Q [] st
def dCons (ta : DTE) (tr : DTA) : DTA := fun ρ st Q Z => ta ρ st (fun x st1 => tr ρ st1 (fun xs st2 => Q (x :: xs) st2) Z) Z
theorem da_nil : DA X W [] dNil := pa_weak pa_nil fun σ H Q ⟨ρ, st, μ, Qd, Z, hS, ht, hQ, hZ⟩ => hQ [] st H μ [] ht (Ext.refl _ _) hS.s rfl
theorem da_cons (ha : DE X W a ta) (hr : DA X W es t) (hs : starEach (a :: es) X.env = (false, eval a X.env) :: starEach es X.env := by rfl) : DA X W (a :: es) (dCons ta t) :=
  pa_weak (pa_cons ha hr hs) fun σ H Q ⟨ρ, st, μ, Qd, Z, hS, ht, hQ, hZ⟩ => ⟨ρ, st, μ, _, Z, hS, ht, fun x st1 H1 μ1 v hx e1 s1 rv =>
    ⟨ρ, st1, μ1, _, Z, hS.mono e1 s1, hx, fun xs st2 H2 μ2 vs hxs e2 s2 rvs => hQ _ _ _ _ _ hxs (e1.trans e2) s2 ⟨v, vs, rfl, rv.mono e2, rvs⟩, hZ.mono e1⟩, hZ⟩
def dTup (t : DTA) : DTE := fun ρ st Q Z => t ρ st (fun xs st1 => xs.length ≤ sizeLine ∧ Q (.tup xs) st1) Z
def dLst (t : DTA) : DTE := fun ρ st Q Z => t ρ st (fun xs st1 => xs.length ≤ sizeLine ∧ Q (.loc st1.length) (st1 ++ [.lst xs])) Z
/-- a new tuple's address -/
theorem EOk.tup {K : PySem.W.Frag} {Qd : DK} {Q : VK} {H H1 : Hp} {μ μ1 : List Addr} {ds : List D} {vs : List V} {st1 : Sto} (hQ : EOk K Qd Q H μ) (e1 : Ext H H1 μ μ1) (s1 : SRep K st1 μ1 H1) (r : Reps K H1 μ1 ds vs) (q : Qd (.tup ds) st1) (hn : pairsD ds = false) {p : Addr} (hp : H1 p = none) :
    Q (.ref p) (upd H1 p (.tup vs)) :=
  hQ _ _ _ _ _ q (e1.trans (Ext.laid hp)) (s1.laid hp) ⟨p, vs, rfl, ⟨.inl (.inl upd_same), fun z => by rw [hn] at z; cases z⟩, r.mono (Ext.laid hp)⟩
/-- a new tuple's address, its object told -/
theorem EOk.tupF {K : PySem.W.Frag} {Qd : DK} {Q : VK} {H H1 : Hp} {μ μ1 : List Addr} {ds : List D} {vs : List V} {st1 : Sto} (hQ : EOk K Qd Q H μ) (e1 : Ext H H1 μ μ1) (s1 : SRep K st1 μ1 H1) (r : Reps K H1 μ1 ds vs) (q : Qd (.tup ds) st1) : TD.NewT H1 vs Q := fun p o hp ho =>
  hQ _ _ _ _ _ q (e1.trans (Ext.laid hp)) (s1.laid hp) ⟨p, vs, rfl, ⟨.inl (.inr ⟨o, upd_same⟩), fun _ => .inl ⟨o, _, upd_same, ho⟩⟩, r.mono (Ext.laid hp)⟩
theorem getElem?_end {α : Type} (l : List α) (x : α) : (l ++ [x])[l.length]? = some x := by simp
/-- a new list's address -/
theorem EOk.lst {K : PySem.W.Frag} {Qd : DK} {Q : VK} {H H1 : Hp} {μ μ1 : List Addr} {ds : List D} {vs : List V} {st1 : Sto} (hQ : EOk K Qd Q H μ) (e1 : Ext H H1 μ μ1) (s1 : SRep K st1 μ1 H1) (r : Reps K H1 μ1 ds vs) (q : Qd (.loc st1.length) (st1 ++ [.lst ds])) {p : Addr} (hp : H1 p = none) :
    Q (.ref p) (upd H1 p (.lst vs)) :=
  hQ _ _ _ _ _ q (e1.trans (Ext.push hp)) (s1.push hp ⟨vs, rfl, r.mono (Ext.push hp)⟩) ⟨p, rfl, by rw [s1.len]; exact getElem?_end _ _⟩
theorem de_tup {x1 : Nat} (h : DA X W es t) : DE X W (.Tuple es x1 pos) (dTup t) := pe_weak (TD.pe_tupF h) fun σ H Q ⟨ρ, st, μ, Qd, Z, hS, ht, hQ, hZ⟩ =>
  ⟨ρ, st, μ, _, Z, hS, ht, fun xs st1 H1 μ1 vs hx e1 s1 rv => ⟨by rw [← rv.length]; exact hx.1, hQ.tupF e1 s1 rv hx.2⟩, hZ⟩
theorem de_lst (h : DA X W es t) : DE X W (.List es pos) (dLst t) := pe_weak (pe_lst h) fun σ H Q ⟨ρ, st, μ, Qd, Z, hS, ht, hQ, hZ⟩ =>
  ⟨ρ, st, μ, _, Z, hS, ht, fun xs st1 H1 μ1 vs hx e1 s1 rv => ⟨by rw [← rv.length]; exact hx.1, fun p hp => hQ.lst e1 s1 rv hx.2 hp⟩, hZ⟩
abbrev DN := List D → Sto → DK → Prop
def DCl (K : PySem.W.Frag) (r : List V → Hp → VK → Prop) (dr : DN) : Prop :=
  ∀ {H : Hp} {μ : List Addr} {st : Sto} {ds : List D} {vs : List V} {Qd : DK} {Q : VK}, SRep K st μ H → Reps K H μ ds vs → dr ds st Qd → EOk K Qd Q H μ → r vs H Q
def dCB (dr : DN) (t : DTA) : DTE := fun ρ st Q Z => t ρ st (fun xs st1 => dr xs st1 Q) Z
variable {id T : String} {x : Str} {p : Pos} {r : List V → Hp → VK → Prop} {dr : DN}
theorem de_callB (hc : CallR X (.builtin id) r) (hr : DCl X.K r dr) (hg : Gl X x) (hm : X.mg x = none) (hv : bootBuiltins x = some (.builtin id)) (ha : DA X W (e :: es) t) (hn : x ≠ "__name__" := by decide) (hdb : (x == ("__debug__" : Str)) = false := by decide)
    (he : starEach (e :: es) X.env = (false, eval e X.env) :: starEach es X.env := by rfl) (hpl : (backTo pos (starEach es X.env)).any (·.1) = false := by rfl) : DE X W (.Call (.Name x p) (e :: es) [] pos) (dCB dr t) :=
  pe_weak (pe_callB hc hg hm hv ha hn hdb he hpl) fun σ H Q ⟨ρ, st, μ, Qd, Z, hS, ht, hQ, hZ⟩ => ⟨ρ, st, μ, _, Z, hS, ht, fun xs st1 H1 μ1 vs hx e1 s1 rv => hr s1 rv hx (hQ.mono e1), hZ⟩
theorem de_callTy (hc : CallR X (.type T) r) (hr : DCl X.K r dr) (hg : Gl X x) (hm : X.mg x = none) (hv : bootBuiltins x = some (.type T)) (ha : DA X W (e :: es) t) (hn : x ≠ "__name__" := by decide) (hdb : (x == ("__debug__" : Str)) = false := by decide)
    (he : starEach (e :: es) X.env = (false, eval e X.env) :: starEach es X.env := by rfl) (hpl : (backTo pos (starEach es X.env)).any (·.1) = false := by rfl) : DE X W (.Call (.Name x p) (e :: es) [] pos) (dCB dr t) :=
  pe_weak (pe_callTy hc hg hm hv ha hn hdb he hpl) fun σ H Q ⟨ρ, st, μ, Qd, Z, hS, ht, hQ, hZ⟩ => ⟨ρ, st, μ, _, Z, hS, ht, fun xs st1 H1 μ1 vs hx e1 s1 rv => hr s1 rv hx (hQ.mono e1), hZ⟩
/-- methods of built-in types -/
def tyD (st : Sto) (T : String) : D → Prop
  | .str _ => T = "str"
  | .fls _ => T = "list"
  | .loc n => match st[n]? with
    | some (.lst _) => T = "list"
    | some (.dK _) => T = "dict"
    | _ => False
  | _ => False
theorem tyD_ok {K : PySem.W.Frag} {st : Sto} {μ : List Addr} {H : Hp} {d : D} {v : V} (s : SRep K st μ H) (r : Rep K H μ d v) (h : tyD st T d) : tyV K T v H := by
  cases d with
  | str y => rw [show v = _ from r]; exact h
  | fls ds => obtain ⟨a, vs, rfl, hf, _⟩ := r; exact .inl ⟨h, vs, hf.sq⟩
  | loc n =>
    obtain ⟨a, rfl, hn⟩ := r
    simp only [tyD] at h
    split at h
    · rename_i ds e
      obtain ⟨a', o, e1, e2, vs, rfl, hr⟩ := s.at' _ _ e
      rw [hn] at e1; cases e1
      exact .inl ⟨h, vs, .inl (.inl e2)⟩
    · rename_i kvs e
      obtain ⟨a', o, e1, e2, gs, rfl, hk, hr⟩ := s.at' _ _ e
      rw [hn] at e1; cases e1
      exact .inr (.inr (.inl ⟨h, .inl ⟨gs, e2⟩⟩))
    · exact h.elim
  | _ => exact (show False from h).elim
abbrev DM := D → List D → Sto → DK → Prop
def DMt (K : PySem.W.Frag) (r : V → List V → Hp → VK → Prop) (dr : DM) : Prop :=
  ∀ {H : Hp} {μ : List Addr} {st : Sto} {x : D} {v : V} {ds : List D} {vs : List V} {Qd : DK} {Q : VK}, SRep K st μ H → Rep K H μ x v → Reps K H μ ds vs → dr x ds st Qd → EOk K Qd Q H μ → r v vs H Q
def dBM (T : String) (dr : DM) (to : DTE) (t : DTA) : DTE := fun ρ st Q Z => to ρ st (fun x st1 => tyD st1 T x ∧ t ρ st1 (fun xs st2 => dr x xs st2 Q) Z) Z
variable {o : Expr} {to : DTE} {name : Str} {apos cpos : Pos} {rm : V → List V → Hp → VK → Prop} {dm : DM}
theorem de_bm (pa : PlainAttrs T) (slot : Slot T name id) (hty : typeOf (.builtin id) = pure (.type "method_descriptor")) (hm : MtR X id rm) (hr : DMt X.K rm dm) (ho : DE X W o to) (ha : DA X W (e :: es) t)
    (hbase : attributeBase o name X.env (eval o X.env) = eval o X.env := by rfl)
    (hfew : ((backTo cpos (starEach (e :: es) X.env)).all (fun x => !x.1) && (backToKw cpos (keywordEach [] X.env)).all (fun x => x.1.isSome)
      && decide ((e :: es).length + ([] : List Keyword).length + (if ([] : List Keyword).isEmpty then 0 else 1) < 30)) = true := by rfl)
    (hline : (apos.endLine == cpos.line) = true := by rfl) (hs : starEach (e :: es) X.env = (false, eval e X.env) :: starEach es X.env := by rfl) (hplain : (backTo cpos (starEach es X.env)).any (·.1) = false := by rfl) :
    DE X W (.Call (.Attribute o name apos) (e :: es) [] cpos) (dBM T dm to t) := pe_weak (pe_bm pa slot hty hm ho ha hbase hfew hline hs hplain) fun σ H Q ⟨ρ, st, μ, Qd, Z, hS, ht, hQ, hZ⟩ =>
  ⟨ρ, st, μ, _, Z, hS, ht, fun x st1 H1 μ1 v hx e1 s1 rv => ⟨tyD_ok s1 rv hx.1, ρ, st1, μ1, _, Z, hS.mono e1 s1, hx.2, fun xs st2 H2 μ2 vs hxs e2 s2 rvs => hr s2 (rv.mono e2) rvs hxs (hQ.mono (e1.trans e2)), hZ.mono e1⟩, hZ⟩
def dIx : D2 := fun x y st Q => match y with
  | .int i => match x with
    | .tup ds => ∃ d, atI ds i = some d ∧ Q d st
    | .fls ds => ∃ d, atI ds i = some d ∧ Q d st
    | .loc n => ∃ ds d, st[n]? = some (.lst ds) ∧ atI ds i = some d ∧ Q d st
    | .str z => ∃ c, z.length ≤ sizeLine ∧ atI z.cps.toList i = some c ∧ Q (.str ⟨#[c]⟩) st
    | _ => False
  | _ => False
theorem atI_rep {K : PySem.W.Frag} {H : Hp} {μ : List Addr} {ds : List D} {vs : List V} {i : Int} {d : D} (r : Reps K H μ ds vs) (h : atI ds i = some d) : ∃ v, atI vs i = some v ∧ Rep K H μ d v := by
  unfold atI at h ⊢
  rw [← r.length]
  cases e : ixN ds.length i with
  | none => rw [e] at h; cases h
  | some j =>
    rw [e] at h
    exact r.get h
theorem ix_ok {K : PySem.W.Frag} : DOp K (rIx K) dIx := by
  intro H μ st x y v u Qd Q s rx ry h hQ
  cases y with
  | int i =>
    rw [show u = _ from ry]
    cases x with
    | tup ds =>
      obtain ⟨a, vs, rfl, ht, hr⟩ := rx
      obtain ⟨d, hd, q⟩ := h
      obtain ⟨w, hw, rw'⟩ := atI_rep hr hd
      exact .inr (.inl ⟨a, vs, i, w, rfl, rfl, ht, hw, hQ _ _ _ _ _ q (Ext.refl _ _) s rw'⟩)
    | fls ds =>
      obtain ⟨a, vs, rfl, ht, hr⟩ := rx
      obtain ⟨d, hd, q⟩ := h
      obtain ⟨w, hw, rw'⟩ := atI_rep hr hd
      exact .inl ⟨a, vs, i, w, rfl, rfl, ht.sq, hw, hQ _ _ _ _ _ q (Ext.refl _ _) s rw'⟩
    | loc n =>
      obtain ⟨a, rfl, hn⟩ := rx
      obtain ⟨ds, d, hds, hd, q⟩ := h
      obtain ⟨a', o, e1, e2, vs, rfl, hr⟩ := s.at' _ _ hds
      rw [hn] at e1; cases e1
      obtain ⟨w, hw, rw'⟩ := atI_rep hr hd
      exact .inl ⟨a, vs, i, w, rfl, rfl, .inl (.inl e2), hw, hQ _ _ _ _ _ q (Ext.refl _ _) s rw'⟩
    | str z =>
      rw [show v = _ from rx]
      obtain ⟨c, hz, hc, q⟩ := h
      exact .inr (.inr ⟨z, i, c, rfl, rfl, hz, hc, hQ _ _ _ _ _ q (Ext.refl _ _) s rfl⟩)
    | _ => exact h.elim
  | _ => exact (show False from h).elim
theorem de_ix (ha : DE X W a ta) (hb : DE X W b tb) (hs : PlainIx b := by intro _ _; rfl) : DE X W (.Subscript a b pos) (dOp dIx ta tb) := pe_weak (pe_ix ix_seq ha hb hs) fun σ H Q h => lift2 ix_ok σ H Q h
abbrev DTO := Env' → Sto → (Option Int → Sto → Prop) → DZ → Prop
def liftO (K : PySem.W.Frag) (W : WX) (t : DTO) : TO := fun σ H Q => ∃ ρ st μ Qd Z, Stt K ρ st μ σ H ∧ t ρ st Qd Z ∧ (∀ o st' H' μ', Qd o st' → Ext H H' μ μ' → SRep K st' μ' H' → Q o H') ∧ ZOk K W Z H μ
abbrev DO (X : Cx) (W : WX) (e : Option Expr) (t : DTO) : Prop := PO X e (liftO X.K W t)
theorem po_weak {e : Option Expr} {t u : TO} (h : PO X e t) (w : ∀ σ H Q, u σ H Q → t σ H Q) : PO X e u := ⟨fun pins s σ H Q I q => h.run pins s σ H Q I (w σ H Q q)⟩
def dNoPart : DTO := fun _ st Q _ => Q none st
def dPart (t : DTE) : DTO := fun ρ st Q Z => t ρ st (fun x st1 => match x with | .int i => Q (some i) st1 | _ => False) Z
theorem do_none : DO X W none dNoPart := po_weak po_none fun σ H Q ⟨ρ, st, μ, Qd, Z, hS, ht, hQ, hZ⟩ => hQ none st H μ ht (Ext.refl _ _) hS.s
theorem do_some (ha : DE X W a ta) : DO X W (some a) (dPart ta) := po_weak (po_some ha) fun σ H Q ⟨ρ, st, μ, Qd, Z, hS, ht, hQ, hZ⟩ =>
  ⟨ρ, st, μ, _, Z, hS, ht, fun x st1 H1 μ1 v hx e1 s1 rv => by
    cases x with
    | int i => exact ⟨i, rv, hQ _ _ _ _ hx e1 s1⟩
    | _ => exact hx.elim, hZ⟩
def cutL {α : Type} (xs : List α) (lo hi : Option Int) : List α := (xs.drop (HT.sIx xs.length 0 lo)).take (HT.sIx xs.length xs.length hi - HT.sIx xs.length 0 lo)
theorem cutL_rep {K : PySem.W.Frag} {H : Hp} {μ : List Addr} {ds : List D} {vs : List V} (lo hi : Option Int) (r : Reps K H μ ds vs) : Reps K H μ (cutL ds lo hi) (cutV vs lo hi) := by
  unfold cutL cutV
  rw [← r.length]
  exact (r.drop _).take _
def dSlV : D → Option Int → Option Int → Sto → DK → Prop := fun x lo hi st Q => match x with
  | .tup ds => Q (.tup (cutL ds lo hi)) st
  | .fls ds => Q (.loc st.length) (st ++ [.lst (cutL ds lo hi)])
  | .loc n => ∃ ds, st[n]? = some (.lst ds) ∧ Q (.loc st.length) (st ++ [.lst (cutL ds lo hi)])
  | .str z => z.length ≤ sizeLine ∧ Q (.str (cutS z lo hi)) st
  | _ => False
def dSl (te : DTE) (tl th : DTO) : DTE := fun ρ st Q Z => te ρ st (fun x st1 => tl ρ st1 (fun l st2 => th ρ st2 (fun u st3 => dSlV x l u st3 Q) Z) Z) Z
theorem HT.whole {α : Type} {xs : List α} {lo hi : Option Int} (h : HT.sIx xs.length 0 lo = 0 ∧ HT.sIx xs.length xs.length hi = xs.length) : cutL xs lo hi = xs := by
  unfold cutL
  rw [h.1, h.2]
  simp
theorem de_slice {lo hi : Option Expr} {tl th : DTO} {p2 : Pos} (ha : DE X W a ta) (hl : DO X W lo tl) (hh : DO X W hi th) : DE X W (.Subscript a (.Slice lo hi none p2) pos) (dSl ta tl th) :=
  pe_weak (pe_slice (sl_list.or (TD.sl_tupF.or sl_str)) ha hl hh) fun σ H Q ⟨ρ, st, μ, Qd, Z, hS, ht, hQ, hZ⟩ =>
  ⟨ρ, st, μ, _, Z, hS, ht, fun x st1 H1 μ1 v hx e1 s1 rv => ⟨ρ, st1, μ1, _, Z, hS.mono e1 s1, hx, fun l st2 H2 μ2 hy e2 s2 => ⟨ρ, st2, μ2, _, Z, hS.mono (e1.trans e2) s2, hy, fun u st3 H3 μ3 hz e3 s3 => by
    have rv3 := rv.mono (e2.trans e3)
    have e := (e1.trans e2).trans e3
    cases x with
    | tup ds =>
      obtain ⟨a, vs, rfl, ht, hr⟩ := rv3
      refine .inr (.inl ⟨a, vs, rfl, ht, fun h => ?_, fun _ => ?_⟩)
      · have hz' : Qd (.tup (cutL ds l u)) st3 := hz
        rw [HT.whole (by rw [hr.length]; exact h)] at hz'
        exact hQ _ _ _ _ _ hz' e s3 ⟨a, vs, rfl, ht, hr⟩
      · exact hQ.tupF e s3 (cutL_rep l u hr) hz
    | fls ds =>
      obtain ⟨a, vs, rfl, ht, hr⟩ := rv3
      exact .inl ⟨a, vs, rfl, ht.sq, fun p hp => hQ.lst e s3 (cutL_rep l u hr) hz hp⟩
    | loc n =>
      obtain ⟨a, rfl, hn⟩ := rv3
      obtain ⟨ds, hds, hz⟩ := hz
      obtain ⟨a', o, q1, q2, vs, rfl, hr⟩ := s3.at' _ _ hds
      rw [hn] at q1; cases q1
      exact .inl ⟨a, vs, rfl, .inl (.inl q2), fun p hp => hQ.lst e s3 (cutL_rep l u hr) hz hp⟩
    | str z =>
      rw [show v = _ from rv3]
      exact .inr (.inr ⟨z, rfl, hz.1, hQ _ _ _ _ _ hz.2 e s3 rfl⟩)
    | _ => exact hz.elim, hZ.mono (e1.trans e2)⟩, hZ.mono e1⟩, hZ⟩
end
end DL
namespace DL
open PySem L2 PySem.Spec
open PyProof.Rows hiding St
variable [TC : TabCtx]
section
variable {X : Cx} {W : WX} {a b c e : Expr} {ta tb tc te : DTE} {pos : Pos} {s : Stmt} {rest : List Stmt} {t u : DTS}
def dNext : DTS := fun E ρ st => E.nx ρ st
def dSeq (t u : DTS) : DTS := fun E ρ st => t { E with nx := u E } ρ st
theorem SOk.with_nx {K : PySem.W.Frag} {DD : DEnds} {D : Ends} {H : Hp} {μ : List Addr} {qd : Env' → Sto → Prop} {q : St → Hp → Prop} (z : SOk K W DD D H μ) (n : NOk K qd q H μ) : SOk K W { DD with nx := qd } { D with nx := q } H μ := ⟨n, z.rt, z.bk, z.ct, z.xs⟩
theorem dss_nil : DSs X W [] dNext := pss_weak pss_nil fun D σ H ⟨ρ, st, μ, DD, hS, ht, hO⟩ => hO.nx _ _ _ _ _ ht (Ext.refl _ _) hS
theorem dss_cons (h1 : DS X W s t) (h2 : DSs X W rest u) : DSs X W (s :: rest) (dSeq t u) := pss_weak (pss_cons h1 h2) fun D σ H ⟨ρ, st, μ, DD, hS, ht, hO⟩ =>
  ⟨ρ, st, μ, _, hS, ht, hO.with_nx fun ρ' st' σ' H' μ' q e s' => ⟨ρ', st', μ', DD, s', q, hO.mono e⟩⟩
theorem dss_one (h1 : DS X W s t) : DSs X W [s] t := pss_one h1
def dDrop (te : DTE) : DTS := fun E ρ st => te ρ st (fun _ st1 => E.nx ρ st1) E.xs
theorem ds_expr (he : DE X W e te) (hs : swapsWith e none pos.line X.env = pure false := by rfl) : DS X W (.Expr e pos) (dDrop te) := ps_weak (ps_expr he hs) fun D σ H ⟨ρ, st, μ, DD, hS, ht, hO⟩ =>
  ⟨ρ, st, μ, _, _, hS, ht, fun d st1 H1 μ1 v q e1 s1 _ => hO.nx _ _ _ _ _ q e1 (hS.mono e1 s1), hO.xs⟩
def dRet (te : DTE) : DTS := fun E ρ st => te ρ st E.rt E.xs
theorem ds_ret (he : DE X W e te) : DS X W (.Return (some e) pos) (dRet te) := ps_weak (ps_ret he) fun D σ H ⟨ρ, st, μ, DD, hS, ht, hO⟩ => ⟨ρ, st, μ, _, _, hS, ht, hO.rt, hO.xs⟩
def dIfS (c : DTT) (t u : DTS) : DTS := fun E ρ st => c ρ st (fun b st1 => if b = true then t E ρ st1 else u E ρ st1) E.xs
theorem ds_if {tc : DTT} {x y : List Stmt} (hc : DT X W c tc) (ha : DSs X W x t) (hb : DSs X W y u) : DS X W (.If c x y pos) (dIfS tc t u) := ps_weak (ps_if hc ha hb) fun D σ H ⟨ρ, st, μ, DD, hS, ht, hO⟩ =>
  ⟨ρ, st, μ, _, _, hS, ht, fun k st1 H1 μ1 hx e1 s1 => by
    cases k with
    | true => exact iteT ⟨ρ, st1, μ1, DD, hS.mono e1 s1, hx, hO.mono e1⟩
    | false => exact iteF ⟨ρ, st1, μ1, DD, hS.mono e1 s1, hx, hO.mono e1⟩, hO.xs⟩
def dNever : DTS := fun _ _ _ => False
theorem ds_never : DS X W s dNever := ps_weak ps_never fun _ _ _ ⟨_, _, _, _, _, h, _⟩ => h
theorem dss_never : DSs X W rest dNever := pss_weak pss_never fun _ _ _ ⟨_, _, _, _, _, h, _⟩ => h
def gN (i : Nat) : DTG := fun d ρ st Q => Q (ρ.set i (some d)) st
theorem wipe_set (σ : St) (i : Nat) (v : Option V) : ∀ vs : List Nat, i ∈ vs → wipe (σ.set i v) vs = wipe σ vs
  | x :: vs, h => by
    unfold wipe
    rcases List.mem_cons.mp h with h | h
    · subst h
      by_cases hm : i ∈ vs
      · rw [wipe_set σ i v vs hm]
      · have : ∀ (vs : List Nat) (σ : St), i ∉ vs → wipe (σ.set i v) vs = (wipe σ vs).set i v := by
          intro vs
          induction vs with
          | nil => intro σ _; rfl
          | cons y ys ih =>
            intro σ hn
            unfold wipe
            rw [ih σ (fun z => hn (List.mem_cons_of_mem _ z)), List.set_comm]
            intro e
            exact hn (e ▸ List.mem_cons_self)
        rw [this vs σ hm, List.set_set]
    · rw [wipe_set σ i v vs h]
theorem dg_name {i : Nat} {x : Str} (hN : X.N.Nodup) (hi : X.N[i]? = some x) (hx : Loc X.env.scope x) (hf : X.fn x = true ∨ X.env.scope.names.lookup x = some .local := by first | exact .inl rfl | exact .inr rfl | assumption) : DG X [i] (.Name x pos) (gN i) :=
  pg_weak (pg_name hN hi hx hf) fun v σ H Q ⟨d, ρ, st, μ, Qd, hS, rv, ht, hk⟩ => hk _ _ _ _ _ ht (Ext.refl _ _) ⟨hS.e.set i rv, hS.s⟩ fun vs hv => wipe_set _ _ _ _ (hv i List.mem_cons_self)
abbrev DTGs := List D → Env' → Sto → (Env' → Sto → Prop) → Prop
def liftGs (K : PySem.W.Frag) (ws : List Nat) (t : DTGs) : TGs := fun vs σ H Q => ∃ ds ρ st μ Qd, Stt K ρ st μ σ H ∧ Reps K H μ ds vs ∧ t ds ρ st Qd ∧
  ∀ ρ' st' σ' H' μ', Qd ρ' st' → Ext H H' μ μ' → Stt K ρ' st' μ' σ' H' → (∀ vs, (∀ w ∈ ws, w ∈ vs) → wipe σ' vs = wipe σ vs) → Q σ' H'
theorem pgs_weak {es : List Expr} {t u : TGs} (h : PGs X es t) (w : ∀ v σ H Q, u v σ H Q → t v σ H Q) : PGs X es u := ⟨fun pins s σ H v u Q I r q => h.run pins s σ H v u Q I r (w v σ H Q q)⟩
def gNil' : DTGs := fun ds ρ st Q => match ds with | [] => Q ρ st | _ => False
def gCons' (t : DTG) (u : DTGs) : DTGs := fun ds ρ st Q => match ds with | d :: r => t d ρ st fun ρ' st' => u r ρ' st' Q | _ => False
theorem dgs_nil : PGs X [] (liftGs X.K [] gNil') := pgs_weak pgs_nil fun vs σ H Q ⟨ds, ρ, st, μ, Qd, hS, rv, ht, hk⟩ => by
  cases ds with
  | nil => exact ⟨rv, hk _ _ _ _ _ ht (Ext.refl _ _) hS fun _ _ => rfl⟩
  | cons d r => exact ht.elim
theorem dgs_cons {es : List Expr} {w1 w2 : List Nat} {t : DTG} {u : DTGs} (h1 : DG X w1 e t) (h2 : PGs X es (liftGs X.K w2 u)) (hs : (assignEach (e :: es) X.env).map (·.2) = assign e X.env :: (assignEach es X.env).map (·.2) := by rfl) :
    PGs X (e :: es) (liftGs X.K (w1 ++ w2) (gCons' t u)) := pgs_weak (pgs_cons h1 h2 hs) fun vs σ H Q ⟨ds, ρ, st, μ, Qd, hS, rv, ht, hk⟩ => by
  cases ds with
  | nil => exact ht.elim
  | cons d r =>
    obtain ⟨v, vr, rfl, r1, r2⟩ := rv
    refine ⟨v, vr, rfl, d, ρ, st, μ, _, hS, r1, ht, fun ρ' st' σ' H' μ' q e1 s1 hw => ⟨r, ρ', st', μ', _, s1, r2.mono e1, q, fun ρ2 st2 σ2 H2 μ2 q2 e2 s2 hw2 => ?_⟩⟩
    exact hk _ _ _ _ _ q2 (e1.trans e2) s2 fun vs hv => (hw2 vs fun w m => hv w (List.mem_append_right _ m)).trans (hw vs fun w m => hv w (List.mem_append_left _ m))
def gTup' (n : Nat) (t : DTGs) : DTG := fun d ρ st Q => match d with | .tup ds => ds.length = n ∧ t ds ρ st Q | _ => False
theorem dg_tup {es : List Expr} {k n : Nat} {ws : List Nat} {t : DTGs} (hc : X.calm = true) (h : PGs X es (liftGs X.K ws t))
    (hn : (assignEach es X.env).length = n := by rfl) (hst : (assignEach es X.env).findIdx? (·.1) = none := by rfl) : DG X ws (.Tuple es k pos) (gTup' n t) :=
  pg_weak (pg_tup hc h hn hst) fun v σ H Q ⟨d, ρ, st, μ, Qd, hS, rv, ht, hk⟩ => by
    cases d with
    | tup ds =>
      obtain ⟨a, vs, rfl, hs, hr⟩ := rv
      exact ⟨a, vs, rfl, hs, by rw [← hr.length]; exact ht.1, ds, ρ, st, μ, Qd, hS, hr, ht.2, hk⟩
    | _ => exact ht.elim
/-- target = value -/
def dAsg (te : DTE) (g : DTG) : DTS := fun E ρ st => te ρ st (fun x st1 => g x ρ st1 E.nx) E.xs
theorem ds_asg {tg : Expr} {g : DTG} {ws : List Nat} (he : DE X W e te) (hg : DG X ws tg g) (hs : swapsWithSole [tg] e pos.line X.env = pure false := by rfl) (hw : swappedStores [tg] e X.env = pure none := by rfl)
    (h1 : (assignEach [tg] X.env).map (·.2) = [assign tg X.env] := by rfl) : DS X W (.Assign [tg] e pos) (dAsg te g) := ps_weak (ps_asg he hg hs hw h1) fun D σ H ⟨ρ, st, μ, DD, hS, ht, hO⟩ =>
  ⟨ρ, st, μ, _, _, hS, ht, fun x st1 H1 μ1 v hx e1 s1 rv => ⟨x, ρ, st1, μ1, _, hS.mono e1 s1, rv, hx, fun ρ' st' σ' H' μ' q e2 s2 _ => hO.nx _ _ _ _ _ q (e1.trans e2) s2⟩, hO.xs⟩
theorem ds_set {i : Nat} {x : Str} {pos' : Pos} (hN : X.N.Nodup) (hi : X.N[i]? = some x) (hx : Loc X.env.scope x) (he : DE X W e te) (hs : swapsWith e (some (.Name x pos')) pos.line X.env = pure false := by rfl) (hf : X.fn x = true ∨ X.env.scope.names.lookup x = some .local := by first | exact .inl rfl | exact .inr rfl | assumption) :
    DS X W (.Assign [.Name x pos'] e pos) (dAsg te (gN i)) := ps_weak (ps_set hN hi hx he hs hf) fun D σ H ⟨ρ, st, μ, DD, hS, ht, hO⟩ =>
  ⟨ρ, st, μ, _, _, hS, ht, fun x st1 H1 μ1 v hx e1 s1 rv => hO.nx _ _ _ _ _ hx e1 ⟨(hS.e.mono e1).set i rv, s1⟩, hO.xs⟩
/-- a, b = x, y by the right sides' values -/
def dPar (i j : Nat) (ta : DTA) : DTS := fun E ρ st => ta ρ st (fun vs st1 => match vs with | [v, w] => E.nx ((ρ.set i (some v)).set j (some w)) st1 | _ => False) E.xs
def dAug (i : Nat) (te : DTE) (dr : D2) : DTS := fun E ρ st => match ρ[i]? with
  | some (some x) => te ρ st (fun y st1 => dr x y st1 fun z st2 => E.nx (ρ.set i (some z)) st2) E.xs
  | _ => False
/-- o[i] = v -/
abbrev D3 := D → D → D → Sto → (Sto → Prop) → Prop
def DSet (K : PySem.W.Frag) (r : TSet) (dr : D3) : Prop :=
  ∀ {H : Hp} {μ : List Addr} {st : Sto} {o i x : D} {vo vi v : V} {Qd : Sto → Prop} {Q : Hp → Prop}, SRep K st μ H → Rep K H μ o vo → Rep K H μ i vi → Rep K H μ x v → dr o i x st Qd →
    (∀ st' H' μ', Qd st' → Ext H H' μ μ' → SRep K st' μ' H' → Q H') → r vo vi v H Q
def gSub' (to ti : DTE) (dr : D3) : DTG := fun d ρ st Q => to ρ st (fun o st1 => ti ρ st1 (fun i st2 => dr o i d st2 fun st3 => Q ρ st3) fun _ _ _ => False) fun _ _ _ => False
def W0 : WX := fun _ _ _ _ => False
theorem ZOk.no {K : PySem.W.Frag} {W : WX} {H : Hp} {μ : List Addr} : ZOk K W (fun _ _ _ => False) H μ := fun _ _ _ _ _ _ _ _ h => h.elim
theorem dg_sub {o i : Expr} {to ti : DTE} {r : TSet} {dr : D3} (ho : DE X W0 o to) (hi : DE X W0 i ti) (hs : PSet X r) (hr : DSet X.K r dr)
    (ha : ∀ v, assign (.Subscript o i pos) X.env v = (do
      let ov ← holding [v] (eval o X.env)
      let iv ← holding [v, ov] (eval i X.env)
      standAt pos
      holding [v, ov, iv] (setItem ov iv v)
      release [v, ov, iv] []) := by intro _; rfl) : DG X [] (.Subscript o i pos) (gSub' to ti dr) := pg_weak (pg_sub ho hi hs ha) fun v σ H Q ⟨d, ρ, st, μ, Qd, hS, rv, ht, hk⟩ =>
  ⟨ρ, st, μ, _, _, hS, ht, fun x st1 H1 μ1 vo hx e1 s1 ro => ⟨ρ, st1, μ1, _, _, hS.mono e1 s1, hx, fun y st2 H2 μ2 vi hy e2 s2 ri =>
    hr s2 (ro.mono e2) ri (rv.mono (e1.trans e2)) hy fun st3 H3 μ3 q e3 s3 => hk _ _ _ _ _ q ((e1.trans e2).trans e3) ⟨hS.e.mono ((e1.trans e2).trans e3), s3⟩ fun _ _ => rfl, ZOk.no⟩, ZOk.no⟩
def dSetL : D3 := fun o i x st Q => match o, i with
  | .loc n, .int k => ∃ ds j, st[n]? = some (.lst ds) ∧ ixN ds.length k = some j ∧ Q (st.set n (.lst (ds.set j x)))
  | _, _ => False
theorem setL_ok {K : PySem.W.Frag} : DSet K rSetL dSetL := by
  intro H μ st o i x vo vi v Qd Q s ro ri rv h hQ
  cases o <;> try exact (show False from h).elim
  cases i <;> try exact (show False from h).elim
  rename_i n k
  obtain ⟨a, rfl, hn⟩ := ro
  obtain ⟨ds, j, hds, hj, q⟩ := h
  obtain ⟨a', o, e1, e2, vs, rfl, hr⟩ := s.at' _ _ hds
  rw [hn] at e1; cases e1
  have w := s.write (o' := .lst (vs.set j v)) (b := .lst (ds.set j x)) hn e2 ⟨_, rfl, hr.set j rv⟩
  refine ⟨a, vs, k, j, rfl, ri, e2, by rw [← hr.length]; exact hj, hQ _ _ _ q w.1 w.2⟩
end
end DL
namespace DL
open PySem L2 PySem.Spec
open PyProof.Rows hiding St
variable [TC : TabCtx]
section
variable {X : Cx} {W : WX} {a b c e tg : Expr} {ta tb tc te : DTE} {pos : Pos} {s : Stmt} {rest : List Stmt} {t u : DTS}
structure ItRep (K : PySem.W.Frag) (J : It) (items : List D) (G : Sto → Prop) (H0 : Hp) (μ0 : List Addr) : Prop where
  go : ∀ i H μ st d, Ext0 H0 H μ0 μ → SRep K st μ H → G st → items[i]? = some d → J.go i H ∧ ∀ x H', J.yld i H x H' → Ext H H' μ μ ∧ SRep K st μ H' ∧ Rep K H' μ d x ∧ (∀ b o, H b = some o → H' b = some o)
  stop : ∀ H μ st, Ext0 H0 H μ0 μ → SRep K st μ H → G st → J.stop items.length H
abbrev DTI := Env' → Sto → (List D → (Sto → Prop) → Sto → Prop) → DZ → Prop
def liftI (K : PySem.W.Frag) (W : WX) (t : DTI) : TI := fun σ H R => ∃ ρ st μ Qd Z, Stt K ρ st μ σ H ∧ t ρ st Qd Z ∧ ZOk K W Z H μ ∧
  ∀ items G st' H' μ' J, Qd items G st' → Ext H H' μ μ' → SRep K st' μ' H' → ItRep K J items G H' μ' → R J H'
abbrev DI (X : Cx) (W : WX) (tg e : Expr) (t : DTI) : Prop := PI X tg e (liftI X.K W t)
theorem pi_weak {e : Expr} {t u : TI} (h : PI X tg e t) (w : ∀ σ H R, u σ H R → t σ H R) : PI X tg e u := ⟨fun pins s σ H R I q => h.run pins s σ H R I (w σ H R q)⟩
theorem ItRep.tup {K : PySem.W.Frag} {H : Hp} {μ : List Addr} {a : Addr} {ds : List D} {vs : List V} (hs : SqT K H a vs) (hr : Reps K H μ ds vs) : ItRep K (Itt K a) ds (fun _ => True) H μ where
  go i H1 μ1 st d x s _ e := by
    obtain ⟨v, hv, rv⟩ := (hr.mono0 x).get e
    refine ⟨⟨vs, v, x.sqT hs, hv⟩, fun y H' hy => ?_⟩
    obtain ⟨rfl, hy⟩ := hy
    have := hy vs (x.sqT hs)
    rw [hv] at this; cases this
    exact ⟨Ext.refl _ _, s, rv, fun _ _ h => h⟩
  stop H1 μ1 st x s _ := ⟨vs, x.sqT hs, by rw [hr.length]; exact Nat.le_refl _⟩
theorem ItRep.fls {K : PySem.W.Frag} {H : Hp} {μ : List Addr} {a : Addr} {ds : List D} {vs : List V} (hs : FzL K H a vs) (hr : Reps K H μ ds vs) : ItRep K (Itl K a) ds (fun _ => True) H μ where
  go i H1 μ1 st d x s _ e := by
    obtain ⟨v, hv, rv⟩ := (hr.mono0 x).get e
    refine ⟨⟨vs, v, (x.fzL hs).sq, hv⟩, fun y H' hy => ?_⟩
    obtain ⟨rfl, hy⟩ := hy
    have := hy vs (x.fzL hs).sq
    rw [hv] at this; cases this
    exact ⟨Ext.refl _ _, s, rv, fun _ _ h => h⟩
  stop H1 μ1 st x s _ := ⟨vs, (x.fzL hs).sq, by rw [hr.length]; exact Nat.le_refl _⟩
theorem ItRep.lst {K : PySem.W.Frag} {H : Hp} {μ : List Addr} {a : Addr} {n : Nat} {ds : List D} (hn : μ[n]? = some a) : ItRep K (Itl K a) ds (fun st => st[n]? = some (.lst ds)) H μ where
  go i H1 μ1 st d x s g e := by
    obtain ⟨a', o, e1, e2, vs, rfl, hr⟩ := s.at' _ _ g
    rw [x.pre n a hn] at e1; cases e1
    obtain ⟨v, hv, rv⟩ := hr.get e
    refine ⟨⟨vs, v, .inl (.inl e2), hv⟩, fun y H' hy => ?_⟩
    obtain ⟨rfl, hy⟩ := hy
    have := hy vs (.inl (.inl e2))
    rw [hv] at this; cases this
    exact ⟨Ext.refl _ _, s, rv, fun _ _ h => h⟩
  stop H1 μ1 st x s g := by
    obtain ⟨a', o, e1, e2, vs, rfl, hr⟩ := s.at' _ _ g
    rw [x.pre n a hn] at e1; cases e1
    exact ⟨vs, .inl (.inl e2), by rw [hr.length]; exact Nat.le_refl _⟩
def strItems (z : Str) : List D := z.cps.toList.map fun c => .str ⟨#[c]⟩
theorem ItRep.str {K : PySem.W.Frag} {H : Hp} {μ : List Addr} {z : Str} : ItRep K (Its z) (strItems z) (fun _ => True) H μ where
  go i H1 μ1 st d x s _ e := by
    have hi : i < z.cps.size := by
      have := (List.getElem?_eq_some_iff.mp e).1
      simpa [strItems] using this
    refine ⟨hi, fun y H' hy => ?_⟩
    obtain ⟨rfl, c, hc, rfl⟩ := hy
    refine ⟨Ext.refl _ _, s, ?_, fun _ _ h => h⟩
    have : z.cps.toList[i]? = some c := by rw [Array.getElem?_toList]; exact hc
    simp [strItems, this] at e
    subst e
    rfl
  stop H1 μ1 st x s _ := by
    show z.cps.size ≤ (strItems z).length
    simp [strItems]
/-- a list, a tuple, a text: by what it is -/
def iSeq (K : PySem.W.Frag) (tl : TE) : TI := fun σ H R => tl σ H fun x H1 => (∃ a, x = .ref a ∧ (∃ xs, SqL K H1 a xs) ∧ R (Itl K a) H1) ∨ (∃ a, x = .ref a ∧ (∃ xs, SqT K H1 a xs) ∧ R (Itt K a) H1) ∨ ∃ z, x = .str z ∧ R (Its z) H1
theorem pi_seq {l : Expr} {tl : TE} (hl : PE X l tl) : PI X tg l (iSeq X.K tl) := by
  refine ⟨fun pins s σ H R I h => ?_⟩
  refine thn (hl.run pins s σ H _ I h) fun v s1 ⟨x, H1, I1, r1, q1⟩ => ?_
  rcases q1 with ⟨a, rfl, ⟨xs, hq⟩, q⟩ | ⟨a, rfl, ⟨xs, hq⟩, q⟩ | ⟨z, rfl, q⟩
  · cases r1
    obtain ⟨its, rv, p, hz⟩ := I1.list hq
    exact wpAny_pyIter_list p.isList (pi_one (tk := s1.toks) I1 _ (turn_list a _) ⟨_, Heap.get?_push_size _ rfl, rfl, rfl⟩ q)
  · cases r1
    obtain ⟨its, rv, p, hz⟩ := I1.tuple hq
    exact wpAny_pyIter_tuple (show s1.heap.IsTuple a its.toArray from p) (pi_one (tk := s1.toks) I1 _ (turn_tuple a _) ⟨_, Heap.get?_push_size _ rfl, rfl, rfl⟩ q)
  · obtain ⟨t, rfl⟩ := r1
    cases ha : z.cps.all (· < 128)
    · exact wpAny_pyIter_wide ha (pi_one (tk := s1.toks) I1 _ (turn_str _ z t "str_iterator" (.inr rfl)) ⟨_, Heap.get?_push_size _ rfl, rfl, rfl⟩ q)
    · exact wpAny_pyIter_ascii ha (pi_one (tk := s1.toks) I1 _ (turn_str _ z t "str_ascii_iterator" (.inl rfl)) ⟨_, Heap.get?_push_size _ rfl, rfl, rfl⟩ q)
/-- what is walked of a value -/
def walkD (st : Sto) : D → (List D → (Sto → Prop) → Prop) → Prop
  | .tup ds, Q => Q ds fun _ => True
  | .fls ds, Q => Q ds fun _ => True
  | .loc n, Q => ∃ ds, st[n]? = some (.lst ds) ∧ Q ds fun st => st[n]? = some (.lst ds)
  | .str z, Q => Q (strItems z) fun _ => True
  | _, _ => False
def iD (te : DTE) : DTI := fun ρ st Q Z => te ρ st (fun x st1 => walkD st1 x fun items G => Q items G st1) Z
theorem di_seq (h : DE X W e te) : DI X W tg e (iD te) := pi_weak (pi_seq h) fun σ H R ⟨ρ, st, μ, Qd, Z, hS, ht, hZ, hk⟩ =>
  ⟨ρ, st, μ, _, Z, hS, ht, fun x st1 H1 μ1 v hx e1 s1 rv => by
    cases x with
    | tup ds =>
      obtain ⟨a, vs, rfl, hs, hr⟩ := rv
      exact .inr (.inl ⟨a, rfl, ⟨vs, hs⟩, hk _ _ _ _ _ _ hx e1 s1 (ItRep.tup hs hr)⟩)
    | fls ds =>
      obtain ⟨a, vs, rfl, hs, hr⟩ := rv
      exact .inl ⟨a, rfl, ⟨vs, hs.sq⟩, hk _ _ _ _ _ _ hx e1 s1 (ItRep.fls hs hr)⟩
    | loc n =>
      obtain ⟨a, rfl, hn⟩ := rv
      obtain ⟨ds, hds, q⟩ := hx
      obtain ⟨a', o, q1, q2, vs, rfl, hr⟩ := s1.at' _ _ hds
      rw [hn] at q1; cases q1
      exact .inl ⟨a, rfl, ⟨vs, .inl (.inl q2)⟩, hk _ _ _ _ _ _ q e1 s1 (ItRep.lst hn)⟩
    | str z =>
      rw [show v = _ from rv]
      exact .inr (.inr ⟨z, rfl, hk _ _ _ _ _ _ hx e1 s1 ItRep.str⟩)
    | _ => exact hx.elim, hZ⟩
/-- range -/
def rngItems (lo : Int) (n : Nat) : List D := (List.range n).map fun (i : Nat) => .int (lo + (i : Int))
theorem ItRep.range {K : PySem.W.Frag} {H : Hp} {μ : List Addr} {lo : Int} {n : Nat} : ItRep K (Itr lo n) (rngItems lo n) (fun _ => True) H μ where
  go i H1 μ1 st d x s _ e := by
    have hi : i < n := by
      have := (List.getElem?_eq_some_iff.mp e).1
      simpa [rngItems] using this
    refine ⟨hi, fun y H' hy => ?_⟩
    obtain ⟨rfl, rfl⟩ := hy
    refine ⟨Ext.refl _ _, s, ?_, fun _ _ h => h⟩
    simp [rngItems, hi] at e
    subst e
    rfl
  stop H1 μ1 st x s _ := by
    show n ≤ (rngItems lo n).length
    simp [rngItems]
def iR1 (ta : DTA) : DTI := fun ρ st Q Z => ta ρ st (fun xs st1 => match xs with | [.int j] => -(2 ^ 62) ≤ j ∧ j < 2 ^ 62 ∧ Q (rngItems 0 j.toNat) (fun _ => True) st1 | _ => False) Z
def iR2 (ta : DTA) : DTI := fun ρ st Q Z => ta ρ st (fun xs st1 => match xs with | [.int i, .int j] => (-(2 ^ 62) ≤ i ∧ i < 2 ^ 62 ∧ -(2 ^ 62) ≤ j ∧ j < 2 ^ 62) ∧ Q (rngItems i (j - i).toNat) (fun _ => True) st1 | _ => False) Z
theorem Reps.ints1 {K : PySem.W.Frag} {H : Hp} {μ : List Addr} {i : Int} {vs : List V} (h : Reps K H μ [.int i] vs) : vs = [.int i] := by
  obtain ⟨v, r, rfl, r1, r2⟩ := h
  rw [show v = _ from r1, show r = _ from r2]
theorem di_range1 {x : Expr} {tx : DTA} {p : Pos} (hg : Gl X "range") (hm : X.mg "range" = none) (ha : DA X W [x] tx) (hs : starEach [x] X.env = [(false, eval x X.env)] := by rfl) : DI X W tg (.Call (.Name "range" p) [x] [] pos) (iR1 tx) :=
  pi_weak (pi_range1 hg hm ha hs) fun σ H R ⟨ρ, st, μ, Qd, Z, hS, ht, hZ, hk⟩ => ⟨ρ, st, μ, _, Z, hS, ht, fun ds st1 H1 μ1 vs hx e1 s1 rv => by
    dsimp only at hx
    split at hx
    · rename_i j
      exact ⟨j, rv.ints1, hx.1, hx.2.1, hk _ _ _ _ _ _ hx.2.2 e1 s1 ItRep.range⟩
    · exact hx.elim, hZ⟩
def runG (g : DTG) (body : DTS) (E : DEnds) (G : Sto → Prop) : List D → Env' → Sto → Prop
  | [], ρ, st => G st ∧ E.nx ρ st
  | d :: ds, ρ, st => G st ∧ g d ρ st fun ρ2 st2 => body { E with nx := runG g body E G ds, ct := runG g body E G ds, bk := E.nx } ρ2 st2
theorem drop_at {α : Type} {l : List α} {i : Nat} {x : α} (h : l[i]? = some x) : l.drop i = x :: l.drop (i + 1) := by
  obtain ⟨hi, e⟩ := List.getElem?_eq_some_iff.mp h
  rw [List.drop_eq_getElem_cons hi, e]
theorem for_ex {g : DTG} {body : DTS} {E : DEnds} {G : Sto → Prop} {items : List D} {ρ : Env'} {st : Sto} (h : runG g body E G items ρ st) : ∃ I : Nat → Env' → Sto → Prop, I 0 ρ st ∧ (∀ i ρ st, i ≤ items.length → I i ρ st → G st) ∧
    (∀ i d ρ st, items[i]? = some d → I i ρ st → g d ρ st fun ρ2 st2 => body { E with nx := I (i + 1), ct := I (i + 1), bk := E.nx } ρ2 st2) ∧ ∀ ρ st, I items.length ρ st → E.nx ρ st := by
  refine ⟨fun i => runG g body E G (items.drop i), h, fun i ρ st _ hi => ?_, fun i d ρ st hd hi => ?_, fun ρ st hi => ?_⟩
  · dsimp only at hi
    cases e : items.drop i <;> (rw [e] at hi; exact hi.1)
  · dsimp only at hi
    rw [drop_at hd] at hi
    exact hi.2
  · dsimp only at hi
    rw [List.drop_length] at hi
    exact hi.2
def dFor (it : DTI) (g : DTG) (body : DTS) : DTS := fun E ρ st => it ρ st (fun items G st1 => runG g body E G items ρ st1) E.xs
theorem ds_for {body : List Stmt} {it : DTI} {g : DTG} {ws : List Nat} {tb : DTS} (hp : PassesOwn (model X.prog X.w) X.A X.env X.xe) (hc : X.calm = true) (hi : DI X W tg e it) (hg : DG X ws tg g) (hb : DSs X W body tb)
    (hs : ∀ x, foldedSetIterable e X.env x = pure x := by intro _; rfl) : DS X W (.For tg e body [] pos) (dFor it g tb) := ps_weak (ps_for hp hc hi hg hb hs) fun D σ H ⟨ρ, st, μ, DD, hS, ht, hO⟩ =>
  ⟨ρ, st, μ, _, _, hS, ht, hO.xs, fun items G st1 H1 μ1 J hx e1 s1 hJ => by
    obtain ⟨I, h0, hG, hstep, hend⟩ := for_ex hx
    refine ⟨fun i m σ' H' => m = items.length - i ∧ i ≤ items.length ∧ ∃ ρ' st' μ', I i ρ' st' ∧ Ext H1 H' μ1 μ' ∧ Stt X.K ρ' st' μ' σ' H', ⟨_, rfl, Nat.zero_le _, ρ, st1, μ1, h0, Ext.refl _ _, hS.mono e1 s1⟩, ?_⟩
    rintro i m σ' H' ⟨rfl, hil, ρ', st', μ', hI, e2, s2⟩
    by_cases hlt : i < items.length
    · have hd : items[i]? = some items[i] := List.getElem?_eq_getElem hlt
      obtain ⟨hgo, hy⟩ := hJ.go i H' μ' st' _ e2.toExt0 s2.s (hG i ρ' st' hil hI) hd
      refine .inr ⟨hgo, fun σ3 H3 => ∃ ρ3 st3 μ3, I (i + 1) ρ3 st3 ∧ Ext H1 H3 μ1 μ3 ∧ Stt X.K ρ3 st3 μ3 σ3 H3, fun σ3 H3 ⟨ρ3, st3, μ3, q1, q2, q3⟩ => ⟨_, by omega, rfl, hlt, ρ3, st3, μ3, q1, q2, q3⟩, fun x H3 hx => ?_⟩
      obtain ⟨e3, s3, r3, _⟩ := hy x H3 hx
      refine ⟨_, ρ', st', μ', _, s2.mono e3 s3, r3, hstep i _ ρ' st' hd hI, fun ρ4 st4 σ4 H4 μ4 q e4 s4 _ => ?_⟩
      refine ⟨ρ4, st4, μ4, _, s4, q, ?_, ?_, ?_, ?_, ?_⟩
      · exact fun ρ5 st5 σ5 H5 μ5 q5 e5 s5 => ⟨ρ5, st5, μ5, q5, ((e2.trans e3).trans e4).trans e5, s5⟩
      · exact hO.rt.mono (((e1.trans e2).trans e3).trans e4)
      · exact hO.nx.mono (((e1.trans e2).trans e3).trans e4)
      · exact fun ρ5 st5 σ5 H5 μ5 q5 e5 s5 => ⟨ρ5, st5, μ5, q5, ((e2.trans e3).trans e4).trans e5, s5⟩
      · exact hO.xs.mono (((e1.trans e2).trans e3).trans e4)
    · have he : i = items.length := by omega
      subst he
      exact .inl ⟨hJ.stop H' μ' st' e2.toExt0 s2.s (hG _ ρ' st' hil hI), hO.nx _ _ _ _ _ (hend _ _ hI) (e1.trans e2) s2⟩⟩
end
end DL
namespace DL
open PySem L2 PySem.Spec
open PyProof.Rows hiding St
variable [TC : TabCtx]
section
variable {X : Cx} {W : WX} {a b c e tg : Expr} {ta tb tc te : DTE} {pos : Pos} {s : Stmt} {rest : List Stmt} {t u : DTS}
abbrev Z0 : DZ := fun _ _ _ => False
theorem pts_weak {ifs : List Expr} {t u : TT} (h : PTs X ifs t) (w : ∀ σ H Q, u σ H Q → t σ H Q) : PTs X ifs u := ⟨fun pins s σ H Q I q => h.run pins s σ H Q I (w σ H Q q)⟩
def dYes : DTT := fun _ st Q _ => Q true st
theorem dts_nil : PTs X [] (liftT X.K W0 dYes) := pts_weak pts_nil fun σ H Q ⟨ρ, st, μ, Qd, Z, hS, ht, hQ, hZ⟩ => hQ _ _ _ _ ht (Ext.refl _ _) hS.s
def runC (g : DTG) (tt : DTT) (te : DTE) (ρ : Env') (Q : DK) (G : Sto → Prop) : List D → List D → Sto → Prop
  | [], acc, st => G st ∧ Q (.loc st.length) (st ++ [.lst acc])
  | d :: ds, acc, st => G st ∧ g d ρ st fun ρ2 st2 => tt ρ2 st2 (fun b st3 => if b = true then te ρ2 st3 (fun y st4 => acc.length < sizeLine ∧ runC g tt te ρ Q G ds (acc ++ [y]) st4) Z0 else runC g tt te ρ Q G ds acc st3) Z0
theorem lc_ex {g : DTG} {tt : DTT} {te : DTE} {Q : DK} {G : Sto → Prop} {items : List D} {ρ : Env'} {st : Sto} (h : runC g tt te ρ Q G items [] st) : ∃ I : Nat → List D → Sto → Prop, I 0 [] st ∧ (∀ i acc st, i ≤ items.length → I i acc st → G st) ∧
    (∀ i d acc st, items[i]? = some d → I i acc st → g d ρ st fun ρ2 st2 => tt ρ2 st2 (fun b st3 => if b = true then te ρ2 st3 (fun y st4 => acc.length < sizeLine ∧ I (i + 1) (acc ++ [y]) st4) Z0 else I (i + 1) acc st3) Z0) ∧
    ∀ acc st, I items.length acc st → Q (.loc st.length) (st ++ [.lst acc]) := by
  refine ⟨fun i => runC g tt te ρ Q G (items.drop i), h, fun i acc st _ hi => ?_, fun i d acc st hd hi => ?_, fun acc st hi => ?_⟩
  · dsimp only at hi
    cases e : items.drop i <;> (rw [e] at hi; exact hi.1)
  · dsimp only at hi
    rw [drop_at hd] at hi
    exact hi.2
  · dsimp only at hi
    rw [List.drop_length] at hi
    exact hi.2
def dLc (it : DTI) (g : DTG) (tt : DTT) (te : DTE) (own : List Nat) : DTE := fun ρ st Q Z => it ρ st (fun items G st1 => runC g tt te (wipeD ρ own) Q G items [] st1) Z
theorem Ext.keep {H H' : Hp} {μ μ' : List Addr} (x : Ext H H' μ μ') {a : Addr} {xs : List V} (h : H a = some (.lst xs)) (hm : a ∉ μ) : H' a = some (.lst xs) ∧ a ∉ μ' := ⟨x.fra a _ h hm (fun _ z => nomatch z), fun z => by
  rcases x.new a z with q | q
  · exact hm q
  · obtain ⟨ps, e⟩ := q _ h
    cases e⟩
/-- the list D outside the store is written -/
theorem Ext.out {H0 H : Hp} {μ0 μ : List Addr} {D : Addr} (x : Ext H0 H μ0 μ) (h0 : H0 D = none) (u : HO) : Ext H0 (upd H D u) μ0 μ where
  pre := x.pre
  tup a zs q := by
    rw [upd_ne (ne_of_none q h0)]
    exact x.tup a zs q
  frz a o zs q := by
    rw [upd_ne (ne_of_none q h0)]
    exact x.frz a o zs q
  fra a o q hn hp := by
    rw [upd_ne (ne_of_none q h0)]
    exact x.fra a o q hn hp
  new := x.new
theorem Ext0.out {H : Hp} {μ : List Addr} {D : Addr} {xs : List V} (h : H D = some (.lst xs)) (u : HO) : Ext0 H (upd H D u) μ μ := ⟨fun _ _ q => q, fun a zs q => by
  rw [upd_ne (fun z => by rw [z, h] at q; cases q)]; exact q, fun a o zs q => by
  rw [upd_ne (fun z => by rw [z, h] at q; cases q)]; exact q⟩
theorem SRep.out {K : PySem.W.Frag} {st : Sto} {μ : List Addr} {H : Hp} (s : SRep K st μ H) {D : Addr} (hm : D ∉ μ) {xs : List V} (h : H D = some (.lst xs)) (u : HO) : SRep K st μ (upd H D u) := by
  refine ⟨s.len, s.nd, fun n b e => ?_, tabs_upd s.tab (fun o q => by rw [h] at q; cases q; exact ⟨fun _ z => (nomatch z), fun _ z => (nomatch z)⟩), fun q hq => ?_⟩
  case refine_2 =>
    obtain ⟨hn, gs, e, r1, r2⟩ := s.exc q hq
    exact ⟨hn, gs, by rw [upd_ne (fun z => by rw [z, h] at e; cases e)]; exact e, r1, r2.mono0 (Ext0.out h u)⟩
  obtain ⟨a, o, e1, e2, r⟩ := s.at' n b e
  have hne : a ≠ D := fun z => hm (z ▸ List.mem_of_getElem? e1)
  exact ⟨a, o, e1, by rw [upd_ne hne]; exact e2, r.mono0 (Ext0.out h u)⟩
/-- a thing that stood apart is taken into the store -/
theorem SRep.adopt {K : PySem.W.Frag} {st : Sto} {μ : List Addr} {H : Hp} (s : SRep K st μ H) {p : Addr} {o : HO} {b : Ob} (hm : p ∉ μ) (h : H p = some o) (r : ORep K H μ b o) : SRep K (st ++ [b]) (μ ++ [p]) H := by
  have x0 : Ext0 H H μ (μ ++ [p]) := ⟨fun n a q => by rw [List.getElem?_append_left (List.getElem?_eq_some_iff.mp q).1]; exact q, fun _ _ q => q, fun _ _ _ q => q⟩
  refine ⟨by simp [s.len], ?_, fun n c e => ?_, s.tab, fun q hq => ?_⟩
  case refine_3 =>
    obtain ⟨hn, gs, e, r1, r2⟩ := s.exc q hq
    refine ⟨fun z => ?_, gs, e, r1, r2.mono0 x0⟩
    rcases List.mem_append.mp z with z | z
    · exact hn z
    · rw [List.mem_singleton.mp z, h] at e
      cases e
      cases b with
      | lst ds => obtain ⟨vs, z, _⟩ := r; cases z
      | ins C fs => obtain ⟨dx, gs, z, _⟩ := r; cases z
      | dK fs => obtain ⟨gs, z, _⟩ := r; cases z
      | err e C d => have z : HO.xd _ = HO.ext _ := r; cases z
      | xdt dx fs => obtain ⟨gs, z, _⟩ := r; have z' : HO.xd _ = HO.ext _ := z; cases z'
      | dkF od fs => obtain ⟨gs, z, _⟩ := r; cases z
      | dN w fs => obtain ⟨a, xs, gs, z, _⟩ := r; have z' : HO.xd _ = HO.ext _ := z; cases z'
  · refine List.nodup_append.mpr ⟨s.nd, by simp, fun a ha b hb => ?_⟩
    rw [List.mem_singleton.mp hb]
    intro e
    exact hm (e ▸ ha)
  · by_cases hn : n < st.length
    · rw [List.getElem?_append_left hn] at e
      obtain ⟨a, ob, e1, e2, r2⟩ := s.at' n c e
      exact ⟨a, ob, x0.pre n a e1, e2, r2.mono0 x0⟩
    · have hn' : n = st.length := by
        have := (List.getElem?_eq_some_iff.mp e).1
        simp at this
        omega
      subst hn'
      rw [List.getElem?_append_right (Nat.le_refl _)] at e
      simp at e
      subst e
      refine ⟨p, o, ?_, h, r.mono0 x0⟩
      rw [s.len, List.getElem?_append_right (Nat.le_refl _)]
      simp
theorem wipe_at (σ : St) (i : Nat) : ∀ vs : List Nat, (wipe σ vs)[i]? = if i ∈ vs then (if i < σ.length then some none else none) else σ[i]?
  | [] => by simp [wipe]
  | v :: vs => by
    unfold wipe
    by_cases h : v = i
    · subst h
      rw [List.getElem?_set]
      simp [wipe_length]
    · rw [List.getElem?_set_ne h, wipe_at σ i vs]
      have : (i ∈ v :: vs) ↔ i ∈ vs := by
        simp [Ne.symm h]
      simp [this]
theorem wipe_idem (σ : St) (vs : List Nat) : wipe (wipe σ vs) vs = wipe σ vs := by
  refine List.ext_getElem? fun i => ?_
  rw [wipe_at, wipe_at, wipe_length]
  by_cases h : i ∈ vs <;> simp [h]
section
variable {ifs : List Expr} {scope : Scope} {own : List (Str × Nat)} {it : DTI} {g : DTG} {ws : List Nat} {tt : DTT}
theorem lc_lift {K : PySem.W.Frag} {elt : Expr} (hw : ∀ w ∈ ws, w ∈ own.map (·.2)) (σ : St) (H : Hp) (Q : VK) (h : liftE K W (dLc it g tt te (own.map (·.2))) σ H Q) :
    tLc (liftI K W it) (liftG K ws g) (liftT K W0 tt) (liftE K W0 te) (own.map (·.2)) σ H Q := by
  obtain ⟨ρ, st, μ, Qd, Z, hS, ht, hQ, hZ⟩ := h
  refine ⟨ρ, st, μ, _, Z, hS, ht, hZ, fun items G st1 H1 μ1 J hx e1 s1 hJ D hD => ?_⟩
  obtain ⟨I, h0, hG, hstep, hend⟩ := lc_ex hx
  refine ⟨fun i m H' => m = items.length - i ∧ i ≤ items.length ∧ ∃ acc va st' μ', I i acc st' ∧ Ext H1 H' μ1 μ' ∧ SRep K st' μ' H' ∧ Reps K H' μ' acc va ∧ H' D = some (.lst va) ∧ D ∉ μ',
    ⟨_, rfl, Nat.zero_le _, [], [], st1, μ1, h0, Ext.laid hD, s1.laid hD, rfl, upd_same, s1.not_mem hD⟩, ?_⟩
  rintro i m H' ⟨rfl, hil, acc, va, st', μ', hI, e2, s2, r2, d2, n2⟩
  by_cases hlt : i < items.length
  · have hd : items[i]? = some items[i] := List.getElem?_eq_getElem hlt
    obtain ⟨hgo, hy⟩ := hJ.go i H' μ' st' _ e2.toExt0 s2 (hG i acc st' hil hI) hd
    refine .inr ⟨hgo, fun H3 => ∃ acc va st' μ', I (i + 1) acc st' ∧ Ext H1 H3 μ1 μ' ∧ SRep K st' μ' H3 ∧ Reps K H3 μ' acc va ∧ H3 D = some (.lst va) ∧ D ∉ μ', fun H3 q => ⟨_, by omega, rfl, hlt, q⟩, fun x H3 hx => ?_⟩
    obtain ⟨e3, s3, r3, _⟩ := hy x H3 hx
    obtain ⟨d3, n3⟩ := e3.keep d2 n2
    refine ⟨_, wipeD ρ (own.map (·.2)), st', μ', _, ⟨(hS.e.mono ((e1.trans e2).trans e3)).wipe _, s3⟩, r3, hstep i _ acc st' hd hI, fun ρ4 st4 σ4 H4 μ4 q e4 s4 hw4 => ?_⟩
    obtain ⟨d4, n4⟩ := e4.keep d3 n3
    refine ⟨(hw4 _ hw).trans (wipe_idem _ _), ρ4, st4, μ4, _, Z0, s4, q, fun k st5 H5 μ5 q5 e5 s5 => ?_, ZOk.no⟩
    obtain ⟨d5, n5⟩ := e5.keep d4 n4
    cases k with
    | true =>
      refine iteT ⟨ρ4, st5, μ5, _, Z0, s4.mono e5 s5, q5, fun y st6 H6 μ6 v q6 e6 s6 r6 => ?_, ZOk.no⟩
      obtain ⟨d6, n6⟩ := e6.keep d5 n5
      have ex : Ext H' H6 μ' μ6 := ((e3.trans e4).trans e5).trans e6
      have ra := r2.mono ex
      have x0 : Ext0 H6 (upd H6 D (.lst (va ++ [v]))) μ6 μ6 := Ext0.out d6 _
      exact ⟨va, d6, by rw [← r2.length]; exact q6.1, acc ++ [y], va ++ [v], st6, μ6, q6.2, (e2.trans ex).out hD _, s6.out n6 d6 _, (ra.append (Reps.one r6)).mono0 x0, upd_same, n6⟩
    | false =>
      have ex : Ext H' H5 μ' μ5 := (e3.trans e4).trans e5
      exact iteF ⟨acc, va, st5, μ5, q5, e2.trans ex, s5, r2.mono ex, d5, n5⟩
  · have he : i = items.length := by omega
    subst he
    refine .inl ⟨hJ.stop H' μ' st' e2.toExt0 s2 (hG _ acc st' hil hI), ?_⟩
    refine hQ _ _ _ _ _ (hend _ _ hI) (e1.trans ⟨⟨fun n a q => ?_, e2.tup, e2.frz⟩, e2.fra, fun a q => ?_⟩) (s2.adopt n2 d2 ⟨va, rfl, r2⟩) ⟨D, rfl, by rw [s2.len]; exact getElem?_end _ _⟩
    · have := e2.pre n a q
      rw [List.getElem?_append_left (List.getElem?_eq_some_iff.mp this).1]; exact this
    · rcases List.mem_append.mp q with q | q
      · exact e2.new a q
      · rw [List.mem_singleton.mp q]; exact .inr fun o q => by rw [hD] at q; cases q
theorem de_lc {elt : Expr} (hc : X.calm = true) (hN : X.N.Nodup) (hi : DI X W tg e it) (ok : BlkOk X.N X.env.scope scope own) (hw : ∀ w ∈ ws, w ∈ own.map (·.2))
    (hg : ∀ (s : Shared) (H : Hp) (C : Addr) (cl : List (Str × Addr)) (fp : List Addr), DG (X.blk s H scope (compEnvC scope cl C X.env) fp) ws tg g) (ht : ∀ (s : Shared) (H : Hp) (C : Addr) (cl : List (Str × Addr)) (fp : List Addr), PTs (X.blk s H scope (compEnvC scope cl C X.env) fp) ifs (liftT X.K W0 tt))
    (he : ∀ (s : Shared) (H : Hp) (C : Addr) (cl : List (Str × Addr)) (fp : List Addr), DE (X.blk s H scope (compEnvC scope cl C X.env) fp) W0 elt te) (hs : ∀ x, foldedSetIterable e X.env x = pure x := by intro _; rfl) :
    DE X W (.ListComp elt [⟨tg, e, ifs, 0⟩] scope pos) (dLc it g tt te (own.map (·.2))) := pe_weak (pe_lc hc hN hi ok hg ht he hs) fun σ H Q h => lc_lift (elt := elt) hw σ H Q h
theorem ds_setLc {elt : Expr} {i : Nat} {y : Str} {py spos : Pos} (hc : X.calm = true) (hN : X.N.Nodup) (hy : X.N[i]? = some y) (hyl : X.env.scope.names.lookup y = some .local)
    (hsw : swapsWith (.ListComp elt [⟨tg, e, ifs, 0⟩] scope pos) (some (.Name y py)) spos.line X.env = pure true) (hi : DI X W tg e it) (ok : BlkOk X.N X.env.scope scope own) (hw : ∀ w ∈ ws, w ∈ own.map (·.2))
    (hg : ∀ (s : Shared) (H : Hp) (C : Addr) (cl : List (Str × Addr)) (fp : List Addr), DG (X.blk s H scope (compEnvC scope cl C X.env) fp) ws tg g) (ht : ∀ (s : Shared) (H : Hp) (C : Addr) (cl : List (Str × Addr)) (fp : List Addr), PTs (X.blk s H scope (compEnvC scope cl C X.env) fp) ifs (liftT X.K W0 tt))
    (he : ∀ (s : Shared) (H : Hp) (C : Addr) (cl : List (Str × Addr)) (fp : List Addr), DE (X.blk s H scope (compEnvC scope cl C X.env) fp) W0 elt te) (hs : ∀ x, foldedSetIterable e X.env x = pure x := by intro _; rfl) :
    DS X W (.Assign [.Name y py] (.ListComp elt [⟨tg, e, ifs, 0⟩] scope pos) spos) (dAsg (dLc it g tt te (own.map (·.2))) (gN i)) := ps_weak (ps_setLc hc hN hy hyl hsw hi ok hg ht he hs) fun D σ H ⟨ρ, st, μ, DD, hS, ht, hO⟩ =>
  lc_lift (elt := elt) (W := W) hw σ H _ ⟨ρ, st, μ, _, _, hS, ht, fun x st1 H1 μ1 v hx e1 s1 rv => hO.nx _ _ _ _ _ hx e1 ⟨(hS.e.mono e1).set i rv, s1⟩, hO.xs⟩
end
end
end DL
namespace DL
open PySem L2 PySem.Spec
open PyProof.Rows hiding St
variable [TC : TabCtx]
mutual
def D.blw (n : Nat) : D → Bool
  | .loc m => m < n
  | .tup ds => D.blws n ds
  | .fls ds => D.blws n ds
  | _ => true
def D.blws (n : Nat) : List D → Bool
  | [] => true
  | d :: ds => D.blw n d && D.blws n ds
end
def Ob.below (n : Nat) : Ob → Bool
  | .lst ds => D.blws n ds
  | .ins _ fs => D.blws n (fs.map (·.2))
  | .dK kvs => D.blws n (kvs.map (·.2))
  | .err _ _ _ => true
  | .xdt _ fs => D.blws n (fs.map (·.2))
  | .dkF _ fs => D.blws n (fs.map (·.2))
  | .dN _ fs => D.blws n (fs.map (·.2))
section
variable {K : PySem.W.Frag} {H H' : Hp} {μ : List Addr}
mutual
theorem Rep.cut {n : Nat} {ν : List Addr} (h : ∀ m, m < n → ν[m]? = μ[m]?) : ∀ {d : D} {v : V}, D.blw n d = true → Rep K H μ d v → Rep K H ν d v
  | .non, _, _, r => r
  | .bl _, _, _, r => r
  | .int _, _, _, r => r
  | .str _, _, _, r => r
  | .tup ds, _, b, r => by
    obtain ⟨a, vs, e, s, q⟩ := r
    exact ⟨a, vs, e, s, Reps.cut h b q⟩
  | .fls ds, _, b, r => by
    obtain ⟨a, vs, e, s, q⟩ := r
    exact ⟨a, vs, e, s, Reps.cut h b q⟩
  | .loc m, _, b, r => by
    obtain ⟨a, e, q⟩ := r
    exact ⟨a, e, by rw [h m (by simpa [D.blw] using b)]; exact q⟩
  | .adr _, _, _, r => r
  | .ty _, _, _, r => r
theorem Reps.cut {n : Nat} {ν : List Addr} (h : ∀ m, m < n → ν[m]? = μ[m]?) : ∀ {ds : List D} {vs : List V}, D.blws n ds = true → Reps K H μ ds vs → Reps K H ν ds vs
  | [], _, _, r => r
  | d :: ds, _, b, r => by
    obtain ⟨v, r', e, h1, h2⟩ := r
    simp only [D.blws, Bool.and_eq_true] at b
    exact ⟨v, r', e, Rep.cut h b.1 h1, Reps.cut h b.2 h2⟩
end
mutual
/-- what is told in μ names places of μ alone -/
theorem Rep.below : ∀ {d : D} {v : V}, Rep K H μ d v → D.blw μ.length d = true
  | .non, _, _ => rfl
  | .bl _, _, _ => rfl
  | .int _, _, _ => rfl
  | .str _, _, _ => rfl
  | .tup ds, _, r => by
    obtain ⟨a, vs, e, s, q⟩ := r
    exact Reps.below q
  | .fls ds, _, r => by
    obtain ⟨a, vs, e, s, q⟩ := r
    exact Reps.below q
  | .loc m, _, r => by
    obtain ⟨a, e, q⟩ := r
    simpa [D.blw] using (List.getElem?_eq_some_iff.mp q).1
  | .adr _, _, _ => rfl
  | .ty _, _, _ => rfl
theorem Reps.below : ∀ {ds : List D} {vs : List V}, Reps K H μ ds vs → D.blws μ.length ds = true
  | [], _, _ => rfl
  | d :: ds, _, r => by
    obtain ⟨v, r', e, h1, h2⟩ := r
    simp only [D.blws, Bool.and_eq_true]
    exact ⟨Rep.below h1, Reps.below h2⟩
end
theorem ORep.cut {n : Nat} {ν : List Addr} (h : ∀ m, m < n → ν[m]? = μ[m]?) : ∀ {b : Ob} {o : HO}, Ob.below n b = true → ORep K H μ b o → ORep K H ν b o
  | .lst ds, _, b, r => by obtain ⟨vs, e, q⟩ := r; exact ⟨vs, e, q.cut h b⟩
  | .ins C fs, _, b, r => by obtain ⟨dx, gs, e, q1, q2⟩ := r; exact ⟨dx, gs, e, q1, q2.cut h b⟩
  | .dK fs, _, b, r => by obtain ⟨gs, e, q1, q2⟩ := r; exact ⟨gs, e, q1, q2.cut h b⟩
  | .err _ _ _, _, b, r => r
  | .xdt dx fs, _, b, r => by obtain ⟨gs, e, q1, q2⟩ := r; exact ⟨gs, e, q1, q2.cut h b⟩
  | .dkF od fs, _, b, r => by obtain ⟨gs, e, q1, q2⟩ := r; exact ⟨gs, e, q1, q2.cut h b⟩
  | .dN w fs, _, b, r => by obtain ⟨a, xs, gs, e, r1, r2, r3, r4, r5, r6⟩ := r; exact ⟨a, xs, gs, e, r1, r2, r3, r4, r5, r6.cut h b⟩
theorem ORep.below : ∀ {b : Ob} {o : HO}, ORep K H μ b o → Ob.below μ.length b = true
  | .lst ds, _, r => by obtain ⟨vs, e, q⟩ := r; exact q.below
  | .ins C fs, _, r => by obtain ⟨dx, gs, e, q1, q2⟩ := r; exact q2.below
  | .dK fs, _, r => by obtain ⟨gs, e, q1, q2⟩ := r; exact q2.below
  | .err _ _ _, _, r => rfl
  | .xdt dx fs, _, r => by obtain ⟨gs, e, q1, q2⟩ := r; exact q2.below
  | .dkF od fs, _, r => by obtain ⟨gs, e, q1, q2⟩ := r; exact q2.below
  | .dN w fs, _, r => by obtain ⟨a, xs, gs, e, r1, r2, r3, r4, r5, r6⟩ := r; exact r6.below
/-- the store's things hang on the store alone -/
theorem SRep.below {st : Sto} (s : SRep K st μ H) {b : Ob} (h : b ∈ st) : Ob.below st.length b = true := by
  obtain ⟨n, e⟩ := List.mem_iff_getElem?.mp h
  obtain ⟨a, o, _, _, r⟩ := s.at' n b e
  rw [s.len]
  exact r.below
abbrev DSp := List D → Sto → DK → (DX → Sto → Prop) → Prop
def XOk (K : PySem.W.Frag) (Z : DX → Sto → Prop) (E : XK) (H : Hp) (μ : List Addr) : Prop :=
  ∀ x st' H' μ' c dx, Z x st' → Ext H H' μ μ' → SRep K st' μ' H' → XRep K H' μ' x c dx → E c dx H'
def liftSp (K : PySem.W.Frag) (n : Nat) (dsp : DSp) : Sp := fun vs H Q E => vs.length = n ∧ ∃ ds st μ Qd Z, Reps K H μ ds vs ∧ SRep K st μ H ∧ dsp ds st Qd Z ∧ EOk K Qd Q H μ ∧ XOk K Z E H μ
/-- the def of that name keeps its promise, at most k levels deep -/
def Has (P : Program) (w : World) (K : PySem.W.Frag) (mg : Str → Option Value) (base : Heap) (k : Nat) (x : Str) (n : Nat) (dsp : DSp) : Prop :=
  ∃ f fd ps, FnOk P w K mg base (L2.CX P w) k f fd ps (liftSp K n dsp) ∧ mg x = some (.ref f) ∧ PySem.W.keepIn K (.ref f) = true ∧ Binds K fd ps []
theorem Has.mono {P : Program} {w : World} {mg : Str → Option Value} {base : Heap} {j k : Nat} {x : Str} {n : Nat} {dsp : DSp} (h : Has P w K mg base j x n dsp) (hk : j ≤ k) : Has P w K mg base k x n dsp := by
  obtain ⟨f, fd, ps, F, r⟩ := h
  exact ⟨f, fd, ps, F.mono hk, r⟩
end
section
variable {X : Cx} {W : WX} {e : Expr} {es : List Expr} {pos p : Pos} {x : Str} {k n : Nat} {dsp : DSp} {t : DTA}
def dCall (n : Nat) (dsp : DSp) (t : DTA) : DTE := fun ρ st Q Z => t ρ st (fun ds st1 => ds.length = n ∧ dsp ds st1 Q fun x st2 => Z x ρ st2) Z
def Pas (X : Cx) (W : WX) : Prop := ∀ σ, PassesAt (L2.CX X.prog X.w) X σ (WE W σ)
theorem pas0 {X : Cx} : Pas X W0 := fun σ _ _ _ _ _ _ h => by
  obtain ⟨_, _, _, _, _, _, _, _, _, _, _, _, z⟩ := h
  exact z.elim
theorem pasT {X : Cx} {W : WX} (tk : Takes X W) : Pas X W := fun σ => passAt tk σ
theorem XOk.of {K : PySem.W.Frag} {W : WX} {Z : DZ} {H H1 : Hp} {μ μ1 : List Addr} {ρ : Env'} {st : Sto} {σ : St} (hS : Stt K ρ st μ σ H) (z : ZOk K W Z H μ) (e1 : Ext H H1 μ μ1) : XOk K (fun x st2 => Z x ρ st2) (WE W σ) H1 μ1 :=
  fun x st' H' μ' c dx q e s r => z _ _ _ _ _ _ _ _ q (e1.trans e) (hS.mono (e1.trans e) s) r
theorem de_call (F : Has X.prog X.w X.K X.mg X.base k x n dsp) (hr : Room k X.A) (hg : Gl X x) (hx : Pas X W) (ha : DA X W (e :: es) t)
    (hdb : (x == ("__debug__" : Str)) = false := by decide) (he : starEach (e :: es) X.env = (false, eval e X.env) :: starEach es X.env := by rfl) (hpl : (backTo pos (starEach es X.env)).any (·.1) = false := by rfl) :
    DE X W (.Call (.Name x p) (e :: es) [] pos) (dCall n dsp t) := by
  obtain ⟨f, fd, ps, F, hm, hk, hb⟩ := F
  refine pe_weak (pe_callS F hr hg hm hk hb hx ha hdb he hpl) fun σ H Q ⟨ρ, st, μ, Qd, Z, hS, ht, hQ, hZ⟩ => ?_
  exact ⟨ρ, st, μ, _, Z, hS, ht, fun ds st1 H1 μ1 vs hx e1 s1 rv => ⟨by rw [← rv.length]; exact hx.1, ds, st1, μ1, Qd, _, rv, s1, hx.2, hQ.mono e1, XOk.of hS hZ e1⟩, hZ⟩
end
/-- what is given back, what else the body made being forgotten -/
def Back (st : Sto) (Q : DK) : DK := fun d st' => Q d st' ∨ ∃ st1 g, st' = st1 ++ g ∧ st1.length = st.length ∧ (∀ b ∈ st1, b ∈ st ∨ Ob.below st.length b = true) ∧
  ((D.blw st.length d = true ∧ Q d st1) ∨ ∃ m ds, d = .loc m ∧ st'[m]? = some (.lst ds) ∧ st.length ≤ m ∧ D.blws st.length ds = true ∧ Q (.loc st.length) (st1 ++ [.lst ds]))
def BackX (st : Sto) (Z : DX → Sto → Prop) : DX → Sto → Prop := fun x st' => Z x st' ∨ ∃ st1 g, st' = st1 ++ g ∧ st1.length = st.length ∧ (∀ b ∈ st1, b ∈ st ∨ Ob.below st.length b = true) ∧ D.blws st.length (x.fs.map (·.2)) = true ∧ Z x st1
section
variable {K : PySem.W.Frag} {H H' : Hp} {μ μ' : List Addr} {st st' st1 g : Sto}
theorem Back.store (s0 : SRep K st μ H) (e : Ext H H' μ μ') (s : SRep K (st1 ++ g) μ' H') (hl : st1.length = st.length) (hb : ∀ b ∈ st1, b ∈ st ∨ Ob.below st.length b = true) : SRep K st1 μ H' ∧ Ext H H' μ μ := by
  have hpre : ∀ m, m < st.length → μ[m]? = μ'[m]? := fun m hm => by
    have h1 : m < μ.length := by rw [← s0.len]; exact hm
    rw [List.getElem?_eq_getElem h1]
    exact (e.pre m _ (List.getElem?_eq_getElem h1)).symm
  have e1 : Ext H H' μ μ := ⟨⟨fun _ _ q => q, e.tup, e.frz⟩, e.fra, fun a q => .inl q⟩
  refine ⟨⟨by rw [hl, s0.len], s0.nd, fun n b q => ?_, s.tab, s0.exc.ext e1⟩, e1⟩
  have hn : n < st1.length := (List.getElem?_eq_some_iff.mp q).1
  obtain ⟨a, o, e1, e2, r⟩ := s.at' n b (by rw [List.getElem?_append_left hn]; exact q)
  have hbl : Ob.below st.length b = true := by
    rcases hb b (List.mem_of_getElem? q) with z | z
    · exact s0.below z
    · exact z
  exact ⟨a, o, by rw [hpre n (by omega)]; exact e1, e2, r.cut hpre hbl⟩
theorem Back.ok {Qd : DK} {Q : VK} (s0 : SRep K st μ H) (hQ : EOk K Qd Q H μ) : EOk K (Back st Qd) Q H μ := fun d st' H' μ' v h e s r => by
  rcases h with h | ⟨st1, g, rfl, hl, hb, h⟩
  · exact hQ _ _ _ _ _ h e s r
  · obtain ⟨s1, e1⟩ := Back.store s0 e s hl hb
    have hpre : ∀ m, m < st.length → μ[m]? = μ'[m]? := fun m hm => by
      have h1 : m < μ.length := by rw [← s0.len]; exact hm
      rw [List.getElem?_eq_getElem h1]
      exact (e.pre m _ (List.getElem?_eq_getElem h1)).symm
    rcases h with ⟨hd, h⟩ | ⟨m, ds, rfl, hm, hge, hds, h⟩
    · exact hQ _ _ _ _ _ h e1 s1 (r.cut hpre hd)
    · obtain ⟨a, rfl, ha⟩ := r
      obtain ⟨a', o, q1, q2, vs, rfl, hr⟩ := s.at' m _ hm
      rw [ha] at q1; cases q1
      have hna : a ∉ μ := fun z => by
        obtain ⟨i, hi⟩ := List.mem_iff_getElem?.mp z
        have hi' : i < μ.length := (List.getElem?_eq_some_iff.mp hi).1
        have := nd_ix s.nd (e.pre i a hi) ha
        rw [← s0.len] at hi'
        omega
      have hn : ∀ o, H a = some o → ∃ ps, o = .tbl ps := by
        rcases e.new a (List.mem_of_getElem? ha) with z | z
        · exact absurd z hna
        · exact z
      have x0 : Ext0 H' H' μ (μ ++ [a]) := ⟨fun n b q => by rw [List.getElem?_append_left (List.getElem?_eq_some_iff.mp q).1]; exact q, fun _ _ q => q, fun _ _ _ q => q⟩
      refine hQ _ _ H' (μ ++ [a]) _ h ⟨⟨fun n b q => x0.pre n b q, e.tup, e.frz⟩, e.fra, fun b q => ?_⟩ (s1.adopt hna q2 ⟨vs, rfl, hr.cut hpre hds⟩) ⟨a, rfl, by rw [s0.len]; exact getElem?_end _ _⟩
      rcases List.mem_append.mp q with q | q
      · exact .inl q
      · rw [List.mem_singleton.mp q]; exact .inr hn
theorem BackX.ok {Z : DX → Sto → Prop} {E : XK} (s0 : SRep K st μ H) (hZ : XOk K Z E H μ) : XOk K (BackX st Z) E H μ := fun x st' H' μ' c dx h e s r => by
  rcases h with h | ⟨st1, g, rfl, hl, hb, hx, h⟩
  · exact hZ _ _ _ _ _ _ h e s r
  · obtain ⟨s1, e1⟩ := Back.store s0 e s hl hb
    have hpre : ∀ m, m < st.length → μ[m]? = μ'[m]? := fun m hm => by
      have h1 : m < μ.length := by rw [← s0.len]; exact hm
      rw [List.getElem?_eq_getElem h1]
      exact (e.pre m _ (List.getElem?_eq_getElem h1)).symm
    refine hZ _ _ _ _ _ _ h e1 s1 ⟨r.1, ?_⟩
    rcases r.2 with r2 | ⟨d, gs, r2, r3, r4, r5⟩
    · exact .inl r2
    · exact .inr ⟨d, gs, r2, r3, r4, r5.cut hpre hx⟩
end
/-- where a def of the text stands -/
def DefIn (K : PySem.W.Frag) (mg : Str → Option Value) (x : Str) (s : Stmt) (ps : List Str) : Prop := ∃ f fd, Fun K x x s f fd ∧ mg x = some (.ref f) ∧ Binds K fd ps []
def startD (N : List Str) (ds : List D) : Env' := ds.map some ++ List.replicate (N.length - ds.length) none
theorem start_rep {K : PySem.W.Frag} {H : Hp} {μ : List Addr} {ds : List D} {vs : List V} (N : List Str) (r : Reps K H μ ds vs) : ERep K H μ (startD N ds) (L2.start N vs) := by
  have hl := r.length
  refine ⟨by simp [startD, L2.start, hl], fun i d e => ?_⟩
  unfold startD at e
  by_cases hi : i < ds.length
  · rw [List.getElem?_append_left (by simpa using hi), List.getElem?_map] at e
    cases q : ds[i]? with
    | none => rw [q] at e; cases e
    | some d' =>
      rw [q] at e
      cases e
      obtain ⟨v, hv, rv⟩ := r.get q
      refine ⟨v, ?_, rv⟩
      unfold L2.start
      rw [List.getElem?_append_left (by simp; omega), List.getElem?_map, hv]
      rfl
  · rw [List.getElem?_append_right (by simpa using hi), List.getElem?_replicate] at e
    split at e <;> cases e
section
variable {P : Program} {w : World} {K : PySem.W.Frag} {mg : Str → Option Value} {base : Heap} {k n : Nat} {x : Str} {s : Stmt} {N ps : List Str} {dsp : DSp}
abbrev XDef (P : Program) (w : World) (K : PySem.W.Frag) (mg : Str → Option Value) (base : Heap) (N : List Str) (x : Str) (s : Stmt) (f : Addr) (cdv : Value) (A : Around) (outer : List Env) (s0 : Shared) (H : Hp) (E : XK) : Cx :=
  cxOf (L2.CX P w) P w K mg base N x (defScope s) f cdv A outer s0 H E
abbrev WDef (E : XK) : WX := fun cls d _ H => E cls d H
theorem has_mk (F : DefIn K mg x s ps) (S : FnScope N ps (defScope s)) (hn : ps.length = n)
    (body : ∀ (f : Addr) (cdv : Value) (A : Around) (outer : List Env) (s0 : Shared) (H : Hp) (E : XK), Room k (A.deeper (envOfC x (defScope s) s0.heap.objs.size f cdv)) →
      ∃ t, DSs (XDef P w K mg base N x s f cdv A outer s0 H E) (WDef E) (defBody s) t ∧ ∀ ds st Q Z, ds.length = n → dsp ds st Q Z → t { nx := fun _ st' => Back st Q .non st', rt := Back st Q, xs := fun x _ st' => BackX st Z x st' } (startD N ds) st) :
    Has P w K mg base (k + 1) x n dsp := by
  obtain ⟨f, fd, F, hm, hb⟩ := F
  refine ⟨f, fd, ps, F.okX S (fun vs H Q E h => by rw [hn]; exact h.1) (fun cdv A outer s0 H vs Q E hr h => ?_), hm, F.kp, hb⟩
  obtain ⟨t, ht, hd⟩ := body f cdv A outer s0 H E hr
  obtain ⟨hl, ds, st, μ, Qd, Z, r, sr, hsp, hQ, hZ⟩ := h
  refine ⟨_, ht, startD N ds, st, μ, _, ⟨start_rep N r, sr⟩, hd ds st Qd Z (by rw [r.length]; exact hl) hsp, ?_, Back.ok sr hQ, ?_, ?_, ?_⟩
  · exact fun ρ' st' σ' H' μ' q e s' => Back.ok sr hQ _ _ _ _ _ q e s'.s rfl
  · exact fun ρ' st' σ' H' μ' q e s' => q.elim
  · exact fun ρ' st' σ' H' μ' q e s' => q.elim
  · exact fun x' ρ' st' σ' H' μ' c dx q e s' r' => BackX.ok sr hZ _ _ _ _ _ _ q e s'.s r'
end
end DL
namespace DL
open PySem L2 PySem.Spec
open PyProof.Rows hiding St
variable [TC : TabCtx]
section
variable {K : PySem.W.Frag}
theorem DOp.or {r r' : R2} {d d' : D2} (h : DOp K r d) (h' : DOp K r' d') : DOp K (fun x y H Q => r x y H Q ∨ r' x y H Q) (fun x y st Q => d x y st Q ∨ d' x y st Q) := by
  intro H μ st x y v u Qd Q s rx ry q hQ
  rcases q with q | q
  · exact .inl (h s rx ry q hQ)
  · exact .inr (h' s rx ry q hQ)
theorem DOp.ic {C : Int → Int → Prop} {g : Int → Int → V} {f : Int → Int → D} (hf : ∀ i j H μ, Rep K H μ (f i j) (g i j)) : DOp K (rI C g) (fun x y st Q => match x, y with | .int i, .int j => C i j ∧ Q (f i j) st | _, _ => False) := by
  intro H μ st x y v u Qd Q s rx ry h hQ
  cases x <;> cases y <;> first | exact (show False from h).elim | skip
  exact ⟨_, _, rx, ry, h.1, hQ _ _ _ _ _ h.2 (Ext.refl _ _) s (hf _ _ _ _)⟩
/-- +: ints, texts, tuples, lists -/
def dAdd : D2 := fun x y st Q => match x, y with
  | .int i, .int j => Q (.int (i + j)) st
  | .str a, .str b => a.length + b.length ≤ sizeLine ∧ Q (.str (a ++ b)) st
  | .tup a, .tup b => a.length + b.length ≤ sizeLine ∧ Q (.tup (a ++ b)) st
  | .loc m, .loc n => ∃ a b, st[m]? = some (.lst a) ∧ st[n]? = some (.lst b) ∧ a.length + b.length ≤ sizeLine ∧ Q (.loc st.length) (st ++ [.lst (a ++ b)])
  | _, _ => False
def rAddV (K : PySem.W.Frag) : R2 := fun x y H Q => rI0 (fun i j => .int (i + j)) x y H Q ∨ (∃ i j, x = .str i ∧ y = .str j ∧ i.length + j.length ≤ sizeLine ∧ Q (.str (i ++ j)) H) ∨ TD.rCatF K x y H Q ∨ rCat x y H Q
theorem add_ok : DOp K (rAddV K) dAdd := by
  intro H μ st x y v u Qd Q s rx ry h hQ
  cases x with
  | int i =>
    cases y <;> first | exact (show False from h).elim | skip
    exact .inl ⟨_, _, rx, ry, hQ _ _ _ _ _ h (Ext.refl _ _) s rfl⟩
  | str a =>
    cases y <;> first | exact (show False from h).elim | skip
    exact .inr (.inl ⟨_, _, rx, ry, h.1, hQ _ _ _ _ _ h.2 (Ext.refl _ _) s rfl⟩)
  | tup a =>
    cases y <;> first | exact (show False from h).elim | skip
    rename_i b
    obtain ⟨p, vs, rfl, hs, hr⟩ := rx
    obtain ⟨q, us, rfl, hs', hr'⟩ := ry
    refine .inr (.inr (.inl ⟨p, q, vs, us, rfl, rfl, hs, hs', by rw [← hr.length, ← hr'.length]; exact h.1, fun e => ?_, fun _ e => ?_, fun _ _ => ?_⟩))
    · subst e
      have : a = [] := List.eq_nil_of_length_eq_zero hr.length
      subst this
      exact hQ _ _ _ _ _ h.2 (Ext.refl _ _) s ⟨q, us, rfl, hs', hr'⟩
    · subst e
      have : b = [] := List.eq_nil_of_length_eq_zero hr'.length
      subst this
      have h2 := h.2
      rw [List.append_nil] at h2
      exact hQ _ _ _ _ _ h2 (Ext.refl _ _) s ⟨p, vs, rfl, hs, hr⟩
    · exact hQ.tupF (Ext.refl _ _) s (hr.append hr') h.2
  | loc m =>
    cases y <;> first | exact (show False from h).elim | skip
    rename_i n
    obtain ⟨a, b, ha, hb, hz, q⟩ := h
    obtain ⟨p, rfl, hp⟩ := rx
    obtain ⟨p', rfl, hp'⟩ := ry
    obtain ⟨_, o, e1, e2, vs, rfl, hr⟩ := s.at' _ _ ha
    rw [hp] at e1; cases e1
    obtain ⟨_, o, e1, e3, us, rfl, hr'⟩ := s.at' _ _ hb
    rw [hp'] at e1; cases e1
    exact .inr (.inr (.inr ⟨p, p', vs, us, rfl, rfl, e2, e3, by rw [← hr.length, ← hr'.length]; exact hz, fun o ho => hQ.lst (Ext.refl _ _) s (hr.append hr') q ho⟩))
  | _ => exact (show False from h).elim
def dMul : D2 := fun x y st Q => match x, y with | .int i, .int j => CMul i j ∧ Q (.int (i * j)) st | _, _ => False
def dDiv : D2 := fun x y st Q => match x, y with | .int i, .int j => CDiv i j ∧ Q (.int (i / j)) st | _, _ => False
def dMod : D2 := fun x y st Q => match x, y with | .int i, .int j => 0 < j ∧ Q (.int (i % j)) st | _, _ => False
def dPow : D2 := fun x y st Q => match x, y with | .int i, .int j => CPow i j ∧ Q (.int (i ^ j.toNat)) st | _, _ => False
theorem mul_ok : DOp K (rI CMul fun i j => .int (i * j)) dMul := DOp.ic (f := fun i j => .int (i * j)) fun i j _ _ => rfl
theorem div_ok : DOp K (rI CDiv fun i j => .int (i / j)) dDiv := DOp.ic (f := fun i j => .int (i / j)) fun i j _ _ => rfl
theorem mod_ok : DOp K (rI (fun _ j => 0 < j) fun i j => .int (i % j)) dMod := DOp.ic (f := fun i j => .int (i % j)) fun i j _ _ => rfl
theorem pow_ok : DOp K (rI CPow fun i j => .int (i ^ j.toNat)) dPow := DOp.ic (f := fun i j => .int (i ^ j.toNat)) fun i j _ _ => rfl
end
section
variable {X : Cx} {W : WX} {a b e : Expr} {ta tb te : DTE} {pos : Pos}
theorem de_add (ha : DE X W a ta) (hb : DE X W b tb) : DE X W (.BinOp a .Add b pos) (dOp dAdd ta tb) := de_op (op_add.or (op_add_str.or (TD.op_catF.or op_cat))) add_ok ha hb
theorem de_mul (ha : DE X W a ta) (hb : DE X W b tb) : DE X W (.BinOp a .Mult b pos) (dOp dMul ta tb) := de_op op_mul mul_ok ha hb
theorem de_div (ha : DE X W a ta) (hb : DE X W b tb) : DE X W (.BinOp a .FloorDiv b pos) (dOp dDiv ta tb) := de_op op_fdiv div_ok ha hb
theorem de_mod (ha : DE X W a ta) (hb : DE X W b tb) : DE X W (.BinOp a .Mod b pos) (dOp dMod ta tb) := de_op op_mod mod_ok ha hb
theorem de_pow (ha : DE X W a ta) (hb : DE X W b tb) : DE X W (.BinOp a .Pow b pos) (dOp dPow ta tb) := de_op op_pow pow_ok ha hb
end
end DL
namespace DL
open PySem L2 PySem.Spec
open PyProof.Rows hiding St
variable [TC : TabCtx]
def pdF (st : Sto) : Nat → D → Option PyData
  | _, .non => some .none
  | _, .bl b => some (.bool b)
  | _, .int i => some (.int i)
  | _, .str x => some (.str x)
  | n + 1, .tup ds => (ds.mapM (pdF st n)).map .tuple
  | n + 1, .fls ds => (ds.mapM (pdF st n)).map .list
  | n + 1, .loc m => match st[m]? with
    | some (.lst ds) => (ds.mapM (pdF st n)).map .list
    | _ => none
  | _, _ => none
section
variable {K : PySem.W.Frag} {H : Hp} {μ : List Addr} {st : Sto}
theorem mapM_cons_some {α β : Type} {f : α → Option β} {x : α} {xs : List α} {ps : List β} (h : (x :: xs).mapM f = some ps) : ∃ p qs, ps = p :: qs ∧ f x = some p ∧ xs.mapM f = some qs := by
  rw [List.mapM_cons] at h
  cases e1 : f x with
  | none => rw [e1] at h; cases h
  | some p =>
    cases e2 : xs.mapM f with
    | none => rw [e1, e2] at h; cases h
    | some qs =>
      rw [e1, e2] at h
      cases h
      exact ⟨p, qs, rfl, rfl, rfl⟩
theorem dpAll_of (s : SRep K st μ H) {n : Nat} (ih : ∀ d v p, Rep K H μ d v → pdF st n d = some p → Dp K H v p) : ∀ {ds : List D} {vs : List V} {ps : List PyData}, Reps K H μ ds vs → ds.mapM (pdF st n) = some ps → DpAll K H vs ps
  | [], _, _, r, h => by
    subst r
    cases h
    exact .nil
  | d :: ds, _, _, r, h => by
    obtain ⟨v, rs, rfl, r1, r2⟩ := r
    obtain ⟨p, qs, rfl, h1, h2⟩ := mapM_cons_some h
    exact .cons (ih d v p r1 h1) (dpAll_of s ih r2 h2)
theorem dp_of (s : SRep K st μ H) : ∀ (n : Nat) (d : D) (v : V) (p : PyData), Rep K H μ d v → pdF st n d = some p → Dp K H v p := by
  intro n
  induction n with
  | zero =>
    intro d v p r h
    cases d <;> simp only [pdF] at h <;> first | (cases h; rw [show v = _ from r]; constructor) | cases h
  | succ n ih =>
    intro d v p r h
    cases d with
    | non => cases h; rw [show v = _ from r]; constructor
    | bl b => cases h; rw [show v = _ from r]; constructor
    | int i => cases h; rw [show v = _ from r]; constructor
    | str x => cases h; rw [show v = _ from r]; constructor
    | tup ds =>
      obtain ⟨a, vs, rfl, hs, hr⟩ := r
      simp only [pdF, Option.map_eq_some_iff] at h
      obtain ⟨ps, h1, rfl⟩ := h
      exact .tup hs (dpAll_of s ih hr h1)
    | fls ds =>
      obtain ⟨a, vs, rfl, hs, hr⟩ := r
      simp only [pdF, Option.map_eq_some_iff] at h
      obtain ⟨ps, h1, rfl⟩ := h
      exact .lst hs.sq (dpAll_of s ih hr h1)
    | loc m =>
      obtain ⟨a, rfl, hm⟩ := r
      simp only [pdF] at h
      split at h
      · rename_i ds e
        obtain ⟨a', o, e1, e2, vs, rfl, hr⟩ := s.at' _ _ e
        rw [hm] at e1; cases e1
        simp only [Option.map_eq_some_iff] at h
        obtain ⟨ps, h1, rfl⟩ := h
        exact .lst (.inl (.inl e2)) (dpAll_of s ih hr h1)
      · cases h
    | adr a => cases h
    | ty t => cases h
def atomEq : D → D → Option Bool
  | .int i, .int j => some (decide (i = j))
  | .str x, .str y => some (decide (x = y))
  | .bl a, .bl b => some (decide (a = b))
  | .non, .non => some true
  | .non, .int _ => some false
  | .int _, .non => some false
  | .non, .str _ => some false
  | .str _, .non => some false
  | .non, .bl _ => some false
  | .bl _, .non => some false
  | .int _, .str _ => some false
  | .str _, .int _ => some false
  | _, _ => none
def dEqB (f : Bool → Bool) : D2 := fun x y st Q => match atomEq x y with
  | some b => Q (.bl (f b)) st
  | none => ∃ n d e, pdF st n x = some d ∧ pdF st n y = some e ∧ SeqAt.shaped d = true ∧ SeqAt.shaped e = true ∧ Q (.bl (f (PyData.eqv d e))) st
abbrev dEq : D2 := dEqB id
abbrev dNe : D2 := dEqB not
theorem atomEq_ok {x y : D} {v u : V} {b : Bool} (h : atomEq x y = some b) (rx : Rep K H μ x v) (ry : Rep K H μ y u) : scal v u = true ∧ decide (v = u) = b := by
  cases x <;> cases y <;> simp only [atomEq] at h <;> first | (cases h; done) | skip
  all_goals
    cases h
    rw [show v = _ from rx, show u = _ from ry]
    refine ⟨rfl, ?_⟩
    simp
theorem eq_ok : DOp K (fun x y H Q => rEq x y H Q ∨ rEqD K x y H Q) dEq := by
  intro H μ st x y v u Qd Q s rx ry h hQ
  unfold dEq dEqB at h
  split at h
  · rename_i b e
    obtain ⟨h1, h2⟩ := atomEq_ok e rx ry
    exact .inl ⟨h1, by rw [h2]; exact hQ _ _ _ _ _ h (Ext.refl _ _) s rfl⟩
  · obtain ⟨n, d, e, h1, h2, h3, h4, q⟩ := h
    exact .inr ⟨d, e, dp_of s n x v d rx h1, dp_of s n y u e ry h2, h3, h4, hQ _ _ _ _ _ q (Ext.refl _ _) s rfl⟩
theorem ne_ok : DOp K (fun x y H Q => rNe x y H Q ∨ rNeD K x y H Q) dNe := by
  intro H μ st x y v u Qd Q s rx ry h hQ
  unfold dNe dEqB at h
  split at h
  · rename_i b e
    obtain ⟨h1, h2⟩ := atomEq_ok e rx ry
    exact .inl ⟨h1, by rw [h2]; exact hQ _ _ _ _ _ h (Ext.refl _ _) s rfl⟩
  · obtain ⟨n, d, e, h1, h2, h3, h4, q⟩ := h
    exact .inr ⟨d, e, dp_of s n x v d rx h1, dp_of s n y u e ry h2, h3, h4, hQ _ _ _ _ _ q (Ext.refl _ _) s rfl⟩
/-- an order of ints; of texts, tuples, lists by dataLt -/
def dOrd (f : Int → Int → Bool) (g : PyData → PyData → Bool) : D2 := fun x y st Q => match x, y with
  | .int i, .int j => Q (.bl (f i j)) st
  | x, y => ∃ n d e, pdF st n x = some d ∧ pdF st n y = some e ∧ PySem.W.alike d e = true ∧ d ≠ .none ∧ d.depth ≤ 64 ∧ Q (.bl (g d e)) st
abbrev dLt : D2 := dOrd (fun i j => decide (i < j)) PySem.W.dataLt
abbrev dGt : D2 := dOrd (fun i j => decide (j < i)) fun d e => PySem.W.dataLt e d
abbrev dLe : D2 := dOrd (fun i j => decide (i ≤ j)) fun d e => !PySem.W.dataLt e d
abbrev dGe : D2 := dOrd (fun i j => decide (j ≤ i)) fun d e => !PySem.W.dataLt d e
def rOrdD (K : PySem.W.Frag) (g : PyData → PyData → Bool) : R2 := fun x y H Q => ∃ d e, Dp K H x d ∧ Dp K H y e ∧ PySem.W.alike d e = true ∧ d ≠ .none ∧ d.depth ≤ 64 ∧ Q (.bl (g d e)) H
theorem ord_ok {f : Int → Int → Bool} {g : PyData → PyData → Bool} : DOp K (fun x y H Q => rI0 (fun i j => .bl (f i j)) x y H Q ∨ rOrdD K g x y H Q) (dOrd f g) := by
  intro H μ st x y v u Qd Q s rx ry h hQ
  unfold dOrd at h
  split at h
  · exact .inl ⟨_, _, rx, ry, hQ _ _ _ _ _ h (Ext.refl _ _) s rfl⟩
  · obtain ⟨n, d, e, h1, h2, h3, h4, h5, q⟩ := h
    exact .inr ⟨d, e, dp_of s n _ v d rx h1, dp_of s n _ u e ry h2, h3, h4, h5, hQ _ _ _ _ _ q (Ext.refl _ _) s rfl⟩
end
section
variable {X : Cx}
theorem op_ordD {op : CmpOp} {g : PyData → PyData → Bool} (hu : X.A.units + 64 < cLine)
    (rule : ∀ (s : Shared) (E : Value → Shared → Prop) (a b : Value) (da db : PyData) (as bs : List Addr) (Q : Value → Shared → Prop), Reads s.heap a da as → Reads s.heap b db bs → PySem.W.alike da db = true → da ≠ .none → X.A.units + min da.depth db.depth < cLine → Q (.bool (g da db)) s → wpAny (model X.prog X.w) X.A (compareOp op a b) Q E s) :
    OpR X (compareOp op) (rOrdD X.K g) := by
  intro pins s σ H x y v u Q I rx ry h
  obtain ⟨d, e, hd, he, ha, hn, hdp, q⟩ := h
  obtain ⟨as, r1⟩ := Dp.reads I d x v hd rx
  obtain ⟨bs, r2⟩ := Dp.reads I e y u he ry
  have hm : min d.depth e.depth ≤ d.depth := Nat.min_le_left _ _
  exact rule s _ v u d e as bs _ r1 r2 ha hn (by omega) ⟨.bl _, H, I, rfl, q⟩
theorem op_ltA (hu : X.A.units + 64 < cLine) : OpR X (compareOp .Lt) (rOrdD X.K PySem.W.dataLt) := op_ordD hu fun _ _ _ _ _ _ _ _ _ h1 h2 h3 h4 h5 q => PySem.W.lt_data h1 h2 h3 h4 h5 q
theorem op_gtA (hu : X.A.units + 64 < cLine) : OpR X (compareOp .Gt) (rOrdD X.K fun d e => PySem.W.dataLt e d) := op_ordD hu fun _ _ _ _ _ _ _ _ _ h1 h2 h3 h4 h5 q => PySem.W.gt_data h1 h2 h3 h4 h5 q
theorem op_leA (hu : X.A.units + 64 < cLine) : OpR X (compareOp .LtE) (rOrdD X.K fun d e => !PySem.W.dataLt e d) := op_ordD hu fun _ _ _ _ _ _ _ _ _ h1 h2 h3 h4 h5 q => PySem.W.le_data h1 h2 h3 h4 h5 q
theorem op_geA (hu : X.A.units + 64 < cLine) : OpR X (compareOp .GtE) (rOrdD X.K fun d e => !PySem.W.dataLt d e) := op_ordD hu fun _ _ _ _ _ _ _ _ _ h1 h2 h3 h4 h5 q => PySem.W.ge_data h1 h2 h3 h4 h5 q
/-- a comparison, by values: the operator's rule and its data form -/
structure Cm (X : Cx) (op : CmpOp) (dr : D2) : Prop where
  ex : ∃ r, OpR X (compareOp op) r ∧ DOp X.K r dr
theorem cm_eq (hu : X.A.units + 64 < cLine) : Cm X .Eq dEq := ⟨_, op_eq.or (op_eqD hu), eq_ok⟩
theorem cm_ne (hu : X.A.units + 64 < cLine) : Cm X .NotEq dNe := ⟨_, op_ne.or (op_neD hu), ne_ok⟩
theorem cm_lt (hu : X.A.units + 64 < cLine) : Cm X .Lt dLt := ⟨_, op_lt.or (op_ltA hu), ord_ok⟩
theorem cm_gt (hu : X.A.units + 64 < cLine) : Cm X .Gt dGt := ⟨_, op_gt.or (op_gtA hu), ord_ok⟩
theorem cm_le (hu : X.A.units + 64 < cLine) : Cm X .LtE dLe := ⟨_, op_le.or (op_leA hu), ord_ok⟩
theorem cm_ge (hu : X.A.units + 64 < cLine) : Cm X .GtE dGe := ⟨_, op_ge.or (op_geA hu), ord_ok⟩
/-- is None, is not None -/
def isNonD : D → Bool
  | .non => true
  | _ => false
def dIsN (f : Bool → Bool) : D2 := fun x y st Q => match y with | .non => Q (.bl (f (isNonD x))) st | _ => False
theorem isNon_ok {K : PySem.W.Frag} {H : Hp} {μ : List Addr} {x : D} {v : V} (r : Rep K H μ x v) : decide (v = .non) = isNonD x := by
  cases x with
  | non => rw [show v = _ from r]; rfl
  | bl _ => rw [show v = _ from r]; rfl
  | int _ => rw [show v = _ from r]; rfl
  | str _ => rw [show v = _ from r]; rfl
  | adr _ => rw [show v = _ from r]; rfl
  | ty _ => rw [show v = _ from r]; rfl
  | tup _ => obtain ⟨a, vs, rfl, _⟩ := r; rfl
  | fls _ => obtain ⟨a, vs, rfl, _⟩ := r; rfl
  | loc _ => obtain ⟨a, rfl, _⟩ := r; rfl
theorem cm_isnot : Cm X .IsNot (dIsN not) := ⟨_, op_notN, fun {H μ st x y v u Qd Q} s rx ry h hQ => by
  cases y <;> first | exact (show False from h).elim | skip
  exact ⟨ry, by rw [isNon_ok rx]; exact hQ _ _ _ _ _ h (Ext.refl _ _) s rfl⟩⟩
/-- x in (a, b, ..), [a, b, ..]: flat items -/
def flatD : D → Bool
  | .non => true
  | .bl _ => true
  | .int _ => true
  | .str _ => true
  | _ => false
/-- a flat datum as a value -/
def flatVal : D → V
  | .bl b => .bl b
  | .int i => .int i
  | .str x => .str x
  | _ => .non
def inD (x : D) (ds : List D) : Bool := inV (flatVal x) (ds.map flatVal)
def itemsD (st : Sto) : D → Option (List D)
  | .tup ds => some ds
  | .fls ds => some ds
  | .loc n => match st[n]? with | some (.lst ds) => some ds | _ => none
  | _ => none
def dIn (neg : Bool) : D2 := fun x y st Q => ∃ ds, itemsD st y = some ds ∧ flatD x = true ∧ ds.all flatD = true ∧ Q (.bl (if neg then !inD x ds else inD x ds)) st
theorem flat_rep {K : PySem.W.Frag} {H : Hp} {μ : List Addr} {x : D} {v : V} (r : Rep K H μ x v) (h : flatD x = true) : v = flatVal x ∧ flatV v = true := by
  cases x <;> first | (cases h; done) | skip
  all_goals
    rw [show v = _ from r]
    exact ⟨rfl, rfl⟩
theorem flats_rep {K : PySem.W.Frag} {H : Hp} {μ : List Addr} : ∀ {ds : List D} {vs : List V}, Reps K H μ ds vs → ds.all flatD = true → vs = ds.map flatVal ∧ vs.all flatV = true
  | [], _, r, _ => by subst r; exact ⟨rfl, rfl⟩
  | d :: ds, _, r, h => by
    obtain ⟨v, rs, rfl, r1, r2⟩ := r
    simp only [List.all_cons, Bool.and_eq_true] at h
    obtain ⟨e1, e2⟩ := flat_rep r1 h.1
    obtain ⟨e3, e4⟩ := flats_rep r2 h.2
    subst e1 e3
    exact ⟨rfl, by simp only [List.all_cons, Bool.and_eq_true]; exact ⟨e2, e4⟩⟩
theorem items_ok {K : PySem.W.Frag} {H : Hp} {μ : List Addr} {st : Sto} {y : D} {u : V} {ds : List D} (s : SRep K st μ H) (r : Rep K H μ y u) (h : itemsD st y = some ds) : ∃ p vs, u = .ref p ∧ (SqL K H p vs ∨ SqT K H p vs) ∧ Reps K H μ ds vs := by
  cases y <;> simp only [itemsD] at h <;> first | (cases h; done) | skip
  · cases h
    obtain ⟨a, vs, rfl, hs, hr⟩ := r
    exact ⟨a, vs, rfl, .inr hs, hr⟩
  · cases h
    obtain ⟨a, vs, rfl, hs, hr⟩ := r
    exact ⟨a, vs, rfl, .inl hs.sq, hr⟩
  · obtain ⟨a, rfl, hn⟩ := r
    split at h
    · rename_i ds' e
      cases h
      obtain ⟨a', o, e1, e2, vs, rfl, hr⟩ := s.at' _ _ e
      rw [hn] at e1; cases e1
      exact ⟨a, vs, rfl, .inl (.inl (.inl e2)), hr⟩
    · cases h
theorem in_ok {K : PySem.W.Frag} {neg : Bool} : DOp K (rIn K neg) (dIn neg) := by
  intro H μ st x y v u Qd Q s rx ry h hQ
  obtain ⟨ds, h1, h2, h3, q⟩ := h
  obtain ⟨p, vs, rfl, hs, hr⟩ := items_ok s ry h1
  obtain ⟨e1, f1⟩ := flat_rep rx h2
  obtain ⟨e2, f2⟩ := flats_rep hr h3
  refine ⟨p, vs, rfl, hs, f1, f2, ?_⟩
  subst e1 e2
  exact hQ _ _ _ _ _ q (Ext.refl _ _) s rfl
theorem cm_in : Cm X .In (dIn false) := ⟨_, op_in_seq, in_ok⟩
end
section
variable {X : Cx} {W : WX} {a b c e : Expr} {ta tb tc : DTE} {pos : Pos} {op op' : CmpOp} {dr dr' : D2}
theorem de_cm (C : Cm X op dr) (hm : behindInMarks op b = false) (ha : DE X W a ta) (hb : DE X W b tb) : DE X W (.Compare a [op] [b] pos) (dOp dr ta tb) := by
  obtain ⟨r, ho, hr⟩ := C.ex
  exact de_cmp ho hr hm ha hb
theorem dt_cm (C : Cm X op dr) (hm : behindInMarks op b = false) (ha : DE X W a ta) (hb : DE X W b tb) : DT X W (.Compare a [op] [b] pos) (dTest (dOp dr ta tb)) := by
  obtain ⟨r, ho, hr⟩ := C.ex
  exact dt_cmp ho hr hm ha hb
end
end DL
namespace DL
open PySem L2 PySem.Spec
open PyProof.Rows hiding St
variable [TC : TabCtx]
section
variable {K : PySem.W.Frag} {H : Hp} {μ : List Addr} {st : Sto}
theorem CallR.or {X : Cx} {f : Value} {r r' : List V → Hp → VK → Prop} (h : CallR X f r) (h' : CallR X f r') : CallR X f (fun xs H Q => r xs H Q ∨ r' xs H Q) := by
  intro pins s σ H xs us Q I r q
  rcases q with q | q
  · exact h pins s σ H xs us Q I r q
  · exact h' pins s σ H xs us Q I r q
theorem reps1 {d : D} {vs : List V} (h : Reps K H μ [d] vs) : ∃ v, vs = [v] ∧ Rep K H μ d v := by
  obtain ⟨v, r, rfl, h1, h2⟩ := h
  exact ⟨v, by rw [show r = [] from h2], h1⟩
/-- len -/
def lenD (st : Sto) : D → (Nat → Prop) → Prop
  | .str z, Q => z.length ≤ sizeLine ∧ Q z.length
  | .tup ds, Q => Q ds.length
  | .fls ds, Q => Q ds.length
  | .loc n, Q => match st[n]? with | some (.lst ds) => Q ds.length | _ => False
  | _, _ => False
def dLen : DN := fun ds st Q => match ds with | [d] => lenD st d fun n => Q (.int n) st | _ => False
theorem len_ok : DCl K (fun xs H Q => (∃ p ys, xs = [.ref p] ∧ (SqL K H p ys ∨ SqT K H p ys) ∧ Q (.int ys.length) H) ∨ ∃ z, xs = [.str z] ∧ z.length ≤ sizeLine ∧ Q (.int z.length) H) dLen := by
  intro H μ st ds vs Qd Q s r h hQ
  obtain ⟨d, rfl⟩ : ∃ d, ds = [d] := by
    cases ds with
    | nil => exact (show False from h).elim
    | cons d t1 =>
      cases t1 with
      | nil => exact ⟨d, rfl⟩
      | cons _ _ => exact (show False from h).elim
  focus
    obtain ⟨v, rfl, r1⟩ := reps1 r
    cases d with
    | str z => rw [show v = _ from r1]; exact .inr ⟨z, rfl, h.1, hQ _ _ _ _ _ h.2 (Ext.refl _ _) s rfl⟩
    | tup ds =>
      obtain ⟨a, vs, rfl, hs, hr⟩ := r1
      exact .inl ⟨a, vs, rfl, .inr hs, by rw [← hr.length]; exact hQ _ _ _ _ _ h (Ext.refl _ _) s rfl⟩
    | fls ds =>
      obtain ⟨a, vs, rfl, hs, hr⟩ := r1
      exact .inl ⟨a, vs, rfl, .inl hs.sq, by rw [← hr.length]; exact hQ _ _ _ _ _ h (Ext.refl _ _) s rfl⟩
    | loc n =>
      obtain ⟨a, rfl, hn⟩ := r1
      simp only [dLen, lenD] at h
      split at h
      · rename_i ds e
        obtain ⟨a', o, e1, e2, vs, rfl, hr⟩ := s.at' _ _ e
        rw [hn] at e1; cases e1
        exact .inl ⟨a, vs, rfl, .inl (.inl (.inl e2)), by rw [← hr.length]; exact hQ _ _ _ _ _ h (Ext.refl _ _) s rfl⟩
      · exact h.elim
    | _ => exact (show False from h).elim
/-- abs, int -/
def dAbs : DN := fun ds st Q => match ds with | [.int i] => Q (.int (if i < 0 then -i else i)) st | _ => False
theorem abs_ok : DCl K (fun xs H Q => ∃ i, xs = [.int i] ∧ Q (.int (if i < 0 then -i else i)) H) dAbs := by
  intro H μ st ds vs Qd Q s r h hQ
  unfold dAbs at h
  split at h
  · exact ⟨_, r.ints1, hQ _ _ _ _ _ h (Ext.refl _ _) s rfl⟩
  · exact h.elim
def dInt : DN := fun ds st Q => match ds with
  | [.int i] => Q (.int i) st
  | [.bl k] => Q (.int (if k then 1 else 0)) st
  | [.str a] => ∃ n, PySem.intText? a = some n ∧ a.length ≤ 640 ∧ Q (.int n) st
  | _ => False
theorem int_ok : DCl K (fun xs H Q => ((∃ i, xs = [.int i] ∧ Q (.int i) H) ∨ ∃ k, xs = [.bl k] ∧ Q (.int (if k then 1 else 0)) H) ∨ ∃ a n, xs = [.str a] ∧ PySem.intText? a = some n ∧ a.length ≤ 640 ∧ Q (.int n) H) dInt := by
  intro H μ st ds vs Qd Q s r h hQ
  unfold dInt at h
  split at h
  · exact .inl (.inl ⟨_, r.ints1, hQ _ _ _ _ _ h (Ext.refl _ _) s rfl⟩)
  · obtain ⟨v, rfl, r1⟩ := reps1 r
    exact .inl (.inr ⟨_, by rw [show v = _ from r1], hQ _ _ _ _ _ h (Ext.refl _ _) s rfl⟩)
  · obtain ⟨v, rfl, r1⟩ := reps1 r
    obtain ⟨n, h1, h2, q⟩ := h
    exact .inr ⟨_, n, by rw [show v = _ from r1], h1, h2, hQ _ _ _ _ _ q (Ext.refl _ _) s rfl⟩
  · exact h.elim
/-- tuple(..), list(..) -/
def dTupOf : DN := fun ds st Q => match ds with | [d] => (match itemsD st d with | some es => Q (.tup es) st | none => False) | _ => False
def dLstOf : DN := fun ds st Q => match ds with | [d] => (match itemsD st d with | some es => Q (.loc st.length) (st ++ [.lst es]) | none => False) | _ => False
/-- all, any of bools -/
theorem reps_bools : ∀ {bs : List Bool} {vs : List V}, Reps K H μ (bs.map D.bl) vs → vs = bs.map V.bl
  | [], _, r => r
  | b :: bs, _, r => by
    obtain ⟨v, rs, rfl, r1, r2⟩ := r
    rw [show v = _ from r1, reps_bools r2]
    rfl
def dAll : DN := fun ds st Q => match ds with | [.loc n] => ∃ bs : List Bool, st[n]? = some (.lst (bs.map .bl)) ∧ Q (.bl (bs.all id)) st | _ => False
def dAny : DN := fun ds st Q => match ds with | [.loc n] => ∃ bs : List Bool, st[n]? = some (.lst (bs.map .bl)) ∧ Q (.bl (bs.any id)) st | _ => False
theorem all_ok : DCl K (rAll K) dAll := by
  intro H μ st ds vs Qd Q s r h hQ
  unfold dAll at h
  split at h
  · obtain ⟨v, rfl, a, rfl, hn⟩ := reps1 r
    obtain ⟨bs, hb, q⟩ := h
    obtain ⟨a', o, e1, e2, vs, rfl, hr⟩ := s.at' _ _ hb
    rw [hn] at e1; cases e1
    rw [reps_bools hr] at e2
    exact ⟨a, bs, rfl, .inl (.inl e2), hQ _ _ _ _ _ q (Ext.refl _ _) s rfl⟩
  · exact h.elim
/-- append, extend, pop, clear, reverse of a list of the store -/
def dAppend : DM := fun x ds st Q => match x, ds with | .loc n, [d] => ∃ es, st[n]? = some (.lst es) ∧ es.length < sizeLine ∧ Q .non (st.set n (.lst (es ++ [d]))) | _, _ => False
theorem append_ok : DMt K rAppend dAppend := by
  intro H μ st x v ds vs Qd Q s rx rs h hQ
  unfold dAppend at h
  split at h
  · obtain ⟨u, rfl, ru⟩ := reps1 rs
    obtain ⟨a, rfl, hn⟩ := rx
    obtain ⟨es, he, hz, q⟩ := h
    obtain ⟨a', o, e1, e2, vs, rfl, hr⟩ := s.at' _ _ he
    rw [hn] at e1; cases e1
    have w := s.write (o' := .lst (vs ++ [u])) (b := .lst (es ++ [_])) hn e2 ⟨_, rfl, hr.append (Reps.one ru)⟩
    exact ⟨a, vs, u, rfl, rfl, e2, by rw [← hr.length]; exact hz, hQ _ _ _ _ _ q w.1 w.2 rfl⟩
  · exact h.elim
def dExtend : DM := fun x ds st Q => match x, ds with | .loc n, [.loc m] => ∃ es fs, st[n]? = some (.lst es) ∧ st[m]? = some (.lst fs) ∧ es.length + fs.length ≤ sizeLine ∧ Q .non (st.set n (.lst (es ++ fs))) | _, _ => False
def dPop : DM := fun x ds st Q => match x, ds with | .loc n, [] => ∃ es d, st[n]? = some (.lst es) ∧ es[es.length - 1]? = some d ∧ Q d (st.set n (.lst es.dropLast)) | _, _ => False
end
section
variable {X : Cx} {W : WX} {e : Expr} {es : List Expr} {t : DTA} {pos p apos : Pos} {o : Expr} {to : DTE}
/-- the calls; each x is a built-in's name that the module does not take -/
theorem de_len (hg : Gl X "len") (hm : X.mg "len" = none) (ha : DA X W (e :: es) t) (he : starEach (e :: es) X.env = (false, eval e X.env) :: starEach es X.env := by rfl) (hpl : (backTo pos (starEach es X.env)).any (·.1) = false := by rfl) :
    DE X W (.Call (.Name "len" p) (e :: es) [] pos) (dCB dLen t) := de_callB (CallR.or call_len_seq call_len_str) len_ok hg hm PySem.boot_len ha (by decide) (by decide) he hpl
theorem de_abs (hg : Gl X "abs") (hm : X.mg "abs" = none) (ha : DA X W (e :: es) t) (he : starEach (e :: es) X.env = (false, eval e X.env) :: starEach es X.env := by rfl) (hpl : (backTo pos (starEach es X.env)).any (·.1) = false := by rfl) :
    DE X W (.Call (.Name "abs" p) (e :: es) [] pos) (dCB dAbs t) := de_callB call_abs abs_ok hg hm PyProof.Rows.boot_abs ha (by decide) (by decide) he hpl
theorem de_int' (hg : Gl X "int") (hm : X.mg "int" = none) (ha : DA X W (e :: es) t) (he : starEach (e :: es) X.env = (false, eval e X.env) :: starEach es X.env := by rfl) (hpl : (backTo pos (starEach es X.env)).any (·.1) = false := by rfl) :
    DE X W (.Call (.Name "int" p) (e :: es) [] pos) (dCB dInt t) := de_callTy (CallR.or call_int1 call_int_str) int_ok hg hm PyProof.Rows.boot_int ha (by decide) (by decide) he hpl
theorem de_all (hc : X.calm = true) (hg : Gl X "all") (hm : X.mg "all" = none) (ha : DA X W (e :: es) t) (he : starEach (e :: es) X.env = (false, eval e X.env) :: starEach es X.env := by rfl) (hpl : (backTo pos (starEach es X.env)).any (·.1) = false := by rfl) :
    DE X W (.Call (.Name "all" p) (e :: es) [] pos) (dCB dAll t) := de_callB (cr_all hc) all_ok hg hm PyProof.Rows.boot_all ha (by decide) (by decide) he hpl
theorem de_append (ho : DE X W o to) (ha : DA X W [e] t) (hbase : attributeBase o "append" X.env (eval o X.env) = eval o X.env := by rfl)
    (hfew : ((backTo pos (starEach [e] X.env)).all (fun x => !x.1) && (backToKw pos (keywordEach [] X.env)).all (fun x => x.1.isSome) && decide ([e].length + ([] : List Keyword).length + (if ([] : List Keyword).isEmpty then 0 else 1) < 30)) = true := by rfl)
    (hline : (apos.endLine == pos.line) = true := by rfl) (hs : starEach [e] X.env = (false, eval e X.env) :: starEach [] X.env := by rfl) (hplain : (backTo pos (starEach [] X.env)).any (·.1) = false := by rfl) :
    DE X W (.Call (.Attribute o "append" apos) [e] [] pos) (dBM "list" dAppend to t) := de_bm PySem.F.plainAttrs_list PySem.F.slot_list_append PySem.F.type_list_append mt_append append_ok ho ha hbase hfew hline hs hplain
end
end DL
namespace DL
open PySem L2 PySem.Spec
open PyProof.Rows hiding St
variable [TC : TabCtx]
/-- a datum's type, where it is a built-in one -/
def tyN (st : Sto) : D → Option String
  | .non => some "NoneType"
  | .bl _ => some "bool"
  | .int _ => some "int"
  | .str _ => some "str"
  | .tup _ => some "tuple"
  | .fls _ => some "list"
  | .loc n => match st[n]? with
    | some (.lst _) => some "list"
    | some (.dK _) => some "dict"
    | some (.dkF _ _) => some "dict"
    | _ => none
  | _ => none
def tySub (a b : String) : Bool := a == b || (a == "bool" && b == "int")
theorem kitB_ok : ∀ a ∈ ["NoneType", "bool", "int", "str", "tuple", "list", "dict"], ∀ b ∈ ["bool", "int", "str", "tuple", "list", "dict"], kitB a b = some (tySub a b) := by decide +kernel
section
variable {K : PySem.W.Frag} {H : Hp} {μ : List Addr} {st : Sto}
theorem tyN_mem {d : D} {a : String} (h : tyN st d = some a) : a ∈ ["NoneType", "bool", "int", "str", "tuple", "list", "dict"] := by
  cases d <;> simp only [tyN] at h <;> first | (cases h; done) | (cases h; simp; done) | skip
  split at h <;> first | (cases h; simp; done) | cases h
theorem tyN_ok {d : D} {v : V} {a : String} (s : SRep K st μ H) (r : Rep K H μ d v) (h : tyN st d = some a) : TyX K H v (.type a) := by
  cases d with
  | non => cases h; rw [show v = _ from r]; exact .base .non
  | bl b => cases h; rw [show v = _ from r]; exact .base (.bl b)
  | int b => cases h; rw [show v = _ from r]; exact .base (.int b)
  | str b => cases h; rw [show v = _ from r]; exact .base (.str b)
  | tup ds =>
    cases h
    obtain ⟨a, vs, rfl, hs, hr⟩ := r
    rcases hs with (hs | ⟨o, hs⟩) | ⟨o, its, n, hk, hc, _⟩
    · exact .base (.tup hs)
    · exact .fTuple hs
    · exact .kTuple hk hc
  | fls ds =>
    cases h
    obtain ⟨a, vs, rfl, hs, hr⟩ := r
    rcases hs with ⟨o, hs⟩ | ⟨o, its, n, hk, hc, _⟩
    · exact .base (.frz hs)
    · exact .kList hk hc
  | loc n =>
    obtain ⟨a, rfl, hn⟩ := r
    simp only [tyN] at h
    split at h
    · rename_i ds e
      cases h
      obtain ⟨a', o, e1, e2, vs, rfl, hr⟩ := s.at' _ _ e
      rw [hn] at e1; cases e1
      exact .base (.lst e2)
    · rename_i kvs e
      cases h
      obtain ⟨a', o, e1, e2, gs, rfl, hk, hr⟩ := s.at' _ _ e
      rw [hn] at e1; cases e1
      exact .base (.dK e2)
    · rename_i od kvs e
      cases h
      obtain ⟨a', o, e1, e2, gs, rfl, hk, hr⟩ := s.at' _ _ e
      rw [hn] at e1; cases e1
      exact .fDict e2
    · cases h
  | _ => cases h
end
/-- the classes as written: built-in types' names -/
def dIsi (ta : DTE) (Ts : List String) : DTE := fun ρ st Q Z => ta ρ st (fun x st1 => match tyN st1 x with | some a => Q (.bl (Ts.any (tySub a))) st1 | none => False) Z
theorem kitAny_ok {K : PySem.W.Frag} {a : String} (ha : a ∈ ["NoneType", "bool", "int", "str", "tuple", "list", "dict"]) : ∀ {Ts : List String}, (∀ T ∈ Ts, T ∈ ["bool", "int", "str", "tuple", "list", "dict"]) → PySem.W.kitAny K (.type a) (Ts.map Value.type) = some (Ts.any (tySub a))
  | [], _ => rfl
  | T :: Ts, h => by
    refine kitAny_cons (b := tySub a T) (kit_ty (kitB_ok a ha T (h T List.mem_cons_self))) (fun e => ?_) fun e => ?_
    · simp only [List.any_cons, e, Bool.false_or]
      exact kitAny_ok ha fun T' m => h T' (List.mem_cons_of_mem _ m)
    · simp only [List.any_cons, e, Bool.true_or]
section
variable {X : Cx} {W : WX} {e c c1 c2 : Expr} {es : List Expr} {ta : DTE} {pos p tpos : Pos} {T T1 T2 : String}
theorem de_isi (hg : Gl X "isinstance") (hm : X.mg "isinstance" = none) (ha : DE X W e ta) (hc : PE X c (tC (.ty T))) (hT : T ∈ ["bool", "int", "str", "tuple", "list", "dict"] := by decide)
    (hs1 : starEach [e, c] X.env = (false, eval e X.env) :: starEach [c] X.env := by rfl) (hs2 : starEach [c] X.env = (false, eval c X.env) :: starEach [] X.env := by rfl) (hpl : (backTo pos (starEach [c] X.env)).any (·.1) = false := by rfl) :
    DE X W (.Call (.Name "isinstance" p) [e, c] [] pos) (dIsi ta [T]) :=
  pe_weak (pe_callB call_isi hg hm PyProof.Rows.boot_isinstance (pa_cons ha (pa_cons hc pa_nil hs2) hs1) (by decide) (by decide) hs1 hpl) fun σ H Q ⟨ρ, st, μ, Qd, Z, hS, ht, hQ, hZ⟩ =>
    ⟨ρ, st, μ, _, Z, hS, ht, fun x st1 H1 μ1 v hx e1 s1 rv => by
      dsimp only at hx
      split at hx
      · rename_i a ea
        have h1 := kitB_ok a (tyN_mem ea) T hT
        have h2 : ([T].any (tySub a)) = tySub a T := by simp
        rw [h2] at hx
        exact ⟨v, .ty T, .type a, .type T, tySub a T, rfl, .ty T, tyN_ok s1 rv ea, kit_ty h1, hQ _ _ _ _ _ hx e1 s1 rfl⟩
      · exact hx.elim, hZ⟩
/-- the classes as a written pair -/
theorem de_isi2 {kk : Nat} (hg : Gl X "isinstance") (hm : X.mg "isinstance" = none) (ha : DE X W e ta) (h1 : PE X c1 (tC (.ty T1))) (h2 : PE X c2 (tC (.ty T2))) (hT : ∀ T ∈ [T1, T2], T ∈ ["bool", "int", "str", "tuple", "list", "dict"] := by decide)
    (hs1 : starEach [e, .Tuple [c1, c2] kk tpos] X.env = (false, eval e X.env) :: starEach [.Tuple [c1, c2] kk tpos] X.env := by rfl) (hs2 : starEach [.Tuple [c1, c2] kk tpos] X.env = (false, eval (.Tuple [c1, c2] kk tpos) X.env) :: starEach [] X.env := by rfl)
    (hs3 : starEach [c1, c2] X.env = (false, eval c1 X.env) :: starEach [c2] X.env := by rfl) (hs4 : starEach [c2] X.env = (false, eval c2 X.env) :: starEach [] X.env := by rfl) (hpl : (backTo pos (starEach [.Tuple [c1, c2] kk tpos] X.env)).any (·.1) = false := by rfl) :
    DE X W (.Call (.Name "isinstance" p) [e, .Tuple [c1, c2] kk tpos] [] pos) (dIsi ta [T1, T2]) :=
  pe_weak (pe_callB call_isiT hg hm PyProof.Rows.boot_isinstance (pa_cons ha (pa_cons (pe_tup (pa_cons h1 (pa_cons h2 pa_nil hs4) hs3)) pa_nil hs2) hs1) (by decide) (by decide) hs1 hpl) fun σ H Q ⟨ρ, st, μ, Qd, Z, hS, ht, hQ, hZ⟩ =>
    ⟨ρ, st, μ, _, Z, hS, ht, fun x st1 H1 μ1 v hx e1 s1 rv => by
      dsimp only at hx
      split at hx
      · rename_i a ea
        refine ⟨by show 2 ≤ sizeLine; decide, fun q hq => ?_⟩
        have x2 := Ext.laid (μ := μ1) (o := .tup [.ty T1, .ty T2]) hq
        have s2 := s1.laid (o := .tup [.ty T1, .ty T2]) hq
        exact ⟨v, q, [.ty T1, .ty T2], .type a, [.type T1, .type T2], _, rfl, upd_same, .cons (.ty T1) (.cons (.ty T2) .nil), tyN_ok s2 (rv.mono x2) ea, kitAny_ok (tyN_mem ea) hT, hQ _ _ _ _ _ hx (e1.trans x2) s2 rfl⟩
      · exact hx.elim, hZ⟩
/-- a built-in type's name, a built-in as a value -/
theorem pe_ty {x : Str} (hg : Gl X x) (hm : X.mg x = none) (hv : bootBuiltins x = some (.type T)) (hn : x ≠ "__name__" := by decide) (hd : (x == ("__debug__" : Str)) = false := by decide) : PE X (.Name x pos) (tC (.ty T)) := pe_bltn hg hm hv rfl hn hd
end
end DL
namespace DL
open PySem L2 PySem.Spec
open PyProof.Rows hiding St
open PySem.W (AllAlike Sortable dataLe EachIs)
end DL
namespace DL
open PySem L2 PySem.Spec
open PyProof.Rows hiding St
open PySem.W (AllAlike Sortable dataLe EachIs)
end DL
namespace DL
open PySem L2 PySem.Spec
open PyProof.Rows hiding St
end DL
namespace DL
open PySem L2 PySem.Spec
open PyProof.Rows hiding St
end DL
namespace DL
open PySem L2 PySem.Spec
open PyProof.Rows hiding St
variable [TC : TabCtx]
set_option maxHeartbeats 1000000 in
theorem meets_enum1 {v : Value} {o : Obj} {H : Heap → Prop} (B : Begins v o H) :
    Meets (Builtin.«enumerate.__new__» ⟨[.type "enumerate", v], []⟩) (fun _ R s => H s.heap ∧
      R (.ok (.ret (.ref (s.heap.push o).objs.size))) { s with heap := (s.heap.push o).push { cls := .type "enumerate", data := .fields #[.none, .bool false, .ref s.heap.objs.size, rawInt 0, .none, .none] } }) :=
  .of_wp fun prog w A R s h => by
    obtain ⟨hp, g, d, tk, os⟩ := s
    obtain ⟨h1, h⟩ := h
    have hsub := sub_enumerate
    have q1 : ∀ {A' : Around} {E : Value → Shared → Prop} {Q : Value → Shared → Prop}, Q (.ref hp.objs.size) ⟨hp.push o, g, d, tk, os⟩ → wpAny (model prog w) A' (pyIter v) Q E ⟨hp, g, d, tk, os⟩ :=
      fun q => B.iter prog w _ _ ⟨hp, g, d, tk, os⟩ _ h1 q
    wp_walk using q1
    refine wpAny_stack_any fun st => wpAny_pure ?_
    split
    · rename_i c _ _ _ _ _
      cases (c == Value.type "enumerate") <;> (wp_walk using q1; exact ⟨_, rfl, h⟩)
    · wp_walk using q1
      exact ⟨_, rfl, h⟩
section
variable {prog : Program} {w : World} {A : Around} {E : Value → Shared → Prop} {s : Shared}
theorem enum_begins1 {v : Value} {o : Obj} {H : Heap → Prop} {Q : Value → Shared → Prop} (B : Begins v o H) (h1 : H s.heap)
    (h : ∀ h', IsEnum h' (s.heap.objs.size + 1) s.heap.objs.size 0 .none → h'.get? s.heap.objs.size = some o → h'.objs.size = s.heap.objs.size + 2 → (∀ b o, s.heap.get? b = some o → h'.get? b = some o) → Q (.ref (s.heap.objs.size + 1)) { s with heap := h' }) :
    wpAny (model prog w) A (call (.type "enumerate") [v]) Q E s := by
  refine callType_new PySem.F.called_enumerate (by decide) (PySem.F.typeCall_enumerate_1 _) (PySem.F.newCall_enumerate_1 _) (fun obj => PySem.F.args_object_init_2 obj _) PySem.F.entry_enumerate_new (meets_enum1 B) ⟨h1, ?_⟩
  have hz : (s.heap.push o).objs.size = s.heap.objs.size + 1 := Heap.size_push ..
  show _ ∧ _
  rw [hz]
  have he : IsEnum ((s.heap.push o).push { cls := .type "enumerate", data := .fields #[.none, .bool false, .ref s.heap.objs.size, rawInt 0, .none, .none] }) (s.heap.objs.size + 1) s.heap.objs.size 0 .none := by
    have := Heap.get?_push_size (s.heap.push o) (o := { cls := .type "enumerate", data := .fields #[.none, .bool false, .ref s.heap.objs.size, rawInt 0, .none, .none] }) rfl
    rw [hz] at this
    exact this
  exact ⟨⟨_, he, rfl⟩, h _ he (Heap.get?_push_of_some _ (Heap.get?_push_size _ B.free)) (by rw [Heap.size_push, hz]) fun b o x => Heap.get?_push_of_some _ (Heap.get?_push_of_some _ x)⟩
end
/-- the tuple at a, each item in a new pair -/
def IteT (K : PySem.W.Frag) (a : Addr) : It :=
  ⟨fun i H => ∃ (xs : List V) (x : V), SqT K H a xs ∧ xs[i]? = some x, fun i H v H' => ∃ T x, v = .ref T ∧ H T = none ∧ H' = upd H T (.tup [.int (i : Nat), x]) ∧ ∀ xs, SqT K H a xs → xs[i]? = some x, fun i H => ∃ xs : List V, SqT K H a xs ∧ xs.length = i⟩
theorem turn_enumT {P : Program} {w : World} {K : PySem.W.Frag} {elts : List Expr} {kk : Nat} {tpos : Pos} (a e it : Addr) :
    Turn P w K (.Tuple elts kk tpos) (IteT K a) [e, it] e (fun i h => (∃ old, IsEnum h e it ((i : Nat) : Int) old) ∧ h.IsTupleIter it a i ∧ e ≠ it ∧ a ≠ it ∧ e ≠ a) where
  mem := by simp
  obj := fun i h st b hb => by
    obtain ⟨⟨old, he⟩, ⟨o, ho, hc, hd⟩, _⟩ := st
    have e' : b = e ∨ b = it := by simpa using hb
    rcases e' with z | z
    · rw [z]; exact ⟨_, he, fun v q => nomatch q⟩
    · rw [z]; exact ⟨o, ho, fun v q => by rw [hd] at q; cases q⟩
  keep := fun i h h' st k => let ⟨⟨old, he⟩, hi, hne⟩ := st; ⟨⟨old, k e (by simp) _ he⟩, hi.at fun o q => k it (by simp) o q, hne⟩
  item := by
    intro X hP hw hK hc i pins s σ H E I hf st hg
    subst hP hw hK
    obtain ⟨⟨old, he⟩, hit, hne, hai, hea⟩ := st
    obtain ⟨xs, x, hq, hx⟩ := hg
    obtain ⟨its, rv, p, hz⟩ := I.tuple hq
    obtain ⟨u, hu, ru⟩ := rv.get hx
    have hel : e < s.heap.objs.size := Heap.lt_size he
    have hil : it < s.heap.objs.size := by obtain ⟨_, q, _⟩ := hit; exact Heap.lt_size q
    have pt : s.heap.IsTuple a its.toArray := p
    have hlt : i < its.toArray.size := by
      have := (List.getElem?_eq_some_iff.mp hu).1
      simpa using this
    refine wpAny_pyNext_enum_itemD (Draws.tuple (A := X.A.in1) (I.ok.hd hc) it a hai its.toArray) he ⟨hit, pt⟩ hlt hne (by simp [hne, hea]) fun y h' tk hy ho hst hT hsz hk => ?_
    have hyu : y = u := by
      have h2 : its.toArray[i]? = some y := hy
      have h3 : its.toArray[i]? = some u := by simpa using hu
      rw [h2] at h3
      exact Option.some.inj h3
    subst hyu
    refine ⟨_, rfl, wpAny_letOwnedTupleGo_enum (s := { s with heap := h', toks := tk + 1 }) ho fun h'' he' sb => ?_⟩
    have hT2 : h''.get? s.heap.objs.size = some { cls := .type "tuple", data := .seq #[.int i tk, y] } := (sb.2 _ (Nat.ne_of_gt hel)).trans hT
    have new : ObjOk X.prog X.w (upd H s.heap.objs.size (.tup [.int (i : Nat), x])) h'' s.heap.objs.size (.tup [.int (i : Nat), x]) :=
      ⟨by show 2 ≤ sizeLine; decide, [.int i tk, y], .cons ⟨_, rfl⟩ (.cons ru .nil), ⟨_, hT2, rfl, _, rfl⟩⟩
    have I1 : Inv X pins σ (upd H s.heap.objs.size (.tup [.int (i : Nat), x])) { s with heap := h'', toks := tk + 1 } :=
      I.turnedNew (t' := tk + 1) (ch := [e, it]) (fun b ob hb q => (sb.2 b (fun z => hb (by simp [z]))).trans (hk b ob (fun z => hb (by simp [z])) (fun z => hb (by simp [z])) q)) hf (Nat.le_refl _) new
    refine ⟨.ref s.heap.objs.size, _, I1, rfl, ⟨_, x, rfl, I.hok.fresh (Nat.le_refl _), rfl, fun ys hy => by rw [I.tuple_inj hy hq]; exact hx⟩, ⟨⟨y, ?_⟩, hst.1.at fun o q => (sb.2 it (Ne.symm hne)).trans q, hne, hai, hea⟩, fun b hb => ?_⟩
    · have e1 : ((i + 1 : Nat) : Int) = (i : Int) + 1 := by omega
      rw [e1]; exact he'
    · have hb' : b < s.heap.objs.size := by
        have e' : b = e ∨ b = it := by simpa using hb
        rcases e' with z | z
        · rw [z]; exact hel
        · rw [z]; exact hil
      rw [upd_ne (Nat.ne_of_lt hb')]
      exact (hf b hb).1
  done := by
    intro X hP hw hK hc i pins s σ H E I hf st hg
    subst hP hw hK
    obtain ⟨⟨old, he⟩, hit, hne, hai, hea⟩ := st
    obtain ⟨xs, hq, hx⟩ := hg
    obtain ⟨its, rv, p, hz⟩ := I.tuple hq
    obtain ⟨f0, f1, f2, f3, f4, f5⟩ := hf it (by simp)
    have pt : s.heap.IsTuple a its.toArray := p
    have hn : its.toArray.size = i := by rw [List.size_toArray, ← rv.length]; exact hx
    refine wpAny_pyNext_enum_endD (Draws.tuple (A := X.A.in1) (I.ok.hd hc) it a hai its.toArray) he ⟨by rw [hn]; exact hit, pt⟩ fun h' eb => ⟨rfl, I.turned (t' := s.toks) (fun b o hb q => eb b o hb q) f0 f1 f3 f4 f5⟩
  self := fun A i s Q E st h => let ⟨⟨_, he⟩, _⟩ := st; wpAny_pyIter_enum he h
def iEnumA (K : PySem.W.Frag) (ta : TA) : TI := fun σ H R => ta σ H fun vs H1 => ∃ a, vs = [.ref a] ∧ (((∃ xs, SqL K H1 a xs) ∧ R (Ite K a) H1) ∨ ((∃ xs, SqT K H1 a xs) ∧ R (IteT K a) H1))
section
variable {X : Cx} {W : WX} {e : Expr} {p pos tpos : Pos} {elts : List Expr} {kk : Nat}
theorem pi_enumA {ta : TA} (hg : Gl X "enumerate") (hm : X.mg "enumerate" = none) (ha : PA X [e] ta) (hs : starEach [e] X.env = [(false, eval e X.env)] := by rfl) :
    PI X (.Tuple elts kk tpos) (.Call (.Name "enumerate" p) [e] [] pos) (iEnumA X.K ta) := by
  refine ⟨fun pins s σ H R I h => ?_⟩
  refine Call_ (ld_blt I hg hm boot_enumerate (PyProof.Rows.callWith_type1 (thn (ha.run pos pins s σ H _ I h) fun us s1 ⟨vs, H1, I1, r1, q1⟩ => ?_) hs rfl))
  obtain ⟨a, rfl, q1⟩ := q1
  rw [Vals.ref1 r1]
  have fresh2 : ∀ b, b ∈ [s1.heap.objs.size + 1, s1.heap.objs.size] → FpOk X pins H1 b := fun b hb => by
    have e' : b = s1.heap.objs.size + 1 ∨ b = s1.heap.objs.size := by simpa using hb
    have hle : s1.heap.objs.size ≤ b := by
      rcases e' with z | z
      · rw [z]; exact Nat.le_add_right _ _
      · rw [z]; exact Nat.le_refl _
    exact I1.fpOk hle (I1.hok.fresh hle)
  rcases q1 with ⟨⟨xs, hq⟩, q⟩ | ⟨⟨xs, hq⟩, q⟩
  · obtain ⟨its, rv, p', hz⟩ := I1.list hq
    refine call_enumerate_list p'.isList fun h' he hit hsz hk => wpAny_pyIter_enum he ?_
    exact ⟨s1.heap.objs.size + 1, [s1.heap.objs.size + 1, s1.heap.objs.size], _, _, H1, rfl, (I1.kept (t' := s1.toks) hk : Inv X pins σ H1 { s1 with heap := h' }), turn_enum a (s1.heap.objs.size + 1) s1.heap.objs.size, ⟨⟨.none, he⟩, hit, Nat.succ_ne_self _⟩, fresh2, q⟩
  · obtain ⟨its, rv, p', hz⟩ := I1.tuple hq
    have pt : s1.heap.IsTuple a its.toArray := p'
    have hlt : a < s1.heap.objs.size := by obtain ⟨_, q, _⟩ := pt; exact Heap.lt_size q
    refine enum_begins1 (begins_tuple a its.toArray) pt fun h' he hit hsz hk => wpAny_pyIter_enum he ?_
    exact ⟨s1.heap.objs.size + 1, [s1.heap.objs.size + 1, s1.heap.objs.size], _, _, H1, rfl, (I1.kept (t' := s1.toks) hk : Inv X pins σ H1 { s1 with heap := h' }), turn_enumT a (s1.heap.objs.size + 1) s1.heap.objs.size, ⟨⟨.none, he⟩, ⟨_, hit, rfl, rfl⟩, Nat.succ_ne_self _, Nat.ne_of_lt hlt, Nat.ne_of_gt (Nat.lt_succ_of_lt hlt)⟩, fresh2, q⟩
end
def enumItems (ds : List D) : List D := ds.mapIdx fun i d => .tup [.int (i : Nat), d]
theorem enumItems_get {ds : List D} {i : Nat} {y : D} (h : (enumItems ds)[i]? = some y) : ∃ d, ds[i]? = some d ∧ y = .tup [.int (i : Nat), d] := by
  unfold enumItems at h
  rw [List.getElem?_mapIdx, Option.map_eq_some_iff] at h
  obtain ⟨d, h1, h2⟩ := h
  exact ⟨d, h1, h2.symm⟩
section
variable {K : PySem.W.Frag} {H : Hp} {μ : List Addr} {st : Sto}
theorem pair_laid {i : Int} {d : D} {x : V} {T : Addr} (s : SRep K st μ H) (r : Rep K H μ d x) (hT : H T = none) :
    Ext H (upd H T (.tup [.int i, x])) μ μ ∧ SRep K st μ (upd H T (.tup [.int i, x])) ∧ Rep K (upd H T (.tup [.int i, x])) μ (.tup [.int i, d]) (.ref T) ∧ (∀ b o, H b = some o → upd H T (.tup [.int i, x]) b = some o) :=
  ⟨Ext.laid hT, s.laid hT, ⟨T, [.int i, x], rfl, ⟨.inl (.inl upd_same), fun z => by simp [pairsD, pairD] at z⟩, ⟨_, _, rfl, rfl, ⟨_, _, rfl, r.mono (Ext.laid hT), rfl⟩⟩⟩, fun b o q => by rw [upd_ne (ne_of_none q hT)]; exact q⟩
theorem ItRep.enumT {a : Addr} {ds : List D} {vs : List V} (hs : SqT K H a vs) (hr : Reps K H μ ds vs) : ItRep K (IteT K a) (enumItems ds) (fun _ => True) H μ where
  go i H1 μ1 st y x s _ e := by
    obtain ⟨d, hd, rfl⟩ := enumItems_get e
    obtain ⟨v, hv, rv⟩ := (hr.mono0 x).get hd
    refine ⟨⟨vs, v, x.sqT hs, hv⟩, fun y H' hy => ?_⟩
    obtain ⟨T, z, rfl, hT, rfl, hz⟩ := hy
    have := hz vs (x.sqT hs)
    rw [hv] at this; cases this
    exact pair_laid s rv hT
  stop H1 μ1 st x s _ := ⟨vs, x.sqT hs, by simp [enumItems, hr.length]⟩
theorem ItRep.enumF {a : Addr} {ds : List D} {vs : List V} (hs : FzL K H a vs) (hr : Reps K H μ ds vs) : ItRep K (Ite K a) (enumItems ds) (fun _ => True) H μ where
  go i H1 μ1 st y x s _ e := by
    obtain ⟨d, hd, rfl⟩ := enumItems_get e
    obtain ⟨v, hv, rv⟩ := (hr.mono0 x).get hd
    refine ⟨⟨vs, v, (x.fzL hs).sq, hv⟩, fun y H' hy => ?_⟩
    obtain ⟨T, z, rfl, hT, rfl, hz⟩ := hy
    have := hz vs (x.fzL hs).sq
    rw [hv] at this; cases this
    exact pair_laid s rv hT
  stop H1 μ1 st x s _ := ⟨vs, (x.fzL hs).sq, by simp [enumItems, hr.length]⟩
theorem ItRep.enumL {a : Addr} {n : Nat} {ds : List D} (hn : μ[n]? = some a) : ItRep K (Ite K a) (enumItems ds) (fun st => st[n]? = some (.lst ds)) H μ where
  go i H1 μ1 st y x s g e := by
    obtain ⟨d, hd, rfl⟩ := enumItems_get e
    obtain ⟨a', o, e1, e2, vs, rfl, hr⟩ := s.at' _ _ g
    rw [x.pre n a hn] at e1; cases e1
    obtain ⟨v, hv, rv⟩ := hr.get hd
    refine ⟨⟨vs, v, .inl (.inl e2), hv⟩, fun y H' hy => ?_⟩
    obtain ⟨T, z, rfl, hT, rfl, hz⟩ := hy
    have := hz vs (.inl (.inl e2))
    rw [hv] at this; cases this
    exact pair_laid s rv hT
  stop H1 μ1 st x s g := by
    obtain ⟨a', o, e1, e2, vs, rfl, hr⟩ := s.at' _ _ g
    rw [x.pre n a hn] at e1; cases e1
    exact ⟨vs, .inl (.inl e2), by simp [enumItems, hr.length]⟩
end
/-- enumerate(x) -/
def enumD (st : Sto) : D → (List D → (Sto → Prop) → Prop) → Prop
  | .tup ds, Q => Q (enumItems ds) fun _ => True
  | .fls ds, Q => Q (enumItems ds) fun _ => True
  | .loc n, Q => ∃ ds, st[n]? = some (.lst ds) ∧ Q (enumItems ds) fun st => st[n]? = some (.lst ds)
  | _, _ => False
def iEn (ta : DTA) : DTI := fun ρ st Q Z => ta ρ st (fun xs st1 => match xs with | [x] => enumD st1 x fun items G => Q items G st1 | _ => False) Z
section
variable {X : Cx} {W : WX} {e : Expr} {t : DTA} {p pos tpos : Pos} {elts : List Expr} {kk : Nat}
theorem di_enum (hg : Gl X "enumerate") (hm : X.mg "enumerate" = none) (ha : DA X W [e] t) (hs : starEach [e] X.env = [(false, eval e X.env)] := by rfl) : DI X W (.Tuple elts kk tpos) (.Call (.Name "enumerate" p) [e] [] pos) (iEn t) :=
  pi_weak (pi_enumA hg hm ha hs) fun σ H R ⟨ρ, st, μ, Qd, Z, hS, ht, hZ, hk⟩ => ⟨ρ, st, μ, _, Z, hS, ht, fun ds st1 H1 μ1 vs hx e1 s1 rv => by
    obtain ⟨x, rfl⟩ : ∃ x, ds = [x] := by
      cases ds with
      | nil => exact (show False from hx).elim
      | cons x t1 =>
        cases t1 with
        | nil => exact ⟨x, rfl⟩
        | cons _ _ => exact (show False from hx).elim
    focus
      obtain ⟨v, rfl, rx⟩ := reps1 rv
      cases x with
      | tup ds =>
        obtain ⟨a, vs, rfl, hs, hr⟩ := rx
        exact ⟨a, rfl, .inr ⟨⟨vs, hs⟩, hk _ _ _ _ _ _ hx e1 s1 (ItRep.enumT hs hr)⟩⟩
      | fls ds =>
        obtain ⟨a, vs, rfl, hs, hr⟩ := rx
        exact ⟨a, rfl, .inl ⟨⟨vs, hs.sq⟩, hk _ _ _ _ _ _ hx e1 s1 (ItRep.enumF hs hr)⟩⟩
      | loc n =>
        obtain ⟨a, rfl, hn⟩ := rx
        obtain ⟨ds, hds, q⟩ := hx
        obtain ⟨a', o, q1, q2, vs, rfl, hr⟩ := s1.at' _ _ hds
        rw [hn] at q1; cases q1
        exact ⟨a, rfl, .inl ⟨⟨vs, .inl (.inl q2)⟩, hk _ _ _ _ _ _ q e1 s1 (ItRep.enumL hn)⟩⟩
      | _ => exact (show False from hx).elim, hZ⟩
end
end DL
namespace DL
open PySem L2 PySem.Spec
open PyProof.Rows hiding St
variable [TC : TabCtx]
def dRev (te : DTE) : DTE := fun ρ st Q Z => te ρ st (fun x st1 => match x with
  | .tup ds => Q (.tup ds.reverse) st1
  | x => ∃ ds, itemsD st1 x = some ds ∧ Q (.loc st1.length) (st1 ++ [.lst ds.reverse])) Z
def zipItems (ds es : List D) : List D := List.zipWith (fun a b => .tup [a, b]) ds es
def iZp (ta : DTA) : DTI := fun ρ st Q Z => ta ρ st (fun xs st1 => match xs with | [.tup ds, .tup es] => (∀ d ∈ ds, pairD d = false) ∧ Q (zipItems ds es) (fun _ => True) st1 | _ => False) Z
end DL
namespace DL
open PySem L2 PySem.Spec
open PyProof.Rows hiding St
variable [TC : TabCtx]
section
variable {X : Cx} {W : WX} {a e : Expr} {ta : DTE} {pos p : Pos} {x : Str}
/-- -a -/
def dNegV : D → Sto → DK → Prop := fun x st Q => match x with | .int i => Q (.int (-i)) st | _ => False
theorem de_neg (ha : DE X W a ta) : DE X W (.UnaryOp .USub a pos) (dUn dNegV ta) := de_un un_neg (fun {H μ st x v Qd Q} s r h hQ => by
  cases x <;> first | exact (show False from h).elim | skip
  exact ⟨_, r, hQ _ _ _ _ _ h (Ext.refl _ _) s rfl⟩) ha
/-- {} -/
def dDict0 : DTE := fun _ st Q _ => Q (.loc st.length) (st ++ [.dK []])
/-- a constant of the module -/
def Cst (K : PySem.W.Frag) (mg : Str → Option Value) (x : Str) (d : D) : Prop := ∃ v u, mg x = some u ∧ RelV v u ∧ ∀ H μ, Rep K H μ d v
theorem de_cst {d : D} (hg : Gl X x) (h : Cst X.K X.mg x d) (hd : (x == ("__debug__" : Str)) = false := by decide) : DE X W (.Name x pos) (dC d) := by
  obtain ⟨v, u, hm, r, hr⟩ := h
  exact de_c (pe_glob hg hm r hd) hr
end
mutual
/-- a datum of the written part -/
def KRep (K : PySem.W.Frag) : D → Value → Prop
  | .non, u => u = .none
  | .bl b, u => u = .bool b
  | .int i, u => ∃ t, u = .int i t
  | .str x, u => ∃ t, u = .str x t
  | .tup ds, u => ∃ (a : Addr) (o : Obj) (us : Array Value) (n : Nat), u = .ref a ∧ K.lookup a = some o ∧ o.cls = .type "tuple" ∧ o.data = .seq us n ∧ us.size ≤ sizeLine ∧ (pairsD ds = true → o.dict = none) ∧ KReps K ds us.toList
  | _, _ => False
def KReps (K : PySem.W.Frag) : List D → List Value → Prop
  | [], us => us = []
  | d :: ds, us => ∃ u r, us = u :: r ∧ KRep K d u ∧ KReps K ds r
end
mutual
theorem KRep.rep {K : PySem.W.Frag} : ∀ {d : D} {u : Value}, KRep K d u → ∃ v, RelV v u ∧ ∀ H μ, Rep K H μ d v
  | .non, _, h => by subst h; exact ⟨.non, rfl, fun _ _ => rfl⟩
  | .bl b, _, h => by subst h; exact ⟨.bl b, rfl, fun _ _ => rfl⟩
  | .int i, _, h => by obtain ⟨t, rfl⟩ := h; exact ⟨.int i, ⟨t, rfl⟩, fun _ _ => rfl⟩
  | .str x, _, h => by obtain ⟨t, rfl⟩ := h; exact ⟨.str x, ⟨t, rfl⟩, fun _ _ => rfl⟩
  | .tup ds, _, h => by
    obtain ⟨a, o, us, n, rfl, h1, h2, h3, h4, hd, h5⟩ := h
    obtain ⟨vs, r1, r2⟩ := KReps.reps h5
    exact ⟨.ref a, rfl, fun H μ => ⟨a, vs, rfl, ⟨.inr ⟨o, us, n, h1, h2, h3, h4, r1⟩, fun z => .inr ⟨o, h1, hd z⟩⟩, r2 H μ⟩⟩
  | .fls _, _, h => h.elim
  | .loc _, _, h => h.elim
  | .adr _, _, h => h.elim
  | .ty _, _, h => h.elim
theorem KReps.reps {K : PySem.W.Frag} : ∀ {ds : List D} {us : List Value}, KReps K ds us → ∃ vs, Vals vs us ∧ ∀ H μ, Reps K H μ ds vs
  | [], _, h => by subst h; exact ⟨[], .nil, fun _ _ => rfl⟩
  | d :: ds, _, h => by
    obtain ⟨u, r, rfl, h1, h2⟩ := h
    obtain ⟨v, r1, r2⟩ := KRep.rep h1
    obtain ⟨vs, q1, q2⟩ := KReps.reps h2
    exact ⟨v :: vs, .cons r1 q1, fun H μ => ⟨v, vs, rfl, r2 H μ, q2 H μ⟩⟩
end
theorem Cst.of {K : PySem.W.Frag} {mg : Str → Option Value} {x : Str} {d : D} {u : Value} (h : mg x = some u) (r : KRep K d u) : Cst K mg x d := by
  obtain ⟨v, r1, r2⟩ := r.rep
  exact ⟨v, u, h, r1, r2⟩
end DL
namespace DL
open PySem L2 PySem.Spec
open PyProof.Rows hiding St
variable [TC : TabCtx]
/-- a reading serves a promise -/
def Rd (n : Nat) (dsp : DSp) (t : DTS) (N : List Str) : Prop :=
  ∀ ds st Q Z, ds.length = n → dsp ds st Q Z → t { nx := fun _ st1 => Back st Q .non st1, rt := Back st Q, xs := fun x _ st1 => BackX st Z x st1 } (startD N ds) st
section
variable {P : Program} {w : World} {K : PySem.W.Frag} {mg : Str → Option Value} {base : Heap} {k n : Nat} {x : Str} {s : Stmt} {N ps : List Str} {dsp : DSp} {c : Addr}
variable {h : Heap}
theorem def_mk {f : Addr} {oc : Value} {od an : Option Addr} {osl : Array (Option Value)} {kV doc pm cdv ct : Value} (KX : K.In h) (G : h.Ns mainGlobals mg) (a : PySem.W.nsIn K mainGlobals x = some (some (.ref f)))
    (l : K.lookup f = some ⟨oc, od, .func (PySem.W.fnOf x x (defArgs s) (defBody s) (defScope s) .none kV doc pm an cdv ct), osl⟩) (cd : PySem.W.codeIn K cdv x = true) (kp : PySem.W.keepIn K (.ref f) = true)
    (hb : ∀ (kV doc pm : Value) (an : Option Addr) (cdv ct : Value) (us : List Value), us.length = ps.length → bindArgs (PySem.W.fnOf x x (defArgs s) (defBody s) (defScope s) .none kV doc pm an cdv ct) ⟨us, []⟩ = pure (ps.zip us)) : DefIn K mg x s ps := by
  have F := fun_mk (st := s) l cd kp
  exact ⟨f, _, F, PySem.W.mg_of KX G a, F.binds hb⟩
end
end DL
namespace DL
open PySem L2 PySem.Spec
open PyProof.Rows hiding St
section
variable {i j : Nat} {ρ : Env'} {st : Sto} {Q : DK} {Z : DZ} {d x y z : D} {ds es : List D} {te ta tb tc : DTE} {t u : DTA} {c c' : DTT} {QT : Bool → Sto → Prop} {QA : List D → Sto → Prop} {E : DEnds} {s r : DTS}
@[simp] theorem s_var : dVar i ρ st Q Z = (match ρ[i]? with | some (some d) => Q d st | _ => False) := rfl
@[simp] theorem s_c : dC d ρ st Q Z = Q d st := rfl
@[simp] theorem s_op {dr : D2} : dOp dr ta tb ρ st Q Z = ta ρ st (fun x st1 => tb ρ st1 (fun y st2 => dr x y st2 Q) Z) Z := rfl
@[simp] theorem s_un {f : D → Sto → DK → Prop} : dUn f ta ρ st Q Z = ta ρ st (fun x st1 => f x st1 Q) Z := rfl
@[simp] theorem s_test : dTest ta ρ st QT Z = ta ρ st (fun x st1 => match x with | .bl b => QT b st1 | _ => False) Z := rfl
@[simp] theorem s_chain {r r' : D2} : dChain r r' ta tb tc ρ st Q Z = ta ρ st (fun x st1 => tb ρ st1 (fun y st2 => r x y st2 fun z st3 => match z with
  | .bl k => if k = true then tc ρ st3 (fun w st4 => r' y w st4 Q) Z else Q (.bl false) st3
  | _ => False) Z) Z := rfl
@[simp] theorem s_tru_non {Qb : Bool → Prop} : truD st .non Qb = Qb false := rfl
@[simp] theorem s_tru_bl {b : Bool} {Qb : Bool → Prop} : truD st (.bl b) Qb = Qb b := rfl
@[simp] theorem s_tru_int {b : Int} {Qb : Bool → Prop} : truD st (.int b) Qb = Qb (b != 0) := rfl
@[simp] theorem s_tru_tup {Qb : Bool → Prop} : truD st (.tup ds) Qb = Qb (!ds.isEmpty) := rfl
@[simp] theorem s_tru_fls {Qb : Bool → Prop} : truD st (.fls ds) Qb = Qb (!ds.isEmpty) := rfl
@[simp] theorem s_tru_loc {n : Nat} {Qb : Bool → Prop} : truD st (.loc n) Qb = (match st[n]? with | some (.lst ds) => Qb (!ds.isEmpty) | some (.dK kvs) => Qb (!kvs.isEmpty) | _ => False) := rfl
@[simp] theorem s_tru : dTru ta ρ st QT Z = ta ρ st (fun x st1 => truD st1 x fun b => QT b st1) Z := rfl
@[simp] theorem s_not : dNot c ρ st QT Z = c ρ st (fun b st1 => QT (!b) st1) Z := rfl
@[simp] theorem s_and : dAnd c c' ρ st QT Z = c ρ st (fun b st1 => if b = true then c' ρ st1 QT Z else QT false st1) Z := rfl
@[simp] theorem s_or : dOr c c' ρ st QT Z = c ρ st (fun b st1 => if b = true then QT true st1 else c' ρ st1 QT Z) Z := rfl
@[simp] theorem s_if : dIf c ta tb ρ st Q Z = c ρ st (fun k st1 => if k = true then ta ρ st1 Q Z else tb ρ st1 Q Z) Z := rfl
@[simp] theorem s_andV : dAndV ta tb ρ st Q Z = ta ρ st (fun x st1 => truD st1 x fun k => if k = true then tb ρ st1 Q Z else Q x st1) Z := rfl
@[simp] theorem s_orV : dOrV ta tb ρ st Q Z = ta ρ st (fun x st1 => truD st1 x fun k => if k = true then Q x st1 else tb ρ st1 Q Z) Z := rfl
@[simp] theorem s_notV : dNotV ta ρ st Q Z = ta ρ st (fun x st1 => truD st1 x fun k => Q (.bl (!k)) st1) Z := rfl
@[simp] theorem s_nil : dNil ρ st QA Z = QA [] st := rfl
@[simp] theorem s_cons : dCons ta t ρ st QA Z = ta ρ st (fun x st1 => t ρ st1 (fun xs st2 => QA (x :: xs) st2) Z) Z := rfl
@[simp] theorem s_dtup : dTup t ρ st Q Z = t ρ st (fun xs st1 => xs.length ≤ sizeLine ∧ Q (.tup xs) st1) Z := rfl
@[simp] theorem s_dlst : dLst t ρ st Q Z = t ρ st (fun xs st1 => xs.length ≤ sizeLine ∧ Q (.loc st1.length) (st1 ++ [.lst xs])) Z := rfl
@[simp] theorem s_dict0 : dDict0 ρ st Q Z = Q (.loc st.length) (st ++ [.dK []]) := rfl
@[simp] theorem s_cb {dr : DN} : dCB dr t ρ st Q Z = t ρ st (fun xs st1 => dr xs st1 Q) Z := rfl
@[simp] theorem s_bm {T : String} {dm : DM} : dBM T dm ta t ρ st Q Z = ta ρ st (fun x st1 => tyD st1 T x ∧ t ρ st1 (fun xs st2 => dm x xs st2 Q) Z) Z := rfl
@[simp] theorem s_call {n : Nat} {dsp : DSp} : dCall n dsp t ρ st Q Z = t ρ st (fun ds st1 => ds.length = n ∧ dsp ds st1 Q fun x st2 => Z x ρ st2) Z := rfl
@[simp] theorem s_isi {Ts : List String} : dIsi ta Ts ρ st Q Z = ta ρ st (fun x st1 => match tyN st1 x with | some a => Q (.bl (Ts.any (tySub a))) st1 | none => False) Z := rfl
@[simp] theorem s_sl {tl th : DTO} : dSl ta tl th ρ st Q Z = ta ρ st (fun x st1 => tl ρ st1 (fun l st2 => th ρ st2 (fun u st3 => dSlV x l u st3 Q) Z) Z) Z := rfl
@[simp] theorem s_noPart {QO : Option Int → Sto → Prop} : dNoPart ρ st QO Z = QO none st := rfl
@[simp] theorem s_part {QO : Option Int → Sto → Prop} : dPart ta ρ st QO Z = ta ρ st (fun x st1 => match x with | .int i => QO (some i) st1 | _ => False) Z := rfl
@[simp] theorem s_slv_tup {l u : Option Int} : dSlV (.tup ds) l u st Q = Q (.tup (cutL ds l u)) st := rfl
@[simp] theorem s_slv_fls {l u : Option Int} : dSlV (.fls ds) l u st Q = Q (.loc st.length) (st ++ [.lst (cutL ds l u)]) := rfl
@[simp] theorem s_slv_loc {n : Nat} {l u : Option Int} : dSlV (.loc n) l u st Q = ∃ ds, st[n]? = some (.lst ds) ∧ Q (.loc st.length) (st ++ [.lst (cutL ds l u)]) := rfl
@[simp] theorem s_rev : dRev ta ρ st Q Z = ta ρ st (fun x st1 => match x with
  | .tup ds => Q (.tup ds.reverse) st1
  | x => ∃ ds, itemsD st1 x = some ds ∧ Q (.loc st1.length) (st1 ++ [.lst ds.reverse])) Z := rfl
@[simp] theorem s_neg {i : Int} : dNegV (.int i) st Q = Q (.int (-i)) st := rfl
@[simp] theorem s_add_int {i j : Int} : dAdd (.int i) (.int j) st Q = Q (.int (i + j)) st := rfl
@[simp] theorem s_add_str {a b : Str} : dAdd (.str a) (.str b) st Q = (a.length + b.length ≤ sizeLine ∧ Q (.str (a ++ b)) st) := rfl
@[simp] theorem s_add_tup {a b : List D} : dAdd (.tup a) (.tup b) st Q = (a.length + b.length ≤ sizeLine ∧ Q (.tup (a ++ b)) st) := rfl
@[simp] theorem s_add_loc {m n : Nat} : dAdd (.loc m) (.loc n) st Q = ∃ a b, st[m]? = some (.lst a) ∧ st[n]? = some (.lst b) ∧ a.length + b.length ≤ sizeLine ∧ Q (.loc st.length) (st ++ [.lst (a ++ b)]) := rfl
@[simp] theorem s_mul {i j : Int} : dMul (.int i) (.int j) st Q = (CMul i j ∧ Q (.int (i * j)) st) := rfl
@[simp] theorem s_div {i j : Int} : dDiv (.int i) (.int j) st Q = (CDiv i j ∧ Q (.int (i / j)) st) := rfl
@[simp] theorem s_mod {i j : Int} : dMod (.int i) (.int j) st Q = (0 < j ∧ Q (.int (i % j)) st) := rfl
@[simp] theorem s_pow {i j : Int} : dPow (.int i) (.int j) st Q = (CPow i j ∧ Q (.int (i ^ j.toNat)) st) := rfl
@[simp] theorem s_eq_int {f : Bool → Bool} {i j : Int} : dEqB f (.int i) (.int j) st Q = Q (.bl (f (decide (i = j)))) st := rfl
@[simp] theorem s_eq_str {f : Bool → Bool} {i j : Str} : dEqB f (.str i) (.str j) st Q = Q (.bl (f (decide (i = j)))) st := rfl
@[simp] theorem s_eq_bl {f : Bool → Bool} {i j : Bool} : dEqB f (.bl i) (.bl j) st Q = Q (.bl (f (decide (i = j)))) st := rfl
@[simp] theorem s_ord_int {f : Int → Int → Bool} {g : PyData → PyData → Bool} {i j : Int} : dOrd f g (.int i) (.int j) st Q = Q (.bl (f i j)) st := rfl
@[simp] theorem s_is {f : Bool → Bool} : dIsN f x .non st Q = Q (.bl (f (isNonD x))) st := rfl
@[simp] theorem isNon_non : isNonD .non = true := rfl
@[simp] theorem isNon_int {i : Int} : isNonD (.int i) = false := rfl
@[simp] theorem isNon_str {i : Str} : isNonD (.str i) = false := rfl
@[simp] theorem isNon_bl {i : Bool} : isNonD (.bl i) = false := rfl
@[simp] theorem isNon_tup : isNonD (.tup ds) = false := rfl
@[simp] theorem isNon_loc {n : Nat} : isNonD (.loc n) = false := rfl
@[simp] theorem isNon_fls : isNonD (.fls ds) = false := rfl
@[simp] theorem s_ix_tup {i : Int} : dIx (.tup ds) (.int i) st Q = ∃ d, atI ds i = some d ∧ Q d st := rfl
@[simp] theorem s_ix_fls {i : Int} : dIx (.fls ds) (.int i) st Q = ∃ d, atI ds i = some d ∧ Q d st := rfl
@[simp] theorem s_ix_loc {n : Nat} {i : Int} : dIx (.loc n) (.int i) st Q = ∃ ds d, st[n]? = some (.lst ds) ∧ atI ds i = some d ∧ Q d st := rfl
@[simp] theorem s_ix_str {z : Str} {i : Int} : dIx (.str z) (.int i) st Q = ∃ c, z.length ≤ sizeLine ∧ atI z.cps.toList i = some c ∧ Q (.str ⟨#[c]⟩) st := rfl
@[simp] theorem s_len_tup : dLen [.tup ds] st Q = Q (.int ds.length) st := rfl
@[simp] theorem s_len_fls : dLen [.fls ds] st Q = Q (.int ds.length) st := rfl
@[simp] theorem s_len_loc {n : Nat} : dLen [.loc n] st Q = (match st[n]? with | some (.lst ds) => Q (.int ds.length) st | _ => False) := by
  first
    | (simp only [dLen, lenD]; done)
    | (simp only [dLen, lenD]
       cases st[n]? with
       | none => rfl
       | some b => cases b <;> rfl)
@[simp] theorem s_len_str {a : Str} : dLen [.str a] st Q = (a.length ≤ sizeLine ∧ Q (.int a.length) st) := rfl
@[simp] theorem s_abs {i : Int} : dAbs [.int i] st Q = Q (.int (if i < 0 then -i else i)) st := rfl
@[simp] theorem s_int {i : Int} : dInt [.int i] st Q = Q (.int i) st := rfl
@[simp] theorem s_int_bl {b : Bool} : dInt [.bl b] st Q = Q (.int (if b then 1 else 0)) st := rfl
@[simp] theorem s_tupOf : dTupOf [d] st Q = (match itemsD st d with | some es => Q (.tup es) st | none => False) := rfl
@[simp] theorem s_lstOf : dLstOf [d] st Q = (match itemsD st d with | some es => Q (.loc st.length) (st ++ [.lst es]) | none => False) := rfl
@[simp] theorem s_items_tup : itemsD st (.tup ds) = some ds := rfl
@[simp] theorem s_items_fls : itemsD st (.fls ds) = some ds := rfl
@[simp] theorem s_items_loc {n : Nat} : itemsD st (.loc n) = (match st[n]? with | some (.lst ds) => some ds | _ => none) := rfl
@[simp] theorem s_all {n : Nat} : dAll [.loc n] st Q = ∃ bs : List Bool, st[n]? = some (.lst (bs.map .bl)) ∧ Q (.bl (bs.all id)) st := rfl
@[simp] theorem s_any {n : Nat} : dAny [.loc n] st Q = ∃ bs : List Bool, st[n]? = some (.lst (bs.map .bl)) ∧ Q (.bl (bs.any id)) st := rfl
@[simp] theorem s_append {n : Nat} : dAppend (.loc n) [d] st Q = ∃ es, st[n]? = some (.lst es) ∧ es.length < sizeLine ∧ Q .non (st.set n (.lst (es ++ [d]))) := rfl
@[simp] theorem s_extend {n m : Nat} : dExtend (.loc n) [.loc m] st Q = ∃ es fs, st[n]? = some (.lst es) ∧ st[m]? = some (.lst fs) ∧ es.length + fs.length ≤ sizeLine ∧ Q .non (st.set n (.lst (es ++ fs))) := rfl
@[simp] theorem s_tyD_loc {T : String} {n : Nat} : tyD st T (.loc n) = (match st[n]? with | some (.lst _) => T = "list" | some (.dK _) => T = "dict" | _ => False) := rfl
@[simp] theorem tyN_non : tyN st .non = some "NoneType" := rfl
@[simp] theorem tyN_bl {b : Bool} : tyN st (.bl b) = some "bool" := rfl
@[simp] theorem tyN_int {b : Int} : tyN st (.int b) = some "int" := rfl
@[simp] theorem tyN_str {b : Str} : tyN st (.str b) = some "str" := rfl
@[simp] theorem tyN_tup : tyN st (.tup ds) = some "tuple" := rfl
@[simp] theorem tyN_fls : tyN st (.fls ds) = some "list" := rfl
@[simp] theorem s_next : dNext E ρ st = E.nx ρ st := rfl
@[simp] theorem s_seq : dSeq s r E ρ st = s { E with nx := r E } ρ st := rfl
@[simp] theorem s_drop : dDrop te E ρ st = te ρ st (fun _ st1 => E.nx ρ st1) E.xs := rfl
@[simp] theorem s_ret : dRet te E ρ st = te ρ st E.rt E.xs := rfl
@[simp] theorem s_ifS : dIfS c s r E ρ st = c ρ st (fun b st1 => if b = true then s E ρ st1 else r E ρ st1) E.xs := rfl
@[simp] theorem s_gN {i : Nat} {Qn : Env' → Sto → Prop} : gN i d ρ st Qn = Qn (ρ.set i (some d)) st := rfl
@[simp] theorem s_gNil {Qn : Env' → Sto → Prop} : gNil' [] ρ st Qn = Qn ρ st := rfl
@[simp] theorem s_gCons {g : DTG} {h : DTGs} {Qn : Env' → Sto → Prop} : gCons' g h (d :: ds) ρ st Qn = g d ρ st fun ρ' st' => h ds ρ' st' Qn := rfl
@[simp] theorem s_gTup {n : Nat} {h : DTGs} {Qn : Env' → Sto → Prop} : gTup' n h (.tup ds) ρ st Qn = (ds.length = n ∧ h ds ρ st Qn) := rfl
@[simp] theorem s_asg {g : DTG} : dAsg te g E ρ st = te ρ st (fun x st1 => g x ρ st1 E.nx) E.xs := rfl
@[simp] theorem s_par {i j : Nat} : dPar i j t E ρ st = t ρ st (fun vs st1 => match vs with | [v, w] => E.nx ((ρ.set i (some v)).set j (some w)) st1 | _ => False) E.xs := rfl
@[simp] theorem s_gSub {to ti : DTE} {dr : D3} {Qn : Env' → Sto → Prop} : gSub' to ti dr d ρ st Qn = to ρ st (fun o st1 => ti ρ st1 (fun i st2 => dr o i d st2 fun st3 => Qn ρ st3) fun _ _ _ => False) fun _ _ _ => False := rfl
@[simp] theorem s_setL {n : Nat} {k : Int} {Qs : Sto → Prop} : dSetL (.loc n) (.int k) x st Qs = ∃ ds j, st[n]? = some (.lst ds) ∧ ixN ds.length k = some j ∧ Qs (st.set n (.lst (ds.set j x))) := rfl
@[simp] theorem s_start {N : List Str} : startD N ds = ds.map some ++ List.replicate (N.length - ds.length) none := rfl
@[simp] theorem s_for {it : DTI} {g : DTG} {body : DTS} : dFor it g body E ρ st = it ρ st (fun items G st1 => runG g body E G items ρ st1) E.xs := rfl
theorem runG_nil {g : DTG} {body : DTS} {G : Sto → Prop} : runG g body E G [] ρ st = (G st ∧ E.nx ρ st) := rfl
theorem runG_cons {g : DTG} {body : DTS} {G : Sto → Prop} : runG g body E G (d :: ds) ρ st = (G st ∧ g d ρ st fun ρ2 st2 => body { E with nx := runG g body E G ds, ct := runG g body E G ds, bk := E.nx } ρ2 st2) := rfl
@[simp] theorem s_iD {QI : List D → (Sto → Prop) → Sto → Prop} : iD te ρ st QI Z = te ρ st (fun x st1 => walkD st1 x fun items G => QI items G st1) Z := rfl
@[simp] theorem s_walk_tup {QI : List D → (Sto → Prop) → Prop} : walkD st (.tup ds) QI = QI ds fun _ => True := rfl
@[simp] theorem s_walk_fls {QI : List D → (Sto → Prop) → Prop} : walkD st (.fls ds) QI = QI ds fun _ => True := rfl
@[simp] theorem s_walk_loc {n : Nat} {QI : List D → (Sto → Prop) → Prop} : walkD st (.loc n) QI = ∃ ds, st[n]? = some (.lst ds) ∧ QI ds fun st => st[n]? = some (.lst ds) := rfl
@[simp] theorem s_iR1 {QI : List D → (Sto → Prop) → Sto → Prop} : iR1 t ρ st QI Z = t ρ st (fun xs st1 => match xs with | [.int j] => -(2 ^ 62) ≤ j ∧ j < 2 ^ 62 ∧ QI (rngItems 0 j.toNat) (fun _ => True) st1 | _ => False) Z := rfl
@[simp] theorem s_iR2 {QI : List D → (Sto → Prop) → Sto → Prop} : iR2 t ρ st QI Z = t ρ st (fun xs st1 => match xs with | [.int i, .int j] => (-(2 ^ 62) ≤ i ∧ i < 2 ^ 62 ∧ -(2 ^ 62) ≤ j ∧ j < 2 ^ 62) ∧ QI (rngItems i (j - i).toNat) (fun _ => True) st1 | _ => False) Z := rfl
@[simp] theorem s_iEn {QI : List D → (Sto → Prop) → Sto → Prop} : iEn t ρ st QI Z = t ρ st (fun xs st1 => match xs with | [x] => enumD st1 x fun items G => QI items G st1 | _ => False) Z := rfl
@[simp] theorem s_iZp {QI : List D → (Sto → Prop) → Sto → Prop} : iZp t ρ st QI Z = t ρ st (fun xs st1 => match xs with | [.tup ds, .tup es] => (∀ d ∈ ds, pairD d = false) ∧ QI (zipItems ds es) (fun _ => True) st1 | _ => False) Z := rfl
@[simp] theorem s_en_tup {QI : List D → (Sto → Prop) → Prop} : enumD st (.tup ds) QI = QI (enumItems ds) fun _ => True := rfl
@[simp] theorem s_en_fls {QI : List D → (Sto → Prop) → Prop} : enumD st (.fls ds) QI = QI (enumItems ds) fun _ => True := rfl
@[simp] theorem s_en_loc {n : Nat} {QI : List D → (Sto → Prop) → Prop} : enumD st (.loc n) QI = ∃ ds, st[n]? = some (.lst ds) ∧ QI (enumItems ds) fun st => st[n]? = some (.lst ds) := rfl
@[simp] theorem s_lc {it : DTI} {g : DTG} {tt : DTT} {own : List Nat} : dLc it g tt te own ρ st Q Z = it ρ st (fun items G st1 => runC g tt te (wipeD ρ own) Q G items [] st1) Z := rfl
theorem runC_nil {g : DTG} {tt : DTT} {G : Sto → Prop} : runC g tt te ρ Q G [] es st = (G st ∧ Q (.loc st.length) (st ++ [.lst es])) := rfl
theorem runC_cons {g : DTG} {tt : DTT} {G : Sto → Prop} : runC g tt te ρ Q G (d :: ds) es st = (G st ∧ g d ρ st fun ρ2 st2 => tt ρ2 st2 (fun b st3 => if b = true then te ρ2 st3 (fun y st4 => es.length < sizeLine ∧ runC g tt te ρ Q G ds (es ++ [y]) st4) Z0 else runC g tt te ρ Q G ds es st3) Z0) := rfl
@[simp] theorem s_wipe0 : wipeD ρ [] = ρ := rfl
@[simp] theorem s_wipe {v : Nat} {vs : List Nat} : wipeD ρ (v :: vs) = (wipeD ρ vs).set v none := rfl
@[simp] theorem s_yes : dYes ρ st QT Z = QT true st := rfl
end
end DL
namespace DL
open PySem L2 PySem.Spec
open PyProof.Rows hiding St
section
variable [TC : TabCtx] {P : Program} {w : World} {K : PySem.W.Frag} {mg : Str → Option Value} {base : Heap} {k n : Nat} {x : Str} {s : Stmt} {N ps : List Str} {dsp : DSp} {f : Addr} {fd : FuncData}
theorem fn_mk (F : Fun K x x s f fd) (S : FnScope N ps (defScope s)) (hn : ps.length = n)
    (body : ∀ (f : Addr) (cdv : Value) (A : Around) (outer : List Env) (s0 : Shared) (H : Hp) (E : XK), Room k (A.deeper (envOfC x (defScope s) s0.heap.objs.size f cdv)) →
      ∃ t, DSs (XDef P w K mg base N x s f cdv A outer s0 H E) (WDef E) (defBody s) t ∧ ∀ ds st Q Z, ds.length = n → dsp ds st Q Z → t { nx := fun _ st' => Back st Q .non st', rt := Back st Q, xs := fun x _ st' => BackX st Z x st' } (startD N ds) st) :
    FnOk P w K mg base (L2.CX P w) (k + 1) f fd ps (liftSp K n dsp) := by
  refine F.okX S (fun vs H Q E h => by rw [hn]; exact h.1) (fun cdv A outer s0 H vs Q E hr h => ?_)
  obtain ⟨t, ht, hd⟩ := body f cdv A outer s0 H E hr
  obtain ⟨hl, ds, st, μ, Qd, Z, r, sr, hsp, hQ, hZ⟩ := h
  refine ⟨_, ht, startD N ds, st, μ, _, ⟨start_rep N r, sr⟩, hd ds st Qd Z (by rw [r.length]; exact hl) hsp, ?_, Back.ok sr hQ, ?_, ?_, ?_⟩
  · exact fun ρ' st' σ' H' μ' q e s' => Back.ok sr hQ _ _ _ _ _ q e s'.s rfl
  · exact fun ρ' st' σ' H' μ' q e s' => q.elim
  · exact fun ρ' st' σ' H' μ' q e s' => q.elim
  · exact fun x' ρ' st' σ' H' μ' c dx q e s' r' => BackX.ok sr hZ _ _ _ _ _ _ q e s'.s r'
end
/-- what a law's own def promises: of a script it tells True -/
def IsL (st : Sto) (d : D) (ns : List Int) : Prop := d = .fls (ns.map .int) ∨ ∃ n, d = .loc n ∧ st[n]? = some (.lst (ns.map .int))
def sp_law : DSp := fun ds st Q _ => match ds with
  | [d] => ∃ ns : List Int, IsL st d ns ∧ ns.length ≤ 63 ∧ (∀ z ∈ ns, Builtin.Int.intBits z ≤ 1048576) ∧ ∀ st', Q (.bl true) st'
  | _ => False
theorem reps_ints0 {K : PySem.W.Frag} {H : Hp} {μ : List Addr} : ∀ ns : List Int, Reps K H μ (ns.map .int) (ns.map V.int)
  | [] => rfl
  | n :: ns => ⟨.int n, ns.map V.int, rfl, rfl, reps_ints0 ns⟩
theorem law_at {l : PySem.W.OpenLaw} {w : World} {K : PySem.W.Frag} {k : Nat} {mg : Str → Option Value} {fa : Addr} {fd : FuncData} {h : Heap} (T : List (Addr × Str)) (cs : List (Addr × Addr))
    (hT : ∀ p ∈ T, p.1 ∈ cs.map (·.2)) (ht : ∀ p ∈ cs, h.get? p.2 = some { cls := .none, data := .fields #[] }) (nk : ∀ p ∈ cs, K.lookup p.2 = none) (cd : ∀ p ∈ cs, PySem.W.CodeHd h p.1 p.2)
    (hb : ∀ (s : Shared) (u : Value), BindsTo s fd ⟨[u], []⟩ [("script", u)])
    (F : ∀ base : Heap, K.In base → base.Ns mainGlobals mg → (∀ p ∈ cs, LamX.TabB base mg p.1 p.2) → FnOk l.prog w K mg base (L2.CX l.prog w) k fa fd ["script"] (@liftSp ⟨T, []⟩ K 1 sp_law)) :
    LamX.LawAtS l w K (L2.CX l.prog w) k 63 "script" mg fa h := by
  letI : TabCtx := ⟨T, []⟩
  refine ⟨fd, cs, liftSp K 1 sp_law, ht, nk, cd, hb, fun H a ns hl hbits hts hS => ⟨rfl, ?_⟩, F⟩
  have tabs : LamX.Tabs T H := fun p hp => by
    obtain ⟨q, hq, e⟩ := List.mem_map.mp (hT p hp)
    rw [show p.1 = q.2 from e.symm]
    exact LamX.TabS.nil (hts q hq)
  have eok : ∀ {μ : List Addr}, EOk K (fun d _ => d = .bl true) (fun v _ => v = .bl true) H μ := fun d st' H' μ' v q _ _ r => by
    subst q
    exact r
  have xok : ∀ {μ : List Addr}, XOk K (fun _ _ => False) (fun _ _ _ => False) H μ := fun x st' H' μ' c dx q _ _ _ => q.elim
  have fz : FzL K H a (ns.map V.int) → ∃ ds st μ Qd Z, Reps K H μ ds [V.ref a] ∧ SRep K st μ H ∧ sp_law ds st Qd Z ∧ EOk K Qd (fun v _ => v = .bl true) H μ ∧ XOk K Z (fun _ _ _ => False) H μ := fun z =>
    ⟨[.fls (ns.map .int)], [], [], fun d _ => d = .bl true, fun _ _ => False, Reps.one ⟨a, _, rfl, z, reps_ints0 ns⟩,
      ⟨rfl, List.nodup_nil, fun n b e => by simp at e, tabs, fun _ h => nomatch h⟩, ⟨ns, .inl rfl, hl, hbits, fun _ => rfl⟩, eok, xok⟩
  rcases hS with (hS | hS) | hS
  · refine ⟨[.loc 0], [.lst (ns.map .int)], [a], fun d _ => d = .bl true, fun _ _ => False, Reps.one ⟨a, rfl, rfl⟩, ⟨rfl, by simp, fun n b e => ?_, tabs, fun _ h => nomatch h⟩, ⟨ns, .inr ⟨0, rfl, rfl⟩, hl, hbits, fun _ => rfl⟩, eok, xok⟩
    cases n with
    | zero =>
      cases e
      exact ⟨a, _, rfl, hS, _, rfl, reps_ints0 ns⟩
    | succ n => simp at e
  · exact fz (.inl hS)
  · exact fz (.inr hS)
/-- a def that nothing is asked of -/
theorem has_none {T : TabCtx} {P : Program} {w : World} {K : PySem.W.Frag} {mg : Str → Option Value} {base : Heap} {k n : Nat} {x : Str} {s : Stmt} {ps : List Str} (F : DefIn K mg x s ps) : Has P w K mg base k x n (fun _ _ _ _ => False) := by
  obtain ⟨f, fd, F, hm, hb⟩ := F
  have no : ∀ {vs : List V} {H : Hp} {Q : VK} {E : XK}, liftSp K n (fun _ _ _ _ => False) vs H Q E → False := fun h => by
    obtain ⟨_, _, _, _, _, _, _, _, z, _⟩ := h
    exact z
  exact ⟨f, fd, ps, ⟨fun vs H Q E h => (no h).elim, fun A outer s H args us vs Q E hr he hbd hv hs => (no hs).elim⟩, hm, F.kp, hb⟩
theorem cx_false {P : Program} {w : World} {outer : List Env} {H : Hp} {s s' : Shared} {u : Value} (h : L2.CX P w outer H s (fun _ _ _ => False) u s') : False := by
  obtain ⟨a, B, H', cls, d, _, _, _, _, _, _, _, z⟩ := h
  exact z
end DL
namespace HK
open PySem PySem.Spec PyProof.Rows L2
def frA {α : Type} (as : List Addr) (k : List Addr → α) : α := match as with
  | [] => k []
  | a :: r => HandSHeadRun.frNat a fun a => frA r fun r => k (a :: r)
theorem frA_eq {α : Type} : ∀ (as : List Addr) (k : List Addr → α), frA as k = k as
  | [], _ => rfl
  | a :: r, k => by
    show (HandSHeadRun.frNat a fun a => frA r fun r => k (a :: r)) = _
    rw [HandSHeadRun.frNat_eq, frA_eq r]
def refsY (o : Obj) : List Addr := match o.data with
  | .seq its _ => its.toList.flatMap He.refV
  | .dict es _ => es.toList.flatMap fun e => He.refV e.val
  | .func fd => He.refV fd.code
  | .cls cd => cd.ns :: cd.mro.flatMap He.refV
  | _ => []
def levY (g : Addr → Option Obj) (as : List Addr) : List Addr := as.flatMap fun a => match g a with
  | some o => refsY o
  | none => []
def asY {α : Type} (g : Addr → Option Obj) (k : List Addr → α) : α :=
  frA (levY g [mainGlobals]) fun l1 => frA (levY g l1) fun l2 => frA (levY g l2) fun l3 => frA (levY g l3) fun l4 => k (mainGlobals :: (l1 ++ (l2 ++ (l3 ++ l4))))
theorem asY_eq {α : Type} (g : Addr → Option Obj) (k : List Addr → α) : asY g k = k (asY g id) := by
  unfold asY
  simp only [frA_eq, id]
abbrev Al : Type := Bool × List He.FnV
def obsK (fn : List He.FnD) (tf : List He.Defn) (ex : PySem.W.Frag → List (List Bool)) (g : Addr → Option Obj) (K : PySem.W.Frag) : Al :=
  (((ex K).all fun l => l.all id) && ((fn.all fun d => (He.Fa.code d.at_ d.qual).ok K) && He.tabsB g tf K), fn.map fun d => He.fnObs K d.at_)
def valK (fn : List He.FnD) : Al := (true, fn.map He.FnD.val)
structure SaysK (fn : List He.FnD) (tf : List He.Defn) (ex : PySem.W.Frag → List (List Bool)) (h : Heap) (K : PySem.W.Frag) : Prop where
  ex : ∀ l ∈ ex K, ∀ b ∈ l, b = true
  fn : ∀ d ∈ fn, He.fnObs K d.at_ = d.val ∧ (He.Fa.code d.at_ d.qual).ok K = true
  hd : ∀ p ∈ tf, PySem.W.codeHdIn K (He.cT K p).1 (He.cT K p).2 = true
  out : ∀ p ∈ tf, K.lookup (He.cT K p).2 = none
  empty : ∀ p ∈ tf, h.get? (He.cT K p).2 = some { cls := .none, data := .fields #[] }
def obsG (fn : List He.FnD) (tf : List He.Defn) (ex : PySem.W.Frag → List (List Bool)) (g : Addr → Option Obj) : Al := asY g fun as => obsK fn tf ex g (He.frT g as)
theorem saysK_of {fn : List He.FnD} {tf : List He.Defn} {ex : PySem.W.Frag → List (List Bool)} {h : Heap} {as : List Addr} (e : obsK fn tf ex h.get? (He.frT h.get? as) = valK fn) : SaysK fn tf ex h (He.frT h.get? as) := by
  have e1 : ((((ex (He.frT h.get? as)).all fun l => l.all id) && ((fn.all fun d => (He.Fa.code d.at_ d.qual).ok (He.frT h.get? as)) && He.tabsB h.get? tf (He.frT h.get? as)))) = true := congrArg (fun z : Al => z.1) e
  have e2 : (fn.map fun d => He.fnObs (He.frT h.get? as) d.at_) = fn.map He.FnD.val := congrArg (fun z : Al => z.2) e
  obtain ⟨h1, h2⟩ := He.ba e1
  obtain ⟨h2, h3⟩ := He.ba h2
  have key : ∀ p ∈ tf, PySem.W.codeHdIn (He.frT h.get? as) (He.cT (He.frT h.get? as) p).1 (He.cT (He.frT h.get? as) p).2 = true ∧ ∃ o, h.get? (He.cT (He.frT h.get? as) p).2 = some o ∧ He.emptyTab o = true := fun p hp => by
    obtain ⟨h3, h4⟩ := He.ba (List.all_eq_true.mp h3 p hp)
    refine ⟨h3, ?_⟩
    cases q : h.get? (He.cT (He.frT h.get? as) p).2 with
    | none =>
      rw [q] at h4
      cases h4
    | some o =>
      rw [q] at h4
      exact ⟨o, rfl, h4⟩
  refine ⟨fun l hl b hb => List.all_eq_true.mp (List.all_eq_true.mp h1 l hl) b hb, fun d hd => ⟨?_, List.all_eq_true.mp h2 d hd⟩, fun p hp => (key p hp).1, fun p hp => ?_, fun p hp => ?_⟩
  · exact List.map_inj_left.mp e2 d hd
  · obtain ⟨_, o, q, z⟩ := key p hp
    exact He.frT_none q z
  · obtain ⟨_, o, q, z⟩ := key p hp
    rw [q, He.emptyTab_eq z]
def hookK (fn : List He.FnD) (tf : List He.Defn) (ex : PySem.W.Frag → List (List Bool)) : PySem.W.Hook where
  α := Al
  obs := fun s => obsG fn tf ex s.heap.get?
  val := fun _ => valK fn
  says := fun _ h => ∃ K : PySem.W.Frag, K.In h ∧ SaysK fn tf ex h K
  of := fun _ s e => by
    have e2 : obsG fn tf ex s.heap.get? = valK fn := e
    unfold obsG at e2
    rw [asY_eq] at e2
    exact ⟨_, He.frT_in, saysK_of e2⟩
  keeps := fun _ _ _ ⟨K, hK, c⟩ k => ⟨K, PySem.W.Frag.In.keeps hK k, ⟨c.ex, c.fn, c.hd, c.out, fun p hp => k _ _ (c.empty p hp)⟩⟩
theorem obsG_eq {fn : List He.FnD} {tf : List He.Defn} {ex : PySem.W.Frag → List (List Bool)} {g : Addr → Option Obj} {s : Shared} (h : ∀ a, g a = s.heap.get? a) : obsG fn tf ex g = (hookK fn tf ex).obs s := by
  have e : g = s.heap.get? := funext h
  rw [e] <;> rfl
section
variable {fn : List He.FnD} {tf : List He.Defn} {ex : PySem.W.Frag → List (List Bool)} {h : Heap} {K : PySem.W.Frag}
theorem SaysK.f (c : SaysK fn tf ex h K) (i j : Nat) {l : List Bool} {b : Bool} (hl : (ex K)[i]? = some l) (hb : l[j]? = some b) : b = true :=
  c.ex l (List.mem_of_getElem? hl) b (List.mem_of_getElem? hb)
theorem SaysK.d (c : SaysK fn tf ex h K) (i : Nat) {d : He.FnD} (hd : fn[i]? = some d) :
    ∃ oc od osl kV doc pm an cdv ct, K.lookup (He.fAd K d.at_) = some ⟨oc, od, .func (PySem.W.fnOf d.name d.qual d.params d.body d.scope .none kV doc pm an cdv ct), osl⟩ ∧ PySem.W.codeIn K cdv d.qual = true := by
  obtain ⟨e1, e2⟩ := c.fn d (List.mem_of_getElem? hd)
  exact He.fn_ok e1 e2
end
def oB (a : Option Bool) (b : Bool) : Bool := decide (a = some b)
theorem oB_ok {a : Option Bool} {b : Bool} (h : oB a b = true) : a = some b := of_decide_eq_true h
def oV (a : Option Value) (b : Value) : Bool := decide (a = some b)
theorem oV_ok {a : Option Value} {b : Value} (h : oV a b = true) : a = some b := of_decide_eq_true h
def oexB (K : PySem.W.Frag) (C : Addr) : Bool := match K.lookup C with
  | some ⟨.type t, _, .cls cd, sl⟩ => decide (t = "type") && (match cd.mro, sl.toList with
    | .ref C' :: bm, [_, _, _, _, some (.builtin n), _] => decide (C' = C) && (decide (n = "ValueError.__new__") && (!cd.hasDel && (cd.hasDict && PySem.HandSPX.refsVE bm)))
    | _, _ => false)
  | _ => false
theorem oexB_ok {K : PySem.W.Frag} {C : Addr} (h : oexB K C = true) : ∃ nm q N bs bm sn sub ab col dd k0 k1 k2 k3 k5, K.lookup C = some (excClassObj nm q C N bs bm true sn sub ab col dd k0 k1 k2 k3 k5 "ValueError.__new__") ∧ PySem.HandSPX.refsVE bm = true := by
  unfold oexB at h
  split at h
  · rename_i t dd cd sl ho
    obtain ⟨ht, h⟩ := He.ba h
    have et := of_decide_eq_true ht
    split at h
    · rename_i C' bm k0 k1 k2 k3 n k5 hm hs
      obtain ⟨h1, h⟩ := He.ba h
      obtain ⟨h2, h⟩ := He.ba h
      obtain ⟨h3, h⟩ := He.ba h
      obtain ⟨h4, h5⟩ := He.ba h
      have e1 := of_decide_eq_true h1
      have e2 := of_decide_eq_true h2
      obtain ⟨nm, bs, mro, ns, qn, hd, sn, sub, ab, col, del⟩ := cd
      dsimp only at hm h3 h4
      have h3' : del = false := by simpa using h3
      subst hm h4 e1 e2 h3' et
      have hsl : sl = #[k0, k1, k2, k3, some (.builtin "ValueError.__new__"), k5] := by
        obtain ⟨l⟩ := sl
        simp only at hs
        rw [hs]
      subst hsl
      exact ⟨nm, qn, ns, bs, bm, sn, sub, ab, col, dd, k0, k1, k2, k3, k5, ho, h5⟩
    · cases h
  · cases h
/-- a constant of the top -/
def ua (K : PySem.W.Frag) (x : Str) : Value := match PySem.W.nsIn K mainGlobals x with
  | some (some u) => u
  | _ => .none
def uB (K : PySem.W.Frag) (x : Str) : Bool := He.eqO (PySem.W.nsIn K mainGlobals x) (some (some (ua K x)))
mutual
def repB (K : PySem.W.Frag) : DL.D → Value → Bool
  | .non, .none => true
  | .bl b, .bool c => b == c
  | .int i, .int j _ => decide (i = j)
  | .str x, .str y _ => decide (x = y)
  | .tup ds, .ref a => (match K.lookup a with
    | some ⟨.type t, none, .seq us _, _⟩ => decide (t = "tuple") && (decide (us.size ≤ sizeLine) && repsB K ds us.toList)
    | _ => false)
  | _, _ => false
def repsB (K : PySem.W.Frag) : List DL.D → List Value → Bool
  | [], [] => true
  | d :: ds, u :: us => repB K d u && repsB K ds us
  | _, _ => false
end
mutual
theorem repB_ok {K : PySem.W.Frag} : ∀ {d : DL.D} {u : Value}, repB K d u = true → DL.KRep K d u
  | .non, u, h => by
    cases u <;> first | rfl | cases h
  | .bl b, u, h => by
    cases u with
    | bool c =>
      have h1 : (b == c) = true := h
      rw [eq_of_beq h1]
      rfl
    | _ => cases h
  | .int i, u, h => by
    cases u with
    | int j t =>
      have e : i = j := of_decide_eq_true h
      rw [e]
      exact ⟨t, rfl⟩
    | _ => cases h
  | .str x, u, h => by
    cases u with
    | str y t =>
      have e : x = y := of_decide_eq_true h
      rw [e]
      exact ⟨t, rfl⟩
    | _ => cases h
  | .tup ds, u, h => by
    cases u with
    | ref a =>
      have h1 : (match K.lookup a with
        | some ⟨.type t, none, .seq us _, _⟩ => decide (t = "tuple") && (decide (us.size ≤ sizeLine) && repsB K ds us.toList)
        | _ => false) = true := h
      split at h1
      · rename_i t us n sl ho
        obtain ⟨h2, h3⟩ := He.ba h1
        obtain ⟨h3, h4⟩ := He.ba h3
        have et : t = "tuple" := of_decide_eq_true h2
        subst et
        exact ⟨a, _, us, n, rfl, ho, rfl, rfl, of_decide_eq_true h3, fun _ => rfl, repsB_ok h4⟩
      · cases h1
    | _ => cases h
  | .fls _, u, h => by cases u <;> cases h
  | .loc _, u, h => by cases u <;> cases h
  | .adr _, u, h => by cases u <;> cases h
  | .ty _, u, h => by cases u <;> cases h
theorem repsB_ok {K : PySem.W.Frag} : ∀ {ds : List DL.D} {us : List Value}, repsB K ds us = true → DL.KReps K ds us
  | [], [], _ => rfl
  | [], _ :: _, h => by cases h
  | _ :: _, [], h => by cases h
  | d :: ds, u :: us, h => by
    obtain ⟨h1, h2⟩ := He.ba (show (repB K d u && repsB K ds us) = true from h)
    exact ⟨u, us, rfl, repB_ok h1, repsB_ok h2⟩
end
end HK
namespace DL
open PySem L2 PySem.Spec
open PyProof.Rows hiding St
variable [TC : TabCtx]
section
variable {K : PySem.W.Frag}
def dStr0 (f : Str → Bool) : DM := fun x ds st Q => match x, ds with | .str a, [] => Q (.bl (f a)) st | _, _ => False
def dStr1 (f : Str → Str → Bool) : DM := fun x ds st Q => match x, ds with | .str a, [.str b] => Q (.bl (f a b)) st | _, _ => False
def dSplit : DM := fun x ds st Q => match x, ds with | .str a, [.str b] => (b.length == 0) = false ∧ a.length + 2 ≤ sizeLine ∧ Q (.loc st.length) (st ++ [.lst ((Txt.split a b).map .str)]) | _, _ => False
def dJoin : DM := fun x ds st Q => match x, ds with
  | .str a, [d] => ∃ ys : List Str, itemsD st d = some (ys.map .str) ∧ (ys.map (·.length)).sum + ys.length * a.length ≤ 16777216 ∧ Q (.str (Txt.join a ys)) st
  | _, _ => False
end
section
variable {K : PySem.W.Frag}
/-- extend by a list or a tuple -/
def dExtendA : DM := fun x ds st Q => match x, ds with
  | .loc n, [d] => ∃ es fs, st[n]? = some (.lst es) ∧ (d = .tup fs ∨ ∃ m, d = .loc m ∧ st[m]? = some (.lst fs)) ∧ es.length + fs.length ≤ sizeLine ∧ Q .non (st.set n (.lst (es ++ fs)))
  | _, _ => False
/-- int(text), str(number) -/
def dIntS : DN := fun ds st Q => match ds with | [.str a] => ∃ n, PySem.intText? a = some n ∧ a.length ≤ 640 ∧ Q (.int n) st | _ => False
def dStrI : DN := fun ds st Q => match ds with | [.int i] => i.natAbs.log2 < 1920 ∧ Q (.str (toString i)) st | _ => False
def dMaxT : DN := fun ds st Q => match ds with | [.tup es] => ∃ ns : List Int, es = ns.map .int ∧ 0 < ns.length ∧ ∀ m, m ∈ ns → (∀ y ∈ ns, y ≤ m) → Q (.int m) st | _ => False
end
end DL
namespace DL
open PySem L2 PySem.Spec
open PyProof.Rows hiding St
variable [TC : TabCtx]
section
variable {X : Cx} {W : WX} {e e1 e2 : Expr} {es : List Expr} {t te : DTE} {pos : Pos}
def dFmt (te : DTE) : DTE := fun ρ st Q Z => te ρ st (fun x st1 => match x with
  | .str y => y.length ≤ sizeLine ∧ Q (.str y) st1
  | .int i => i.natAbs.log2 < 1920 ∧ Q (.str (toString i)) st1
  | _ => False) Z
def dJs : List DTE → Str → Env' → Sto → (Str → Sto → Prop) → DZ → Prop
  | [], acc, _, st, Q, _ => Q acc st
  | t :: ts, acc, ρ, st, Q, Z => t ρ st (fun x st1 => match x with | .str y => (acc ++ y).length ≤ sizeLine ∧ dJs ts (acc ++ y) ρ st1 Q Z | _ => False) Z
def dJoined (ts : List DTE) : DTE := fun ρ st Q Z => dJs ts Str.empty ρ st (fun out st1 => Q (.str out) st1) Z
end
def keyD : D → Option Key
  | .int i => some (.inl i)
  | .str x => some (.inr x)
  | _ => none
def valD (kvs : List (Key × D)) (k : Key) : Option D := (kvs.find? fun kv => decide (kv.1 = k)).map (·.2)
def putD (kvs : List (Key × D)) (k : Key) (v : D) : List (Key × D) :=
  if (kvs.any fun kv => decide (kv.1 = k)) = true then kvs.map (fun kv => if kv.1 = k then (kv.1, v) else kv) else kvs ++ [(k, v)]
def mergeD (kvs more : List (Key × D)) : List (Key × D) := more.foldl (fun acc kv => putD acc kv.1 kv.2) kvs
section
variable {K : PySem.W.Frag} {H : Hp} {μ : List Addr}
theorem key_rep {d : D} {k : Key} {v : V} (h : keyD d = some k) (r : Rep K H μ d v) : v = kV k := by
  cases d <;> simp [keyD] at h <;> subst h <;> exact r
theorem okv_nil {gs : List (Key × V)} (h : OKv K H μ [] gs) : gs = [] := by
  have := h.1
  cases gs with
  | nil => rfl
  | cons g gs => simp at this
theorem okv_cons {p : Key × D} {kvs : List (Key × D)} {gs : List (Key × V)} (h : OKv K H μ (p :: kvs) gs) : ∃ v gs', gs = (p.1, v) :: gs' ∧ Rep K H μ p.2 v ∧ OKv K H μ kvs gs' := by
  obtain ⟨h1, v, r, h2, h3, h4⟩ := h
  cases gs with
  | nil => simp at h1
  | cons g gs =>
    simp only [List.map_cons, List.cons.injEq] at h1 h2
    obtain ⟨gk, gv⟩ := g
    obtain ⟨e1, e2⟩ := h1
    obtain ⟨e3, e4⟩ := h2
    dsimp only at e1 e3
    subst e1 e3
    exact ⟨gv, gs, rfl, h3, e2, by rw [e4]; exact h4⟩
theorem okv_mk {p : Key × D} {kvs : List (Key × D)} {gs : List (Key × V)} {v : V} (r : Rep K H μ p.2 v) (h : OKv K H μ kvs gs) : OKv K H μ (p :: kvs) ((p.1, v) :: gs) :=
  ⟨by simp [h.1], v, gs.map (·.2), rfl, r, h.2⟩
theorem okv_app {kvs kvs' : List (Key × D)} {gs gs' : List (Key × V)} (h : OKv K H μ kvs gs) (h' : OKv K H μ kvs' gs') : OKv K H μ (kvs ++ kvs') (gs ++ gs') := by
  refine ⟨by simp [h.1, h'.1], ?_⟩
  simp only [List.map_append]
  exact h.2.append h'.2
theorem okv_val {k : Key} : ∀ {kvs : List (Key × D)} {gs : List (Key × V)}, OKv K H μ kvs gs → (valD kvs k = none ∧ valV gs k = none) ∨ ∃ d v, valD kvs k = some d ∧ valV gs k = some v ∧ Rep K H μ d v
  | [], gs, h => by rw [okv_nil h]; exact .inl ⟨rfl, rfl⟩
  | p :: kvs, gs, h => by
    obtain ⟨v, gs', rfl, r, h'⟩ := okv_cons h
    by_cases e : p.1 = k
    · exact .inr ⟨p.2, v, by simp [valD, e], by simp [valV, e], r⟩
    · rcases okv_val (k := k) h' with ⟨h1, h2⟩ | ⟨d, u, h1, h2, h3⟩
      · exact .inl ⟨by simpa [valD, e] using h1, by simpa [valV, e] using h2⟩
      · exact .inr ⟨d, u, by simpa [valD, e] using h1, by simpa [valV, e] using h2, h3⟩
theorem okv_any {k : Key} : ∀ {kvs : List (Key × D)} {gs : List (Key × V)}, OKv K H μ kvs gs → (kvs.any fun kv => decide (kv.1 = k)) = gs.any fun kv => decide (kv.1 = k)
  | [], gs, h => by rw [okv_nil h]; rfl
  | p :: kvs, gs, h => by
    obtain ⟨v, gs', rfl, r, h'⟩ := okv_cons h
    simp only [List.any_cons, okv_any (k := k) h']
theorem okv_upd {k : Key} {d : D} {v : V} (r : Rep K H μ d v) : ∀ {kvs : List (Key × D)} {gs : List (Key × V)}, OKv K H μ kvs gs → OKv K H μ (kvs.map fun kv => if kv.1 = k then (kv.1, d) else kv) (gs.map fun kv => if kv.1 = k then (kv.1, v) else kv)
  | [], gs, h => by rw [okv_nil h]; exact ⟨rfl, rfl⟩
  | p :: kvs, gs, h => by
    obtain ⟨u, gs', rfl, ru, h'⟩ := okv_cons h
    have ih := okv_upd (k := k) r h'
    simp only [List.map_cons]
    by_cases e : p.1 = k
    · rw [if_pos e, if_pos e]
      exact okv_mk (p := (p.1, d)) r ih
    · rw [if_neg e, if_neg e]
      exact okv_mk ru ih
theorem okv_put {k : Key} {d : D} {v : V} (r : Rep K H μ d v) {kvs : List (Key × D)} {gs : List (Key × V)} (h : OKv K H μ kvs gs) : OKv K H μ (putD kvs k d) (putK gs k v) := by
  unfold putD putK
  rw [okv_any h]
  split
  · exact okv_upd r h
  · exact okv_app h (okv_mk (p := (k, d)) r ⟨rfl, rfl⟩)
theorem okv_merge : ∀ {more : List (Key × D)} {ms : List (Key × V)} {kvs : List (Key × D)} {gs : List (Key × V)}, OKv K H μ more ms → OKv K H μ kvs gs → OKv K H μ (mergeD kvs more) (mergeK gs ms)
  | [], ms, kvs, gs, h, g => by rw [okv_nil h]; exact g
  | p :: more, ms, kvs, gs, h, g => by
    obtain ⟨v, ms', rfl, r, h'⟩ := okv_cons h
    show OKv K H μ (mergeD (putD kvs p.1 p.2) more) (mergeK (putK gs p.1 v) ms')
    exact okv_merge (more := more) h' (okv_put r g)
theorem okv_len {kvs : List (Key × D)} {gs : List (Key × V)} (h : OKv K H μ kvs gs) : kvs.length = gs.length := by
  have := congrArg List.length h.1
  simpa using this
end
section
variable {X : Cx} {W : WX} {a b o i e : Expr} {keys : List (Option Expr)} {values : List Expr} {ta tb td ti : DTE} {pos : Pos}
/-- {k: v, ..} -/
def dPairs : List (DTE × DTE) → Env' → Sto → (List (D × D) → Sto → Prop) → DZ → Prop
  | [], _, st, Q, _ => Q [] st
  | (tk, tv) :: r, ρ, st, Q, Z => tk ρ st (fun x st1 => tv ρ st1 (fun y st2 => dPairs r ρ st2 (fun ps st3 => Q ((x, y) :: ps) st3) Z) Z) Z
inductive DPs (X : Cx) (W : WX) : List (Option Expr) → List Expr → List (DTE × DTE) → Prop where
  | nil : DPs X W [] [] []
  | cons {k v : Expr} {ks : List (Option Expr)} {vs : List Expr} {tk tv : DTE} {ts : List (DTE × DTE)} (hk : DE X W k tk) (hv : DE X W v tv) (r : DPs X W ks vs ts) : DPs X W (some k :: ks) (v :: vs) ((tk, tv) :: ts)
theorem DPs.pps {ts : List (DTE × DTE)} (h : DPs X W keys values ts) : PPs X pos keys values (ts.map fun p => (liftE X.K W p.1, liftE X.K W p.2)) := by
  induction h with
  | nil => exact pps_nil
  | cons hk hv r ih => exact pps_cons hk hv ih
/-- pairs as they are told -/
def Pairs (K : PySem.W.Frag) (H : Hp) (μ : List Addr) : List (D × D) → List (V × V) → Prop
  | [], ps => ps = []
  | p :: ds, ps => ∃ q r, ps = q :: r ∧ Rep K H μ p.1 q.1 ∧ Rep K H μ p.2 q.2 ∧ Pairs K H μ ds r
theorem pairs_lift {K : PySem.W.Frag} {ρ : Env'} {Z : DZ} {σ : St} : ∀ {ts : List (DTE × DTE)} {Qd : List (D × D) → Sto → Prop} {Q : List (V × V) → Hp → Prop} {st : Sto} {H : Hp} {μ : List Addr}, Stt K ρ st μ σ H → dPairs ts ρ st Qd Z →
    (∀ ps st' H' μ' vs, Qd ps st' → Ext H H' μ μ' → SRep K st' μ' H' → Pairs K H' μ' ps vs → Q vs H') → ZOk K W Z H μ → tPairs (ts.map fun p => (liftE K W p.1, liftE K W p.2)) σ H Q
  | [], Qd, Q, st, H, μ, hS, h, hQ, hZ => hQ _ _ _ _ _ h (Ext.refl _ _) hS.s rfl
  | (tk, tv) :: ts, Qd, Q, st, H, μ, hS, h, hQ, hZ => ⟨ρ, st, μ, _, Z, hS, h, fun x st1 H1 μ1 v hx e1 s1 rv => ⟨ρ, st1, μ1, _, Z, hS.mono e1 s1, hx, fun y st2 H2 μ2 u hy e2 s2 ru =>
    pairs_lift (hS.mono (e1.trans e2) s2) hy (fun ps st' H' μ' vs q e3 s3 rp => hQ _ _ _ _ _ q ((e1.trans e2).trans e3) s3 ⟨(v, u), vs, rfl, (rv.mono e2).mono e3, ru.mono e3, rp⟩) (hZ.mono (e1.trans e2)), hZ.mono e1⟩, hZ⟩
theorem pairs_kv {K : PySem.W.Frag} {H : Hp} {μ : List Addr} : ∀ {ps : List (D × D)} {vs : List (V × V)} {kvs : List (Key × D)}, Pairs K H μ ps vs → ps.map (fun p => (keyD p.1, p.2)) = kvs.map (fun p => (some p.1, p.2)) →
    ∃ gs : List (Key × V), vs = gs.map (fun kv => (kV kv.1, kv.2)) ∧ OKv K H μ kvs gs
  | [], vs, kvs, h, e => by
    cases kvs with
    | nil => rw [show vs = [] from h]; exact ⟨[], rfl, rfl, rfl⟩
    | cons p kvs => simp at e
  | p :: ps, vs, kvs, h, e => by
    obtain ⟨q, r, rfl, h1, h2, h3⟩ := h
    cases kvs with
    | nil => simp at e
    | cons g kvs =>
      obtain ⟨gk, gv⟩ := g
      simp only [List.map_cons, List.cons.injEq, Prod.mk.injEq] at e
      obtain ⟨⟨e1, e2⟩, e3⟩ := e
      obtain ⟨gs, rfl, hg⟩ := pairs_kv h3 e3
      obtain ⟨qk, qv⟩ := q
      refine ⟨(gk, qv) :: gs, ?_, okv_mk (p := (gk, gv)) (by rw [← e2]; exact h2) hg⟩
      dsimp only at h1
      rw [key_rep e1 h1]
      rfl
def dDisp (ts : List (DTE × DTE)) : DTE := fun ρ st Q Z => dPairs ts ρ (st ++ [.dK []]) (fun ps st1 => st1[st.length]? = some (.dK []) ∧ ∃ kvs : List (Key × D), ps.map (fun p => (keyD p.1, p.2)) = kvs.map (fun p => (some p.1, p.2)) ∧ kvs.length ≤ 15 ∧
  Q (.loc st.length) (st1.set st.length (.dK (mergeD [] kvs)))) Z
theorem de_disp {ts : List (DTE × DTE)} (h : DPs X W keys values ts) (hall : keys.all (·.isSome) = true := by rfl) (hl : keys.length = values.length := by rfl) (h0 : keys ≠ [] := by exact fun z => nomatch z) (h15 : keys.length ≤ 15 := by decide) :
    DE X W (.Dict keys values pos) (dDisp ts) := pe_weak (pe_disp h.pps hall hl h0 h15) fun σ H Q ⟨ρ, st, μ, Qd, Z, hS, ht, hQ, hZ⟩ p hp => by
  have x0 := Ext.push (μ := μ) (o := .dK []) hp
  have s0 := hS.s.push (o := .dK []) (b := .dK []) hp ⟨[], rfl, rfl, rfl⟩
  refine pairs_lift (hS.mono x0 s0) ht (fun ps st1 H1 μ1 vs hq e1 s1 rp => ?_) (hZ.mono x0)
  obtain ⟨hat, kvs, hk, h15', q⟩ := hq
  have hp1 : μ1[st.length]? = some p := e1.pre _ _ (by rw [hS.s.len]; exact getElem?_end _ _)
  obtain ⟨a, ob, q1, q2, gs0, rfl, okv⟩ := s1.at' _ _ hat
  rw [hp1] at q1; cases q1
  rw [okv_nil okv] at q2
  obtain ⟨gs, rfl, hg⟩ := pairs_kv rp hk
  refine ⟨q2, gs, rfl, by rw [← okv_len hg]; exact h15', ?_⟩
  have w := s1.write (o' := .dK (mergeK [] gs)) (b := .dK (mergeD [] kvs)) hp1 q2 ⟨_, rfl, okv_merge hg ⟨rfl, rfl⟩⟩
  exact hQ _ _ _ _ _ q ((x0.trans e1).trans w.1) w.2 ⟨p, rfl, hp1⟩
end
end DL
namespace DL
open PySem L2 PySem.Spec
open PyProof.Rows hiding St
section
variable {ρ : Env'} {st : Sto} {Q : DK} {Z : DZ} {d x y z : D} {ds es : List D} {te ta tb tc td ti : DTE}
@[simp] theorem s_str0 {f : Str → Bool} {a : Str} : dStr0 f (.str a) [] st Q = Q (.bl (f a)) st := rfl
@[simp] theorem s_str1 {f : Str → Str → Bool} {a b : Str} : dStr1 f (.str a) [.str b] st Q = Q (.bl (f a b)) st := rfl
@[simp] theorem s_split {a b : Str} : dSplit (.str a) [.str b] st Q = ((b.length == 0) = false ∧ a.length + 2 ≤ sizeLine ∧ Q (.loc st.length) (st ++ [.lst ((Txt.split a b).map .str)])) := rfl
@[simp] theorem s_join {a : Str} : dJoin (.str a) [d] st Q = ∃ ys : List Str, itemsD st d = some (ys.map .str) ∧ (ys.map (·.length)).sum + ys.length * a.length ≤ 16777216 ∧ Q (.str (Txt.join a ys)) st := rfl
@[simp] theorem s_extendA {n : Nat} : dExtendA (.loc n) [d] st Q = ∃ es fs, st[n]? = some (.lst es) ∧ (d = .tup fs ∨ ∃ m, d = .loc m ∧ st[m]? = some (.lst fs)) ∧ es.length + fs.length ≤ sizeLine ∧ Q .non (st.set n (.lst (es ++ fs))) := rfl
@[simp] theorem s_tyD_str {T : String} {a : Str} : tyD st T (.str a) = (T = "str") := rfl
@[simp] theorem s_intS {a : Str} : dIntS [.str a] st Q = ∃ n, PySem.intText? a = some n ∧ a.length ≤ 640 ∧ Q (.int n) st := rfl
@[simp] theorem s_strI {i : Int} : dStrI [.int i] st Q = (i.natAbs.log2 < 1920 ∧ Q (.str (toString i)) st) := rfl
@[simp] theorem s_maxT : dMaxT [.tup es] st Q = ∃ ns : List Int, es = ns.map .int ∧ 0 < ns.length ∧ ∀ m, m ∈ ns → (∀ y ∈ ns, y ≤ m) → Q (.int m) st := rfl
@[simp] theorem s_fmt : dFmt te ρ st Q Z = te ρ st (fun x st1 => match x with
  | .str y => y.length ≤ sizeLine ∧ Q (.str y) st1
  | .int i => i.natAbs.log2 < 1920 ∧ Q (.str (toString i)) st1
  | _ => False) Z := rfl
@[simp] theorem s_joined {ts : List DTE} : dJoined ts ρ st Q Z = dJs ts Str.empty ρ st (fun out st1 => Q (.str out) st1) Z := rfl
@[simp] theorem s_js0 {acc : Str} {QS : Str → Sto → Prop} : dJs [] acc ρ st QS Z = QS acc st := rfl
@[simp] theorem s_js {t : DTE} {ts : List DTE} {acc : Str} {QS : Str → Sto → Prop} : dJs (t :: ts) acc ρ st QS Z = t ρ st (fun x st1 => match x with | .str y => (acc ++ y).length ≤ sizeLine ∧ dJs ts (acc ++ y) ρ st1 QS Z | _ => False) Z := rfl
@[simp] theorem s_aug {i : Nat} {dr : D2} {E : DEnds} : dAug i te dr E ρ st = (match ρ[i]? with
  | some (some x) => te ρ st (fun y st1 => dr x y st1 fun z st2 => E.nx (ρ.set i (some z)) st2) E.xs
  | _ => False) := rfl
@[simp] theorem s_walk_str {z : Str} {QI : List D → (Sto → Prop) → Prop} : walkD st (.str z) QI = QI (strItems z) fun _ => True := rfl
@[simp] theorem s_slv_str {z : Str} {l u : Option Int} : dSlV (.str z) l u st Q = (z.length ≤ sizeLine ∧ Q (.str (cutS z l u)) st) := rfl
@[simp] theorem s_tru_str {z : Str} {Qb : Bool → Prop} : truD st (.str z) Qb = (z.length ≤ sizeLine ∧ Qb ((z.length : Int) != 0)) := rfl
end
end DL
set_option maxHeartbeats 4000000
namespace L2
open PySem PySem.Spec PyProof.Rows
end L2
namespace DL
open PySem L2 PySem.Spec
open PyProof.Rows hiding St
class ErrCtx where
  A : Nat → Addr
  /-- the world, by which keys are hashed -/
  wd : World
def errA [EC : ErrCtx] (m : Nat) : Addr := EC.A m
def errX [EC : ErrCtx] (m : Nat) (fs : List (Str × D)) : DX := ⟨.ref (errA m), fs⟩
def spI1 (C : Addr) (f : Str) : Sp := fun vs H Q _ => ∃ (a : Addr) (y : V), vs = [.ref a, y] ∧ H a = some (exo a C none) ∧ ∀ dx, H dx = none → dx ≠ a → Q .non (upd (upd H dx (exd dx [(f, y)])) a (exo a C (some dx)))
def spI0 : Sp := fun vs H Q _ => ∃ a : Addr, vs = [.ref a] ∧ Q .non H
/-- a statement within a class -/
def mthS (s : Stmt) (j : Nat) : Stmt := match s with
  | .ClassDef _ _ _ b _ _ _ _ _ _ _ => b.getD j (.Pass ⟨0, 0, 0, 0⟩)
  | _ => .Pass ⟨0, 0, 0, 0⟩
section
variable {P : Program} {w : World} {K : PySem.W.Frag} {mg : Str → Option Value} {base : Heap} {k : Nat} {s : Stmt} {f : Addr} {fd : FuncData} {qual fld : Str} {C : Addr}
theorem init1_ok {p1 p2 p3 p4 : Pos} (F : Fun K "__init__" qual s f fd) (S : FnScope ["self", fld] ["self", fld] (defScope s)) (hb : defBody s = [.Assign [.Attribute (.Name "self" p1) fld p2] (.Name fld p3) p4]) (T : OexC K C) (hno : PySem.W.findIn K (.ref C) fld = some none)
    (hd : (fld == ("__debug__" : Str)) = false) (hcd : (fld == ("__classdict__" : Str)) = false)
    (hv0 : Vis (defScope s) "self") (hv1 : Vis (defScope s) fld)
    (hs : ∀ env : Env, swapsWith (.Name fld p3) (some (.Attribute (.Name "self" p1) fld p2)) p4.line env = pure false) :
    FnOk P w K mg base (L2.CX P w) (k + 1) f fd ["self", fld] (spI1 C fld) := by
  refine F.okX S (fun vs H Q E h => by obtain ⟨a, y, rfl, _⟩ := h; rfl) (fun cdv A outer s0 H vs Q E hr h => ⟨tOst K fld (tVar 0) (tVar 1), ?_, ?_⟩)
  · rw [hb]
    exact pss_one (ps_ost (pe_var rfl hv0 (by decide) (by decide)) (pe_var rfl hv1 hd hcd) (hs _))
  · obtain ⟨a, y, rfl, ha, q⟩ := h
    refine ⟨y, rfl, .ref a, rfl, a, C, rfl, T, hno, .inl ⟨ha, q⟩⟩
theorem init0_ok {p1 : Pos} (F : Fun K "__init__" qual s f fd) (S : FnScope ["self"] ["self"] (defScope s)) (hb : defBody s = [.Pass p1]) :
    FnOk P w K mg base (L2.CX P w) (k + 1) f fd ["self"] spI0 := by
  refine F.okX S (fun vs H Q E h => by obtain ⟨a, rfl, _⟩ := h; rfl) (fun cdv A outer s0 H vs Q E hr h => ⟨tNext, ?_, ?_⟩)
  · rw [hb]
    exact pss_one ps_pass
  · obtain ⟨a, rfl, q⟩ := h
    exact q
end
/-- an error's class, made with one thing -/
structure Er1 [EC : ErrCtx] (P : Program) (w : World) (K : PySem.W.Frag) (mg : Str → Option Value) (base : Heap) (m : Nat) (x f : Str) : Prop where
  g : mg x = some (.ref (errA m))
  T : OexC K (errA m)
  i : ∃ fI fd, PySem.W.findIn K (.ref (errA m)) "__init__" = some (some (.ref fI)) ∧ PySem.W.typeIn K (.ref fI) = some (.type "function") ∧ FnOk P w K mg base (L2.CX P w) 1 fI fd ["self", f] (spI1 (errA m) f) ∧ Binds K fd ["self", f] []
/-- an error's class, made with nothing -/
structure Er0 [EC : ErrCtx] (P : Program) (w : World) (K : PySem.W.Frag) (mg : Str → Option Value) (base : Heap) (m : Nat) (x : Str) : Prop where
  g : mg x = some (.ref (errA m))
  T : OexC K (errA m)
  i : ∃ fI fd, PySem.W.findIn K (.ref (errA m)) "__init__" = some (some (.ref fI)) ∧ PySem.W.typeIn K (.ref fI) = some (.type "function") ∧ FnOk P w K mg base (L2.CX P w) 1 fI fd ["self"] spI0 ∧ Binds K fd ["self"] []
section
variable [TC : TabCtx] [EC : ErrCtx] {X : Cx} {W : WX} {e : Expr} {es : List Expr} {te : DTE} {pos p pos2 : Pos} {x f : Str} {m k : Nat}
theorem passes0 {X : Cx} : Passes (L2.CX X.prog X.w) X (fun _ _ _ => False) := fun _ _ _ _ _ _ _ h => by
  obtain ⟨_, _, _, _, _, _, _, _, _, _, _, _, z⟩ := h
  exact z.elim
/-- raise X(e) -/
def dRaise1 (m : Nat) (f : Str) (te : DTE) : DTS := fun E ρ st => te ρ st (fun y st1 => E.xs (errX m [(f, y)]) ρ st1) E.xs
def dRaise0 (m : Nat) : DTS := fun E ρ st => E.xs (errX m []) ρ st
theorem ds_raise1 (hc : X.calm = true) (tk : Takes X W) (R : Er1 X.prog X.w X.K X.mg X.base m x f) (hr : Room k X.A) (hk : 2 ≤ k) (hg : Gl X x) (ha : DE X W e te)
    (hdb : (x == ("__debug__" : Str)) = false := by decide) (hs : starEach [e] X.env = (false, eval e X.env) :: starEach [] X.env := by rfl) (hpl : (backTo pos (starEach [] X.env)).any (·.1) = false := by rfl) :
    DS X W (.Raise (some (.Call (.Name x p) [e] [] pos)) none pos2) (dRaise1 m f te) := by
  obtain ⟨g, T, fI, fd, i1, i2, F, hb⟩ := R
  refine ps_weak (ps_raise hc tk (pmk_oex (ds := []) (dvs := []) T i1 i2 F (hr.mono hk) hb .nil passes0 hg g (da_cons ha da_nil hs) hdb hs hpl)) fun D σ H ⟨ρ, st, μ, DD, hS, ht, hO⟩ => ?_
  refine ⟨ρ, st, μ, fun ds st1 => ∃ y, ds = [y] ∧ DD.xs (errX m [(f, y)]) ρ st1, _, hS, ?_, fun ds st1 H1 μ1 vs hx e1 s1 rv => ?_, hO.xs⟩
  · show te ρ st _ _
    have : (fun x st1 => dNil ρ st1 (fun xs st2 => ∃ y, x :: xs = [y] ∧ DD.xs (errX m [(f, y)]) ρ st2) DD.xs) = fun y st1 => DD.xs (errX m [(f, y)]) ρ st1 := by
      funext y st1
      apply propext
      constructor
      · rintro ⟨z, e, h⟩
        cases e
        exact h
      · intro h
        exact ⟨y, rfl, h⟩
    rw [this]
    exact ht
  · obtain ⟨y, rfl, hx⟩ := hx
    obtain ⟨v, r, rfl, rv1, rfl⟩ := rv
    refine ⟨by show 1 ≤ 1000; decide, fun a ha => ⟨a, v, rfl, upd_same, fun dx hdx hne => ⟨rfl, dx, [(f, v)], upd_same, ?_, ?_, ?_⟩⟩⟩
    · rw [upd_ne hne, upd_same]
    · rw [upd_ne hne] at hdx
      exact hdx
    · rw [upd_ne hne] at hdx
      have eH : upd (del (upd (upd (upd H1 a (exo a (errA m) none)) dx (exd dx [(f, v)])) a (exo a (errA m) (some dx))) a) dx (.xd [(f, v)]) = upd H1 dx (.xd [(f, v)]) := by
        funext b
        by_cases hb : b = dx
        · rw [hb, upd_same, upd_same]
        · rw [upd_ne hb, upd_ne hb]
          by_cases hba : b = a
          · rw [hba, del_same, ha]
          · rw [del_ne hba, upd_ne hba, upd_ne hb, upd_ne hba]
      rw [eH]
      have e2 := Ext.laid (μ := μ1) (o := .xd [(f, v)]) hdx
      exact hO.xs _ _ _ σ _ μ1 _ _ hx (e1.trans e2) ⟨(hS.e.mono e1).mono e2, s1.laid hdx⟩ ⟨rfl, .inr ⟨dx, [(f, v)], rfl, upd_same, rfl, (Reps.one rv1).mono e2⟩⟩
end
/-- what a suite knows beside -/
abbrev tcx (TC : TabCtx) (d : Option Addr) (fs : List (Str × D)) : TabCtx := ⟨TC.T, match d with | some dd => (dd, fs) :: TC.xs | none => TC.xs⟩
def Caught [EC : ErrCtx] (ms : List Nat) (x : DX) : Prop := ∃ m ∈ ms, x.cls = .ref (errA m)
section
variable {TC : TabCtx} {K : PySem.W.Frag} {H : Hp} {μ : List Addr} {st : Sto} {d : Option Addr} {fs : List (Str × D)}
theorem SRep.drop (s : @SRep (tcx TC d fs) K st μ H) : @SRep TC K st μ H := by
  obtain ⟨h1, h2, h3, h4, h5⟩ := s
  refine @SRep.mk TC K st μ H h1 h2 h3 h4 fun p hp => h5 p ?_
  cases d with
  | none => exact hp
  | some dd => exact List.mem_cons_of_mem _ hp
theorem SRep.no_xd (s : @SRep TC K st μ H) {a : Addr} {gs : List (Str × V)} (h : H a = some (.xd gs)) : a ∉ μ := fun hm => by
  obtain ⟨n, b, o, _, _, ho, r⟩ := s.mem hm
  rw [h] at ho
  cases ho
  cases b with
  | lst ds => obtain ⟨vs, z, _⟩ := r; cases z
  | ins C fs => obtain ⟨dx, gs, z, _⟩ := r; cases z
  | dK fs => obtain ⟨gs, z, _⟩ := r; cases z
  | err e C d => have z : HO.xd _ = HO.ext _ := r; cases z
  | xdt dx fs => obtain ⟨gs, z, _⟩ := r; have z' : HO.xd _ = HO.ext _ := z; cases z'
  | dkF od fs => obtain ⟨gs, z, _⟩ := r; cases z
  | dN w fs => obtain ⟨a, xs, gs, z, _⟩ := r; have z' : HO.xd _ = HO.ext _ := z; cases z'
theorem SRep.hold (s : @SRep TC K st μ H) (h : ∀ dd, d = some dd → ∃ gs, H dd = some (.xd gs) ∧ OFs K H μ fs gs) : @SRep (tcx TC d fs) K st μ H := by
  have hno := fun (a : Addr) gs h => SRep.no_xd (a := a) (gs := gs) s h
  obtain ⟨h1, h2, h3, h4, h5⟩ := s
  refine @SRep.mk (tcx TC d fs) K st μ H h1 h2 h3 h4 fun p hp => ?_
  cases d with
  | none => exact h5 p hp
  | some dd =>
    rcases List.mem_cons.mp (show p ∈ (dd, fs) :: TC.xs from hp) with e | hp
    · obtain ⟨gs, e1, e2⟩ := h dd rfl
      rw [e]
      exact ⟨hno _ _ e1, gs, e1, e2⟩
    · exact h5 p hp
theorem OFs.lookup {fs : List (Str × D)} {gs : List (Str × V)} {n : Str} {y : D} : OFs K H μ fs gs → fs.lookup n = some y → ∃ v, gs.lookup n = some v ∧ Rep K H μ y v := by
  induction fs generalizing gs with
  | nil => intro _ h; cases h
  | cons p fs ih =>
    rintro ⟨h1, h2⟩ hl
    cases gs with
    | nil => cases h1
    | cons q gs =>
      obtain ⟨pn, pd⟩ := p
      obtain ⟨qn, qv⟩ := q
      simp only [List.map_cons, List.cons.injEq] at h1
      obtain ⟨v, r, e, r1, r2⟩ := h2
      simp only [List.map_cons, List.cons.injEq] at e
      obtain ⟨rfl, rfl⟩ := e
      obtain ⟨rfl, h1⟩ := h1
      by_cases e : n = pn
      · subst e
        simp [List.lookup] at hl ⊢
        subst hl
        exact r1
      · have e' : (n == pn) = false := by simpa using e
        simp only [List.lookup, e'] at hl ⊢
        exact ih ⟨h1, r2⟩ hl
end
section
variable [TC : TabCtx] [EC : ErrCtx] {X : Cx} {W : WX} {body suite : List Stmt} {b₀ : Stmt} {np pos pos' : Pos} {x n : Str} {i m : Nat} {ms : List Nat} {tb : DTS} {ts : Addr → DX → DTS}
/-- try: body, except C as n: suite -/
def dTryAs (ms : List Nat) (i : Nat) (tb : DTS) (ts : Addr → DX → DTS) : DTS := fun E ρ st => tb { E with xs := fun x ρ1 st1 => Caught ms x ∧ ∀ a, ts a x { nx := fun ρ2 st2 => E.nx (ρ2.set i none) st2, rt := E.rt, bk := fun ρ2 st2 => E.bk (ρ2.set i none) st2, ct := fun ρ2 st2 => E.ct (ρ2.set i none) st2 } (ρ1.set i (some (.adr a))) st1 } ρ st
/-- try: body, except C: suite -/
def dTryOnly (ms : List Nat) (tb : DTS) (ts : Addr → DX → DTS) : DTS := fun E ρ st => tb { E with xs := fun x ρ1 st1 => Caught ms x ∧ ∀ a, ts a x { nx := E.nx, rt := E.rt, bk := E.bk, ct := E.ct } ρ1 st1 } ρ st
theorem ds_try_as (hs : X.stack = X.env :: X.outer) (hf : X.env.frame = some X.env.locals) (hN : X.N.Nodup) (hi : X.N[i]? = some n) (hln : X.env.kindOf n = some .local) (hc : Names X x (.ref (errA m))) (tk : Takes X W)
    (hm : ∀ q ∈ ms, PySem.W.exmOne X.K (.ref (errA q)) (.ref (errA m)) = some true)
    (hb : ∀ (W : WX) (pn : List (Addr × Obj)) (xe : Value → Shared → Prop), Takes (X.tr pn xe) W → PassesOwn (model X.prog X.w) X.A X.env xe → DSs (X.tr pn xe) W body tb)
    (hsu : ∀ (TC' : TabCtx) (a : Addr) (oe : Obj) (x : DX) (d : Option Addr) (pn : List (Addr × Obj)), (∀ dd, d = some dd → (dd, x.fs) ∈ TC'.xs) → Zc x.cls d oe → (∃ vs, oe.data = .fields vs) → (d = none → x.fs = []) → @DSs TC' (X.suite a ((a, oe) :: pn)) W0 (b₀ :: suite) (ts a x)) :
    DS X W (.Try body [.ExceptHandler (some (.Name x np)) (some n) (b₀ :: suite) pos'] [] [] pos) (dTryAs ms i tb ts) := by
  refine ps_weak (ps_try_as (tb := fun W => liftS X.K W tb) (ts := fun a cls d D σ H => ∃ x : DX, cls = x.cls ∧ (d = none → x.fs = []) ∧ @liftS (tcx TC d x.fs) X.K W0 (ts a x) D σ H) (Wout := W) hs hf hN hi hln hc tk (fun W pn xe tk pw => hb W pn xe tk pw) fun a oe cls d pn hz hv => ?_) fun D σ H ⟨ρ, st, μ, DD, hS, ht, hO⟩ => ?_
  · exact ⟨fun pins s σ H D I ⟨x, ec, hd, h⟩ => (hsu (tcx TC d x.fs) a oe x d pn (fun dd e => by subst e; exact List.mem_cons_self) (ec ▸ hz) hv hd).run pins s σ H D I h⟩
  · refine ⟨ρ, st, μ, _, hS, ht, hO.nx, hO.rt, hO.bk, hO.ct, ?_⟩
    rintro x ρ1 st1 σ1 H1 μ1 c dx ⟨⟨q, hq, ec⟩, hx⟩ e1 hS1 ⟨rc, rx⟩
    refine ⟨true, by rw [rc, ec]; exact hm q hq, fun _ a ha => ⟨x, rc, ?_, ?_⟩, fun z => nomatch z⟩
    · intro hd
      rcases rx with ⟨_, h⟩ | ⟨dd, gs, h, _⟩
      · exact h
      · rw [hd] at h; cases h
    · have sh : @SRep (tcx TC dx x.fs) X.K st1 μ1 H1 := hS1.s.hold fun dd hd => by
        rcases rx with ⟨h, _⟩ | ⟨d2, gs, h, h1, h2⟩
        · rw [hd] at h; cases h
        · rw [hd] at h; cases h
          exact ⟨gs, h1, h2⟩
      have back : ∀ {st' : Sto} {H' : Hp} {μ' : List Addr} {ρ' : Env'} {σ' : St}, @Stt (tcx TC dx x.fs) X.K ρ' st' μ' σ' H' → Stt X.K (ρ'.set i none) st' μ' (σ'.set i none) H' := fun z => by
        obtain ⟨z1, z2⟩ := z
        exact ⟨z1.unset i, z2.drop⟩
      have hS2 : @Stt (tcx TC dx x.fs) X.K (ρ1.set i (some (.adr a))) st1 μ1 (σ1.set i (some (.ref a))) H1 := @Stt.mk (tcx TC dx x.fs) _ _ _ _ _ _ (hS1.e.set i (show Rep X.K H1 μ1 (.adr a) (.ref a) from rfl)) sh
      refine ⟨ρ1.set i (some (.adr a)), st1, μ1, _, hS2, hx a, @SOk.mk (tcx TC dx x.fs) _ _ _ _ _ _ ?_ ?_ ?_ ?_ (fun _ _ _ _ _ _ _ _ (z : False) => z.elim)⟩
      · exact fun ρ2 st2 σ2 H2 μ2 q e2 s2 => hO.nx _ _ _ _ _ q (e1.trans e2) (back s2)
      · exact fun y st2 H2 μ2 v q e2 s2 r => hO.rt _ _ _ _ _ q (e1.trans e2) s2.drop r
      · exact fun ρ2 st2 σ2 H2 μ2 q e2 s2 => hO.bk _ _ _ _ _ q (e1.trans e2) (back s2)
      · exact fun ρ2 st2 σ2 H2 μ2 q e2 s2 => hO.ct _ _ _ _ _ q (e1.trans e2) (back s2)
end
end DL
namespace L2
open PySem PySem.Spec PyProof.Rows
/-- isinstance(e, c), e the exception that the suite holds, its dict told -/
theorem call_isEd {X : Cx} {a D : Addr} {oe : Obj} {pn : List (Addr × Obj)} {d : Option Addr} (C : ExcC X.K D) (hz : Zc (.ref D) d oe) (hf : ∃ vs, oe.data = .fields vs) : CallR (X.suite a ((a, oe) :: pn)) (.builtin "isinstance")
    (fun xs H Q => (∀ dd, d = some dd → ∃ gs, H dd = some (.xd gs)) ∧ rIsE X.K D a xs H Q) := by
  intro pins s σ H xs us Q I r h
  obtain ⟨hdd, c, cv, b, rfl, hcv, e, q⟩ := h
  cases r with
  | cons rx rr =>
    cases rr with
    | cons rt rr =>
      cases rr
      cases rx
      have ec := hcv _ rt
      subst ec
      obtain ⟨hget, _⟩ := I.pin (a, oe) (List.mem_append.mpr (.inl List.mem_cons_self))
      obtain ⟨vs, hv⟩ := hf
      have hcl : (PySem.W.clsIn X.K D).isSome = true := by
        obtain ⟨cd, hc, _⟩ := PySem.W.any_some C.hd
        rw [hc]; rfl
      have J : ∃ od, PySem.W.InstAt s.heap a oe D od := by
        cases d with
        | none =>
          refine ⟨none, hget, hz.1, ?_, ?_⟩
          · unfold PySem.W.notCls; rw [hv] <;> rfl
          · rw [hz.2]; trivial
        | some dd =>
          obtain ⟨gs, ea⟩ := hdd dd rfl
          have hx : ObjOk X.prog X.w H s.heap dd (.xd gs) := I.hok dd _ ea
          obtain ⟨mA, hns, hr⟩ := hx
          obtain ⟨od, ho, hl⟩ := lookIn_ns hns
          exact ⟨some od, hget, hz.1, by unfold PySem.W.notCls; rw [hv] <;> rfl, by rw [hz.2]; exact ho⟩
      obtain ⟨od, J⟩ := J
      exact PySem.W.kia_one (PySem.W.kitx_exc hcl C.hg C.hk C.hs C.ha C.hn C.ht C.hm) I.kIn J e (fun z => nomatch z) fun tk => ⟨.bl b, H, I.kept (t' := tk) fun _ _ z => z, rfl, q⟩
end L2
namespace DL
open PySem L2 PySem.Spec
open PyProof.Rows hiding St
theorem kit_own {K : PySem.W.Frag} {q x : Addr} {b : Bool} (hd : PySem.W.hasDictIn K x = true) (ht : PySem.W.typeIn K (.ref x) = some (.type "type")) (h0 : PySem.W.subIn K (.ref q) (.ref q) = some true) (hs : PySem.W.subIn K (.ref q) (.ref x) = some b) : PySem.W.kitOne K (.ref q) (.ref x) = some b := by
  obtain ⟨cd, hc, _⟩ := PySem.W.any_some hd
  unfold PySem.W.kitOne
  by_cases e : (Value.ref q == Value.ref x) = true
  · rw [if_pos e]
    have : q = x := Value.ref.inj (beq_iff_eq.mp e)
    subst this
    exact h0.symm.trans hs
  · rw [if_neg e]
    unfold PySem.W.kitCls
    dsimp only
    rw [if_pos (by rw [hc, ht]; rfl)]
    exact hs
theorem kit_ve {K : PySem.W.Frag} {q : Addr} (hs : PySem.W.subIn K (.ref q) (.type "ValueError") = some true) : PySem.W.kitOne K (.ref q) (.type "ValueError") = some true := by
  unfold PySem.W.kitOne
  rw [if_neg (by simp)]
  unfold PySem.W.kitCls
  dsimp only
  rw [if_pos (by decide +kernel)]
  exact hs
/-- what is read of a held error -/
structure ErF [EC : ErrCtx] (K : PySem.W.Frag) (m : Nat) : Prop where
  xf : XfC K (errA m)
  ex : ExcC K (errA m)
section
variable [TC : TabCtx] [EC : ErrCtx] {X : Cx} {W : WX} {e c : Expr} {te : DTE} {pos p : Pos} {x n : Str} {m : Nat} {a : Addr} {oe : Obj} {xx : DX} {d : Option Addr} {pn : List (Addr × Obj)}
/-- e.f, e the exception held -/
def dXf (a : Addr) (x : DX) (m : Nat) (n : Str) (te : DTE) : DTE := fun ρ st Q Z => te ρ st (fun y st1 => y = .adr a ∧ x.cls = .ref (errA m) ∧ ∃ v, x.fs.lookup n = some v ∧ Q v st1) Z
theorem de_xf (hT : ∀ dd, d = some dd → (dd, xx.fs) ∈ TC.xs) (T : XfC X.K (errA m)) (hno : PySem.W.findIn X.K (.ref (errA m)) n = some none) (hz : Zc xx.cls d oe) (hf : ∃ vs, oe.data = .fields vs) (hd : d = none → xx.fs = []) (he : DE (X.suite a ((a, oe) :: pn)) W e te)
    (hb : attributeBase e n X.env (eval e X.env) = eval e X.env := by rfl) : DE (X.suite a ((a, oe) :: pn)) W (.Attribute e n pos) (dXf a xx m n te) :=
  pe_weak (pe_xf T hno hz hf he hb) fun σ H Q ⟨ρ, st, μ, Qd, Z, hS, ht, hQ, hZ⟩ => ⟨ρ, st, μ, _, Z, hS, ht, fun y st1 H1 μ1 v hx e1 s1 rv => by
    obtain ⟨rfl, ec, dv, hl, q⟩ := hx
    refine ⟨rv, ec, ?_⟩
    cases d with
    | none => rw [hd rfl] at hl; cases hl
    | some dd =>
      obtain ⟨h1, h2, h3, h4, h5⟩ := s1
      obtain ⟨hn, gs, eg, r⟩ := h5 (dd, xx.fs) (hT dd rfl)
      obtain ⟨w, hw, rw'⟩ := OFs.lookup r hl
      exact ⟨dd, gs, w, rfl, eg, hw, hQ _ _ _ _ _ q e1 ⟨h1, h2, h3, h4, h5⟩ rw'⟩, hZ⟩
/-- isinstance(e, c), e the exception held; tbl: its class, the answer -/
def dXi (a : Addr) (x : DX) (tbl : List (Nat × Bool)) (te : DTE) : DTE := fun ρ st Q Z => ∃ p ∈ tbl, x.cls = .ref (errA p.1) ∧ te ρ st (fun y st1 => y = .adr a ∧ Q (.bl p.2) st1) Z
theorem de_xi {tbl : List (Nat × Bool)} {cv : V} {cu : Value} (hT : ∀ dd, d = some dd → (dd, xx.fs) ∈ TC.xs) (hg : Gl X "isinstance") (hm : X.mg "isinstance" = none) (ht : ∀ p ∈ tbl, ErF X.K p.1 ∧ PySem.W.kitOne X.K (.ref (errA p.1)) cu = some p.2) (hcv : ∀ u, RelV cv u → u = cu)
    (hz : Zc xx.cls d oe) (hf : ∃ vs, oe.data = .fields vs) (he : DE (X.suite a ((a, oe) :: pn)) W e te) (hc : PE (X.suite a ((a, oe) :: pn)) c (tC cv))
    (hs1 : starEach [e, c] X.env = (false, eval e X.env) :: starEach [c] X.env := by rfl) (hs2 : starEach [c] X.env = (false, eval c X.env) :: starEach [] X.env := by rfl) (hpl : (backTo pos (starEach [c] X.env)).any (·.1) = false := by rfl) :
    DE (X.suite a ((a, oe) :: pn)) W (.Call (.Name "isinstance" p) [e, c] [] pos) (dXi a xx tbl te) := by
  refine ⟨fun pins s σ H Q I ⟨ρ, st, μ, Qd, Z, hS, ⟨q, hq, ec, hx⟩, hQ, hZ⟩ => ?_⟩
  have hz' : Zc (.ref (errA q.1)) d oe := ec ▸ hz
  have R := pe_callB (call_isEd (X := X) (pn := pn) (ht q hq).1.ex hz' hf) hg hm PyProof.Rows.boot_isinstance (pa_cons he (pa_cons hc pa_nil hs2) hs1) (by decide) (by decide) hs1 hpl (p := p) (pos := pos)
  refine R.run pins s σ H Q I ⟨ρ, st, μ, _, Z, hS, hx, fun y st1 H1 μ1 v hy e1 s1 rv => ?_, hZ⟩
  obtain ⟨rfl, qq⟩ := hy
  have qq' := hQ _ _ _ _ _ qq e1 s1 rfl
  refine ⟨fun dd hdd => ?_, cv, cu, q.2, ?_, hcv, (ht q hq).2, qq'⟩
  · obtain ⟨h1, h2, h3, h4, h5⟩ := s1
    subst hdd
    obtain ⟨hn, gs, eg, r⟩ := h5 (dd, xx.fs) (hT dd rfl)
    exact ⟨gs, eg⟩
  · rw [show v = _ from rv]
end
section
variable [EC : ErrCtx] {st : Sto} {ρ : Env'} {Q : DK} {Z : DZ} {E : DEnds} {te : DTE} {tb : DTS} {ts : Addr → DX → DTS} {m i : Nat} {ms : List Nat} {f : Str} {a : Addr} {x : DX}
@[simp] theorem s_raise1 : dRaise1 m f te E ρ st = te ρ st (fun y st1 => E.xs (errX m [(f, y)]) ρ st1) E.xs := rfl
@[simp] theorem s_raise0 : dRaise0 m E ρ st = E.xs (errX m []) ρ st := rfl
@[simp] theorem s_tryAs : dTryAs ms i tb ts E ρ st = tb { E with xs := fun x ρ1 st1 => Caught ms x ∧ ∀ a, ts a x { nx := fun ρ2 st2 => E.nx (ρ2.set i none) st2, rt := E.rt, bk := fun ρ2 st2 => E.bk (ρ2.set i none) st2, ct := fun ρ2 st2 => E.ct (ρ2.set i none) st2 } (ρ1.set i (some (.adr a))) st1 } ρ st := rfl
@[simp] theorem s_tryOnly : dTryOnly ms tb ts E ρ st = tb { E with xs := fun x ρ1 st1 => Caught ms x ∧ ∀ a, ts a x { nx := E.nx, rt := E.rt, bk := E.bk, ct := E.ct } ρ1 st1 } ρ st := rfl
@[simp] theorem s_xf {n : Str} : dXf a x m n te ρ st Q Z = te ρ st (fun y st1 => y = .adr a ∧ x.cls = .ref (errA m) ∧ ∃ v, x.fs.lookup n = some v ∧ Q v st1) Z := rfl
@[simp] theorem s_xi {tbl : List (Nat × Bool)} : dXi a x tbl te ρ st Q Z = ∃ p ∈ tbl, x.cls = .ref (errA p.1) ∧ te ρ st (fun y st1 => y = .adr a ∧ Q (.bl p.2) st1) Z := rfl
@[simp] theorem errX_cls {fs : List (Str × D)} : (errX m fs).cls = .ref (errA m) := rfl
@[simp] theorem errX_fs {fs : List (Str × D)} : (errX m fs).fs = fs := rfl
theorem all_cons {α : Type} {P : α → Prop} {a : α} {as : List α} (h : P a) (hs : ∀ q ∈ as, P q) : ∀ q ∈ a :: as, P q := fun q hq => by
  rcases List.mem_cons.mp hq with e | hq
  · rw [e]; exact h
  · exact hs q hq
theorem caught {fs : List (Str × D)} (h : m ∈ ms) : Caught ms (errX m fs) := ⟨m, h, rfl⟩
end
end DL
namespace DL
open PySem L2 PySem.Spec
open PyProof.Rows hiding St
def putFD (f : Str) (v : D) : List (Str × D) → List (Str × D)
  | [] => [(f, v)]
  | (g, x) :: r => if g = f then (g, v) :: r else (g, x) :: putFD f v r
section
variable {K : PySem.W.Frag} {H : Hp} {μ : List Addr}
theorem ofs_nil : OFs K H μ [] [] := ⟨rfl, rfl⟩
theorem ofs_cons {p : Str × D} {fs : List (Str × D)} {gs : List (Str × V)} (h : OFs K H μ (p :: fs) gs) : ∃ v gs', gs = (p.1, v) :: gs' ∧ Rep K H μ p.2 v ∧ OFs K H μ fs gs' := by
  obtain ⟨h1, h2⟩ := h
  cases gs with
  | nil => cases h1
  | cons q gs =>
    simp only [List.map_cons, List.cons.injEq] at h1
    obtain ⟨v, r, e, r1, r2⟩ := h2
    simp only [List.map_cons, List.cons.injEq] at e
    obtain ⟨e1, e2⟩ := e
    subst e1 e2
    obtain ⟨qn, qv⟩ := q
    exact ⟨qv, gs, by rw [h1.1], r1, h1.2, r2⟩
theorem ofs_mk {p : Str × D} {fs : List (Str × D)} {gs : List (Str × V)} {v : V} (r : Rep K H μ p.2 v) (h : OFs K H μ fs gs) : OFs K H μ (p :: fs) ((p.1, v) :: gs) :=
  ⟨by simp [h.1], v, _, rfl, r, h.2⟩
theorem ofs_put {f : Str} {d : D} {v : V} (r : Rep K H μ d v) : ∀ {fs : List (Str × D)} {gs : List (Str × V)}, OFs K H μ fs gs → OFs K H μ (putFD f d fs) (putF f v gs)
  | [], gs, h => by
    obtain ⟨h1, h2⟩ := h
    cases gs with
    | nil => exact ofs_mk (p := (f, d)) r ofs_nil
    | cons q gs => cases h1
  | p :: fs, gs, h => by
    obtain ⟨w, gs', rfl, r1, h'⟩ := ofs_cons h
    obtain ⟨g, x⟩ := p
    unfold putFD putF
    by_cases e : g = f
    · simp only [e, if_true]
      exact ofs_mk (p := (f, d)) r h'
    · simp only [e, if_false]
      exact ofs_mk (p := (g, x)) r1 (ofs_put r h')
theorem ofs_len {fs : List (Str × D)} {gs : List (Str × V)} (h : OFs K H μ fs gs) : fs.length = gs.length := by
  have := congrArg List.length h.1
  simpa using this
end
/-- what is told of an own class -/
structure ClF [EC : ErrCtx] (K : PySem.W.Frag) (m : Nat) : Prop where
  c : Cls K (errA m)
  ha : PySem.W.findIn K (.ref (errA m)) "__class__" = some (some (.builtin "object.__class__"))
  hn : PySem.W.specialIn K (.builtin "object.__class__") "__get__" = some (some (.builtin "getset_descriptor.__get__"))
  ht : PySem.W.takesIn K (.builtin "object.__class__") = some true
  hm : PySem.W.mroIn K (errA m) (.type "object") = some true
  hi : PySem.W.isClsIn K (errA m) = true
  ty : PySem.W.typeIn K (.ref (errA m)) = some (.type "type")
/-- a method keeps its promise -/
def HasM [TC : TabCtx] [EC : ErrCtx] (P : Program) (w : World) (K : PySem.W.Frag) (mg : Str → Option Value) (base : Heap) (k : Nat) (m : Nat) (x : Str) (n : Nat) (dsp : DSp) : Prop :=
  ∃ f fd ps, FnOk P w K mg base (L2.CX P w) k f fd ps (liftSp K n dsp) ∧ Meth K (errA m) x f ∧ Binds K fd ps []
theorem HasM.mono [TC : TabCtx] [EC : ErrCtx] {P : Program} {w : World} {K : PySem.W.Frag} {mg : Str → Option Value} {base : Heap} {j k m : Nat} {x : Str} {n : Nat} {dsp : DSp} (h : HasM P w K mg base j m x n dsp) (hk : j ≤ k) : HasM P w K mg base k m x n dsp := by
  obtain ⟨f, fd, ps, F, r⟩ := h
  exact ⟨f, fd, ps, F.mono hk, r⟩
/-- where a method of the text stands -/
def MthIn [EC : ErrCtx] (K : PySem.W.Frag) (m : Nat) (x qual : Str) (s : Stmt) (ps : List Str) : Prop := ∃ f fd, Fun K x qual s f fd ∧ Meth K (errA m) x f ∧ Binds K fd ps []
section
variable [TC : TabCtx] [EC : ErrCtx] {P : Program} {w : World} {K : PySem.W.Frag} {mg : Str → Option Value} {base : Heap} {k n m : Nat} {x qual : Str} {s : Stmt} {N ps : List Str} {dsp : DSp}
theorem has_mkM (F : MthIn K m x qual s ps) (S : FnScope N ps (defScope s)) (hn : ps.length = n)
    (body : ∀ (f : Addr) (cdv : Value) (A : Around) (outer : List Env) (s0 : Shared) (H : Hp) (E : XK), Room k (A.deeper (envOfC qual (defScope s) s0.heap.objs.size f cdv)) →
      ∃ t, DSs (XDef P w K mg base N qual s f cdv A outer s0 H E) (WDef E) (defBody s) t ∧ ∀ ds st Q Z, ds.length = n → dsp ds st Q Z → t { nx := fun _ st' => Back st Q .non st', rt := Back st Q, xs := fun x _ st' => BackX st Z x st' } (startD N ds) st) :
    HasM P w K mg base (k + 1) m x n dsp := by
  obtain ⟨f, fd, F, hm, hb⟩ := F
  refine ⟨f, fd, ps, F.okX S (fun vs H Q E h => by rw [hn]; exact h.1) (fun cdv A outer s0 H vs Q E hr h => ?_), hm, hb⟩
  obtain ⟨t, ht, hd⟩ := body f cdv A outer s0 H E hr
  obtain ⟨hl, ds, st, μ, Qd, Z, r, sr, hsp, hQ, hZ⟩ := h
  refine ⟨_, ht, startD N ds, st, μ, _, ⟨start_rep N r, sr⟩, hd ds st Qd Z (by rw [r.length]; exact hl) hsp, ?_, Back.ok sr hQ, ?_, ?_, ?_⟩
  · exact fun ρ' st' σ' H' μ' q e s' => Back.ok sr hQ _ _ _ _ _ q e s'.s rfl
  · exact fun ρ' st' σ' H' μ' q e s' => q.elim
  · exact fun ρ' st' σ' H' μ' q e s' => q.elim
  · exact fun x' ρ' st' σ' H' μ' c dx q e s' r' => BackX.ok sr hZ _ _ _ _ _ _ q e s'.s r'
end
section
variable [TC : TabCtx] [EC : ErrCtx] {X : Cx} {W : WX} {e o : Expr} {es : List Expr} {te to : DTE} {t : DTA} {pos p pos2 : Pos} {x f : Str} {m k n : Nat} {dsp : DSp}
/-- o.f -/
def dFld (f : Str) (ms : List Nat) (te : DTE) : DTE := fun ρ st Q Z => te ρ st (fun y st1 => ∃ n m fs v, y = .loc n ∧ m ∈ ms ∧ st1[n]? = some (.ins (errA m) fs) ∧ fs.lookup f = some v ∧ Q v st1) Z
theorem de_fld {ms : List Nat} (C : ∀ m ∈ ms, ClF X.K m ∧ NoAttr X.K (errA m) f) (he : DE X W e te) (hb : attributeBase e f X.env (eval e X.env) = eval e X.env := by rfl) : DE X W (.Attribute e f pos) (dFld f ms te) :=
  pe_weak (pe_fld he hb) fun σ H Q ⟨ρ, st, μ, Qd, Z, hS, ht, hQ, hZ⟩ => ⟨ρ, st, μ, _, Z, hS, ht, fun y st1 H1 μ1 v hx e1 s1 rv => by
    obtain ⟨n, m, fs, w, rfl, hm, hn, hl, q⟩ := hx
    obtain ⟨a, rfl, ha⟩ := rv
    obtain ⟨a', ob, q1, q2, dx, gs, rfl, r⟩ := s1.at' _ _ hn
    rw [ha] at q1; cases q1
    obtain ⟨u, hu, ru⟩ := OFs.lookup r hl
    exact ⟨a, _, dx, gs, u, rfl, q2, (C m hm).1.c, (C m hm).2, hu, hQ _ _ _ _ _ q e1 s1 ru⟩, hZ⟩
/-- o.f = e -/
def dSetF (f : Str) (ms : List Nat) (to te : DTE) : DTS := fun E ρ st => te ρ st (fun y st1 => to ρ st1 (fun z st2 => ∃ n m fs, z = .loc n ∧ m ∈ ms ∧ st2[n]? = some (.ins (errA m) fs) ∧ fs.length < 1000 ∧ E.nx ρ (st2.set n (.ins (errA m) (putFD f y fs)))) E.xs) E.xs
theorem ds_setF {ms : List Nat} (C : ∀ m ∈ ms, ClF X.K m ∧ NoAttr X.K (errA m) f) (ho : DE X W o to) (he : DE X W e te) (hs : swapsWith e (some (.Attribute o f p)) pos.line X.env = pure false := by rfl) : DS X W (.Assign [.Attribute o f p] e pos) (dSetF f ms to te) :=
  ps_weak (ps_fld ho he hs) fun D σ H ⟨ρ, st, μ, DD, hS, ht, hO⟩ => ⟨ρ, st, μ, _, _, hS, ht, fun y st1 H1 μ1 v hx e1 s1 rv => ⟨ρ, st1, μ1, _, _, hS.mono e1 s1, hx, fun z st2 H2 μ2 w hz e2 s2 rw' => by
    obtain ⟨n, m, fs, rfl, hm, hn, hl, q⟩ := hz
    obtain ⟨a, rfl, ha⟩ := rw'
    obtain ⟨a', ob, q1, q2, dx, gs, rfl, r⟩ := s2.at' _ _ hn
    rw [ha] at q1; cases q1
    refine ⟨a, _, dx, gs, rfl, q2, (C m hm).1.c, (C m hm).2, by rw [← ofs_len r]; exact hl, ?_⟩
    obtain ⟨e3, s3⟩ := s2.write ha q2 (b := .ins (errA m) (putFD f y fs)) (o' := .ins (errA m) dx (putF f v gs)) ⟨dx, _, rfl, ofs_put (rv.mono e2) r⟩
    exact hO.nx _ _ _ _ _ q ((e1.trans e2).trans e3) ⟨hS.e.mono ((e1.trans e2).trans e3), s3⟩, hO.xs.mono e1⟩, hO.xs⟩
/-- C(e, ..) -/
def dMake (m : Nat) (n : Nat) (dsp : DSp) (t : DTA) : DTE := fun ρ st Q Z => t ρ st (fun ds st1 => ds.length + 1 = n ∧ dsp (.loc st1.length :: ds) (st1 ++ [.ins (errA m) []]) (fun v st2 => v = .non ∧ Q (.loc st1.length) st2) fun x st2 => Z x ρ st2) Z
structure MkF [EC : ErrCtx] (K : PySem.W.Frag) (mg : Str → Option Value) (m : Nat) (x : Str) : Prop where
  g : mg x = some (.ref (errA m))
  mks : PySem.W.makesIn K (errA m) = true
  kp : PySem.W.keepIn K (.ref (errA m)) = true
theorem PassesAt.all {E : XK} (h : ∀ σ, PassesAt (L2.CX X.prog X.w) X σ E) : Passes (L2.CX X.prog X.w) X E := fun pins σ H s e s' I c => h σ pins H s e s' I c
/-- C(e, ..), the exceptions of its __init__ wished for at the caller's slots -/
theorem run_makeS {CX : CXT} {fI C : Addr} {fd : FuncData} {ps : List Str} {sp : Sp} {E : XK} {pins : List (Addr × Obj)} {σ : St} {H : Hp} {s : Shared} {Q : VK} {us : List Value} {vs : List V} (M : Mk X.K C fI) (F : FnOk X.prog X.w X.K X.mg X.base CX k fI fd ps sp) (hr : Room (k + 1) X.A) (hb : Binds X.K fd ps [])
    (hx : PassesAt CX X σ E) (I : Inv X pins σ H s) (r : Vals vs us)
    (h : ∀ x dx, H x = none → H dx = none → dx ≠ x → sp (.ref x :: vs) (upd (upd H dx (.own x)) x (.ins C dx [])) (fun v H2 => v = .non ∧ Q (.ref x) H2) E) :
    wpAny (model X.prog X.w) X.A (call (.ref C) us) (EP X pins σ Q) X.xe s := by
  have hq := h (s.heap.objs.size + 1) s.heap.objs.size (I.hok.fresh (Nat.le_succ _)) (I.hok.fresh (Nat.le_refl _)) (Nat.ne_of_lt (Nat.lt_succ_self _))
  have I2 := Inv.made (C := C) I
  have r2 : Vals (V.ref (s.heap.objs.size + 1) :: vs) (Value.ref (s.heap.objs.size + 1) :: us) := .cons rfl r
  have hl : (Value.ref (s.heap.objs.size + 1) :: us ++ []).length = ps.length := by
    have e := r2.length
    rw [F.len _ _ _ _ hq] at e
    simpa using e.symm
  have hbd := hb _ (Value.ref (s.heap.objs.size + 1) :: us) I2.kIn hl
  rw [List.append_nil] at hbd
  refine wpAny_call (make_map (f := fI) I.kIn M.makes M.init (beq_iff_eq.mp M.fn) (codeAny_mono (F.run _ X.stack _ _ ⟨Value.ref (s.heap.objs.size + 1) :: us, []⟩ (Value.ref (s.heap.objs.size + 1) :: us) _ _ E (hr.make C us [])
    (I2.env0.make C us []) hbd r2 hq) fun r s' hq' => ?_))
  cases r with
  | error e => exact hx pins _ _ e s' I2 hq'
  | ok fl =>
    cases fl with
    | ret u =>
      obtain ⟨v, H', I3, rv, ev, q3⟩ := I2.after hq'
      subst ev
      exact ⟨rv, ⟨V.ref (s.heap.objs.size + 1), H', I3, rfl, q3⟩⟩
    | next => exact False.elim hq'
    | brk => exact False.elim hq'
    | cont => exact False.elim hq'
def tMakeS (C : Addr) (sp : Sp) (E : St → XK) (t : TA) : TE := fun σ H Q => t σ H fun vs H1 => ∀ x dx, H1 x = none → H1 dx = none → dx ≠ x →
  sp (.ref x :: vs) (upd (upd H1 dx (.own x)) x (.ins C dx [])) (fun v H2 => v = .non ∧ Q (.ref x) H2) (E σ)
theorem pe_makeS {CX : CXT} {fI C : Addr} {fd : FuncData} {ps : List Str} {sp : Sp} {E : St → XK} {ta : TA} (M : Mk X.K C fI) (F : FnOk X.prog X.w X.K X.mg X.base CX k fI fd ps sp) (hr : Room (k + 1) X.A) (hg : Gl X x) (hm : X.mg x = some (.ref C)) (hb : Binds X.K fd ps []) (hx : ∀ σ, PassesAt CX X σ (E σ))
    (ha : PA X (e :: es) ta) (hdb : (x == ("__debug__" : Str)) = false := by decide) (he : starEach (e :: es) X.env = (false, eval e X.env) :: starEach es X.env := by rfl) (hpl : (backTo pos (starEach es X.env)).any (·.1) = false := by rfl) :
    PE X (.Call (.Name x p) (e :: es) [] pos) (tMakeS C sp E ta) := by
  refine ⟨fun pins s σ H Q I h => ?_⟩
  refine wpAny_Call_Name_kw (ld_glob I hg hm ?_ hdb)
  refine PySem.W.callWith_K (h₀ := X.base) I.ok.mod.kin M.kp (thn (ha.run pos pins s σ H _ I h) fun us s1 ⟨vs, H1, I1, r, q⟩ => ⟨I1.kIn, ?_⟩) he hpl
  exact run_makeS M F hr hb (hx σ) I1 r q
theorem de_make (M : MkF X.K X.mg m x) (I : HasM X.prog X.w X.K X.mg X.base k m "__init__" n dsp) (hr : Room (k + 1) X.A) (hg : Gl X x) (hx : Pas X W) (ha : DA X W (e :: es) t)
    (hdb : (x == ("__debug__" : Str)) = false := by decide) (he : starEach (e :: es) X.env = (false, eval e X.env) :: starEach es X.env := by rfl) (hpl : (backTo pos (starEach es X.env)).any (·.1) = false := by rfl) :
    DE X W (.Call (.Name x p) (e :: es) [] pos) (dMake m n dsp t) := by
  obtain ⟨f, fd, ps, F, hm, hb⟩ := I
  refine pe_weak (pe_makeS ⟨M.mks, hm.at_, hm.fn, M.kp⟩ F hr hg M.g hb hx ha hdb he hpl) fun σ H Q ⟨ρ, st, μ, Qd, Z, hS, ht, hQ, hZ⟩ => ?_
  refine ⟨ρ, st, μ, _, Z, hS, ht, fun ds st1 H1 μ1 vs hx e1 s1 rv a dx ha hdx hne => ?_, hZ⟩
  obtain ⟨hl, hx⟩ := hx
  have ha' : upd H1 dx (.own a) a = none := by rw [upd_ne (Ne.symm hne)]; exact ha
  have e2 : Ext H1 (upd H1 dx (.own a)) μ1 μ1 := Ext.laid hdx
  have s2 : SRep X.K st1 μ1 (upd H1 dx (.own a)) := s1.laid hdx
  have e3 : Ext (upd H1 dx (.own a)) (upd (upd H1 dx (.own a)) a (.ins (errA m) dx [])) μ1 (μ1 ++ [a]) := Ext.push ha'
  have s3 : SRep X.K (st1 ++ [.ins (errA m) []]) (μ1 ++ [a]) (upd (upd H1 dx (.own a)) a (.ins (errA m) dx [])) := s2.push ha' ⟨dx, [], rfl, ofs_nil⟩
  have e := e2.trans e3
  refine ⟨?_, .loc st1.length :: ds, st1 ++ [.ins (errA m) []], μ1 ++ [a], fun v st2 => v = .non ∧ Qd (.loc st1.length) st2, fun x st2 => Z x ρ st2, ⟨.ref a, vs, rfl, ⟨a, rfl, by rw [s1.len]; exact getElem?_end _ _⟩, rv.mono e⟩, s3, hx, ?_, ?_⟩
  · simp only [List.length_cons, ← rv.length]
    exact hl
  · intro d st4 H4 μ4 v hd e4 s4 r4
    obtain ⟨hdn, hq⟩ := hd
    rw [hdn] at r4
    refine ⟨r4, hQ _ _ _ _ _ hq ((e1.trans e).trans e4) s4 ⟨a, rfl, ?_⟩⟩
    exact e4.pre _ _ (by rw [s1.len]; exact getElem?_end _ _)
  · exact XOk.of hS hZ (e1.trans e)
end
end DL
set_option maxHeartbeats 4000000
namespace L2
open PySem PySem.Spec PyProof.Rows
def tMkE (C : Addr) (sp : Sp) (ta : TA) : TE := fun σ H Q => ta σ H fun vs H1 => vs.length ≤ 1000 ∧ ∀ a, H1 a = none → sp (.ref a :: vs) (upd H1 a (exo a C none)) (fun v H2 => v = .non ∧ Q (.ref a) H2) (fun _ _ _ => False)
def tMkE0 (C : Addr) (sp : Sp) : TE := fun σ H Q => ∀ a, H a = none → sp [.ref a] (upd H a (exo a C none)) (fun v H2 => v = .non ∧ Q (.ref a) H2) (fun _ _ _ => False)
section
variable {X : Cx} {CX : CXT} {x : Str} {C fI : Addr} {k : Nat} {fd : FuncData} {ps : List Str} {sp : Sp} {e : Expr} {es : List Expr} {ta : TA} {p pos : Pos}
theorem pe_mkE (T : OexC X.K C) (iC : PySem.W.findIn X.K (.ref C) "__init__" = some (some (.ref fI))) (tI : PySem.W.typeIn X.K (.ref fI) = some (.type "function"))
    (F1 : FnOk X.prog X.w X.K X.mg X.base CX k fI fd ps sp) (hr : Room (k + 1) X.A) (hb : Binds X.K fd ps []) (hx : Passes CX X (fun _ _ _ => False)) (hg : Gl X x) (hm : X.mg x = some (.ref C)) (ha : PA X (e :: es) ta)
    (hdb : (x == ("__debug__" : Str)) = false := by decide) (he : starEach (e :: es) X.env = (false, eval e X.env) :: starEach es X.env := by rfl) (hpl : (backTo pos (starEach es X.env)).any (·.1) = false := by rfl) :
    PE X (.Call (.Name x p) (e :: es) [] pos) (tMkE C sp ta) := by
  refine ⟨fun pins s σ H Q I h => ?_⟩
  obtain ⟨nm, q, N, bs, bm, sn, sub, ab, col, dd, k0, k1, k2, k3, k5, hC, hbm⟩ := T.cls
  refine wpAny_Call_Name_kw (ld_glob I hg hm ?_ hdb)
  refine PySem.W.callWith_K (h₀ := X.base) I.ok.mod.kin T.kC (thn (ha.run pos pins s σ H _ I h) fun us s1 ⟨vs, H1, I1, r1, hz, q1⟩ => ⟨I1.kIn, ?_⟩) he hpl
  show wpAny _ _ (call (.ref C) us) _ _ _
  obtain ⟨hp, g, dr, tk, os⟩ := s1
  have hsz : hp.objs.size ≤ hp.objs.size + 1 := Nat.le_succ _
  have hn : H1 (hp.objs.size + 1) = none := I1.hok.fresh hsz
  have hq := q1 (hp.objs.size + 1) hn
  have kk : ∀ b o, hp.get? b = some o → ((hp.push (PySem.W.kdv_tup us)).push (PySem.HandSPX.excO C hp.objs.size)).get? b = some o := fun b o e => Heap.get?_push_of_some _ (Heap.get?_push_of_some _ e)
  have hget : ((hp.push (PySem.W.kdv_tup us)).push (PySem.HandSPX.excO C hp.objs.size)).get? (hp.objs.size + 1) = some (PySem.HandSPX.excO C hp.objs.size) := by heap_get
  have I2 : Inv X pins σ (upd H1 (hp.objs.size + 1) (exo (hp.objs.size + 1) C none)) ⟨(hp.push (PySem.W.kdv_tup us)).push (PySem.HandSPX.excO C hp.objs.size), g, dr, tk, os⟩ :=
    I1.laid (t' := tk) (a := hp.objs.size + 1) (o := exo (hp.objs.size + 1) C none) (h' := (hp.push (PySem.W.kdv_tup us)).push (PySem.HandSPX.excO C hp.objs.size)) kk hsz (exo_ok hget)
  have r2 : Vals (V.ref (hp.objs.size + 1) :: vs) (Value.ref (hp.objs.size + 1) :: us) := .cons rfl r1
  have hl : (Value.ref (hp.objs.size + 1) :: us ++ []).length = ps.length := by
    have e := r2.length
    rw [F1.len _ _ _ _ hq] at e
    simpa using e.symm
  have hus : us.length ≤ sizeLine := by
    rw [← Paired.length r1, sizeLine_eq]
    omega
  have hbd := hb _ (Value.ref (hp.objs.size + 1) :: us) I2.kIn hl
  rw [List.append_nil] at hbd
  refine wpAny_call (PySem.HandSPX.call_own F.excBase_ValueError (fun Y => PySem.HandSPX.refsVE_contains Y bm hbm) (I1.kIn _ _ hC) (PySem.W.looks_findIn I1.kIn iC) (fun self => PySem.W.bind_fn I1.kIn self tI) hus
    (codeAny_mono (F1.run _ X.stack _ _ ⟨Value.ref (hp.objs.size + 1) :: us, []⟩ (Value.ref (hp.objs.size + 1) :: us) _ _ (fun _ _ _ => False) (hr.make C us []) (I2.env0.make C us []) hbd r2 hq) fun r s' hq' => ?_))
  cases r with
  | error er => exact hx pins σ _ _ er s' I2 hq'
  | ok fl =>
    cases fl with
    | ret u =>
      obtain ⟨v, H', I3, rv, ev, q3⟩ := I2.after hq'
      subst ev
      exact ⟨rv, ⟨V.ref (hp.objs.size + 1), H', I3, rfl, q3⟩⟩
    | next => exact False.elim hq'
    | brk => exact False.elim hq'
    | cont => exact False.elim hq'
theorem pe_mkE0 (T : OexC X.K C) (iC : PySem.W.findIn X.K (.ref C) "__init__" = some (some (.ref fI))) (tI : PySem.W.typeIn X.K (.ref fI) = some (.type "function"))
    (F1 : FnOk X.prog X.w X.K X.mg X.base CX k fI fd ps sp) (hr : Room (k + 1) X.A) (hb : Binds X.K fd ps []) (hx : Passes CX X (fun _ _ _ => False)) (hg : Gl X x) (hm : X.mg x = some (.ref C))
    (hdb : (x == ("__debug__" : Str)) = false := by decide) :
    PE X (.Call (.Name x p) [] [] pos) (tMkE0 C sp) := by
  refine ⟨fun pins s σ H Q I h => ?_⟩
  obtain ⟨nm, q, N, bs, bm, sn, sub, ab, col, dd, k0, k1, k2, k3, k5, hC, hbm⟩ := T.cls
  refine wpAny_Call_Name_kw (ld_glob I hg hm ?_ hdb)
  refine PySem.W.callWith_K0 I.kIn T.kC ?_
  show wpAny _ _ (call (.ref C) []) _ _ _
  obtain ⟨hp, g, dr, tk, os⟩ := s
  have hsz : hp.objs.size ≤ hp.objs.size + 1 := Nat.le_succ _
  have hn : H (hp.objs.size + 1) = none := I.hok.fresh hsz
  have hq := h (hp.objs.size + 1) hn
  have kk : ∀ b o, hp.get? b = some o → ((hp.push (PySem.W.kdv_tup [])).push (PySem.HandSPX.excO C hp.objs.size)).get? b = some o := fun b o e => Heap.get?_push_of_some _ (Heap.get?_push_of_some _ e)
  have hget : ((hp.push (PySem.W.kdv_tup [])).push (PySem.HandSPX.excO C hp.objs.size)).get? (hp.objs.size + 1) = some (PySem.HandSPX.excO C hp.objs.size) := by heap_get
  have I2 : Inv X pins σ (upd H (hp.objs.size + 1) (exo (hp.objs.size + 1) C none)) ⟨(hp.push (PySem.W.kdv_tup [])).push (PySem.HandSPX.excO C hp.objs.size), g, dr, tk, os⟩ :=
    I.laid (t' := tk) (a := hp.objs.size + 1) (o := exo (hp.objs.size + 1) C none) (h' := (hp.push (PySem.W.kdv_tup [])).push (PySem.HandSPX.excO C hp.objs.size)) kk hsz (exo_ok hget)
  have r2 : Vals [V.ref (hp.objs.size + 1)] [Value.ref (hp.objs.size + 1)] := .cons rfl .nil
  have hl : [Value.ref (hp.objs.size + 1)].length = ps.length := by
    have e := r2.length
    rw [F1.len _ _ _ _ hq] at e
    exact e.symm
  refine wpAny_call (PySem.HandSPX.call_own F.excBase_ValueError (fun Y => PySem.HandSPX.refsVE_contains Y bm hbm) (I.kIn _ _ hC) (PySem.W.looks_findIn I.kIn iC) (fun self => PySem.W.bind_fn I.kIn self tI) (by decide)
    (codeAny_mono (F1.run _ X.stack _ _ ⟨[Value.ref (hp.objs.size + 1)], []⟩ [Value.ref (hp.objs.size + 1)] _ _ (fun _ _ _ => False) (hr.make C [] []) (I2.env0.make C [] []) (hb _ [Value.ref (hp.objs.size + 1)] I2.kIn hl) r2 hq) fun r s' hq' => ?_))
  cases r with
  | error er => exact hx pins σ _ _ er s' I2 hq'
  | ok fl =>
    cases fl with
    | ret u =>
      obtain ⟨v, H', I3, rv, ev, q3⟩ := I2.after hq'
      subst ev
      exact ⟨rv, ⟨V.ref (hp.objs.size + 1), H', I3, rfl, q3⟩⟩
    | next => exact False.elim hq'
    | brk => exact False.elim hq'
    | cont => exact False.elim hq'
end
theorem exo_any {P : Program} {w : World} {H : Hp} {h : Heap} {b e C : Addr} {d : Option Addr} (hok : HOk P w H h) (he : H b = some (exo e C d)) : ∃ t1 : Addr, h.get? e = some ({ cls := .ref C, dict := d, data := .fields #[.ref t1, .none, .none, .none, .bool false, .none] } : Obj) := by
  have x : ObjOk P w H h b (.ext fun h => ∃ t1 : Addr, h.get? e = some ({ cls := .ref C, dict := d, data := .fields #[.ref t1, .none, .none, .none, .bool false, .none] } : Obj)) := hok b _ he
  exact x.1
theorem exd_any {P : Program} {w : World} {H : Hp} {h : Heap} {b dx : Addr} {fs : List (Str × V)} (hok : HOk P w H h) (he : H b = some (exd dx fs)) : ∃ mA, h.Ns1 dx mA ∧ ∀ f, RelO (fs.lookup f) (mA f) := by
  have x : ObjOk P w H h b (.ext fun h => ∃ mA, h.Ns1 dx mA ∧ ∀ f, RelO (fs.lookup f) (mA f)) := hok b _ he
  exact x.1
/-- isinstance(e, c), e an exception that was made -/
def rIsX (K : PySem.W.Frag) : List V → Hp → VK → Prop := fun xs H Q => ∃ (a C b : Addr) (d : Option Addr) (c : V) (cv : Value) (r : Bool), ExcC K C ∧ xs = [.ref a, c] ∧ (∀ u, RelV c u → u = cv) ∧ H b = some (exo a C d) ∧ (∀ dd, d = some dd → ∃ q gs, H q = some (exd dd gs)) ∧ PySem.W.kitOne K (.ref C) cv = some r ∧ Q (.bl r) H
theorem call_isX {X : Cx} : CallR X (.builtin "isinstance") (rIsX X.K) := by
  intro pins s σ H xs us Q I r h
  obtain ⟨a, D, bb, d, c, cv, b, C, rfl, hcv, he, hdd, e, q⟩ := h
  cases r with
  | cons rx rr =>
    cases rr with
    | cons rt rr =>
      cases rr
      cases rx
      have ec := hcv _ rt
      subst ec
      obtain ⟨t1, hget⟩ := exo_any I.hok he
      have hcl : (PySem.W.clsIn X.K D).isSome = true := by
        obtain ⟨cd, hc, _⟩ := PySem.W.any_some C.hd
        rw [hc]; rfl
      have J : ∃ od, PySem.W.InstAt s.heap a ({ cls := .ref D, dict := d, data := .fields #[.ref t1, .none, .none, .none, .bool false, .none] } : Obj) D od := by
        cases d with
        | none => exact ⟨none, hget, rfl, rfl, trivial⟩
        | some dd =>
          obtain ⟨qq, gs, ea⟩ := hdd dd rfl
          obtain ⟨mA, hns, hr⟩ := exd_any I.hok ea
          obtain ⟨od, ho, hl⟩ := lookIn_ns hns
          exact ⟨some od, hget, rfl, rfl, ho⟩
      obtain ⟨od, J⟩ := J
      exact PySem.W.kia_one (PySem.W.kitx_exc hcl C.hg C.hk C.hs C.ha C.hn C.ht C.hm) I.kIn J e (fun z => nomatch z) fun tk => ⟨.bl b, H, I.kept (t' := tk) fun _ _ z => z, rfl, q⟩
/-- e.f, e an exception that was made -/
def tXo (K : PySem.W.Frag) (f : Str) (te : TE) : TE := fun σ H Q => te σ H fun x H1 => ∃ (a C b dd q : Addr) (gs : List (Str × V)) (v : V), x = .ref a ∧ XfC K C ∧ PySem.W.findIn K (.ref C) f = some none ∧ H1 b = some (exo a C (some dd)) ∧ H1 q = some (exd dd gs) ∧ gs.lookup f = some v ∧ Q v H1
theorem pe_xo {X : Cx} {e : Expr} {te : TE} {pos : Pos} {n : Str} (he : PE X e te) (hb : attributeBase e n X.env (eval e X.env) = eval e X.env := by rfl) :
    PE X (.Attribute e n pos) (tXo X.K n te) := by
  refine ⟨fun pins s σ H Q I h => ?_⟩
  refine attr_of hb (thn (he.run pins s σ H _ I h) fun u s1 hh => ?_)
  obtain ⟨x, H1, I1, rx, a, C, b, dd, q, gs, v, ex, T, hno, ea, ed, l, q⟩ := hh
  subst ex
  obtain rfl : u = Value.ref a := rx
  obtain ⟨t1, hget⟩ := exo_any I1.hok ea
  obtain ⟨mA, hns, hr⟩ := exd_any I1.hok ed
  obtain ⟨od, ho, hl⟩ := lookIn_ns hns
  obtain ⟨u, hu, ru⟩ := RelO.some_of (v := v) (o := mA n) (by rw [← l]; exact hr n)
  have J : PySem.W.InstAt s1.heap a ({ cls := .ref C, dict := some dd, data := .fields #[.ref t1, .none, .none, .none, .bool false, .none] } : Obj) C (some od) := ⟨hget, rfl, rfl, ho⟩
  exact HandSPX.exc_get I1.kIn J T.ga T.gg T.exC (PySem.W.findObj_own T.hdC hno rfl (by rw [hl, hu])) (handed_of ru) ⟨v, H1, I1.tok _, ru, q⟩
/-- what was just made is locked -/
theorem pe_frz {X : Cx} {e : Expr} {t : TE} (h : PE X e t) : PE X e (fun σ H Q => t σ H fun x H1 => ∃ d u, x = .ref d ∧ H1 d = some u ∧ Mut (some u) ∧ ∀ od, Q x (upd H1 d (.frz od u))) := by
  refine ⟨fun pins s σ H Q I hw => ?_⟩
  refine thn (h.run pins s σ _ _ I hw) fun v s1 ⟨x, H1, I2, r, d, u, ex, e2, mu, q⟩ => ?_
  obtain ⟨od, I3⟩ := I2.lock e2 mu
  exact ⟨x, _, I3, r, q od⟩
theorem op_eq_dF {X : Cx} (hu : X.A.units < cLine) : OpR X (compareOp .Eq) (fun x y H Q => ∃ a b kvs, x = .ref a ∧ y = .ref b ∧ Rd H a (.dK kvs) ∧ Rd H b (.dK kvs) ∧ (kvs.map (·.1)).Nodup ∧ (∀ p ∈ kvs, flatB p.2 = true) ∧ Q (.bl true) H) := by
  intro pins s σ H x y v u Q I rx ry h
  obtain ⟨a, b, kvs, rfl, rfl, ea, eb, nd, fl, q⟩ := h
  obtain rfl : v = Value.ref a := rx
  obtain rfl : u = Value.ref b := ry
  obtain ⟨_, ya, va, ra, da⟩ := (show ObjOk X.prog X.w H s.heap a (.dK kvs) from ea.ok I.hok)
  obtain ⟨_, yb, vb, rb, db⟩ := (show ObjOk X.prog X.w H s.heap b (.dK kvs) from eb.ok I.hok)
  have hl : va.length = vb.length := ra.length.symm.trans rb.length
  exact PySem.W.keq_eq (knd := mixKind X.prog X.w) (r := true) ya yb da db hu (fun _ => hits_all rb ra fun p hp => ⟨val_nodup nd p hp, fl p hp⟩) (fin_bl I q (by simp [hl]))
end L2
set_option maxHeartbeats 4000000
namespace L2
open PySem PySem.Spec PyProof.Rows
/-- l.count(b), truth values -/
def rCountB : V → List V → Hp → VK → Prop := fun x vs H Q => ∃ (l : Addr) (bs : List Bool) (c : Bool), x = .ref l ∧ vs = [.bl c] ∧ H l = some (.lst (bs.map V.bl)) ∧ Q (.int (bs.countP fun b => b == c : Nat)) H
theorem vals_bools : ∀ {bs : List Bool} {us : List Value}, Vals (bs.map V.bl) us → us = bs.map Value.bool
  | [], us, h => by cases h; rfl
  | b :: bs, us, h => by
    cases h with
    | cons r h => rw [vals_bools h, show _ = _ from r]; rfl
theorem mt_countB {X : Cx} : MtR X "list.count" rCountB := by
  intro pins s σ H x vs v us Q I rx rv h
  obtain ⟨l, bs, c, rfl, rfl, hH, q⟩ := h
  cases rx
  obtain ⟨u, rfl, ru⟩ := rv.one
  obtain ⟨z, its, n, r, hl, e⟩ := I.lstM hH
  have e1 := vals_bools r
  subst e1
  cases (show u = Value.bool c from ru)
  refine call_meets F.slot_list_count ⟨_, e, rfl⟩ F.entry_list_count (F.args_list_count_2 _ _) (SeqAt.list_countAt l _ n none #[] (Value.bool c) (fun v => match v with | .bool b => b == c | _ => false)) ⟨e, fun y hy => ?_, ?_⟩
  · have hy' : y ∈ bs.map Value.bool := by simpa using hy
    obtain ⟨b, hb, rfl⟩ := List.mem_map.mp hy'
    exact eqAt_V (y := .bl b) (x := .bl c) rfl rfl rfl rfl
  · have e2 : ((bs.map Value.bool).toArray.toList.countP fun v => match v with | .bool b => b == c | _ => false) = bs.countP fun b => b == c := by
      show (bs.map Value.bool).countP _ = _
      rw [List.countP_map]
      rfl
    rw [e2]
    exact ⟨.int _, H, I.tok _, ⟨_, rfl⟩, q⟩
/-- == by an own __eq__ -/
def rEqO (C : Addr) (sp : Sp) (E : XK) : R2 := fun x y H Q => ∃ a b dx dy fs gs, x = .ref a ∧ y = .ref b ∧ H a = some (.ins C dx fs) ∧ H b = some (.ins C dy gs) ∧ sp [.ref a, .ref b] H (fun v H' => ∃ r, v = .bl r ∧ Q v H') E
theorem op_eqO {X : Cx} {CX : CXT} {n : Nat} {C f : Addr} {fd : FuncData} {ps : List Str} {sp : Sp} {E : XK} (F : FnOk X.prog X.w X.K X.mg X.base CX n f fd ps sp) (hr : Room n X.A)
    (hs : PySem.W.findIn X.K (.ref C) "__eq__" = some (some (.ref f))) (hf : PySem.W.isFn X.K (.ref f) = true) (hb : Binds X.K fd ps []) (hx : Passes CX X E) : OpR X (compareOp .Eq) (rEqO C sp E) := by
  intro pins s σ H x y u v Q I rx ry d
  obtain ⟨a, b, dx, dy, fs, gs, rfl, rfl, ha, hb', hsp⟩ := d
  cases rx
  cases ry
  obtain ⟨mA, J, _⟩ := ins_get I.hok ha
  obtain ⟨mB, J', _⟩ := ins_get I.hok hb'
  obtain ⟨od, J, _⟩ := J.look
  obtain ⟨od', J', _⟩ := J'.look
  obtain ⟨m, hF⟩ := I.fr
  refine PySem.W.cmp_K (op := .Eq) (tb := .ref C) hr.units0 hF I.ok.mod.kin J J'.type (by simp [PySem.W.notFirst]) hs hf ?_
  have hl := F.len _ _ _ _ hsp
  have r2 : Vals [V.ref a, V.ref b] [Value.ref a, Value.ref b] := .cons rfl (.cons rfl .nil)
  refine wpAny_call (codeAny_mono (F.run X.A X.stack s H ⟨[.ref a, .ref b], []⟩ [.ref a, .ref b] [.ref a, .ref b] _ E hr I.env0 (by
    have := hb s [.ref a, .ref b] I.kIn (by simpa using hl)
    simpa using this) r2 hsp) fun r s' hq => ?_)
  cases r with
  | error e => exact hx pins σ H s e s' I hq
  | ok fl =>
    cases fl with
    | ret w =>
      obtain ⟨z, H', I', rz, b, ez, q⟩ := I.after hq
      subst ez
      cases rz
      exact ⟨.bl b, H', I', rfl, q⟩
    | next => exact False.elim hq
    | brk => exact False.elim hq
    | cont => exact False.elim hq
end L2
namespace DL
open PySem L2 PySem.Spec
open PyProof.Rows hiding St
/-- an exception in the store: at a, of class q, its fields -/
def ErrAt [EC : ErrCtx] (st : Sto) (a : Addr) (q : Nat) (fs : List (Str × D)) : Prop := ∃ (n : Nat) (d : Option Addr), st[n]? = some (.err a (errA q) d) ∧ ((d = none ∧ fs = []) ∨ ∃ (dd : Addr) (k : Nat), d = some dd ∧ st[k]? = some (.xdt dd fs))
theorem ErrAt.more [EC : ErrCtx] {st g : Sto} {a : Addr} {q : Nat} {fs : List (Str × D)} (h : ErrAt st a q fs) : ErrAt (st ++ g) a q fs := by
  obtain ⟨n, d, h1, h2⟩ := h
  refine ⟨n, d, by rw [List.getElem?_append_left (List.getElem?_eq_some_iff.mp h1).1]; exact h1, ?_⟩
  rcases h2 with h2 | ⟨dd, k, e, h2⟩
  · exact .inl h2
  · exact .inr ⟨dd, k, e, by rw [List.getElem?_append_left (List.getElem?_eq_some_iff.mp h2).1]; exact h2⟩
section
variable [TC : TabCtx] [EC : ErrCtx] {X : Cx} {W : WX} {e c : Expr} {es : List Expr} {te ta tb : DTE} {tA : DTA} {pos p : Pos} {x f : Str} {m k : Nat}
/-- X(e), kept -/
def dMkE1 (m : Nat) (f : Str) (te : DTE) : DTE := fun ρ st Q Z => te ρ st (fun y st1 => ∀ a dx, Q (.adr a) (st1 ++ [.xdt dx [(f, y)], .err a (errA m) (some dx)])) Z
def dMkE0 (m : Nat) : DTE := fun _ st Q _ => ∀ a, Q (.adr a) (st ++ [.err a (errA m) none])
theorem de_mkE1 (R : Er1 X.prog X.w X.K X.mg X.base m x f) (hr : Room k X.A) (hk : 2 ≤ k) (hg : Gl X x) (ha : DE X W e te)
    (hdb : (x == ("__debug__" : Str)) = false := by decide) (hs : starEach [e] X.env = (false, eval e X.env) :: starEach [] X.env := by rfl) (hpl : (backTo pos (starEach [] X.env)).any (·.1) = false := by rfl) :
    DE X W (.Call (.Name x p) [e] [] pos) (dMkE1 m f te) := by
  obtain ⟨g, T, fI, fd, i1, i2, F, hb⟩ := R
  refine pe_weak (pe_mkE T i1 i2 F (hr.mono hk) hb passes0 hg g (da_cons ha da_nil hs) hdb hs hpl) fun σ H Q ⟨ρ, st, μ, Qd, Z, hS, ht, hQ, hZ⟩ => ?_
  refine ⟨ρ, st, μ, fun ds st1 => ∃ y, ds = [y] ∧ ∀ a dx, Qd (.adr a) (st1 ++ [.xdt dx [(f, y)], .err a (errA m) (some dx)]), Z, hS, ?_, fun ds st1 H1 μ1 vs hx e1 s1 rv => ?_, hZ⟩
  · show te ρ st _ _
    have : (fun x st1 => dNil ρ st1 (fun xs st2 => ∃ y, x :: xs = [y] ∧ ∀ a dx, Qd (.adr a) (st2 ++ [.xdt dx [(f, y)], .err a (errA m) (some dx)])) Z) = fun y st1 => ∀ a dx, Qd (.adr a) (st1 ++ [.xdt dx [(f, y)], .err a (errA m) (some dx)]) := by
      funext y st1
      apply propext
      constructor
      · rintro ⟨z, e, h⟩
        cases e
        exact h
      · intro h
        exact ⟨y, rfl, h⟩
    rw [this]
    exact ht
  · obtain ⟨y, rfl, hx⟩ := hx
    obtain ⟨v, r, rfl, rv1, rfl⟩ := rv
    refine ⟨by show 1 ≤ 1000; decide, fun a ha => ⟨a, v, rfl, upd_same, fun dx hdx hne => ⟨rfl, ?_⟩⟩⟩
    rw [upd_ne hne] at hdx
    have eH : upd (upd (upd H1 a (exo a (errA m) none)) dx (exd dx [(f, v)])) a (exo a (errA m) (some dx)) = upd (upd H1 dx (exd dx [(f, v)])) a (exo a (errA m) (some dx)) := by
      funext b
      by_cases hb : b = a
      · rw [hb, upd_same, upd_same]
      · rw [upd_ne hb, upd_ne hb]
        by_cases hbd : b = dx
        · rw [hbd, upd_same, upd_same]
        · rw [upd_ne hbd, upd_ne hbd, upd_ne hb]
    rw [eH]
    have ha' : upd H1 dx (exd dx [(f, v)]) a = none := by rw [upd_ne (Ne.symm hne)]; exact ha
    have e2 : Ext H1 (upd H1 dx (exd dx [(f, v)])) μ1 (μ1 ++ [dx]) := Ext.push hdx
    have s2 : SRep X.K (st1 ++ [.xdt dx [(f, y)]]) (μ1 ++ [dx]) (upd H1 dx (exd dx [(f, v)])) := s1.push hdx ⟨[(f, v)], rfl, ofs_mk (p := (f, y)) (rv1.mono e2) ofs_nil⟩
    have e3 : Ext (upd H1 dx (exd dx [(f, v)])) (upd (upd H1 dx (exd dx [(f, v)])) a (exo a (errA m) (some dx))) (μ1 ++ [dx]) ((μ1 ++ [dx]) ++ [a]) := Ext.push ha'
    have s3 : SRep X.K ((st1 ++ [.xdt dx [(f, y)]]) ++ [.err a (errA m) (some dx)]) ((μ1 ++ [dx]) ++ [a]) (upd (upd H1 dx (exd dx [(f, v)])) a (exo a (errA m) (some dx))) := s2.push ha' (show _ = _ from rfl)
    rw [List.append_assoc] at s3
    exact hQ _ _ _ _ _ (hx a dx) (e1.trans (e2.trans e3)) s3 rfl
theorem de_mkE0 (R : Er0 X.prog X.w X.K X.mg X.base m x) (hr : Room k X.A) (hk : 2 ≤ k) (hg : Gl X x)
    (hdb : (x == ("__debug__" : Str)) = false := by decide) :
    DE X W (.Call (.Name x p) [] [] pos) (dMkE0 m) := by
  obtain ⟨g, T, fI, fd, i1, i2, F, hb⟩ := R
  refine pe_weak (pe_mkE0 T i1 i2 F (hr.mono hk) hb passes0 hg g hdb) fun σ H Q ⟨ρ, st, μ, Qd, Z, hS, ht, hQ, hZ⟩ => ?_
  exact fun a ha => ⟨a, rfl, rfl, hQ _ _ _ _ _ (ht a) (Ext.push ha) (hS.s.push ha (show _ = _ from rfl)) rfl⟩
theorem ErrAt.get {K : PySem.W.Frag} {st : Sto} {μ : List Addr} {H : Hp} {a : Addr} {q : Nat} {fs : List (Str × D)} (h : ErrAt st a q fs) (s : SRep K st μ H) :
    ∃ b d, H b = some (exo a (errA q) d) ∧ ((d = none ∧ fs = []) ∨ ∃ dd qq gs, d = some dd ∧ H qq = some (exd dd gs) ∧ OFs K H μ fs gs) := by
  obtain ⟨n, d, h1, h2⟩ := h
  obtain ⟨b, o, e1, e2, r⟩ := s.at' _ _ h1
  rw [show o = exo a (errA q) d from r] at e2
  refine ⟨b, d, e2, ?_⟩
  rcases h2 with h2 | ⟨dd, k, e, h2⟩
  · exact .inl h2
  · obtain ⟨qq, o, e3, e4, gs, rfl, r⟩ := s.at' _ _ h2
    exact .inr ⟨dd, qq, gs, e, e4, r⟩
/-- isinstance(e, c), e an exception of the store -/
def dIsE (ms : List Nat) (g : Nat → Bool) (te : DTE) : DTE := fun ρ st Q Z => te ρ st (fun y st1 => ∃ a q fs, y = .adr a ∧ q ∈ ms ∧ ErrAt st1 a q fs ∧ Q (.bl (g q)) st1) Z
theorem de_isE {ms : List Nat} {g : Nat → Bool} {cv : V} {cu : Value} (hg : Gl X "isinstance") (hm : X.mg "isinstance" = none) (ht : ∀ q ∈ ms, ErF X.K q ∧ PySem.W.kitOne X.K (.ref (errA q)) cu = some (g q)) (hcv : ∀ u, RelV cv u → u = cu)
    (he : DE X W e te) (hc : PE X c (tC cv))
    (hs1 : starEach [e, c] X.env = (false, eval e X.env) :: starEach [c] X.env := by rfl) (hs2 : starEach [c] X.env = (false, eval c X.env) :: starEach [] X.env := by rfl) (hpl : (backTo pos (starEach [c] X.env)).any (·.1) = false := by rfl) :
    DE X W (.Call (.Name "isinstance" p) [e, c] [] pos) (dIsE ms g te) :=
  pe_weak (pe_callB call_isX hg hm PyProof.Rows.boot_isinstance (pa_cons he (pa_cons hc pa_nil hs2) hs1) (by decide) (by decide) hs1 hpl) fun σ H Q ⟨ρ, st, μ, Qd, Z, hS, htt, hQ, hZ⟩ =>
    ⟨ρ, st, μ, _, Z, hS, htt, fun y st1 H1 μ1 v hx e1 s1 rv => by
      obtain ⟨a, q, fs, rfl, hq, he, qq⟩ := hx
      obtain ⟨b, d, e2, h2⟩ := he.get s1
      refine ⟨a, errA q, b, d, cv, cu, g q, (ht q hq).1.ex, ?_, hcv, e2, fun dd hd => ?_, (ht q hq).2, hQ _ _ _ _ _ qq e1 s1 rfl⟩
      · rw [show v = _ from rv]
      · rcases h2 with ⟨h, _⟩ | ⟨dd', qa, gs, h, e3, _⟩
        · rw [hd] at h; cases h
        · rw [hd] at h; cases h
          exact ⟨qa, gs, e3⟩, hZ⟩
/-- e.f, e an exception of the store -/
def dErF (f : Str) (ms : List Nat) (te : DTE) : DTE := fun ρ st Q Z => te ρ st (fun y st1 => ∃ a q fs v, y = .adr a ∧ q ∈ ms ∧ ErrAt st1 a q fs ∧ fs.lookup f = some v ∧ Q v st1) Z
theorem de_erF {ms : List Nat} (ht : ∀ q ∈ ms, XfC X.K (errA q) ∧ PySem.W.findIn X.K (.ref (errA q)) f = some none) (he : DE X W e te)
    (hb : attributeBase e f X.env (eval e X.env) = eval e X.env := by rfl) : DE X W (.Attribute e f pos) (dErF f ms te) :=
  pe_weak (pe_xo he hb) fun σ H Q ⟨ρ, st, μ, Qd, Z, hS, htt, hQ, hZ⟩ => ⟨ρ, st, μ, _, Z, hS, htt, fun y st1 H1 μ1 v hx e1 s1 rv => by
    obtain ⟨a, q, fs, w, rfl, hq, he, hl, qq⟩ := hx
    obtain ⟨b, d, e2, h2⟩ := he.get s1
    rcases h2 with ⟨_, h⟩ | ⟨dd, qa, gs, h, e3, r⟩
    · rw [h] at hl; cases hl
    · subst h
      obtain ⟨u, hu, ru⟩ := OFs.lookup r hl
      exact ⟨a, errA q, b, dd, qa, gs, u, rv, (ht q hq).1, (ht q hq).2, e2, e3, hu, hQ _ _ _ _ _ qq e1 s1 ru⟩, hZ⟩
/-- a dict that is written once -/
def dFrz (te : DTE) : DTE := fun ρ st Q Z => te ρ st (fun y st1 => ∃ n kvs, y = .loc n ∧ st1[n]? = some (.dK kvs) ∧ ∀ od, Q (.loc n) (st1.set n (.dkF od kvs))) Z
theorem de_frz (he : DE X W e te) : DE X W e (dFrz te) := pe_weak (pe_frz he) fun σ H Q ⟨ρ, st, μ, Qd, Z, hS, ht, hQ, hZ⟩ => ⟨ρ, st, μ, _, Z, hS, ht, fun y st1 H1 μ1 v hx e1 s1 rv => by
  obtain ⟨n, kvs, rfl, hn, q⟩ := hx
  obtain ⟨a, rfl, ha⟩ := rv
  obtain ⟨a', o, q1, q2, gs, rfl, r⟩ := s1.at' _ _ hn
  rw [ha] at q1; cases q1
  refine ⟨a, _, rfl, q2, trivial, fun od => ?_⟩
  obtain ⟨e2, s2⟩ := s1.write (o' := .frz od (.dK gs)) (b := .dkF od kvs) ha q2 ⟨gs, rfl, r⟩
  exact hQ _ _ _ _ _ (q od) (e1.trans e2) s2 ⟨a, rfl, ha⟩, hZ⟩
/-- d[k] of it -/
def dDGetF (td ti : DTE) : DTE := fun ρ st Q Z => td ρ st (fun x st1 => ti ρ st1 (fun y st2 => ∃ n od kvs k v, x = .loc n ∧ st2[n]? = some (.dkF od kvs) ∧ keyD y = some k ∧ valD kvs k = some v ∧ Q v st2) Z) Z
theorem de_dgetF {o i : Expr} {td ti : DTE} (hu : X.A.units + 1 < cLine) (ho : DE X W o td) (hi : DE X W i ti) (hs : NoSl i := by intro _ _; rfl) : DE X W (.Subscript o i pos) (dDGetF td ti) := pe_weak (pe_dget hu ho hi hs) fun σ H Q ⟨ρ, st, μ, Qd, Z, hS, ht, hQ, hZ⟩ =>
  ⟨ρ, st, μ, _, Z, hS, ht, fun x st1 H1 μ1 v hx e1 s1 rv => ⟨ρ, st1, μ1, _, Z, hS.mono e1 s1, hx, fun y st2 H2 μ2 u hy e2 s2 ru => by
    obtain ⟨n, od, kvs, k, d, rfl, hn, hk, hv, q⟩ := hy
    obtain ⟨a, rfl, ha⟩ := rv.mono e2
    obtain ⟨a', ob, q1, q2, gs, rfl, okv⟩ := s2.at' _ _ hn
    rw [ha] at q1; cases q1
    rcases okv_val (k := k) okv with ⟨h1, _⟩ | ⟨d', w, h1, h2, r⟩
    · rw [h1] at hv; cases hv
    · rw [h1] at hv; cases hv
      refine ⟨a, w, rfl, ?_, hQ _ _ _ _ _ q (e1.trans e2) s2 r⟩
      rw [key_rep hk ru]
      exact .inl ⟨gs, k, .inr ⟨od, q2⟩, rfl, h2.symm⟩, hZ.mono e1⟩, hZ⟩
/-- its keys -/
def dKeyD : Key → D
  | .inl i => .int i
  | .inr x => .str x
def iKF (te : DTE) : DTI := fun ρ st Q Z => te ρ st (fun x st1 => ∃ n od kvs, x = .loc n ∧ st1[n]? = some (.dkF od kvs) ∧ Q (kvs.map fun p => dKeyD p.1) (fun _ => True) st1) Z
theorem di_keysF {tg : Expr} (h : DE X W e te) : DI X W tg e (iKF te) := pi_weak (pi_keys h) fun σ H R ⟨ρ, st, μ, Qd, Z, hS, ht, hZ, hk⟩ =>
  ⟨ρ, st, μ, _, Z, hS, ht, fun x st1 H1 μ1 v hx e1 s1 rv => by
    obtain ⟨n, od, kvs, rfl, hn, q⟩ := hx
    obtain ⟨a, rfl, ha⟩ := rv
    obtain ⟨a', ob, q1, q2, gs, rfl, okv⟩ := s1.at' _ _ hn
    rw [ha] at q1; cases q1
    refine ⟨a, od, rfl, .inl ⟨gs, q2, hk _ _ _ _ _ _ q e1 s1 ?_⟩⟩
    refine ⟨fun i H2 μ2 st2 d x s _ e => ?_, fun H2 μ2 st2 x s _ => ⟨x.frz _ _ _ q2, by rw [List.length_map, okv_len okv]; exact Nat.le_refl _⟩⟩
    have hi : i < kvs.length := by
      have := (List.getElem?_eq_some_iff.mp e).1
      simpa using this
    have hi2 : i < gs.length := by rw [← okv_len okv]; exact hi
    refine ⟨⟨x.frz _ _ _ q2, hi2⟩, fun y H3 hy => ?_⟩
    obtain ⟨rfl, k, v, hkv, rfl⟩ := hy
    refine ⟨Ext.refl _ _, s, ?_, fun _ _ h => h⟩
    have hk1 : (kvs.map (·.1))[i]? = (gs.map (·.1))[i]? := by rw [okv.1]
    rw [List.getElem?_map, List.getElem?_map, hkv] at hk1
    rw [List.getElem?_map] at e
    cases hh : kvs[i]? with
    | none => rw [hh] at e; cases e
    | some p =>
      rw [hh] at e hk1
      simp only [Option.map_some, Option.some.injEq] at e hk1
      subst e
      rw [hk1]
      cases k <;> rfl, hZ⟩
/-- == where both may be such a dict -/
def dEqF : D2 := fun x y st Q => dEq x y st Q ∨ ∃ n od k i, x = .loc n ∧ y = .loc n ∧ st[n]? = some (.dkF od [(k, .int i)]) ∧ Q (.bl true) st
theorem okv_one {K : PySem.W.Frag} {H : Hp} {μ : List Addr} {k : Key} {i : Int} {gs : List (Key × V)} (h : OKv K H μ [(k, .int i)] gs) : gs = [(k, .int i)] := by
  obtain ⟨v, gs', rfl, r, h'⟩ := okv_cons h
  rw [okv_nil h', show v = _ from r]
theorem cm_eqF (hu : X.A.units + 64 < cLine) : Cm X .Eq dEqF := ⟨_, (op_eq.or (op_eqD hu)).or (op_eq_dF (by omega)), fun {H μ st x y v u Qd Q} s rx ry h hQ => by
  rcases h with h | ⟨n, od, k, i, rfl, rfl, hn, q⟩
  · exact .inl (eq_ok s rx ry h hQ)
  · right
    obtain ⟨a, rfl, ha⟩ := rx
    obtain ⟨b, rfl, hb⟩ := ry
    obtain ⟨a', ob, q1, q2, gs, rfl, okv⟩ := s.at' _ _ hn
    rw [ha] at q1; cases q1
    rw [ha] at hb; cases hb
    rw [okv_one okv] at q2
    exact ⟨a, a, _, rfl, rfl, .inr ⟨od, q2⟩, .inr ⟨od, q2⟩, by simp, by intro p hp; rw [List.mem_singleton.mp hp]; rfl, hQ _ _ _ _ _ q (Ext.refl _ _) s rfl⟩⟩
/-- == by an own __eq__ -/
def dEqO (m n : Nat) (dsp : DSp) : D2 := fun x y st Q => ∃ i j fs gs, x = .loc i ∧ y = .loc j ∧ st[i]? = some (.ins (errA m) fs) ∧ st[j]? = some (.ins (errA m) gs) ∧ n = 2 ∧ dsp [x, y] st (fun v st' => ∃ r, v = .bl r ∧ Q v st') (fun _ _ => False)
theorem cm_eqO {n : Nat} {dsp : DSp} (M : HasM X.prog X.w X.K X.mg X.base k m "__eq__" n dsp) (hf : ∀ f, Meth X.K (errA m) "__eq__" f → PySem.W.isFn X.K (.ref f) = true ∧ PySem.W.findIn X.K (.ref (errA m)) "__eq__" = some (some (.ref f))) (hr : Room k X.A) : Cm X .Eq (dEqO m n dsp) := by
  obtain ⟨f, fd, ps, F, hm, hb⟩ := M
  refine ⟨_, op_eqO (E := fun _ _ _ => False) F hr (hf f hm).2 (hf f hm).1 hb passes0, fun {H μ st x y v u Qd Q} s rx ry h hQ => ?_⟩
  obtain ⟨i, j, fs, gs, rfl, rfl, hi, hj, hn, q⟩ := h
  obtain ⟨a, rfl, ha⟩ := rx
  obtain ⟨b, rfl, hb⟩ := ry
  obtain ⟨a', ob, q1, q2, dx, fs', rfl, r⟩ := s.at' _ _ hi
  rw [ha] at q1; cases q1
  obtain ⟨b', ob, q3, q4, dy, gs', rfl, r'⟩ := s.at' _ _ hj
  rw [hb] at q3; cases q3
  refine ⟨a, b, dx, dy, fs', gs', rfl, rfl, q2, q4, hn.symm, [.loc i, .loc j], st, μ, _, _, ⟨.ref a, [.ref b], rfl, ⟨a, rfl, ha⟩, .ref b, [], rfl, ⟨b, rfl, hb⟩, rfl⟩, s, q, ?_, ?_⟩
  · intro d st' H' μ' v hd e s' r
    obtain ⟨t, rfl, qq⟩ := hd
    exact ⟨t, r, hQ _ _ _ _ _ qq e s' r⟩
  · exact fun _ _ _ _ _ _ z => z.elim
/-- isinstance(e, C), e an instance of C -/
def dIsC1 (m : Nat) (te : DTE) : DTE := fun ρ st Q Z => te ρ st (fun y st1 => ∃ n fs, y = .loc n ∧ st1[n]? = some (.ins (errA m) fs) ∧ Q (.bl true) st1) Z
theorem de_isC1 (C : C8.InsC X.K (errA m)) (hg : Gl X "isinstance") (hm : X.mg "isinstance" = none) (hgx : Gl X x) (hmx : X.mg x = some (.ref (errA m))) (ha : DE X W e te)
    (hdb : (x == ("__debug__" : Str)) = false := by decide)
    (hs1 : starEach [e, .Name x p] X.env = (false, eval e X.env) :: starEach [.Name x p] X.env := by rfl) (hs2 : starEach [.Name x p] X.env = (false, eval (.Name x p) X.env) :: starEach [] X.env := by rfl) (hpl : (backTo pos (starEach [.Name x p] X.env)).any (·.1) = false := by rfl) {p2 : Pos} :
    DE X W (.Call (.Name "isinstance" p2) [e, .Name x p] [] pos) (dIsC1 m te) :=
  pe_weak (pe_callB (C8.call_isC C) hg hm PyProof.Rows.boot_isinstance (pa_cons ha (pa_cons (pe_glob hgx hmx (show RelV (.ref (errA m)) (.ref (errA m)) from rfl) hdb) pa_nil hs2) hs1) (by decide) (by decide) hs1 hpl) fun σ H Q ⟨ρ, st, μ, Qd, Z, hS, ht, hQ, hZ⟩ =>
    ⟨ρ, st, μ, _, Z, hS, ht, fun y st1 H1 μ1 v hx e1 s1 rv => by
      obtain ⟨n, fs, rfl, hn, q⟩ := hx
      obtain ⟨a, rfl, ha⟩ := rv
      obtain ⟨a', o, q1, q2, dx, gs, rfl, r⟩ := s1.at' _ _ hn
      rw [ha] at q1; cases q1
      exact ⟨a, dx, gs, rfl, q2, hQ _ _ _ _ _ q e1 s1 rfl⟩, hZ⟩
/-- l.count(True) -/
def dCountB : DM := fun x ds st Q => match x, ds with | .loc n, [.bl c] => ∃ bs : List Bool, st[n]? = some (.lst (bs.map .bl)) ∧ Q (.int (bs.countP fun b => b == c : Nat)) st | _, _ => False
theorem countB_ok {K : PySem.W.Frag} : DMt K rCountB dCountB := by
  intro H μ st x v ds vs Qd Q s rx rs h hQ
  unfold dCountB at h
  split at h
  · obtain ⟨u, rfl, ru⟩ := reps1 rs
    obtain ⟨a, rfl, hn⟩ := rx
    obtain ⟨bs, hb, q⟩ := h
    obtain ⟨a', o, e1, e2, vs, rfl, hr⟩ := s.at' _ _ hb
    rw [hn] at e1; cases e1
    rw [reps_bools hr] at e2
    exact ⟨a, bs, _, rfl, by rw [show u = _ from ru], e2, hQ _ _ _ _ _ q (Ext.refl _ _) s rfl⟩
  · exact h.elim
/-- what is never come to -/
def dNeverE : DTE := fun _ _ _ _ => False
theorem de_never {e : Expr} : DE X W e dNeverE := ⟨fun pins s σ H Q I ⟨ρ, st, μ, Qd, Z, hS, ht, hQ, hZ⟩ => ht.elim⟩
end
section
variable [EC : ErrCtx] {st : Sto} {ρ : Env'} {Q : DK} {Z : DZ} {E : DEnds} {te td ti : DTE} {m n : Nat} {ms : List Nat} {f : Str} {x y : D} {g : Nat → Bool}
@[simp] theorem s_mkE1 : dMkE1 m f te ρ st Q Z = te ρ st (fun y st1 => ∀ a dx, Q (.adr a) (st1 ++ [.xdt dx [(f, y)], .err a (errA m) (some dx)])) Z := rfl
@[simp] theorem s_mkE0 : dMkE0 m ρ st Q Z = ∀ a, Q (.adr a) (st ++ [.err a (errA m) none]) := rfl
@[simp] theorem s_isE : dIsE ms g te ρ st Q Z = te ρ st (fun y st1 => ∃ a q fs, y = .adr a ∧ q ∈ ms ∧ ErrAt st1 a q fs ∧ Q (.bl (g q)) st1) Z := rfl
@[simp] theorem s_erF : dErF f ms te ρ st Q Z = te ρ st (fun y st1 => ∃ a q fs v, y = .adr a ∧ q ∈ ms ∧ ErrAt st1 a q fs ∧ fs.lookup f = some v ∧ Q v st1) Z := rfl
omit [EC : ErrCtx] in
@[simp] theorem s_frz : dFrz te ρ st Q Z = te ρ st (fun y st1 => ∃ n kvs, y = .loc n ∧ st1[n]? = some (.dK kvs) ∧ ∀ od, Q (.loc n) (st1.set n (.dkF od kvs))) Z := rfl
omit [EC : ErrCtx] in
@[simp] theorem s_dgetF : dDGetF td ti ρ st Q Z = td ρ st (fun x st1 => ti ρ st1 (fun y st2 => ∃ n od kvs k v, x = .loc n ∧ st2[n]? = some (.dkF od kvs) ∧ keyD y = some k ∧ valD kvs k = some v ∧ Q v st2) Z) Z := rfl
omit [EC : ErrCtx] in
@[simp] theorem s_iKF {QI : List D → (Sto → Prop) → Sto → Prop} : iKF te ρ st QI Z = te ρ st (fun x st1 => ∃ n od kvs, x = .loc n ∧ st1[n]? = some (.dkF od kvs) ∧ QI (kvs.map fun p => dKeyD p.1) (fun _ => True) st1) Z := rfl
@[simp] theorem s_isC1 : dIsC1 m te ρ st Q Z = te ρ st (fun y st1 => ∃ n fs, y = .loc n ∧ st1[n]? = some (.ins (errA m) fs) ∧ Q (.bl true) st1) Z := rfl
@[simp] theorem s_fld {ms : List Nat} : dFld f ms te ρ st Q Z = te ρ st (fun y st1 => ∃ n m fs v, y = .loc n ∧ m ∈ ms ∧ st1[n]? = some (.ins (errA m) fs) ∧ fs.lookup f = some v ∧ Q v st1) Z := rfl
end
end DL
namespace DL
open PySem L2 PySem.Spec
open PyProof.Rows hiding St
/-- the numbers of the errors that have a class of their own -/
abbrev EMS : List Nat := (List.range 40).map (· + 1)
def clsOk (K : PySem.W.Frag) (a : Addr) : Bool :=
  decide (PySem.W.findIn K (.ref a) "__getattribute__" = some (some (.builtin "BaseException.__getattribute__"))) && (decide (PySem.W.findIn K (.ref a) "__getattr__" = some none) && (decide (PySem.W.subIn K (.ref a) (.type "BaseException") = some true) && (PySem.W.hasDictIn K a &&
  (decide (PySem.W.findIn K (.ref a) "__class__" = some (some (.builtin "object.__class__"))) && (decide (PySem.W.mroIn K a (.type "object") = some true) && (decide (PySem.W.typeIn K (.ref a) = some (.type "type")) && (decide (PySem.W.subIn K (.ref a) (.type "ValueError") = some true) &&
  (decide (PySem.W.findIn K (.ref a) "__setattr__" = some (some (.builtin "object.__setattr__"))) && (PySem.W.keepIn K (.ref a) && decide (PySem.W.subIn K (.ref a) (.ref a) = some true))))))))))
structure ClsOk (K : PySem.W.Frag) (a : Addr) : Prop where
  ga : PySem.W.findIn K (.ref a) "__getattribute__" = some (some (.builtin "BaseException.__getattribute__"))
  gg : PySem.W.findIn K (.ref a) "__getattr__" = some none
  sb : PySem.W.subIn K (.ref a) (.type "BaseException") = some true
  hd : PySem.W.hasDictIn K a = true
  hc : PySem.W.findIn K (.ref a) "__class__" = some (some (.builtin "object.__class__"))
  mo : PySem.W.mroIn K a (.type "object") = some true
  ty : PySem.W.typeIn K (.ref a) = some (.type "type")
  sv : PySem.W.subIn K (.ref a) (.type "ValueError") = some true
  sa : PySem.W.findIn K (.ref a) "__setattr__" = some (some (.builtin "object.__setattr__"))
  kp : PySem.W.keepIn K (.ref a) = true
  me : PySem.W.subIn K (.ref a) (.ref a) = some true
theorem clsOk_of {K : PySem.W.Frag} {a : Addr} (h : clsOk K a = true) : ClsOk K a := by
  unfold clsOk at h
  simp only [Bool.and_eq_true, decide_eq_true_eq] at h
  obtain ⟨h1, h2, h3, h4, h5, h6, h7, h8, h9, h10, h11⟩ := h
  exact ⟨h1, h2, h3, h4, h5, h6, h7, h8, h9, h10, h11⟩
/-- the classes' table: each is as told, each is below the first, none below another -/
def clsTab (K : PySem.W.Frag) (cs : List Addr) : Bool :=
  (cs.all (clsOk K)) && ((List.range 40).all fun q => decide (PySem.W.subIn K (.ref (cs.getD (q + 1) 0)) (.ref (cs.getD 0 0)) = some true) && ((List.range 40).all fun x => decide (PySem.W.subIn K (.ref (cs.getD (q + 1) 0)) (.ref (cs.getD (x + 1) 0)) = some (q == x))))
section
variable [EC : ErrCtx] {K : PySem.W.Frag} {cs : List Addr}
structure ClsTab (K : PySem.W.Frag) [EC : ErrCtx] : Prop where
  ok : ∀ m ≤ 40, ClsOk K (errA m)
  up : ∀ m ∈ EMS, PySem.W.subIn K (.ref (errA m)) (.ref (errA 0)) = some true
  sub : ∀ m ∈ EMS, ∀ x ∈ EMS, PySem.W.subIn K (.ref (errA m)) (.ref (errA x)) = some (m == x)
theorem clsTab_of (h : clsTab K cs = true) (hl : cs.length = 41) (he : ∀ m ≤ 40, errA m = cs.getD m 0) : ClsTab K := by
  unfold clsTab at h
  simp only [Bool.and_eq_true, List.all_eq_true, decide_eq_true_eq] at h
  obtain ⟨h1, h2⟩ := h
  have e : ∀ m ∈ EMS, ∃ q ∈ List.range 40, m = q + 1 ∧ errA m = cs.getD (q + 1) 0 := fun m hm => by
    obtain ⟨q, hq, rfl⟩ := List.mem_map.mp hm
    exact ⟨q, hq, rfl, he _ (by have := List.mem_range.mp hq; omega)⟩
  refine ⟨fun m hm => ?_, fun m hm => ?_, fun m hm x hx => ?_⟩
  · rw [he m hm]
    refine clsOk_of (h1 _ ?_)
    have : m < cs.length := by omega
    rw [List.getD_eq_getElem?_getD, List.getElem?_eq_getElem this]
    exact List.getElem_mem this
  · obtain ⟨q, hq, rfl, e1⟩ := e m hm
    rw [e1, he 0 (by decide)]
    exact (h2 q hq).1
  · obtain ⟨q, hq, rfl, e1⟩ := e m hm
    obtain ⟨y, hy, rfl, e2⟩ := e x hx
    rw [e1, e2, (h2 q hq).2 y hy]
    congr 1
    simp
theorem ems_le {m : Nat} (h : m ∈ EMS) : m ≤ 40 := by
  obtain ⟨q, hq, rfl⟩ := List.mem_map.mp h
  have := List.mem_range.mp hq
  omega
theorem ClsTab.erf (T : ClsTab K) (h1 : PySem.W.specialIn K (.builtin "object.__class__") "__get__" = some (some (.builtin "getset_descriptor.__get__"))) (h2 : PySem.W.takesIn K (.builtin "object.__class__") = some true) {m : Nat} (hm : m ≤ 40) : ErF K m :=
  have k := T.ok m hm
  ⟨⟨k.ga, k.gg, k.sb, k.hd⟩, ⟨k.ga, k.gg, k.sb, k.hd, k.hc, h1, h2, k.mo⟩⟩
theorem ClsTab.kit (T : ClsTab K) {m x : Nat} (hm : m ∈ EMS) (hx : x ∈ EMS) : PySem.W.kitOne K (.ref (errA m)) (.ref (errA x)) = some (m == x) :=
  kit_own (T.ok x (ems_le hx)).hd (T.ok x (ems_le hx)).ty (T.ok m (ems_le hm)).me (T.sub m hm x hx)
theorem ClsTab.kit0 (T : ClsTab K) {m : Nat} (hm : m ∈ EMS) : PySem.W.kitOne K (.ref (errA m)) (.ref (errA 0)) = some true :=
  kit_own (T.ok 0 (by decide)).hd (T.ok 0 (by decide)).ty (T.ok m (ems_le hm)).me (T.up m hm)
theorem ClsTab.kitV (T : ClsTab K) {m : Nat} (hm : m ∈ EMS) : PySem.W.kitOne K (.ref (errA m)) (.type "ValueError") = some true := kit_ve (T.ok m (ems_le hm)).sv
end
end DL
set_option maxHeartbeats 0
namespace Hdk00
open PySem L2 PySem.Spec DL
open PyProof.Rows hiding St
def topS (i : Nat) : Stmt := PySem.Challenge.pw_lockwright_k00_errors_of_the_package.main.body.getD i (.Pass ⟨0, 0, 0, 0⟩)
abbrev S_is_tuple_within : Stmt := topS 51
abbrev S_wrong_entry : Stmt := topS 76
abbrev S__law_hand : Stmt := topS 79
abbrev S__law_draw : Stmt := topS 80
abbrev S__law_some : Stmt := topS 81
abbrev S__law_is : Stmt := topS 82
abbrev S__law_deep : Stmt := topS 83
abbrev S__law_first_classes : Stmt := topS 84
abbrev S__law_classes : Stmt := topS 85
abbrev S__law_field : Stmt := topS 86
abbrev S__law_raised : Stmt := topS 87
abbrev S__law_right : Stmt := topS 88
abbrev S_law : Stmt := topS 89
abbrev S_Book___init__ : Stmt := mthS (topS 77) 0
abbrev S_Book___eq__ : Stmt := mthS (topS 77) 1
abbrev SI_BadText : Stmt := mthS (topS 2) 0
abbrev SI_BadEntry : Stmt := mthS (topS 3) 0
abbrev SI_BadBook : Stmt := mthS (topS 4) 0
abbrev SI_BadLine : Stmt := mthS (topS 5) 0
abbrev SI_BadQuestion : Stmt := mthS (topS 6) 0
abbrev SI_BadTask : Stmt := mthS (topS 7) 0
abbrev SI_BadStep : Stmt := mthS (topS 8) 0
abbrev SI_TooMany : Stmt := mthS (topS 9) 0
abbrev SI_NotFitting : Stmt := mthS (topS 10) 0
abbrev SI_NotGiven : Stmt := mthS (topS 11) 0
abbrev SI_NotFirst : Stmt := mthS (topS 12) 0
abbrev SI_LockError : Stmt := mthS (topS 1) 0
abbrev SI_NotFetched : Stmt := mthS (topS 37) 0
abbrev SI_NoBuild : Stmt := mthS (topS 38) 0
abbrev SI_Ringed : Stmt := mthS (topS 39) 0
abbrev RH : PySem.W.OpenRow := PySem.W.OpenLaw.row PySem.Challenge.rw_lockwright_k00_errors_of_the_package
def fnL : List He.FnD := [⟨("is_tuple_within", none), "is_tuple_within", "is_tuple_within", defArgs S_is_tuple_within, defBody S_is_tuple_within, defScope S_is_tuple_within⟩,
  ⟨("wrong_entry", none), "wrong_entry", "wrong_entry", defArgs S_wrong_entry, defBody S_wrong_entry, defScope S_wrong_entry⟩,
  ⟨("_law_hand", none), "_law_hand", "_law_hand", defArgs S__law_hand, defBody S__law_hand, defScope S__law_hand⟩,
  ⟨("_law_draw", none), "_law_draw", "_law_draw", defArgs S__law_draw, defBody S__law_draw, defScope S__law_draw⟩,
  ⟨("_law_some", none), "_law_some", "_law_some", defArgs S__law_some, defBody S__law_some, defScope S__law_some⟩,
  ⟨("_law_is", none), "_law_is", "_law_is", defArgs S__law_is, defBody S__law_is, defScope S__law_is⟩,
  ⟨("_law_deep", none), "_law_deep", "_law_deep", defArgs S__law_deep, defBody S__law_deep, defScope S__law_deep⟩,
  ⟨("_law_first_classes", none), "_law_first_classes", "_law_first_classes", defArgs S__law_first_classes, defBody S__law_first_classes, defScope S__law_first_classes⟩,
  ⟨("_law_classes", none), "_law_classes", "_law_classes", defArgs S__law_classes, defBody S__law_classes, defScope S__law_classes⟩,
  ⟨("_law_field", none), "_law_field", "_law_field", defArgs S__law_field, defBody S__law_field, defScope S__law_field⟩,
  ⟨("_law_raised", none), "_law_raised", "_law_raised", defArgs S__law_raised, defBody S__law_raised, defScope S__law_raised⟩,
  ⟨("_law_right", none), "_law_right", "_law_right", defArgs S__law_right, defBody S__law_right, defScope S__law_right⟩,
  ⟨("law", none), "law", "law", defArgs S_law, defBody S_law, defScope S_law⟩,
  ⟨("Book", some "__init__"), "__init__", "Book.__init__", defArgs S_Book___init__, defBody S_Book___init__, defScope S_Book___init__⟩,
  ⟨("Book", some "__eq__"), "__eq__", "Book.__eq__", defArgs S_Book___eq__, defBody S_Book___eq__, defScope S_Book___eq__⟩,
  ⟨("BadText", some "__init__"), "__init__", "BadText.__init__", defArgs SI_BadText, defBody SI_BadText, defScope SI_BadText⟩,
  ⟨("BadEntry", some "__init__"), "__init__", "BadEntry.__init__", defArgs SI_BadEntry, defBody SI_BadEntry, defScope SI_BadEntry⟩,
  ⟨("BadBook", some "__init__"), "__init__", "BadBook.__init__", defArgs SI_BadBook, defBody SI_BadBook, defScope SI_BadBook⟩,
  ⟨("BadLine", some "__init__"), "__init__", "BadLine.__init__", defArgs SI_BadLine, defBody SI_BadLine, defScope SI_BadLine⟩,
  ⟨("BadQuestion", some "__init__"), "__init__", "BadQuestion.__init__", defArgs SI_BadQuestion, defBody SI_BadQuestion, defScope SI_BadQuestion⟩,
  ⟨("BadTask", some "__init__"), "__init__", "BadTask.__init__", defArgs SI_BadTask, defBody SI_BadTask, defScope SI_BadTask⟩,
  ⟨("BadStep", some "__init__"), "__init__", "BadStep.__init__", defArgs SI_BadStep, defBody SI_BadStep, defScope SI_BadStep⟩,
  ⟨("TooMany", some "__init__"), "__init__", "TooMany.__init__", defArgs SI_TooMany, defBody SI_TooMany, defScope SI_TooMany⟩,
  ⟨("NotFitting", some "__init__"), "__init__", "NotFitting.__init__", defArgs SI_NotFitting, defBody SI_NotFitting, defScope SI_NotFitting⟩,
  ⟨("NotGiven", some "__init__"), "__init__", "NotGiven.__init__", defArgs SI_NotGiven, defBody SI_NotGiven, defScope SI_NotGiven⟩,
  ⟨("NotFirst", some "__init__"), "__init__", "NotFirst.__init__", defArgs SI_NotFirst, defBody SI_NotFirst, defScope SI_NotFirst⟩,
  ⟨("LockError", some "__init__"), "__init__", "LockError.__init__", defArgs SI_LockError, defBody SI_LockError, defScope SI_LockError⟩,
  ⟨("NotFetched", some "__init__"), "__init__", "NotFetched.__init__", defArgs SI_NotFetched, defBody SI_NotFetched, defScope SI_NotFetched⟩,
  ⟨("NoBuild", some "__init__"), "__init__", "NoBuild.__init__", defArgs SI_NoBuild, defBody SI_NoBuild, defScope SI_NoBuild⟩,
  ⟨("Ringed", some "__init__"), "__init__", "Ringed.__init__", defArgs SI_Ringed, defBody SI_Ringed, defScope SI_Ringed⟩]
def tfL : List He.Defn := []
def ex0 (K : PySem.W.Frag) : List Bool := [He.eqO (PySem.W.nsIn K mainGlobals "is_tuple_within") (some (some (.ref (He.ga K "is_tuple_within")))),
  PySem.W.keepIn K (.ref (He.ga K "is_tuple_within")),
  He.eqO (PySem.W.nsIn K mainGlobals "wrong_entry") (some (some (.ref (He.ga K "wrong_entry")))),
  PySem.W.keepIn K (.ref (He.ga K "wrong_entry")),
  He.eqO (PySem.W.nsIn K mainGlobals "_law_hand") (some (some (.ref (He.ga K "_law_hand")))),
  PySem.W.keepIn K (.ref (He.ga K "_law_hand")),
  He.eqO (PySem.W.nsIn K mainGlobals "_law_draw") (some (some (.ref (He.ga K "_law_draw")))),
  PySem.W.keepIn K (.ref (He.ga K "_law_draw")),
  He.eqO (PySem.W.nsIn K mainGlobals "_law_some") (some (some (.ref (He.ga K "_law_some")))),
  PySem.W.keepIn K (.ref (He.ga K "_law_some")),
  He.eqO (PySem.W.nsIn K mainGlobals "_law_is") (some (some (.ref (He.ga K "_law_is")))),
  PySem.W.keepIn K (.ref (He.ga K "_law_is")),
  He.eqO (PySem.W.nsIn K mainGlobals "_law_deep") (some (some (.ref (He.ga K "_law_deep")))),
  PySem.W.keepIn K (.ref (He.ga K "_law_deep")),
  He.eqO (PySem.W.nsIn K mainGlobals "_law_first_classes") (some (some (.ref (He.ga K "_law_first_classes")))),
  PySem.W.keepIn K (.ref (He.ga K "_law_first_classes")),
  He.eqO (PySem.W.nsIn K mainGlobals "_law_classes") (some (some (.ref (He.ga K "_law_classes")))),
  PySem.W.keepIn K (.ref (He.ga K "_law_classes")),
  He.eqO (PySem.W.nsIn K mainGlobals "_law_field") (some (some (.ref (He.ga K "_law_field")))),
  PySem.W.keepIn K (.ref (He.ga K "_law_field"))]
def ex1 (K : PySem.W.Frag) : List Bool := [He.eqO (PySem.W.nsIn K mainGlobals "_law_raised") (some (some (.ref (He.ga K "_law_raised")))),
  PySem.W.keepIn K (.ref (He.ga K "_law_raised")),
  He.eqO (PySem.W.nsIn K mainGlobals "_law_right") (some (some (.ref (He.ga K "_law_right")))),
  PySem.W.keepIn K (.ref (He.ga K "_law_right")),
  He.eqO (PySem.W.nsIn K mainGlobals "law") (some (some (.ref (He.ga K "law")))),
  PySem.W.keepIn K (.ref (He.ga K "law")),
  He.eqO (PySem.W.nsIn K mainGlobals "ValueError") (some none),
  He.eqO (PySem.W.nsIn K mainGlobals "abs") (some none),
  He.eqO (PySem.W.nsIn K mainGlobals "all") (some none),
  He.eqO (PySem.W.nsIn K mainGlobals "bool") (some none),
  He.eqO (PySem.W.nsIn K mainGlobals "dict") (some none),
  He.eqO (PySem.W.nsIn K mainGlobals "enumerate") (some none),
  He.eqO (PySem.W.nsIn K mainGlobals "int") (some none),
  He.eqO (PySem.W.nsIn K mainGlobals "isinstance") (some none),
  He.eqO (PySem.W.nsIn K mainGlobals "len") (some none),
  He.eqO (PySem.W.nsIn K mainGlobals "list") (some none),
  He.eqO (PySem.W.nsIn K mainGlobals "range") (some none),
  He.eqO (PySem.W.nsIn K mainGlobals "tuple") (some none),
  He.eqO (PySem.W.nsIn K mainGlobals "LockError") (some (some (.ref (He.ga K "LockError")))),
  He.eqO (PySem.W.nsIn K mainGlobals "BadText") (some (some (.ref (He.ga K "BadText"))))]
def ex2 (K : PySem.W.Frag) : List Bool := [He.eqO (PySem.W.nsIn K mainGlobals "BadEntry") (some (some (.ref (He.ga K "BadEntry")))),
  He.eqO (PySem.W.nsIn K mainGlobals "BadBook") (some (some (.ref (He.ga K "BadBook")))),
  He.eqO (PySem.W.nsIn K mainGlobals "BadLine") (some (some (.ref (He.ga K "BadLine")))),
  He.eqO (PySem.W.nsIn K mainGlobals "BadQuestion") (some (some (.ref (He.ga K "BadQuestion")))),
  He.eqO (PySem.W.nsIn K mainGlobals "BadTask") (some (some (.ref (He.ga K "BadTask")))),
  He.eqO (PySem.W.nsIn K mainGlobals "BadStep") (some (some (.ref (He.ga K "BadStep")))),
  He.eqO (PySem.W.nsIn K mainGlobals "TooMany") (some (some (.ref (He.ga K "TooMany")))),
  He.eqO (PySem.W.nsIn K mainGlobals "NotFitting") (some (some (.ref (He.ga K "NotFitting")))),
  He.eqO (PySem.W.nsIn K mainGlobals "NotGiven") (some (some (.ref (He.ga K "NotGiven")))),
  He.eqO (PySem.W.nsIn K mainGlobals "NotFirst") (some (some (.ref (He.ga K "NotFirst")))),
  He.eqO (PySem.W.nsIn K mainGlobals "NoFeatures") (some (some (.ref (He.ga K "NoFeatures")))),
  He.eqO (PySem.W.nsIn K mainGlobals "NoEntry") (some (some (.ref (He.ga K "NoEntry")))),
  He.eqO (PySem.W.nsIn K mainGlobals "NotRight") (some (some (.ref (He.ga K "NotRight")))),
  He.eqO (PySem.W.nsIn K mainGlobals "NotThere") (some (some (.ref (He.ga K "NotThere")))),
  He.eqO (PySem.W.nsIn K mainGlobals "NotClosed") (some (some (.ref (He.ga K "NotClosed")))),
  He.eqO (PySem.W.nsIn K mainGlobals "NoSource") (some (some (.ref (He.ga K "NoSource")))),
  He.eqO (PySem.W.nsIn K mainGlobals "NoStand") (some (some (.ref (He.ga K "NoStand")))),
  He.eqO (PySem.W.nsIn K mainGlobals "NoGivens") (some (some (.ref (He.ga K "NoGivens")))),
  He.eqO (PySem.W.nsIn K mainGlobals "NoLiteral") (some (some (.ref (He.ga K "NoLiteral")))),
  He.eqO (PySem.W.nsIn K mainGlobals "NoPaper") (some (some (.ref (He.ga K "NoPaper"))))]
def ex3 (K : PySem.W.Frag) : List Bool := [He.eqO (PySem.W.nsIn K mainGlobals "NoSources") (some (some (.ref (He.ga K "NoSources")))),
  He.eqO (PySem.W.nsIn K mainGlobals "NoName") (some (some (.ref (He.ga K "NoName")))),
  He.eqO (PySem.W.nsIn K mainGlobals "NoNumber") (some (some (.ref (He.ga K "NoNumber")))),
  He.eqO (PySem.W.nsIn K mainGlobals "NotEntry") (some (some (.ref (He.ga K "NotEntry")))),
  He.eqO (PySem.W.nsIn K mainGlobals "NotQuestion") (some (some (.ref (He.ga K "NotQuestion")))),
  He.eqO (PySem.W.nsIn K mainGlobals "NothingDone") (some (some (.ref (He.ga K "NothingDone")))),
  He.eqO (PySem.W.nsIn K mainGlobals "NoText") (some (some (.ref (He.ga K "NoText")))),
  He.eqO (PySem.W.nsIn K mainGlobals "NoStart") (some (some (.ref (He.ga K "NoStart")))),
  He.eqO (PySem.W.nsIn K mainGlobals "NoStop") (some (some (.ref (He.ga K "NoStop")))),
  He.eqO (PySem.W.nsIn K mainGlobals "NotSafe") (some (some (.ref (He.ga K "NotSafe")))),
  He.eqO (PySem.W.nsIn K mainGlobals "NoDeed") (some (some (.ref (He.ga K "NoDeed")))),
  He.eqO (PySem.W.nsIn K mainGlobals "NoContents") (some (some (.ref (He.ga K "NoContents")))),
  He.eqO (PySem.W.nsIn K mainGlobals "NoMirrors") (some (some (.ref (He.ga K "NoMirrors")))),
  He.eqO (PySem.W.nsIn K mainGlobals "NoManifest") (some (some (.ref (He.ga K "NoManifest")))),
  He.eqO (PySem.W.nsIn K mainGlobals "NotFetched") (some (some (.ref (He.ga K "NotFetched")))),
  He.eqO (PySem.W.nsIn K mainGlobals "NoBuild") (some (some (.ref (He.ga K "NoBuild")))),
  He.eqO (PySem.W.nsIn K mainGlobals "Ringed") (some (some (.ref (He.ga K "Ringed")))),
  He.eqO (PySem.W.nsIn K mainGlobals "NoMachine") (some (some (.ref (He.ga K "NoMachine")))),
  He.eqO (PySem.W.nsIn K mainGlobals "NoRollout") (some (some (.ref (He.ga K "NoRollout")))),
  HK.oexB K (He.ga K "BadText")]
def ex4 (K : PySem.W.Frag) : List Bool := [He.eqO (PySem.W.findIn K (.ref (He.ga K "BadText")) "__init__") (some (some (.ref (He.ma K (He.ga K "BadText") "__init__")))),
  HK.oV (PySem.W.typeIn K (.ref (He.ma K (He.ga K "BadText") "__init__"))) (.type "function"),
  PySem.W.keepIn K (.ref (He.ma K (He.ga K "BadText") "__init__")),
  He.eqO (PySem.W.findIn K (.ref (He.ga K "BadText")) "index") (some none),
  HK.oexB K (He.ga K "BadEntry"),
  He.eqO (PySem.W.findIn K (.ref (He.ga K "BadEntry")) "__init__") (some (some (.ref (He.ma K (He.ga K "BadEntry") "__init__")))),
  HK.oV (PySem.W.typeIn K (.ref (He.ma K (He.ga K "BadEntry") "__init__"))) (.type "function"),
  PySem.W.keepIn K (.ref (He.ma K (He.ga K "BadEntry") "__init__")),
  He.eqO (PySem.W.findIn K (.ref (He.ga K "BadEntry")) "part") (some none),
  HK.oexB K (He.ga K "BadBook"),
  He.eqO (PySem.W.findIn K (.ref (He.ga K "BadBook")) "__init__") (some (some (.ref (He.ma K (He.ga K "BadBook") "__init__")))),
  HK.oV (PySem.W.typeIn K (.ref (He.ma K (He.ga K "BadBook") "__init__"))) (.type "function"),
  PySem.W.keepIn K (.ref (He.ma K (He.ga K "BadBook") "__init__")),
  He.eqO (PySem.W.findIn K (.ref (He.ga K "BadBook")) "index") (some none),
  HK.oexB K (He.ga K "BadLine"),
  He.eqO (PySem.W.findIn K (.ref (He.ga K "BadLine")) "__init__") (some (some (.ref (He.ma K (He.ga K "BadLine") "__init__")))),
  HK.oV (PySem.W.typeIn K (.ref (He.ma K (He.ga K "BadLine") "__init__"))) (.type "function"),
  PySem.W.keepIn K (.ref (He.ma K (He.ga K "BadLine") "__init__")),
  He.eqO (PySem.W.findIn K (.ref (He.ga K "BadLine")) "number") (some none),
  HK.oexB K (He.ga K "BadQuestion")]
def ex5 (K : PySem.W.Frag) : List Bool := [He.eqO (PySem.W.findIn K (.ref (He.ga K "BadQuestion")) "__init__") (some (some (.ref (He.ma K (He.ga K "BadQuestion") "__init__")))),
  HK.oV (PySem.W.typeIn K (.ref (He.ma K (He.ga K "BadQuestion") "__init__"))) (.type "function"),
  PySem.W.keepIn K (.ref (He.ma K (He.ga K "BadQuestion") "__init__")),
  He.eqO (PySem.W.findIn K (.ref (He.ga K "BadQuestion")) "part") (some none),
  HK.oexB K (He.ga K "BadTask"),
  He.eqO (PySem.W.findIn K (.ref (He.ga K "BadTask")) "__init__") (some (some (.ref (He.ma K (He.ga K "BadTask") "__init__")))),
  HK.oV (PySem.W.typeIn K (.ref (He.ma K (He.ga K "BadTask") "__init__"))) (.type "function"),
  PySem.W.keepIn K (.ref (He.ma K (He.ga K "BadTask") "__init__")),
  He.eqO (PySem.W.findIn K (.ref (He.ga K "BadTask")) "part") (some none),
  HK.oexB K (He.ga K "BadStep"),
  He.eqO (PySem.W.findIn K (.ref (He.ga K "BadStep")) "__init__") (some (some (.ref (He.ma K (He.ga K "BadStep") "__init__")))),
  HK.oV (PySem.W.typeIn K (.ref (He.ma K (He.ga K "BadStep") "__init__"))) (.type "function"),
  PySem.W.keepIn K (.ref (He.ma K (He.ga K "BadStep") "__init__")),
  He.eqO (PySem.W.findIn K (.ref (He.ga K "BadStep")) "number") (some none),
  HK.oexB K (He.ga K "TooMany"),
  He.eqO (PySem.W.findIn K (.ref (He.ga K "TooMany")) "__init__") (some (some (.ref (He.ma K (He.ga K "TooMany") "__init__")))),
  HK.oV (PySem.W.typeIn K (.ref (He.ma K (He.ga K "TooMany") "__init__"))) (.type "function"),
  PySem.W.keepIn K (.ref (He.ma K (He.ga K "TooMany") "__init__")),
  He.eqO (PySem.W.findIn K (.ref (He.ga K "TooMany")) "most") (some none),
  HK.oexB K (He.ga K "NotFitting")]
def ex6 (K : PySem.W.Frag) : List Bool := [He.eqO (PySem.W.findIn K (.ref (He.ga K "NotFitting")) "__init__") (some (some (.ref (He.ma K (He.ga K "NotFitting") "__init__")))),
  HK.oV (PySem.W.typeIn K (.ref (He.ma K (He.ga K "NotFitting") "__init__"))) (.type "function"),
  PySem.W.keepIn K (.ref (He.ma K (He.ga K "NotFitting") "__init__")),
  He.eqO (PySem.W.findIn K (.ref (He.ga K "NotFitting")) "source") (some none),
  HK.oexB K (He.ga K "NotGiven"),
  He.eqO (PySem.W.findIn K (.ref (He.ga K "NotGiven")) "__init__") (some (some (.ref (He.ma K (He.ga K "NotGiven") "__init__")))),
  HK.oV (PySem.W.typeIn K (.ref (He.ma K (He.ga K "NotGiven") "__init__"))) (.type "function"),
  PySem.W.keepIn K (.ref (He.ma K (He.ga K "NotGiven") "__init__")),
  He.eqO (PySem.W.findIn K (.ref (He.ga K "NotGiven")) "literal") (some none),
  HK.oexB K (He.ga K "NotFirst"),
  He.eqO (PySem.W.findIn K (.ref (He.ga K "NotFirst")) "__init__") (some (some (.ref (He.ma K (He.ga K "NotFirst") "__init__")))),
  HK.oV (PySem.W.typeIn K (.ref (He.ma K (He.ga K "NotFirst") "__init__"))) (.type "function"),
  PySem.W.keepIn K (.ref (He.ma K (He.ga K "NotFirst") "__init__")),
  He.eqO (PySem.W.findIn K (.ref (He.ga K "NotFirst")) "place") (some none),
  HK.oexB K (He.ga K "NoFeatures"),
  He.eqO (PySem.W.findIn K (.ref (He.ga K "NoFeatures")) "__init__") (some (some (.ref (He.ma K (He.ga K "LockError") "__init__")))),
  HK.oV (PySem.W.typeIn K (.ref (He.ma K (He.ga K "LockError") "__init__"))) (.type "function"),
  PySem.W.keepIn K (.ref (He.ma K (He.ga K "LockError") "__init__")),
  HK.oexB K (He.ga K "NoEntry"),
  He.eqO (PySem.W.findIn K (.ref (He.ga K "NoEntry")) "__init__") (some (some (.ref (He.ma K (He.ga K "LockError") "__init__"))))]
def ex7 (K : PySem.W.Frag) : List Bool := [HK.oexB K (He.ga K "NotRight"),
  He.eqO (PySem.W.findIn K (.ref (He.ga K "NotRight")) "__init__") (some (some (.ref (He.ma K (He.ga K "LockError") "__init__")))),
  HK.oexB K (He.ga K "NotThere"),
  He.eqO (PySem.W.findIn K (.ref (He.ga K "NotThere")) "__init__") (some (some (.ref (He.ma K (He.ga K "LockError") "__init__")))),
  HK.oexB K (He.ga K "NotClosed"),
  He.eqO (PySem.W.findIn K (.ref (He.ga K "NotClosed")) "__init__") (some (some (.ref (He.ma K (He.ga K "LockError") "__init__")))),
  HK.oexB K (He.ga K "NoSource"),
  He.eqO (PySem.W.findIn K (.ref (He.ga K "NoSource")) "__init__") (some (some (.ref (He.ma K (He.ga K "LockError") "__init__")))),
  HK.oexB K (He.ga K "NoStand"),
  He.eqO (PySem.W.findIn K (.ref (He.ga K "NoStand")) "__init__") (some (some (.ref (He.ma K (He.ga K "LockError") "__init__")))),
  HK.oexB K (He.ga K "NoGivens"),
  He.eqO (PySem.W.findIn K (.ref (He.ga K "NoGivens")) "__init__") (some (some (.ref (He.ma K (He.ga K "LockError") "__init__")))),
  HK.oexB K (He.ga K "NoLiteral"),
  He.eqO (PySem.W.findIn K (.ref (He.ga K "NoLiteral")) "__init__") (some (some (.ref (He.ma K (He.ga K "LockError") "__init__")))),
  HK.oexB K (He.ga K "NoPaper"),
  He.eqO (PySem.W.findIn K (.ref (He.ga K "NoPaper")) "__init__") (some (some (.ref (He.ma K (He.ga K "LockError") "__init__")))),
  HK.oexB K (He.ga K "NoSources"),
  He.eqO (PySem.W.findIn K (.ref (He.ga K "NoSources")) "__init__") (some (some (.ref (He.ma K (He.ga K "LockError") "__init__")))),
  HK.oexB K (He.ga K "NoName"),
  He.eqO (PySem.W.findIn K (.ref (He.ga K "NoName")) "__init__") (some (some (.ref (He.ma K (He.ga K "LockError") "__init__"))))]
def ex8 (K : PySem.W.Frag) : List Bool := [HK.oexB K (He.ga K "NoNumber"),
  He.eqO (PySem.W.findIn K (.ref (He.ga K "NoNumber")) "__init__") (some (some (.ref (He.ma K (He.ga K "LockError") "__init__")))),
  HK.oexB K (He.ga K "NotEntry"),
  He.eqO (PySem.W.findIn K (.ref (He.ga K "NotEntry")) "__init__") (some (some (.ref (He.ma K (He.ga K "LockError") "__init__")))),
  HK.oexB K (He.ga K "NotQuestion"),
  He.eqO (PySem.W.findIn K (.ref (He.ga K "NotQuestion")) "__init__") (some (some (.ref (He.ma K (He.ga K "LockError") "__init__")))),
  HK.oexB K (He.ga K "NothingDone"),
  He.eqO (PySem.W.findIn K (.ref (He.ga K "NothingDone")) "__init__") (some (some (.ref (He.ma K (He.ga K "LockError") "__init__")))),
  HK.oexB K (He.ga K "NoText"),
  He.eqO (PySem.W.findIn K (.ref (He.ga K "NoText")) "__init__") (some (some (.ref (He.ma K (He.ga K "LockError") "__init__")))),
  HK.oexB K (He.ga K "NoStart"),
  He.eqO (PySem.W.findIn K (.ref (He.ga K "NoStart")) "__init__") (some (some (.ref (He.ma K (He.ga K "LockError") "__init__")))),
  HK.oexB K (He.ga K "NoStop"),
  He.eqO (PySem.W.findIn K (.ref (He.ga K "NoStop")) "__init__") (some (some (.ref (He.ma K (He.ga K "LockError") "__init__")))),
  HK.oexB K (He.ga K "NotSafe"),
  He.eqO (PySem.W.findIn K (.ref (He.ga K "NotSafe")) "__init__") (some (some (.ref (He.ma K (He.ga K "LockError") "__init__")))),
  HK.oexB K (He.ga K "NoDeed"),
  He.eqO (PySem.W.findIn K (.ref (He.ga K "NoDeed")) "__init__") (some (some (.ref (He.ma K (He.ga K "LockError") "__init__")))),
  HK.oexB K (He.ga K "NoContents"),
  He.eqO (PySem.W.findIn K (.ref (He.ga K "NoContents")) "__init__") (some (some (.ref (He.ma K (He.ga K "LockError") "__init__"))))]
def ex9 (K : PySem.W.Frag) : List Bool := [HK.oexB K (He.ga K "NoMirrors"),
  He.eqO (PySem.W.findIn K (.ref (He.ga K "NoMirrors")) "__init__") (some (some (.ref (He.ma K (He.ga K "LockError") "__init__")))),
  HK.oexB K (He.ga K "NoManifest"),
  He.eqO (PySem.W.findIn K (.ref (He.ga K "NoManifest")) "__init__") (some (some (.ref (He.ma K (He.ga K "LockError") "__init__")))),
  HK.oexB K (He.ga K "NotFetched"),
  He.eqO (PySem.W.findIn K (.ref (He.ga K "NotFetched")) "__init__") (some (some (.ref (He.ma K (He.ga K "NotFetched") "__init__")))),
  HK.oV (PySem.W.typeIn K (.ref (He.ma K (He.ga K "NotFetched") "__init__"))) (.type "function"),
  PySem.W.keepIn K (.ref (He.ma K (He.ga K "NotFetched") "__init__")),
  He.eqO (PySem.W.findIn K (.ref (He.ga K "NotFetched")) "pair") (some none),
  HK.oexB K (He.ga K "NoBuild"),
  He.eqO (PySem.W.findIn K (.ref (He.ga K "NoBuild")) "__init__") (some (some (.ref (He.ma K (He.ga K "NoBuild") "__init__")))),
  HK.oV (PySem.W.typeIn K (.ref (He.ma K (He.ga K "NoBuild") "__init__"))) (.type "function"),
  PySem.W.keepIn K (.ref (He.ma K (He.ga K "NoBuild") "__init__")),
  He.eqO (PySem.W.findIn K (.ref (He.ga K "NoBuild")) "name") (some none),
  HK.oexB K (He.ga K "Ringed"),
  He.eqO (PySem.W.findIn K (.ref (He.ga K "Ringed")) "__init__") (some (some (.ref (He.ma K (He.ga K "Ringed") "__init__")))),
  HK.oV (PySem.W.typeIn K (.ref (He.ma K (He.ga K "Ringed") "__init__"))) (.type "function"),
  PySem.W.keepIn K (.ref (He.ma K (He.ga K "Ringed") "__init__")),
  He.eqO (PySem.W.findIn K (.ref (He.ga K "Ringed")) "names") (some none),
  HK.oexB K (He.ga K "NoMachine")]
def ex10 (K : PySem.W.Frag) : List Bool := [He.eqO (PySem.W.findIn K (.ref (He.ga K "NoMachine")) "__init__") (some (some (.ref (He.ma K (He.ga K "LockError") "__init__")))),
  HK.oexB K (He.ga K "NoRollout"),
  He.eqO (PySem.W.findIn K (.ref (He.ga K "NoRollout")) "__init__") (some (some (.ref (He.ma K (He.ga K "LockError") "__init__")))),
  He.eqO (PySem.W.specialIn K (.builtin "object.__class__") "__get__") (some (some (.builtin "getset_descriptor.__get__"))),
  HK.oB (PySem.W.takesIn K (.builtin "object.__class__")) true,
  clsTab K [(He.ga K "LockError"), (He.ga K "BadText"), (He.ga K "BadEntry"), (He.ga K "BadBook"), (He.ga K "BadLine"), (He.ga K "BadQuestion"), (He.ga K "BadTask"), (He.ga K "BadStep"), (He.ga K "TooMany"), (He.ga K "NotFitting"), (He.ga K "NotGiven"), (He.ga K "NotFirst"), (He.ga K "NoFeatures"), (He.ga K "NoEntry"), (He.ga K "NotRight"), (He.ga K "NotThere"), (He.ga K "NotClosed"), (He.ga K "NoSource"), (He.ga K "NoStand"), (He.ga K "NoGivens"), (He.ga K "NoLiteral"), (He.ga K "NoPaper"), (He.ga K "NoSources"), (He.ga K "NoName"), (He.ga K "NoNumber"), (He.ga K "NotEntry"), (He.ga K "NotQuestion"), (He.ga K "NothingDone"), (He.ga K "NoText"), (He.ga K "NoStart"), (He.ga K "NoStop"), (He.ga K "NotSafe"), (He.ga K "NoDeed"), (He.ga K "NoContents"), (He.ga K "NoMirrors"), (He.ga K "NoManifest"), (He.ga K "NotFetched"), (He.ga K "NoBuild"), (He.ga K "Ringed"), (He.ga K "NoMachine"), (He.ga K "NoRollout")],
  He.eqO (PySem.W.nsIn K mainGlobals "Book") (some (some (.ref (He.ga K "Book")))),
  PySem.W.plainGet K (He.ga K "Book") Str.empty,
  PySem.W.hasDictIn K (He.ga K "Book"),
  PySem.W.plainOver K (He.ga K "Book"),
  He.eqO (PySem.W.findIn K (.ref (He.ga K "Book")) "__setattr__") (some (some (.builtin "object.__setattr__"))),
  He.eqO (PySem.W.findIn K (.ref (He.ga K "Book")) "__class__") (some (some (.builtin "object.__class__"))),
  HK.oB (PySem.W.mroIn K (He.ga K "Book") (.type "object")) true,
  PySem.W.isClsIn K (He.ga K "Book"),
  HK.oV (PySem.W.typeIn K (.ref (He.ga K "Book"))) (.type "type"),
  HK.oB (PySem.W.subIn K (.ref (He.ga K "Book")) (.ref (He.ga K "Book"))) true,
  PySem.W.makesIn K (He.ga K "Book"),
  PySem.W.keepIn K (.ref (He.ga K "Book")),
  He.eqO (PySem.W.findIn K (.ref (He.ga K "Book")) "entries") (some none),
  He.eqO (PySem.W.findIn K (.ref (He.ga K "Book")) "places") (some none)]
def ex11 (K : PySem.W.Frag) : List Bool := [He.eqO (PySem.W.findIn K (.ref (He.ga K "Book")) "__init__") (some (some (.ref (He.ma K (He.ga K "Book") "__init__")))),
  PySem.W.isFn K (.ref (He.ma K (He.ga K "Book") "__init__")),
  PySem.W.keepIn K (.ref (He.ma K (He.ga K "Book") "__init__")),
  He.eqO (PySem.W.findIn K (.ref (He.ga K "Book")) "__eq__") (some (some (.ref (He.ma K (He.ga K "Book") "__eq__")))),
  PySem.W.isFn K (.ref (He.ma K (He.ga K "Book") "__eq__")),
  PySem.W.keepIn K (.ref (He.ma K (He.ga K "Book") "__eq__")),
  HK.uB K "ENTRIES_MOST",
  HK.repB K (.int 200) (HK.ua K "ENTRIES_MOST")]
def exL (K : PySem.W.Frag) : List (List Bool) := [ex0 K, ex1 K, ex2 K, ex3 K, ex4 K, ex5 K, ex6 K, ex7 K, ex8 K, ex9 K, ex10 K, ex11 K]
def nm0 : List PySem.Str := ["LockError", "BadText", "BadEntry", "BadBook", "BadLine", "BadQuestion", "BadTask", "BadStep", "TooMany", "NotFitting", "NotGiven", "NotFirst", "NoFeatures", "NoEntry", "NotRight", "NotThere", "NotClosed", "NoSource", "NoStand", "NoGivens", "NoLiteral", "NoPaper", "NoSources", "NoName", "NoNumber", "NotEntry", "NotQuestion", "NothingDone", "NoText", "NoStart"]
def nm1 : List PySem.Str := ["NoStop", "NotSafe", "NoDeed", "NoContents", "NoMirrors", "NoManifest", "NotFetched", "NoBuild", "Ringed", "NoMachine", "NoRollout", "NAME_MOST", "WANTED_MOST", "is_integer", "is_number", "is_name", "is_names", "is_wanted", "is_tuple_of", "is_tuple_within", "NUMBER_MOST", "is_version", "is_stretch", "is_range", "reaches", "RELEASE_MOST", "FEATURES_MOST", "NEEDS_MOST", "BARS_MOST", "ENTRIES_MOST"]
def nm2 : List PySem.Str := ["is_release", "is_other", "is_feature", "lacking", "is_features", "is_need", "is_bar", "wrong_need", "wrong_bar", "wrong_part", "Entry", "place_of", "wrong_entry", "Book", "_law_hand", "_law_draw", "_law_some", "_law_is", "_law_deep", "_law_first_classes", "_law_classes", "_law_field", "_law_raised", "_law_right"]
def nmL : List PySem.Str := nm0 ++ (nm1 ++ (nm2))
abbrev qL : Program := PySem.W.view RH.prog [89]
abbrev hkL : PySem.W.Hook := HK.hookK fnL tfL exL
def obL (s : PySem.W.SharedT) : HK.Al := HK.obsG fnL tfL exL (HandSHeadRun.getT s)
theorem obL_eq (s : PySem.W.SharedT) : obL s = hkL.obs s.abs := HK.obsG_eq (HandSHeadRun.getT_eq s)
theorem runL (w : World) : HandSHeadRun.RunEq RH qL hkL obL 60000 nmL w := by
  intro os
  kernel_rfl
end Hdk00
namespace RD
open PySem L2 PySem.Spec DL
open PyProof.Rows hiding St
abbrev N_is_tuple_within : List Str := ["most", "thing"]
def t_is_tuple_within : DTS := (dRet (dAndV (dIsi (dVar 1) ["tuple"]) (dOp dLe (dCB dLen (dCons (dVar 1) dNil)) (dVar 0))))
abbrev N__law_hand : List Str := ["script", "cells", "cell"]
def e__law_hand_1 : DTE := (dCB dAbs (dCons (dCB dInt (dCons (dVar 2) dNil)) dNil))
def t__law_hand : DTS := (dSeq (dAsg (dLc (iD (dSl (dVar 0) dNoPart (dPart (dC (.int 63))))) (gN 2) dYes (e__law_hand_1) [2]) (gN 1))
    (dRet (dLst (dCons (dVar 1) (dCons (dC (.int 0)) (dCons (dC (.int 0)) (dCons (dOp dAdd (dC (.int 1)) (dCB dLen (dCons (dVar 1) dNil))) (dCons (dC (.int 0)) dNil))))))))
abbrev N__law_draw : List Str := ["hand", "many", "cell", "digit", "number"]
def t__law_draw : DTS := (dSeq (dIfS (dAnd (dTest (dOp dEq (dOp dIx (dVar 0) (dC (.int 2))) (dC (.int 0)))) (dTest (dOp dLt (dOp dIx (dVar 0) (dC (.int 1))) (dCB dLen (dCons (dOp dIx (dVar 0) (dC (.int 0))) dNil))))) (dSeq (dAsg (dOp dIx (dOp dIx (dVar 0) (dC (.int 0))) (dOp dIx (dVar 0) (dC (.int 1)))) (gN 2))
    (dSeq (dAsg (dOp dAdd (dOp dIx (dVar 0) (dC (.int 1))) (dC (.int 1))) (gSub' (dVar 0) (dC (.int 1)) dSetL))
    (dSeq (dAsg (dOp dMod (dCB dInt (dCons (dOp dAdd (dOp dAdd (dOp dMul (dOp dIx (dVar 0) (dC (.int 3))) (dC (.int 69621))) (dVar 2)) (dC (.int 11))) dNil)) (dC (.int 2147483629))) (gSub' (dVar 0) (dC (.int 3)) dSetL))
    (dIfS (dTest (dOp dGe (dVar 2) (dOp dPow (dC (.int 10)) (dC (.int 18))))) (dAsg (dVar 2) (gSub' (dVar 0) (dC (.int 2)) dSetL)) dNext)))) dNext)
    (dSeq (dIfS (dTest (dOp dGt (dOp dIx (dVar 0) (dC (.int 2))) (dC (.int 0)))) (dSeq (dAsg (dOp dMod (dCB dInt (dCons (dOp dIx (dVar 0) (dC (.int 2))) dNil)) (dVar 1)) (gN 3))
    (dSeq (dAsg (dOp dDiv (dOp dIx (dVar 0) (dC (.int 2))) (dVar 1)) (gSub' (dVar 0) (dC (.int 2)) dSetL))
    (dRet (dVar 3)))) dNext)
    (dSeq (dAsg (dOp dAdd (dOp dIx (dVar 0) (dC (.int 4))) (dC (.int 1))) (gSub' (dVar 0) (dC (.int 4)) dSetL))
    (dSeq (dAsg (dOp dMod (dCB dInt (dCons (dOp dMul (dCB dInt (dCons (dOp dAdd (dOp dIx (dVar 0) (dC (.int 3))) (dOp dMul (dC (.int 7919)) (dOp dIx (dVar 0) (dC (.int 4))))) dNil)) (dC (.int 48271))) dNil)) (dC (.int 2147483647))) (gN 4))
    (dSeq (dAsg (dOp dMod (dCB dInt (dCons (dOp dMul (dVar 4) (dOp dAdd (dOp dDiv (dVar 4) (dC (.int 1009))) (dC (.int 69621)))) dNil)) (dC (.int 2147483647))) (gN 4))
    (dSeq (dAsg (dOp dMod (dCB dInt (dCons (dOp dMul (dVar 4) (dOp dAdd (dOp dDiv (dVar 4) (dC (.int 2003))) (dC (.int 40692)))) dNil)) (dC (.int 2147483399))) (gN 4))
    (dRet (dOp dMod (dCB dInt (dCons (dOp dDiv (dVar 4) (dC (.int 16))) dNil)) (dVar 1)))))))))
abbrev N__law_some : List Str := ["hand", "things"]
def t__law_some (s__law_draw : DSp) : DTS := (dRet (dOp dIx (dVar 1) (dCall 2 s__law_draw (dCons (dVar 0) (dCons (dCB dLen (dCons (dVar 1) dNil)) dNil)))))
abbrev N__law_deep : List Str := ["kind", "found", "turn"]
def b__law_deep_1 : DTS := (dAsg (dIf (dTest (dOp dEq (dVar 0) (dC (.int 0)))) (dLst (dCons (dVar 1) dNil)) (dTup (dCons (dVar 1) dNil))) (gN 1))
def t__law_deep : DTS := (dSeq (dAsg (dC (.non)) (gN 1))
    (dSeq (dFor (iR1 (dCons (dC (.int 36)) dNil)) (gN 2) (b__law_deep_1))
    (dRet (dVar 1))))
end RD
set_option maxHeartbeats 4000000
namespace DL
open PySem L2 PySem.Spec
open PyProof.Rows hiding St
end DL
set_option maxHeartbeats 4000000
namespace L2
open PySem PySem.Spec PyProof.Rows
end L2
namespace DL
open PySem L2 PySem.Spec
open PyProof.Rows hiding St
variable [TC : TabCtx]
def dRemP : DM := fun x ds st Q => match x, ds with
  | .str a, [.str b] => a.length ≤ sizeLine ∧ Q (.str (Txt.removeprefix a b)) st
  | _, _ => False
def dFind : DM := fun x ds st Q => match x, ds with
  | .str a, [.str b] => Q (.int (Txt.find a b)) st
  | _, _ => False
def dStar (te : DTE) (t : DTA) : DTA := fun ρ st Q Z => te ρ st (fun x st1 => ∃ xs, itemsD st1 x = some xs ∧ t ρ st1 (fun ys st2 => Q (xs ++ ys) st2) Z) Z
end DL
namespace DL
open PySem L2 PySem.Spec
open PyProof.Rows hiding St
section
variable {st : Sto} {ρ : Env'} {Q : DK} {Z : DZ} {te : DTE} {t : DTA} {QA : List D → Sto → Prop} {a b : Str} {n : Nat}
@[simp] theorem s_star : dStar te t ρ st QA Z = te ρ st (fun x st1 => ∃ xs, itemsD st1 x = some xs ∧ t ρ st1 (fun ys st2 => QA (xs ++ ys) st2) Z) Z := rfl
@[simp] theorem s_remP : dRemP (.str a) [.str b] st Q = (a.length ≤ sizeLine ∧ Q (.str (Txt.removeprefix a b)) st) := rfl
@[simp] theorem s_find : dFind (.str a) [.str b] st Q = Q (.int (Txt.find a b)) st := rfl
@[simp] theorem s_pop : dPop (.loc n) [] st Q = ∃ es d, st[n]? = some (.lst es) ∧ es[es.length - 1]? = some d ∧ Q d (st.set n (.lst es.dropLast)) := rfl
end
end DL
namespace DL
open PySem L2 PySem.Spec
/-- a thing of a built-in type is no instance of an own class -/
theorem kit_ty {K : PySem.W.Frag} {x : Addr} (hd : PySem.W.hasDictIn K x = true) (ht : PySem.W.typeIn K (.ref x) = some (.type "type")) : ∀ a ∈ ["NoneType", "bool", "int", "str", "tuple", "list", "dict"], PySem.W.kitOne K (.type a) (.ref x) = some false := by
  intro a ha
  obtain ⟨cd, hc, _⟩ := PySem.W.any_some hd
  unfold PySem.W.kitOne
  rw [if_neg (by simp)]
  unfold PySem.W.kitCls
  dsimp only
  rw [if_pos (by rw [hc, ht]; rfl)]
  have e : ∀ a ∈ ["NoneType", "bool", "int", "str", "tuple", "list", "dict"], ∃ l, fastBuiltinMro a = some l ∧ ∀ z ∈ l, ∃ n, z = .type n := by
    intro a ha
    simp only [List.mem_cons, List.not_mem_nil, or_false] at ha
    rcases ha with rfl | rfl | rfl | rfl | rfl | rfl | rfl
    · exact ⟨[.type "NoneType", .type "object"], by decide +kernel, by simp⟩
    · exact ⟨[.type "bool", .type "int", .type "object"], by decide +kernel, by simp⟩
    · exact ⟨[.type "int", .type "object"], by decide +kernel, by simp⟩
    · exact ⟨[.type "str", .type "object"], by decide +kernel, by simp⟩
    · exact ⟨[.type "tuple", .type "object"], by decide +kernel, by simp⟩
    · exact ⟨[.type "list", .type "object"], by decide +kernel, by simp⟩
    · exact ⟨[.type "dict", .type "object"], by decide +kernel, by simp⟩
  obtain ⟨l, h1, h2⟩ := e a ha
  have h3 : PySem.W.subIn K (.type a) (.ref x) = some false := by
    show (fastBuiltinMro a).map (·.contains (.ref x)) = some false
    rw [h1]
    simp only [Option.map_some, Option.some.injEq]
    rw [Bool.eq_false_iff]
    intro hc
    obtain ⟨n, e⟩ := h2 _ (List.contains_iff_mem.mp hc)
    cases e
  exact h3
end DL
set_option maxHeartbeats 4000000
namespace TxS
open PySem PySem.Spec PyProof.Rows L2
/-- the text of a row -/
def txt (e : Int × Value) : Str := match e.2 with
  | .str x _ => x
  | _ => Str.empty
def Row (P : Program) (w : World) (e : Int × Value) : Prop := ∃ x tk, e.2 = Value.str x tk ∧ e.1 = (PySem.strKind P w).hash x
/-- the set at a holds the texts L -/
structure Tx (P : Program) (w : World) (h : Heap) (a : Addr) (L : List Str) : Prop where
  ex : ∃ (o : Obj) (rows : Array (Int × Value)) (ep : Nat) (tab : SetTable), h.get? a = some o ∧ o.ExactSet ∧ o.data = .set rows ep tab ∧ (∀ e ∈ rows.toList, Row P w e) ∧ (rows.toList.map txt).Perm L ∧ L.Nodup ∧
    rows.size < scanBound ∧ tab.fits rows.size = true ∧ Ris tab.place.toList ∧ (w.params.followText "set-order" = true ∨ tab.led = true)
section
variable {P : Program} {w : World} {h h' : Heap} {a : Addr} {L : List Str}
theorem Tx.at (R : Tx P w h a L) (k : ∀ o, h.get? a = some o → h'.get? a = some o) : Tx P w h' a L := by
  obtain ⟨o, rows, ep, tab, ho, r⟩ := R.ex
  exact ⟨o, rows, ep, tab, k o ho, r⟩
theorem Tx.none {o : Obj} (ho : h.get? a = some o) (hx : o.ExactSet) (hd : o.data = .set #[] 0 (.fresh 0 0 (!w.params.followText "set-order"))) : Tx P w h a [] :=
  ⟨o, #[], 0, _, ho, hx, hd, fun e he => by simp at he, by simp, List.nodup_nil, by unfold scanBound; simp, by generalize (!w.params.followText "set-order") = b; cases b <;> rfl, by simp [SetTable.fresh, Ris], by
    cases hq : w.params.followText "set-order"
    · exact .inr rfl
    · exact .inl rfl⟩
end
end TxS
set_option maxHeartbeats 4000000
set_option maxHeartbeats 4000000
set_option maxHeartbeats 4000000
namespace TxS
open PySem PySem.Spec PyProof.Rows L2
open PySem.W (AllAlike Sortable dataLe EachIs)
def asc (xs : List Str) : List Str := xs.mergeSort (dataLe false PyData.str)
end TxS
namespace L2
open PySem PySem.Spec PyProof.Rows
end L2
namespace DL
open PySem L2 PySem.Spec
open PyProof.Rows hiding St
variable [TC : TabCtx]
def dSortTx : DN := fun ds st Q => match ds with
  | [x] => ∃ xs : List Str, itemsD st x = some (xs.map .str) ∧ xs.length < 4000 ∧ ∀ M : List Str, M.Nodup → (∀ y, y ∈ M ↔ y ∈ xs) → Q (.loc st.length) (st ++ [.lst ((TxS.asc M).map .str)])
  | _ => False
end DL
namespace DL
open PySem L2 PySem.Spec
open PyProof.Rows hiding St
@[simp] theorem s_sortTx {x : D} {st : Sto} {Q : DK} : dSortTx [x] st Q = ∃ xs : List Str, itemsD st x = some (xs.map .str) ∧ xs.length < 4000 ∧ ∀ M : List Str, M.Nodup → (∀ y, y ∈ M ↔ y ∈ xs) → Q (.loc st.length) (st ++ [.lst ((TxS.asc M).map .str)]) := rfl
end DL
namespace DL
open PySem L2 PySem.Spec
open PyProof.Rows hiding St
def dSum : DN := fun ds st Q => match ds with | [.loc n] => ∃ ns : List Int, st[n]? = some (.lst (ns.map .int)) ∧ Q (.int ns.sum) st | _ => False
def dOrdS : DN := fun ds st Q => match ds with | [.str x] => x.length = 1 ∧ Q (.int (x.cps.getD 0 0 : Nat)) st | _ => False
def dUpper : DM := fun x ds st Q => match x, ds with | .str a, [] => a.length ≤ 5592405 ∧ Q (.str (Txt.upper a)) st | _, _ => False
def dSetK : D3 := fun o i x st Q => match o with | .loc n => ∃ kvs k, st[n]? = some (.dK kvs) ∧ keyD i = some k ∧ kvs.length < sizeLine ∧ Q (st.set n (.dK (putD kvs k x))) | _ => False
section
variable {st : Sto} {Q : DK} {a : Str} {i j : Int} {n : Nat} {x d : D} {Qs : Sto → Prop}
@[simp] theorem s_sum : dSum [.loc n] st Q = ∃ ns : List Int, st[n]? = some (.lst (ns.map .int)) ∧ Q (.int ns.sum) st := rfl
@[simp] theorem s_ordS : dOrdS [.str a] st Q = (a.length = 1 ∧ Q (.int (a.cps.getD 0 0 : Nat)) st) := rfl
@[simp] theorem s_upper : dUpper (.str a) [] st Q = (a.length ≤ 5592405 ∧ Q (.str (Txt.upper a)) st) := rfl
@[simp] theorem s_setK : dSetK (.loc n) d x st Qs = ∃ kvs k, st[n]? = some (.dK kvs) ∧ keyD d = some k ∧ kvs.length < sizeLine ∧ Qs (st.set n (.dK (putD kvs k x))) := rfl
end
variable [TC : TabCtx]
end DL
namespace DL
open PySem L2 PySem.Spec
open PyProof.Rows hiding St
def revS (z : Str) : Str := ⟨z.cps.toList.reverse.toArray⟩
def dRevS (te : DTE) : DTE := fun ρ st Q Z => te ρ st (fun x st1 => match x with
  | .str z => z.length ≤ sizeLine ∧ Q (.str (revS z)) st1
  | _ => False) Z
section
variable {ρ : Env'} {st : Sto} {Q : DK} {Z : DZ} {te : DTE}
@[simp] theorem s_revS : dRevS te ρ st Q Z = te ρ st (fun x st1 => match x with
  | .str z => z.length ≤ sizeLine ∧ Q (.str (revS z)) st1
  | _ => False) Z := rfl
end
variable [TC : TabCtx]
end DL
namespace DL
open PySem L2 PySem.Spec
open PyProof.Rows hiding St
def iEnS (te : DTE) : DTI := fun ρ st Q Z => te ρ st (fun x st1 => match x with | .str z => Q (enumItems (strItems z)) (fun _ => True) st1 | _ => False) Z
section
variable {ρ : Env'} {st : Sto} {Z : DZ} {te : DTE}
@[simp] theorem s_iEnS {QI : List D → (Sto → Prop) → Sto → Prop} : iEnS te ρ st QI Z = te ρ st (fun x st1 => match x with | .str z => QI (enumItems (strItems z)) (fun _ => True) st1 | _ => False) Z := rfl
end
variable [TC : TabCtx]
end DL
set_option maxHeartbeats 4000000
namespace DL
open PySem L2 PySem.Spec
open PyProof.Rows hiding St
def repS (a : Str) (n : Nat) : Str := ⟨(List.replicate n a.cps).foldl (· ++ ·) #[]⟩
def dMulS : D2 := fun x y st Q => match x, y with
  | .str a, .int k => 2 ≤ k ∧ k ≤ 1000 ∧ 0 < a.length ∧ a.length ≤ 1000 ∧ Q (.str (repS a k.toNat)) st
  | _, _ => False
@[simp] theorem s_mulS {a : Str} {k : Int} {st : Sto} {Q : DK} : dMulS (.str a) (.int k) st Q = (2 ≤ k ∧ k ≤ 1000 ∧ 0 < a.length ∧ a.length ≤ 1000 ∧ Q (.str (repS a k.toNat)) st) := rfl
end DL
namespace DL
open PySem L2 PySem.Spec
open PyProof.Rows hiding St
def dInsert : DM := fun x ds st Q => match x, ds with
  | .loc n, [.int i, d] => ∃ es, st[n]? = some (.lst es) ∧ es.length < sizeLine ∧ 0 ≤ i ∧ i < 2 ^ 62 ∧ Q .non (st.set n (.lst (es.take i.toNat ++ [d] ++ es.drop i.toNat)))
  | _, _ => False
@[simp] theorem s_insert {n : Nat} {i : Int} {d : D} {st : Sto} {Q : DK} : dInsert (.loc n) [.int i, d] st Q = ∃ es, st[n]? = some (.lst es) ∧ es.length < sizeLine ∧ 0 ≤ i ∧ i < 2 ^ 62 ∧ Q .non (st.set n (.lst (es.take i.toNat ++ [d] ++ es.drop i.toNat))) := rfl
end DL
namespace DL
open PySem L2 PySem.Spec
open PyProof.Rows hiding St
def dkAt (st : Sto) (n : Nat) : Option (List (Key × D)) := match st[n]? with
  | some (.dK kvs) => some kvs
  | some (.dkF _ kvs) => some kvs
  | _ => none
end DL
namespace DL
open PySem L2 PySem.Spec
open PyProof.Rows hiding St
def ltX (a b : Str) : Bool := PySem.W.dataLt (.str a) (.str b)
def dMinTx : DN := fun ds st Q => match ds with | [.loc n] => ∃ ns : List Str, st[n]? = some (.lst (ns.map .str)) ∧ 0 < ns.length ∧ ∀ m, m ∈ ns → (∀ y ∈ ns, ltX y m = false) → Q (.str m) st | _ => False
@[simp] theorem s_minTx {n : Nat} {st : Sto} {Q : DK} : dMinTx [.loc n] st Q = ∃ ns : List Str, st[n]? = some (.lst (ns.map .str)) ∧ 0 < ns.length ∧ ∀ m, m ∈ ns → (∀ y ∈ ns, ltX y m = false) → Q (.str m) st := rfl
theorem Ext.take {H H' : Hp} {μ : List Addr} {p : Addr} (x : Ext H H' μ μ) (hp : H p = none) : Ext H H' μ (μ ++ [p]) := ⟨⟨fun n a q => by rw [List.getElem?_append_left (List.getElem?_eq_some_iff.mp q).1]; exact q, x.tup, x.frz⟩, x.fra, fun a q => by
  rcases List.mem_append.mp q with q | q
  · exact .inl q
  · rw [List.mem_singleton.mp q]; exact .inr fun o q => by rw [hp] at q; cases q⟩
section
variable [TC : TabCtx] {X : Cx} {W : WX} {e : Expr} {te : DTE} {p apos cpos pos : Pos}
def dListItems (te : DTE) : DTE := fun ρ st Q Z => te ρ st (fun x st1 => ∃ n kvs, x = .loc n ∧ st1[n]? = some (.dK kvs) ∧ Q (.loc st1.length) (st1 ++ [.lst (kvs.map fun p => .tup [dKeyD p.1, p.2])])) Z
omit TC in
@[simp] theorem s_listItems {ρ : Env'} {st : Sto} {Q : DK} {Z : DZ} : dListItems te ρ st Q Z = te ρ st (fun x st1 => ∃ n kvs, x = .loc n ∧ st1[n]? = some (.dK kvs) ∧ Q (.loc st1.length) (st1 ++ [.lst (kvs.map fun p => .tup [dKeyD p.1, p.2])])) Z := rfl
end
section
variable [TC : TabCtx] {X : Cx} {W : WX} {pos : Pos}
def gLst' (n : Nat) (t : DTGs) : DTG := fun d ρ st Q => match d with | .loc m => ∃ ds, st[m]? = some (.lst ds) ∧ ds.length = n ∧ t ds ρ st Q | _ => False
omit TC in
@[simp] theorem s_gLst {n m : Nat} {h : DTGs} {ρ : Env'} {st : Sto} {Qn : Env' → Sto → Prop} : gLst' n h (.loc m) ρ st Qn = ∃ ds, st[m]? = some (.lst ds) ∧ ds.length = n ∧ h ds ρ st Qn := rfl
end
end DL
namespace DL
open PySem L2 PySem.Spec
open PyProof.Rows hiding St
open PySem.W (kdl_call kdl_values kdl_vals_eq)
section
variable [TC : TabCtx] {X : Cx} {W : WX} {e : Expr} {te : DTE} {p apos cpos pos : Pos}
def dListVals (te : DTE) : DTE := fun ρ st Q Z => te ρ st (fun x st1 => ∃ n kvs, x = .loc n ∧ dkAt st1 n = some kvs ∧ Q (.loc st1.length) (st1 ++ [.lst (kvs.map (·.2))])) Z
omit TC in
@[simp] theorem s_listVals {ρ : Env'} {st : Sto} {Q : DK} {Z : DZ} : dListVals te ρ st Q Z = te ρ st (fun x st1 => ∃ n kvs, x = .loc n ∧ dkAt st1 n = some kvs ∧ Q (.loc st1.length) (st1 ++ [.lst (kvs.map (·.2))])) Z := rfl
end
end DL
namespace DL
open PySem L2 PySem.Spec
open PyProof.Rows hiding St
variable [TC : TabCtx]
section
variable {X : Cx} {W : WX} {a b c e tg : Expr} {ta tb tc te : DTE} {pos : Pos} {s : Stmt} {rest : List Stmt} {t u : DTS}
/-- the inner walk: K what follows it -/
def runI (g : DTG) (tt : DTT) (te : DTE) (ρ : Env') (G : Sto → Prop) (K : List D → Sto → Prop) : List D → List D → Sto → Prop
  | [], acc, st => G st ∧ K acc st
  | d :: ds, acc, st => G st ∧ g d ρ st fun ρ2 st2 => tt ρ2 st2 (fun b st3 => if b = true then te ρ2 st3 (fun y st4 => acc.length < sizeLine ∧ runI g tt te ρ G K ds (acc ++ [y]) st4) Z0 else runI g tt te ρ G K ds acc st3) Z0
def runC2 (g : DTG) (tt : DTT) (it1 : DTI) (g1 : DTG) (tt1 : DTT) (te : DTE) (ρ : Env') (vs1 : List Nat) (Q : DK) (G : Sto → Prop) : List D → List D → Sto → Prop
  | [], acc, st => G st ∧ Q (.loc st.length) (st ++ [.lst acc])
  | d :: ds, acc, st => G st ∧ g d ρ st fun ρ2 st2 => tt ρ2 st2 (fun b st3 => if b = true then it1 ρ2 st3 (fun items1 G1 st4 => runI g1 tt1 te (wipeD ρ2 vs1) G1 (fun acc' st5 => runC2 g tt it1 g1 tt1 te ρ vs1 Q G ds acc' st5) items1 acc st4) Z0 else runC2 g tt it1 g1 tt1 te ρ vs1 Q G ds acc st3) Z0
theorem ERep.mono0 {K : PySem.W.Frag} {H H' : Hp} {μ μ' : List Addr} {ρ : Env'} {σ : St} (h : ERep K H μ ρ σ) (x : Ext0 H H' μ μ') : ERep K H' μ' ρ σ := ⟨h.len, fun i d e => by
  obtain ⟨v, e1, r⟩ := h.at' i d e
  exact ⟨v, e1, r.mono0 x⟩⟩
def dLc2 (it : DTI) (g : DTG) (tt : DTT) (it1 : DTI) (g1 : DTG) (tt1 : DTT) (te : DTE) (own vs1 : List Nat) : DTE := fun ρ st Q Z => it ρ st (fun items G st1 => runC2 g tt it1 g1 tt1 te (wipeD ρ own) vs1 Q G items [] st1) Z
section
variable {ifs ifs1 : List Expr} {scope : Scope} {own : List (Str × Nat)} {it it1 : DTI} {g g1 : DTG} {ws ws1 vs1 : List Nat} {tt tt1 : DTT}
omit TC in
@[simp] theorem s_lc2 {own vs1 : List Nat} {ρ : Env'} {st : Sto} {Q : DK} {Z : DZ} : dLc2 it g tt it1 g1 tt1 te own vs1 ρ st Q Z = it ρ st (fun items G st1 => runC2 g tt it1 g1 tt1 te (wipeD ρ own) vs1 Q G items [] st1) Z := rfl
end
end
end DL
namespace DL
open PySem L2 PySem.Spec
open PyProof.Rows hiding St
def dLenK : DN := fun ds st Q => match ds with | [.loc n] => ∃ kvs, st[n]? = some (.dK kvs) ∧ Q (.int kvs.length) st | _ => False
@[simp] theorem s_lenK {n : Nat} {st : Sto} {Q : DK} : dLenK [.loc n] st Q = ∃ kvs, st[n]? = some (.dK kvs) ∧ Q (.int kvs.length) st := rfl
end DL
namespace DN
open PySem L2 PySem.Spec
open PyProof.Rows hiding St
def tDcN (K : PySem.W.Frag) (w : World) (wi : TI) (g : TG) (tt : TT) (tk tv : TE) (vs : List Nat) : TE := fun σ H Q => wi σ H fun J G => ∀ D, G D = none → ∃ W : Nat → Nat → Hp → Prop,
  (∀ G', (∀ c, c ≠ D → G' c = G c) → DNat K w G' D [] → ∃ m, W 0 m G') ∧ ∀ i m G1, W i m G1 →
    (J.stop i G1 ∧ Q (.ref D) G1) ∨ (J.go i G1 ∧ ∃ Nx : Hp → Prop, (∀ G2, Nx G2 → ∃ m', m' < m ∧ W (i + 1) m' G2) ∧ ∀ x G2, J.yld i G1 x G2 → g x (wipe σ vs) G2 fun σ3 G3 => wipe σ3 vs = wipe σ vs ∧ tt σ3 G3 fun yes G4 =>
      if yes = true then tk σ3 G4 fun y G5 => tv σ3 G5 fun z G6 => ∃ kvs k b, y = .ref b ∧ DNat K w G6 D kvs ∧ kvs.length < sizeLine ∧ (NKey K G6 k (.ref b) ∧ k.depth ≤ 8) ∧ ∀ G7, (∀ c, c ≠ D → G7 c = G6 c) → DNat K w G7 D (putK kvs k z) → Nx G7
      else Nx G4)
abbrev Blks (X : Cx) (scope : Scope) (F : Cx → Prop) : Prop := ∀ (s0 : Shared) (G0 : Hp) (C0 : Addr) (l0 : List (Str × Addr)) (f0 : List Addr), F (X.blk s0 G0 scope (compEnvC scope l0 C0 X.env) f0)
theorem empty_dn {X : Cx} {pins : List (Addr × Obj)} {σ : St} {G : Hp} {s : Shared} (I : Inv X pins σ G s) : Inv X pins σ (upd G s.heap.objs.size (RawN s.heap.objs.size [])) { s with heap := s.heap.push { cls := .type "dict", data := .dict #[] } } ∧ DNat X.K X.w (upd G s.heap.objs.size (RawN s.heap.objs.size [])) s.heap.objs.size [] := by
  have hat : (s.heap.push { cls := .type "dict", data := .dict #[] }).get? s.heap.objs.size = some { cls := .type "dict", data := .dict #[] } := Heap.get?_push_size _ rfl
  have hsys : (s.heap.objs.size == sysModules) = false := by
    have hb := I.big
    exact beq_eq_false_iff_ne.mpr fun z => by rw [z] at hb; exact Nat.lt_irrefl _ hb
  refine ⟨I.laid (t' := s.toks) (fun b o e => Heap.get?_push_of_some _ e) (Nat.le_refl _) ⟨⟨_, 0, hat, ⟨rfl, rfl, rfl⟩, rfl⟩, ⟨_, hat⟩, fun h1 h2 ⟨o, ep, f1, f2, f3⟩ st => ⟨o, ep, st o f1, f2, f3⟩⟩, [], _, .nil, hsys, by simp, by simp, upd_same⟩
section
variable {X : Cx} {pins : List (Addr × Obj)} {s : Shared} {σ : St} {H : Hp} {Q : VK} {kx vx tg iter : Expr} {ifs : List Expr} {scope : Scope} {own : List (Str × Nat)} {pos pos' : Pos} {wi : TI} {g : TG} {tt : TT} {tk tv : TE} {use : Option (Value → Sem Unit)} {Qf : Value → Shared → Prop}
theorem dcn_core (calm : X.calm = true) (nd : X.N.Nodup) (hu : X.A.units + 64 < cLine) (I : Inv X pins σ H s) (hi : PI X tg iter wi) (ok : BlkOk X.N X.env.scope scope own)
    (pg : Blks X scope fun Y => PG Y tg g) (pt : Blks X scope fun Y => PTs Y ifs tt) (pk : Blks X scope fun Y => PE Y kx tk) (pv : Blks X scope fun Y => PE Y vx tv) (fold : ∀ x, foldedSetIterable iter X.env x = pure x)
    (h : tDcN X.K X.w wi g tt tk tv (own.map (·.2)) σ H Q)
    (last : ∀ D C z m G, Inv X pins σ G z → Q (.ref D) G → z.heap.Ns C m → FpOk X pins G C → compPost (model X.prog X.w) X.A X.xe use Qf (.ref D) C (.ok .next) z) :
    wpAny (model X.prog X.w) X.A (comprehension (.DictComp kx vx [⟨tg, iter, ifs, 0⟩] scope pos) scope X.env pos' newDict false (eval iter X.env) use) Qf X.xe s := by
  have frees : ∀ y ∈ scope.names, y.2 = .free → ∃ c, X.env.cells.lookup y.1 = some c := fun y hy e => (ok.free y hy e).elim (fun k => I.ok.has _ (.inl k)) fun k => I.ok.has _ (.inr k)
  refine wpAny_comprehension_free (use := use) rfl fold (closure_ok frees) ok.kind (fun y hy e => by rw [ok.uniq y hy, e]) (thn (hi.run pins s σ H _ I h) fun src z1 hsrc => thn hsrc fun itr z2 hz2 => ?_)
  obtain ⟨it, fp, tn, J, G2, rfl, I2, T, at0, ofp, q⟩ := hz2
  refine wpAny_newObj_type (newEnv_comp ?_)
  obtain ⟨W, w0, turn⟩ := q z2.heap.objs.size (I2.hok.fresh (Nat.le_refl _))
  obtain ⟨I3, D0⟩ := empty_dn I2
  obtain ⟨m0, w0⟩ := w0 _ (fun c hc => upd_ne hc) D0
  generalize hz3 : ({ z2 with heap := z2.heap.push { cls := .type "dict", data := .dict #[] } } : Shared) = z3 at I3
  have h3 : z3.heap = z2.heap.push { cls := .type "dict", data := .dict #[] } := by rw [← hz3]
  have below : ∀ b ∈ fp, b < z2.heap.objs.size := fun b hb => let ⟨o, e, _⟩ := T.obj _ _ at0 b hb; Heap.lt_size e
  have fps : ∀ b ∈ fp, FpOk X pins (upd G2 z2.heap.objs.size (RawN z2.heap.objs.size [])) b ∧ b < z3.heap.objs.size := fun b hb =>
    ⟨⟨by rw [upd_ne (Nat.ne_of_lt (below b hb))]; exact (ofp b hb).1, (ofp b hb).2⟩, by rw [h3, Heap.size_push]; exact Nat.lt_succ_of_lt (below b hb)⟩
  have at3 : tn 0 z3.heap := T.keep _ _ _ at0 fun b _ o e => by rw [h3]; exact Heap.get?_push_of_some _ e
  generalize hD : z2.heap.objs.size = D at *
  have I4 := block_start I3 ok nd fps
  show codeAny _ _ (.compStart (.DictComp kx vx [⟨tg, iter, ifs, 0⟩] scope pos) 0 (.ref it) (.ref D) (compEnvC scope (cellsFrom (z3.heap.objs.size + 1) scope.names (cloFrom X.env.cells scope.names [])) z3.heap.objs.size X.env)) (compPost (model X.prog X.w) X.A X.xe use Qf (.ref D) z3.heap.objs.size) _
  have none3 : ∀ b ∈ fp, (upd G2 D (RawN D [])) b = none := fun b hb => (fps b hb).1.1
  have Pg := pg z3 (upd G2 D (RawN D [])) z3.heap.objs.size (cellsFrom (z3.heap.objs.size + 1) scope.names (cloFrom X.env.cells scope.names [])) fp
  have Pt := pt z3 (upd G2 D (RawN D [])) z3.heap.objs.size (cellsFrom (z3.heap.objs.size + 1) scope.names (cloFrom X.env.cells scope.names [])) fp
  have Pk := pk z3 (upd G2 D (RawN D [])) z3.heap.objs.size (cellsFrom (z3.heap.objs.size + 1) scope.names (cloFrom X.env.cells scope.names [])) fp
  have Pv := pv z3 (upd G2 D (RawN D [])) z3.heap.objs.size (cellsFrom (z3.heap.objs.size + 1) scope.names (cloFrom X.env.cells scope.names [])) fp
  generalize hce : compEnvC scope (cellsFrom (z3.heap.objs.size + 1) scope.names (cloFrom X.env.cells scope.names [])) z3.heap.objs.size X.env = ce at I4 Pg Pt Pk Pv ⊢
  have locs : ce.locals = z3.heap.objs.size := by rw [← hce]; rfl
  generalize upd G2 D (RawN D []) = G3 at I3 I4 Pg Pt Pk Pv w0 none3 fps
  generalize hz4 : ({ z3 with heap := pushCells (z3.heap.push { cls := .type "dict", data := .dict #[] }) scope.names } : Shared) = z4 at I4 ⊢
  have at4 : tn 0 z4.heap := T.keep _ _ _ at3 fun b _ o e => by rw [← hz4]; exact pushCells_keeps _ _ _ _ (Heap.get?_push_of_some _ e)
  have pin4 : ∀ {τ : St} {G : Hp} {z : Shared}, Inv (X.blk z3 G3 scope ce fp) [] τ G z → (∀ b ∈ fp, G b = none) → ∀ b ∈ fp, FpOk (X.blk z3 G3 scope ce fp) [] G b := fun {τ G z} Iz hn b hb =>
    ⟨hn b hb, (Iz.ok.exf b hb).1, Iz.ok.exfs b hb, .inl hb, fun x c e => (Iz.ok.exf b hb).2 x c e, fun p hp => absurd (show p ∈ ([] : List (Addr × Obj)) ++ [] from hp) (by simp)⟩
  have loop : codeAny (model X.prog X.w) X.A (.compLoop (.DictComp kx vx [⟨tg, iter, ifs, 0⟩] scope pos) 0 (.ref it) (.ref D) ce) (compPost (model X.prog X.w) X.A X.xe use Qf (.ref D) z3.heap.objs.size) z4 := by
    refine compLoop_anyD (fun m z => ∃ i G, Inv (X.blk z3 G3 scope ce fp) [] (wipe σ (own.map (·.2))) G z ∧ tn i z.heap ∧ (∀ b ∈ fp, G b = none) ∧ W i m G) ?_ m0 ⟨0, G3, I4, at4, none3, w0⟩
    rintro m z5 ⟨i, G5, I5, at5, none5, w5⟩
    cases turn i m G5 w5 with
    | inl fin =>
      refine thnF (T.done (X.blk z3 G3 scope ce fp) rfl rfl rfl calm i [] z5 _ G5 (fun _ _ => False) I5 (pin4 I5 none5) at5 fin.1) fun r z6 ⟨hr, I6⟩ => ?_
      subst hr
      have back : Inv X pins σ G5 z6 := I3.call' (ch := fp) I6.os I6.base I6.hok I6.bare fun b hb => let f := (fps b hb).1; ⟨f.2.2.2.1, f.2.1, f.2.2.2.2.1, f.2.2.2.2.2⟩
      have noL : G5 z3.heap.objs.size = none := locs ▸ (show G5 ce.locals = none from I6.free)
      obtain ⟨ns, hns, _⟩ := I6.loc
      exact last D z3.heap.objs.size z6 ns G5 back fin.2 (locs ▸ (show z6.heap.Ns ce.locals ns from hns)) (I3.fpOk (Nat.le_refl _) noL)
    | inr go =>
      obtain ⟨hgo, Nx, dec, step⟩ := go
      refine thnF (T.item (X.blk z3 G3 scope ce fp) rfl rfl rfl calm i [] z5 _ G5 (fun _ _ => False) I5 (pin4 I5 none5) at5 hgo) fun r z6 ⟨u, hr, hz6⟩ => ?_
      subst hr
      refine thnF hz6 fun _ z7 ⟨x, G7, I7, ru, hy, at7, none7⟩ => ?_
      refine thnF (Pg.run _ z7 _ G7 x u _ (I7.pinned (pin4 I7 none7) (T.obj _ _ at7)) ru (step x G7 hy)) fun _ z8 ⟨σ8, G8, I8, same, q8⟩ => ?_
      refine thnF (Pt.run _ z8 σ8 G8 _ I8 q8) fun yes z9 ⟨G9, I9, q9⟩ => ?_
      have close : ∀ {z : Shared} {G : Hp}, Inv (X.blk z3 G3 scope ce fp) ([] ++ pinsAt fp z7.heap) σ8 G z → Nx G → ∃ k, k < m ∧ ∃ i G, Inv (X.blk z3 G3 scope ce fp) [] (wipe σ (own.map (·.2))) G z ∧ tn i z.heap ∧ (∀ b ∈ fp, G b = none) ∧ W i k G := by
        intro z G Iz nx
        obtain ⟨k, hk, wk⟩ := dec G nx
        have still : ∀ b ∈ fp, ∀ o, z7.heap.get? b = some o → z.heap.get? b = some o ∧ G b = none := fun b hb o e => let p := Iz.pin (b, o) (List.mem_append_right _ (List.mem_append_right _ (mem_pinsAt hb e))); ⟨p.1, p.2.1⟩
        refine ⟨k, hk, i + 1, G, (Iz.unpinned (pins := [])).weak (by rw [← same, wipe_length]) fun j v e => ?_, T.keep _ _ _ at7 fun b hb o e => (still b hb o e).1, fun b hb => let ⟨o, e, _⟩ := T.obj _ _ at7 b hb; (still b hb o e).2, wk⟩
        rw [← same] at e
        exact (wipe_some e).1
      cases yes with
      | false => exact close I9 q9
      | true =>
        simp only [if_true] at q9 ⊢
        refine thnF (Pk.run _ z9 σ8 G9 _ I9 q9) fun kv zA ⟨y, GA, IA, ry, qA⟩ => ?_
        refine thnF (Pv.run _ zA σ8 GA _ IA qA) fun vv zB ⟨v, GB, IB, rv, kvs, k, b, ey, DB, hl, hb, nx⟩ => ?_
        subst ey
        obtain rfl : kv = Value.ref b := ry
        exact n_dictSet (X := X.blk z3 G3 scope ce fp) (A := X.A) hu IB DB hl hb rv fun GC zC off DC IC => close IC (nx GC off DC)
  exact codeAny_compStart_dict loop (T.self X.A 0 _ _ _ at4 loop)
theorem pe_dcn (calm : X.calm = true) (nd : X.N.Nodup) (hu : X.A.units + 64 < cLine) (hi : PI X tg iter wi) (ok : BlkOk X.N X.env.scope scope own)
    (pg : Blks X scope fun Y => PG Y tg g) (pt : Blks X scope fun Y => PTs Y ifs tt) (pk : Blks X scope fun Y => PE Y kx tk) (pv : Blks X scope fun Y => PE Y vx tv) (fold : ∀ x, foldedSetIterable iter X.env x = pure x := by intro _; rfl) :
    PE X (.DictComp kx vx [⟨tg, iter, ifs, 0⟩] scope pos) (tDcN X.K X.w wi g tt tk tv (own.map (·.2))) := by
  refine ⟨fun pins s σ H Q I h => ?_⟩
  rw [arm_eval_DictComp]
  exact dcn_core calm nd hu I hi ok pg pt pk pv fold h fun D C z m G Iz qz hz f => ⟨m, hz, fun _ same => ⟨.ref D, G, Iz.turned (t' := z.toks) (fun b o hb e => (same.2 b hb).trans e) f.1 f.2.1 f.2.2.2.1 f.2.2.2.2.1 f.2.2.2.2.2, rfl, qz⟩⟩
end
end DN
namespace DN
open PySem L2 PySem.Spec
open PyProof.Rows hiding St
section
variable {X : Cx} {o i e f value : Expr} {pos apos cpos : Pos} {td ty tx tv : TE} {pins : List (Addr × Obj)} {σ : St} {H : Hp} {s : Shared}
theorem DNat.type {a : Addr} {kvs : List (NestedKey × V)} (I : Inv X pins σ H s) (D : DNat X.K X.w H a kvs) : s.TypeIs (.ref a) "dict" := by
  obtain ⟨_, _, _, _, dd⟩ := nd_of I D
  exact dd.typeIs
theorem tabs_off {T : List (Addr × Str)} {H G : Hp} {D : Addr} (h : LamX.Tabs T H) (off : ∀ c, c ≠ D → G c = H c) (hD : H D = none ∨ ∃ a es, H D = some (RawN a es)) : LamX.Tabs T G := fun q hq => by
  obtain ⟨ps, h1, h2, h3⟩ := h q hq
  refine ⟨ps, ?_, h2, fun pos cv hc => ?_⟩
  · rw [off _ fun e => ?_]
    · exact h1
    · rw [e] at h1
      rcases hD with z | ⟨a, es, z⟩
      · rw [z] at h1; cases h1
      · rw [z] at h1
        have h1' : HO.ext _ = HO.tbl ps := Option.some.inj h1
        cases h1'
  · obtain ⟨c, e1, e2⟩ := h3 pos cv hc
    refine ⟨c, e1, ?_⟩
    rw [off _ fun e => ?_]
    · exact e2
    · rw [e] at e2
      rcases hD with z | ⟨a, es, z⟩
      · rw [z] at e2; cases e2
      · rw [z] at e2
        exact raw_code (Option.some.inj e2)
end
end DN
namespace DL
open PySem L2 PySem.Spec
open PyProof.Rows hiding St
open DN (NKey NKeys NT RawN entN DNat)
mutual
def keyN : D → Option NestedKey
  | .non => some .none
  | .int i => some (.num i)
  | .str x => some (.text x)
  | .tup ds => (keysN ds).map .tup
  | _ => none
def keysN : List D → Option (List NestedKey)
  | [] => some []
  | d :: ds => match keyN d, keysN ds with
    | some k, some ks => some (k :: ks)
    | _, _ => none
end
/-- a tuple that is a key -/
def keyT (d : D) (k : NestedKey) : Prop := (∃ ds, d = .tup ds) ∧ keyN d = some k ∧ k.depth ≤ 8
section
variable {K : PySem.W.Frag} {H : Hp} {μ : List Addr}
mutual
theorem key_nk : ∀ (d : D) (k : NestedKey) (v : V), keyN d = some k → Rep K H μ d v → NKey K H k v
  | .non, k, v, h, r => by cases h; exact r
  | .int i, k, v, h, r => by cases h; exact r
  | .str x, k, v, h, r => by cases h; exact r
  | .tup ds, k, v, h, r => by
    simp only [keyN, Option.map_eq_some_iff] at h
    obtain ⟨ks, h1, rfl⟩ := h
    obtain ⟨a, vs, e, hs, hr⟩ := r
    exact ⟨a, vs, e, hs, keys_nk ds ks vs h1 hr⟩
  | .bl _, _, _, h, _ => by cases h
  | .fls _, _, _, h, _ => by cases h
  | .loc _, _, _, h, _ => by cases h
  | .adr _, _, _, h, _ => by cases h
  | .ty _, _, _, h, _ => by cases h
theorem keys_nk : ∀ (ds : List D) (ks : List NestedKey) (vs : List V), keysN ds = some ks → Reps K H μ ds vs → NKeys K H ks vs
  | [], ks, vs, h, r => by cases h; exact r
  | d :: ds, ks, vs, h, r => by
    simp only [keysN] at h
    split at h
    · rename_i k ks' e1 e2
      cases h
      obtain ⟨v, w, e, r1, r2⟩ := r
      exact ⟨v, w, e, key_nk d k v e1 r1, keys_nk ds ks' w e2 r2⟩
    · cases h
end
end
def putN (kvs : List (NestedKey × D)) (k : NestedKey) (v : D) : List (NestedKey × D) :=
  if (kvs.any fun kv => decide (kv.1 = k)) = true then kvs.map (fun kv => if kv.1 = k then (kv.1, v) else kv) else kvs ++ [(k, v)]
/-- values told -/
def OKn (K : PySem.W.Frag) (H : Hp) (μ : List Addr) (fs : List (NestedKey × D)) (gs : List (NestedKey × V)) : Prop := fs.map (·.1) = gs.map (·.1) ∧ Reps K H μ (fs.map (·.2)) (gs.map (·.2))
section
variable {K : PySem.W.Frag} {H : Hp} {μ : List Addr}
theorem okn_cons {p : NestedKey × D} {kvs : List (NestedKey × D)} {gs : List (NestedKey × V)} (h : OKn K H μ (p :: kvs) gs) : ∃ v gs', gs = (p.1, v) :: gs' ∧ Rep K H μ p.2 v ∧ OKn K H μ kvs gs' := by
  obtain ⟨h1, v, r, h2, r1, r2⟩ := h
  cases gs with
  | nil => simp at h1
  | cons g gs =>
    obtain ⟨k, u⟩ := g
    simp only [List.map_cons, List.cons.injEq] at h1 h2
    exact ⟨u, gs, by rw [← h1.1], by rw [h2.1]; exact r1, h1.2, by rw [h2.2]; exact r2⟩
theorem okn_nil {gs : List (NestedKey × V)} (h : OKn K H μ [] gs) : gs = [] := by
  have := h.1
  simpa using this.symm
theorem okn_mk {p : NestedKey × D} {kvs : List (NestedKey × D)} {gs : List (NestedKey × V)} {v : V} (r : Rep K H μ p.2 v) (h : OKn K H μ kvs gs) : OKn K H μ (p :: kvs) ((p.1, v) :: gs) := ⟨by simp [h.1], v, gs.map (·.2), rfl, r, h.2⟩
theorem okn_len {kvs : List (NestedKey × D)} {gs : List (NestedKey × V)} (h : OKn K H μ kvs gs) : kvs.length = gs.length := by
  have := congrArg List.length h.1
  simpa using this
theorem okn_any {k : NestedKey} : ∀ {kvs : List (NestedKey × D)} {gs : List (NestedKey × V)}, OKn K H μ kvs gs → (kvs.any fun kv => decide (kv.1 = k)) = gs.any fun kv => decide (kv.1 = k)
  | [], gs, h => by rw [okn_nil h]; rfl
  | p :: kvs, gs, h => by
    obtain ⟨v, gs', rfl, r, h'⟩ := okn_cons h
    simp only [List.any_cons, okn_any (k := k) h']
theorem okn_upd {k : NestedKey} {d : D} {v : V} (r : Rep K H μ d v) : ∀ {kvs : List (NestedKey × D)} {gs : List (NestedKey × V)}, OKn K H μ kvs gs → OKn K H μ (kvs.map fun kv => if kv.1 = k then (kv.1, d) else kv) (gs.map fun kv => if kv.1 = k then (kv.1, v) else kv)
  | [], gs, h => by rw [okn_nil h]; exact ⟨rfl, rfl⟩
  | p :: kvs, gs, h => by
    obtain ⟨u, gs', rfl, ru, h'⟩ := okn_cons h
    have ih := okn_upd (k := k) r h'
    simp only [List.map_cons]
    by_cases e : p.1 = k
    · rw [if_pos e, if_pos e]
      exact okn_mk (p := (p.1, d)) r ih
    · rw [if_neg e, if_neg e]
      exact okn_mk ru ih
theorem okn_put {k : NestedKey} {d : D} {v : V} (r : Rep K H μ d v) {kvs : List (NestedKey × D)} {gs : List (NestedKey × V)} (h : OKn K H μ kvs gs) : OKn K H μ (putN kvs k d) (putK gs k v) := by
  unfold putN putK
  rw [okn_any h]
  split
  · exact okn_upd r h
  · refine ⟨by simp [h.1], ?_⟩
    simp only [List.map_append]
    exact h.2.append (Reps.one r)
theorem OKn.mono0 {H' : Hp} {μ' : List Addr} {kvs : List (NestedKey × D)} {gs : List (NestedKey × V)} (h : OKn K H μ kvs gs) (x : Ext0 H H' μ μ') : OKn K H' μ' kvs gs := ⟨h.1, h.2.mono0 x⟩
end
section
variable [TC : TabCtx] {K : PySem.W.Frag} {H : Hp} {μ : List Addr} {st : Sto}
theorem DNat.mono0 {w : World} {a : Addr} {gs : List (NestedKey × V)} {H' : Hp} {μ' : List Addr} (d : DNat K w H a gs) (x : Ext0 H H' μ μ') (h : ∀ o, H a = some o → H' a = some o) : DNat K w H' a gs := by
  obtain ⟨xs, c, r1, r2, r3, r4, e⟩ := d
  exact ⟨xs, c, r1.keeps fun _ _ q => x.sqT q, r2, r3, r4, h _ e⟩
theorem DNat.ext {w : World} {a : Addr} {gs : List (NestedKey × V)} {H' : Hp} {μ' : List Addr} (d : DNat K w H a gs) (x : Ext H H' μ μ') (hm : a ∉ μ) : DNat K w H' a gs ∧ a ∉ μ' := by
  obtain ⟨xs, c, r1, r2, r3, r4, e⟩ := d
  have ne : ∀ ps, RawN c (xs.map (entN w)) ≠ .tbl ps := fun ps z => by
    have z' : HO.ext _ = HO.tbl ps := z
    cases z'
  refine ⟨⟨xs, c, r1.keeps fun _ _ q => x.sqT q, r2, r3, r4, x.fra a _ e hm ne⟩, fun z => ?_⟩
  rcases x.new a z with q | q
  · exact hm q
  · obtain ⟨ps, q⟩ := q _ e
    exact ne ps q
/-- nothing but such a dict is written -/
abbrev Off (D : Addr) (G G' : Hp) : Prop := ∀ c, c ≠ D → G' c = G c
theorem Ext.offN {H0 H G : Hp} {μ0 μ : List Addr} {D : Addr} (x : Ext H0 H μ0 μ) (h0 : H0 D = none) (off : Off D H G) : Ext H0 G μ0 μ where
  pre := x.pre
  tup a zs q := by rw [off _ (ne_of_none q h0)]; exact x.tup a zs q
  frz a o zs q := by rw [off _ (ne_of_none q h0)]; exact x.frz a o zs q
  fra a o q hn hp := by rw [off _ (ne_of_none q h0)]; exact x.fra a o q hn hp
  new := x.new
theorem DNat.raw {w : World} {a : Addr} {gs : List (NestedKey × V)} (d : DNat K w H a gs) : H a = none ∨ ∃ c es, H a = some (RawN c es) := by
  obtain ⟨xs, c, _, _, _, _, e⟩ := d
  exact .inr ⟨c, _, e⟩
theorem Ext0.offN {H G : Hp} {μ : List Addr} {D : Addr} (hD : H D = none ∨ ∃ c es, H D = some (RawN c es)) (off : Off D H G) : Ext0 H G μ μ := by
  have ne : ∀ a o, H a = some o → (∀ c es, o ≠ RawN c es) → a ≠ D := fun a o q h z => by
    rw [z] at q
    rcases hD with e | ⟨c, es, e⟩
    · rw [e] at q; cases q
    · rw [e] at q; exact h c es (Option.some.inj q).symm
  refine ⟨fun _ _ q => q, fun a zs q => ?_, fun a o zs q => ?_⟩
  · rw [off _ (ne a _ q fun c es z => by have z' : HO.tup _ = HO.ext _ := z; cases z')]; exact q
  · rw [off _ (ne a _ q fun c es z => by have z' : HO.frz _ _ = HO.ext _ := z; cases z')]; exact q
theorem SRep.offN {G : Hp} {D : Addr} (s : SRep K st μ H) (hm : D ∉ μ) (hD : H D = none ∨ ∃ c es, H D = some (RawN c es)) (off : Off D H G) : SRep K st μ G := by
  refine ⟨s.len, s.nd, fun n b e => ?_, DN.tabs_off s.tab off hD, fun q hq => ?_⟩
  · obtain ⟨a, o, e1, e2, r⟩ := s.at' n b e
    have hne : a ≠ D := fun z => hm (z ▸ List.mem_of_getElem? e1)
    exact ⟨a, o, e1, by rw [off _ hne]; exact e2, r.mono0 (Ext0.offN hD off)⟩
  · obtain ⟨hn, gs, e, r1, r2⟩ := s.exc q hq
    refine ⟨hn, gs, ?_, r1, r2.mono0 (Ext0.offN hD off)⟩
    rw [off _ fun z => ?_]
    · exact e
    · rw [z] at e
      rcases hD with q | ⟨c, es, q⟩
      · rw [q] at e; cases e
      · rw [q] at e
        have e' : HO.ext _ = HO.xd gs := Option.some.inj e
        cases e'
end
end DL
namespace DL
open PySem L2 PySem.Spec
open PyProof.Rows hiding St
open DN (NKey NKeys NT RawN entN DNat tDcN)
variable [TC : TabCtx] [EC : ErrCtx]
def runD (g : DTG) (tt : DTT) (tk tv : DTE) (ρ : Env') (Q : List (NestedKey × D) → Sto → Prop) (G : Sto → Prop) : List D → List (NestedKey × D) → Sto → Prop
  | [], acc, st => G st ∧ Q acc st
  | d :: ds, acc, st => G st ∧ g d ρ st fun ρ2 st2 => tt ρ2 st2 (fun b st3 => if b = true then tk ρ2 st3 (fun y st4 => tv ρ2 st4 (fun z st5 => ∃ k, keyT y k ∧ acc.length < sizeLine ∧ runD g tt tk tv ρ Q G ds (putN acc k z) st5) Z0) Z0 else runD g tt tk tv ρ Q G ds acc st3) Z0
def dDcN (it : DTI) (g : DTG) (tt : DTT) (tk tv : DTE) (own : List Nat) : DTE := fun ρ st Q Z => it ρ st (fun items G st1 => runD g tt tk tv (wipeD ρ own) (fun acc st' => Q (.loc st'.length) (st' ++ [.dN EC.wd acc])) G items [] st1) Z
theorem dcn_ex {g : DTG} {tt : DTT} {tk tv : DTE} {Q : List (NestedKey × D) → Sto → Prop} {G : Sto → Prop} {items : List D} {ρ : Env'} {st : Sto} (h : runD g tt tk tv ρ Q G items [] st) : ∃ I : Nat → List (NestedKey × D) → Sto → Prop, I 0 [] st ∧ (∀ i acc st, i ≤ items.length → I i acc st → G st) ∧
    (∀ i d acc st, items[i]? = some d → I i acc st → g d ρ st fun ρ2 st2 => tt ρ2 st2 (fun b st3 => if b = true then tk ρ2 st3 (fun y st4 => tv ρ2 st4 (fun z st5 => ∃ k, keyT y k ∧ acc.length < sizeLine ∧ I (i + 1) (putN acc k z) st5) Z0) Z0 else I (i + 1) acc st3) Z0) ∧
    ∀ acc st, I items.length acc st → Q acc st := by
  refine ⟨fun i => runD g tt tk tv ρ Q G (items.drop i), h, fun i acc st _ hi => ?_, fun i d acc st hd hi => ?_, fun acc st hi => ?_⟩
  · dsimp only at hi
    cases e : items.drop i <;> (rw [e] at hi; exact hi.1)
  · dsimp only at hi
    rw [drop_at hd] at hi
    exact hi.2
  · dsimp only at hi
    rw [List.drop_length] at hi
    exact hi.2
theorem keyT_at {K : PySem.W.Frag} {H : Hp} {μ : List Addr} {d : D} {k : NestedKey} {v : V} (h : keyT d k) (r : Rep K H μ d v) : ∃ b, v = .ref b ∧ NKey K H k (.ref b) ∧ k.depth ≤ 8 := by
  obtain ⟨⟨ds, rfl⟩, h2, h3⟩ := h
  have q := key_nk _ k v h2 r
  obtain ⟨b, vs, rfl, _⟩ := r
  exact ⟨b, rfl, q, h3⟩
section
variable {X : Cx} {W : WX} {a b c e tg kx vx : Expr} {ta tb tc te tk tv : DTE} {pos : Pos} {s : Stmt} {rest : List Stmt} {t u : DTS}
variable {ifs : List Expr} {scope : Scope} {own : List (Str × Nat)} {it : DTI} {g : DTG} {ws : List Nat} {tt : DTT}
theorem dcn_lift {K : PySem.W.Frag} (hw : ∀ w ∈ ws, w ∈ own.map (·.2)) (σ : St) (H : Hp) (Q : VK) (h : liftE K W (dDcN it g tt tk tv (own.map (·.2))) σ H Q) :
    tDcN K EC.wd (liftI K W it) (liftG K ws g) (liftT K W0 tt) (liftE K W0 tk) (liftE K W0 tv) (own.map (·.2)) σ H Q := by
  obtain ⟨ρ, st, μ, Qd, Z, hS, ht, hQ, hZ⟩ := h
  refine ⟨ρ, st, μ, _, Z, hS, ht, hZ, fun items G st1 H1 μ1 J hx e1 s1 hJ D hD => ?_⟩
  obtain ⟨I, h0, hG, hstep, hend⟩ := dcn_ex hx
  refine ⟨fun i m H' => m = items.length - i ∧ i ≤ items.length ∧ ∃ acc gs st' μ', I i acc st' ∧ Ext H1 H' μ1 μ' ∧ SRep K st' μ' H' ∧ OKn K H' μ' acc gs ∧ DNat K EC.wd H' D gs ∧ D ∉ μ',
    fun G' off d0 => ⟨_, rfl, Nat.zero_le _, [], [], st1, μ1, h0, (Ext.refl H1 μ1).offN hD off, s1.offN (s1.not_mem hD) (.inl hD) off, ⟨rfl, rfl⟩, d0, s1.not_mem hD⟩, ?_⟩
  rintro i m H' ⟨rfl, hil, acc, gs, st', μ', hI, e2, s2, r2, d2, n2⟩
  by_cases hlt : i < items.length
  · have hd : items[i]? = some items[i] := List.getElem?_eq_getElem hlt
    obtain ⟨hgo, hy⟩ := hJ.go i H' μ' st' _ e2.toExt0 s2 (hG i acc st' hil hI) hd
    refine .inr ⟨hgo, fun H3 => ∃ acc gs st' μ', I (i + 1) acc st' ∧ Ext H1 H3 μ1 μ' ∧ SRep K st' μ' H3 ∧ OKn K H3 μ' acc gs ∧ DNat K EC.wd H3 D gs ∧ D ∉ μ', fun H3 q => ⟨_, by omega, rfl, hlt, q⟩, fun x H3 hx => ?_⟩
    obtain ⟨e3, s3, r3, _⟩ := hy x H3 hx
    obtain ⟨d3, n3⟩ := DNat.ext d2 e3 n2
    refine ⟨_, wipeD ρ (own.map (·.2)), st', μ', _, ⟨(hS.e.mono ((e1.trans e2).trans e3)).wipe _, s3⟩, r3, hstep i _ acc st' hd hI, fun ρ4 st4 σ4 H4 μ4 q e4 s4 hw4 => ?_⟩
    obtain ⟨d4, n4⟩ := DNat.ext d3 e4 n3
    refine ⟨(hw4 _ hw).trans (wipe_idem _ _), ρ4, st4, μ4, _, Z0, s4, q, fun k st5 H5 μ5 q5 e5 s5 => ?_, ZOk.no⟩
    obtain ⟨d5, n5⟩ := DNat.ext d4 e5 n4
    cases k with
    | true =>
      refine iteT ⟨ρ4, st5, μ5, _, Z0, s4.mono e5 s5, q5, fun y st6 H6 μ6 v q6 e6 s6 r6 => ⟨ρ4, st6, μ6, _, Z0, (s4.mono e5 s5).mono e6 s6, q6, fun z st7 H7 μ7 u q7 e7 s7 r7 => ?_, ZOk.no⟩, ZOk.no⟩
      obtain ⟨d6, n6⟩ := DNat.ext d5 e6 n5
      obtain ⟨d7, n7⟩ := DNat.ext d6 e7 n6
      have ex : Ext H' H7 μ' μ7 := (((e3.trans e4).trans e5).trans e6).trans e7
      have ra : OKn K H7 μ7 acc gs := r2.mono0 ex.toExt0
      obtain ⟨kk, hk, hl, hI'⟩ := q7
      obtain ⟨b, ev, hb, hdp⟩ := keyT_at hk (r6.mono e7)
      refine ⟨gs, kk, b, ev, d7, by rw [← okn_len r2]; exact hl, ⟨hb, hdp⟩, fun G7 off dn => ⟨putN acc kk z, putK gs kk u, st7, μ7, hI', (e2.trans ex).offN hD off, s7.offN n7 (DNat.raw d7) off, (okn_put r7 ra).mono0 (Ext0.offN (DNat.raw d7) off), dn, n7⟩⟩
    | false =>
      have ex : Ext H' H5 μ' μ5 := (e3.trans e4).trans e5
      exact iteF ⟨acc, gs, st5, μ5, q5, e2.trans ex, s5, r2.mono0 ex.toExt0, d5, n5⟩
  · have he : i = items.length := by omega
    subst he
    refine .inl ⟨hJ.stop H' μ' st' e2.toExt0 s2 (hG _ acc st' hil hI), ?_⟩
    obtain ⟨xs, c, q1, q2, q3, q4, qe⟩ := d2
    refine hQ _ _ _ _ _ (hend _ _ hI) (e1.trans ⟨⟨fun n a q => ?_, e2.tup, e2.frz⟩, e2.fra, fun a q => ?_⟩) (s2.adopt n2 qe ⟨c, xs, gs, rfl, q1, q2, q3, q4, r2.1, r2.2⟩) ⟨D, rfl, by rw [s2.len]; exact getElem?_end _ _⟩
    · have := e2.pre n a q
      rw [List.getElem?_append_left (List.getElem?_eq_some_iff.mp this).1]; exact this
    · rcases List.mem_append.mp q with q | q
      · exact e2.new a q
      · rw [List.mem_singleton.mp q]; exact .inr fun o q => by rw [hD] at q; cases q
theorem de_dcn (hW : EC.wd = X.w) (hc : X.calm = true) (hN : X.N.Nodup) (hu : X.A.units + 64 < cLine) (hi : DI X W tg e it) (ok : BlkOk X.N X.env.scope scope own) (hw : ∀ w ∈ ws, w ∈ own.map (·.2))
    (hg : ∀ (s : Shared) (H : Hp) (C : Addr) (cl : List (Str × Addr)) (fp : List Addr), DG (X.blk s H scope (compEnvC scope cl C X.env) fp) ws tg g) (ht : ∀ (s : Shared) (H : Hp) (C : Addr) (cl : List (Str × Addr)) (fp : List Addr), PTs (X.blk s H scope (compEnvC scope cl C X.env) fp) ifs (liftT X.K W0 tt))
    (hk : ∀ (s : Shared) (H : Hp) (C : Addr) (cl : List (Str × Addr)) (fp : List Addr), DE (X.blk s H scope (compEnvC scope cl C X.env) fp) W0 kx tk) (hv : ∀ (s : Shared) (H : Hp) (C : Addr) (cl : List (Str × Addr)) (fp : List Addr), DE (X.blk s H scope (compEnvC scope cl C X.env) fp) W0 vx tv) (hs : ∀ x, foldedSetIterable e X.env x = pure x := by intro _; rfl) :
    DE X W (.DictComp kx vx [⟨tg, e, ifs, 0⟩] scope pos) (dDcN it g tt tk tv (own.map (·.2))) := pe_weak (DN.pe_dcn hc hN hu hi ok (fun s H C cl fp => hg s H C cl fp) (fun s H C cl fp => ht s H C cl fp) (fun s H C cl fp => hk s H C cl fp) (fun s H C cl fp => hv s H C cl fp) hs) fun σ H Q h => by rw [← hW]; exact dcn_lift hw σ H Q h
omit TC in
@[simp] theorem s_dcn {own : List Nat} {ρ : Env'} {st : Sto} {Q : DK} {Z : DZ} : dDcN it g tt tk tv own ρ st Q Z = it ρ st (fun items G st1 => runD g tt tk tv (wipeD ρ own) (fun acc st' => Q (.loc st'.length) (st' ++ [.dN EC.wd acc])) G items [] st1) Z := rfl
end
end DL
namespace RD
open PySem L2 PySem.Spec DL
open PyProof.Rows hiding St
abbrev N_wrong_entry_k00n : List Str := ["entries", "at", "entry"]
def b_wrong_entry_k00n_1 (s_is_tuple_within : DSp) : DTS := dNever
def t_wrong_entry_k00n (s_is_tuple_within : DSp) : DTS := (dSeq (dIfS (dNot (dTru (dCall 2 s_is_tuple_within (dCons (dC (.int 200)) (dCons (dVar 0) dNil))))) (dRet (dUn dNegV (dC (.int 1)))) dNext)
    (dSeq (dFor (iEn (dCons (dVar 0) dNil)) (gTup' 2 (gCons' (gN 1) (gCons' (gN 2) gNil'))) (b_wrong_entry_k00n_1 s_is_tuple_within))
    (dRet (dC (.non)))))
abbrev N__law_is_k00n : List Str := ["told", "due", "k", "key"]
def e__law_is_k00n_1 (s__law_is : DSp) : DTE := (dCall 2 s__law_is (dCons (dOp dIx (dVar 0) (dVar 2)) (dCons (dOp dIx (dVar 1) (dVar 2)) dNil)))
def e__law_is_k00n_2 (s__law_is : DSp) : DTE := (dCall 2 s__law_is (dCons (dDGetF (dVar 0) (dVar 3)) (dCons (dDGetF (dVar 1) (dVar 3)) dNil)))
def t__law_is_k00n (s__law_is : DSp) : DTS := (dSeq (dIfS (dTru (dIsi (dVar 1) ["tuple", "list"])) (dSeq (dIfS (dOr (dTest (dOp dNe (dIsi (dVar 0) ["tuple"]) (dIsi (dVar 1) ["tuple"]))) (dTest (dOp dNe (dIsi (dVar 0) ["list"]) (dIsi (dVar 1) ["list"])))) (dRet (dC (.bl false))) dNext)
    (dRet (dAndV (dOp dEq (dCB dLen (dCons (dVar 0) dNil)) (dCB dLen (dCons (dVar 1) dNil))) (dCB dAll (dCons (dLc (iR1 (dCons (dCB dLen (dCons (dVar 1) dNil)) dNil)) (gN 2) dYes (e__law_is_k00n_1 s__law_is) [2]) dNil))))) dNext)
    (dSeq (dIfS (dTru (dIsi (dVar 1) ["dict"])) (dRet (dAndV (dIsi (dVar 0) ["dict"]) (dAndV (dOp dEqF (dVar 0) (dVar 1)) (dCB dAll (dCons (dLc (iKF (dVar 1)) (gN 3) dYes (e__law_is_k00n_2 s__law_is) [3]) dNil))))) dNext)
    (dRet (dAndV (dOp dEq (dIsi (dVar 0) ["bool"]) (dIsi (dVar 1) ["bool"])) (dOp dEqF (dVar 0) (dVar 1))))))
abbrev N__law_first_classes : List Str := ["error", "found"]
def t__law_first_classes [ErrCtx] : DTS := (dSeq (dAsg (dLst (dCons (dIsE EMS (fun q => q == 1) (dVar 0)) (dCons (dIsE EMS (fun q => q == 2) (dVar 0)) (dCons (dIsE EMS (fun q => q == 3) (dVar 0)) dNil)))) (gN 1))
    (dSeq (dAsg (dOp dAdd (dVar 1) (dLst (dCons (dIsE EMS (fun q => q == 4) (dVar 0)) (dCons (dIsE EMS (fun q => q == 5) (dVar 0)) (dCons (dIsE EMS (fun q => q == 6) (dVar 0)) dNil))))) (gN 1))
    (dSeq (dAsg (dOp dAdd (dVar 1) (dLst (dCons (dIsE EMS (fun q => q == 7) (dVar 0)) (dCons (dIsE EMS (fun q => q == 8) (dVar 0)) (dCons (dIsE EMS (fun q => q == 9) (dVar 0)) dNil))))) (gN 1))
    (dSeq (dAsg (dOp dAdd (dVar 1) (dLst (dCons (dIsE EMS (fun q => q == 10) (dVar 0)) (dCons (dIsE EMS (fun q => q == 11) (dVar 0)) (dCons (dIsE EMS (fun q => q == 36) (dVar 0)) dNil))))) (gN 1))
    (dRet (dOp dAdd (dVar 1) (dLst (dCons (dIsE EMS (fun q => q == 37) (dVar 0)) (dCons (dIsE EMS (fun q => q == 38) (dVar 0)) dNil)))))))))
abbrev N__law_classes : List Str := ["error", "found"]
def t__law_classes [ErrCtx] (s__law_first_classes : DSp) : DTS := (dSeq (dAsg (dOp dAdd (dCall 1 s__law_first_classes (dCons (dVar 0) dNil)) (dLst (dCons (dIsE EMS (fun q => q == 12) (dVar 0)) (dCons (dIsE EMS (fun q => q == 13) (dVar 0)) dNil)))) (gN 1))
    (dSeq (dAsg (dOp dAdd (dVar 1) (dLst (dCons (dIsE EMS (fun q => q == 14) (dVar 0)) (dCons (dIsE EMS (fun q => q == 15) (dVar 0)) (dCons (dIsE EMS (fun q => q == 16) (dVar 0)) dNil))))) (gN 1))
    (dSeq (dAsg (dOp dAdd (dVar 1) (dLst (dCons (dIsE EMS (fun q => q == 17) (dVar 0)) (dCons (dIsE EMS (fun q => q == 18) (dVar 0)) (dCons (dIsE EMS (fun q => q == 19) (dVar 0)) dNil))))) (gN 1))
    (dSeq (dAsg (dOp dAdd (dVar 1) (dLst (dCons (dIsE EMS (fun q => q == 20) (dVar 0)) (dCons (dIsE EMS (fun q => q == 21) (dVar 0)) (dCons (dIsE EMS (fun q => q == 22) (dVar 0)) dNil))))) (gN 1))
    (dSeq (dAsg (dOp dAdd (dVar 1) (dLst (dCons (dIsE EMS (fun q => q == 23) (dVar 0)) (dCons (dIsE EMS (fun q => q == 24) (dVar 0)) (dCons (dIsE EMS (fun q => q == 25) (dVar 0)) dNil))))) (gN 1))
    (dSeq (dAsg (dOp dAdd (dVar 1) (dLst (dCons (dIsE EMS (fun q => q == 26) (dVar 0)) (dCons (dIsE EMS (fun q => q == 27) (dVar 0)) (dCons (dIsE EMS (fun q => q == 28) (dVar 0)) dNil))))) (gN 1))
    (dSeq (dAsg (dOp dAdd (dVar 1) (dLst (dCons (dIsE EMS (fun q => q == 29) (dVar 0)) (dCons (dIsE EMS (fun q => q == 30) (dVar 0)) (dCons (dIsE EMS (fun q => q == 31) (dVar 0)) dNil))))) (gN 1))
    (dSeq (dAsg (dOp dAdd (dVar 1) (dLst (dCons (dIsE EMS (fun q => q == 32) (dVar 0)) (dCons (dIsE EMS (fun q => q == 33) (dVar 0)) (dCons (dIsE EMS (fun q => q == 34) (dVar 0)) dNil))))) (gN 1))
    (dRet (dOp dAdd (dVar 1) (dLst (dCons (dIsE EMS (fun q => q == 35) (dVar 0)) (dCons (dIsE EMS (fun q => q == 39) (dVar 0)) (dCons (dIsE EMS (fun q => q == 40) (dVar 0)) dNil))))))))))))))
abbrev N__law_field : List Str := ["error", "number"]
def t__law_field [ErrCtx] : DTS := (dSeq (dIfS (dTest (dOp (dIn false) (dVar 1) (dTup (dCons (dC (.int 0)) (dCons (dC (.int 2)) dNil))))) (dRet (dErF "index" [1, 3] (dVar 0))) dNext)
    (dSeq (dIfS (dTest (dOp (dIn false) (dVar 1) (dTup (dCons (dC (.int 1)) (dCons (dC (.int 4)) (dCons (dC (.int 5)) dNil)))))) (dRet (dErF "part" [2, 5, 6] (dVar 0))) dNext)
    (dSeq (dIfS (dTest (dOp (dIn false) (dVar 1) (dTup (dCons (dC (.int 3)) (dCons (dC (.int 6)) dNil))))) (dRet (dErF "number" [4, 7] (dVar 0))) dNext)
    (dSeq (dIfS (dTest (dOp (dIn false) (dVar 1) (dTup (dCons (dC (.int 7)) (dCons (dC (.int 8)) dNil))))) (dRet (dIf (dTest (dOp dEq (dVar 1) (dC (.int 7)))) (dErF "most" [8] (dVar 0)) (dErF "source" [9] (dVar 0)))) dNext)
    (dSeq (dIfS (dTest (dOp (dIn false) (dVar 1) (dTup (dCons (dC (.int 9)) (dCons (dC (.int 10)) dNil))))) (dRet (dIf (dTest (dOp dEq (dVar 1) (dC (.int 9)))) (dErF "literal" [10] (dVar 0)) (dErF "place" [11] (dVar 0)))) dNext)
    (dSeq (dIfS (dTest (dOp dEq (dVar 1) (dC (.int 11)))) (dRet (dErF "pair" [36] (dVar 0))) dNext)
    (dRet (dIf (dTest (dOp dEq (dVar 1) (dC (.int 12)))) (dErF "name" [37] (dVar 0)) (dErF "names" [38] (dVar 0))))))))))
abbrev N__law_raised_k00n : List Str := ["which", "thing", "found", "e"]
def b__law_raised_k00n_1 [ErrCtx] : DTS := (dSeq (dIfS (dTest (dOp dEq (dVar 0) (dC (.int 0)))) (dRaise1 1 "index" (dVar 1)) dNext)
    (dSeq (dIfS (dTest (dOp dEq (dVar 0) (dC (.int 1)))) (dRaise1 4 "number" (dVar 1)) dNext)
    (dSeq (dIfS (dTest (dOp dEq (dVar 0) (dC (.int 2)))) (dRaise1 38 "names" (dVar 1)) dNext)
    (dRaise1 9 "source" (dVar 1)))))
def s__law_raised_k00n_2 [ErrCtx] : Addr → DX → DTS := fun a x => (dSeq (dAsg (dIf (dTru (dXi a x [(1, true), (4, false), (9, false), (38, false)] (dVar 3))) (dXf a x 1 "index" (dVar 3)) (dLst (dCons (dVar 3) dNil))) (gN 2))
    (dIfS (dTru (dXi a x [(1, false), (4, true), (9, false), (38, false)] (dVar 3))) (dAsg (dXf a x 4 "number" (dVar 3)) (gN 2)) (dIfS (dTru (dXi a x [(1, false), (4, false), (9, false), (38, true)] (dVar 3))) (dAsg (dXf a x 38 "names" (dVar 3)) (gN 2)) (dIfS (dTru (dXi a x [(1, false), (4, false), (9, true), (38, false)] (dVar 3))) (dAsg (dXf a x 9 "source" (dVar 3)) (gN 2)) dNext))))
def t__law_raised_k00n [ErrCtx] : DTS := (dSeq (dAsg (dC (.non)) (gN 2))
    (dSeq (dTryAs [1, 4, 9, 38] 3 (b__law_raised_k00n_1) ((s__law_raised_k00n_2)))
    (dRet (dVar 2))))
abbrev N__law_right : List Str := ["error", "number", "thing", "flags"]
def t__law_right [ErrCtx] (s__law_is : DSp) (s__law_classes : DSp) (s__law_field : DSp) : DTS := (dSeq (dAsg (dCall 1 s__law_classes (dCons (dVar 0) dNil)) (gN 3))
    (dSeq (dIfS (dOr (dNot (dTru (dOp dIx (dVar 3) (dVar 1)))) (dOr (dTest (dOp dNe (dBM "list" dCountB (dVar 3) (dCons (dC (.bl true)) dNil)) (dC (.int 1)))) (dTest (dOp dNe (dCB dLen (dCons (dVar 3) dNil)) (dC (.int 40)))))) (dRet (dC (.bl false))) dNext)
    (dSeq (dIfS (dOr (dNot (dTru (dIsE EMS (fun _ => true) (dVar 0)))) (dNot (dTru (dIsE EMS (fun _ => true) (dVar 0))))) (dRet (dC (.bl false))) dNext)
    (dRet (dOrV (dOp dGt (dVar 1) (dC (.int 13))) (dCall 2 s__law_is (dCons (dLst (dCons (dCall 2 s__law_field (dCons (dVar 0) (dCons (dVar 1) dNil))) dNil)) (dCons (dLst (dCons (dVar 2) dNil)) dNil))))))))
abbrev N_law : List Str := ["script", "hand", "things", "told", "number", "errors", "error", "which", "places", "book"]
def e_law_1 [ErrCtx] (s_Book___init__ : DSp) (s_Book___eq__ : DSp) (s__law_hand : DSp) (s__law_draw : DSp) (s__law_some : DSp) (s__law_is : DSp) (s__law_deep : DSp) (s__law_raised : DSp) (s__law_right : DSp) : DTE := (dCall 2 s__law_some (dCons (dVar 1) (dCons (dVar 2) dNil)))
def b_law_2 [ErrCtx] (s_Book___init__ : DSp) (s_Book___eq__ : DSp) (s__law_hand : DSp) (s__law_draw : DSp) (s__law_some : DSp) (s__law_is : DSp) (s__law_deep : DSp) (s__law_raised : DSp) (s__law_right : DSp) : DTS := (dIfS (dNot (dTru (dCall 3 s__law_right (dCons (dVar 6) (dCons (dVar 4) (dCons (dIf (dTest (dOp dLt (dVar 4) (dC (.int 14)))) (dOp dIx (dVar 3) (dVar 4)) (dC (.non))) dNil)))))) (dRet (dC (.bl false))) dNext)
def t_law [ErrCtx] (s_Book___init__ : DSp) (s_Book___eq__ : DSp) (s__law_hand : DSp) (s__law_draw : DSp) (s__law_some : DSp) (s__law_is : DSp) (s__law_deep : DSp) (s__law_raised : DSp) (s__law_right : DSp) : DTS := (dSeq (dAsg (dCall 1 s__law_hand (dCons (dVar 0) dNil)) (gN 1))
    (dSeq (dAsg (dLst (dCons (dC (.str "name")) (dCons (dC (.str "")) (dCons (dC (.int 7)) (dCons (dUn dNegV (dC (.int 1))) (dCons (dC (.int 0)) (dCons (dC (.non)) (dCons (dC (.bl true)) (dCons (dTup (dCons (dC (.str "need")) (dCons (dC (.int 2)) dNil))) (dCons (dTup (dCons (dC (.int 1)) (dCons (dC (.int 2)) (dCons (dC (.int 3)) dNil)))) (dCons (dLst (dCons (dC (.int 1)) (dCons (dLst (dCons (dC (.int 2)) dNil)) dNil))) (dCons (dFrz (dDisp [((dC (.str "a")), (dC (.int 1)))])) (dCons (dTup dNil) (dCons (dOp dPow (dC (.int 10)) (dC (.int 11))) (dCons (dCall 1 s__law_deep (dCons (dC (.int 0)) dNil)) dNil))))))))))))))) (gN 2))
    (dSeq (dAsg (dLc (iR1 (dCons (dC (.int 14)) dNil)) (gN 4) dYes (e_law_1 s_Book___init__ s_Book___eq__ s__law_hand s__law_draw s__law_some s__law_is s__law_deep s__law_raised s__law_right) [4]) (gN 3))
    (dSeq (dAsg (dLst (dCons (dMkE1 1 "index" (dOp dIx (dVar 3) (dC (.int 0)))) (dCons (dMkE1 2 "part" (dOp dIx (dVar 3) (dC (.int 1)))) (dCons (dMkE1 3 "index" (dOp dIx (dVar 3) (dC (.int 2)))) (dCons (dMkE1 4 "number" (dOp dIx (dVar 3) (dC (.int 3)))) (dCons (dMkE1 5 "part" (dOp dIx (dVar 3) (dC (.int 4)))) dNil)))))) (gN 5))
    (dSeq (dAsg (dOp dAdd (dVar 5) (dLst (dCons (dMkE1 6 "part" (dOp dIx (dVar 3) (dC (.int 5)))) (dCons (dMkE1 7 "number" (dOp dIx (dVar 3) (dC (.int 6)))) (dCons (dMkE1 8 "most" (dOp dIx (dVar 3) (dC (.int 7)))) (dCons (dMkE1 9 "source" (dOp dIx (dVar 3) (dC (.int 8)))) (dCons (dMkE1 10 "literal" (dOp dIx (dVar 3) (dC (.int 9)))) dNil))))))) (gN 5))
    (dSeq (dAsg (dOp dAdd (dVar 5) (dLst (dCons (dMkE1 11 "place" (dOp dIx (dVar 3) (dC (.int 10)))) (dCons (dMkE1 36 "pair" (dOp dIx (dVar 3) (dC (.int 11)))) (dCons (dMkE1 37 "name" (dOp dIx (dVar 3) (dC (.int 12)))) (dCons (dMkE1 38 "names" (dOp dIx (dVar 3) (dC (.int 13)))) (dCons (dMkE0 12) dNil))))))) (gN 5))
    (dSeq (dAsg (dOp dAdd (dVar 5) (dLst (dCons (dMkE0 13) (dCons (dMkE0 14) (dCons (dMkE0 15) (dCons (dMkE0 16) (dCons (dMkE0 17) (dCons (dMkE0 18) (dCons (dMkE0 19) (dCons (dMkE0 20) dNil)))))))))) (gN 5))
    (dSeq (dAsg (dOp dAdd (dVar 5) (dLst (dCons (dMkE0 21) (dCons (dMkE0 22) (dCons (dMkE0 23) (dCons (dMkE0 24) (dCons (dMkE0 25) (dCons (dMkE0 26) (dCons (dMkE0 27) (dCons (dMkE0 28) dNil)))))))))) (gN 5))
    (dSeq (dAsg (dOp dAdd (dVar 5) (dLst (dCons (dMkE0 29) (dCons (dMkE0 30) (dCons (dMkE0 31) (dCons (dMkE0 32) (dCons (dMkE0 33) (dCons (dMkE0 34) (dCons (dMkE0 35) (dCons (dMkE0 39) dNil)))))))))) (gN 5))
    (dSeq (dDrop (dBM "list" dAppend (dVar 5) (dCons (dMkE0 40) dNil)))
    (dSeq (dFor (iEn (dCons (dVar 5) dNil)) (gTup' 2 (gCons' (gN 4) (gCons' (gN 6) gNil'))) (b_law_2 s_Book___init__ s_Book___eq__ s__law_hand s__law_draw s__law_some s__law_is s__law_deep s__law_raised s__law_right))
    (dSeq (dAsg (dCall 2 s__law_draw (dCons (dVar 1) (dCons (dC (.int 4)) dNil))) (gN 7))
    (dSeq (dAsg (dLst (dCons (dC (.int 0)) (dCons (dC (.int 3)) (dCons (dC (.int 13)) (dCons (dC (.int 8)) dNil))))) (gN 8))
    (dSeq (dAsg (dMake 101 2 s_Book___init__ (dCons (dTup dNil) dNil)) (gN 9))
    (dRet (dAndV (dOp (dEqO 101 2 s_Book___eq__) (dErF "part" [2, 5, 6] (dMkE1 2 "part" (dVar 9))) (dVar 9)) (dCall 2 s__law_is (dCons (dLst (dCons (dCall 2 s__law_raised (dCons (dVar 7) (dCons (dOp dIx (dVar 3) (dOp dIx (dVar 8) (dVar 7))) dNil))) dNil)) (dCons (dLst (dCons (dOp dIx (dVar 3) (dOp dIx (dVar 8) (dVar 7))) dNil)) dNil)))))))))))))))))))
abbrev N_Book___init__P_k00n : List Str := ["self", "entries", "index", "entry"]
def e_Book___init__P_k00n_1 [ErrCtx] (s_wrong_entry : DSp) : DTE := dNeverE
def e_Book___init__P_k00n_2 [ErrCtx] (s_wrong_entry : DSp) : DTE := dNeverE
def t_Book___init__P_k00n [ErrCtx] (s_wrong_entry : DSp) : DTS := (dSeq (dAsg (dCall 1 s_wrong_entry (dCons (dVar 1) dNil)) (gN 2))
    (dSeq (dIfS (dTest (dOp (dIsN not) (dVar 2) (dC (.non)))) dNever dNext)
    (dSeq (dSetF "entries" [101] (dVar 0) (dVar 1))
    (dSetF "places" [101] (dVar 0) (dDcN (iD (dVar 1)) (gN 3) dYes (e_Book___init__P_k00n_1 s_wrong_entry) (e_Book___init__P_k00n_2 s_wrong_entry) [3])))))
abbrev N_Book___eq___k00n : List Str := ["self", "other"]
def t_Book___eq___k00n [ErrCtx] : DTS := (dRet (dAndV (dIsC1 101 (dVar 1)) (dOp dEq (dFld "entries" [101] (dVar 0)) (dFld "entries" [101] (dVar 1)))))
end RD
namespace Lk00
open PySem L2 PySem.Spec DL
open PyProof.Rows hiding St
def topS (i : Nat) : Stmt := PySem.Challenge.pw_lockwright_k00_errors_of_the_package.main.body.getD i (.Pass ⟨0, 0, 0, 0⟩)
abbrev S_is_tuple_within : Stmt := topS 51
abbrev N_is_tuple_within : List Str := RD.N_is_tuple_within
theorem sc_is_tuple_within : FnScope N_is_tuple_within ["most", "thing"] (defScope S_is_tuple_within) := ⟨rfl, rfl, rfl, by decide +kernel, rfl, by decide +kernel, by decide +kernel⟩
abbrev S_wrong_entry : Stmt := topS 76
abbrev N_wrong_entry : List Str := RD.N_wrong_entry_k00n
theorem sc_wrong_entry : FnScope N_wrong_entry ["entries"] (defScope S_wrong_entry) := ⟨rfl, rfl, rfl, by decide +kernel, rfl, by decide +kernel, by decide +kernel⟩
abbrev S__law_hand : Stmt := topS 79
abbrev N__law_hand : List Str := RD.N__law_hand
theorem sc__law_hand : FnScope N__law_hand ["script"] (defScope S__law_hand) := ⟨rfl, rfl, rfl, by decide +kernel, rfl, by decide +kernel, by decide +kernel⟩
abbrev S__law_draw : Stmt := topS 80
abbrev N__law_draw : List Str := RD.N__law_draw
theorem sc__law_draw : FnScope N__law_draw ["hand", "many"] (defScope S__law_draw) := ⟨rfl, rfl, rfl, by decide +kernel, rfl, by decide +kernel, by decide +kernel⟩
abbrev S__law_some : Stmt := topS 81
abbrev N__law_some : List Str := RD.N__law_some
theorem sc__law_some : FnScope N__law_some ["hand", "things"] (defScope S__law_some) := ⟨rfl, rfl, rfl, by decide +kernel, rfl, by decide +kernel, by decide +kernel⟩
abbrev S__law_is : Stmt := topS 82
abbrev N__law_is : List Str := RD.N__law_is_k00n
theorem sc__law_is : FnScope N__law_is ["told", "due"] (defScope S__law_is) := ⟨rfl, rfl, rfl, by decide +kernel, rfl, by decide +kernel, by decide +kernel⟩
abbrev S__law_deep : Stmt := topS 83
abbrev N__law_deep : List Str := RD.N__law_deep
theorem sc__law_deep : FnScope N__law_deep ["kind"] (defScope S__law_deep) := ⟨rfl, rfl, rfl, by decide +kernel, rfl, by decide +kernel, by decide +kernel⟩
abbrev S__law_first_classes : Stmt := topS 84
abbrev N__law_first_classes : List Str := RD.N__law_first_classes
theorem sc__law_first_classes : FnScope N__law_first_classes ["error"] (defScope S__law_first_classes) := ⟨rfl, rfl, rfl, by decide +kernel, rfl, by decide +kernel, by decide +kernel⟩
abbrev S__law_classes : Stmt := topS 85
abbrev N__law_classes : List Str := RD.N__law_classes
theorem sc__law_classes : FnScope N__law_classes ["error"] (defScope S__law_classes) := ⟨rfl, rfl, rfl, by decide +kernel, rfl, by decide +kernel, by decide +kernel⟩
abbrev S__law_field : Stmt := topS 86
abbrev N__law_field : List Str := RD.N__law_field
theorem sc__law_field : FnScope N__law_field ["error", "number"] (defScope S__law_field) := ⟨rfl, rfl, rfl, by decide +kernel, rfl, by decide +kernel, by decide +kernel⟩
abbrev S__law_raised : Stmt := topS 87
abbrev N__law_raised : List Str := RD.N__law_raised_k00n
theorem sc__law_raised : FnScope N__law_raised ["which", "thing"] (defScope S__law_raised) := ⟨rfl, rfl, rfl, by decide +kernel, rfl, by decide +kernel, by decide +kernel⟩
abbrev S__law_right : Stmt := topS 88
abbrev N__law_right : List Str := RD.N__law_right
theorem sc__law_right : FnScope N__law_right ["error", "number", "thing"] (defScope S__law_right) := ⟨rfl, rfl, rfl, by decide +kernel, rfl, by decide +kernel, by decide +kernel⟩
abbrev S_law : Stmt := topS 89
abbrev N_law : List Str := RD.N_law
theorem sc_law : FnScope N_law ["script"] (defScope S_law) := ⟨rfl, rfl, rfl, by decide +kernel, rfl, by decide +kernel, by decide +kernel⟩
abbrev S_Book___init__ : Stmt := mthS (topS 77) 0
abbrev N_Book___init__ : List Str := RD.N_Book___init__P_k00n
theorem sc_Book___init__ : FnScope N_Book___init__ ["self", "entries"] (defScope S_Book___init__) := ⟨rfl, rfl, rfl, by decide +kernel, rfl, by decide +kernel, by decide +kernel⟩
abbrev S_Book___eq__ : Stmt := mthS (topS 77) 1
abbrev N_Book___eq__ : List Str := RD.N_Book___eq___k00n
theorem sc_Book___eq__ : FnScope N_Book___eq__ ["self", "other"] (defScope S_Book___eq__) := ⟨rfl, rfl, rfl, by decide +kernel, rfl, by decide +kernel, by decide +kernel⟩
abbrev SI_LockError : Stmt := mthS (topS 1) 0
theorem sci_LockError : FnScope ["self"] ["self"] (defScope SI_LockError) := ⟨rfl, rfl, rfl, by decide +kernel, rfl, by decide +kernel, by decide +kernel⟩
abbrev SI_BadText : Stmt := mthS (topS 2) 0
theorem sci_BadText : FnScope ["self", "index"] ["self", "index"] (defScope SI_BadText) := ⟨rfl, rfl, rfl, by decide +kernel, rfl, by decide +kernel, by decide +kernel⟩
abbrev SI_BadEntry : Stmt := mthS (topS 3) 0
theorem sci_BadEntry : FnScope ["self", "part"] ["self", "part"] (defScope SI_BadEntry) := ⟨rfl, rfl, rfl, by decide +kernel, rfl, by decide +kernel, by decide +kernel⟩
abbrev SI_BadBook : Stmt := mthS (topS 4) 0
theorem sci_BadBook : FnScope ["self", "index"] ["self", "index"] (defScope SI_BadBook) := ⟨rfl, rfl, rfl, by decide +kernel, rfl, by decide +kernel, by decide +kernel⟩
abbrev SI_BadLine : Stmt := mthS (topS 5) 0
theorem sci_BadLine : FnScope ["self", "number"] ["self", "number"] (defScope SI_BadLine) := ⟨rfl, rfl, rfl, by decide +kernel, rfl, by decide +kernel, by decide +kernel⟩
abbrev SI_BadQuestion : Stmt := mthS (topS 6) 0
theorem sci_BadQuestion : FnScope ["self", "part"] ["self", "part"] (defScope SI_BadQuestion) := ⟨rfl, rfl, rfl, by decide +kernel, rfl, by decide +kernel, by decide +kernel⟩
abbrev SI_BadTask : Stmt := mthS (topS 7) 0
theorem sci_BadTask : FnScope ["self", "part"] ["self", "part"] (defScope SI_BadTask) := ⟨rfl, rfl, rfl, by decide +kernel, rfl, by decide +kernel, by decide +kernel⟩
abbrev SI_BadStep : Stmt := mthS (topS 8) 0
theorem sci_BadStep : FnScope ["self", "number"] ["self", "number"] (defScope SI_BadStep) := ⟨rfl, rfl, rfl, by decide +kernel, rfl, by decide +kernel, by decide +kernel⟩
abbrev SI_TooMany : Stmt := mthS (topS 9) 0
theorem sci_TooMany : FnScope ["self", "most"] ["self", "most"] (defScope SI_TooMany) := ⟨rfl, rfl, rfl, by decide +kernel, rfl, by decide +kernel, by decide +kernel⟩
abbrev SI_NotFitting : Stmt := mthS (topS 10) 0
theorem sci_NotFitting : FnScope ["self", "source"] ["self", "source"] (defScope SI_NotFitting) := ⟨rfl, rfl, rfl, by decide +kernel, rfl, by decide +kernel, by decide +kernel⟩
abbrev SI_NotGiven : Stmt := mthS (topS 11) 0
theorem sci_NotGiven : FnScope ["self", "literal"] ["self", "literal"] (defScope SI_NotGiven) := ⟨rfl, rfl, rfl, by decide +kernel, rfl, by decide +kernel, by decide +kernel⟩
abbrev SI_NotFirst : Stmt := mthS (topS 12) 0
theorem sci_NotFirst : FnScope ["self", "place"] ["self", "place"] (defScope SI_NotFirst) := ⟨rfl, rfl, rfl, by decide +kernel, rfl, by decide +kernel, by decide +kernel⟩
abbrev SI_NotFetched : Stmt := mthS (topS 37) 0
theorem sci_NotFetched : FnScope ["self", "pair"] ["self", "pair"] (defScope SI_NotFetched) := ⟨rfl, rfl, rfl, by decide +kernel, rfl, by decide +kernel, by decide +kernel⟩
abbrev SI_NoBuild : Stmt := mthS (topS 38) 0
theorem sci_NoBuild : FnScope ["self", "name"] ["self", "name"] (defScope SI_NoBuild) := ⟨rfl, rfl, rfl, by decide +kernel, rfl, by decide +kernel, by decide +kernel⟩
abbrev SI_Ringed : Stmt := mthS (topS 39) 0
theorem sci_Ringed : FnScope ["self", "names"] ["self", "names"] (defScope SI_Ringed) := ⟨rfl, rfl, rfl, by decide +kernel, rfl, by decide +kernel, by decide +kernel⟩
structure Glob [ErrCtx] (K : PySem.W.Frag) (mg : Str → Option Value) : Prop where
  g_BadBook : mg "BadBook" = some (.ref (errA 3))
  g_BadEntry : mg "BadEntry" = some (.ref (errA 2))
  g_BadLine : mg "BadLine" = some (.ref (errA 4))
  g_BadQuestion : mg "BadQuestion" = some (.ref (errA 5))
  g_BadStep : mg "BadStep" = some (.ref (errA 7))
  g_BadTask : mg "BadTask" = some (.ref (errA 6))
  g_BadText : mg "BadText" = some (.ref (errA 1))
  g_Book : mg "Book" = some (.ref (errA 101))
  g_LockError : mg "LockError" = some (.ref (errA 0))
  g_NoBuild : mg "NoBuild" = some (.ref (errA 37))
  g_NoContents : mg "NoContents" = some (.ref (errA 33))
  g_NoDeed : mg "NoDeed" = some (.ref (errA 32))
  g_NoEntry : mg "NoEntry" = some (.ref (errA 13))
  g_NoFeatures : mg "NoFeatures" = some (.ref (errA 12))
  g_NoGivens : mg "NoGivens" = some (.ref (errA 19))
  g_NoLiteral : mg "NoLiteral" = some (.ref (errA 20))
  g_NoMachine : mg "NoMachine" = some (.ref (errA 39))
  g_NoManifest : mg "NoManifest" = some (.ref (errA 35))
  g_NoMirrors : mg "NoMirrors" = some (.ref (errA 34))
  g_NoName : mg "NoName" = some (.ref (errA 23))
  g_NoNumber : mg "NoNumber" = some (.ref (errA 24))
  g_NoPaper : mg "NoPaper" = some (.ref (errA 21))
  g_NoRollout : mg "NoRollout" = some (.ref (errA 40))
  g_NoSource : mg "NoSource" = some (.ref (errA 17))
  g_NoSources : mg "NoSources" = some (.ref (errA 22))
  g_NoStand : mg "NoStand" = some (.ref (errA 18))
  g_NoStart : mg "NoStart" = some (.ref (errA 29))
  g_NoStop : mg "NoStop" = some (.ref (errA 30))
  g_NoText : mg "NoText" = some (.ref (errA 28))
  g_NotClosed : mg "NotClosed" = some (.ref (errA 16))
  g_NotEntry : mg "NotEntry" = some (.ref (errA 25))
  g_NotFetched : mg "NotFetched" = some (.ref (errA 36))
  g_NotFirst : mg "NotFirst" = some (.ref (errA 11))
  g_NotFitting : mg "NotFitting" = some (.ref (errA 9))
  g_NotGiven : mg "NotGiven" = some (.ref (errA 10))
  g_NotQuestion : mg "NotQuestion" = some (.ref (errA 26))
  g_NotRight : mg "NotRight" = some (.ref (errA 14))
  g_NotSafe : mg "NotSafe" = some (.ref (errA 31))
  g_NotThere : mg "NotThere" = some (.ref (errA 15))
  g_NothingDone : mg "NothingDone" = some (.ref (errA 27))
  g_Ringed : mg "Ringed" = some (.ref (errA 38))
  g_TooMany : mg "TooMany" = some (.ref (errA 8))
  xm_BadLine_LockError : PySem.W.exmOne K (.ref (errA 4)) (.ref (errA 0)) = some true
  xm_BadText_LockError : PySem.W.exmOne K (.ref (errA 1)) (.ref (errA 0)) = some true
  xm_NotFitting_LockError : PySem.W.exmOne K (.ref (errA 9)) (.ref (errA 0)) = some true
  xm_Ringed_LockError : PySem.W.exmOne K (.ref (errA 38)) (.ref (errA 0)) = some true
  ef_BadBook : ErF K 3
  ef_BadEntry : ErF K 2
  ef_BadLine : ErF K 4
  ef_BadQuestion : ErF K 5
  ef_BadStep : ErF K 7
  ef_BadTask : ErF K 6
  ef_BadText : ErF K 1
  ef_NoBuild : ErF K 37
  ef_NotFetched : ErF K 36
  ef_NotFirst : ErF K 11
  ef_NotFitting : ErF K 9
  ef_NotGiven : ErF K 10
  ef_Ringed : ErF K 38
  ef_TooMany : ErF K 8
  no_BadBook : PySem.W.findIn K (.ref (errA 3)) "index" = some none
  no_BadEntry : PySem.W.findIn K (.ref (errA 2)) "part" = some none
  no_BadLine : PySem.W.findIn K (.ref (errA 4)) "number" = some none
  no_BadQuestion : PySem.W.findIn K (.ref (errA 5)) "part" = some none
  no_BadStep : PySem.W.findIn K (.ref (errA 7)) "number" = some none
  no_BadTask : PySem.W.findIn K (.ref (errA 6)) "part" = some none
  no_BadText : PySem.W.findIn K (.ref (errA 1)) "index" = some none
  no_NoBuild : PySem.W.findIn K (.ref (errA 37)) "name" = some none
  no_NotFetched : PySem.W.findIn K (.ref (errA 36)) "pair" = some none
  no_NotFirst : PySem.W.findIn K (.ref (errA 11)) "place" = some none
  no_NotFitting : PySem.W.findIn K (.ref (errA 9)) "source" = some none
  no_NotGiven : PySem.W.findIn K (.ref (errA 10)) "literal" = some none
  no_Ringed : PySem.W.findIn K (.ref (errA 38)) "names" = some none
  no_TooMany : PySem.W.findIn K (.ref (errA 8)) "most" = some none
  kt_BadLine_BadLine : PySem.W.kitOne K (.ref (errA 4)) (.ref (errA 4)) = some true
  kt_BadLine_BadText : PySem.W.kitOne K (.ref (errA 4)) (.ref (errA 1)) = some false
  kt_BadLine_NotFitting : PySem.W.kitOne K (.ref (errA 4)) (.ref (errA 9)) = some false
  kt_BadLine_Ringed : PySem.W.kitOne K (.ref (errA 4)) (.ref (errA 38)) = some false
  kt_BadText_BadLine : PySem.W.kitOne K (.ref (errA 1)) (.ref (errA 4)) = some false
  kt_BadText_BadText : PySem.W.kitOne K (.ref (errA 1)) (.ref (errA 1)) = some true
  kt_BadText_NotFitting : PySem.W.kitOne K (.ref (errA 1)) (.ref (errA 9)) = some false
  kt_BadText_Ringed : PySem.W.kitOne K (.ref (errA 1)) (.ref (errA 38)) = some false
  kt_NotFitting_BadLine : PySem.W.kitOne K (.ref (errA 9)) (.ref (errA 4)) = some false
  kt_NotFitting_BadText : PySem.W.kitOne K (.ref (errA 9)) (.ref (errA 1)) = some false
  kt_NotFitting_NotFitting : PySem.W.kitOne K (.ref (errA 9)) (.ref (errA 9)) = some true
  kt_NotFitting_Ringed : PySem.W.kitOne K (.ref (errA 9)) (.ref (errA 38)) = some false
  kt_Ringed_BadLine : PySem.W.kitOne K (.ref (errA 38)) (.ref (errA 4)) = some false
  kt_Ringed_BadText : PySem.W.kitOne K (.ref (errA 38)) (.ref (errA 1)) = some false
  kt_Ringed_NotFitting : PySem.W.kitOne K (.ref (errA 38)) (.ref (errA 9)) = some false
  kt_Ringed_Ringed : PySem.W.kitOne K (.ref (errA 38)) (.ref (errA 38)) = some true
  ke_BadBook : ∀ q ∈ EMS, ErF K q ∧ PySem.W.kitOne K (.ref (errA q)) (.ref (errA 3)) = some (q == 3)
  ke_BadEntry : ∀ q ∈ EMS, ErF K q ∧ PySem.W.kitOne K (.ref (errA q)) (.ref (errA 2)) = some (q == 2)
  ke_BadLine : ∀ q ∈ EMS, ErF K q ∧ PySem.W.kitOne K (.ref (errA q)) (.ref (errA 4)) = some (q == 4)
  ke_BadQuestion : ∀ q ∈ EMS, ErF K q ∧ PySem.W.kitOne K (.ref (errA q)) (.ref (errA 5)) = some (q == 5)
  ke_BadStep : ∀ q ∈ EMS, ErF K q ∧ PySem.W.kitOne K (.ref (errA q)) (.ref (errA 7)) = some (q == 7)
  ke_BadTask : ∀ q ∈ EMS, ErF K q ∧ PySem.W.kitOne K (.ref (errA q)) (.ref (errA 6)) = some (q == 6)
  ke_BadText : ∀ q ∈ EMS, ErF K q ∧ PySem.W.kitOne K (.ref (errA q)) (.ref (errA 1)) = some (q == 1)
  ke_LockError : ∀ q ∈ EMS, ErF K q ∧ PySem.W.kitOne K (.ref (errA q)) (.ref (errA 0)) = some (true)
  ke_NoBuild : ∀ q ∈ EMS, ErF K q ∧ PySem.W.kitOne K (.ref (errA q)) (.ref (errA 37)) = some (q == 37)
  ke_NoContents : ∀ q ∈ EMS, ErF K q ∧ PySem.W.kitOne K (.ref (errA q)) (.ref (errA 33)) = some (q == 33)
  ke_NoDeed : ∀ q ∈ EMS, ErF K q ∧ PySem.W.kitOne K (.ref (errA q)) (.ref (errA 32)) = some (q == 32)
  ke_NoEntry : ∀ q ∈ EMS, ErF K q ∧ PySem.W.kitOne K (.ref (errA q)) (.ref (errA 13)) = some (q == 13)
  ke_NoFeatures : ∀ q ∈ EMS, ErF K q ∧ PySem.W.kitOne K (.ref (errA q)) (.ref (errA 12)) = some (q == 12)
  ke_NoGivens : ∀ q ∈ EMS, ErF K q ∧ PySem.W.kitOne K (.ref (errA q)) (.ref (errA 19)) = some (q == 19)
  ke_NoLiteral : ∀ q ∈ EMS, ErF K q ∧ PySem.W.kitOne K (.ref (errA q)) (.ref (errA 20)) = some (q == 20)
  ke_NoMachine : ∀ q ∈ EMS, ErF K q ∧ PySem.W.kitOne K (.ref (errA q)) (.ref (errA 39)) = some (q == 39)
  ke_NoManifest : ∀ q ∈ EMS, ErF K q ∧ PySem.W.kitOne K (.ref (errA q)) (.ref (errA 35)) = some (q == 35)
  ke_NoMirrors : ∀ q ∈ EMS, ErF K q ∧ PySem.W.kitOne K (.ref (errA q)) (.ref (errA 34)) = some (q == 34)
  ke_NoName : ∀ q ∈ EMS, ErF K q ∧ PySem.W.kitOne K (.ref (errA q)) (.ref (errA 23)) = some (q == 23)
  ke_NoNumber : ∀ q ∈ EMS, ErF K q ∧ PySem.W.kitOne K (.ref (errA q)) (.ref (errA 24)) = some (q == 24)
  ke_NoPaper : ∀ q ∈ EMS, ErF K q ∧ PySem.W.kitOne K (.ref (errA q)) (.ref (errA 21)) = some (q == 21)
  ke_NoRollout : ∀ q ∈ EMS, ErF K q ∧ PySem.W.kitOne K (.ref (errA q)) (.ref (errA 40)) = some (q == 40)
  ke_NoSource : ∀ q ∈ EMS, ErF K q ∧ PySem.W.kitOne K (.ref (errA q)) (.ref (errA 17)) = some (q == 17)
  ke_NoSources : ∀ q ∈ EMS, ErF K q ∧ PySem.W.kitOne K (.ref (errA q)) (.ref (errA 22)) = some (q == 22)
  ke_NoStand : ∀ q ∈ EMS, ErF K q ∧ PySem.W.kitOne K (.ref (errA q)) (.ref (errA 18)) = some (q == 18)
  ke_NoStart : ∀ q ∈ EMS, ErF K q ∧ PySem.W.kitOne K (.ref (errA q)) (.ref (errA 29)) = some (q == 29)
  ke_NoStop : ∀ q ∈ EMS, ErF K q ∧ PySem.W.kitOne K (.ref (errA q)) (.ref (errA 30)) = some (q == 30)
  ke_NoText : ∀ q ∈ EMS, ErF K q ∧ PySem.W.kitOne K (.ref (errA q)) (.ref (errA 28)) = some (q == 28)
  ke_NotClosed : ∀ q ∈ EMS, ErF K q ∧ PySem.W.kitOne K (.ref (errA q)) (.ref (errA 16)) = some (q == 16)
  ke_NotEntry : ∀ q ∈ EMS, ErF K q ∧ PySem.W.kitOne K (.ref (errA q)) (.ref (errA 25)) = some (q == 25)
  ke_NotFetched : ∀ q ∈ EMS, ErF K q ∧ PySem.W.kitOne K (.ref (errA q)) (.ref (errA 36)) = some (q == 36)
  ke_NotFirst : ∀ q ∈ EMS, ErF K q ∧ PySem.W.kitOne K (.ref (errA q)) (.ref (errA 11)) = some (q == 11)
  ke_NotFitting : ∀ q ∈ EMS, ErF K q ∧ PySem.W.kitOne K (.ref (errA q)) (.ref (errA 9)) = some (q == 9)
  ke_NotGiven : ∀ q ∈ EMS, ErF K q ∧ PySem.W.kitOne K (.ref (errA q)) (.ref (errA 10)) = some (q == 10)
  ke_NotQuestion : ∀ q ∈ EMS, ErF K q ∧ PySem.W.kitOne K (.ref (errA q)) (.ref (errA 26)) = some (q == 26)
  ke_NotRight : ∀ q ∈ EMS, ErF K q ∧ PySem.W.kitOne K (.ref (errA q)) (.ref (errA 14)) = some (q == 14)
  ke_NotSafe : ∀ q ∈ EMS, ErF K q ∧ PySem.W.kitOne K (.ref (errA q)) (.ref (errA 31)) = some (q == 31)
  ke_NotThere : ∀ q ∈ EMS, ErF K q ∧ PySem.W.kitOne K (.ref (errA q)) (.ref (errA 15)) = some (q == 15)
  ke_NothingDone : ∀ q ∈ EMS, ErF K q ∧ PySem.W.kitOne K (.ref (errA q)) (.ref (errA 27)) = some (q == 27)
  ke_Ringed : ∀ q ∈ EMS, ErF K q ∧ PySem.W.kitOne K (.ref (errA q)) (.ref (errA 38)) = some (q == 38)
  ke_TooMany : ∀ q ∈ EMS, ErF K q ∧ PySem.W.kitOne K (.ref (errA q)) (.ref (errA 8)) = some (q == 8)
  ke_ValueError : ∀ q ∈ EMS, ErF K q ∧ PySem.W.kitOne K (.ref (errA q)) (.type "ValueError") = some (true)
  cl_Book : ClF K 101
  in_Book : C8.InsC K (errA 101)
  mk_Book : MkF K mg 101 "Book"
  na_Book_entries : NoAttr K (errA 101) "entries"
  na_Book_places : NoAttr K (errA 101) "places"
  d_is_tuple_within : DefIn K mg "is_tuple_within" S_is_tuple_within ["most", "thing"]
  d_wrong_entry : DefIn K mg "wrong_entry" S_wrong_entry ["entries"]
  d__law_hand : DefIn K mg "_law_hand" S__law_hand ["script"]
  d__law_draw : DefIn K mg "_law_draw" S__law_draw ["hand", "many"]
  d__law_some : DefIn K mg "_law_some" S__law_some ["hand", "things"]
  d__law_is : DefIn K mg "_law_is" S__law_is ["told", "due"]
  d__law_deep : DefIn K mg "_law_deep" S__law_deep ["kind"]
  d__law_first_classes : DefIn K mg "_law_first_classes" S__law_first_classes ["error"]
  d__law_classes : DefIn K mg "_law_classes" S__law_classes ["error"]
  d__law_field : DefIn K mg "_law_field" S__law_field ["error", "number"]
  d__law_raised : DefIn K mg "_law_raised" S__law_raised ["which", "thing"]
  d__law_right : DefIn K mg "_law_right" S__law_right ["error", "number", "thing"]
  d_law : DefIn K mg "law" S_law ["script"]
  m_Book___init__ : MthIn K 101 "__init__" "Book.__init__" S_Book___init__ ["self", "entries"]
  m_Book___eq__ : MthIn K 101 "__eq__" "Book.__eq__" S_Book___eq__ ["self", "other"]
  z_ValueError : mg "ValueError" = none
  z_abs : mg "abs" = none
  z_all : mg "all" = none
  z_bool : mg "bool" = none
  z_dict : mg "dict" = none
  z_enumerate : mg "enumerate" = none
  z_int : mg "int" = none
  z_isinstance : mg "isinstance" = none
  z_len : mg "len" = none
  z_list : mg "list" = none
  z_range : mg "range" = none
  z_tuple : mg "tuple" = none
  c_ENTRIES_MOST : Cst K mg "ENTRIES_MOST" (.int 200)
section
variable [TC : TabCtx] [EC : ErrCtx] {P : Program} {w : World} {K : PySem.W.Frag} {mg : Str → Option Value} {base : Heap} {k : Nat}
theorem h_is_tuple_within {dsp : DSp} (G : Glob K mg) (hd : Rd 2 dsp (RD.t_is_tuple_within) N_is_tuple_within) : Has P w K mg base (k + 1) "is_tuple_within" 2 dsp :=
  has_mk G.d_is_tuple_within sc_is_tuple_within rfl fun f cdv A outer s0 H E hr => by
    have hu := hr.units
    have hu1 : _ + 1 < cLine := Nat.lt_of_le_of_lt (Nat.add_le_add_left (by decide : 1 ≤ 64) _) hu
    exact ⟨RD.t_is_tuple_within, (dss_one (ds_ret (de_and (de_isi (by rfl) G.z_isinstance (dv 1) (pe_ty (by rfl) G.z_tuple PyProof.Rows.boot_tuple)) (de_one (de_cm (cm_le hu) (nomark _) (de_len (by rfl) G.z_len (da_cons (dv 1) da_nil)) (dv 0)))))), hd⟩
theorem h_wrong_entry {dsp : DSp} {s_is_tuple_within : DSp} (G : Glob K mg) (H_is_tuple_within : Has P w K mg base k "is_tuple_within" 2 s_is_tuple_within) (hd : Rd 1 dsp (RD.t_wrong_entry_k00n s_is_tuple_within) N_wrong_entry) : Has P w K mg base (k + 1) "wrong_entry" 1 dsp :=
  has_mk G.d_wrong_entry sc_wrong_entry rfl fun f cdv A outer s0 H E hr => by
    have hu := hr.units
    have hu1 : _ + 1 < cLine := Nat.lt_of_le_of_lt (Nat.add_le_add_left (by decide : 1 ≤ 64) _) hu
    exact ⟨RD.t_wrong_entry_k00n s_is_tuple_within, (dss_cons (ds_if (dt_not (dt_tru (de_call H_is_tuple_within hr (by rfl) (pasT (takes_of rfl rfl rfl rfl)) (da_cons (de_cst (by rfl) G.c_ENTRIES_MOST) (da_cons (dv 0) da_nil))))) (dss_one (ds_ret (de_neg de_int))) dss_nil)
      (dss_cons (ds_for (passes_of rfl) rfl (di_enum (by rfl) G.z_enumerate (da_cons (dv 0) da_nil)) (dg_tup (n := 2) rfl (dgs_cons (dg_name (i := 1) sc_wrong_entry.nd rfl (by first | exact .inl rfl | exact .inr rfl)) (dgs_cons (dg_name (i := 2) sc_wrong_entry.nd rfl (by first | exact .inl rfl | exact .inr rfl)) dgs_nil))) dss_never)
      (dss_one (ds_ret de_non)))), hd⟩
theorem h__law_hand {dsp : DSp} (G : Glob K mg) (hd : Rd 1 dsp (RD.t__law_hand) N__law_hand) : Has P w K mg base (k + 1) "_law_hand" 1 dsp :=
  has_mk G.d__law_hand sc__law_hand rfl fun f cdv A outer s0 H E hr => by
    have hu := hr.units
    have hu1 : _ + 1 < cLine := Nat.lt_of_le_of_lt (Nat.add_le_add_left (by decide : 1 ≤ 64) _) hu
    exact ⟨RD.t__law_hand, (dss_cons (ds_setLc (i := 1) (own := [("cell", 2)]) rfl sc__law_hand.nd rfl rfl (sw_true rfl rfl rfl (by decide +kernel)) (di_seq (de_slice (dv 0) do_none (do_some de_int))) (blkOk_by (N := N__law_hand) (sc := defScope S__law_hand) (own := [("cell", 2)]) (by decide +kernel)) (by decide) (fun _ _ _ _ _ => (dg_name (i := 2) sc__law_hand.nd rfl (by first | exact .inl rfl | exact .inr rfl))) (fun _ _ _ _ _ => dts_nil) (fun _ _ _ _ _ => (de_abs (by rfl) G.z_abs (da_cons (de_int' (by rfl) G.z_int (da_cons (dv 2) da_nil)) da_nil))))
      (dss_one (ds_ret (de_lst (da_cons (dv 1) (da_cons de_int (da_cons de_int (da_cons (de_add de_int (de_len (by rfl) G.z_len (da_cons (dv 1) da_nil))) (da_cons de_int da_nil))))))))), hd⟩
theorem h__law_draw {dsp : DSp} (G : Glob K mg) (hd : Rd 2 dsp (RD.t__law_draw) N__law_draw) : Has P w K mg base (k + 1) "_law_draw" 2 dsp :=
  has_mk G.d__law_draw sc__law_draw rfl fun f cdv A outer s0 H E hr => by
    have hu := hr.units
    have hu1 : _ + 1 < cLine := Nat.lt_of_le_of_lt (Nat.add_le_add_left (by decide : 1 ≤ 64) _) hu
    exact ⟨RD.t__law_draw, (dss_cons (ds_if (dw_pt (dw_and (dt_cm (cm_eq hu) (nomark _) (de_ix (dv 0) de_int) de_int) (dw_and1 (dt_cm (cm_lt hu) (nomark _) (de_ix (dv 0) de_int) (de_len (by rfl) G.z_len (da_cons (de_ix (dv 0) de_int) da_nil)))))) (dss_cons (ds_set (i := 2) sc__law_draw.nd rfl (by first | exact .inl rfl | exact .inr rfl) (de_ix (de_ix (dv 0) de_int) (de_ix (dv 0) de_int)))
      (dss_cons (ds_asg (de_add (de_ix (dv 0) de_int) de_int) (dg_sub (dv 0) de_int set_list setL_ok))
      (dss_cons (ds_asg (de_mod (de_int' (by rfl) G.z_int (da_cons (de_add (de_add (de_mul (de_ix (dv 0) de_int) de_int) (dv 2)) de_int) da_nil)) de_int) (dg_sub (dv 0) de_int set_list setL_ok))
      (dss_one (ds_if (dt_cm (cm_ge hu) (nomark _) (dv 2) (de_pow de_int de_int)) (dss_one (ds_asg (dv 2) (dg_sub (dv 0) de_int set_list setL_ok))) dss_nil))))) dss_nil)
      (dss_cons (ds_if (dt_cm (cm_gt hu) (nomark _) (de_ix (dv 0) de_int) de_int) (dss_cons (ds_set (i := 3) sc__law_draw.nd rfl (by first | exact .inl rfl | exact .inr rfl) (de_mod (de_int' (by rfl) G.z_int (da_cons (de_ix (dv 0) de_int) da_nil)) (dv 1)))
      (dss_cons (ds_asg (de_div (de_ix (dv 0) de_int) (dv 1)) (dg_sub (dv 0) de_int set_list setL_ok))
      (dss_one (ds_ret (dv 3))))) dss_nil)
      (dss_cons (ds_asg (de_add (de_ix (dv 0) de_int) de_int) (dg_sub (dv 0) de_int set_list setL_ok))
      (dss_cons (ds_set (i := 4) sc__law_draw.nd rfl (by first | exact .inl rfl | exact .inr rfl) (de_mod (de_int' (by rfl) G.z_int (da_cons (de_mul (de_int' (by rfl) G.z_int (da_cons (de_add (de_ix (dv 0) de_int) (de_mul de_int (de_ix (dv 0) de_int))) da_nil)) de_int) da_nil)) de_int))
      (dss_cons (ds_set (i := 4) sc__law_draw.nd rfl (by first | exact .inl rfl | exact .inr rfl) (de_mod (de_int' (by rfl) G.z_int (da_cons (de_mul (dv 4) (de_add (de_div (dv 4) de_int) de_int)) da_nil)) de_int))
      (dss_cons (ds_set (i := 4) sc__law_draw.nd rfl (by first | exact .inl rfl | exact .inr rfl) (de_mod (de_int' (by rfl) G.z_int (da_cons (de_mul (dv 4) (de_add (de_div (dv 4) de_int) de_int)) da_nil)) de_int))
      (dss_one (ds_ret (de_mod (de_int' (by rfl) G.z_int (da_cons (de_div (dv 4) de_int) da_nil)) (dv 1)))))))))), hd⟩
theorem h__law_some {dsp : DSp} {s__law_draw : DSp} (G : Glob K mg) (H__law_draw : Has P w K mg base k "_law_draw" 2 s__law_draw) (hd : Rd 2 dsp (RD.t__law_some s__law_draw) N__law_some) : Has P w K mg base (k + 1) "_law_some" 2 dsp :=
  has_mk G.d__law_some sc__law_some rfl fun f cdv A outer s0 H E hr => by
    have hu := hr.units
    have hu1 : _ + 1 < cLine := Nat.lt_of_le_of_lt (Nat.add_le_add_left (by decide : 1 ≤ 64) _) hu
    exact ⟨RD.t__law_some s__law_draw, (dss_one (ds_ret (de_ix (dv 1) (de_call H__law_draw hr (by rfl) (pasT (takes_of rfl rfl rfl rfl)) (da_cons (dv 0) (da_cons (de_len (by rfl) G.z_len (da_cons (dv 1) da_nil)) da_nil)))))), hd⟩
theorem h__law_is {dsp : DSp} {s__law_is : DSp} (G : Glob K mg) (H__law_is : Has P w K mg base k "_law_is" 2 s__law_is) (hd : Rd 2 dsp (RD.t__law_is_k00n s__law_is) N__law_is) : Has P w K mg base (k + 1) "_law_is" 2 dsp :=
  has_mk G.d__law_is sc__law_is rfl fun f cdv A outer s0 H E hr => by
    have hu := hr.units
    have hu1 : _ + 1 < cLine := Nat.lt_of_le_of_lt (Nat.add_le_add_left (by decide : 1 ≤ 64) _) hu
    exact ⟨RD.t__law_is_k00n s__law_is, (dss_cons (ds_if (dt_tru (de_isi2 (by rfl) G.z_isinstance (dv 1) (pe_ty (by rfl) G.z_tuple PyProof.Rows.boot_tuple) (pe_ty (by rfl) G.z_list PyProof.Rows.boot_list))) (dss_cons (ds_if (dw_pt (dw_or (dt_cm (cm_ne hu) (nomark _) (de_isi (by rfl) G.z_isinstance (dv 0) (pe_ty (by rfl) G.z_tuple PyProof.Rows.boot_tuple)) (de_isi (by rfl) G.z_isinstance (dv 1) (pe_ty (by rfl) G.z_tuple PyProof.Rows.boot_tuple))) (dw_or1 (dt_cm (cm_ne hu) (nomark _) (de_isi (by rfl) G.z_isinstance (dv 0) (pe_ty (by rfl) G.z_list PyProof.Rows.boot_list)) (de_isi (by rfl) G.z_isinstance (dv 1) (pe_ty (by rfl) G.z_list PyProof.Rows.boot_list)))))) (dss_one (ds_ret de_bl)) dss_nil)
      (dss_one (ds_ret (de_and (de_cm (cm_eq hu) (nomark _) (de_len (by rfl) G.z_len (da_cons (dv 0) da_nil)) (de_len (by rfl) G.z_len (da_cons (dv 1) da_nil))) (de_one (de_all rfl (by rfl) G.z_all (da_cons (de_lc (own := [("k", 2)]) rfl sc__law_is.nd (di_range1 (by rfl) G.z_range (da_cons (de_len (by rfl) G.z_len (da_cons (dv 1) da_nil)) da_nil)) (blkOk_by (N := N__law_is) (sc := defScope S__law_is) (own := [("k", 2)]) (by decide +kernel)) (by decide) (fun _ _ _ _ _ => (dg_name (i := 2) sc__law_is.nd rfl (by first | exact .inl rfl | exact .inr rfl))) (fun _ _ _ _ _ => dts_nil) (fun _ _ _ _ _ => (de_call H__law_is hr (by rfl) pas0 (da_cons (de_ix (dv 0) (dv 2)) (da_cons (de_ix (dv 1) (dv 2)) da_nil))))) da_nil))))))) dss_nil)
      (dss_cons (ds_if (dt_tru (de_isi (by rfl) G.z_isinstance (dv 1) (pe_ty (by rfl) G.z_dict PyProof.Rows.boot_dict))) (dss_one (ds_ret (de_and (de_isi (by rfl) G.z_isinstance (dv 0) (pe_ty (by rfl) G.z_dict PyProof.Rows.boot_dict)) (de_and (de_cm (cm_eqF hu) (nomark _) (dv 0) (dv 1)) (de_one (de_all rfl (by rfl) G.z_all (da_cons (de_lc (own := [("key", 3)]) rfl sc__law_is.nd (di_keysF (dv 1)) (blkOk_by (N := N__law_is) (sc := defScope S__law_is) (own := [("key", 3)]) (by decide +kernel)) (by decide) (fun _ _ _ _ _ => (dg_name (i := 3) sc__law_is.nd rfl (by first | exact .inl rfl | exact .inr rfl))) (fun _ _ _ _ _ => dts_nil) (fun _ _ _ _ _ => (de_call H__law_is hr (by rfl) pas0 (da_cons (de_dgetF hu1 (dv 0) (dv 3)) (da_cons (de_dgetF hu1 (dv 1) (dv 3)) da_nil))))) da_nil))))))) dss_nil)
      (dss_one (ds_ret (de_and (de_cm (cm_eq hu) (nomark _) (de_isi (by rfl) G.z_isinstance (dv 0) (pe_ty (by rfl) G.z_bool PyProof.Rows.boot_bool)) (de_isi (by rfl) G.z_isinstance (dv 1) (pe_ty (by rfl) G.z_bool PyProof.Rows.boot_bool))) (de_one (de_cm (cm_eqF hu) (nomark _) (dv 0) (dv 1)))))))), hd⟩
theorem h__law_deep {dsp : DSp} (G : Glob K mg) (hd : Rd 1 dsp (RD.t__law_deep) N__law_deep) : Has P w K mg base (k + 1) "_law_deep" 1 dsp :=
  has_mk G.d__law_deep sc__law_deep rfl fun f cdv A outer s0 H E hr => by
    have hu := hr.units
    have hu1 : _ + 1 < cLine := Nat.lt_of_le_of_lt (Nat.add_le_add_left (by decide : 1 ≤ 64) _) hu
    exact ⟨RD.t__law_deep, (dss_cons (ds_set (i := 1) sc__law_deep.nd rfl (by first | exact .inl rfl | exact .inr rfl) de_non)
      (dss_cons (ds_for (passes_of rfl) rfl (di_range1 (by rfl) G.z_range (da_cons de_int da_nil)) (dg_name (i := 2) sc__law_deep.nd rfl (by first | exact .inl rfl | exact .inr rfl)) (dss_one (ds_set (i := 1) sc__law_deep.nd rfl (by first | exact .inl rfl | exact .inr rfl) (de_if (dt_cm (cm_eq hu) (nomark _) (dv 0) de_int) (de_lst (da_cons (dv 1) da_nil)) (de_tup (da_cons (dv 1) da_nil))))))
      (dss_one (ds_ret (dv 1))))), hd⟩
theorem h__law_first_classes {dsp : DSp} (G : Glob K mg) (hd : Rd 1 dsp (RD.t__law_first_classes) N__law_first_classes) : Has P w K mg base (k + 1) "_law_first_classes" 1 dsp :=
  has_mk G.d__law_first_classes sc__law_first_classes rfl fun f cdv A outer s0 H E hr => by
    have hu := hr.units
    have hu1 : _ + 1 < cLine := Nat.lt_of_le_of_lt (Nat.add_le_add_left (by decide : 1 ≤ 64) _) hu
    exact ⟨RD.t__law_first_classes, (dss_cons (ds_set (i := 1) sc__law_first_classes.nd rfl (by first | exact .inl rfl | exact .inr rfl) (de_lst (da_cons (de_isE (ms := EMS) (g := fun q => q == 1) (cv := .ref (errA 1)) (cu := .ref (errA 1)) (by rfl) G.z_isinstance G.ke_BadText (fun u r => r) (dv 0) (pe_glob (by rfl) G.g_BadText (show RelV (.ref (errA 1)) (.ref (errA 1)) from rfl))) (da_cons (de_isE (ms := EMS) (g := fun q => q == 2) (cv := .ref (errA 2)) (cu := .ref (errA 2)) (by rfl) G.z_isinstance G.ke_BadEntry (fun u r => r) (dv 0) (pe_glob (by rfl) G.g_BadEntry (show RelV (.ref (errA 2)) (.ref (errA 2)) from rfl))) (da_cons (de_isE (ms := EMS) (g := fun q => q == 3) (cv := .ref (errA 3)) (cu := .ref (errA 3)) (by rfl) G.z_isinstance G.ke_BadBook (fun u r => r) (dv 0) (pe_glob (by rfl) G.g_BadBook (show RelV (.ref (errA 3)) (.ref (errA 3)) from rfl))) da_nil)))))
      (dss_cons (ds_set (i := 1) sc__law_first_classes.nd rfl (by first | exact .inl rfl | exact .inr rfl) (de_add (dv 1) (de_lst (da_cons (de_isE (ms := EMS) (g := fun q => q == 4) (cv := .ref (errA 4)) (cu := .ref (errA 4)) (by rfl) G.z_isinstance G.ke_BadLine (fun u r => r) (dv 0) (pe_glob (by rfl) G.g_BadLine (show RelV (.ref (errA 4)) (.ref (errA 4)) from rfl))) (da_cons (de_isE (ms := EMS) (g := fun q => q == 5) (cv := .ref (errA 5)) (cu := .ref (errA 5)) (by rfl) G.z_isinstance G.ke_BadQuestion (fun u r => r) (dv 0) (pe_glob (by rfl) G.g_BadQuestion (show RelV (.ref (errA 5)) (.ref (errA 5)) from rfl))) (da_cons (de_isE (ms := EMS) (g := fun q => q == 6) (cv := .ref (errA 6)) (cu := .ref (errA 6)) (by rfl) G.z_isinstance G.ke_BadTask (fun u r => r) (dv 0) (pe_glob (by rfl) G.g_BadTask (show RelV (.ref (errA 6)) (.ref (errA 6)) from rfl))) da_nil))))))
      (dss_cons (ds_set (i := 1) sc__law_first_classes.nd rfl (by first | exact .inl rfl | exact .inr rfl) (de_add (dv 1) (de_lst (da_cons (de_isE (ms := EMS) (g := fun q => q == 7) (cv := .ref (errA 7)) (cu := .ref (errA 7)) (by rfl) G.z_isinstance G.ke_BadStep (fun u r => r) (dv 0) (pe_glob (by rfl) G.g_BadStep (show RelV (.ref (errA 7)) (.ref (errA 7)) from rfl))) (da_cons (de_isE (ms := EMS) (g := fun q => q == 8) (cv := .ref (errA 8)) (cu := .ref (errA 8)) (by rfl) G.z_isinstance G.ke_TooMany (fun u r => r) (dv 0) (pe_glob (by rfl) G.g_TooMany (show RelV (.ref (errA 8)) (.ref (errA 8)) from rfl))) (da_cons (de_isE (ms := EMS) (g := fun q => q == 9) (cv := .ref (errA 9)) (cu := .ref (errA 9)) (by rfl) G.z_isinstance G.ke_NotFitting (fun u r => r) (dv 0) (pe_glob (by rfl) G.g_NotFitting (show RelV (.ref (errA 9)) (.ref (errA 9)) from rfl))) da_nil))))))
      (dss_cons (ds_set (i := 1) sc__law_first_classes.nd rfl (by first | exact .inl rfl | exact .inr rfl) (de_add (dv 1) (de_lst (da_cons (de_isE (ms := EMS) (g := fun q => q == 10) (cv := .ref (errA 10)) (cu := .ref (errA 10)) (by rfl) G.z_isinstance G.ke_NotGiven (fun u r => r) (dv 0) (pe_glob (by rfl) G.g_NotGiven (show RelV (.ref (errA 10)) (.ref (errA 10)) from rfl))) (da_cons (de_isE (ms := EMS) (g := fun q => q == 11) (cv := .ref (errA 11)) (cu := .ref (errA 11)) (by rfl) G.z_isinstance G.ke_NotFirst (fun u r => r) (dv 0) (pe_glob (by rfl) G.g_NotFirst (show RelV (.ref (errA 11)) (.ref (errA 11)) from rfl))) (da_cons (de_isE (ms := EMS) (g := fun q => q == 36) (cv := .ref (errA 36)) (cu := .ref (errA 36)) (by rfl) G.z_isinstance G.ke_NotFetched (fun u r => r) (dv 0) (pe_glob (by rfl) G.g_NotFetched (show RelV (.ref (errA 36)) (.ref (errA 36)) from rfl))) da_nil))))))
      (dss_one (ds_ret (de_add (dv 1) (de_lst (da_cons (de_isE (ms := EMS) (g := fun q => q == 37) (cv := .ref (errA 37)) (cu := .ref (errA 37)) (by rfl) G.z_isinstance G.ke_NoBuild (fun u r => r) (dv 0) (pe_glob (by rfl) G.g_NoBuild (show RelV (.ref (errA 37)) (.ref (errA 37)) from rfl))) (da_cons (de_isE (ms := EMS) (g := fun q => q == 38) (cv := .ref (errA 38)) (cu := .ref (errA 38)) (by rfl) G.z_isinstance G.ke_Ringed (fun u r => r) (dv 0) (pe_glob (by rfl) G.g_Ringed (show RelV (.ref (errA 38)) (.ref (errA 38)) from rfl))) da_nil)))))))))), hd⟩
theorem h__law_classes {dsp : DSp} {s__law_first_classes : DSp} (G : Glob K mg) (H__law_first_classes : Has P w K mg base k "_law_first_classes" 1 s__law_first_classes) (hd : Rd 1 dsp (RD.t__law_classes s__law_first_classes) N__law_classes) : Has P w K mg base (k + 1) "_law_classes" 1 dsp :=
  has_mk G.d__law_classes sc__law_classes rfl fun f cdv A outer s0 H E hr => by
    have hu := hr.units
    have hu1 : _ + 1 < cLine := Nat.lt_of_le_of_lt (Nat.add_le_add_left (by decide : 1 ≤ 64) _) hu
    exact ⟨RD.t__law_classes s__law_first_classes, (dss_cons (ds_set (i := 1) sc__law_classes.nd rfl (by first | exact .inl rfl | exact .inr rfl) (de_add (de_call H__law_first_classes hr (by rfl) (pasT (takes_of rfl rfl rfl rfl)) (da_cons (dv 0) da_nil)) (de_lst (da_cons (de_isE (ms := EMS) (g := fun q => q == 12) (cv := .ref (errA 12)) (cu := .ref (errA 12)) (by rfl) G.z_isinstance G.ke_NoFeatures (fun u r => r) (dv 0) (pe_glob (by rfl) G.g_NoFeatures (show RelV (.ref (errA 12)) (.ref (errA 12)) from rfl))) (da_cons (de_isE (ms := EMS) (g := fun q => q == 13) (cv := .ref (errA 13)) (cu := .ref (errA 13)) (by rfl) G.z_isinstance G.ke_NoEntry (fun u r => r) (dv 0) (pe_glob (by rfl) G.g_NoEntry (show RelV (.ref (errA 13)) (.ref (errA 13)) from rfl))) da_nil)))))
      (dss_cons (ds_set (i := 1) sc__law_classes.nd rfl (by first | exact .inl rfl | exact .inr rfl) (de_add (dv 1) (de_lst (da_cons (de_isE (ms := EMS) (g := fun q => q == 14) (cv := .ref (errA 14)) (cu := .ref (errA 14)) (by rfl) G.z_isinstance G.ke_NotRight (fun u r => r) (dv 0) (pe_glob (by rfl) G.g_NotRight (show RelV (.ref (errA 14)) (.ref (errA 14)) from rfl))) (da_cons (de_isE (ms := EMS) (g := fun q => q == 15) (cv := .ref (errA 15)) (cu := .ref (errA 15)) (by rfl) G.z_isinstance G.ke_NotThere (fun u r => r) (dv 0) (pe_glob (by rfl) G.g_NotThere (show RelV (.ref (errA 15)) (.ref (errA 15)) from rfl))) (da_cons (de_isE (ms := EMS) (g := fun q => q == 16) (cv := .ref (errA 16)) (cu := .ref (errA 16)) (by rfl) G.z_isinstance G.ke_NotClosed (fun u r => r) (dv 0) (pe_glob (by rfl) G.g_NotClosed (show RelV (.ref (errA 16)) (.ref (errA 16)) from rfl))) da_nil))))))
      (dss_cons (ds_set (i := 1) sc__law_classes.nd rfl (by first | exact .inl rfl | exact .inr rfl) (de_add (dv 1) (de_lst (da_cons (de_isE (ms := EMS) (g := fun q => q == 17) (cv := .ref (errA 17)) (cu := .ref (errA 17)) (by rfl) G.z_isinstance G.ke_NoSource (fun u r => r) (dv 0) (pe_glob (by rfl) G.g_NoSource (show RelV (.ref (errA 17)) (.ref (errA 17)) from rfl))) (da_cons (de_isE (ms := EMS) (g := fun q => q == 18) (cv := .ref (errA 18)) (cu := .ref (errA 18)) (by rfl) G.z_isinstance G.ke_NoStand (fun u r => r) (dv 0) (pe_glob (by rfl) G.g_NoStand (show RelV (.ref (errA 18)) (.ref (errA 18)) from rfl))) (da_cons (de_isE (ms := EMS) (g := fun q => q == 19) (cv := .ref (errA 19)) (cu := .ref (errA 19)) (by rfl) G.z_isinstance G.ke_NoGivens (fun u r => r) (dv 0) (pe_glob (by rfl) G.g_NoGivens (show RelV (.ref (errA 19)) (.ref (errA 19)) from rfl))) da_nil))))))
      (dss_cons (ds_set (i := 1) sc__law_classes.nd rfl (by first | exact .inl rfl | exact .inr rfl) (de_add (dv 1) (de_lst (da_cons (de_isE (ms := EMS) (g := fun q => q == 20) (cv := .ref (errA 20)) (cu := .ref (errA 20)) (by rfl) G.z_isinstance G.ke_NoLiteral (fun u r => r) (dv 0) (pe_glob (by rfl) G.g_NoLiteral (show RelV (.ref (errA 20)) (.ref (errA 20)) from rfl))) (da_cons (de_isE (ms := EMS) (g := fun q => q == 21) (cv := .ref (errA 21)) (cu := .ref (errA 21)) (by rfl) G.z_isinstance G.ke_NoPaper (fun u r => r) (dv 0) (pe_glob (by rfl) G.g_NoPaper (show RelV (.ref (errA 21)) (.ref (errA 21)) from rfl))) (da_cons (de_isE (ms := EMS) (g := fun q => q == 22) (cv := .ref (errA 22)) (cu := .ref (errA 22)) (by rfl) G.z_isinstance G.ke_NoSources (fun u r => r) (dv 0) (pe_glob (by rfl) G.g_NoSources (show RelV (.ref (errA 22)) (.ref (errA 22)) from rfl))) da_nil))))))
      (dss_cons (ds_set (i := 1) sc__law_classes.nd rfl (by first | exact .inl rfl | exact .inr rfl) (de_add (dv 1) (de_lst (da_cons (de_isE (ms := EMS) (g := fun q => q == 23) (cv := .ref (errA 23)) (cu := .ref (errA 23)) (by rfl) G.z_isinstance G.ke_NoName (fun u r => r) (dv 0) (pe_glob (by rfl) G.g_NoName (show RelV (.ref (errA 23)) (.ref (errA 23)) from rfl))) (da_cons (de_isE (ms := EMS) (g := fun q => q == 24) (cv := .ref (errA 24)) (cu := .ref (errA 24)) (by rfl) G.z_isinstance G.ke_NoNumber (fun u r => r) (dv 0) (pe_glob (by rfl) G.g_NoNumber (show RelV (.ref (errA 24)) (.ref (errA 24)) from rfl))) (da_cons (de_isE (ms := EMS) (g := fun q => q == 25) (cv := .ref (errA 25)) (cu := .ref (errA 25)) (by rfl) G.z_isinstance G.ke_NotEntry (fun u r => r) (dv 0) (pe_glob (by rfl) G.g_NotEntry (show RelV (.ref (errA 25)) (.ref (errA 25)) from rfl))) da_nil))))))
      (dss_cons (ds_set (i := 1) sc__law_classes.nd rfl (by first | exact .inl rfl | exact .inr rfl) (de_add (dv 1) (de_lst (da_cons (de_isE (ms := EMS) (g := fun q => q == 26) (cv := .ref (errA 26)) (cu := .ref (errA 26)) (by rfl) G.z_isinstance G.ke_NotQuestion (fun u r => r) (dv 0) (pe_glob (by rfl) G.g_NotQuestion (show RelV (.ref (errA 26)) (.ref (errA 26)) from rfl))) (da_cons (de_isE (ms := EMS) (g := fun q => q == 27) (cv := .ref (errA 27)) (cu := .ref (errA 27)) (by rfl) G.z_isinstance G.ke_NothingDone (fun u r => r) (dv 0) (pe_glob (by rfl) G.g_NothingDone (show RelV (.ref (errA 27)) (.ref (errA 27)) from rfl))) (da_cons (de_isE (ms := EMS) (g := fun q => q == 28) (cv := .ref (errA 28)) (cu := .ref (errA 28)) (by rfl) G.z_isinstance G.ke_NoText (fun u r => r) (dv 0) (pe_glob (by rfl) G.g_NoText (show RelV (.ref (errA 28)) (.ref (errA 28)) from rfl))) da_nil))))))
      (dss_cons (ds_set (i := 1) sc__law_classes.nd rfl (by first | exact .inl rfl | exact .inr rfl) (de_add (dv 1) (de_lst (da_cons (de_isE (ms := EMS) (g := fun q => q == 29) (cv := .ref (errA 29)) (cu := .ref (errA 29)) (by rfl) G.z_isinstance G.ke_NoStart (fun u r => r) (dv 0) (pe_glob (by rfl) G.g_NoStart (show RelV (.ref (errA 29)) (.ref (errA 29)) from rfl))) (da_cons (de_isE (ms := EMS) (g := fun q => q == 30) (cv := .ref (errA 30)) (cu := .ref (errA 30)) (by rfl) G.z_isinstance G.ke_NoStop (fun u r => r) (dv 0) (pe_glob (by rfl) G.g_NoStop (show RelV (.ref (errA 30)) (.ref (errA 30)) from rfl))) (da_cons (de_isE (ms := EMS) (g := fun q => q == 31) (cv := .ref (errA 31)) (cu := .ref (errA 31)) (by rfl) G.z_isinstance G.ke_NotSafe (fun u r => r) (dv 0) (pe_glob (by rfl) G.g_NotSafe (show RelV (.ref (errA 31)) (.ref (errA 31)) from rfl))) da_nil))))))
      (dss_cons (ds_set (i := 1) sc__law_classes.nd rfl (by first | exact .inl rfl | exact .inr rfl) (de_add (dv 1) (de_lst (da_cons (de_isE (ms := EMS) (g := fun q => q == 32) (cv := .ref (errA 32)) (cu := .ref (errA 32)) (by rfl) G.z_isinstance G.ke_NoDeed (fun u r => r) (dv 0) (pe_glob (by rfl) G.g_NoDeed (show RelV (.ref (errA 32)) (.ref (errA 32)) from rfl))) (da_cons (de_isE (ms := EMS) (g := fun q => q == 33) (cv := .ref (errA 33)) (cu := .ref (errA 33)) (by rfl) G.z_isinstance G.ke_NoContents (fun u r => r) (dv 0) (pe_glob (by rfl) G.g_NoContents (show RelV (.ref (errA 33)) (.ref (errA 33)) from rfl))) (da_cons (de_isE (ms := EMS) (g := fun q => q == 34) (cv := .ref (errA 34)) (cu := .ref (errA 34)) (by rfl) G.z_isinstance G.ke_NoMirrors (fun u r => r) (dv 0) (pe_glob (by rfl) G.g_NoMirrors (show RelV (.ref (errA 34)) (.ref (errA 34)) from rfl))) da_nil))))))
      (dss_one (ds_ret (de_add (dv 1) (de_lst (da_cons (de_isE (ms := EMS) (g := fun q => q == 35) (cv := .ref (errA 35)) (cu := .ref (errA 35)) (by rfl) G.z_isinstance G.ke_NoManifest (fun u r => r) (dv 0) (pe_glob (by rfl) G.g_NoManifest (show RelV (.ref (errA 35)) (.ref (errA 35)) from rfl))) (da_cons (de_isE (ms := EMS) (g := fun q => q == 39) (cv := .ref (errA 39)) (cu := .ref (errA 39)) (by rfl) G.z_isinstance G.ke_NoMachine (fun u r => r) (dv 0) (pe_glob (by rfl) G.g_NoMachine (show RelV (.ref (errA 39)) (.ref (errA 39)) from rfl))) (da_cons (de_isE (ms := EMS) (g := fun q => q == 40) (cv := .ref (errA 40)) (cu := .ref (errA 40)) (by rfl) G.z_isinstance G.ke_NoRollout (fun u r => r) (dv 0) (pe_glob (by rfl) G.g_NoRollout (show RelV (.ref (errA 40)) (.ref (errA 40)) from rfl))) da_nil))))))))))))))), hd⟩
theorem h__law_field {dsp : DSp} (G : Glob K mg) (hd : Rd 2 dsp (RD.t__law_field) N__law_field) : Has P w K mg base (k + 1) "_law_field" 2 dsp :=
  has_mk G.d__law_field sc__law_field rfl fun f cdv A outer s0 H E hr => by
    have hu := hr.units
    have hu1 : _ + 1 < cLine := Nat.lt_of_le_of_lt (Nat.add_le_add_left (by decide : 1 ≤ 64) _) hu
    exact ⟨RD.t__law_field, (dss_cons (ds_if (dt_cm cm_in (by rfl) (dv 1) (de_tup (da_cons de_int (da_cons de_int da_nil)))) (dss_one (ds_ret (de_erF (ms := [1, 3]) (all_cons ⟨G.ef_BadText.xf, G.no_BadText⟩ (all_cons ⟨G.ef_BadBook.xf, G.no_BadBook⟩ (fun _ h => nomatch h))) (dv 0)))) dss_nil)
      (dss_cons (ds_if (dt_cm cm_in (by rfl) (dv 1) (de_tup (da_cons de_int (da_cons de_int (da_cons de_int da_nil))))) (dss_one (ds_ret (de_erF (ms := [2, 5, 6]) (all_cons ⟨G.ef_BadEntry.xf, G.no_BadEntry⟩ (all_cons ⟨G.ef_BadQuestion.xf, G.no_BadQuestion⟩ (all_cons ⟨G.ef_BadTask.xf, G.no_BadTask⟩ (fun _ h => nomatch h)))) (dv 0)))) dss_nil)
      (dss_cons (ds_if (dt_cm cm_in (by rfl) (dv 1) (de_tup (da_cons de_int (da_cons de_int da_nil)))) (dss_one (ds_ret (de_erF (ms := [4, 7]) (all_cons ⟨G.ef_BadLine.xf, G.no_BadLine⟩ (all_cons ⟨G.ef_BadStep.xf, G.no_BadStep⟩ (fun _ h => nomatch h))) (dv 0)))) dss_nil)
      (dss_cons (ds_if (dt_cm cm_in (by rfl) (dv 1) (de_tup (da_cons de_int (da_cons de_int da_nil)))) (dss_one (ds_ret (de_if (dt_cm (cm_eq hu) (nomark _) (dv 1) de_int) (de_erF (ms := [8]) (all_cons ⟨G.ef_TooMany.xf, G.no_TooMany⟩ (fun _ h => nomatch h)) (dv 0)) (de_erF (ms := [9]) (all_cons ⟨G.ef_NotFitting.xf, G.no_NotFitting⟩ (fun _ h => nomatch h)) (dv 0))))) dss_nil)
      (dss_cons (ds_if (dt_cm cm_in (by rfl) (dv 1) (de_tup (da_cons de_int (da_cons de_int da_nil)))) (dss_one (ds_ret (de_if (dt_cm (cm_eq hu) (nomark _) (dv 1) de_int) (de_erF (ms := [10]) (all_cons ⟨G.ef_NotGiven.xf, G.no_NotGiven⟩ (fun _ h => nomatch h)) (dv 0)) (de_erF (ms := [11]) (all_cons ⟨G.ef_NotFirst.xf, G.no_NotFirst⟩ (fun _ h => nomatch h)) (dv 0))))) dss_nil)
      (dss_cons (ds_if (dt_cm (cm_eq hu) (nomark _) (dv 1) de_int) (dss_one (ds_ret (de_erF (ms := [36]) (all_cons ⟨G.ef_NotFetched.xf, G.no_NotFetched⟩ (fun _ h => nomatch h)) (dv 0)))) dss_nil)
      (dss_one (ds_ret (de_if (dt_cm (cm_eq hu) (nomark _) (dv 1) de_int) (de_erF (ms := [37]) (all_cons ⟨G.ef_NoBuild.xf, G.no_NoBuild⟩ (fun _ h => nomatch h)) (dv 0)) (de_erF (ms := [38]) (all_cons ⟨G.ef_Ringed.xf, G.no_Ringed⟩ (fun _ h => nomatch h)) (dv 0))))))))))), hd⟩
theorem h__law_raised {dsp : DSp} (G : Glob K mg) (E_BadText : Er1 P w K mg base 1 "BadText" "index") (E_BadLine : Er1 P w K mg base 4 "BadLine" "number") (E_NotFitting : Er1 P w K mg base 9 "NotFitting" "source") (E_Ringed : Er1 P w K mg base 38 "Ringed" "names") (hk : 2 ≤ k) (hd : Rd 2 dsp (RD.t__law_raised_k00n) N__law_raised) : Has P w K mg base (k + 1) "_law_raised" 2 dsp :=
  has_mk G.d__law_raised sc__law_raised rfl fun f cdv A outer s0 H E hr => by
    have hu := hr.units
    have hu1 : _ + 1 < cLine := Nat.lt_of_le_of_lt (Nat.add_le_add_left (by decide : 1 ≤ 64) _) hu
    exact ⟨RD.t__law_raised_k00n, (dss_cons (ds_set (i := 2) sc__law_raised.nd rfl (by first | exact .inl rfl | exact .inr rfl) de_non)
      (dss_cons (ds_try_as (ms := [1, 4, 9, 38]) (i := 3) rfl rfl sc__law_raised.nd rfl rfl ⟨by rfl, by decide, .inl G.g_LockError⟩ (takes_of rfl rfl rfl rfl) (all_cons G.xm_BadText_LockError (all_cons G.xm_BadLine_LockError (all_cons G.xm_NotFitting_LockError (all_cons G.xm_Ringed_LockError (fun _ h => nomatch h))))) (fun W pn xe tk po => (dss_cons (ds_if (dt_cm (cm_eq hu) (nomark _) (dv 0) de_int) (dss_one (ds_raise1 rfl tk E_BadText hr hk (by rfl) (dv 1))) dss_nil)
      (dss_cons (ds_if (dt_cm (cm_eq hu) (nomark _) (dv 0) de_int) (dss_one (ds_raise1 rfl tk E_BadLine hr hk (by rfl) (dv 1))) dss_nil)
      (dss_cons (ds_if (dt_cm (cm_eq hu) (nomark _) (dv 0) de_int) (dss_one (ds_raise1 rfl tk E_Ringed hr hk (by rfl) (dv 1))) dss_nil)
      (dss_one (ds_raise1 rfl tk E_NotFitting hr hk (by rfl) (dv 1))))))) (fun TC' a oe x d pn hT hz hv hd => by exact ((dss_cons (ds_set (i := 2) sc__law_raised.nd rfl (by first | exact .inl rfl | exact .inr rfl) (de_if (dt_tru (de_xi (X := XDef P w K mg base N__law_raised "_law_raised" S__law_raised f cdv A outer s0 H E) (a := a) (oe := oe) (pn := pn) (xx := x) (d := d) (tbl := [(1, true), (4, false), (9, false), (38, false)]) (cv := .ref (errA 1)) (cu := .ref (errA 1)) hT (by rfl) G.z_isinstance (all_cons ⟨G.ef_BadText, G.kt_BadText_BadText⟩ (all_cons ⟨G.ef_BadLine, G.kt_BadLine_BadText⟩ (all_cons ⟨G.ef_NotFitting, G.kt_NotFitting_BadText⟩ (all_cons ⟨G.ef_Ringed, G.kt_Ringed_BadText⟩ (fun _ h => nomatch h))))) (fun u r => r) hz hv (dv 3) (pe_glob (by rfl) G.g_BadText (show RelV (.ref (errA 1)) (.ref (errA 1)) from rfl)))) (de_xf (X := XDef P w K mg base N__law_raised "_law_raised" S__law_raised f cdv A outer s0 H E) (a := a) (oe := oe) (pn := pn) (xx := x) (d := d) (m := 1) hT G.ef_BadText.xf G.no_BadText hz hv hd (dv 3)) (de_lst (da_cons (dv 3) da_nil))))
      (dss_one (ds_if (dt_tru (de_xi (X := XDef P w K mg base N__law_raised "_law_raised" S__law_raised f cdv A outer s0 H E) (a := a) (oe := oe) (pn := pn) (xx := x) (d := d) (tbl := [(1, false), (4, true), (9, false), (38, false)]) (cv := .ref (errA 4)) (cu := .ref (errA 4)) hT (by rfl) G.z_isinstance (all_cons ⟨G.ef_BadText, G.kt_BadText_BadLine⟩ (all_cons ⟨G.ef_BadLine, G.kt_BadLine_BadLine⟩ (all_cons ⟨G.ef_NotFitting, G.kt_NotFitting_BadLine⟩ (all_cons ⟨G.ef_Ringed, G.kt_Ringed_BadLine⟩ (fun _ h => nomatch h))))) (fun u r => r) hz hv (dv 3) (pe_glob (by rfl) G.g_BadLine (show RelV (.ref (errA 4)) (.ref (errA 4)) from rfl)))) (dss_one (ds_set (i := 2) sc__law_raised.nd rfl (by first | exact .inl rfl | exact .inr rfl) (de_xf (X := XDef P w K mg base N__law_raised "_law_raised" S__law_raised f cdv A outer s0 H E) (a := a) (oe := oe) (pn := pn) (xx := x) (d := d) (m := 4) hT G.ef_BadLine.xf G.no_BadLine hz hv hd (dv 3)))) (dss_one (ds_if (dt_tru (de_xi (X := XDef P w K mg base N__law_raised "_law_raised" S__law_raised f cdv A outer s0 H E) (a := a) (oe := oe) (pn := pn) (xx := x) (d := d) (tbl := [(1, false), (4, false), (9, false), (38, true)]) (cv := .ref (errA 38)) (cu := .ref (errA 38)) hT (by rfl) G.z_isinstance (all_cons ⟨G.ef_BadText, G.kt_BadText_Ringed⟩ (all_cons ⟨G.ef_BadLine, G.kt_BadLine_Ringed⟩ (all_cons ⟨G.ef_NotFitting, G.kt_NotFitting_Ringed⟩ (all_cons ⟨G.ef_Ringed, G.kt_Ringed_Ringed⟩ (fun _ h => nomatch h))))) (fun u r => r) hz hv (dv 3) (pe_glob (by rfl) G.g_Ringed (show RelV (.ref (errA 38)) (.ref (errA 38)) from rfl)))) (dss_one (ds_set (i := 2) sc__law_raised.nd rfl (by first | exact .inl rfl | exact .inr rfl) (de_xf (X := XDef P w K mg base N__law_raised "_law_raised" S__law_raised f cdv A outer s0 H E) (a := a) (oe := oe) (pn := pn) (xx := x) (d := d) (m := 38) hT G.ef_Ringed.xf G.no_Ringed hz hv hd (dv 3)))) (dss_one (ds_if (dt_tru (de_xi (X := XDef P w K mg base N__law_raised "_law_raised" S__law_raised f cdv A outer s0 H E) (a := a) (oe := oe) (pn := pn) (xx := x) (d := d) (tbl := [(1, false), (4, false), (9, true), (38, false)]) (cv := .ref (errA 9)) (cu := .ref (errA 9)) hT (by rfl) G.z_isinstance (all_cons ⟨G.ef_BadText, G.kt_BadText_NotFitting⟩ (all_cons ⟨G.ef_BadLine, G.kt_BadLine_NotFitting⟩ (all_cons ⟨G.ef_NotFitting, G.kt_NotFitting_NotFitting⟩ (all_cons ⟨G.ef_Ringed, G.kt_Ringed_NotFitting⟩ (fun _ h => nomatch h))))) (fun u r => r) hz hv (dv 3) (pe_glob (by rfl) G.g_NotFitting (show RelV (.ref (errA 9)) (.ref (errA 9)) from rfl)))) (dss_one (ds_set (i := 2) sc__law_raised.nd rfl (by first | exact .inl rfl | exact .inr rfl) (de_xf (X := XDef P w K mg base N__law_raised "_law_raised" S__law_raised f cdv A outer s0 H E) (a := a) (oe := oe) (pn := pn) (xx := x) (d := d) (m := 9) hT G.ef_NotFitting.xf G.no_NotFitting hz hv hd (dv 3)))) dss_nil))))))))))
      (dss_one (ds_ret (dv 2))))), hd⟩
theorem h__law_right {dsp : DSp} {s__law_is : DSp} {s__law_classes : DSp} {s__law_field : DSp} (G : Glob K mg) (H__law_is : Has P w K mg base k "_law_is" 2 s__law_is) (H__law_classes : Has P w K mg base k "_law_classes" 1 s__law_classes) (H__law_field : Has P w K mg base k "_law_field" 2 s__law_field) (hd : Rd 3 dsp (RD.t__law_right s__law_is s__law_classes s__law_field) N__law_right) : Has P w K mg base (k + 1) "_law_right" 3 dsp :=
  has_mk G.d__law_right sc__law_right rfl fun f cdv A outer s0 H E hr => by
    have hu := hr.units
    have hu1 : _ + 1 < cLine := Nat.lt_of_le_of_lt (Nat.add_le_add_left (by decide : 1 ≤ 64) _) hu
    exact ⟨RD.t__law_right s__law_is s__law_classes s__law_field, (dss_cons (ds_set (i := 3) sc__law_right.nd rfl (by first | exact .inl rfl | exact .inr rfl) (de_call H__law_classes hr (by rfl) (pasT (takes_of rfl rfl rfl rfl)) (da_cons (dv 0) da_nil)))
      (dss_cons (ds_if (dw_pt (dw_or (dt_not (dt_tru (de_ix (dv 3) (dv 1)))) (dw_or (dt_cm (cm_ne hu) (nomark _) (de_bm PySem.F.plainAttrs_list PySem.F.slot_list_count PySem.F.type_list_count mt_countB countB_ok (dv 3) (da_cons de_bl da_nil)) de_int) (dw_or1 (dt_cm (cm_ne hu) (nomark _) (de_len (by rfl) G.z_len (da_cons (dv 3) da_nil)) de_int))))) (dss_one (ds_ret de_bl)) dss_nil)
      (dss_cons (ds_if (dw_pt (dw_or (dt_not (dt_tru (de_isE (ms := EMS) (g := fun _ => true) (cv := .ref (errA 0)) (cu := .ref (errA 0)) (by rfl) G.z_isinstance G.ke_LockError (fun u r => r) (dv 0) (pe_glob (by rfl) G.g_LockError (show RelV (.ref (errA 0)) (.ref (errA 0)) from rfl))))) (dw_or1 (dt_not (dt_tru (de_isE (ms := EMS) (g := fun _ => true) (cv := .ty "ValueError") (cu := .type "ValueError") (by rfl) G.z_isinstance G.ke_ValueError (fun u r => r) (dv 0) (pe_bltn (by rfl) G.z_ValueError boot_ValueError (show RelV (.ty "ValueError") (.type "ValueError") from rfl)))))))) (dss_one (ds_ret de_bl)) dss_nil)
      (dss_one (ds_ret (de_or (de_cm (cm_gt hu) (nomark _) (dv 1) de_int) (de_one (de_call H__law_is hr (by rfl) (pasT (takes_of rfl rfl rfl rfl)) (da_cons (de_lst (da_cons (de_call H__law_field hr (by rfl) (pasT (takes_of rfl rfl rfl rfl)) (da_cons (dv 0) (da_cons (dv 1) da_nil))) da_nil)) (da_cons (de_lst (da_cons (dv 2) da_nil)) da_nil)))))))))), hd⟩
theorem h_law {dsp : DSp} {s_Book___init__ : DSp} {s_Book___eq__ : DSp} {s__law_hand : DSp} {s__law_draw : DSp} {s__law_some : DSp} {s__law_is : DSp} {s__law_deep : DSp} {s__law_raised : DSp} {s__law_right : DSp} {f : Addr} {fd : FuncData} (G : Glob K mg) (F : Fun K "law" "law" S_law f fd) {j_Book___init__ : Nat} (H_Book___init__ : HasM P w K mg base j_Book___init__ 101 "__init__" 2 s_Book___init__) (hk1_Book___init__ : j_Book___init__ + 1 ≤ k) (H_Book___eq__ : HasM P w K mg base k 101 "__eq__" 2 s_Book___eq__) (H__law_hand : Has P w K mg base k "_law_hand" 1 s__law_hand) (H__law_draw : Has P w K mg base k "_law_draw" 2 s__law_draw) (H__law_some : Has P w K mg base k "_law_some" 2 s__law_some) (H__law_is : Has P w K mg base k "_law_is" 2 s__law_is) (H__law_deep : Has P w K mg base k "_law_deep" 1 s__law_deep) (H__law_raised : Has P w K mg base k "_law_raised" 2 s__law_raised) (H__law_right : Has P w K mg base k "_law_right" 3 s__law_right) (E_BadText : Er1 P w K mg base 1 "BadText" "index") (E_BadEntry : Er1 P w K mg base 2 "BadEntry" "part") (E_BadBook : Er1 P w K mg base 3 "BadBook" "index") (E_BadLine : Er1 P w K mg base 4 "BadLine" "number") (E_BadQuestion : Er1 P w K mg base 5 "BadQuestion" "part") (E_BadTask : Er1 P w K mg base 6 "BadTask" "part") (E_BadStep : Er1 P w K mg base 7 "BadStep" "number") (E_TooMany : Er1 P w K mg base 8 "TooMany" "most") (E_NotFitting : Er1 P w K mg base 9 "NotFitting" "source") (E_NotGiven : Er1 P w K mg base 10 "NotGiven" "literal") (E_NotFirst : Er1 P w K mg base 11 "NotFirst" "place") (E_NoFeatures : Er0 P w K mg base 12 "NoFeatures") (E_NoEntry : Er0 P w K mg base 13 "NoEntry") (E_NotRight : Er0 P w K mg base 14 "NotRight") (E_NotThere : Er0 P w K mg base 15 "NotThere") (E_NotClosed : Er0 P w K mg base 16 "NotClosed") (E_NoSource : Er0 P w K mg base 17 "NoSource") (E_NoStand : Er0 P w K mg base 18 "NoStand") (E_NoGivens : Er0 P w K mg base 19 "NoGivens") (E_NoLiteral : Er0 P w K mg base 20 "NoLiteral") (E_NoPaper : Er0 P w K mg base 21 "NoPaper") (E_NoSources : Er0 P w K mg base 22 "NoSources") (E_NoName : Er0 P w K mg base 23 "NoName") (E_NoNumber : Er0 P w K mg base 24 "NoNumber") (E_NotEntry : Er0 P w K mg base 25 "NotEntry") (E_NotQuestion : Er0 P w K mg base 26 "NotQuestion") (E_NothingDone : Er0 P w K mg base 27 "NothingDone") (E_NoText : Er0 P w K mg base 28 "NoText") (E_NoStart : Er0 P w K mg base 29 "NoStart") (E_NoStop : Er0 P w K mg base 30 "NoStop") (E_NotSafe : Er0 P w K mg base 31 "NotSafe") (E_NoDeed : Er0 P w K mg base 32 "NoDeed") (E_NoContents : Er0 P w K mg base 33 "NoContents") (E_NoMirrors : Er0 P w K mg base 34 "NoMirrors") (E_NoManifest : Er0 P w K mg base 35 "NoManifest") (E_NotFetched : Er1 P w K mg base 36 "NotFetched" "pair") (E_NoBuild : Er1 P w K mg base 37 "NoBuild" "name") (E_Ringed : Er1 P w K mg base 38 "Ringed" "names") (E_NoMachine : Er0 P w K mg base 39 "NoMachine") (E_NoRollout : Er0 P w K mg base 40 "NoRollout") (hk : 2 ≤ k) (hd : Rd 1 dsp (RD.t_law s_Book___init__ s_Book___eq__ s__law_hand s__law_draw s__law_some s__law_is s__law_deep s__law_raised s__law_right) N_law) : FnOk P w K mg base (L2.CX P w) (k + 1) f fd ["script"] (liftSp K 1 dsp) :=
  fn_mk F sc_law rfl fun f cdv A outer s0 H E hr => by
    have hu := hr.units
    have hu1 : _ + 1 < cLine := Nat.lt_of_le_of_lt (Nat.add_le_add_left (by decide : 1 ≤ 64) _) hu
    exact ⟨RD.t_law s_Book___init__ s_Book___eq__ s__law_hand s__law_draw s__law_some s__law_is s__law_deep s__law_raised s__law_right, (dss_cons (ds_set (i := 1) sc_law.nd rfl (by first | exact .inl rfl | exact .inr rfl) (de_call H__law_hand hr (by rfl) (pasT (takes_of rfl rfl rfl rfl)) (da_cons (dv 0) da_nil)))
      (dss_cons (ds_set (i := 2) sc_law.nd rfl (by first | exact .inl rfl | exact .inr rfl) (de_lst (da_cons de_str (da_cons de_str (da_cons de_int (da_cons (de_neg de_int) (da_cons de_int (da_cons de_non (da_cons de_bl (da_cons (de_tup (da_cons de_str (da_cons de_int da_nil))) (da_cons (de_tup (da_cons de_int (da_cons de_int (da_cons de_int da_nil)))) (da_cons (de_lst (da_cons de_int (da_cons (de_lst (da_cons de_int da_nil)) da_nil))) (da_cons (de_frz (de_disp (DPs.cons de_str de_int DPs.nil))) (da_cons (de_tup da_nil) (da_cons (de_pow de_int de_int) (da_cons (de_call H__law_deep hr (by rfl) (pasT (takes_of rfl rfl rfl rfl)) (da_cons de_int da_nil)) da_nil))))))))))))))))
      (dss_cons (ds_setLc (i := 3) (own := [("number", 4)]) rfl sc_law.nd rfl rfl (sw_true rfl rfl rfl (by decide +kernel)) (di_range1 (by rfl) G.z_range (da_cons de_int da_nil)) (blkOk_by (N := N_law) (sc := defScope S_law) (own := [("number", 4)]) (by decide +kernel)) (by decide) (fun _ _ _ _ _ => (dg_name (i := 4) sc_law.nd rfl (by first | exact .inl rfl | exact .inr rfl))) (fun _ _ _ _ _ => dts_nil) (fun _ _ _ _ _ => (de_call H__law_some hr (by rfl) pas0 (da_cons (dv 1) (da_cons (dv 2) da_nil)))))
      (dss_cons (ds_set (i := 5) sc_law.nd rfl (by first | exact .inl rfl | exact .inr rfl) (de_lst (da_cons (de_mkE1 E_BadText hr hk (by rfl) (de_ix (dv 3) de_int)) (da_cons (de_mkE1 E_BadEntry hr hk (by rfl) (de_ix (dv 3) de_int)) (da_cons (de_mkE1 E_BadBook hr hk (by rfl) (de_ix (dv 3) de_int)) (da_cons (de_mkE1 E_BadLine hr hk (by rfl) (de_ix (dv 3) de_int)) (da_cons (de_mkE1 E_BadQuestion hr hk (by rfl) (de_ix (dv 3) de_int)) da_nil)))))))
      (dss_cons (ds_set (i := 5) sc_law.nd rfl (by first | exact .inl rfl | exact .inr rfl) (de_add (dv 5) (de_lst (da_cons (de_mkE1 E_BadTask hr hk (by rfl) (de_ix (dv 3) de_int)) (da_cons (de_mkE1 E_BadStep hr hk (by rfl) (de_ix (dv 3) de_int)) (da_cons (de_mkE1 E_TooMany hr hk (by rfl) (de_ix (dv 3) de_int)) (da_cons (de_mkE1 E_NotFitting hr hk (by rfl) (de_ix (dv 3) de_int)) (da_cons (de_mkE1 E_NotGiven hr hk (by rfl) (de_ix (dv 3) de_int)) da_nil))))))))
      (dss_cons (ds_set (i := 5) sc_law.nd rfl (by first | exact .inl rfl | exact .inr rfl) (de_add (dv 5) (de_lst (da_cons (de_mkE1 E_NotFirst hr hk (by rfl) (de_ix (dv 3) de_int)) (da_cons (de_mkE1 E_NotFetched hr hk (by rfl) (de_ix (dv 3) de_int)) (da_cons (de_mkE1 E_NoBuild hr hk (by rfl) (de_ix (dv 3) de_int)) (da_cons (de_mkE1 E_Ringed hr hk (by rfl) (de_ix (dv 3) de_int)) (da_cons (de_mkE0 E_NoFeatures hr hk (by rfl)) da_nil))))))))
      (dss_cons (ds_set (i := 5) sc_law.nd rfl (by first | exact .inl rfl | exact .inr rfl) (de_add (dv 5) (de_lst (da_cons (de_mkE0 E_NoEntry hr hk (by rfl)) (da_cons (de_mkE0 E_NotRight hr hk (by rfl)) (da_cons (de_mkE0 E_NotThere hr hk (by rfl)) (da_cons (de_mkE0 E_NotClosed hr hk (by rfl)) (da_cons (de_mkE0 E_NoSource hr hk (by rfl)) (da_cons (de_mkE0 E_NoStand hr hk (by rfl)) (da_cons (de_mkE0 E_NoGivens hr hk (by rfl)) (da_cons (de_mkE0 E_NoLiteral hr hk (by rfl)) da_nil)))))))))))
      (dss_cons (ds_set (i := 5) sc_law.nd rfl (by first | exact .inl rfl | exact .inr rfl) (de_add (dv 5) (de_lst (da_cons (de_mkE0 E_NoPaper hr hk (by rfl)) (da_cons (de_mkE0 E_NoSources hr hk (by rfl)) (da_cons (de_mkE0 E_NoName hr hk (by rfl)) (da_cons (de_mkE0 E_NoNumber hr hk (by rfl)) (da_cons (de_mkE0 E_NotEntry hr hk (by rfl)) (da_cons (de_mkE0 E_NotQuestion hr hk (by rfl)) (da_cons (de_mkE0 E_NothingDone hr hk (by rfl)) (da_cons (de_mkE0 E_NoText hr hk (by rfl)) da_nil)))))))))))
      (dss_cons (ds_set (i := 5) sc_law.nd rfl (by first | exact .inl rfl | exact .inr rfl) (de_add (dv 5) (de_lst (da_cons (de_mkE0 E_NoStart hr hk (by rfl)) (da_cons (de_mkE0 E_NoStop hr hk (by rfl)) (da_cons (de_mkE0 E_NotSafe hr hk (by rfl)) (da_cons (de_mkE0 E_NoDeed hr hk (by rfl)) (da_cons (de_mkE0 E_NoContents hr hk (by rfl)) (da_cons (de_mkE0 E_NoMirrors hr hk (by rfl)) (da_cons (de_mkE0 E_NoManifest hr hk (by rfl)) (da_cons (de_mkE0 E_NoMachine hr hk (by rfl)) da_nil)))))))))))
      (dss_cons (ds_expr (de_append (dv 5) (da_cons (de_mkE0 E_NoRollout hr hk (by rfl)) da_nil)))
      (dss_cons (ds_for (passes_of rfl) rfl (di_enum (by rfl) G.z_enumerate (da_cons (dv 5) da_nil)) (dg_tup (n := 2) rfl (dgs_cons (dg_name (i := 4) sc_law.nd rfl (by first | exact .inl rfl | exact .inr rfl)) (dgs_cons (dg_name (i := 6) sc_law.nd rfl (by first | exact .inl rfl | exact .inr rfl)) dgs_nil))) (dss_one (ds_if (dt_not (dt_tru (de_call H__law_right hr (by rfl) (pasT (takes_of rfl rfl rfl rfl)) (da_cons (dv 6) (da_cons (dv 4) (da_cons (de_if (dt_cm (cm_lt hu) (nomark _) (dv 4) de_int) (de_ix (dv 3) (dv 4)) de_non) da_nil)))))) (dss_one (ds_ret de_bl)) dss_nil)))
      (dss_cons (ds_set (i := 7) sc_law.nd rfl (by first | exact .inl rfl | exact .inr rfl) (de_call H__law_draw hr (by rfl) (pasT (takes_of rfl rfl rfl rfl)) (da_cons (dv 1) (da_cons de_int da_nil))))
      (dss_cons (ds_set (i := 8) sc_law.nd rfl (by first | exact .inl rfl | exact .inr rfl) (de_lst (da_cons de_int (da_cons de_int (da_cons de_int (da_cons de_int da_nil))))))
      (dss_cons (ds_set (i := 9) sc_law.nd rfl (by first | exact .inl rfl | exact .inr rfl) (de_make G.mk_Book H_Book___init__ (hr.mono hk1_Book___init__) (by rfl) (pasT (takes_of rfl rfl rfl rfl)) (da_cons (de_tup da_nil) da_nil)))
      (dss_one (ds_ret (de_and (de_cm (cm_eqO H_Book___eq__ (fun f h => ⟨h.fn, h.at_⟩) hr) (nomark _) (de_erF (ms := [2, 5, 6]) (all_cons ⟨G.ef_BadEntry.xf, G.no_BadEntry⟩ (all_cons ⟨G.ef_BadQuestion.xf, G.no_BadQuestion⟩ (all_cons ⟨G.ef_BadTask.xf, G.no_BadTask⟩ (fun _ h => nomatch h)))) (de_mkE1 E_BadEntry hr hk (by rfl) (dv 9))) (dv 9)) (de_one (de_call H__law_is hr (by rfl) (pasT (takes_of rfl rfl rfl rfl)) (da_cons (de_lst (da_cons (de_call H__law_raised hr (by rfl) (pasT (takes_of rfl rfl rfl rfl)) (da_cons (dv 7) (da_cons (de_ix (dv 3) (de_ix (dv 8) (dv 7))) da_nil))) da_nil)) (da_cons (de_lst (da_cons (de_ix (dv 3) (de_ix (dv 8) (dv 7))) da_nil)) da_nil))))))))))))))))))))), hd⟩
theorem h_Book___init__ {dsp : DSp} {s_wrong_entry : DSp} (G : Glob K mg) (H_wrong_entry : Has P w K mg base k "wrong_entry" 1 s_wrong_entry) (hW : EC.wd = w) (hd : Rd 2 dsp (RD.t_Book___init__P_k00n s_wrong_entry) N_Book___init__) : HasM P w K mg base (k + 1) 101 "__init__" 2 dsp :=
  has_mkM G.m_Book___init__ sc_Book___init__ rfl fun f cdv A outer s0 H E hr => by
    have hu := hr.units
    have hu1 : _ + 1 < cLine := Nat.lt_of_le_of_lt (Nat.add_le_add_left (by decide : 1 ≤ 64) _) hu
    exact ⟨RD.t_Book___init__P_k00n s_wrong_entry, (dss_cons (ds_set (i := 2) sc_Book___init__.nd rfl (by first | exact .inl rfl | exact .inr rfl) (de_call H_wrong_entry hr (by rfl) (pasT (takes_of rfl rfl rfl rfl)) (da_cons (dv 1) da_nil)))
      (dss_cons (ds_if (dt_cm cm_isnot (nomark _) (dv 2) de_non) (dss_one ds_never) dss_nil)
      (dss_cons (ds_setF (ms := [101]) (all_cons ⟨G.cl_Book, G.na_Book_entries⟩ (fun _ h => nomatch h)) (dv 0) (dv 1))
      (dss_one (ds_setF (ms := [101]) (all_cons ⟨G.cl_Book, G.na_Book_places⟩ (fun _ h => nomatch h)) (dv 0) (de_dcn (own := [("entry", 3)]) hW rfl sc_Book___init__.nd hu (di_seq (dv 1)) (blkOk_by (N := N_Book___init__) (sc := defScope S_Book___init__) (own := [("entry", 3)]) (by decide +kernel)) (by decide) (fun _ _ _ _ _ => (dg_name (i := 3) sc_Book___init__.nd rfl (by first | exact .inl rfl | exact .inr rfl))) (fun _ _ _ _ _ => dts_nil) (fun _ _ _ _ _ => de_never) (fun _ _ _ _ _ => de_never))))))), hd⟩
theorem h_Book___eq__ {dsp : DSp} (G : Glob K mg) (hd : Rd 2 dsp (RD.t_Book___eq___k00n) N_Book___eq__) : HasM P w K mg base (k + 1) 101 "__eq__" 2 dsp :=
  has_mkM G.m_Book___eq__ sc_Book___eq__ rfl fun f cdv A outer s0 H E hr => by
    have hu := hr.units
    have hu1 : _ + 1 < cLine := Nat.lt_of_le_of_lt (Nat.add_le_add_left (by decide : 1 ≤ 64) _) hu
    exact ⟨RD.t_Book___eq___k00n, (dss_one (ds_ret (de_and (de_isC1 G.in_Book (by rfl) G.z_isinstance (by rfl) G.g_Book (dv 1)) (de_one (de_cm (cm_eq hu) (nomark _) (de_fld (ms := [101]) (all_cons ⟨G.cl_Book, G.na_Book_entries⟩ (fun _ h => nomatch h)) (dv 0)) (de_fld (ms := [101]) (all_cons ⟨G.cl_Book, G.na_Book_entries⟩ (fun _ h => nomatch h)) (dv 1))))))), hd⟩
end
end Lk00
namespace CM
open PySem L2 PySem.Spec DL
open PyProof.Rows hiding St
mutual
def pu : D → Bool
  | .non => true
  | .int _ => true
  | .str x => PyData.strOk x
  | .tup ds => pus ds
  | _ => false
def pus : List D → Bool
  | [] => true
  | d :: ds => pu d && pus ds
end
mutual
def dp : D → Nat
  | .tup ds => dps ds + 1
  | _ => 0
def dps : List D → Nat
  | [] => 0
  | d :: ds => max (dp d) (dps ds)
end
mutual
def pd : D → PyData
  | .int i => .int i
  | .str x => .str x
  | .bl b => .bool b
  | .tup ds => .tuple (pds ds)
  | _ => .none
def pds : List D → List PyData
  | [] => []
  | d :: ds => pd d :: pds ds
end
mutual
theorem pd_depth : ∀ d, (pd d).depth = dp d
  | .non => by simp [pd, dp, PyData.depth]
  | .bl _ => by simp [pd, dp, PyData.depth]
  | .int _ => by simp [pd, dp, PyData.depth]
  | .str _ => by simp [pd, dp, PyData.depth]
  | .fls _ => by simp [pd, dp, PyData.depth]
  | .loc _ => by simp [pd, dp, PyData.depth]
  | .adr _ => by simp [pd, dp, PyData.depth]
  | .ty _ => by simp [pd, dp, PyData.depth]
  | .tup ds => by simp [pd, dp, PyData.depth, pds_depth ds]
theorem pds_depth : ∀ ds, PyData.depthAll (pds ds) = dps ds
  | [] => by simp [pds, dps, PyData.depthAll]
  | d :: ds => by simp [pds, dps, PyData.depthAll, pd_depth d, pds_depth ds]
end
mutual
theorem pd_lay : ∀ d, pu d = true → (pd d).canLay0 = true
  | .non, _ => by simp [pd, PyData.canLay0]
  | .int _, _ => by simp [pd, PyData.canLay0]
  | .str x, h => by simpa [pd, PyData.canLay0, pu] using h
  | .tup ds, h => by simpa [pd, PyData.canLay0] using pds_lay ds (by simpa [pu] using h)
  | .bl _, h => by simp [pu] at h
  | .fls _, h => by simp [pu] at h
  | .loc _, h => by simp [pu] at h
  | .adr _, h => by simp [pu] at h
  | .ty _, h => by simp [pu] at h
theorem pds_lay : ∀ ds, pus ds = true → PyData.canLayAll0 (pds ds) = true
  | [], _ => by simp [pds, PyData.canLayAll0]
  | d :: ds, h => by
    simp only [pus, Bool.and_eq_true] at h
    simp [pds, PyData.canLayAll0, pd_lay d h.1, pds_lay ds h.2]
end
theorem shaped_pd {d : D} (h : pu d = true) (hd : dp d ≤ 60) : SeqAt.shaped (pd d) = true := by
  unfold SeqAt.shaped
  rw [pd_lay d h, pd_depth d]
  simp
  omega
theorem mapM_pds {st : Sto} {n : Nat} (ih : ∀ d, pu d = true → dp d ≤ n → pdF st n d = some (pd d)) : ∀ ds : List D, pus ds = true → dps ds ≤ n → ds.mapM (pdF st n) = some (pds ds)
  | [], _, _ => rfl
  | d :: ds, h, hd => by
    simp only [pus, Bool.and_eq_true] at h
    simp only [dps] at hd
    rw [List.mapM_cons, ih d h.1 (by omega), mapM_pds ih ds h.2 (by omega)]
    rfl
theorem pdF_pd (st : Sto) : ∀ (n : Nat) (d : D), pu d = true → dp d ≤ n → pdF st n d = some (pd d) := by
  intro n
  induction n with
  | zero =>
    intro d h hd
    cases d <;> simp [pu, dp] at h hd <;> simp [pdF, pd]
  | succ n ih =>
    intro d h hd
    cases d <;> simp [pu, dp] at h hd <;> try simp [pdF, pd]
    rename_i ds
    rw [mapM_pds ih ds h (by omega)]
mutual
theorem eqv_pd : ∀ x y : D, pu x = true → pu y = true → (PyData.eqv (pd x) (pd y) = true ↔ x = y)
  | .non, y, _, hy => by cases y <;> simp [pu] at hy <;> simp [pd, PyData.eqv]
  | .int i, y, _, hy => by cases y <;> simp [pu] at hy <;> simp [pd, PyData.eqv]
  | .str x, y, _, hy => by cases y <;> simp [pu] at hy <;> simp [pd, PyData.eqv]
  | .tup ds, y, hx, hy => by
    cases y <;> simp [pu] at hx hy <;> simp [pd, PyData.eqv]
    exact eqv_pds ds _ hx hy
  | .bl _, _, h, _ => by simp [pu] at h
  | .fls _, _, h, _ => by simp [pu] at h
  | .loc _, _, h, _ => by simp [pu] at h
  | .adr _, _, h, _ => by simp [pu] at h
  | .ty _, _, h, _ => by simp [pu] at h
theorem eqv_pds : ∀ xs ys : List D, pus xs = true → pus ys = true → (PyData.eqvAll (pds xs) (pds ys) = true ↔ xs = ys)
  | [], [], _, _ => by simp [pds, PyData.eqvAll]
  | [], y :: ys, _, _ => by simp [pds, PyData.eqvAll]
  | x :: xs, [], _, _ => by simp [pds, PyData.eqvAll]
  | x :: xs, y :: ys, hx, hy => by
    simp only [pus, Bool.and_eq_true] at hx hy
    simp only [pds, PyData.eqvAll, Bool.and_eq_true, eqv_pd x y hx.1 hy.1, eqv_pds xs ys hx.2 hy.2, List.cons.injEq]
end
/-- == of plain data -/
theorem eq_plain {f : Bool → Bool} {x y : D} {st : Sto} {Q : DK} {b : Bool} (hx : pu x = true) (hy : pu y = true) (dx : dp x ≤ 60) (dy : dp y ≤ 60) (hb : b = true ↔ x = y) (q : Q (.bl (f b)) st) : dEqB f x y st Q := by
  unfold dEqB
  split
  · rename_i b' e
    have : b' = b := by
      cases x <;> cases y <;> simp [atomEq] at e <;> cases b <;> simp_all
    rw [this]; exact q
  · refine ⟨60, pd x, pd y, pdF_pd st 60 x hx dx, pdF_pd st 60 y hy dy, shaped_pd hx dx, shaped_pd hy dy, ?_⟩
    have : PyData.eqv (pd x) (pd y) = b := by
      have h := eqv_pd x y hx hy
      cases b <;> cases e : PyData.eqv (pd x) (pd y) <;> simp_all
    rw [this]; exact q
def vA (n : Nat) : Nat := n / 1000001 / 1000001
def vB (n : Nat) : Nat := n / 1000001 % 1000001
def vC (n : Nat) : Nat := n % 1000001
def mkV (a b c : Nat) : Nat := (a * 1000001 + b) * 1000001 + c
def vI (n : Nat) : List Int := [(vA n : Int), (vB n : Int), (vC n : Int)]
def encV (n : Nat) : D := .tup [.int (vA n), .int (vB n), .int (vC n)]
theorem mkV_eq (n : Nat) : mkV (vA n) (vB n) (vC n) = n := by unfold mkV vA vB vC; omega
theorem vI_lt (m n : Nat) : vI m < vI n ↔ m < n := by
  unfold vI
  simp only [List.cons_lt_cons_iff, List.not_lt_nil, and_false, or_false]
  unfold vA vB vC
  omega
theorem vI_inj {m n : Nat} : vI m = vI n ↔ m = n := by
  constructor
  · intro h
    unfold vI at h
    simp only [List.cons.injEq, and_true] at h
    obtain ⟨h1, h2, h3⟩ := h
    rw [← mkV_eq m, ← mkV_eq n, Int.ofNat_inj.mp h1, Int.ofNat_inj.mp h2, Int.ofNat_inj.mp h3]
  · intro h; rw [h]
theorem encV_inj {m n : Nat} : encV m = encV n ↔ m = n := by
  rw [← vI_inj]
  unfold encV vI
  simp
theorem pu_encV (n : Nat) : pu (encV n) = true := by simp [encV, pu, pus]
theorem dp_encV (n : Nat) : dp (encV n) = 1 := by simp [encV, dp, dps]
theorem pd_encV (n : Nat) : pd (encV n) = .tuple ((vI n).map .int) := by simp [encV, pd, pds, vI]
theorem dataLt_encV (m n : Nat) : PySem.W.dataLt (pd (encV m)) (pd (encV n)) = decide (m < n) := by
  rw [pd_encV, pd_encV, PySem.W.dataLt_tuple]
  refine (PySem.W.dataLt_ints (vI m) (vI n)).trans ?_
  simp only [vI_lt]
theorem alike_encV (m n : Nat) : PySem.W.alike (pd (encV m)) (pd (encV n)) = true := by
  rw [pd_encV, pd_encV]
  simp [vI, PySem.W.alike, PySem.W.alikeAll]
section
variable {st : Sto} {Q : DK} {m n : Nat}
theorem pdF_encV (k : Nat) : pdF st k (encV n) = if k = 0 then none else some (pd (encV n)) := by
  cases k with
  | zero => rfl
  | succ k => rw [if_neg (Nat.succ_ne_zero k)]; exact pdF_pd st (k + 1) _ (pu_encV n) (by rw [dp_encV]; omega)
theorem ord_encV {f : Int → Int → Bool} {g : PyData → PyData → Bool} : dOrd f g (encV m) (encV n) st Q = Q (.bl (g (pd (encV m)) (pd (encV n)))) st := by
  show (∃ k d e, pdF st k (encV m) = some d ∧ pdF st k (encV n) = some e ∧ PySem.W.alike d e = true ∧ d ≠ .none ∧ d.depth ≤ 64 ∧ Q (.bl (g d e)) st) = _
  apply propext
  constructor
  · rintro ⟨k, d, e, h1, h2, _, _, _, q⟩
    rw [pdF_encV] at h1 h2
    split at h1
    · cases h1
    · rename_i hk
      rw [if_neg hk] at h2
      cases h1
      cases h2
      exact q
  · intro q
    refine ⟨1, _, _, pdF_encV 1, pdF_encV 1, alike_encV m n, ?_, ?_, q⟩
    · rw [pd_encV]; simp
    · rw [pd_depth, dp_encV]; decide
@[simp] theorem lt_encV : dLt (encV m) (encV n) st Q = Q (.bl (decide (m < n))) st := by rw [dLt, ord_encV, dataLt_encV]
@[simp] theorem gt_encV : dGt (encV m) (encV n) st Q = Q (.bl (decide (n < m))) st := by rw [dGt, ord_encV, dataLt_encV]
@[simp] theorem le_encV : dLe (encV m) (encV n) st Q = Q (.bl (decide (m ≤ n))) st := by
  rw [dLe, ord_encV, dataLt_encV]
  have : (!decide (n < m)) = decide (m ≤ n) := by
    by_cases h : n < m
    · simp [h]
    · simp [h]; omega
  rw [this]
end
@[simp] theorem isNon_encV {n : Nat} : isNonD (encV n) = false := rfl
def encO : Option Nat → D
  | none => .non
  | some n => encV n
abbrev Rng := List (Nat × Option Nat)
def encP (p : Nat × Option Nat) : D := .tup [encV p.1, encO p.2]
def encR (r : Rng) : D := .tup (r.map encP)
@[simp] theorem isNon_encO {o : Option Nat} : isNonD (encO o) = o.isNone := by cases o <;> rfl
theorem encO_inj {a b : Option Nat} : encO a = encO b ↔ a = b := by
  cases a <;> cases b <;> simp [encO, encV_inj] <;> simp [encV]
theorem encP_inj {p q : Nat × Option Nat} : encP p = encP q ↔ p = q := by
  obtain ⟨a, b⟩ := p
  obtain ⟨c, d⟩ := q
  simp [encP, encV_inj, encO_inj]
theorem encR_inj {r s : Rng} : encR r = encR s ↔ r = s := by
  unfold encR
  simp only [D.tup.injEq]
  constructor
  · intro h
    exact (List.map_inj_right fun _ _ h => encP_inj.mp h).mp h
  · intro h; rw [h]
end CM
namespace CM
open PySem L2 PySem.Spec DL
open PyProof.Rows hiding St
mutual
def ok (st : Sto) : D → Prop
  | .tup ds => oks st ds
  | .loc n => (∃ es, st[n]? = some (.lst es)) ∨ ∃ es, st[n]? = some (.dK es)
  | .adr _ => False
  | .ty _ => False
  | _ => True
def oks (st : Sto) : List D → Prop
  | [] => True
  | d :: ds => ok st d ∧ oks st ds
end
/-- lists stay lists, dicts stay dicts -/
structure Kin (st st' : Sto) : Prop where
  lst : ∀ (n : Nat) es, st[n]? = some (.lst es) → ∃ es', st'[n]? = some (.lst es')
  dK : ∀ (n : Nat) es, st[n]? = some (.dK es) → ∃ es', st'[n]? = some (.dK es')
theorem Kin.app (st g : Sto) : Kin st (st ++ g) :=
  ⟨fun n es h => ⟨es, by rw [List.getElem?_append_left (List.getElem?_eq_some_iff.mp h).1]; exact h⟩, fun n es h => ⟨es, by rw [List.getElem?_append_left (List.getElem?_eq_some_iff.mp h).1]; exact h⟩⟩
theorem Kin.trans {st st1 st2 : Sto} (a : Kin st st1) (b : Kin st1 st2) : Kin st st2 :=
  ⟨fun n es h => let ⟨_, h1⟩ := a.lst n es h; b.lst n _ h1, fun n es h => let ⟨_, h1⟩ := a.dK n es h; b.dK n _ h1⟩
def numOf : D → Option Nat
  | .int i => if 0 ≤ i then some i.toNat else none
  | _ => none
def numMost (most : Nat) (d : D) : Option Nat := match numOf d with
  | some n => if n ≤ most then some n else none
  | none => none
def verM (most : Nat) : D → Option Nat
  | .tup [a, b, c] => match numMost most a, numMost most b, numMost most c with
    | some x, some y, some z => some (mkV x y z)
    | _, _, _ => none
  | _ => none
def intIs : D → Bool
  | .int _ => true
  | _ => false
def sp_is_integer : DSp := fun ds st Q _ => match ds with
  | [d] => ok st d ∧ Q (.bl (intIs d)) st
  | _ => False
def sp_is_number : DSp := fun ds st Q _ => match ds with
  | [d] => ok st d ∧ Q (.bl (numOf d).isSome) st
  | _ => False
def lenIs (i : Int) : D → Bool
  | .tup es => decide ((es.length : Int) = i)
  | _ => false
def sp_is_tuple_of : DSp := fun ds st Q _ => match ds with
  | [.int i, d] => ok st d ∧ Q (.bl (lenIs i d)) st
  | _ => False
def sp_is_version : DSp := fun ds st Q _ => match ds with
  | [d] => ok st d ∧ Q (.bl (verM 1000000 d).isSome) st
  | _ => False
section
variable {st : Sto} {Q : DK} {Z : DX → Sto → Prop} {d : D} {i : Int} {ds : List D}
@[simp] theorem e_is_integer : sp_is_integer [d] st Q Z = (ok st d ∧ Q (.bl (intIs d)) st) := rfl
@[simp] theorem e_is_number : sp_is_number [d] st Q Z = (ok st d ∧ Q (.bl (numOf d).isSome) st) := rfl
@[simp] theorem e_is_tuple_of : sp_is_tuple_of [.int i, d] st Q Z = (ok st d ∧ Q (.bl (lenIs i d)) st) := rfl
@[simp] theorem e_is_version : sp_is_version [d] st Q Z = (ok st d ∧ Q (.bl (verM 1000000 d).isSome) st) := rfl
@[simp] theorem lenIs_tup : lenIs i (.tup ds) = decide ((ds.length : Int) = i) := rfl
@[simp] theorem lenIs_non : lenIs i .non = false := rfl
@[simp] theorem lenIs_bl {b : Bool} : lenIs i (.bl b) = false := rfl
@[simp] theorem lenIs_int {b : Int} : lenIs i (.int b) = false := rfl
@[simp] theorem lenIs_str {b : Str} : lenIs i (.str b) = false := rfl
@[simp] theorem lenIs_fls : lenIs i (.fls ds) = false := rfl
@[simp] theorem lenIs_loc {n : Nat} : lenIs i (.loc n) = false := rfl
@[simp] theorem ok_non : ok st .non = True := rfl
@[simp] theorem ok_bl {b : Bool} : ok st (.bl b) = True := rfl
@[simp] theorem ok_int {b : Int} : ok st (.int b) = True := rfl
@[simp] theorem ok_str {b : Str} : ok st (.str b) = True := rfl
@[simp] theorem ok_fls : ok st (.fls ds) = True := rfl
@[simp] theorem ok_tup : ok st (.tup ds) = oks st ds := rfl
@[simp] theorem oks_nil : oks st [] = True := rfl
@[simp] theorem oks_cons : oks st (d :: ds) = (ok st d ∧ oks st ds) := rfl
end
end CM
namespace CM
open PySem L2 PySem.Spec DL
open PyProof.Rows hiding St
/-- versions as they may stand -/
def okV (n : Nat) : Prop := vA n ≤ 1000000
/-- a pair of a range -/
def endOf : D → Option (Option Nat)
  | .non => some none
  | d => match verM 1000000 d with | some x => some (some x) | none => none
def pairOf : D → Option (Nat × Option Nat)
  | .tup [a, b] => match verM 1000000 a, endOf b with
    | some l, some none => some (l, none)
    | some l, some (some h) => if l < h then some (l, some h) else none
    | _, _ => none
  | _ => none
def okP (p : Nat × Option Nat) : Prop := okV p.1 ∧ ∀ x, p.2 = some x → okV x ∧ p.1 < x
/-- a pair touches the one ahead -/
def touch : Option (Option Nat) → Nat → Bool
  | none, _ => false
  | some none, _ => true
  | some (some x), l => decide (l ≤ x)
def rngL : Option (Option Nat) → List D → Option Rng
  | _, [] => some []
  | prev, d :: ds => match pairOf d with
    | none => none
    | some (l, h) => if touch prev l then none else (rngL (some h) ds).map ((l, h) :: ·)
def rngOf : D → Option Rng
  | .tup ds => rngL none ds
  | _ => none
/-- each pair is one, and ends below the next -/
def okR : Option (Option Nat) → Rng → Prop
  | _, [] => True
  | prev, (l, h) :: r => okP (l, h) ∧ touch prev l = false ∧ okR (some h) r
abbrev wf (r : Rng) : Prop := okR none r
def sp_is_stretch : DSp := fun ds st Q _ => match ds with
  | [d] => ok st d ∧ Q (.bl (pairOf d).isSome) st
  | _ => False
def sp_reaches : DSp := fun ds st Q _ => match ds with
  | [d, e] => ∃ o l, d = encO o ∧ e = encV l ∧ Q (.bl (touch (some o) l)) st
  | _ => False
def sp_is_range : DSp := fun ds st Q _ => match ds with
  | [d] => ok st d ∧ Q (.bl (rngOf d).isSome) st
  | _ => False
def sp_whole : DSp := fun ds st Q _ => match ds with
  | [d] => ok st d ∧ Q (.bl (match d with | .int _ => true | _ => false)) st
  | _ => False
def sp_law_is_version : DSp := fun ds st Q _ => match ds with
  | [d, .int m] => ok st d ∧ ∃ most : Nat, m = most ∧ Q (.bl (verM most d).isSome) st
  | _ => False
section
variable {st : Sto} {Q : DK} {Z : DX → Sto → Prop} {d : D} {i : Int} {ds : List D} {o : Option Nat} {l : Nat}
@[simp] theorem e_is_stretch : sp_is_stretch [d] st Q Z = (ok st d ∧ Q (.bl (pairOf d).isSome) st) := rfl
@[simp] theorem e_reaches : sp_reaches [encO o, encV l] st Q Z = Q (.bl (touch (some o) l)) st := by
  apply propext
  constructor
  · rintro ⟨o', l', h1, h2, q⟩
    rw [encO_inj] at h1
    rw [encV_inj] at h2
    subst h1 h2
    exact q
  · intro q
    exact ⟨o, l, rfl, rfl, q⟩
@[simp] theorem e_is_range : sp_is_range [d] st Q Z = (ok st d ∧ Q (.bl (rngOf d).isSome) st) := rfl
@[simp] theorem e_whole : sp_whole [d] st Q Z = (ok st d ∧ Q (.bl (match d with | .int _ => true | _ => false)) st) := rfl
@[simp] theorem e_law_is_version {m : Nat} : sp_law_is_version [d, .int m] st Q Z = (ok st d ∧ Q (.bl (verM m d).isSome) st) := by
  apply propext
  constructor
  · rintro ⟨h, most, e, q⟩
    have : m = most := Int.ofNat_inj.mp e
    subst this
    exact ⟨h, q⟩
  · rintro ⟨h, q⟩
    exact ⟨h, m, rfl, q⟩
@[simp] theorem e_law_is_version1 : sp_law_is_version [d, .int 1000000] st Q Z = (ok st d ∧ Q (.bl (verM 1000000 d).isSome) st) := e_law_is_version (m := 1000000)
@[simp] theorem e_law_is_version2 : sp_law_is_version [d, .int 999999] st Q Z = (ok st d ∧ Q (.bl (verM 999999 d).isSome) st) := e_law_is_version (m := 999999)
@[simp] theorem ok_encV {n : Nat} : ok st (encV n) = True := by simp [encV]
@[simp] theorem ok_encO : ok st (encO o) = True := by cases o <;> simp [encO]
theorem ok_encPs : ∀ {r : Rng}, oks st (r.map encP)
  | [] => trivial
  | p :: r => ⟨by simp [encP], ok_encPs⟩
@[simp] theorem ok_encR {r : Rng} : ok st (encR r) = True := by simp [encR, ok_encPs]
end
end CM
namespace CM
open PySem L2 PySem.Spec DL
open PyProof.Rows hiding St
def enumFrom : Nat → List D → List D
  | _, [] => []
  | n, d :: ds => .tup [.int (n : Nat), d] :: enumFrom (n + 1) ds
theorem enumFrom_eq : ∀ (ds : List D) (n : Nat), ds.mapIdx (fun i d => D.tup [.int ((n + i : Nat) : Int), d]) = enumFrom n ds
  | [], _ => rfl
  | d :: ds, n => by
    rw [List.mapIdx_cons, enumFrom, ← enumFrom_eq ds (n + 1)]
    congr 1
    refine congrArg (fun f => List.mapIdx f ds) ?_
    funext i x
    have : n + (i + 1) = n + 1 + i := by omega
    rw [this]
theorem enumItems_eq (ds : List D) : enumItems ds = enumFrom 0 ds := by
  rw [← enumFrom_eq]
  unfold enumItems
  refine congrArg (fun f => List.mapIdx f ds) ?_
  funext i x
  rw [Nat.zero_add]
section
variable {st : Sto} {Q : DK} {Z : DX → Sto → Prop}
@[simp] theorem atI_0 {a : D} {ds : List D} : atI (a :: ds) 0 = some a := atI_nat (j := 0) rfl
@[simp] theorem atI_1 {a b : D} {ds : List D} : atI (a :: b :: ds) 1 = some b := atI_nat (j := 1) rfl
@[simp] theorem atI_2 {a b c : D} {ds : List D} : atI (a :: b :: c :: ds) 2 = some c := atI_nat (j := 2) rfl
end
end CM
namespace CM
open PySem L2 PySem.Spec DL
open PyProof.Rows hiding St
theorem getElem?_push {α : Type} {l : List α} {x : α} : (l ++ [x])[l.length]? = some x := by simp
end CM
namespace CM
def inP (p : Nat × Option Nat) (v : Nat) : Prop := p.1 ≤ v ∧ ∀ x, p.2 = some x → v < x
instance (p : Nat × Option Nat) (v : Nat) : Decidable (inP p v) := by
  unfold inP
  cases e : p.2 with
  | none => exact if h : p.1 ≤ v then .isTrue ⟨h, fun _ e => by cases e⟩ else .isFalse fun q => h q.1
  | some x => exact if h : p.1 ≤ v ∧ v < x then .isTrue ⟨h.1, fun _ e => by cases e; exact h.2⟩ else .isFalse fun q => h ⟨q.1, q.2 x rfl⟩
def Has : Rng → Nat → Prop
  | [], _ => False
  | p :: r, v => inP p v ∨ Has r v
instance decHas : ∀ (r : Rng) (v : Nat), Decidable (Has r v)
  | [], _ => .isFalse id
  | p :: r, v => match (inferInstance : Decidable (inP p v)), decHas r v with
    | .isTrue h, _ => .isTrue (.inl h)
    | .isFalse _, .isTrue h => .isTrue (.inr h)
    | .isFalse h, .isFalse k => .isFalse fun q => q.elim h k
def outF : Option Nat → Rng → Rng
  | none, _ => []
  | some b, [] => [(b, none)]
  | some b, (l, h) :: r => if b < l then (b, some l) :: outF h r else outF h r
abbrev outR (r : Rng) : Rng := outF (some 0) r
end CM
namespace CM
def laterE : Option Nat → Option Nat → Option Nat
  | some x, some y => some (max x y)
  | _, _ => none
def mF : Nat × Option Nat → Rng → Rng
  | cur, [] => [cur]
  | (b, e), (l, h) :: r => if touch (some e) l = true then mF (b, laterE e h) r else (b, e) :: mF (l, h) r
def leP (p q : Nat × Option Nat) : Bool := decide (p.1 ≤ q.1)
def sortP (ps : Rng) : Rng := ps.mergeSort leP
def stF : Rng → Rng
  | [] => []
  | p :: r => mF p r
def strR (ps : Rng) : Rng := stF (sortP ps)
abbrev eitherR (r s : Rng) : Rng := strR (r ++ s)
abbrev bothR (r s : Rng) : Rng := outR (eitherR (outR r) (outR s))
def endsOf : Rng → List Nat
  | [] => []
  | (l, none) :: r => l :: endsOf r
  | (l, some x) :: r => l :: x :: endsOf r
/-- stretches from marks and flags -/
def mkF (f : Nat → Bool) : Option Nat → List Nat → Rng
  | none, [] => []
  | some b, [] => [(b, none)]
  | none, m :: r => if f m = true then mkF f (some m) r else mkF f none r
  | some b, m :: r => if f m = true then mkF f (some b) r else (b, some m) :: mkF f none r
/-- the range of marks and flags -/
abbrev mkR (f : Nat → Bool) (ms : List Nat) : Rng := mkF f none ms
/-- marks: 0 and all ends, ascending, each once -/
def IsMarks (ms : List Nat) (rs : List Rng) : Prop := ms.Pairwise (· < ·) ∧ ∀ m, m ∈ ms ↔ m = 0 ∨ ∃ r ∈ rs, m ∈ endsOf r
end CM
namespace CM
open PySem L2 PySem.Spec DL
open PyProof.Rows hiding St
theorem sizeLine_big {n : Nat} (h : n < 1048577) : n < sizeLine := by
  have : sizeLine = 16777216 := by decide
  omega
/-- a tuple told from a list made apart: all else is as it was -/
theorem back_tup {st st' : Sto} {Q : DK} {d : D} (h : ∃ g, st' = st ++ g) (hb : D.blw st.length d = true) (q : Q d st) : DL.Back st Q d st' := by
  obtain ⟨g, rfl⟩ := h
  exact .inr ⟨st, g, rfl, rfl, fun b hb => .inl hb, .inl ⟨hb, q⟩⟩
def few (r : Rng) : Prop := r.length < 1048576
def sp_later_end : DSp := fun ds st Q _ => match ds with
  | [d, e] => ∃ a b, d = encO a ∧ e = encO b ∧ Q (encO (laterE a b)) st
  | _ => False
def sp_has : DSp := fun ds st Q _ => match ds with
  | [d, e] => ∃ r v, d = encR r ∧ e = encV v ∧ Q (.bl (decide (Has r v))) st
  | _ => False
def sp_stretched : DSp := fun ds st Q _ => match ds with
  | [d] => ∃ ps, itemsD st d = some (ps.map encP) ∧ few ps ∧ (∀ p ∈ ps, okP p) ∧ Q (encR (strR ps)) st
  | _ => False
def sp_outside : DSp := fun ds st Q _ => match ds with
  | [d] => ∃ r, d = encR r ∧ wf r ∧ few r ∧ Q (encR (outR r)) st
  | _ => False
def sp_either : DSp := fun ds st Q _ => match ds with
  | [d, e] => ∃ r s, d = encR r ∧ e = encR s ∧ wf r ∧ wf s ∧ r.length + s.length < 1048576 ∧ Q (encR (eitherR r s)) st
  | _ => False
def sp_both : DSp := fun ds st Q _ => match ds with
  | [d, e] => ∃ r s, d = encR r ∧ e = encR s ∧ wf r ∧ wf s ∧ r.length + s.length < 1000000 ∧ Q (encR (bothR r s)) st
  | _ => False
section
variable {st : Sto} {Q : DK} {Z : DX → Sto → Prop} {d : D} {r s : Rng} {a b : Option Nat} {v : Nat}
theorem ex1 {p : Rng → Prop} : (∃ t, encR r = encR t ∧ p t) = p r := by
  apply propext
  constructor
  · rintro ⟨t, e, h⟩
    rw [encR_inj] at e
    subst e
    exact h
  · intro h; exact ⟨r, rfl, h⟩
@[simp] theorem e_later_end : sp_later_end [encO a, encO b] st Q Z = Q (encO (laterE a b)) st := by
  apply propext
  constructor
  · rintro ⟨a', b', h1, h2, q⟩
    rw [encO_inj] at h1 h2
    subst h1 h2
    exact q
  · intro q; exact ⟨a, b, rfl, rfl, q⟩
@[simp] theorem e_has : sp_has [encR r, encV v] st Q Z = Q (.bl (decide (Has r v))) st := by
  apply propext
  constructor
  · rintro ⟨r', v', h1, h2, q⟩
    rw [encR_inj] at h1
    rw [encV_inj] at h2
    subst h1 h2
    exact q
  · intro q; exact ⟨r, v, rfl, rfl, q⟩
@[simp] theorem e_outside : sp_outside [encR r] st Q Z = (wf r ∧ few r ∧ Q (encR (outR r)) st) := ex1
@[simp] theorem e_either : sp_either [encR r, encR s] st Q Z = (wf r ∧ wf s ∧ r.length + s.length < 1048576 ∧ Q (encR (eitherR r s)) st) := by
  apply propext
  constructor
  · rintro ⟨r', s', h1, h2, q⟩
    rw [encR_inj] at h1 h2
    subst h1 h2
    exact q
  · intro q; exact ⟨r, s, rfl, rfl, q⟩
@[simp] theorem e_both : sp_both [encR r, encR s] st Q Z = (wf r ∧ wf s ∧ r.length + s.length < 1000000 ∧ Q (encR (bothR r s)) st) := by
  apply propext
  constructor
  · rintro ⟨r', s', h1, h2, q⟩
    rw [encR_inj] at h1 h2
    subst h1 h2
    exact q
  · intro q; exact ⟨r, s, rfl, rfl, q⟩
end
end CM
namespace CM
open PySem L2 PySem.Spec DL
open PyProof.Rows hiding St
@[simp] theorem atI_m1 {xs : List D} {v : D} : atI (xs ++ [v]) (-1) = some v := atI_last xs v
@[simp] theorem ixN_m1 {n : Nat} : ixN (n + 1) (-1) = some n := by
  unfold ixN
  rw [if_neg (by decide), if_pos (by omega)]
  congr 1
  omega
end CM
namespace CM
open PySem L2 PySem.Spec DL
open PyProof.Rows hiding St
@[simp] theorem e_stretched {st : Sto} {Q : DK} {Z : DX → Sto → Prop} {d : D} : sp_stretched [d] st Q Z = ∃ ps, itemsD st d = some (ps.map encP) ∧ few ps ∧ (∀ p ∈ ps, okP p) ∧ Q (encR (strR ps)) st := rfl
end CM
namespace CM
open PySem L2 PySem.Spec DL
open PyProof.Rows hiding St
section
variable {α : Type} {l g : List α} {x y : α}
theorem gb {n : Nat} (h : l[n]? = some x) : (l ++ g)[n]? = some x := by
  rw [List.getElem?_append_left (List.getElem?_eq_some_iff.mp h).1]
  exact h
end
def allEnds (rs : List Rng) : List Nat := rs.flatMap endsOf
def sp_marks : DSp := fun ds st Q _ => match ds with
  | [d] => ∃ rs : List Rng, itemsD st d = some (rs.map encR) ∧ (∀ r ∈ rs, wf r) ∧ (allEnds rs).length < 63 ∧ ∀ ms, IsMarks ms rs → ms.length < 64 → Q (.loc st.length) (st ++ [.lst (ms.map encV)])
  | _ => False
end CM
namespace CM
open PySem L2 PySem.Spec DL
open PyProof.Rows hiding St
/-- ints from a number on -/
def upFrom : Nat → Nat → List D
  | _, 0 => []
  | i, n + 1 => .int (i : Nat) :: upFrom (i + 1) n
theorem upFrom_eq : ∀ (n i : Nat), (List.range n).map (fun (j : Nat) => D.int ((i : Int) + (j : Int))) = upFrom i n
  | 0, _ => rfl
  | n + 1, i => by
    rw [List.range_succ_eq_map, List.map_cons, List.map_map, upFrom, ← upFrom_eq n (i + 1)]
    congr 1
    refine congrArg (fun f => List.map f (List.range n)) ?_
    funext j
    simp only [Function.comp]
    congr 1
    omega
theorem rngItems_up (n : Nat) : rngItems 0 n = upFrom 0 n := by
  rw [← upFrom_eq]
  unfold rngItems
  rfl
def sp_made : DSp := fun ds st Q _ => match ds with
  | [.loc a, .loc b] => ∃ (ms : List Nat) (f : Nat → Bool), st[a]? = some (.lst (ms.map encV)) ∧ st[b]? = some (.lst ((ms.map f).map .bl)) ∧ ms.length < 1000 ∧ Q (encR (mkR f ms)) st
  | _ => False
end CM
namespace CM
open PySem L2 PySem.Spec DL
open PyProof.Rows hiding St
/-- a comprehension whose turns leave the store be -/
theorem runC_pure {te : DTE} {ρ : Env'} {Q : DK} {G : Sto → Prop} {i : Nat} {α : Type} {inj : α → D} {out : α → D} {st : Sto} (hG : G st)
    (ht : ∀ x (QT : DK), QT (out x) st → te (ρ.set i (some (inj x))) st QT Z0) : ∀ (xs : List α) (acc : List D), acc.length + xs.length < 1048576 →
    Q (.loc st.length) (st ++ [.lst (acc ++ xs.map out)]) → runC (gN i) dYes te ρ Q G (xs.map inj) acc st
  | [], acc, _, q => by
    rw [List.map_nil, runC_nil]
    exact ⟨hG, by simpa using q⟩
  | x :: xs, acc, hl, q => by
    rw [List.map_cons, runC_cons]
    refine ⟨hG, ?_⟩
    simp only [List.length_cons] at hl
    simp
    refine ht x _ ⟨sizeLine_big (by omega), ?_⟩
    exact runC_pure hG ht xs (acc ++ [out x]) (by simp; omega) (by simpa using q)
@[simp] theorem e_marks {st : Sto} {Q : DK} {Z : DX → Sto → Prop} {d : D} : sp_marks [d] st Q Z = ∃ rs : List Rng, itemsD st d = some (rs.map encR) ∧ (∀ r ∈ rs, wf r) ∧ (allEnds rs).length < 63 ∧ ∀ ms, IsMarks ms rs → ms.length < 64 → Q (.loc st.length) (st ++ [.lst (ms.map encV)]) := rfl
@[simp] theorem e_made {st : Sto} {Q : DK} {Z : DX → Sto → Prop} {a b : Nat} : sp_made [.loc a, .loc b] st Q Z = ∃ (ms : List Nat) (f : Nat → Bool), st[a]? = some (.lst (ms.map encV)) ∧ st[b]? = some (.lst ((ms.map f).map .bl)) ∧ ms.length < 1000 ∧ Q (encR (mkR f ms)) st := rfl
end CM
namespace CM
open PySem L2 PySem.Spec DL
open PyProof.Rows hiding St
def handOb (c : Nat) (a b d e : Int) : Ob := .lst [.loc c, .int a, .int b, .int d, .int e]
structure Hd (st : Sto) (h c : Nat) : Prop where
  ex : ∃ (cells : List Int) (a b d e : Int), st[h]? = some (handOb c a b d e) ∧ st[c]? = some (.lst (cells.map .int)) ∧ 0 ≤ a
theorem Hd.ne {st : Sto} {h c : Nat} (H : Hd st h c) : c ≠ h := by
  obtain ⟨cells, a, b, d, e, h1, h2, _⟩ := H.ex
  intro z
  rw [z, h1] at h2
  have h2 := Option.some.inj h2
  simp only [handOb, Ob.lst.injEq] at h2
  cases cells with
  | nil => simp at h2
  | cons x xs => simp at h2
theorem Hd.hlt {st : Sto} {h c : Nat} (H : Hd st h c) : h < st.length := by
  obtain ⟨cells, a, b, d, e, h1, h2, _⟩ := H.ex
  exact (List.getElem?_eq_some_iff.mp h1).1
theorem Hd.clt {st : Sto} {h c : Nat} (H : Hd st h c) : c < st.length := by
  obtain ⟨cells, a, b, d, e, h1, h2, _⟩ := H.ex
  exact (List.getElem?_eq_some_iff.mp h2).1
theorem Hd.app {st : Sto} {h c : Nat} (H : Hd st h c) (g : Sto) : Hd (st ++ g) h c := by
  obtain ⟨cells, a, b, d, e, h1, h2, h3⟩ := H.ex
  exact ⟨cells, a, b, d, e, gb h1, gb h2, h3⟩
/-- only the hand is another -/
structure Sm (h : Nat) (st st' : Sto) : Prop where
  len : st'.length = st.length
  same : ∀ n, n ≠ h → st'[n]? = st[n]?
theorem Sm.refl (h : Nat) (st : Sto) : Sm h st st := ⟨rfl, fun _ _ => rfl⟩
theorem Sm.trans {h : Nat} {st st1 st2 : Sto} (a : Sm h st st1) (b : Sm h st1 st2) : Sm h st st2 := ⟨b.len.trans a.len, fun n hn => (b.same n hn).trans (a.same n hn)⟩
theorem Sm.set {h : Nat} {st : Sto} {o : Ob} : Sm h st (st.set h o) := ⟨by simp, fun n hn => by rw [List.getElem?_set_ne (Ne.symm hn)]⟩
/-- grown: the old things but the hand stand -/
structure Gr (h c : Nat) (st st' : Sto) : Prop where
  len : st.length ≤ st'.length
  same : ∀ n, n < st.length → n ≠ h → st'[n]? = st[n]?
  hd : Hd st' h c
  hd0 : Hd st h c
theorem Gr.hlt {h c : Nat} {st st' : Sto} (g : Gr h c st st') : h < st.length := g.hd0.hlt
theorem Gr.clt {h c : Nat} {st st' : Sto} (g : Gr h c st st') : c < st.length := g.hd0.clt
theorem Gr.trans {h c : Nat} {st st1 st2 : Sto} (a : Gr h c st st1) (b : Gr h c st1 st2) : Gr h c st st2 :=
  ⟨Nat.le_trans a.len b.len, fun n hn hne => (b.same n (Nat.lt_of_lt_of_le hn a.len) hne).trans (a.same n hn hne), b.hd, a.hd0⟩
theorem Gr.sm {h c : Nat} {st st1 st2 : Sto} (g : Gr h c st st1) (s : Sm h st1 st2) (H : Hd st2 h c) : Gr h c st st2 :=
  ⟨by rw [s.len]; exact g.len, fun n hn hne => (s.same n hne).trans (g.same n hn hne), H, g.hd0⟩
theorem Gr.app {h c : Nat} {st st1 : Sto} (g : Gr h c st st1) (x : Sto) : Gr h c st (st1 ++ x) :=
  ⟨by simp; have := g.len; omega, fun n hn hne => by rw [List.getElem?_append_left (by have := g.len; omega)]; exact g.same n hn hne, g.hd.app x, g.hd0⟩
theorem Gr.get {h c n : Nat} {st st1 : Sto} {b : Ob} (g : Gr h c st st1) (hb : st[n]? = some b) (hne : n ≠ h) : st1[n]? = some b := by
  rw [g.same n (List.getElem?_eq_some_iff.mp hb).1 hne]; exact hb
theorem Gr.kin {h c : Nat} {st st1 : Sto} (g : Gr h c st st1) : Kin st st1 :=
  ⟨fun n es e => by
    by_cases hn : n = h
    · subst hn
      obtain ⟨cells, a, b, d, e', h1, _, _⟩ := g.hd.ex
      exact ⟨_, h1⟩
    · exact ⟨es, g.get e hn⟩, fun n es e => by
    by_cases hn : n = h
    · subst hn
      obtain ⟨cells, a, b, d, e', h1, _, _⟩ := g.hd0.ex
      rw [h1] at e
      cases e
    · exact ⟨es, g.get e hn⟩⟩
def sp_hand : DSp := fun ds st Q _ => match ds with
  | [d] => ∃ ns : List Int, IsL st d ns ∧ ns.length ≤ 63 ∧ ∀ st' h c, (∃ g, st' = st ++ g) → Hd st' h c → st.length ≤ h → st.length ≤ c → Q (.loc h) st'
  | _ => False
def sp_draw : DSp := fun ds st Q _ => match ds with
  | [.loc h, .int m] => ∃ c, Hd st h c ∧ 0 < m ∧ m < 1000000000 ∧ ∀ r st', 0 ≤ r → r < m → Hd st' h c → Sm h st st' → Q (.int r) st'
  | _ => False
def sp_some : DSp := fun ds st Q _ => match ds with
  | [.loc h, t] => ∃ c es, Hd st h c ∧ itemsD st t = some es ∧ t ≠ .loc h ∧ 0 < es.length ∧ es.length < 1000000000 ∧ ∀ e st', e ∈ es → Hd st' h c → Sm h st st' → Q e st'
  | _ => False
def sp_flag : DSp := fun ds st Q _ => match ds with
  | [.bl a, .bl b] => Q (.bl (decide (a = b))) st
  | _ => False
theorem big_mul1 {i j : Int} (h : -(2 ^ 64) < j ∧ j < 2 ^ 64) : CMul i j := .inr h
theorem big_mul2 {i j : Int} (h : -(2 ^ 64) < i ∧ i < 2 ^ 64) : CMul i j := .inl h
@[simp] theorem atI_3 {a b c d : D} {ds : List D} : atI (a :: b :: c :: d :: ds) 3 = some d := atI_nat (j := 3) rfl
@[simp] theorem atI_4 {a b c d e : D} {ds : List D} : atI (a :: b :: c :: d :: e :: ds) 4 = some e := atI_nat (j := 4) rfl
theorem ix51 : ixN 5 1 = some 1 := rfl
theorem ix52 : ixN 5 2 = some 2 := rfl
theorem ix53 : ixN 5 3 = some 3 := rfl
theorem ix54 : ixN 5 4 = some 4 := rfl
theorem mod_in {x m : Int} (h : 0 < m) : 0 ≤ x % m ∧ x % m < m := ⟨Int.emod_nonneg _ (by omega), Int.emod_lt_of_pos _ h⟩
theorem r__law_draw : Rd 2 sp_draw RD.t__law_draw RD.N__law_draw := by
  intro ds st Q Z hl h
  match ds, hl, h with
  | [.loc h, .int m], _, hx =>
    obtain ⟨c, H, hm, hm2, q⟩ := hx
    have hlt := H.hlt
    have hne := H.ne
    obtain ⟨cells, a, b, d, e, h1, h2, h3⟩ := H.ex
    unfold handOb at h1
    unfold RD.t__law_draw
    have gs : ∀ x, (st.set h x)[h]? = some x := fun x => by rw [List.getElem?_set_self hlt]
    have gc : ∀ x, (st.set h x)[c]? = some (.lst (cells.map .int)) := fun x => by rw [List.getElem?_set_ne (Ne.symm hne)]; exact h2
    have hd : ∀ a b d e : Int, 0 ≤ a → Hd (st.set h (handOb c a b d e)) h c := fun a b d e ha => ⟨cells, a, b, d, e, gs _, gc _, ha⟩
    have fin : ∀ (r a b d e : Int), 0 ≤ r → r < m → 0 ≤ a → DL.Back st Q (.int r) (st.set h (.lst [.loc c, .int a, .int b, .int d, .int e])) := fun r a b d e h1 h2 h3 => .inl (q r _ h1 h2 (hd a b d e h3) Sm.set)
    have tail : ∀ (a b d e : Int) (y2 : Option D) (st' : Sto), 0 ≤ a → st' = st.set h (handOb c a b d e) →
        dSeq (dIfS (dTest (dOp dGt (dOp dIx (dVar 0) (dC (.int 2))) (dC (.int 0)))) (dSeq (dAsg (dOp dMod (dCB dInt (dCons (dOp dIx (dVar 0) (dC (.int 2))) dNil)) (dVar 1)) (gN 3))
          (dSeq (dAsg (dOp dDiv (dOp dIx (dVar 0) (dC (.int 2))) (dVar 1)) (gSub' (dVar 0) (dC (.int 2)) dSetL)) (dRet (dVar 3)))) dNext)
          (dSeq (dAsg (dOp dAdd (dOp dIx (dVar 0) (dC (.int 4))) (dC (.int 1))) (gSub' (dVar 0) (dC (.int 4)) dSetL))
          (dSeq (dAsg (dOp dMod (dCB dInt (dCons (dOp dMul (dCB dInt (dCons (dOp dAdd (dOp dIx (dVar 0) (dC (.int 3))) (dOp dMul (dC (.int 7919)) (dOp dIx (dVar 0) (dC (.int 4))))) dNil)) (dC (.int 48271))) dNil)) (dC (.int 2147483647))) (gN 4))
          (dSeq (dAsg (dOp dMod (dCB dInt (dCons (dOp dMul (dVar 4) (dOp dAdd (dOp dDiv (dVar 4) (dC (.int 1009))) (dC (.int 69621)))) dNil)) (dC (.int 2147483647))) (gN 4))
          (dSeq (dAsg (dOp dMod (dCB dInt (dCons (dOp dMul (dVar 4) (dOp dAdd (dOp dDiv (dVar 4) (dC (.int 2003))) (dC (.int 40692)))) dNil)) (dC (.int 2147483399))) (gN 4))
          (dRet (dOp dMod (dCB dInt (dCons (dOp dDiv (dVar 4) (dC (.int 16))) dNil)) (dVar 1)))))))
          { nx := fun _ st1 => DL.Back st Q .non st1, rt := DL.Back st Q, xs := fun x _ st1 => BackX st Z x st1 } [some (.loc h), some (.int m), y2, none, none] st' := by
      intro a b d e y2 st' ha hst
      subst hst
      unfold handOb
      simp [gs, ix52]
      by_cases hb : 0 < b
      · simp [hb]
        obtain ⟨m1, m2⟩ := mod_in (x := b) hm
        exact ⟨hm, ⟨hm, by omega⟩, fin _ _ _ _ _ m1 m2 ha⟩
      · simp [hb, gs, ix54]
        generalize hx : (d + 7919 * (e + 1)) * 48271 % 2147483647 = x
        have hx1 := mod_in (x := (d + 7919 * (e + 1)) * 48271) (m := 2147483647) (by decide)
        rw [hx] at hx1
        generalize hy : x * (x / 1009 + 69621) % 2147483647 = y
        have hy1 := mod_in (x := x * (x / 1009 + 69621)) (m := 2147483647) (by decide)
        rw [hy] at hy1
        generalize hz : y * (y / 2003 + 40692) % 2147483399 = z
        obtain ⟨m1, m2⟩ := mod_in (x := z / 16) hm
        refine ⟨big_mul2 (by decide), big_mul1 (by decide), ⟨by decide, by decide⟩, big_mul2 ⟨by omega, by omega⟩, ⟨by decide, by decide⟩, big_mul2 ⟨by omega, by omega⟩, ⟨by decide, by decide⟩, hm, fin _ _ _ _ _ m1 m2 ha⟩
    have keep : st.set h (handOb c a b d e) = st := by
      refine List.ext_getElem? fun n => ?_
      by_cases hn : n = h
      · subst hn; rw [gs]; exact h1.symm
      · rw [List.getElem?_set_ne (Ne.symm hn)]
    have tail' := fun a b d e y2 ha => tail a b d e y2 _ ha rfl
    clear tail
    rw [s_seq]
    generalize dSeq (dIfS (dTest (dOp dGt (dOp dIx (dVar 0) (dC (.int 2))) (dC (.int 0)))) _ _) _ _ = nx at tail' ⊢
    have t0 := tail' a b d e none h3
    rw [keep] at t0
    unfold handOb at tail'
    simp [h1, h2]
    by_cases hb : b = 0
    · rw [if_pos hb]
      by_cases ha : a < cells.length
      · rw [if_pos ha]
        have hcell : (cells.map D.int)[a.toNat]? = some (.int (cells[a.toNat]'(by omega))) := by
          rw [List.getElem?_map, List.getElem?_eq_getElem (by omega)]
          rfl
        have hat : atI (cells.map D.int) a = some (.int (cells[a.toNat]'(by omega))) := by
          have := atI_nat hcell
          rwa [Int.toNat_of_nonneg h3] at this
        generalize cells[a.toNat]'(by omega) = cell at hat
        simp [hat, ix51, ix53, gs]
        refine ⟨big_mul1 ⟨by decide, by decide⟩, ⟨by decide, by decide, by decide⟩, ?_⟩
        have e1 : ((10 : Int) ^ (18 : Nat)) = 1000000000000000000 := by decide
        by_cases hc : (1000000000000000000 : Int) ≤ cell
        · simp [hc, gs, ix52]
          exact tail' (a + 1) cell _ e _ (by omega)
        · simp [hc]
          exact tail' (a + 1) b _ e _ (by omega)
      · rw [if_neg ha]
        exact t0
    · rw [if_neg hb]
      exact t0
end CM
namespace CM
open PySem L2 PySem.Spec DL
open PyProof.Rows hiding St
@[simp] theorem e_draw {st : Sto} {Q : DK} {Z : DX → Sto → Prop} {h : Nat} {m : Int} : sp_draw [.loc h, .int m] st Q Z = ∃ c, Hd st h c ∧ 0 < m ∧ m < 1000000000 ∧ ∀ r st', 0 ≤ r → r < m → Hd st' h c → Sm h st st' → Q (.int r) st' := rfl
@[simp] theorem e_some {st : Sto} {Q : DK} {Z : DX → Sto → Prop} {h : Nat} {t : D} : sp_some [.loc h, t] st Q Z = ∃ c es, Hd st h c ∧ itemsD st t = some es ∧ t ≠ .loc h ∧ 0 < es.length ∧ es.length < 1000000000 ∧ ∀ e st', e ∈ es → Hd st' h c → Sm h st st' → Q e st' := rfl
@[simp] theorem e_flag {st : Sto} {Q : DK} {Z : DX → Sto → Prop} {a b : Bool} : sp_flag [.bl a, .bl b] st Q Z = Q (.bl (decide (a = b))) st := rfl
theorem at_mem {es : List D} {r : Int} (h0 : 0 ≤ r) (h1 : r < es.length) : ∃ e ∈ es, atI es r = some e := by
  have hl : r.toNat < es.length := by omega
  refine ⟨es[r.toNat], List.getElem_mem hl, ?_⟩
  have := atI_nat (List.getElem?_eq_getElem hl)
  rwa [Int.toNat_of_nonneg h0] at this
theorem r__law_some : Rd 2 sp_some (RD.t__law_some sp_draw) RD.N__law_some := by
  intro ds st Q Z hl h
  match ds, hl, h with
  | [.loc h, t], _, hx =>
    obtain ⟨c, es, H, hi, hne, hpos, hbig, q⟩ := hx
    unfold RD.t__law_some
    cases t <;> simp [itemsD] at hi
    · subst hi
      simp
      refine ⟨c, H, by omega, by omega, fun r st' h0 h1 H' s => ?_⟩
      obtain ⟨e, he, ha⟩ := at_mem h0 h1
      exact ⟨e, ha, .inl (q e st' he H' s)⟩
    · subst hi
      simp
      refine ⟨c, H, by omega, by omega, fun r st' h0 h1 H' s => ?_⟩
      obtain ⟨e, he, ha⟩ := at_mem h0 h1
      exact ⟨e, ha, .inl (q e st' he H' s)⟩
    · rename_i n _
      have hn : st[n]? = some (.lst es) := by
        split at hi
        · rename_i e; cases hi; exact e
        · cases hi
      have hnh : n ≠ h := fun e => hne (by rw [e])
      simp [hn]
      refine ⟨c, H, by omega, by omega, fun r st' h0 h1 H' s => ?_⟩
      obtain ⟨e, he, ha⟩ := at_mem h0 h1
      exact ⟨es, by rw [s.same n hnh]; exact hn, e, ha, .inl (q e st' he H' s)⟩
theorem cut63 {ns : List Int} (h : ns.length ≤ 63) : cutL (ns.map D.int) none (some 63) = ns.map .int := by
  have e : _root_.HT.sIx (ns.map D.int).length (ns.map D.int).length (some 63) = (ns.map D.int).length := by
    show (if (63 : Int) < 0 then ((63 : Int) + ((ns.map D.int).length : Int)).toNat else min (63 : Int).toNat (ns.map D.int).length) = _
    rw [if_neg (by decide)]
    simp
    omega
  unfold cutL
  rw [e, show _root_.HT.sIx (ns.map D.int).length 0 none = 0 from rfl]
  simp
  exact List.take_of_length_le (by simp)
theorem r__law_hand : Rd 1 sp_hand RD.t__law_hand RD.N__law_hand := by
  intro ds st Q Z hl h
  match ds, hl, h with
  | [d], _, hx =>
    obtain ⟨ns, hd, hl, q⟩ := hx
    unfold RD.t__law_hand
    rcases hd with rfl | ⟨m, rfl, hm⟩
    all_goals
      simp (config := {failIfUnchanged := false}) [cut63 hl, *]
      refine runC_pure (out := fun i => .int (if i < 0 then -i else i)) (inj := D.int) (by simp) (fun x QT hq => ?_) ns [] (by simp; omega) ?_
      · unfold RD.e__law_hand_1
        simp
        exact hq
      · simp
        refine ⟨by decide, .inl (q _ _ (st.length + 1) ⟨_, rfl⟩ ⟨⟨ns.map fun i => if i < 0 then -i else i, 0, 0, 1 + ns.length, 0, ?_, ?_, by decide⟩⟩ (by omega) (by omega))⟩
        · simp [handOb]
        · simp
end CM
namespace CM
open PySem L2 PySem.Spec DL
open PyProof.Rows hiding St
def smallV (n : Nat) : Prop := vA n ≤ 999999 ∧ vB n ≤ 999999 ∧ vC n ≤ 999999
theorem smallV.ok {n : Nat} (h : smallV n) : okV n := by unfold okV; have := h.1; omega
def sp_lversion : DSp := fun ds st Q _ => match ds with
  | [.loc h] => ∃ c, Hd st h c ∧ ∀ n st', smallV n → Hd st' h c → Sm h st st' → Q (encV n) st'
  | _ => False
@[simp] theorem e_lversion {st : Sto} {Q : DK} {Z : DX → Sto → Prop} {h : Nat} : sp_lversion [.loc h] st Q Z = ∃ c, Hd st h c ∧ ∀ n st', smallV n → Hd st' h c → Sm h st st' → Q (encV n) st' := rfl
/-- all ends are small -/
def smE (r : Rng) : Prop := ∀ e ∈ endsOf r, smallV e
def sp_lrange : DSp := fun ds st Q _ => match ds with
  | [.loc h] => ∃ c, Hd st h c ∧ ∀ r st', wf r → smE r → r.length ≤ 6 → Hd st' h c → Sm h st st' → Q (encR r) st'
  | _ => False
@[simp] theorem e_lrange {st : Sto} {Q : DK} {Z : DX → Sto → Prop} {h : Nat} : sp_lrange [.loc h] st Q Z = ∃ c, Hd st h c ∧ ∀ r st', wf r → smE r → r.length ≤ 6 → Hd st' h c → Sm h st st' → Q (encR r) st' := rfl
end CM
namespace CM
open PySem L2 PySem.Spec DL
open PyProof.Rows hiding St
def leafD : D → Prop
  | .non => True
  | .bl _ => True
  | .int _ => True
  | .str _ => True
  | _ => False
def sam (st : Sto) : Nat → D → D → Prop
  | 0, t, d => t = d ∧ leafD d
  | n + 1, t, d => (t = d ∧ leafD d) ∨ ∃ ts ds, ((t = .tup ts ∧ d = .tup ds) ∨ ∃ a b, t = .loc a ∧ d = .loc b ∧ st[a]? = some (.lst ts) ∧ st[b]? = some (.lst ds)) ∧
      (ts.length = ds.length ∧ ∀ (k : Nat) x y, ts[k]? = some x → ds[k]? = some y → sam st n x y) ∧ ts.length < 1048576
def sp_is (n : Nat) : DSp := fun ds st Q _ => match ds with
  | [t, d] => sam st n t d ∧ Q (.bl true) st
  | _ => False
@[simp] theorem e_is {n : Nat} {st : Sto} {Q : DK} {Z : DX → Sto → Prop} {t d : D} : sp_is n [t, d] st Q Z = (sam st n t d ∧ Q (.bl true) st) := rfl
/-- a comprehension whose turns leave the store be, each item being one that was there -/
theorem runC_mem {te : DTE} {ρ : Env'} {Q : DK} {G : Sto → Prop} {i : Nat} {α : Type} {inj : α → D} {out : α → D} {st : Sto} (hG : G st) : ∀ (xs : List α) (acc : List D),
    (∀ x ∈ xs, ∀ (QT : DK), QT (out x) st → te (ρ.set i (some (inj x))) st QT Z0) → acc.length + xs.length < 1048576 →
    Q (.loc st.length) (st ++ [.lst (acc ++ xs.map out)]) → runC (gN i) dYes te ρ Q G (xs.map inj) acc st
  | [], acc, _, _, q => by
    rw [List.map_nil, runC_nil]
    exact ⟨hG, by simpa using q⟩
  | x :: xs, acc, ht, hl, q => by
    rw [List.map_cons, runC_cons]
    refine ⟨hG, ?_⟩
    simp only [List.length_cons] at hl
    simp
    refine ht x List.mem_cons_self _ ⟨sizeLine_big (by omega), ?_⟩
    exact runC_mem hG xs (acc ++ [out x]) (fun y hy => ht y (List.mem_cons_of_mem _ hy)) (by simp; omega) (by simpa using q)
theorem rngItems_map (n : Nat) : rngItems 0 n = (List.range n).map fun j : Nat => D.int (j : Int) := by
  unfold rngItems
  refine List.map_congr_left fun j _ => ?_
  congr 1
  omega
theorem all_true {α : Type} (xs : List α) : (xs.map fun _ => true).all id = true := by
  induction xs with
  | nil => rfl
  | cons x xs ih => simpa using ih
theorem leaf_eq {d : D} {st : Sto} {Q : DK} (h : leafD d) (q : Q (.bl true) st) : dEqB id d d st Q := by
  cases d <;> simp [leafD] at h
  · exact eq_plain (b := true) rfl rfl (by decide) (by decide) (by simp) q
  · simpa using q
  · simpa using q
  · simpa using q
mutual
def wd : D → Bool
  | .non => true
  | .bl _ => true
  | .int _ => true
  | .str _ => true
  | .tup ds => decide (ds.length < 1048576) && wds ds
  | _ => false
def wds : List D → Bool
  | [] => true
  | d :: ds => wd d && wds ds
end
end CM
namespace CM
open PySem L2 PySem.Spec DL
open PyProof.Rows hiding St
def samF (st : Sto) : Nat → D → D → Prop
  | 0, t, d => t = d ∧ leafD d
  | n + 1, t, d => (t = d ∧ leafD d) ∨ (∃ ts ds, ((t = .tup ts ∧ d = .tup ds) ∨ ∃ a b, t = .loc a ∧ d = .loc b ∧ st[a]? = some (.lst ts) ∧ st[b]? = some (.lst ds)) ∧
      (ts.length = ds.length ∧ ∀ (k : Nat) x y, ts[k]? = some x → ds[k]? = some y → samF st n x y) ∧ ts.length < 1048576) ∨ ∃ a od k i, t = .loc a ∧ d = .loc a ∧ st[a]? = some (.dkF od [(k, .int i)])
def sp_isF (n : Nat) : DSp := fun ds st Q _ => match ds with
  | [t, d] => samF st n t d ∧ Q (.bl true) st
  | _ => False
@[simp] theorem e_isF {n : Nat} {st : Sto} {Q : DK} {Z : DX → Sto → Prop} {t d : D} : sp_isF n [t, d] st Q Z = (samF st n t d ∧ Q (.bl true) st) := rfl
theorem samF_leaf {st : Sto} {n : Nat} {d : D} (h : leafD d) : samF st n d d := by cases n; exact ⟨rfl, h⟩; exact .inl ⟨rfl, h⟩
theorem eqF_leaf {d : D} {st : Sto} {Q : DK} (h : leafD d) (q : Q (.bl true) st) : dEqF d d st Q := .inl (leaf_eq h q)
theorem key_of {k : Key} : keyD (dKeyD k) = some k := by cases k <;> rfl
theorem r__law_is_k00n {n : Nat} {s : DSp} (hs : ∀ m, n = m + 1 → ∀ ds st Q Z, sp_isF m ds st Q Z → s ds st Q Z) : Rd 2 (sp_isF n) (RD.t__law_is_k00n s) RD.N__law_is_k00n := by
  intro ds st Q Z hl h
  match ds, hl, h with
  | [t, d], _, hx =>
    obtain ⟨hsam, q⟩ := hx
    unfold RD.t__law_is_k00n
    have leaf : t = d → leafD d → RD.t__law_is_k00n s { nx := fun _ st1 => DL.Back st Q .non st1, rt := DL.Back st Q, xs := fun x _ st1 => BackX st Z x st1 } (startD RD.N__law_is_k00n [t, d]) st := fun e hd => by
      subst e
      unfold RD.t__law_is_k00n
      cases t <;> simp [leafD] at hd
      all_goals
        simp [tySub]
        exact eqF_leaf trivial (Or.inl q)
    unfold RD.t__law_is_k00n at leaf
    cases n with
    | zero => exact leaf hsam.1 hsam.2
    | succ n =>
      rcases hsam with h | ⟨ts, ds, hk, ⟨hl, hall⟩, hlen⟩ | ⟨a, od, k, i, rfl, rfl, ha⟩
      · exact leaf h.1 h.2
      · clear leaf
        have hturn : ∀ (ρ : Env'), ρ[0]? = some (some t) → ρ[1]? = some (some d) → 2 < ρ.length → ∀ (QT : DK) (k : Nat), k ∈ List.range ds.length → QT (.bl true) st → RD.e__law_is_k00n_1 s (ρ.set 2 (some (.int (k : Int)))) st QT Z0 := fun ρ h0 h1 h2 QT k hk' qt => by
          have hk2 : k < ds.length := List.mem_range.mp hk'
          have e0 : (ρ.set 2 (some (D.int (k : Int))))[0]? = some (some t) := by rw [List.getElem?_set_ne (by decide)]; exact h0
          have e1 : (ρ.set 2 (some (D.int (k : Int))))[1]? = some (some d) := by rw [List.getElem?_set_ne (by decide)]; exact h1
          have e2 : (ρ.set 2 (some (D.int (k : Int))))[2]? = some (some (.int (k : Int))) := List.getElem?_set_self h2
          have a1 : atI ts (k : Int) = some ts[k] := atI_nat (List.getElem?_eq_getElem (by omega))
          have a2 : atI ds (k : Int) = some ds[k] := atI_nat (List.getElem?_eq_getElem hk2)
          have fin : s [ts[k], ds[k]] st QT (fun x st2 => Z0 x (ρ.set 2 (some (D.int (k : Int)))) st2) := hs n rfl _ _ _ _ ⟨hall k _ _ (List.getElem?_eq_getElem (by omega)) (List.getElem?_eq_getElem hk2), qt⟩
          unfold RD.e__law_is_k00n_1
          rw [s_call, s_cons, s_op, s_var, e0]
          dsimp only
          rw [s_var, e2]
          dsimp only
          rcases hk with ⟨rfl, rfl⟩ | ⟨a, b, rfl, rfl, ha, hb⟩
          · rw [s_ix_tup]
            refine ⟨_, a1, ?_⟩
            rw [s_cons, s_op, s_var, e1]
            dsimp only
            rw [s_var, e2]
            dsimp only
            rw [s_ix_tup]
            exact ⟨_, a2, rfl, fin⟩
          · rw [s_ix_loc]
            refine ⟨_, _, ha, a1, ?_⟩
            rw [s_cons, s_op, s_var, e1]
            dsimp only
            rw [s_var, e2]
            dsimp only
            rw [s_ix_loc]
            exact ⟨_, _, hb, a2, rfl, fin⟩
        have fin : DL.Back st Q (.bl true) (st ++ [.lst ((List.range ds.length).map fun _ => D.bl true)]) := back_tup ⟨_, rfl⟩ rfl q
        have all : ∃ bs : List Bool, (st ++ [.lst ((List.range ds.length).map fun _ => D.bl true)])[st.length]? = some (.lst (bs.map .bl)) ∧ DL.Back st Q (.bl (bs.all id)) (st ++ [.lst ((List.range ds.length).map fun _ => D.bl true)]) :=
          ⟨(List.range ds.length).map fun _ => true, by simp, by rw [all_true]; exact fin⟩
        have hb62 : (ds.length : Int) < 2 ^ 62 := by
          have : (1048576 : Int) < 2 ^ 62 := by decide
          omega
        have loop : ∀ ρ : Env', ρ[0]? = some (some t) → ρ[1]? = some (some d) → 2 < ρ.length → runC (gN 2) dYes (RD.e__law_is_k00n_1 s) ρ (fun x st1 => dAll [x] st1 (DL.Back st Q)) (fun _ => True) (rngItems 0 ds.length) [] st := fun ρ h0 h1 h2 => by
          rw [rngItems_map]
          refine runC_mem (out := fun _ => .bl true) (inj := fun k : Nat => D.int (k : Int)) trivial _ [] (fun k hk' QT qt => hturn ρ h0 h1 h2 QT k hk' qt) (by simp; omega) ?_
          simpa using all
        rcases hk with ⟨rfl, rfl⟩ | ⟨a, b, rfl, rfl, ha, hb⟩
        · simp [tySub, hl]
          refine ⟨by simpa using hb62, ?_⟩
          exact loop _ rfl rfl (by simp)
        · simp [tySub, tyN, ha, hb, hl]
          refine ⟨by simpa using hb62, ?_⟩
          exact loop _ rfl rfl (by simp)
      · clear leaf
        have fin : DL.Back st Q (.bl true) (st ++ [.lst [D.bl true]]) := back_tup ⟨_, rfl⟩ rfl q
        have rcl : ∀ (QT : DK) Z', QT (.bl true) st → s [.int i, .int i] st QT Z' := fun QT Z' qt => hs n rfl _ _ _ _ ⟨samF_leaf trivial, qt⟩
        simp [tySub, tyN, ha]
        refine .inr ⟨a, od, k, i, rfl, rfl, ha, ?_⟩
        simp [ha]
        refine ⟨od, _, ⟨rfl, rfl⟩, ?_⟩
        simp only [List.map_cons, List.map_nil, runC_cons, runC_nil]
        unfold RD.e__law_is_k00n_2
        simp [ha]
        refine ⟨od, _, ⟨rfl, rfl⟩, k, key_of, .int i, by simp [valD], ?_⟩
        refine ⟨od, _, ⟨rfl, rfl⟩, k, key_of, .int i, by simp [valD], ?_⟩
        refine rcl _ _ ?_
        refine ⟨by decide, ?_⟩
        exact ⟨[true], by simp, fin⟩
end CM
namespace CM
open PySem L2 PySem.Spec DL
open PyProof.Rows hiding St
theorem szy (n : Nat) (h : n < 1000) : n ≤ sizeLine := Nat.le_of_lt (sizeLine_big (by omega))
/-- the classes in the law's own order; the fields of the first -/
def CN : List Nat := [1, 2, 3, 4, 5, 6, 7, 8, 9, 10, 11, 36, 37, 38, 12, 13, 14, 15, 16, 17, 18, 19, 20, 21, 22, 23, 24, 25, 26, 27, 28, 29, 30, 31, 32, 33, 34, 35, 39, 40]
def FN : List Str := ["index", "part", "index", "number", "part", "part", "number", "most", "source", "literal", "place", "pair", "name", "names"]
def flg (q : Nat) (ms : List Nat) : List D := ms.map fun m => .bl (q == m)
section
variable [EC : ErrCtx] {st : Sto} {ρ : Env'} {Q : DK} {Z : DZ} {a : Addr} {q : Nat} {fs : List (Str × D)} {E : DEnds}
theorem isE_var {i : Nat} {g : Nat → Bool} (hρ : ρ[i]? = some (some (.adr a))) (hq : q ∈ EMS) (h : ErrAt st a q fs) (k : Q (.bl (g q)) st) : dIsE EMS g (dVar i) ρ st Q Z := by
  rw [s_isE, s_var, hρ]
  exact ⟨a, q, fs, rfl, hq, h, k⟩
def isL (ms : List Nat) : DTA := ms.foldr (fun m t => dCons (dIsE EMS (fun q => q == m) (dVar 0)) t) dNil
theorem isL_ok (hρ : ρ[0]? = some (some (.adr a))) (hq : q ∈ EMS) (h : ErrAt st a q fs) : ∀ (ms : List Nat) {QA : List D → Sto → Prop}, QA (flg q ms) st → isL ms ρ st QA Z
  | [], QA, k => k
  | m :: ms, QA, k => by
    show dCons (dIsE EMS (fun q => q == m) (dVar 0)) (isL ms) ρ st QA Z
    rw [s_cons]
    refine isE_var hρ hq h ?_
    exact isL_ok hρ hq h ms k
theorem flg_len (ms : List Nat) : (flg q ms).length = ms.length := by simp [flg]
theorem base_ok {ms : List Nat} {rest : DTS} {x : Option D} (hq : q ∈ EMS) (h : ErrAt st a q fs) (hl : ms.length < 1000)
    (k : rest E [some (.adr a), some (.loc st.length)] (st ++ [.lst (flg q ms)])) : dSeq (dAsg (dLst (isL ms)) (gN 1)) rest E [some (.adr a), x] st := by
  rw [s_seq, s_asg, s_dlst]
  refine isL_ok rfl hq h ms ⟨?_, ?_⟩
  · rw [flg_len]; exact szy _ (by omega)
  · simpa using k
theorem step_ok {m0 ms : List Nat} {rest : DTS} {n : Nat} (hq : q ∈ EMS) (h : ErrAt st a q fs) (hn : st[n]? = some (.lst (flg q m0))) (hl : m0.length + ms.length < 1000)
    (k : rest E [some (.adr a), some (.loc (st.length + 1))] (st ++ [.lst (flg q ms), .lst (flg q (m0 ++ ms))])) : dSeq (dAsg (dOp dAdd (dVar 1) (dLst (isL ms))) (gN 1)) rest E [some (.adr a), some (.loc n)] st := by
  rw [s_seq, s_asg, s_op, s_var]
  show dLst (isL ms) _ _ _ _
  rw [s_dlst]
  refine isL_ok rfl hq h ms ⟨by rw [flg_len]; exact szy _ (by omega), ?_⟩
  rw [s_add_loc]
  refine ⟨flg q m0, flg q ms, gb hn, getElem?_push, by rw [flg_len, flg_len]; exact szy _ (by omega), ?_⟩
  have e : flg q m0 ++ flg q ms = flg q (m0 ++ ms) := by simp [flg]
  rw [e]
  simpa using k
theorem last_ok {m0 ms : List Nat} {n : Nat} (hq : q ∈ EMS) (h : ErrAt st a q fs) (hn : st[n]? = some (.lst (flg q m0))) (hl : m0.length + ms.length < 1000)
    (k : E.rt (.loc (st.length + 1)) (st ++ [.lst (flg q ms), .lst (flg q (m0 ++ ms))])) : dRet (dOp dAdd (dVar 1) (dLst (isL ms))) E [some (.adr a), some (.loc n)] st := by
  rw [s_ret, s_op, s_var]
  show dLst (isL ms) _ _ _ _
  rw [s_dlst]
  refine isL_ok rfl hq h ms ⟨by rw [flg_len]; exact szy _ (by omega), ?_⟩
  rw [s_add_loc]
  refine ⟨flg q m0, flg q ms, gb hn, getElem?_push, by rw [flg_len, flg_len]; exact szy _ (by omega), ?_⟩
  have e : flg q m0 ++ flg q ms = flg q (m0 ++ ms) := by simp [flg]
  rw [e]
  simpa using k
def sp_cls (ms : List Nat) : DSp := fun ds st Q _ => match ds with
  | [.adr a] => ∃ q fs, q ∈ EMS ∧ ErrAt st a q fs ∧ ∀ g n, (st ++ g)[n]? = some (.lst (flg q ms)) → Q (.loc n) (st ++ g)
  | _ => False
omit EC in
theorem two_get {b c : Ob} : (st ++ [b, c])[st.length + 1]? = some c := by
  rw [List.getElem?_append_right (by omega)]
  simp
theorem r__law_first_classes : Rd 1 (sp_cls (CN.take 14)) RD.t__law_first_classes RD.N__law_first_classes := by
  intro ds st Q Z hl h
  match ds, hl, h with
  | [.adr a], _, h =>
    obtain ⟨q, fs, hq, he, k⟩ := h
    unfold RD.t__law_first_classes
    refine base_ok (ms := [1, 2, 3]) hq he (by decide) ?_
    refine step_ok (m0 := [1, 2, 3]) (ms := [4, 5, 6]) hq he.more getElem?_push (by decide) ?_
    refine step_ok (m0 := [1, 2, 3, 4, 5, 6]) (ms := [7, 8, 9]) hq he.more.more two_get (by decide) ?_
    refine step_ok (m0 := [1, 2, 3, 4, 5, 6, 7, 8, 9]) (ms := [10, 11, 36]) hq he.more.more.more two_get (by decide) ?_
    refine last_ok (m0 := [1, 2, 3, 4, 5, 6, 7, 8, 9, 10, 11, 36]) (ms := [37, 38]) hq he.more.more.more.more two_get (by decide) ?_
    refine .inl ?_
    simp only [List.append_assoc]
    refine k _ _ ?_
    simp only [← List.append_assoc]
    exact two_get
theorem r__law_classes : Rd 1 (sp_cls CN) (RD.t__law_classes (sp_cls (CN.take 14))) RD.N__law_classes := by
  intro ds st Q Z hl h
  match ds, hl, h with
  | [.adr a], _, h =>
    obtain ⟨q, fs, hq, he, k⟩ := h
    unfold RD.t__law_classes
    rw [s_seq, s_asg, s_op, s_call]
    refine ⟨rfl, q, fs, hq, he, fun g n hn => ?_⟩
    show dLst (isL [12, 13]) _ _ _ _
    rw [s_dlst]
    refine isL_ok rfl hq he.more [12, 13] ⟨by rw [flg_len]; exact szy _ (by decide), ?_⟩
    rw [s_add_loc]
    refine ⟨_, _, gb hn, getElem?_push, by rw [flg_len, flg_len]; exact szy _ (by decide), ?_⟩
    have e : flg q (CN.take 14) ++ flg q [12, 13] = flg q (CN.take 16) := by simp [flg, CN]
    rw [e]
    have h0 := he.more (g := g)
    generalize hst : st ++ g = st1 at *
    have h1 := (h0.more (g := [Ob.lst (flg q [12, 13])])).more (g := [Ob.lst (flg q (CN.take 16))])
    rw [s_gN]
    show dSeq _ _ _ [some (.adr a), some (.loc _)] _
    have hn1 : (st1 ++ [Ob.lst (flg q [12, 13])] ++ [Ob.lst (flg q (CN.take 16))])[(st1 ++ [Ob.lst (flg q [12, 13])]).length]? = some (.lst (flg q (CN.take 16))) := getElem?_push
    refine step_ok (m0 := CN.take 16) (ms := [14, 15, 16]) hq h1 hn1 (by decide) ?_
    refine step_ok (m0 := CN.take 19) (ms := [17, 18, 19]) hq h1.more two_get (by decide) ?_
    refine step_ok (m0 := CN.take 22) (ms := [20, 21, 22]) hq h1.more.more two_get (by decide) ?_
    refine step_ok (m0 := CN.take 25) (ms := [23, 24, 25]) hq h1.more.more.more two_get (by decide) ?_
    refine step_ok (m0 := CN.take 28) (ms := [26, 27, 28]) hq h1.more.more.more.more two_get (by decide) ?_
    refine step_ok (m0 := CN.take 31) (ms := [29, 30, 31]) hq h1.more.more.more.more.more two_get (by decide) ?_
    refine step_ok (m0 := CN.take 34) (ms := [32, 33, 34]) hq h1.more.more.more.more.more.more two_get (by decide) ?_
    refine last_ok (m0 := CN.take 37) (ms := [35, 39, 40]) hq h1.more.more.more.more.more.more.more two_get (by decide) ?_
    refine .inl ?_
    subst hst
    simp only [List.append_assoc]
    refine k _ _ ?_
    simp only [← List.append_assoc]
    exact two_get
end
end CM
namespace CM
open PySem L2 PySem.Spec DL
open PyProof.Rows hiding St
section
variable [EC : ErrCtx]
/-- an error's field -/
def sp_field : DSp := fun ds st Q _ => match ds with
  | [.adr a, .int i] => ∃ (j : Nat) (m : Nat) (f : Str) (y : D), i = (j : Int) ∧ CN[j]? = some m ∧ FN[j]? = some f ∧ ErrAt st a m [(f, y)] ∧ Q y st
  | _ => False
theorem erF_var {st : Sto} {ρ : Env'} {Q : DK} {Z : DZ} {a : Addr} {m i : Nat} {f : Str} {ms : List Nat} {y : D} (hρ : ρ[i]? = some (some (.adr a))) (hm : m ∈ ms) (h : ErrAt st a m [(f, y)]) (k : Q y st) : dErF f ms (dVar i) ρ st Q Z := by
  rw [s_erF, s_var, hρ]
  exact ⟨a, m, _, y, rfl, hm, h, by simp [List.lookup], k⟩
omit [EC : ErrCtx] in
theorem inI {j : Int} {is : List Int} : inD (.int j) (is.map .int) = decide (j ∈ is) := by
  unfold inD
  induction is with
  | nil => rfl
  | cons n is ih =>
    simp only [List.map_cons, inV, List.any_cons, List.mem_cons, Bool.decide_or] at ih ⊢
    rw [ih]
    congr 1
    show (n == j) = decide (j = n)
    rw [Bool.beq_eq_decide_eq]
    exact decide_eq_decide.mpr eq_comm
def intL (is : List Int) : DTA := is.foldr (fun n t => dCons (dC (.int n)) t) dNil
omit [EC : ErrCtx] in
theorem intL_ok {ρ : Env'} {st : Sto} {Z : DZ} : ∀ (is : List Int) {QA : List D → Sto → Prop}, QA (is.map .int) st → intL is ρ st QA Z
  | [], QA, k => k
  | n :: is, QA, k => by
    show dCons (dC (.int n)) (intL is) ρ st QA Z
    rw [s_cons, s_c]
    exact intL_ok is k
omit [EC : ErrCtx] in
theorem in_ints {ρ : Env'} {st : Sto} {Z : DZ} {i : Nat} {j : Int} {is : List Int} {QT : Bool → Sto → Prop} (hρ : ρ[i]? = some (some (.int j))) (hl : is.length < 1000) (k : QT (decide (j ∈ is)) st) : dTest (dOp (dIn false) (dVar i) (dTup (intL is))) ρ st QT Z := by
  rw [s_test, s_op, s_var, hρ]
  show dTup (intL is) _ _ _ _
  rw [s_dtup]
  refine intL_ok is ⟨szy _ (by simpa using hl), is.map .int, rfl, rfl, by simp [flatD], ?_⟩
  show QT (inD (.int j) (is.map .int)) st
  rw [inI]
  exact k
omit [EC : ErrCtx] in
theorem ifin_no {ρ : Env'} {st : Sto} {E : DEnds} {i : Nat} {j : Int} {is : List Int} {X rest : DTS} (hρ : ρ[i]? = some (some (.int j))) (hl : is.length < 1000) (hb : decide (j ∈ is) = false) (k : rest E ρ st) :
    dSeq (dIfS (dTest (dOp (dIn false) (dVar i) (dTup (intL is)))) X dNext) rest E ρ st := by
  rw [s_seq, s_ifS]
  refine in_ints hρ hl ?_
  rw [hb]
  exact k
omit [EC : ErrCtx] in
theorem ifin_yes {ρ : Env'} {st : Sto} {E : DEnds} {i : Nat} {j : Int} {is : List Int} {te : DTE} {rest : DTS} (hρ : ρ[i]? = some (some (.int j))) (hl : is.length < 1000) (hb : decide (j ∈ is) = true) (k : te ρ st E.rt E.xs) :
    dSeq (dIfS (dTest (dOp (dIn false) (dVar i) (dTup (intL is)))) (dRet te) dNext) rest E ρ st := by
  rw [s_seq, s_ifS]
  refine in_ints hρ hl ?_
  rw [hb]
  exact k
omit [EC : ErrCtx] in
theorem eq_c {ρ : Env'} {st : Sto} {Z : DZ} {i : Nat} {j n : Int} {QT : Bool → Sto → Prop} (hρ : ρ[i]? = some (some (.int j))) (k : QT (decide (j = n)) st) : dTest (dOp dEq (dVar i) (dC (.int n))) ρ st QT Z := by
  rw [s_test, s_op, s_var, hρ]
  dsimp only
  rw [s_c]
  simpa using k
theorem r__law_field : Rd 2 sp_field RD.t__law_field RD.N__law_field := by
  intro ds st Q Z hl h
  match ds, hl, h with
  | [.adr a, .int i], _, h =>
    obtain ⟨j, m, f, y, rfl, hm, hf, he, q⟩ := h
    have hj : j < 14 := by
      have := (List.getElem?_eq_some_iff.mp hf).1
      simpa [FN] using this
    have fin : ∀ (g : Str) (ms : List Nat) (i : D), g = f → m ∈ ms → dErF g ms (dVar 0) [some (.adr a), some i] st (DL.Back st Q) (fun x _ st1 => BackX st Z x st1) := fun g ms i e hms => by
      subst e
      exact erF_var rfl hms he (.inl q)
    unfold RD.t__law_field
    rcases (show j = 0 ∨ j = 1 ∨ j = 2 ∨ j = 3 ∨ j = 4 ∨ j = 5 ∨ j = 6 ∨ j = 7 ∨ j = 8 ∨ j = 9 ∨ j = 10 ∨ j = 11 ∨ j = 12 ∨ j = 13 by omega) with rfl | rfl | rfl | rfl | rfl | rfl | rfl | rfl | rfl | rfl | rfl | rfl | rfl | rfl
    all_goals
      simp only [CN, FN, List.getElem?_cons_succ, List.getElem?_cons_zero, Option.some.injEq] at hm hf
      subst hm
      first
      | refine ifin_yes (is := [0, 2]) rfl (by decide) (by decide) (fin _ _ _ hf (by decide))
      | refine ifin_no (is := [0, 2]) rfl (by decide) (by decide) ?_
      try first
      | refine ifin_yes (is := [1, 4, 5]) rfl (by decide) (by decide) (fin _ _ _ hf (by decide))
      | refine ifin_no (is := [1, 4, 5]) rfl (by decide) (by decide) ?_
      try first
      | refine ifin_yes (is := [3, 6]) rfl (by decide) (by decide) (fin _ _ _ hf (by decide))
      | refine ifin_no (is := [3, 6]) rfl (by decide) (by decide) ?_
      try first
      | refine ifin_yes (is := [7, 8]) rfl (by decide) (by decide) ?_
      | refine ifin_no (is := [7, 8]) rfl (by decide) (by decide) ?_
      try first
      | refine ifin_yes (is := [9, 10]) rfl (by decide) (by decide) ?_
      | refine ifin_no (is := [9, 10]) rfl (by decide) (by decide) ?_
      try refine eq_c rfl ?_
      try (first | exact fin _ _ _ hf (by decide) | skip)
    · rw [s_seq, s_ifS]
      refine eq_c rfl ?_
      exact fin _ _ (.int ((11 : Nat) : Int)) hf (by decide)
    · rw [s_seq, s_ifS]
      refine eq_c rfl ((if_neg (c := decide (((12 : Nat) : Int) = 11) = true) (by decide)).mpr ?_)
      rw [s_next]
      dsimp only
      rw [s_ret, s_if]
      refine eq_c rfl ?_
      exact fin _ _ (.int ((12 : Nat) : Int)) hf (by decide)
    · rw [s_seq, s_ifS]
      refine eq_c rfl ((if_neg (c := decide (((13 : Nat) : Int) = 11) = true) (by decide)).mpr ?_)
      rw [s_next]
      dsimp only
      rw [s_ret, s_if]
      refine eq_c rfl ?_
      exact fin _ _ (.int ((13 : Nat) : Int)) hf (by decide)
end
end CM
namespace CM
open PySem L2 PySem.Spec DL
open PyProof.Rows hiding St
section
variable [EC : ErrCtx]
theorem xi_ok {a : Addr} {m i : Nat} {fs : List (Str × D)} {tbl : List (Nat × Bool)} {b : Bool} {ρ : Env'} {st : Sto} {Q : DK} {Z : DZ} (hp : (m, b) ∈ tbl) (hρ : ρ[i]? = some (some (.adr a))) (k : Q (.bl b) st) : dXi a (errX m fs) tbl (dVar i) ρ st Q Z := by
  rw [s_xi]
  refine ⟨(m, b), hp, rfl, ?_⟩
  rw [s_var, hρ]
  exact ⟨rfl, k⟩
theorem xf_ok {a : Addr} {m i : Nat} {f : Str} {y : D} {ρ : Env'} {st : Sto} {Q : DK} {Z : DZ} (hρ : ρ[i]? = some (some (.adr a))) (k : Q y st) : dXf a (errX m [(f, y)]) m f (dVar i) ρ st Q Z := by
  rw [s_xf, s_var, hρ]
  exact ⟨rfl, rfl, y, by simp [errX, List.lookup], k⟩
omit [EC : ErrCtx] in
theorem ifeq_no {ρ : Env'} {st : Sto} {E : DEnds} {i : Nat} {j n : Int} {X rest : DTS} (hρ : ρ[i]? = some (some (.int j))) (hb : decide (j = n) = false) (k : rest E ρ st) :
    dSeq (dIfS (dTest (dOp dEq (dVar i) (dC (.int n)))) X dNext) rest E ρ st := by
  rw [s_seq, s_ifS]
  refine eq_c hρ ?_
  rw [hb]
  exact k
omit [EC : ErrCtx] in
theorem ifeq_yes {ρ : Env'} {st : Sto} {E : DEnds} {i : Nat} {j n : Int} {X rest : DTS} (hρ : ρ[i]? = some (some (.int j))) (hb : decide (j = n) = true) (k : X { E with nx := rest E } ρ st) :
    dSeq (dIfS (dTest (dOp dEq (dVar i) (dC (.int n)))) X dNext) rest E ρ st := by
  rw [s_seq, s_ifS]
  refine eq_c hρ ?_
  rw [hb]
  exact k
theorem raise_ok {ρ : Env'} {st : Sto} {E : DEnds} {i m : Nat} {f : Str} {y : D} (hρ : ρ[i]? = some (some y)) (k : E.xs (errX m [(f, y)]) ρ st) : dRaise1 m f (dVar i) E ρ st := by
  rw [s_raise1, s_var, hρ]
  exact k
theorem tru_xi {a : Addr} {m i : Nat} {fs : List (Str × D)} {tbl : List (Nat × Bool)} {b : Bool} {ρ : Env'} {st : Sto} {QT : Bool → Sto → Prop} {Z : DZ} (hp : (m, b) ∈ tbl) (hρ : ρ[i]? = some (some (.adr a))) (k : QT b st) : dTru (dXi a (errX m fs) tbl (dVar i)) ρ st QT Z := by
  rw [s_tru]
  exact xi_ok hp hρ k
def sp_raised : DSp := fun ds st Q _ => match ds with
  | [.int i, y] => 0 ≤ i ∧ i < 4 ∧ ∀ g, Q y (st ++ g)
  | _ => False
theorem r__law_raised_k00n : Rd 2 sp_raised RD.t__law_raised_k00n RD.N__law_raised_k00n := by
  intro ds st Q Z hl h
  match ds, hl, h with
  | [.int i, y], _, h =>
    obtain ⟨h0, h4, q⟩ := h
    unfold RD.t__law_raised_k00n
    rw [s_seq, s_asg, s_c, s_gN]
    dsimp only
    show dSeq _ _ _ [some (.int i), some y, some .non, none] st
    rw [s_seq, s_tryAs]
    unfold RD.b__law_raised_k00n_1
    have last : ∀ (x3 : Option D) (g : Sto), dRet (dVar 2) { nx := fun x st1 => DL.Back st Q D.non st1, rt := DL.Back st Q, xs := fun x x_1 st1 => BackX st Z x st1 } [some (.int i), some y, some y, x3] (st ++ g) := fun x3 g => by
      rw [s_ret, s_var]
      exact .inl (q g)
    rcases (show i = 0 ∨ i = 1 ∨ i = 2 ∨ i = 3 by omega) with rfl | rfl | rfl | rfl
    · refine ifeq_yes rfl (by decide) (raise_ok (y := y) rfl ⟨caught (by decide), fun a => ?_⟩)
      unfold RD.s__law_raised_k00n_2
      rw [s_seq, s_asg, s_if]
      refine tru_xi (b := true) (by decide) rfl ?_
      rw [if_pos rfl]
      refine xf_ok rfl ?_
      rw [s_gN]
      dsimp only
      rw [s_ifS]
      refine tru_xi (b := false) (by decide) rfl ?_
      rw [if_neg (by decide), s_ifS]
      refine tru_xi (b := false) (by decide) rfl ?_
      rw [if_neg (by decide), s_ifS]
      refine tru_xi (b := false) (by decide) rfl ?_
      rw [if_neg (by decide), s_next]
      simpa using last none []
    · refine ifeq_no rfl (by decide) (ifeq_yes rfl (by decide) (raise_ok (y := y) rfl ⟨caught (by decide), fun a => ?_⟩))
      unfold RD.s__law_raised_k00n_2
      rw [s_seq, s_asg, s_if]
      refine tru_xi (b := false) (by decide) rfl ?_
      rw [if_neg (by decide), s_dlst, s_cons, s_var]
      refine ⟨szy _ (by simp), ?_⟩
      rw [s_gN]
      dsimp only
      rw [s_ifS]
      refine tru_xi (b := true) (by decide) rfl ?_
      rw [if_pos rfl, s_asg]
      refine xf_ok rfl ?_
      simpa using last none [.lst [.adr a]]
    · refine ifeq_no rfl (by decide) (ifeq_no rfl (by decide) (ifeq_yes rfl (by decide) (raise_ok (y := y) rfl ⟨caught (by decide), fun a => ?_⟩)))
      unfold RD.s__law_raised_k00n_2
      rw [s_seq, s_asg, s_if]
      refine tru_xi (b := false) (by decide) rfl ?_
      rw [if_neg (by decide), s_dlst, s_cons, s_var]
      refine ⟨szy _ (by simp), ?_⟩
      rw [s_gN]
      dsimp only
      rw [s_ifS]
      refine tru_xi (b := false) (by decide) rfl ?_
      rw [if_neg (by decide), s_ifS]
      refine tru_xi (b := true) (by decide) rfl ?_
      rw [if_pos rfl, s_asg]
      refine xf_ok rfl ?_
      simpa using last none [.lst [.adr a]]
    · refine ifeq_no rfl (by decide) (ifeq_no rfl (by decide) (ifeq_no rfl (by decide) (raise_ok (y := y) rfl ⟨caught (by decide), fun a => ?_⟩)))
      unfold RD.s__law_raised_k00n_2
      rw [s_seq, s_asg, s_if]
      refine tru_xi (b := false) (by decide) rfl ?_
      rw [if_neg (by decide), s_dlst, s_cons, s_var]
      refine ⟨szy _ (by simp), ?_⟩
      rw [s_gN]
      dsimp only
      rw [s_ifS]
      refine tru_xi (b := false) (by decide) rfl ?_
      rw [if_neg (by decide), s_ifS]
      refine tru_xi (b := false) (by decide) rfl ?_
      rw [if_neg (by decide), s_ifS]
      refine tru_xi (b := true) (by decide) rfl ?_
      rw [if_pos rfl, s_asg]
      refine xf_ok rfl ?_
      simpa using last none [.lst [.adr a]]
theorem samF_more {st g : Sto} : ∀ (n : Nat) {t d : D}, samF st n t d → samF (st ++ g) n t d
  | 0, t, d, h => h
  | n + 1, t, d, h => by
    rcases h with h | ⟨ts, ds, hk, ⟨h1, h2⟩, h3⟩ | ⟨a, od, k, i, e1, e2, h⟩
    · exact .inl h
    · refine .inr (.inl ⟨ts, ds, ?_, ⟨h1, fun k x y ex ey => samF_more n (h2 k x y ex ey)⟩, h3⟩)
      rcases hk with hk | ⟨a, b, e1, e2, ha, hb⟩
      · exact .inl hk
      · exact .inr ⟨a, b, e1, e2, gb ha, gb hb⟩
    · exact .inr (.inr ⟨a, od, k, i, e1, e2, gb h⟩)
theorem samF_one {st : Sto} {n a b : Nat} {x y : D} (ha : st[a]? = some (.lst [x])) (hb : st[b]? = some (.lst [y])) (h : samF st n x y) : samF st (n + 1) (.loc a) (.loc b) := by
  refine .inr (.inl ⟨[x], [y], .inr ⟨a, b, rfl, rfl, ha, hb⟩, ⟨rfl, fun k u v e1 e2 => ?_⟩, by simp⟩)
  cases k with
  | zero => simp at e1 e2; subst e1 e2; exact h
  | succ k => simp at e1
omit [EC : ErrCtx] in
theorem ne_ints {i j : Int} {st : Sto} {Q : DK} : dNe (.int i) (.int j) st Q = Q (.bl (!decide (i = j))) st := rfl
def sp_right : DSp := fun ds st Q _ => match ds with
  | [.adr a, .int i, y] => ∃ (j m : Nat) (fs : List (Str × D)), i = (j : Int) ∧ CN[j]? = some m ∧ ErrAt st a m fs ∧ (j < 14 → (∃ f, FN[j]? = some f ∧ fs = [(f, y)]) ∧ samF st 37 y y) ∧ ∀ g, Q (.bl true) (st ++ g)
  | _ => False
theorem cn_len : CN.length = 40 := rfl
theorem cn_facts : ∀ j < 40, (CN[j]?.getD 0) ∈ EMS ∧ (CN.map fun m => CN[j]?.getD 0 == m)[j]? = some true ∧ ((CN.map fun m => CN[j]?.getD 0 == m).countP fun b => b == true) = 1 := by decide +kernel
theorem r__law_right : Rd 3 sp_right (RD.t__law_right (sp_isF 38) (sp_cls CN) sp_field) RD.N__law_right := by
  intro ds st Q Z hl h
  match ds, hl, h with
  | [.adr a, .int i, y], _, h =>
    obtain ⟨j, m, fs, rfl, hm, he, hy, q⟩ := h
    have hj : j < 40 := by
      have := (List.getElem?_eq_some_iff.mp hm).1
      simpa [CN] using this
    obtain ⟨c1, c2, c3⟩ := cn_facts j hj
    rw [hm] at c1 c2 c3
    simp only [Option.getD_some] at c1 c2 c3
    unfold RD.t__law_right
    rw [s_seq, s_asg, s_call]
    refine ⟨rfl, m, fs, c1, he, fun g n hn => ?_⟩
    have he1 := he.more (g := g)
    have hy1 : j < 14 → (∃ f, FN[j]? = some f ∧ fs = [(f, y)]) ∧ samF (st ++ g) 37 y y := fun hh => ⟨(hy hh).1, samF_more 37 (hy hh).2⟩
    have q1 : ∀ g', Q (.bl true) ((st ++ g) ++ g') := fun g' => by rw [List.append_assoc]; exact q _
    have q0 : ∀ g', DL.Back st Q (.bl true) ((st ++ g) ++ g') := fun g' => .inl (q1 g')
    generalize st ++ g = st1 at he1 hy1 q1 q0 hn ⊢
    have hn' : st1[n]? = some (.lst ((CN.map fun x => m == x).map .bl)) := by rw [hn]; simp [flg, Function.comp_def]
    dsimp only
    rw [s_gN]
    show dSeq _ _ _ [some (.adr a), some (.int (j : Int)), some y, some (.loc n)] st1
    rw [s_seq, s_ifS, s_or, s_not, s_tru, s_op, s_var]
    show dVar 1 _ _ _ _
    rw [s_var]
    show dIx (.loc n) (.int (j : Int)) _ _
    rw [s_ix_loc]
    refine ⟨_, _, hn', atI_nat (by rw [List.getElem?_map, c2]; rfl), ?_⟩
    dsimp only
    rw [s_tru_bl, if_neg (by decide), s_or, s_test, s_op, s_bm, s_var]
    refine ⟨by simp [tyD, hn'], ?_⟩
    rw [s_cons, s_c, s_nil]
    refine ⟨CN.map fun x => m == x, hn', ?_⟩
    rw [c3]
    dsimp only
    rw [s_c]
    rw [ne_ints]
    dsimp only
    rw [if_neg (by decide), s_test, s_op, s_cb, s_cons, s_var]
    show dNil _ _ _ _
    rw [s_nil, s_len_loc, hn']
    dsimp only
    rw [s_c]
    rw [List.length_map, List.length_map, cn_len]
    rw [ne_ints]
    dsimp only
    rw [if_neg (by decide), s_next]
    dsimp only
    have isE : ∀ (ρ : Env') (QT : Bool → Sto → Prop), ρ[0]? = some (some (.adr a)) → QT true st1 → dTru (dIsE EMS (fun _ => true) (dVar 0)) ρ st1 QT (fun x _ st1 => BackX st Z x st1) := fun ρ QT h0 k => by
      rw [s_tru]
      exact isE_var h0 c1 he1 k
    rw [s_seq, s_ifS, s_or, s_not]
    refine isE _ _ rfl ?_
    rw [if_neg (by decide), s_not]
    refine isE _ _ rfl ?_
    rw [if_neg (by decide), s_next]
    dsimp only
    rw [s_ret, s_orV, s_op, s_var]
    show dC _ _ _ _ _
    rw [s_c]
    show (if decide ((13 : Int) < (j : Int)) = true then _ else _)
    by_cases h13 : 13 < j
    · rw [if_pos (by simp; omega)]
      have : decide ((13 : Int) < (j : Int)) = true := by simp; omega
      show DL.Back st Q (.bl (decide ((13 : Int) < (j : Int)))) st1
      rw [this]
      simpa using q0 []
    · rw [if_neg (by simp; omega)]
      obtain ⟨⟨f, hf, rfl⟩, hs⟩ := hy1 (by omega)
      rw [s_call, s_cons, s_dlst, s_cons, s_call, s_cons, s_var]
      show dCons _ _ _ _ _ _
      rw [s_cons, s_var]
      show dNil _ _ _ _
      rw [s_nil]
      refine ⟨rfl, j, m, f, y, rfl, hm, hf, he1, ?_⟩
      show dNil _ _ _ _
      rw [s_nil]
      refine ⟨szy _ (by simp), ?_⟩
      rw [s_cons, s_dlst, s_cons, s_var]
      show dNil _ _ _ _
      rw [s_nil]
      refine ⟨szy _ (by simp), ?_⟩
      rw [s_nil]
      refine ⟨rfl, ?_, ?_⟩
      · exact samF_one (gb getElem?_push) getElem?_push (samF_more 37 (samF_more 37 hs))
      · rw [List.append_assoc]
        exact q0 _
end
end CM
namespace CM
open PySem L2 PySem.Spec DL
open PyProof.Rows hiding St
def sp_within0 : DSp := fun ds st Q _ => match ds with
  | [.int i, .tup []] => i = 200 ∧ Q (.bl true) st
  | _ => False
theorem r_is_tuple_within : Rd 2 sp_within0 RD.t_is_tuple_within RD.N_is_tuple_within := by
  intro ds st Q Z hl h
  match ds, hl, h with
  | [.int i, .tup []], _, hxx0 =>
    obtain ⟨e, q⟩ := hxx0
    subst e
    unfold RD.t_is_tuple_within
    simp [tySub]
    exact .inl q
def sp_wrong0 : DSp := fun ds st Q _ => match ds with
  | [.tup []] => Q .non st
  | _ => False
theorem r_wrong_entry_k00n : Rd 1 sp_wrong0 (RD.t_wrong_entry_k00n sp_within0) RD.N_wrong_entry_k00n := by
  intro ds st Q Z hl h
  match ds, hl, h with
  | [.tup []], _, q =>
    unfold RD.t_wrong_entry_k00n
    have hw : ∀ (Q' : DK) (Z' : DX → Sto → Prop), Q' (.bl true) st → sp_within0 [.int 200, .tup []] st Q' Z' := fun Q' Z' k => ⟨rfl, k⟩
    simp
    refine hw _ _ ?_
    exact (⟨trivial, Or.inl q⟩ : True ∧ DL.Back st Q .non st)
section
variable [EC : ErrCtx]
def sp_binit : DSp := fun ds st Q _ => match ds with
  | [.loc n, .tup []] => st[n]? = some (.ins (errA 101) []) ∧ Q .non ((st.set n (.ins (errA 101) [("entries", .tup [])]) ++ [Ob.dN EC.wd []]).set n (.ins (errA 101) [("entries", .tup []), ("places", .loc st.length)]))
  | _ => False
theorem r_Book___init__P_k00n : Rd 2 sp_binit (RD.t_Book___init__P_k00n sp_wrong0) RD.N_Book___init__P_k00n := by
  intro ds st Q Z hl h
  match ds, hl, h with
  | [.loc n, .tup []], _, hxx0 =>
    obtain ⟨hn, q⟩ := hxx0
    unfold RD.t_Book___init__P_k00n
    rw [s_seq, s_asg, s_call]
    show [D.tup []].length = 1 ∧ sp_wrong0 [D.tup []] _ _ _
    refine ⟨rfl, ?_⟩
    have hw : ∀ (Q' : DK) (Z' : DX → Sto → Prop), Q' .non st → sp_wrong0 [.tup []] st Q' Z' := fun Q' Z' k => k
    refine hw _ _ ?_
    rw [s_gN]
    dsimp only
    show dSeq _ _ _ [some (.loc n), some (.tup []), some .non, none] st
    have hlt : n < st.length := (List.getElem?_eq_some_iff.mp hn).1
    rw [s_seq]
    simp [isNonD]
    unfold dSetF
    simp
    refine ⟨_, hn, by decide, ?_⟩
    unfold runD
    refine ⟨trivial, [("entries", .tup [])], ?_, by decide, ?_⟩
    · rw [List.getElem?_append_left (by simpa using hlt), List.getElem?_set_self hlt]
      rfl
    · rw [show (List.set st n (Ob.ins (errA 101) (putFD (Str.ofString "entries") (D.tup []) []))).length = st.length by simp]
      exact .inl q
def sp_beq : DSp := fun ds st Q _ => match ds with
  | [.loc i, .loc j] => ∃ m m', st[i]? = some (.ins (errA 101) [("entries", .tup []), ("places", .loc m)]) ∧ st[j]? = some (.ins (errA 101) [("entries", .tup []), ("places", .loc m')]) ∧ Q (.bl true) st
  | _ => False
theorem r_Book___eq___k00n : Rd 2 sp_beq RD.t_Book___eq___k00n RD.N_Book___eq___k00n := by
  intro ds st Q Z hl h
  match ds, hl, h with
  | [.loc i, .loc j], _, hxx0 =>
    obtain ⟨m, m', hi, hj, q⟩ := hxx0
    unfold RD.t_Book___eq___k00n
    rw [s_ret, s_andV, s_isC1, s_var]
    refine ⟨j, _, rfl, hj, ?_⟩
    rw [s_tru_bl, if_pos rfl, s_op, s_fld, s_var]
    refine ⟨i, 101, _, _, rfl, by simp, hi, rfl, ?_⟩
    rw [s_fld, s_var]
    refine ⟨j, 101, _, _, rfl, by simp, hj, rfl, ?_⟩
    refine eq_plain (b := true) rfl rfl (by decide) (by decide) (by simp) ?_
    exact .inl q
end
end CM
namespace CM
open PySem L2 PySem.Spec DL
open PyProof.Rows hiding St
def gd (h : Nat) (st : Sto) : Nat → D → Prop
  | 0, d => leafD d
  | n + 1, d => leafD d ∨ (∃ ds, (d = .tup ds ∨ ∃ a, a ≠ h ∧ d = .loc a ∧ st[a]? = some (.lst ds)) ∧ (∀ x ∈ ds, gd h st n x) ∧ ds.length < 1048576) ∨ ∃ a od k i, a ≠ h ∧ d = .loc a ∧ st[a]? = some (.dkF od [(k, .int i)])
theorem gd.leaf {h : Nat} {st : Sto} {d : D} (hd : leafD d) : ∀ n, gd h st n d
  | 0 => hd
  | n + 1 => .inl hd
theorem gd.samF {h : Nat} {st : Sto} : ∀ {n : Nat} {d : D}, gd h st n d → samF st n d d
  | 0, d, g => ⟨rfl, g⟩
  | n + 1, d, g => by
    rcases g with g | ⟨ds, hk, hd, hl⟩ | ⟨a, od, k, i, ha, e, g⟩
    · exact .inl ⟨rfl, g⟩
    · refine .inr (.inl ⟨ds, ds, ?_, ⟨rfl, fun k x y e1 e2 => ?_⟩, hl⟩)
      · rcases hk with e | ⟨a, ha, e, g⟩
        · exact .inl ⟨e, e⟩
        · exact .inr ⟨a, a, e, e, g, g⟩
      · rw [e1] at e2
        cases e2
        exact gd.samF (hd x (List.mem_of_getElem? e1))
    · exact .inr (.inr ⟨a, od, k, i, e, e, g⟩)
theorem gd.same {h : Nat} {st st' : Sto} (hs : ∀ a, a ≠ h → a < st.length → st'[a]? = st[a]?) : ∀ {n : Nat} {d : D}, gd h st n d → gd h st' n d
  | 0, d, g => g
  | n + 1, d, g => by
    rcases g with g | ⟨ds, hk, hd, hl⟩ | ⟨a, od, k, i, ha, e, g⟩
    · exact .inl g
    · refine .inr (.inl ⟨ds, ?_, fun x hx => gd.same hs (hd x hx), hl⟩)
      rcases hk with e | ⟨a, ha, e, g⟩
      · exact .inl e
      · exact .inr ⟨a, ha, e, by rw [hs a ha (List.getElem?_eq_some_iff.mp g).1]; exact g⟩
    · exact .inr (.inr ⟨a, od, k, i, ha, e, by rw [hs a ha (List.getElem?_eq_some_iff.mp g).1]; exact g⟩)
theorem gd.up {h : Nat} {st : Sto} : ∀ {n : Nat} {d : D}, gd h st n d → gd h st (n + 1) d
  | 0, d, g => .inl g
  | n + 1, d, g => by
    rcases g with g | ⟨ds, hk, hd, hl⟩ | g
    · exact .inl g
    · exact .inr (.inl ⟨ds, hk, fun x hx => gd.up (hd x hx), hl⟩)
    · exact .inr (.inr g)
theorem gd.more {h n : Nat} {st g : Sto} {d : D} (x : gd h st n d) : gd h (st ++ g) n d := x.same fun a _ ha => by rw [List.getElem?_append_left ha]
theorem gd.sm {h n : Nat} {st st' : Sto} {d : D} (x : gd h st n d) (s : Sm h st st') : gd h st' n d := x.same fun a ha _ => s.same a ha
theorem gd.lst {h n a : Nat} {st : Sto} {ds : List D} (ha : a ≠ h) (e : st[a]? = some (.lst ds)) (hd : ∀ x ∈ ds, gd h st n x) (hl : ds.length < 1048576) : gd h st (n + 1) (.loc a) := .inr (.inl ⟨ds, .inr ⟨a, ha, rfl, e⟩, hd, hl⟩)
theorem gd.tup {h n : Nat} {st : Sto} {ds : List D} (hd : ∀ x ∈ ds, gd h st n x) (hl : ds.length < 1048576) : gd h st (n + 1) (.tup ds) := .inr (.inl ⟨ds, .inl rfl, hd, hl⟩)
def sp_deepF : DSp := fun ds st Q _ => match ds with
  | [.int i] => i = 0 ∧ ∃ h, h < st.length ∧ ∀ d g, gd h (st ++ g) 36 d → Q d (st ++ g)
  | _ => False
theorem lp_deepF (E : DEnds) {h : Nat} {st : Sto} (hh : h < st.length) (hk : ∀ d g y, gd h (st ++ g) 36 d → E.nx [some (.int 0), some d, y] (st ++ g)) : ∀ (n i m : Nat) (d : D) (g : Sto) (x : Option D), m + n = 36 → gd h (st ++ g) m d →
    runG (gN 2) RD.b__law_deep_1 E (fun _ => True) (upFrom i n) [some (.int 0), some d, x] (st ++ g)
  | 0, i, m, d, g, x, hm, hg => by
    rw [upFrom, runG_nil]
    rw [show m = 36 by omega] at hg
    exact ⟨trivial, hk d g x hg⟩
  | n + 1, i, m, d, g, x, hm, hg => by
    rw [upFrom, runG_cons]
    refine ⟨trivial, ?_⟩
    have ih := lp_deepF E hh hk n (i + 1) (m + 1)
    simp only [s_gN]
    generalize hR : runG (gN 2) RD.b__law_deep_1 E (fun _ => True) (upFrom (i + 1) n) = R at ih ⊢
    unfold RD.b__law_deep_1
    simp
    refine ⟨by decide, ?_⟩
    have := ih (.loc (st ++ g).length) (g ++ [.lst [d]]) (some (.int (i : Nat))) (by omega) (gd.lst (ds := [d]) (by simp; omega) (by rw [← List.append_assoc]; exact getElem?_push) (fun x hx => by rw [List.mem_singleton.mp hx, ← List.append_assoc]; exact hg.more) (by simp))
    simpa using this
theorem r__law_deepF : Rd 1 sp_deepF RD.t__law_deep RD.N__law_deep := by
  intro ds st Q Z hl h
  match ds, hl, h with
  | [.int k], _, hxx0 =>
    obtain ⟨e, h, hh, q⟩ := hxx0
    subst e
    unfold RD.t__law_deep
    simp
    rw [rngItems_up]
    have := lp_deepF { nx := dRet (dVar 1) { nx := fun x st1 => DL.Back st Q D.non st1, rt := DL.Back st Q, xs := fun x x_1 st1 => BackX st Z x st1 }, rt := DL.Back st Q, xs := fun x x_1 st1 => BackX st Z x st1 } (st := st) hh (fun d g y h1 => ?_) 36 0 0 .non [] none rfl trivial
    · simpa using this
    · simp
      exact .inl (q d g h1)
section
variable [EC : ErrCtx]
/-- what is made: the class, the field and what of the told goes into it -/
abbrev MK := Nat × Option (Str × Nat)
def mkT : MK → DTE
  | (m, some (f, k)) => dMkE1 m f (dOp dIx (dVar 3) (dC (.int (k : Int))))
  | (m, none) => dMkE0 m
def mkL (xs : List MK) : DTA := xs.foldr (fun x t => dCons (mkT x) t) dNil
def fsOf (tl : List D) : Option (Str × Nat) → List (Str × D)
  | some (f, k) => [(f, tl.getD k .non)]
  | none => []
def ErrsAt (st : Sto) (tl : List D) : List MK → List Addr → Prop
  | [], [] => True
  | x :: xs, a :: as => ErrAt st a x.1 (fsOf tl x.2) ∧ ErrsAt st tl xs as
  | _, _ => False
theorem ErrsAt.more {st g : Sto} {tl : List D} : ∀ {xs : List MK} {as : List Addr}, ErrsAt st tl xs as → ErrsAt (st ++ g) tl xs as
  | [], [], h => h
  | x :: xs, a :: as, h => ⟨h.1.more, ErrsAt.more h.2⟩
  | [], a :: as, h => h.elim
  | x :: xs, [], h => h.elim
theorem ErrsAt.app {st : Sto} {tl : List D} : ∀ {xs ys : List MK} {as bs : List Addr}, ErrsAt st tl xs as → ErrsAt st tl ys bs → ErrsAt st tl (xs ++ ys) (as ++ bs)
  | [], ys, [], bs, h, k => k
  | x :: xs, ys, a :: as, bs, h, k => ⟨h.1, ErrsAt.app h.2 k⟩
  | [], _, a :: as, _, h, _ => h.elim
  | x :: xs, _, [], _, h, _ => h.elim
theorem ErrsAt.len {st : Sto} {tl : List D} : ∀ {xs : List MK} {as : List Addr}, ErrsAt st tl xs as → as.length = xs.length
  | [], [], _ => rfl
  | x :: xs, a :: as, h => by simp [ErrsAt.len h.2]
  | [], a :: as, h => h.elim
  | x :: xs, [], h => h.elim
theorem ErrsAt.get {st : Sto} {tl : List D} : ∀ {xs : List MK} {as : List Addr}, ErrsAt st tl xs as → ∀ (j : Nat) a, as[j]? = some a → ∃ x, xs[j]? = some x ∧ ErrAt st a x.1 (fsOf tl x.2)
  | [], [], _, j, a, e => by simp at e
  | x :: xs, b :: as, h, 0, a, e => by simp at e; subst e; exact ⟨x, rfl, h.1⟩
  | x :: xs, b :: as, h, j + 1, a, e => by
    obtain ⟨y, e1, h1⟩ := ErrsAt.get h.2 j a (by simpa using e)
    exact ⟨y, by simpa using e1, h1⟩
  | [], a :: as, h, _, _, _ => h.elim
  | x :: xs, [], h, _, _, _ => h.elim
/-- a list written over leaves the errors be -/
theorem ErrAt.setL {st : Sto} {a : Addr} {q n : Nat} {fs : List (Str × D)} {es : List D} {o : Ob} (h : ErrAt st a q fs) (hn : st[n]? = some (.lst es)) : ErrAt (st.set n o) a q fs := by
  have ne : ∀ {k : Nat} {b : Ob}, st[k]? = some b → (∀ es, b ≠ .lst es) → (st.set n o)[k]? = some b := fun {k b} hk hb => by
    rw [List.getElem?_set_ne (fun e => by subst e; rw [hn] at hk; cases hk; exact hb _ rfl)]
    exact hk
  obtain ⟨k, d, h1, h2⟩ := h
  refine ⟨k, d, ne h1 (fun _ z => nomatch z), ?_⟩
  rcases h2 with h2 | ⟨dd, j, e, h2⟩
  · exact .inl h2
  · exact .inr ⟨dd, j, e, ne h2 (fun _ z => nomatch z)⟩
theorem ErrsAt.setL {st : Sto} {tl : List D} {n : Nat} {es : List D} {o : Ob} (hn : st[n]? = some (.lst es)) : ∀ {xs : List MK} {as : List Addr}, ErrsAt st tl xs as → ErrsAt (st.set n o) tl xs as
  | [], [], h => h
  | x :: xs, a :: as, h => ⟨ErrAt.setL h.1 hn, ErrsAt.setL hn h.2⟩
  | [], a :: as, h => h.elim
  | x :: xs, [], h => h.elim
theorem mkT_ok {ρ : Env'} {st : Sto} {Q : DK} {Z : DZ} {n3 : Nat} {tl : List D} (hρ : ρ[3]? = some (some (.loc n3))) (hn : st[n3]? = some (.lst tl)) : ∀ (x : MK), (∀ f k, x.2 = some (f, k) → k < tl.length) →
    (∀ a g, ErrAt (st ++ g) a x.1 (fsOf tl x.2) → Q (.adr a) (st ++ g)) → mkT x ρ st Q Z
  | (m, some (f, k)), hk, q => by
    have hk' := hk f k rfl
    show dMkE1 m f (dOp dIx (dVar 3) (dC (.int (k : Int)))) ρ st Q Z
    rw [s_mkE1, s_op, s_var, hρ]
    show dC _ _ _ _ _
    rw [s_c, s_ix_loc]
    refine ⟨tl, tl.getD k .non, hn, ?_, fun a dx => ?_⟩
    · refine atI_nat ?_
      rw [List.getD_eq_getElem?_getD, List.getElem?_eq_getElem hk']
      rfl
    · refine q a [.xdt dx [(f, tl.getD k .non)], .err a (errA m) (some dx)] ⟨st.length + 1, some dx, ?_, .inr ⟨dx, st.length, rfl, ?_⟩⟩
      · exact two_get
      · rw [List.getElem?_append_right (Nat.le_refl _)]
        simp [fsOf]
  | (m, none), hk, q => by
    show dMkE0 m ρ st Q Z
    rw [s_mkE0]
    intro a
    exact q a [.err a (errA m) none] ⟨st.length, none, getElem?_push, .inl ⟨rfl, rfl⟩⟩
theorem mkL_ok {ρ : Env'} {Z : DZ} {n3 : Nat} {tl : List D} (hρ : ρ[3]? = some (some (.loc n3))) : ∀ (xs : List MK) {st : Sto} {QA : List D → Sto → Prop}, st[n3]? = some (.lst tl) → (∀ x ∈ xs, ∀ f k, x.2 = some (f, k) → k < tl.length) →
    (∀ as g, ErrsAt (st ++ g) tl xs as → QA (as.map .adr) (st ++ g)) → mkL xs ρ st QA Z
  | [], st, QA, hn, hk, q => by
    show QA [] st
    have := q [] [] trivial
    simpa using this
  | x :: xs, st, QA, hn, hk, q => by
    show dCons (mkT x) (mkL xs) ρ st QA Z
    rw [s_cons]
    refine mkT_ok hρ hn x (hk x List.mem_cons_self) fun a g he => ?_
    refine mkL_ok hρ xs (gb hn) (fun y hy => hk y (List.mem_cons_of_mem _ hy)) fun as g' hs => ?_
    rw [List.append_assoc] at hs ⊢
    refine q (a :: as) (g ++ g') ⟨?_, hs⟩
    rw [← List.append_assoc]
    exact he.more
end
end CM
namespace CM
open PySem L2 PySem.Spec DL
open PyProof.Rows hiding St
section
variable [EC : ErrCtx]
abbrev bLaw00 [ErrCtx] := RD.b_law_2 sp_binit sp_beq sp_hand sp_draw sp_some (sp_isF 38) sp_deepF sp_raised sp_right
abbrev eLaw00 [ErrCtx] := RD.e_law_1 sp_binit sp_beq sp_hand sp_draw sp_some (sp_isF 38) sp_deepF sp_raised sp_right
omit [EC : ErrCtx] in
theorem Hd.setY {st : Sto} {h c m : Nat} (H : Hd st h c) (h1 : m ≠ h) (h2 : m ≠ c) (o : Ob) : Hd (st.set m o) h c := by
  obtain ⟨cells, a, b, d, e, q1, q2, q3⟩ := H.ex
  exact ⟨cells, a, b, d, e, by rw [List.getElem?_set_ne h1]; exact q1, by rw [List.getElem?_set_ne h2]; exact q2, q3⟩
/-- fourteen things are drawn -/
theorem lp_told {Q : DK} {h c m2 : Nat} {es : List D} {x0 x3 x5 x6 x7 x8 x9 : Option D} (hne : m2 ≠ h) (h0 : 0 < es.length) (hl : es.length < 1000) : ∀ (n i : Nat) (acc : List D) (st : Sto), Hd st h c → st[m2]? = some (.lst es) → acc.length + n < 1000 →
    (∀ st' ds, Hd st' h c → Sm h st st' → ds.length = n → (∀ d ∈ ds, d ∈ es) → Q (.loc st'.length) (st' ++ [.lst (acc ++ ds)])) →
    runC (gN 4) dYes eLaw00 [x0, some (.loc h), some (.loc m2), x3, none, x5, x6, x7, x8, x9] Q (fun _ => True) (upFrom i n) acc st
  | 0, i, acc, st, H, hm, hac, q => ⟨trivial, by simpa using q st [] H (Sm.refl h st) rfl fun p hp => nomatch hp⟩
  | n + 1, i, acc, st, H, hm, hac, q => by
    rw [show upFrom i (n + 1) = .int (i : Nat) :: upFrom (i + 1) n from rfl, runC_cons]
    refine ⟨trivial, ?_⟩
    have ih := fun acc st => lp_told (Q := Q) (x0 := x0) (x3 := x3) (x5 := x5) (x6 := x6) (x7 := x7) (x8 := x8) (x9 := x9) (c := c) hne h0 hl n (i + 1) acc st
    generalize hR : runC (gN 4) dYes eLaw00 [x0, some (.loc h), some (.loc m2), x3, none, x5, x6, x7, x8, x9] Q (fun _ => True) (upFrom (i + 1) n) = R at ih ⊢
    rw [s_gN, s_yes, if_pos rfl]
    unfold eLaw00 RD.e_law_1
    rw [s_call, s_cons, s_var]
    simp only [List.set, List.getElem?_cons_succ, List.getElem?_cons_zero]
    rw [s_cons, s_var]
    simp only [List.getElem?_cons_succ, List.getElem?_cons_zero]
    rw [s_nil, e_some]
    refine ⟨rfl, c, es, H, by simp [itemsD, hm], fun z => hne (D.loc.inj z), h0, by omega, fun e st' he H' s' => ⟨sizeLine_big (by omega), ?_⟩⟩
    refine ih _ st' H' (by rw [s'.same m2 hne]; exact hm) (by simp; omega) fun st2 ds H2 s2 hds hd => ?_
    have := q st2 (e :: ds) H2 (s'.trans s2) (by simp [hds]) fun p hp => by
      rcases List.mem_cons.mp hp with rfl | hp
      · exact he
      · exact hd p hp
    simpa using this
/-- more errors are made -/
theorem addE_ok {E : DEnds} {rest : DTS} {n3 n5 : Nat} {tl : List D} {st : Sto} {xs : List MK} {as : List Addr} {y0 y1 y2 y4 y6 y7 y8 y9 : Option D} (ys : List MK) (h3 : st[n3]? = some (.lst tl)) (h5 : st[n5]? = some (.lst (as.map .adr))) (he : ErrsAt st tl xs as) (hk : ∀ x ∈ ys, ∀ f k, x.2 = some (f, k) → k < tl.length)
    (hl : xs.length + ys.length < 1000)
    (q : ∀ as' g n, ErrsAt (st ++ g) tl (xs ++ ys) as' → (st ++ g)[n]? = some (.lst (as'.map .adr)) → st.length ≤ n → rest E [y0, y1, y2, some (.loc n3), y4, some (.loc n), y6, y7, y8, y9] (st ++ g)) :
    dSeq (dAsg (dOp dAdd (dVar 5) (dLst (mkL ys))) (gN 5)) rest E [y0, y1, y2, some (.loc n3), y4, some (.loc n5), y6, y7, y8, y9] st := by
  rw [s_seq, s_asg, s_op, s_var]
  show dLst (mkL ys) _ _ _ _
  rw [s_dlst]
  refine mkL_ok rfl ys h3 hk fun bs g hs => ⟨by rw [List.length_map, hs.len]; exact szy _ (by omega), ?_⟩
  rw [s_add_loc]
  refine ⟨_, _, gb (gb h5), getElem?_push, by rw [List.length_map, List.length_map, hs.len, he.len]; exact szy _ (by omega), ?_⟩
  rw [s_gN]
  have := q (as ++ bs) (g ++ [.lst (bs.map .adr), .lst ((as ++ bs).map .adr)]) ((st ++ g).length + 1) (by
    rw [← List.append_assoc]
    exact (he.more.app hs).more) (by rw [← List.append_assoc]; exact two_get) (by simp; omega)
  simpa [Nat.add_assoc] using this
theorem lp_errs (E : DEnds) {n3 n5 : Nat} {tl : List D} {st : Sto} {as : List Addr} {x0 x1 x2 x7 x8 x9 : Option D} (h3 : st[n3]? = some (.lst tl)) (h5 : st[n5]? = some (.lst (as.map .adr))) (htl : tl.length = 14) (hsm : ∀ x ∈ tl, samF st 37 x x)
    (hE : ∀ (j : Nat) a, as[j]? = some a → ∃ m fs, CN[j]? = some m ∧ ErrAt st a m fs ∧ (j < 14 → ∃ f, FN[j]? = some f ∧ fs = [(f, tl.getD j .non)]))
    (hk : ∀ g y4 y6, E.nx [x0, x1, x2, some (.loc n3), y4, some (.loc n5), y6, x7, x8, x9] (st ++ g)) : ∀ (suf : List Addr) (j : Nat) (g : Sto) (y4 y6 : Option D), as.drop j = suf →
    runG (gTup' 2 (gCons' (gN 4) (gCons' (gN 6) gNil'))) bLaw00 E (fun st1 => st1[n5]? = some (.lst (as.map .adr))) (enumFrom j (suf.map .adr)) [x0, x1, x2, some (.loc n3), y4, some (.loc n5), y6, x7, x8, x9] (st ++ g)
  | [], j, g, y4, y6, hd => ⟨gb h5, hk g y4 y6⟩
  | a :: suf, j, g, y4, y6, hd => by
    rw [List.map_cons, enumFrom, runG_cons]
    refine ⟨gb h5, ?_⟩
    have hja : as[j]? = some a := by
      have := congrArg (·[0]?) hd
      simpa using this
    have hsuf : as.drop (j + 1) = suf := by
      rw [← List.drop_drop, hd]
      rfl
    have ih := lp_errs E h3 h5 htl hsm hE hk suf (j + 1)
    generalize hR : runG (gTup' 2 (gCons' (gN 4) (gCons' (gN 6) gNil'))) bLaw00 E (fun st1 => st1[n5]? = some (.lst (as.map .adr))) (enumFrom (j + 1) (suf.map .adr)) = R at ih ⊢
    obtain ⟨m, fs, e1, e2, e3⟩ := hE j a hja
    have hval : ∀ (Q : DK) (Z : DZ), (∀ v, (j < 14 → v = tl.getD j .non) → Q v (st ++ g)) → dIf (dTest (dOp dLt (dVar 4) (dC (.int 14)))) (dOp dIx (dVar 3) (dVar 4)) (dC .non) [x0, x1, x2, some (.loc n3), some (.int (j : Int)), some (.loc n5), some (.adr a), x7, x8, x9] (st ++ g) Q Z := fun Q Z k => by
      rw [s_if, s_test, s_op, s_var]
      show dC _ _ _ _ _
      rw [s_c]
      show (if decide ((j : Int) < 14) = true then _ else _)
      by_cases hj : j < 14
      · rw [if_pos (by simp; omega), s_op, s_var]
        show dVar 4 _ _ _ _
        rw [s_var]
        show dIx (.loc n3) (.int (j : Int)) _ _
        rw [s_ix_loc]
        refine ⟨tl, tl.getD j .non, gb h3, atI_nat ?_, k _ fun _ => rfl⟩
        rw [List.getD_eq_getElem?_getD, List.getElem?_eq_getElem (by omega)]
        rfl
      · rw [if_neg (by simp; omega), s_c]
        exact k _ fun h => absurd h hj
    simp
    unfold bLaw00 RD.b_law_2
    rw [s_ifS, s_not, s_tru, s_call, s_cons, s_var]
    show dCons _ _ _ _ _ _
    rw [s_cons, s_var]
    show dCons _ _ _ _ _ _
    rw [s_cons]
    refine hval _ _ fun v hv => ?_
    rw [s_nil]
    refine ⟨rfl, j, m, fs, rfl, e1, e2.more, fun hj => ⟨?_, ?_⟩, fun g' => ?_⟩
    · rw [hv hj]; exact e3 hj
    · rw [hv hj]
      refine samF_more 37 (hsm _ ?_)
      rw [List.getD_eq_getElem?_getD, List.getElem?_eq_getElem (by omega)]
      exact List.getElem_mem _
    · rw [List.append_assoc]
      exact ih (g ++ g') _ _ hsuf
def MK1 : List MK := [(1, some ("index", 0)), (2, some ("part", 1)), (3, some ("index", 2)), (4, some ("number", 3)), (5, some ("part", 4))]
def MK2 : List MK := [(6, some ("part", 5)), (7, some ("number", 6)), (8, some ("most", 7)), (9, some ("source", 8)), (10, some ("literal", 9))]
def MK3 : List MK := [(11, some ("place", 10)), (36, some ("pair", 11)), (37, some ("name", 12)), (38, some ("names", 13)), (12, none)]
def MK4 : List MK := [(13, none), (14, none), (15, none), (16, none), (17, none), (18, none), (19, none), (20, none)]
def MK5 : List MK := [(21, none), (22, none), (23, none), (24, none), (25, none), (26, none), (27, none), (28, none)]
def MK6 : List MK := [(29, none), (30, none), (31, none), (32, none), (33, none), (34, none), (35, none), (39, none)]
def MKs : List MK := MK1 ++ MK2 ++ MK3 ++ MK4 ++ MK5 ++ MK6 ++ [(40, none)]
theorem mks_facts : ∀ j < 40, (MKs[j]?.getD ((0, none) : MK)).1 = CN[j]?.getD 0 ∧ (j < 14 → (MKs[j]?.getD ((0, none) : MK)).2 = some (FN[j]?.getD ("" : Str), j)) := by decide +kernel
theorem mks_len : MKs.length = 40 := rfl
theorem mk_small : ∀ x ∈ MKs, ∀ f k, x.2 = some (f, k) → k < 14 := by
  intro x hx f k e
  obtain ⟨j, hj⟩ := List.mem_iff_getElem?.mp hx
  have hj4 : j < 40 := by
    have := (List.getElem?_eq_some_iff.mp hj).1
    rw [mks_len] at this
    exact this
  have h : ∀ j < 40, (match (MKs[j]?.getD (0, none)).2 with | some (_, k) => decide (k < 14) | none => true) = true := by decide +kernel
  have := h j hj4
  rw [hj] at this
  simp only [Option.getD_some] at this
  rw [e] at this
  simpa using this
theorem s_make {m n : Nat} {dsp : DSp} {t : DTA} {ρ : Env'} {st : Sto} {Q : DK} {Z : DZ} : dMake m n dsp t ρ st Q Z = t ρ st (fun ds st1 => ds.length + 1 = n ∧ dsp (.loc st1.length :: ds) (st1 ++ [.ins (errA m) []]) (fun v st2 => v = .non ∧ Q (.loc st1.length) st2) fun x st2 => Z x ρ st2) Z := rfl
theorem r_law : Rd 1 sp_law (RD.t_law sp_binit sp_beq sp_hand sp_draw sp_some (sp_isF 38) sp_deepF sp_raised sp_right) RD.N_law := by
  intro ds st Q Z hl h
  match ds, hl, h with
  | [d], _, hx =>
    obtain ⟨ns, hd, hl, _, q⟩ := hx
    unfold RD.t_law
    have hh : ∀ (QE : DK) Z', (∀ st' h c, Hd st' h c → QE (.loc h) st') → sp_hand [d] st QE Z' := fun QE Z' q' => ⟨ns, hd, hl, fun st' h c _ H _ _ => q' st' h c H⟩
    rw [s_seq, s_asg, s_call, s_cons, s_var]
    show [d].length = 1 ∧ sp_hand [d] st _ _
    refine ⟨rfl, hh _ _ fun st1 h c H => ?_⟩
    clear hh hd
    rw [s_gN]
    dsimp only
    show dSeq _ _ _ [some d, some (.loc h), none, none, none, none, none, none, none, none] st1
    -- the things
    rw [s_seq, s_asg, s_dlst, s_cons, s_c, s_cons, s_c, s_cons, s_c, s_cons, s_un, s_c, s_neg, s_cons, s_c, s_cons, s_c, s_cons, s_c, s_cons, s_dtup, s_cons, s_c, s_cons, s_c, s_nil]
    refine ⟨szy _ (by simp), ?_⟩
    rw [s_cons, s_dtup, s_cons, s_c, s_cons, s_c, s_cons, s_c, s_nil]
    refine ⟨szy _ (by simp), ?_⟩
    rw [s_cons, s_dlst, s_cons, s_c, s_cons, s_dlst, s_cons, s_c, s_nil]
    refine ⟨szy _ (by simp), ?_⟩
    rw [s_nil]
    refine ⟨szy _ (by simp), ?_⟩
    have a1 : gd h (st1 ++ [Ob.lst [D.int 2]] ++ [Ob.lst [D.int 1, D.loc st1.length]]) 37 (.loc (st1 ++ [Ob.lst [D.int 2]]).length) := by
      refine gd.lst (by have := H.hlt; simp; omega) getElem?_push (fun x hx => ?_) (by simp)
      rcases List.mem_cons.mp hx with rfl | hx
      · exact gd.leaf (d := .int 1) trivial _
      · rw [List.mem_singleton.mp hx]
        exact gd.lst (ds := [.int 2]) (by have := H.hlt; omega) (gb getElem?_push) (fun x hx => by rw [List.mem_singleton.mp hx]; exact gd.leaf (d := .int 2) trivial _) (by simp)
    have H1 : Hd (st1 ++ [Ob.lst [D.int 2]] ++ [Ob.lst [D.int 1, D.loc st1.length]]) h c := (H.app _).app _
    generalize (st1 ++ [Ob.lst [D.int 2]]).length = m9 at a1 ⊢
    generalize st1 ++ [Ob.lst [D.int 2]] ++ [Ob.lst [D.int 1, D.loc st1.length]] = S1 at a1 H1 ⊢
    clear H
    -- the dict
    rw [s_cons, s_frz]
    have hdict : ∀ (Q : DK) (ρ : Env') (Z : DZ), Q (.loc S1.length) (S1 ++ [.dK [(.inr "a", .int 1)]]) → dDisp [(dC (.str "a"), dC (.int 1))] ρ S1 Q Z := fun Q ρ Z k => by
      unfold dDisp dPairs
      rw [s_c, s_c]
      unfold dPairs
      refine ⟨getElem?_push, [(.inr "a", .int 1)], rfl, by decide, ?_⟩
      simpa [mergeD, putD] using k
    refine hdict _ _ _ ⟨S1.length, _, rfl, getElem?_push, fun od => ?_⟩
    clear hdict
    have e1 : (S1 ++ [Ob.dK [(.inr "a", .int 1)]]).set S1.length (.dkF od [(.inr "a", .int 1)]) = S1 ++ [.dkF od [(.inr "a", .int 1)]] := by simp
    rw [e1]
    have H2 : Hd (S1 ++ [Ob.dkF od [(.inr "a", .int 1)]]) h c := H1.app _
    have a2 : gd h (S1 ++ [Ob.dkF od [(.inr "a", .int 1)]]) 37 (.loc S1.length) := .inr (.inr ⟨S1.length, od, _, _, by have := H1.hlt; omega, rfl, getElem?_push⟩)
    have a1' : gd h (S1 ++ [Ob.dkF od [(.inr "a", .int 1)]]) 37 (.loc m9) := a1.more
    generalize S1 ++ [Ob.dkF od [(.inr "a", .int 1)]] = S2 at H2 a2 a1' ⊢
    generalize S1.length = m10 at a2 ⊢
    clear a1 H1 e1
    rw [s_cons, s_dtup, s_nil]
    refine ⟨szy _ (by simp), ?_⟩
    rw [s_cons, s_op, s_c, s_c, s_pow]
    refine ⟨⟨by decide, by decide, by decide⟩, ?_⟩
    rw [s_cons, s_call, s_cons, s_c, s_nil]
    refine ⟨rfl, rfl, h, H2.hlt, fun dd g a3 => ?_⟩
    dsimp only
    rw [s_nil]
    refine ⟨szy _ (by simp), ?_⟩
    rw [s_gN]
    have hgd : ∀ x ∈ [D.str "name", D.str "", D.int 7, D.int (-1), D.int 0, D.non, D.bl true, D.tup [D.str "need", D.int 2], D.tup [D.int 1, D.int 2, D.int 3], D.loc m9, D.loc m10, D.tup [], D.int (10 ^ (11 : Int).toNat), dd], gd h (S2 ++ g) 37 x := by
      intro x hx
      simp only [List.mem_cons, List.not_mem_nil, or_false] at hx
      rcases hx with rfl | rfl | rfl | rfl | rfl | rfl | rfl | rfl | rfl | rfl | rfl | rfl | rfl | rfl
      · exact gd.leaf (d := .str "name") trivial _
      · exact gd.leaf (d := .str "") trivial _
      · exact gd.leaf (d := .int 7) trivial _
      · exact gd.leaf (d := .int (-1)) trivial _
      · exact gd.leaf (d := .int 0) trivial _
      · exact gd.leaf (d := .non) trivial _
      · exact gd.leaf (d := .bl true) trivial _
      · exact gd.tup (fun x hx => by
          rcases List.mem_cons.mp hx with rfl | hx
          · exact gd.leaf (d := .str "need") trivial _
          · rw [List.mem_singleton.mp hx]; exact gd.leaf (d := .int 2) trivial _) (by simp)
      · exact gd.tup (fun x hx => by
          rcases List.mem_cons.mp hx with rfl | hx
          · exact gd.leaf (d := .int 1) trivial _
          · rcases List.mem_cons.mp hx with rfl | hx
            · exact gd.leaf (d := .int 2) trivial _
            · rw [List.mem_singleton.mp hx]; exact gd.leaf (d := .int 3) trivial _) (by simp)
      · exact a1'.more
      · exact a2.more
      · exact gd.tup (fun x hx => nomatch hx) (by simp)
      · exact gd.leaf (d := .int (10 ^ (11 : Int).toNat)) trivial _
      · exact a3.up
    have hlen : ([D.str "name", D.str "", D.int 7, D.int (-1), D.int 0, D.non, D.bl true, D.tup [D.str "need", D.int 2], D.tup [D.int 1, D.int 2, D.int 3], D.loc m9, D.loc m10, D.tup [], D.int (10 ^ (11 : Int).toNat), dd] : List D).length = 14 := rfl
    generalize [D.str "name", D.str "", D.int 7, D.int (-1), D.int 0, D.non, D.bl true, D.tup [D.str "need", D.int 2], D.tup [D.int 1, D.int 2, D.int 3], D.loc m9, D.loc m10, D.tup [], D.int (10 ^ (11 : Int).toNat), dd] = es at hgd hlen ⊢
    have H3 : Hd (S2 ++ g ++ [Ob.lst es]) h c := (H2.app _).app _
    have hm2 : (S2 ++ g ++ [Ob.lst es])[(S2 ++ g).length]? = some (.lst es) := getElem?_push
    have n2 : (S2 ++ g).length ≠ h := by have := H2.hlt; simp; omega
    have hgd3 : ∀ x ∈ es, gd h (S2 ++ g ++ [Ob.lst es]) 37 x := fun x hx => (hgd x hx).more
    generalize S2 ++ g ++ [Ob.lst es] = S3 at H3 hm2 hgd3 ⊢
    generalize (S2 ++ g).length = m2 at hm2 n2 ⊢
    clear hgd a1' a2 a3 H2
    -- what is told
    show dSeq _ _ _ [some d, some (.loc h), some (.loc m2), none, none, none, none, none, none, none] S3
    rw [s_seq, s_asg, s_lc, s_iR1, s_cons, s_c, s_nil]
    refine ⟨by decide, by decide, ?_⟩
    rw [rngItems_up]
    refine lp_told n2 (by omega) (by omega) 14 0 [] S3 H3 hm2 (by simp) fun S4 tl H4 s4 htl htm => ?_
    rw [List.nil_append]
    have hgd4 : ∀ x ∈ tl, gd h (S4 ++ [Ob.lst tl]) 37 x := fun x hx => ((hgd3 x (htm x hx)).sm s4).more
    have H5 : Hd (S4 ++ [Ob.lst tl]) h c := H4.app _
    have h3 : (S4 ++ [Ob.lst tl])[S4.length]? = some (.lst tl) := getElem?_push
    have n3 : S4.length ≠ h := by have := H4.hlt; omega
    generalize S4 ++ [Ob.lst tl] = S5 at hgd4 H5 h3 ⊢
    generalize S4.length = m3 at h3 n3 ⊢
    clear hgd3 H4 s4 H3 hm2
    rw [s_gN]
    dsimp only
    show dSeq (dAsg (dLst (mkL MK1)) (gN 5)) _ _ [some d, some (.loc h), some (.loc m2), some (.loc m3), none, none, none, none, none, none] S5
    have hk : ∀ ys : List MK, (∀ x ∈ ys, x ∈ MKs) → ∀ x ∈ ys, ∀ f k, x.2 = some (f, k) → k < tl.length := fun ys hy x hx f k e => by
      rw [htl]
      exact mk_small x (hy x hx) f k e
    have mem : ∀ x, x ∈ MKs ↔ x ∈ MK1 ∨ x ∈ MK2 ∨ x ∈ MK3 ∨ x ∈ MK4 ∨ x ∈ MK5 ∨ x ∈ MK6 ∨ x = (40, none) := fun x => by
      simp [MKs, or_assoc]
    -- the errors
    rw [s_seq, s_asg, s_dlst]
    refine mkL_ok rfl MK1 h3 (hk _ fun x hx => (mem x).mpr (.inl hx)) fun as1 g1 E1 => ⟨by rw [List.length_map, E1.len]; exact szy _ (by decide), ?_⟩
    rw [s_gN]
    dsimp only
    have E1' : ErrsAt (S5 ++ g1 ++ [Ob.lst (as1.map .adr)]) tl MK1 as1 := E1.more
    have h5 : (S5 ++ g1 ++ [Ob.lst (as1.map .adr)])[(S5 ++ g1).length]? = some (.lst (as1.map .adr)) := getElem?_push
    have H6 : Hd (S5 ++ g1 ++ [Ob.lst (as1.map .adr)]) h c := (H5.app _).app _
    have h3' : (S5 ++ g1 ++ [Ob.lst (as1.map .adr)])[m3]? = some (.lst tl) := gb (gb h3)
    have hgd6 : ∀ x ∈ tl, gd h (S5 ++ g1 ++ [Ob.lst (as1.map .adr)]) 37 x := fun x hx => (hgd4 x hx).more.more
    have n5 : (S5 ++ g1).length ≠ h ∧ (S5 ++ g1).length ≠ m3 ∧ (S5 ++ g1).length ≠ c := by
      have := H5.hlt; have := H5.clt; have := (List.getElem?_eq_some_iff.mp h3).1; simp; omega
    generalize S5 ++ g1 ++ [Ob.lst (as1.map .adr)] = S6 at E1' h5 H6 h3' hgd6 ⊢
    generalize (S5 ++ g1).length = m5 at h5 n5 ⊢
    clear E1 h3 H5 hgd4
    show dSeq (dAsg (dOp dAdd (dVar 5) (dLst (mkL MK2))) (gN 5)) _ _ [some d, some (.loc h), some (.loc m2), some (.loc m3), none, some (.loc m5), none, none, none, none] S6
    refine addE_ok MK2 h3' h5 E1' (hk _ fun x hx => (mem x).mpr (.inr (.inl hx))) (by decide) fun as2 g2 n52 E2 h52 l52 => ?_
    refine addE_ok MK3 (gb h3') h52 E2 (hk _ fun x hx => (mem x).mpr (.inr (.inr (.inl hx)))) (by decide) fun as3 g3 n53 E3 h53 l53 => ?_
    refine addE_ok MK4 (gb (gb h3')) h53 E3 (hk _ fun x hx => (mem x).mpr (.inr (.inr (.inr (.inl hx))))) (by decide) fun as4 g4 n54 E4 h54 l54 => ?_
    refine addE_ok MK5 (gb (gb (gb h3'))) h54 E4 (hk _ fun x hx => (mem x).mpr (.inr (.inr (.inr (.inr (.inl hx)))))) (by decide) fun as5 g5 n55 E5 h55 l55 => ?_
    refine addE_ok MK6 (gb (gb (gb (gb h3')))) h55 E5 (hk _ fun x hx => (mem x).mpr (.inr (.inr (.inr (.inr (.inr (.inl hx))))))) (by decide) fun as6 g6 n56 E6 h56 l56 => ?_
    have H7 : Hd (S6 ++ g2 ++ g3 ++ g4 ++ g5 ++ g6) h c := ((((H6.app _).app _).app _).app _).app _
    have h37 : (S6 ++ g2 ++ g3 ++ g4 ++ g5 ++ g6)[m3]? = some (.lst tl) := gb (gb (gb (gb (gb h3'))))
    have hpre : ∀ a, a < S6.length → (S6 ++ g2 ++ g3 ++ g4 ++ g5 ++ g6)[a]? = S6[a]? := fun a ha => by
      simp only [List.append_assoc]
      rw [List.getElem?_append_left ha]
    have hge : S6.length ≤ n56 := by simp only [List.length_append] at l56; omega
    have n56h : n56 ≠ h ∧ n56 ≠ m3 ∧ n56 ≠ c := by
      have := H6.hlt; have := H6.clt; have := (List.getElem?_eq_some_iff.mp h3').1
      simp only [List.length_append] at l56
      omega
    generalize S6 ++ g2 ++ g3 ++ g4 ++ g5 ++ g6 = S7 at E6 h56 H7 h37 hpre ⊢
    clear E1' E2 E3 E4 E5 h52 h53 h54 h55 h5 H6 l52 l53 l54 l55 l56
    rw [s_seq, s_drop, s_bm, s_var]
    show tyD S7 "list" (.loc n56) ∧ _
    refine ⟨by simp [h56], ?_⟩
    rw [s_cons, s_mkE0]
    intro a40
    rw [s_nil, s_append]
    refine ⟨_, gb h56, by rw [List.length_map, E6.len]; exact sizeLine_big (by decide), ?_⟩
    have hlt56 : n56 < (S7 ++ [Ob.err a40 (errA 40) none]).length := by have := (List.getElem?_eq_some_iff.mp h56).1; simp; omega
    have g40 : ErrAt (S7 ++ [Ob.err a40 (errA 40) none]) a40 40 [] := ⟨S7.length, none, getElem?_push, .inl ⟨rfl, rfl⟩⟩
    have E7 : ErrsAt (S7 ++ [Ob.err a40 (errA 40) none]) tl MKs (as6 ++ [a40]) := ErrsAt.app (ys := [(40, none)]) E6.more ⟨g40, trivial⟩
    have E8 : ErrsAt ((S7 ++ [Ob.err a40 (errA 40) none]).set n56 (.lst (as6.map .adr ++ [.adr a40]))) tl MKs (as6 ++ [a40]) := E7.setL (gb h56)
    have h58 : ((S7 ++ [Ob.err a40 (errA 40) none]).set n56 (.lst (as6.map .adr ++ [.adr a40])))[n56]? = some (.lst ((as6 ++ [a40]).map .adr)) := by rw [List.getElem?_set_self hlt56]; simp
    have h38 : ((S7 ++ [Ob.err a40 (errA 40) none]).set n56 (.lst (as6.map .adr ++ [.adr a40])))[m3]? = some (.lst tl) := by rw [List.getElem?_set_ne n56h.2.1]; exact gb h37
    have H8 : Hd ((S7 ++ [Ob.err a40 (errA 40) none]).set n56 (.lst (as6.map .adr ++ [.adr a40]))) h c := (H7.app _).setY n56h.1 n56h.2.2 _
    have hlt7 : S6.length ≤ S7.length := by
      have := (List.getElem?_eq_some_iff.mp h56).1
      omega
    have hgd8 : ∀ x ∈ tl, gd h ((S7 ++ [Ob.err a40 (errA 40) none]).set n56 (.lst (as6.map .adr ++ [.adr a40]))) 37 x := fun x hx => (hgd6 x hx).same fun a _ ha => by
      rw [List.getElem?_set_ne (by omega), List.getElem?_append_left (by omega), hpre a ha]
    have hsm8 : ∀ x ∈ tl, samF ((S7 ++ [Ob.err a40 (errA 40) none]).set n56 (.lst (as6.map .adr ++ [.adr a40]))) 37 x x := fun x hx => (hgd8 x hx).samF
    have hE : ∀ (j : Nat) a, (as6 ++ [a40])[j]? = some a → ∃ m fs, CN[j]? = some m ∧ ErrAt ((S7 ++ [Ob.err a40 (errA 40) none]).set n56 (.lst (as6.map .adr ++ [.adr a40]))) a m fs ∧ (j < 14 → ∃ f, FN[j]? = some f ∧ fs = [(f, tl.getD j .non)]) := fun j a ha => by
      obtain ⟨x, hx, hxe⟩ := E8.get j a ha
      have hj : j < 40 := by
        have := (List.getElem?_eq_some_iff.mp hx).1
        rw [mks_len] at this
        exact this
      obtain ⟨f1, f2⟩ := mks_facts j hj
      rw [hx] at f1 f2
      simp only [Option.getD_some] at f1 f2
      have hc : CN[j]? = some (CN[j]?.getD 0) := by
        rw [List.getElem?_eq_getElem (by rw [cn_len]; exact hj)]
        rfl
      refine ⟨x.1, fsOf tl x.2, by rw [f1]; exact hc, hxe, fun h14 => ?_⟩
      have hf : FN[j]? = some (FN[j]?.getD ("" : Str)) := by
        rw [List.getElem?_eq_getElem (by show j < 14; exact h14)]
        rfl
      exact ⟨_, hf, by rw [f2 h14]; rfl⟩
    generalize (S7 ++ [Ob.err a40 (errA 40) none]).set n56 (.lst (as6.map .adr ++ [.adr a40])) = S8 at h58 h38 H8 hgd8 hsm8 hE ⊢
    generalize as6 ++ [a40] = as at h58 hE ⊢
    clear E6 E7 E8 g40 h56 h37 H7 hlt56 hlt7 hgd6 hpre h3'
    dsimp only
    show dSeq (dFor _ _ _) _ _ [some d, some (.loc h), some (.loc m2), some (.loc m3), none, some (.loc n56), none, none, none, none] S8
    rw [s_seq, s_for, s_iEn, s_cons, s_var]
    show dNil _ _ _ _
    rw [s_nil]
    show enumD S8 (.loc n56) _
    rw [s_en_loc]
    refine ⟨_, h58, ?_⟩
    rw [enumItems_eq]
    have loop := fun E hk => lp_errs E (n3 := m3) (n5 := n56) (tl := tl) (st := S8) (as := as) (x0 := some d) (x1 := some (.loc h)) (x2 := some (.loc m2)) (x7 := none) (x8 := none) (x9 := none) h38 h58 htl hsm8 hE hk as 0 [] none none rfl
    simp only [List.append_nil] at loop
    refine loop _ fun g9 y4 y6 => ?_
    clear loop hE h58
    have H9 : Hd (S8 ++ g9) h c := H8.app _
    have h39 : (S8 ++ g9)[m3]? = some (.lst tl) := gb h38
    have hgd9 : ∀ x ∈ tl, gd h (S8 ++ g9) 37 x := fun x hx => (hgd8 x hx).more
    generalize S8 ++ g9 = S9 at H9 h39 hgd9 ⊢
    clear H8 h38 hgd8 hsm8
    dsimp only
    rw [s_seq, s_asg, s_call, s_cons, s_var]
    show dCons _ _ _ _ _ _
    rw [s_cons, s_c, s_nil, e_draw]
    refine ⟨rfl, c, H9, by decide, by decide, fun r S10 r0 r4 H10 s10 => ?_⟩
    have h310 : S10[m3]? = some (.lst tl) := by rw [s10.same m3 (Ne.symm (Ne.symm n3))]; exact h39
    have hgd10 : ∀ x ∈ tl, gd h S10 37 x := fun x hx => (hgd9 x hx).sm s10
    clear s10 H9 h39 hgd9
    rw [s_gN]
    dsimp only
    show dSeq _ _ _ [some d, some (.loc h), some (.loc m2), some (.loc m3), y4, some (.loc n56), y6, some (.int r), none, none] S10
    rw [s_seq, s_asg, s_dlst, s_cons, s_c, s_cons, s_c, s_cons, s_c, s_cons, s_c, s_nil]
    refine ⟨szy _ (by simp), ?_⟩
    rw [s_gN]
    dsimp only
    have h311 : (S10 ++ [Ob.lst [.int 0, .int 3, .int 13, .int 8]])[m3]? = some (.lst tl) := gb h310
    have h811 : (S10 ++ [Ob.lst [.int 0, .int 3, .int 13, .int 8]])[S10.length]? = some (.lst [.int 0, .int 3, .int 13, .int 8]) := getElem?_push
    have hgd11 : ∀ x ∈ tl, gd h (S10 ++ [Ob.lst [.int 0, .int 3, .int 13, .int 8]]) 37 x := fun x hx => (hgd10 x hx).more
    generalize S10 ++ [Ob.lst [.int 0, .int 3, .int 13, .int 8]] = S11 at h311 h811 hgd11 ⊢
    generalize S10.length = n8 at h811 ⊢
    clear h310 hgd10 H10
    show dSeq _ _ _ [some d, some (.loc h), some (.loc m2), some (.loc m3), y4, some (.loc n56), y6, some (.int r), some (.loc n8), none] S11
    rw [s_seq, s_asg, s_make, s_cons, s_dtup, s_nil]
    refine ⟨szy _ (by simp), ?_⟩
    rw [s_nil]
    refine ⟨rfl, getElem?_push, rfl, ?_⟩
    have e12 : ((S11 ++ [Ob.ins (errA 101) []]).set S11.length (.ins (errA 101) [("entries", .tup [])]) ++ [Ob.dN EC.wd []]).set S11.length (.ins (errA 101) [("entries", .tup []), ("places", .loc (S11 ++ [Ob.ins (errA 101) []]).length)]) = S11 ++ [Ob.ins (errA 101) [("entries", .tup []), ("places", .loc (S11 ++ [Ob.ins (errA 101) []]).length)], Ob.dN EC.wd []] := by simp
    rw [e12, s_gN]
    dsimp only
    generalize (S11 ++ [Ob.ins (errA 101) []]).length = mp
    have h312 : (S11 ++ [Ob.ins (errA 101) [("entries", .tup []), ("places", .loc mp)], Ob.dN EC.wd []])[m3]? = some (.lst tl) := gb h311
    have h812 : (S11 ++ [Ob.ins (errA 101) [("entries", .tup []), ("places", .loc mp)], Ob.dN EC.wd []])[n8]? = some (.lst [.int 0, .int 3, .int 13, .int 8]) := gb h811
    have h912 : (S11 ++ [Ob.ins (errA 101) [("entries", .tup []), ("places", .loc mp)], Ob.dN EC.wd []])[S11.length]? = some (.ins (errA 101) [("entries", .tup []), ("places", .loc mp)]) := by
      rw [List.getElem?_append_right (Nat.le_refl _)]
      simp
    have hgd12 : ∀ x ∈ tl, gd h (S11 ++ [Ob.ins (errA 101) [("entries", .tup []), ("places", .loc mp)], Ob.dN EC.wd []]) 37 x := fun x hx => (hgd11 x hx).more
    generalize S11 ++ [Ob.ins (errA 101) [("entries", .tup []), ("places", .loc mp)], Ob.dN EC.wd []] = S12 at h312 h812 h912 hgd12 ⊢
    generalize S11.length = n9 at h912 ⊢
    clear e12 h311 h811 hgd11
    show dRet _ _ [some d, some (.loc h), some (.loc m2), some (.loc m3), y4, some (.loc n56), y6, some (.int r), some (.loc n8), some (.loc n9)] S12
    rw [s_ret, s_andV, s_op, s_erF, s_mkE1, s_var]
    dsimp only
    intro ea ed
    refine ⟨ea, 2, [("part", .loc n9)], .loc n9, rfl, by simp, ⟨S12.length + 1, some ed, two_get, .inr ⟨ed, S12.length, rfl, by rw [List.getElem?_append_right (Nat.le_refl _)]; simp⟩⟩, by simp [List.lookup], ?_⟩
    rw [s_var]
    show dEqO 101 2 sp_beq (.loc n9) (.loc n9) _ _
    refine ⟨n9, n9, _, _, rfl, rfl, gb h912, gb h912, rfl, mp, mp, gb h912, gb h912, true, rfl, ?_⟩
    dsimp only
    rw [s_tru_bl, if_pos rfl]
    have h313 : (S12 ++ [Ob.xdt ed [("part", .loc n9)], Ob.err ea (errA 2) (some ed)])[m3]? = some (.lst tl) := gb h312
    have h813 : (S12 ++ [Ob.xdt ed [("part", .loc n9)], Ob.err ea (errA 2) (some ed)])[n8]? = some (.lst [.int 0, .int 3, .int 13, .int 8]) := gb h812
    have hgd13 : ∀ x ∈ tl, gd h (S12 ++ [Ob.xdt ed [("part", .loc n9)], Ob.err ea (errA 2) (some ed)]) 37 x := fun x hx => (hgd12 x hx).more
    generalize S12 ++ [Ob.xdt ed [("part", .loc n9)], Ob.err ea (errA 2) (some ed)] = S13 at h313 h813 hgd13 ⊢
    clear h312 h812 h912 hgd12
    obtain ⟨j, hj, hat⟩ : ∃ j : Nat, j < 14 ∧ atI [D.int 0, .int 3, .int 13, .int 8] r = some (.int (j : Int)) := by
      rcases (show r = 0 ∨ r = 1 ∨ r = 2 ∨ r = 3 by omega) with rfl | rfl | rfl | rfl
      · exact ⟨0, by decide, rfl⟩
      · exact ⟨3, by decide, rfl⟩
      · exact ⟨13, by decide, rfl⟩
      · exact ⟨8, by decide, rfl⟩
    have place : ∀ (st : Sto) (Q : DK) (Z : DZ), st[m3]? = some (.lst tl) → st[n8]? = some (.lst [.int 0, .int 3, .int 13, .int 8]) → Q (tl[j]'(by omega)) st → dOp dIx (dVar 3) (dOp dIx (dVar 8) (dVar 7)) [some d, some (.loc h), some (.loc m2), some (.loc m3), y4, some (.loc n56), y6, some (.int r), some (.loc n8), some (.loc n9)] st Q Z := fun st Q Z g3 g8 k => by
      rw [s_op, s_var]
      show dOp dIx (dVar 8) (dVar 7) _ _ _ _
      rw [s_op, s_var]
      show dVar 7 _ _ _ _
      rw [s_var]
      show dIx (.loc n8) (.int r) _ _
      rw [s_ix_loc]
      refine ⟨_, _, g8, hat, ?_⟩
      rw [s_ix_loc]
      exact ⟨tl, _, g3, atI_nat (List.getElem?_eq_getElem (by omega)), k⟩
    have hg : gd h S13 37 (tl[j]'(by omega)) := hgd13 _ (List.getElem_mem _)
    generalize tl[j]'(by omega) = y at place hg
    rw [s_call, s_cons, s_dlst, s_cons, s_call, s_cons, s_var]
    show dCons _ _ _ _ _ _
    rw [s_cons]
    refine place _ _ _ h313 h813 ?_
    rw [s_nil]
    refine ⟨rfl, r0, r4, fun g14 => ?_⟩
    show dNil _ _ _ _
    rw [s_nil]
    refine ⟨szy _ (by simp), ?_⟩
    rw [s_cons, s_dlst, s_cons]
    refine place _ _ _ (gb (gb h313)) (gb (gb h813)) ?_
    rw [s_nil]
    refine ⟨szy _ (by simp), ?_⟩
    rw [s_nil]
    refine ⟨rfl, ?_, .inl (q _)⟩
    exact samF_one (gb getElem?_push) getElem?_push (samF_more 37 (samF_more 37 (samF_more 37 hg.samF)))
end
end CM
set_option maxHeartbeats 0
namespace Lk00
open PySem L2 PySem.Spec DL
open PyProof.Rows hiding St
theorem ems_mem {m : Nat} (h1 : 1 ≤ m) (h2 : m ≤ 40) : m ∈ EMS := List.mem_map.mpr ⟨m - 1, List.mem_range.mpr (by omega), by omega⟩
theorem all_mk {l : PySem.W.OpenLaw} {w : World} {K : PySem.W.Frag} {h : Heap} {mg : Str → Option Value} {fa : Addr} (X : K.In h) (G : h.Ns mainGlobals mg) (hfa : mg "law" = some (.ref fa))
    {f_is_tuple_within : Addr} {oc_is_tuple_within kV_is_tuple_within dc_is_tuple_within pm_is_tuple_within cd_is_tuple_within ct_is_tuple_within : Value} {od_is_tuple_within an_is_tuple_within : Option Addr} {sl_is_tuple_within : Array (Option Value)}
    {f_wrong_entry : Addr} {oc_wrong_entry kV_wrong_entry dc_wrong_entry pm_wrong_entry cd_wrong_entry ct_wrong_entry : Value} {od_wrong_entry an_wrong_entry : Option Addr} {sl_wrong_entry : Array (Option Value)}
    {f__law_hand : Addr} {oc__law_hand kV__law_hand dc__law_hand pm__law_hand cd__law_hand ct__law_hand : Value} {od__law_hand an__law_hand : Option Addr} {sl__law_hand : Array (Option Value)}
    {f__law_draw : Addr} {oc__law_draw kV__law_draw dc__law_draw pm__law_draw cd__law_draw ct__law_draw : Value} {od__law_draw an__law_draw : Option Addr} {sl__law_draw : Array (Option Value)}
    {f__law_some : Addr} {oc__law_some kV__law_some dc__law_some pm__law_some cd__law_some ct__law_some : Value} {od__law_some an__law_some : Option Addr} {sl__law_some : Array (Option Value)}
    {f__law_is : Addr} {oc__law_is kV__law_is dc__law_is pm__law_is cd__law_is ct__law_is : Value} {od__law_is an__law_is : Option Addr} {sl__law_is : Array (Option Value)}
    {f__law_deep : Addr} {oc__law_deep kV__law_deep dc__law_deep pm__law_deep cd__law_deep ct__law_deep : Value} {od__law_deep an__law_deep : Option Addr} {sl__law_deep : Array (Option Value)}
    {f__law_first_classes : Addr} {oc__law_first_classes kV__law_first_classes dc__law_first_classes pm__law_first_classes cd__law_first_classes ct__law_first_classes : Value} {od__law_first_classes an__law_first_classes : Option Addr} {sl__law_first_classes : Array (Option Value)}
    {f__law_classes : Addr} {oc__law_classes kV__law_classes dc__law_classes pm__law_classes cd__law_classes ct__law_classes : Value} {od__law_classes an__law_classes : Option Addr} {sl__law_classes : Array (Option Value)}
    {f__law_field : Addr} {oc__law_field kV__law_field dc__law_field pm__law_field cd__law_field ct__law_field : Value} {od__law_field an__law_field : Option Addr} {sl__law_field : Array (Option Value)}
    {f__law_raised : Addr} {oc__law_raised kV__law_raised dc__law_raised pm__law_raised cd__law_raised ct__law_raised : Value} {od__law_raised an__law_raised : Option Addr} {sl__law_raised : Array (Option Value)}
    {f__law_right : Addr} {oc__law_right kV__law_right dc__law_right pm__law_right cd__law_right ct__law_right : Value} {od__law_right an__law_right : Option Addr} {sl__law_right : Array (Option Value)}
    {f_law : Addr} {oc_law kV_law dc_law pm_law cd_law ct_law : Value} {od_law an_law : Option Addr} {sl_law : Array (Option Value)}
    {c_LockError : Addr}
    {c_BadText : Addr}
    {c_BadEntry : Addr}
    {c_BadBook : Addr}
    {c_BadLine : Addr}
    {c_BadQuestion : Addr}
    {c_BadTask : Addr}
    {c_BadStep : Addr}
    {c_TooMany : Addr}
    {c_NotFitting : Addr}
    {c_NotGiven : Addr}
    {c_NotFirst : Addr}
    {c_NoFeatures : Addr}
    {c_NoEntry : Addr}
    {c_NotRight : Addr}
    {c_NotThere : Addr}
    {c_NotClosed : Addr}
    {c_NoSource : Addr}
    {c_NoStand : Addr}
    {c_NoGivens : Addr}
    {c_NoLiteral : Addr}
    {c_NoPaper : Addr}
    {c_NoSources : Addr}
    {c_NoName : Addr}
    {c_NoNumber : Addr}
    {c_NotEntry : Addr}
    {c_NotQuestion : Addr}
    {c_NothingDone : Addr}
    {c_NoText : Addr}
    {c_NoStart : Addr}
    {c_NoStop : Addr}
    {c_NotSafe : Addr}
    {c_NoDeed : Addr}
    {c_NoContents : Addr}
    {c_NoMirrors : Addr}
    {c_NoManifest : Addr}
    {c_NotFetched : Addr}
    {c_NoBuild : Addr}
    {c_Ringed : Addr}
    {c_NoMachine : Addr}
    {c_NoRollout : Addr}
    {fi_BadText : Addr} {oci_BadText kVi_BadText dci_BadText pmi_BadText cdi_BadText cti_BadText : Value} {odi_BadText ani_BadText : Option Addr} {sli_BadText : Array (Option Value)}
    {fi_BadEntry : Addr} {oci_BadEntry kVi_BadEntry dci_BadEntry pmi_BadEntry cdi_BadEntry cti_BadEntry : Value} {odi_BadEntry ani_BadEntry : Option Addr} {sli_BadEntry : Array (Option Value)}
    {fi_BadBook : Addr} {oci_BadBook kVi_BadBook dci_BadBook pmi_BadBook cdi_BadBook cti_BadBook : Value} {odi_BadBook ani_BadBook : Option Addr} {sli_BadBook : Array (Option Value)}
    {fi_BadLine : Addr} {oci_BadLine kVi_BadLine dci_BadLine pmi_BadLine cdi_BadLine cti_BadLine : Value} {odi_BadLine ani_BadLine : Option Addr} {sli_BadLine : Array (Option Value)}
    {fi_BadQuestion : Addr} {oci_BadQuestion kVi_BadQuestion dci_BadQuestion pmi_BadQuestion cdi_BadQuestion cti_BadQuestion : Value} {odi_BadQuestion ani_BadQuestion : Option Addr} {sli_BadQuestion : Array (Option Value)}
    {fi_BadTask : Addr} {oci_BadTask kVi_BadTask dci_BadTask pmi_BadTask cdi_BadTask cti_BadTask : Value} {odi_BadTask ani_BadTask : Option Addr} {sli_BadTask : Array (Option Value)}
    {fi_BadStep : Addr} {oci_BadStep kVi_BadStep dci_BadStep pmi_BadStep cdi_BadStep cti_BadStep : Value} {odi_BadStep ani_BadStep : Option Addr} {sli_BadStep : Array (Option Value)}
    {fi_TooMany : Addr} {oci_TooMany kVi_TooMany dci_TooMany pmi_TooMany cdi_TooMany cti_TooMany : Value} {odi_TooMany ani_TooMany : Option Addr} {sli_TooMany : Array (Option Value)}
    {fi_NotFitting : Addr} {oci_NotFitting kVi_NotFitting dci_NotFitting pmi_NotFitting cdi_NotFitting cti_NotFitting : Value} {odi_NotFitting ani_NotFitting : Option Addr} {sli_NotFitting : Array (Option Value)}
    {fi_NotGiven : Addr} {oci_NotGiven kVi_NotGiven dci_NotGiven pmi_NotGiven cdi_NotGiven cti_NotGiven : Value} {odi_NotGiven ani_NotGiven : Option Addr} {sli_NotGiven : Array (Option Value)}
    {fi_NotFirst : Addr} {oci_NotFirst kVi_NotFirst dci_NotFirst pmi_NotFirst cdi_NotFirst cti_NotFirst : Value} {odi_NotFirst ani_NotFirst : Option Addr} {sli_NotFirst : Array (Option Value)}
    {fi_LockError : Addr} {oci_LockError kVi_LockError dci_LockError pmi_LockError cdi_LockError cti_LockError : Value} {odi_LockError ani_LockError : Option Addr} {sli_LockError : Array (Option Value)}
    {fi_NotFetched : Addr} {oci_NotFetched kVi_NotFetched dci_NotFetched pmi_NotFetched cdi_NotFetched cti_NotFetched : Value} {odi_NotFetched ani_NotFetched : Option Addr} {sli_NotFetched : Array (Option Value)}
    {fi_NoBuild : Addr} {oci_NoBuild kVi_NoBuild dci_NoBuild pmi_NoBuild cdi_NoBuild cti_NoBuild : Value} {odi_NoBuild ani_NoBuild : Option Addr} {sli_NoBuild : Array (Option Value)}
    {fi_Ringed : Addr} {oci_Ringed kVi_Ringed dci_Ringed pmi_Ringed cdi_Ringed cti_Ringed : Value} {odi_Ringed ani_Ringed : Option Addr} {sli_Ringed : Array (Option Value)}
    {c_Book : Addr}
    {f_Book___init__ : Addr} {oc_Book___init__ kV_Book___init__ dc_Book___init__ pm_Book___init__ cd_Book___init__ ct_Book___init__ : Value} {od_Book___init__ an_Book___init__ : Option Addr} {sl_Book___init__ : Array (Option Value)}
    {f_Book___eq__ : Addr} {oc_Book___eq__ kV_Book___eq__ dc_Book___eq__ pm_Book___eq__ cd_Book___eq__ ct_Book___eq__ : Value} {od_Book___eq__ an_Book___eq__ : Option Addr} {sl_Book___eq__ : Array (Option Value)}
    {u_ENTRIES_MOST : Value}
    (a_is_tuple_within : PySem.W.nsIn K mainGlobals "is_tuple_within" = some (some (.ref f_is_tuple_within)))
    (l_is_tuple_within : K.lookup f_is_tuple_within = some ⟨oc_is_tuple_within, od_is_tuple_within, .func (PySem.W.fnOf "is_tuple_within" "is_tuple_within" (defArgs S_is_tuple_within) (defBody S_is_tuple_within) (defScope S_is_tuple_within) .none kV_is_tuple_within dc_is_tuple_within pm_is_tuple_within an_is_tuple_within cd_is_tuple_within ct_is_tuple_within), sl_is_tuple_within⟩)
    (q_is_tuple_within : PySem.W.codeIn K cd_is_tuple_within "is_tuple_within" = true)
    (k_is_tuple_within : PySem.W.keepIn K (.ref f_is_tuple_within) = true)
    (a_wrong_entry : PySem.W.nsIn K mainGlobals "wrong_entry" = some (some (.ref f_wrong_entry)))
    (l_wrong_entry : K.lookup f_wrong_entry = some ⟨oc_wrong_entry, od_wrong_entry, .func (PySem.W.fnOf "wrong_entry" "wrong_entry" (defArgs S_wrong_entry) (defBody S_wrong_entry) (defScope S_wrong_entry) .none kV_wrong_entry dc_wrong_entry pm_wrong_entry an_wrong_entry cd_wrong_entry ct_wrong_entry), sl_wrong_entry⟩)
    (q_wrong_entry : PySem.W.codeIn K cd_wrong_entry "wrong_entry" = true)
    (k_wrong_entry : PySem.W.keepIn K (.ref f_wrong_entry) = true)
    (a__law_hand : PySem.W.nsIn K mainGlobals "_law_hand" = some (some (.ref f__law_hand)))
    (l__law_hand : K.lookup f__law_hand = some ⟨oc__law_hand, od__law_hand, .func (PySem.W.fnOf "_law_hand" "_law_hand" (defArgs S__law_hand) (defBody S__law_hand) (defScope S__law_hand) .none kV__law_hand dc__law_hand pm__law_hand an__law_hand cd__law_hand ct__law_hand), sl__law_hand⟩)
    (q__law_hand : PySem.W.codeIn K cd__law_hand "_law_hand" = true)
    (k__law_hand : PySem.W.keepIn K (.ref f__law_hand) = true)
    (a__law_draw : PySem.W.nsIn K mainGlobals "_law_draw" = some (some (.ref f__law_draw)))
    (l__law_draw : K.lookup f__law_draw = some ⟨oc__law_draw, od__law_draw, .func (PySem.W.fnOf "_law_draw" "_law_draw" (defArgs S__law_draw) (defBody S__law_draw) (defScope S__law_draw) .none kV__law_draw dc__law_draw pm__law_draw an__law_draw cd__law_draw ct__law_draw), sl__law_draw⟩)
    (q__law_draw : PySem.W.codeIn K cd__law_draw "_law_draw" = true)
    (k__law_draw : PySem.W.keepIn K (.ref f__law_draw) = true)
    (a__law_some : PySem.W.nsIn K mainGlobals "_law_some" = some (some (.ref f__law_some)))
    (l__law_some : K.lookup f__law_some = some ⟨oc__law_some, od__law_some, .func (PySem.W.fnOf "_law_some" "_law_some" (defArgs S__law_some) (defBody S__law_some) (defScope S__law_some) .none kV__law_some dc__law_some pm__law_some an__law_some cd__law_some ct__law_some), sl__law_some⟩)
    (q__law_some : PySem.W.codeIn K cd__law_some "_law_some" = true)
    (k__law_some : PySem.W.keepIn K (.ref f__law_some) = true)
    (a__law_is : PySem.W.nsIn K mainGlobals "_law_is" = some (some (.ref f__law_is)))
    (l__law_is : K.lookup f__law_is = some ⟨oc__law_is, od__law_is, .func (PySem.W.fnOf "_law_is" "_law_is" (defArgs S__law_is) (defBody S__law_is) (defScope S__law_is) .none kV__law_is dc__law_is pm__law_is an__law_is cd__law_is ct__law_is), sl__law_is⟩)
    (q__law_is : PySem.W.codeIn K cd__law_is "_law_is" = true)
    (k__law_is : PySem.W.keepIn K (.ref f__law_is) = true)
    (a__law_deep : PySem.W.nsIn K mainGlobals "_law_deep" = some (some (.ref f__law_deep)))
    (l__law_deep : K.lookup f__law_deep = some ⟨oc__law_deep, od__law_deep, .func (PySem.W.fnOf "_law_deep" "_law_deep" (defArgs S__law_deep) (defBody S__law_deep) (defScope S__law_deep) .none kV__law_deep dc__law_deep pm__law_deep an__law_deep cd__law_deep ct__law_deep), sl__law_deep⟩)
    (q__law_deep : PySem.W.codeIn K cd__law_deep "_law_deep" = true)
    (k__law_deep : PySem.W.keepIn K (.ref f__law_deep) = true)
    (a__law_first_classes : PySem.W.nsIn K mainGlobals "_law_first_classes" = some (some (.ref f__law_first_classes)))
    (l__law_first_classes : K.lookup f__law_first_classes = some ⟨oc__law_first_classes, od__law_first_classes, .func (PySem.W.fnOf "_law_first_classes" "_law_first_classes" (defArgs S__law_first_classes) (defBody S__law_first_classes) (defScope S__law_first_classes) .none kV__law_first_classes dc__law_first_classes pm__law_first_classes an__law_first_classes cd__law_first_classes ct__law_first_classes), sl__law_first_classes⟩)
    (q__law_first_classes : PySem.W.codeIn K cd__law_first_classes "_law_first_classes" = true)
    (k__law_first_classes : PySem.W.keepIn K (.ref f__law_first_classes) = true)
    (a__law_classes : PySem.W.nsIn K mainGlobals "_law_classes" = some (some (.ref f__law_classes)))
    (l__law_classes : K.lookup f__law_classes = some ⟨oc__law_classes, od__law_classes, .func (PySem.W.fnOf "_law_classes" "_law_classes" (defArgs S__law_classes) (defBody S__law_classes) (defScope S__law_classes) .none kV__law_classes dc__law_classes pm__law_classes an__law_classes cd__law_classes ct__law_classes), sl__law_classes⟩)
    (q__law_classes : PySem.W.codeIn K cd__law_classes "_law_classes" = true)
    (k__law_classes : PySem.W.keepIn K (.ref f__law_classes) = true)
    (a__law_field : PySem.W.nsIn K mainGlobals "_law_field" = some (some (.ref f__law_field)))
    (l__law_field : K.lookup f__law_field = some ⟨oc__law_field, od__law_field, .func (PySem.W.fnOf "_law_field" "_law_field" (defArgs S__law_field) (defBody S__law_field) (defScope S__law_field) .none kV__law_field dc__law_field pm__law_field an__law_field cd__law_field ct__law_field), sl__law_field⟩)
    (q__law_field : PySem.W.codeIn K cd__law_field "_law_field" = true)
    (k__law_field : PySem.W.keepIn K (.ref f__law_field) = true)
    (a__law_raised : PySem.W.nsIn K mainGlobals "_law_raised" = some (some (.ref f__law_raised)))
    (l__law_raised : K.lookup f__law_raised = some ⟨oc__law_raised, od__law_raised, .func (PySem.W.fnOf "_law_raised" "_law_raised" (defArgs S__law_raised) (defBody S__law_raised) (defScope S__law_raised) .none kV__law_raised dc__law_raised pm__law_raised an__law_raised cd__law_raised ct__law_raised), sl__law_raised⟩)
    (q__law_raised : PySem.W.codeIn K cd__law_raised "_law_raised" = true)
    (k__law_raised : PySem.W.keepIn K (.ref f__law_raised) = true)
    (a__law_right : PySem.W.nsIn K mainGlobals "_law_right" = some (some (.ref f__law_right)))
    (l__law_right : K.lookup f__law_right = some ⟨oc__law_right, od__law_right, .func (PySem.W.fnOf "_law_right" "_law_right" (defArgs S__law_right) (defBody S__law_right) (defScope S__law_right) .none kV__law_right dc__law_right pm__law_right an__law_right cd__law_right ct__law_right), sl__law_right⟩)
    (q__law_right : PySem.W.codeIn K cd__law_right "_law_right" = true)
    (k__law_right : PySem.W.keepIn K (.ref f__law_right) = true)
    (a_law : PySem.W.nsIn K mainGlobals "law" = some (some (.ref f_law)))
    (l_law : K.lookup f_law = some ⟨oc_law, od_law, .func (PySem.W.fnOf "law" "law" (defArgs S_law) (defBody S_law) (defScope S_law) .none kV_law dc_law pm_law an_law cd_law ct_law), sl_law⟩)
    (q_law : PySem.W.codeIn K cd_law "law" = true)
    (k_law : PySem.W.keepIn K (.ref f_law) = true)
    (z_ValueError : PySem.W.nsIn K mainGlobals "ValueError" = some none)
    (z_abs : PySem.W.nsIn K mainGlobals "abs" = some none)
    (z_all : PySem.W.nsIn K mainGlobals "all" = some none)
    (z_bool : PySem.W.nsIn K mainGlobals "bool" = some none)
    (z_dict : PySem.W.nsIn K mainGlobals "dict" = some none)
    (z_enumerate : PySem.W.nsIn K mainGlobals "enumerate" = some none)
    (z_int : PySem.W.nsIn K mainGlobals "int" = some none)
    (z_isinstance : PySem.W.nsIn K mainGlobals "isinstance" = some none)
    (z_len : PySem.W.nsIn K mainGlobals "len" = some none)
    (z_list : PySem.W.nsIn K mainGlobals "list" = some none)
    (z_range : PySem.W.nsIn K mainGlobals "range" = some none)
    (z_tuple : PySem.W.nsIn K mainGlobals "tuple" = some none)
    (ea_LockError : PySem.W.nsIn K mainGlobals "LockError" = some (some (.ref c_LockError)))
    (ea_BadText : PySem.W.nsIn K mainGlobals "BadText" = some (some (.ref c_BadText)))
    (ea_BadEntry : PySem.W.nsIn K mainGlobals "BadEntry" = some (some (.ref c_BadEntry)))
    (ea_BadBook : PySem.W.nsIn K mainGlobals "BadBook" = some (some (.ref c_BadBook)))
    (ea_BadLine : PySem.W.nsIn K mainGlobals "BadLine" = some (some (.ref c_BadLine)))
    (ea_BadQuestion : PySem.W.nsIn K mainGlobals "BadQuestion" = some (some (.ref c_BadQuestion)))
    (ea_BadTask : PySem.W.nsIn K mainGlobals "BadTask" = some (some (.ref c_BadTask)))
    (ea_BadStep : PySem.W.nsIn K mainGlobals "BadStep" = some (some (.ref c_BadStep)))
    (ea_TooMany : PySem.W.nsIn K mainGlobals "TooMany" = some (some (.ref c_TooMany)))
    (ea_NotFitting : PySem.W.nsIn K mainGlobals "NotFitting" = some (some (.ref c_NotFitting)))
    (ea_NotGiven : PySem.W.nsIn K mainGlobals "NotGiven" = some (some (.ref c_NotGiven)))
    (ea_NotFirst : PySem.W.nsIn K mainGlobals "NotFirst" = some (some (.ref c_NotFirst)))
    (ea_NoFeatures : PySem.W.nsIn K mainGlobals "NoFeatures" = some (some (.ref c_NoFeatures)))
    (ea_NoEntry : PySem.W.nsIn K mainGlobals "NoEntry" = some (some (.ref c_NoEntry)))
    (ea_NotRight : PySem.W.nsIn K mainGlobals "NotRight" = some (some (.ref c_NotRight)))
    (ea_NotThere : PySem.W.nsIn K mainGlobals "NotThere" = some (some (.ref c_NotThere)))
    (ea_NotClosed : PySem.W.nsIn K mainGlobals "NotClosed" = some (some (.ref c_NotClosed)))
    (ea_NoSource : PySem.W.nsIn K mainGlobals "NoSource" = some (some (.ref c_NoSource)))
    (ea_NoStand : PySem.W.nsIn K mainGlobals "NoStand" = some (some (.ref c_NoStand)))
    (ea_NoGivens : PySem.W.nsIn K mainGlobals "NoGivens" = some (some (.ref c_NoGivens)))
    (ea_NoLiteral : PySem.W.nsIn K mainGlobals "NoLiteral" = some (some (.ref c_NoLiteral)))
    (ea_NoPaper : PySem.W.nsIn K mainGlobals "NoPaper" = some (some (.ref c_NoPaper)))
    (ea_NoSources : PySem.W.nsIn K mainGlobals "NoSources" = some (some (.ref c_NoSources)))
    (ea_NoName : PySem.W.nsIn K mainGlobals "NoName" = some (some (.ref c_NoName)))
    (ea_NoNumber : PySem.W.nsIn K mainGlobals "NoNumber" = some (some (.ref c_NoNumber)))
    (ea_NotEntry : PySem.W.nsIn K mainGlobals "NotEntry" = some (some (.ref c_NotEntry)))
    (ea_NotQuestion : PySem.W.nsIn K mainGlobals "NotQuestion" = some (some (.ref c_NotQuestion)))
    (ea_NothingDone : PySem.W.nsIn K mainGlobals "NothingDone" = some (some (.ref c_NothingDone)))
    (ea_NoText : PySem.W.nsIn K mainGlobals "NoText" = some (some (.ref c_NoText)))
    (ea_NoStart : PySem.W.nsIn K mainGlobals "NoStart" = some (some (.ref c_NoStart)))
    (ea_NoStop : PySem.W.nsIn K mainGlobals "NoStop" = some (some (.ref c_NoStop)))
    (ea_NotSafe : PySem.W.nsIn K mainGlobals "NotSafe" = some (some (.ref c_NotSafe)))
    (ea_NoDeed : PySem.W.nsIn K mainGlobals "NoDeed" = some (some (.ref c_NoDeed)))
    (ea_NoContents : PySem.W.nsIn K mainGlobals "NoContents" = some (some (.ref c_NoContents)))
    (ea_NoMirrors : PySem.W.nsIn K mainGlobals "NoMirrors" = some (some (.ref c_NoMirrors)))
    (ea_NoManifest : PySem.W.nsIn K mainGlobals "NoManifest" = some (some (.ref c_NoManifest)))
    (ea_NotFetched : PySem.W.nsIn K mainGlobals "NotFetched" = some (some (.ref c_NotFetched)))
    (ea_NoBuild : PySem.W.nsIn K mainGlobals "NoBuild" = some (some (.ref c_NoBuild)))
    (ea_Ringed : PySem.W.nsIn K mainGlobals "Ringed" = some (some (.ref c_Ringed)))
    (ea_NoMachine : PySem.W.nsIn K mainGlobals "NoMachine" = some (some (.ref c_NoMachine)))
    (ea_NoRollout : PySem.W.nsIn K mainGlobals "NoRollout" = some (some (.ref c_NoRollout)))
    (ex_BadText : ∃ nm q N bs bm sn sub ab col dd k0 k1 k2 k3 k5, K.lookup c_BadText = some (excClassObj nm q c_BadText N bs bm true sn sub ab col dd k0 k1 k2 k3 k5 "ValueError.__new__") ∧ PySem.HandSPX.refsVE bm = true)
    (ei_BadText : PySem.W.findIn K (.ref c_BadText) "__init__" = some (some (.ref fi_BadText)))
    (ej_BadText : PySem.W.typeIn K (.ref fi_BadText) = some (.type "function"))
    (el_BadText : K.lookup fi_BadText = some ⟨oci_BadText, odi_BadText, .func (PySem.W.fnOf "__init__" "BadText.__init__" (defArgs SI_BadText) (defBody SI_BadText) (defScope SI_BadText) .none kVi_BadText dci_BadText pmi_BadText ani_BadText cdi_BadText cti_BadText), sli_BadText⟩)
    (eq_BadText : PySem.W.codeIn K cdi_BadText "BadText.__init__" = true)
    (er_BadText : PySem.W.keepIn K (.ref fi_BadText) = true)
    (en_BadText : PySem.W.findIn K (.ref c_BadText) "index" = some none)
    (ex_BadEntry : ∃ nm q N bs bm sn sub ab col dd k0 k1 k2 k3 k5, K.lookup c_BadEntry = some (excClassObj nm q c_BadEntry N bs bm true sn sub ab col dd k0 k1 k2 k3 k5 "ValueError.__new__") ∧ PySem.HandSPX.refsVE bm = true)
    (ei_BadEntry : PySem.W.findIn K (.ref c_BadEntry) "__init__" = some (some (.ref fi_BadEntry)))
    (ej_BadEntry : PySem.W.typeIn K (.ref fi_BadEntry) = some (.type "function"))
    (el_BadEntry : K.lookup fi_BadEntry = some ⟨oci_BadEntry, odi_BadEntry, .func (PySem.W.fnOf "__init__" "BadEntry.__init__" (defArgs SI_BadEntry) (defBody SI_BadEntry) (defScope SI_BadEntry) .none kVi_BadEntry dci_BadEntry pmi_BadEntry ani_BadEntry cdi_BadEntry cti_BadEntry), sli_BadEntry⟩)
    (eq_BadEntry : PySem.W.codeIn K cdi_BadEntry "BadEntry.__init__" = true)
    (er_BadEntry : PySem.W.keepIn K (.ref fi_BadEntry) = true)
    (en_BadEntry : PySem.W.findIn K (.ref c_BadEntry) "part" = some none)
    (ex_BadBook : ∃ nm q N bs bm sn sub ab col dd k0 k1 k2 k3 k5, K.lookup c_BadBook = some (excClassObj nm q c_BadBook N bs bm true sn sub ab col dd k0 k1 k2 k3 k5 "ValueError.__new__") ∧ PySem.HandSPX.refsVE bm = true)
    (ei_BadBook : PySem.W.findIn K (.ref c_BadBook) "__init__" = some (some (.ref fi_BadBook)))
    (ej_BadBook : PySem.W.typeIn K (.ref fi_BadBook) = some (.type "function"))
    (el_BadBook : K.lookup fi_BadBook = some ⟨oci_BadBook, odi_BadBook, .func (PySem.W.fnOf "__init__" "BadBook.__init__" (defArgs SI_BadBook) (defBody SI_BadBook) (defScope SI_BadBook) .none kVi_BadBook dci_BadBook pmi_BadBook ani_BadBook cdi_BadBook cti_BadBook), sli_BadBook⟩)
    (eq_BadBook : PySem.W.codeIn K cdi_BadBook "BadBook.__init__" = true)
    (er_BadBook : PySem.W.keepIn K (.ref fi_BadBook) = true)
    (en_BadBook : PySem.W.findIn K (.ref c_BadBook) "index" = some none)
    (ex_BadLine : ∃ nm q N bs bm sn sub ab col dd k0 k1 k2 k3 k5, K.lookup c_BadLine = some (excClassObj nm q c_BadLine N bs bm true sn sub ab col dd k0 k1 k2 k3 k5 "ValueError.__new__") ∧ PySem.HandSPX.refsVE bm = true)
    (ei_BadLine : PySem.W.findIn K (.ref c_BadLine) "__init__" = some (some (.ref fi_BadLine)))
    (ej_BadLine : PySem.W.typeIn K (.ref fi_BadLine) = some (.type "function"))
    (el_BadLine : K.lookup fi_BadLine = some ⟨oci_BadLine, odi_BadLine, .func (PySem.W.fnOf "__init__" "BadLine.__init__" (defArgs SI_BadLine) (defBody SI_BadLine) (defScope SI_BadLine) .none kVi_BadLine dci_BadLine pmi_BadLine ani_BadLine cdi_BadLine cti_BadLine), sli_BadLine⟩)
    (eq_BadLine : PySem.W.codeIn K cdi_BadLine "BadLine.__init__" = true)
    (er_BadLine : PySem.W.keepIn K (.ref fi_BadLine) = true)
    (en_BadLine : PySem.W.findIn K (.ref c_BadLine) "number" = some none)
    (ex_BadQuestion : ∃ nm q N bs bm sn sub ab col dd k0 k1 k2 k3 k5, K.lookup c_BadQuestion = some (excClassObj nm q c_BadQuestion N bs bm true sn sub ab col dd k0 k1 k2 k3 k5 "ValueError.__new__") ∧ PySem.HandSPX.refsVE bm = true)
    (ei_BadQuestion : PySem.W.findIn K (.ref c_BadQuestion) "__init__" = some (some (.ref fi_BadQuestion)))
    (ej_BadQuestion : PySem.W.typeIn K (.ref fi_BadQuestion) = some (.type "function"))
    (el_BadQuestion : K.lookup fi_BadQuestion = some ⟨oci_BadQuestion, odi_BadQuestion, .func (PySem.W.fnOf "__init__" "BadQuestion.__init__" (defArgs SI_BadQuestion) (defBody SI_BadQuestion) (defScope SI_BadQuestion) .none kVi_BadQuestion dci_BadQuestion pmi_BadQuestion ani_BadQuestion cdi_BadQuestion cti_BadQuestion), sli_BadQuestion⟩)
    (eq_BadQuestion : PySem.W.codeIn K cdi_BadQuestion "BadQuestion.__init__" = true)
    (er_BadQuestion : PySem.W.keepIn K (.ref fi_BadQuestion) = true)
    (en_BadQuestion : PySem.W.findIn K (.ref c_BadQuestion) "part" = some none)
    (ex_BadTask : ∃ nm q N bs bm sn sub ab col dd k0 k1 k2 k3 k5, K.lookup c_BadTask = some (excClassObj nm q c_BadTask N bs bm true sn sub ab col dd k0 k1 k2 k3 k5 "ValueError.__new__") ∧ PySem.HandSPX.refsVE bm = true)
    (ei_BadTask : PySem.W.findIn K (.ref c_BadTask) "__init__" = some (some (.ref fi_BadTask)))
    (ej_BadTask : PySem.W.typeIn K (.ref fi_BadTask) = some (.type "function"))
    (el_BadTask : K.lookup fi_BadTask = some ⟨oci_BadTask, odi_BadTask, .func (PySem.W.fnOf "__init__" "BadTask.__init__" (defArgs SI_BadTask) (defBody SI_BadTask) (defScope SI_BadTask) .none kVi_BadTask dci_BadTask pmi_BadTask ani_BadTask cdi_BadTask cti_BadTask), sli_BadTask⟩)
    (eq_BadTask : PySem.W.codeIn K cdi_BadTask "BadTask.__init__" = true)
    (er_BadTask : PySem.W.keepIn K (.ref fi_BadTask) = true)
    (en_BadTask : PySem.W.findIn K (.ref c_BadTask) "part" = some none)
    (ex_BadStep : ∃ nm q N bs bm sn sub ab col dd k0 k1 k2 k3 k5, K.lookup c_BadStep = some (excClassObj nm q c_BadStep N bs bm true sn sub ab col dd k0 k1 k2 k3 k5 "ValueError.__new__") ∧ PySem.HandSPX.refsVE bm = true)
    (ei_BadStep : PySem.W.findIn K (.ref c_BadStep) "__init__" = some (some (.ref fi_BadStep)))
    (ej_BadStep : PySem.W.typeIn K (.ref fi_BadStep) = some (.type "function"))
    (el_BadStep : K.lookup fi_BadStep = some ⟨oci_BadStep, odi_BadStep, .func (PySem.W.fnOf "__init__" "BadStep.__init__" (defArgs SI_BadStep) (defBody SI_BadStep) (defScope SI_BadStep) .none kVi_BadStep dci_BadStep pmi_BadStep ani_BadStep cdi_BadStep cti_BadStep), sli_BadStep⟩)
    (eq_BadStep : PySem.W.codeIn K cdi_BadStep "BadStep.__init__" = true)
    (er_BadStep : PySem.W.keepIn K (.ref fi_BadStep) = true)
    (en_BadStep : PySem.W.findIn K (.ref c_BadStep) "number" = some none)
    (ex_TooMany : ∃ nm q N bs bm sn sub ab col dd k0 k1 k2 k3 k5, K.lookup c_TooMany = some (excClassObj nm q c_TooMany N bs bm true sn sub ab col dd k0 k1 k2 k3 k5 "ValueError.__new__") ∧ PySem.HandSPX.refsVE bm = true)
    (ei_TooMany : PySem.W.findIn K (.ref c_TooMany) "__init__" = some (some (.ref fi_TooMany)))
    (ej_TooMany : PySem.W.typeIn K (.ref fi_TooMany) = some (.type "function"))
    (el_TooMany : K.lookup fi_TooMany = some ⟨oci_TooMany, odi_TooMany, .func (PySem.W.fnOf "__init__" "TooMany.__init__" (defArgs SI_TooMany) (defBody SI_TooMany) (defScope SI_TooMany) .none kVi_TooMany dci_TooMany pmi_TooMany ani_TooMany cdi_TooMany cti_TooMany), sli_TooMany⟩)
    (eq_TooMany : PySem.W.codeIn K cdi_TooMany "TooMany.__init__" = true)
    (er_TooMany : PySem.W.keepIn K (.ref fi_TooMany) = true)
    (en_TooMany : PySem.W.findIn K (.ref c_TooMany) "most" = some none)
    (ex_NotFitting : ∃ nm q N bs bm sn sub ab col dd k0 k1 k2 k3 k5, K.lookup c_NotFitting = some (excClassObj nm q c_NotFitting N bs bm true sn sub ab col dd k0 k1 k2 k3 k5 "ValueError.__new__") ∧ PySem.HandSPX.refsVE bm = true)
    (ei_NotFitting : PySem.W.findIn K (.ref c_NotFitting) "__init__" = some (some (.ref fi_NotFitting)))
    (ej_NotFitting : PySem.W.typeIn K (.ref fi_NotFitting) = some (.type "function"))
    (el_NotFitting : K.lookup fi_NotFitting = some ⟨oci_NotFitting, odi_NotFitting, .func (PySem.W.fnOf "__init__" "NotFitting.__init__" (defArgs SI_NotFitting) (defBody SI_NotFitting) (defScope SI_NotFitting) .none kVi_NotFitting dci_NotFitting pmi_NotFitting ani_NotFitting cdi_NotFitting cti_NotFitting), sli_NotFitting⟩)
    (eq_NotFitting : PySem.W.codeIn K cdi_NotFitting "NotFitting.__init__" = true)
    (er_NotFitting : PySem.W.keepIn K (.ref fi_NotFitting) = true)
    (en_NotFitting : PySem.W.findIn K (.ref c_NotFitting) "source" = some none)
    (ex_NotGiven : ∃ nm q N bs bm sn sub ab col dd k0 k1 k2 k3 k5, K.lookup c_NotGiven = some (excClassObj nm q c_NotGiven N bs bm true sn sub ab col dd k0 k1 k2 k3 k5 "ValueError.__new__") ∧ PySem.HandSPX.refsVE bm = true)
    (ei_NotGiven : PySem.W.findIn K (.ref c_NotGiven) "__init__" = some (some (.ref fi_NotGiven)))
    (ej_NotGiven : PySem.W.typeIn K (.ref fi_NotGiven) = some (.type "function"))
    (el_NotGiven : K.lookup fi_NotGiven = some ⟨oci_NotGiven, odi_NotGiven, .func (PySem.W.fnOf "__init__" "NotGiven.__init__" (defArgs SI_NotGiven) (defBody SI_NotGiven) (defScope SI_NotGiven) .none kVi_NotGiven dci_NotGiven pmi_NotGiven ani_NotGiven cdi_NotGiven cti_NotGiven), sli_NotGiven⟩)
    (eq_NotGiven : PySem.W.codeIn K cdi_NotGiven "NotGiven.__init__" = true)
    (er_NotGiven : PySem.W.keepIn K (.ref fi_NotGiven) = true)
    (en_NotGiven : PySem.W.findIn K (.ref c_NotGiven) "literal" = some none)
    (ex_NotFirst : ∃ nm q N bs bm sn sub ab col dd k0 k1 k2 k3 k5, K.lookup c_NotFirst = some (excClassObj nm q c_NotFirst N bs bm true sn sub ab col dd k0 k1 k2 k3 k5 "ValueError.__new__") ∧ PySem.HandSPX.refsVE bm = true)
    (ei_NotFirst : PySem.W.findIn K (.ref c_NotFirst) "__init__" = some (some (.ref fi_NotFirst)))
    (ej_NotFirst : PySem.W.typeIn K (.ref fi_NotFirst) = some (.type "function"))
    (el_NotFirst : K.lookup fi_NotFirst = some ⟨oci_NotFirst, odi_NotFirst, .func (PySem.W.fnOf "__init__" "NotFirst.__init__" (defArgs SI_NotFirst) (defBody SI_NotFirst) (defScope SI_NotFirst) .none kVi_NotFirst dci_NotFirst pmi_NotFirst ani_NotFirst cdi_NotFirst cti_NotFirst), sli_NotFirst⟩)
    (eq_NotFirst : PySem.W.codeIn K cdi_NotFirst "NotFirst.__init__" = true)
    (er_NotFirst : PySem.W.keepIn K (.ref fi_NotFirst) = true)
    (en_NotFirst : PySem.W.findIn K (.ref c_NotFirst) "place" = some none)
    (ex_NoFeatures : ∃ nm q N bs bm sn sub ab col dd k0 k1 k2 k3 k5, K.lookup c_NoFeatures = some (excClassObj nm q c_NoFeatures N bs bm true sn sub ab col dd k0 k1 k2 k3 k5 "ValueError.__new__") ∧ PySem.HandSPX.refsVE bm = true)
    (ei_NoFeatures : PySem.W.findIn K (.ref c_NoFeatures) "__init__" = some (some (.ref fi_LockError)))
    (ej_LockError : PySem.W.typeIn K (.ref fi_LockError) = some (.type "function"))
    (el_LockError : K.lookup fi_LockError = some ⟨oci_LockError, odi_LockError, .func (PySem.W.fnOf "__init__" "LockError.__init__" (defArgs SI_LockError) (defBody SI_LockError) (defScope SI_LockError) .none kVi_LockError dci_LockError pmi_LockError ani_LockError cdi_LockError cti_LockError), sli_LockError⟩)
    (eq_LockError : PySem.W.codeIn K cdi_LockError "LockError.__init__" = true)
    (er_LockError : PySem.W.keepIn K (.ref fi_LockError) = true)
    (ex_NoEntry : ∃ nm q N bs bm sn sub ab col dd k0 k1 k2 k3 k5, K.lookup c_NoEntry = some (excClassObj nm q c_NoEntry N bs bm true sn sub ab col dd k0 k1 k2 k3 k5 "ValueError.__new__") ∧ PySem.HandSPX.refsVE bm = true)
    (ei_NoEntry : PySem.W.findIn K (.ref c_NoEntry) "__init__" = some (some (.ref fi_LockError)))
    (ex_NotRight : ∃ nm q N bs bm sn sub ab col dd k0 k1 k2 k3 k5, K.lookup c_NotRight = some (excClassObj nm q c_NotRight N bs bm true sn sub ab col dd k0 k1 k2 k3 k5 "ValueError.__new__") ∧ PySem.HandSPX.refsVE bm = true)
    (ei_NotRight : PySem.W.findIn K (.ref c_NotRight) "__init__" = some (some (.ref fi_LockError)))
    (ex_NotThere : ∃ nm q N bs bm sn sub ab col dd k0 k1 k2 k3 k5, K.lookup c_NotThere = some (excClassObj nm q c_NotThere N bs bm true sn sub ab col dd k0 k1 k2 k3 k5 "ValueError.__new__") ∧ PySem.HandSPX.refsVE bm = true)
    (ei_NotThere : PySem.W.findIn K (.ref c_NotThere) "__init__" = some (some (.ref fi_LockError)))
    (ex_NotClosed : ∃ nm q N bs bm sn sub ab col dd k0 k1 k2 k3 k5, K.lookup c_NotClosed = some (excClassObj nm q c_NotClosed N bs bm true sn sub ab col dd k0 k1 k2 k3 k5 "ValueError.__new__") ∧ PySem.HandSPX.refsVE bm = true)
    (ei_NotClosed : PySem.W.findIn K (.ref c_NotClosed) "__init__" = some (some (.ref fi_LockError)))
    (ex_NoSource : ∃ nm q N bs bm sn sub ab col dd k0 k1 k2 k3 k5, K.lookup c_NoSource = some (excClassObj nm q c_NoSource N bs bm true sn sub ab col dd k0 k1 k2 k3 k5 "ValueError.__new__") ∧ PySem.HandSPX.refsVE bm = true)
    (ei_NoSource : PySem.W.findIn K (.ref c_NoSource) "__init__" = some (some (.ref fi_LockError)))
    (ex_NoStand : ∃ nm q N bs bm sn sub ab col dd k0 k1 k2 k3 k5, K.lookup c_NoStand = some (excClassObj nm q c_NoStand N bs bm true sn sub ab col dd k0 k1 k2 k3 k5 "ValueError.__new__") ∧ PySem.HandSPX.refsVE bm = true)
    (ei_NoStand : PySem.W.findIn K (.ref c_NoStand) "__init__" = some (some (.ref fi_LockError)))
    (ex_NoGivens : ∃ nm q N bs bm sn sub ab col dd k0 k1 k2 k3 k5, K.lookup c_NoGivens = some (excClassObj nm q c_NoGivens N bs bm true sn sub ab col dd k0 k1 k2 k3 k5 "ValueError.__new__") ∧ PySem.HandSPX.refsVE bm = true)
    (ei_NoGivens : PySem.W.findIn K (.ref c_NoGivens) "__init__" = some (some (.ref fi_LockError)))
    (ex_NoLiteral : ∃ nm q N bs bm sn sub ab col dd k0 k1 k2 k3 k5, K.lookup c_NoLiteral = some (excClassObj nm q c_NoLiteral N bs bm true sn sub ab col dd k0 k1 k2 k3 k5 "ValueError.__new__") ∧ PySem.HandSPX.refsVE bm = true)
    (ei_NoLiteral : PySem.W.findIn K (.ref c_NoLiteral) "__init__" = some (some (.ref fi_LockError)))
    (ex_NoPaper : ∃ nm q N bs bm sn sub ab col dd k0 k1 k2 k3 k5, K.lookup c_NoPaper = some (excClassObj nm q c_NoPaper N bs bm true sn sub ab col dd k0 k1 k2 k3 k5 "ValueError.__new__") ∧ PySem.HandSPX.refsVE bm = true)
    (ei_NoPaper : PySem.W.findIn K (.ref c_NoPaper) "__init__" = some (some (.ref fi_LockError)))
    (ex_NoSources : ∃ nm q N bs bm sn sub ab col dd k0 k1 k2 k3 k5, K.lookup c_NoSources = some (excClassObj nm q c_NoSources N bs bm true sn sub ab col dd k0 k1 k2 k3 k5 "ValueError.__new__") ∧ PySem.HandSPX.refsVE bm = true)
    (ei_NoSources : PySem.W.findIn K (.ref c_NoSources) "__init__" = some (some (.ref fi_LockError)))
    (ex_NoName : ∃ nm q N bs bm sn sub ab col dd k0 k1 k2 k3 k5, K.lookup c_NoName = some (excClassObj nm q c_NoName N bs bm true sn sub ab col dd k0 k1 k2 k3 k5 "ValueError.__new__") ∧ PySem.HandSPX.refsVE bm = true)
    (ei_NoName : PySem.W.findIn K (.ref c_NoName) "__init__" = some (some (.ref fi_LockError)))
    (ex_NoNumber : ∃ nm q N bs bm sn sub ab col dd k0 k1 k2 k3 k5, K.lookup c_NoNumber = some (excClassObj nm q c_NoNumber N bs bm true sn sub ab col dd k0 k1 k2 k3 k5 "ValueError.__new__") ∧ PySem.HandSPX.refsVE bm = true)
    (ei_NoNumber : PySem.W.findIn K (.ref c_NoNumber) "__init__" = some (some (.ref fi_LockError)))
    (ex_NotEntry : ∃ nm q N bs bm sn sub ab col dd k0 k1 k2 k3 k5, K.lookup c_NotEntry = some (excClassObj nm q c_NotEntry N bs bm true sn sub ab col dd k0 k1 k2 k3 k5 "ValueError.__new__") ∧ PySem.HandSPX.refsVE bm = true)
    (ei_NotEntry : PySem.W.findIn K (.ref c_NotEntry) "__init__" = some (some (.ref fi_LockError)))
    (ex_NotQuestion : ∃ nm q N bs bm sn sub ab col dd k0 k1 k2 k3 k5, K.lookup c_NotQuestion = some (excClassObj nm q c_NotQuestion N bs bm true sn sub ab col dd k0 k1 k2 k3 k5 "ValueError.__new__") ∧ PySem.HandSPX.refsVE bm = true)
    (ei_NotQuestion : PySem.W.findIn K (.ref c_NotQuestion) "__init__" = some (some (.ref fi_LockError)))
    (ex_NothingDone : ∃ nm q N bs bm sn sub ab col dd k0 k1 k2 k3 k5, K.lookup c_NothingDone = some (excClassObj nm q c_NothingDone N bs bm true sn sub ab col dd k0 k1 k2 k3 k5 "ValueError.__new__") ∧ PySem.HandSPX.refsVE bm = true)
    (ei_NothingDone : PySem.W.findIn K (.ref c_NothingDone) "__init__" = some (some (.ref fi_LockError)))
    (ex_NoText : ∃ nm q N bs bm sn sub ab col dd k0 k1 k2 k3 k5, K.lookup c_NoText = some (excClassObj nm q c_NoText N bs bm true sn sub ab col dd k0 k1 k2 k3 k5 "ValueError.__new__") ∧ PySem.HandSPX.refsVE bm = true)
    (ei_NoText : PySem.W.findIn K (.ref c_NoText) "__init__" = some (some (.ref fi_LockError)))
    (ex_NoStart : ∃ nm q N bs bm sn sub ab col dd k0 k1 k2 k3 k5, K.lookup c_NoStart = some (excClassObj nm q c_NoStart N bs bm true sn sub ab col dd k0 k1 k2 k3 k5 "ValueError.__new__") ∧ PySem.HandSPX.refsVE bm = true)
    (ei_NoStart : PySem.W.findIn K (.ref c_NoStart) "__init__" = some (some (.ref fi_LockError)))
    (ex_NoStop : ∃ nm q N bs bm sn sub ab col dd k0 k1 k2 k3 k5, K.lookup c_NoStop = some (excClassObj nm q c_NoStop N bs bm true sn sub ab col dd k0 k1 k2 k3 k5 "ValueError.__new__") ∧ PySem.HandSPX.refsVE bm = true)
    (ei_NoStop : PySem.W.findIn K (.ref c_NoStop) "__init__" = some (some (.ref fi_LockError)))
    (ex_NotSafe : ∃ nm q N bs bm sn sub ab col dd k0 k1 k2 k3 k5, K.lookup c_NotSafe = some (excClassObj nm q c_NotSafe N bs bm true sn sub ab col dd k0 k1 k2 k3 k5 "ValueError.__new__") ∧ PySem.HandSPX.refsVE bm = true)
    (ei_NotSafe : PySem.W.findIn K (.ref c_NotSafe) "__init__" = some (some (.ref fi_LockError)))
    (ex_NoDeed : ∃ nm q N bs bm sn sub ab col dd k0 k1 k2 k3 k5, K.lookup c_NoDeed = some (excClassObj nm q c_NoDeed N bs bm true sn sub ab col dd k0 k1 k2 k3 k5 "ValueError.__new__") ∧ PySem.HandSPX.refsVE bm = true)
    (ei_NoDeed : PySem.W.findIn K (.ref c_NoDeed) "__init__" = some (some (.ref fi_LockError)))
    (ex_NoContents : ∃ nm q N bs bm sn sub ab col dd k0 k1 k2 k3 k5, K.lookup c_NoContents = some (excClassObj nm q c_NoContents N bs bm true sn sub ab col dd k0 k1 k2 k3 k5 "ValueError.__new__") ∧ PySem.HandSPX.refsVE bm = true)
    (ei_NoContents : PySem.W.findIn K (.ref c_NoContents) "__init__" = some (some (.ref fi_LockError)))
    (ex_NoMirrors : ∃ nm q N bs bm sn sub ab col dd k0 k1 k2 k3 k5, K.lookup c_NoMirrors = some (excClassObj nm q c_NoMirrors N bs bm true sn sub ab col dd k0 k1 k2 k3 k5 "ValueError.__new__") ∧ PySem.HandSPX.refsVE bm = true)
    (ei_NoMirrors : PySem.W.findIn K (.ref c_NoMirrors) "__init__" = some (some (.ref fi_LockError)))
    (ex_NoManifest : ∃ nm q N bs bm sn sub ab col dd k0 k1 k2 k3 k5, K.lookup c_NoManifest = some (excClassObj nm q c_NoManifest N bs bm true sn sub ab col dd k0 k1 k2 k3 k5 "ValueError.__new__") ∧ PySem.HandSPX.refsVE bm = true)
    (ei_NoManifest : PySem.W.findIn K (.ref c_NoManifest) "__init__" = some (some (.ref fi_LockError)))
    (ex_NotFetched : ∃ nm q N bs bm sn sub ab col dd k0 k1 k2 k3 k5, K.lookup c_NotFetched = some (excClassObj nm q c_NotFetched N bs bm true sn sub ab col dd k0 k1 k2 k3 k5 "ValueError.__new__") ∧ PySem.HandSPX.refsVE bm = true)
    (ei_NotFetched : PySem.W.findIn K (.ref c_NotFetched) "__init__" = some (some (.ref fi_NotFetched)))
    (ej_NotFetched : PySem.W.typeIn K (.ref fi_NotFetched) = some (.type "function"))
    (el_NotFetched : K.lookup fi_NotFetched = some ⟨oci_NotFetched, odi_NotFetched, .func (PySem.W.fnOf "__init__" "NotFetched.__init__" (defArgs SI_NotFetched) (defBody SI_NotFetched) (defScope SI_NotFetched) .none kVi_NotFetched dci_NotFetched pmi_NotFetched ani_NotFetched cdi_NotFetched cti_NotFetched), sli_NotFetched⟩)
    (eq_NotFetched : PySem.W.codeIn K cdi_NotFetched "NotFetched.__init__" = true)
    (er_NotFetched : PySem.W.keepIn K (.ref fi_NotFetched) = true)
    (en_NotFetched : PySem.W.findIn K (.ref c_NotFetched) "pair" = some none)
    (ex_NoBuild : ∃ nm q N bs bm sn sub ab col dd k0 k1 k2 k3 k5, K.lookup c_NoBuild = some (excClassObj nm q c_NoBuild N bs bm true sn sub ab col dd k0 k1 k2 k3 k5 "ValueError.__new__") ∧ PySem.HandSPX.refsVE bm = true)
    (ei_NoBuild : PySem.W.findIn K (.ref c_NoBuild) "__init__" = some (some (.ref fi_NoBuild)))
    (ej_NoBuild : PySem.W.typeIn K (.ref fi_NoBuild) = some (.type "function"))
    (el_NoBuild : K.lookup fi_NoBuild = some ⟨oci_NoBuild, odi_NoBuild, .func (PySem.W.fnOf "__init__" "NoBuild.__init__" (defArgs SI_NoBuild) (defBody SI_NoBuild) (defScope SI_NoBuild) .none kVi_NoBuild dci_NoBuild pmi_NoBuild ani_NoBuild cdi_NoBuild cti_NoBuild), sli_NoBuild⟩)
    (eq_NoBuild : PySem.W.codeIn K cdi_NoBuild "NoBuild.__init__" = true)
    (er_NoBuild : PySem.W.keepIn K (.ref fi_NoBuild) = true)
    (en_NoBuild : PySem.W.findIn K (.ref c_NoBuild) "name" = some none)
    (ex_Ringed : ∃ nm q N bs bm sn sub ab col dd k0 k1 k2 k3 k5, K.lookup c_Ringed = some (excClassObj nm q c_Ringed N bs bm true sn sub ab col dd k0 k1 k2 k3 k5 "ValueError.__new__") ∧ PySem.HandSPX.refsVE bm = true)
    (ei_Ringed : PySem.W.findIn K (.ref c_Ringed) "__init__" = some (some (.ref fi_Ringed)))
    (ej_Ringed : PySem.W.typeIn K (.ref fi_Ringed) = some (.type "function"))
    (el_Ringed : K.lookup fi_Ringed = some ⟨oci_Ringed, odi_Ringed, .func (PySem.W.fnOf "__init__" "Ringed.__init__" (defArgs SI_Ringed) (defBody SI_Ringed) (defScope SI_Ringed) .none kVi_Ringed dci_Ringed pmi_Ringed ani_Ringed cdi_Ringed cti_Ringed), sli_Ringed⟩)
    (eq_Ringed : PySem.W.codeIn K cdi_Ringed "Ringed.__init__" = true)
    (er_Ringed : PySem.W.keepIn K (.ref fi_Ringed) = true)
    (en_Ringed : PySem.W.findIn K (.ref c_Ringed) "names" = some none)
    (ex_NoMachine : ∃ nm q N bs bm sn sub ab col dd k0 k1 k2 k3 k5, K.lookup c_NoMachine = some (excClassObj nm q c_NoMachine N bs bm true sn sub ab col dd k0 k1 k2 k3 k5 "ValueError.__new__") ∧ PySem.HandSPX.refsVE bm = true)
    (ei_NoMachine : PySem.W.findIn K (.ref c_NoMachine) "__init__" = some (some (.ref fi_LockError)))
    (ex_NoRollout : ∃ nm q N bs bm sn sub ab col dd k0 k1 k2 k3 k5, K.lookup c_NoRollout = some (excClassObj nm q c_NoRollout N bs bm true sn sub ab col dd k0 k1 k2 k3 k5 "ValueError.__new__") ∧ PySem.HandSPX.refsVE bm = true)
    (ei_NoRollout : PySem.W.findIn K (.ref c_NoRollout) "__init__" = some (some (.ref fi_LockError)))
    (e_sp : PySem.W.specialIn K (.builtin "object.__class__") "__get__" = some (some (.builtin "getset_descriptor.__get__")))
    (e_tk : PySem.W.takesIn K (.builtin "object.__class__") = some true)
    (e_tab : clsTab K [c_LockError, c_BadText, c_BadEntry, c_BadBook, c_BadLine, c_BadQuestion, c_BadTask, c_BadStep, c_TooMany, c_NotFitting, c_NotGiven, c_NotFirst, c_NoFeatures, c_NoEntry, c_NotRight, c_NotThere, c_NotClosed, c_NoSource, c_NoStand, c_NoGivens, c_NoLiteral, c_NoPaper, c_NoSources, c_NoName, c_NoNumber, c_NotEntry, c_NotQuestion, c_NothingDone, c_NoText, c_NoStart, c_NoStop, c_NotSafe, c_NoDeed, c_NoContents, c_NoMirrors, c_NoManifest, c_NotFetched, c_NoBuild, c_Ringed, c_NoMachine, c_NoRollout] = true)
    (ea_Book : PySem.W.nsIn K mainGlobals "Book" = some (some (.ref c_Book)))
    (bg_Book : PySem.W.plainGet K c_Book Str.empty = true)
    (bh_Book : PySem.W.hasDictIn K c_Book = true)
    (bo_Book : PySem.W.plainOver K c_Book = true)
    (bs_Book : PySem.W.findIn K (.ref c_Book) "__setattr__" = some (some (.builtin "object.__setattr__")))
    (bc_Book : PySem.W.findIn K (.ref c_Book) "__class__" = some (some (.builtin "object.__class__")))
    (bm_Book : PySem.W.mroIn K c_Book (.type "object") = some true)
    (bi_Book : PySem.W.isClsIn K c_Book = true)
    (bt_Book : PySem.W.typeIn K (.ref c_Book) = some (.type "type"))
    (be_Book : PySem.W.subIn K (.ref c_Book) (.ref c_Book) = some true)
    (bk_Book : PySem.W.makesIn K c_Book = true)
    (bp_Book : PySem.W.keepIn K (.ref c_Book) = true)
    (bn_Book_entries : PySem.W.findIn K (.ref c_Book) "entries" = some none)
    (bn_Book_places : PySem.W.findIn K (.ref c_Book) "places" = some none)
    (a_Book___init__ : PySem.W.findIn K (.ref c_Book) "__init__" = some (some (.ref f_Book___init__)))
    (i_Book___init__ : PySem.W.isFn K (.ref f_Book___init__) = true)
    (l_Book___init__ : K.lookup f_Book___init__ = some ⟨oc_Book___init__, od_Book___init__, .func (PySem.W.fnOf "__init__" "Book.__init__" (defArgs S_Book___init__) (defBody S_Book___init__) (defScope S_Book___init__) .none kV_Book___init__ dc_Book___init__ pm_Book___init__ an_Book___init__ cd_Book___init__ ct_Book___init__), sl_Book___init__⟩)
    (q_Book___init__ : PySem.W.codeIn K cd_Book___init__ "Book.__init__" = true)
    (k_Book___init__ : PySem.W.keepIn K (.ref f_Book___init__) = true)
    (a_Book___eq__ : PySem.W.findIn K (.ref c_Book) "__eq__" = some (some (.ref f_Book___eq__)))
    (i_Book___eq__ : PySem.W.isFn K (.ref f_Book___eq__) = true)
    (l_Book___eq__ : K.lookup f_Book___eq__ = some ⟨oc_Book___eq__, od_Book___eq__, .func (PySem.W.fnOf "__eq__" "Book.__eq__" (defArgs S_Book___eq__) (defBody S_Book___eq__) (defScope S_Book___eq__) .none kV_Book___eq__ dc_Book___eq__ pm_Book___eq__ an_Book___eq__ cd_Book___eq__ ct_Book___eq__), sl_Book___eq__⟩)
    (q_Book___eq__ : PySem.W.codeIn K cd_Book___eq__ "Book.__eq__" = true)
    (k_Book___eq__ : PySem.W.keepIn K (.ref f_Book___eq__) = true)
    (n_ENTRIES_MOST : PySem.W.nsIn K mainGlobals "ENTRIES_MOST" = some (some u_ENTRIES_MOST))
    (r_ENTRIES_MOST : KRep K (.int 200) u_ENTRIES_MOST) :
    LamX.LawAtS l w K (L2.CX l.prog w) 41 63 "script" mg fa h := by
  have e := hfa.symm.trans (PySem.W.mg_of X G a_law)
  cases e
  letI : ErrCtx := ⟨fun m => if m ≤ 40 then [c_LockError, c_BadText, c_BadEntry, c_BadBook, c_BadLine, c_BadQuestion, c_BadTask, c_BadStep, c_TooMany, c_NotFitting, c_NotGiven, c_NotFirst, c_NoFeatures, c_NoEntry, c_NotRight, c_NotThere, c_NotClosed, c_NoSource, c_NoStand, c_NoGivens, c_NoLiteral, c_NoPaper, c_NoSources, c_NoName, c_NoNumber, c_NotEntry, c_NotQuestion, c_NothingDone, c_NoText, c_NoStart, c_NoStop, c_NotSafe, c_NoDeed, c_NoContents, c_NoMirrors, c_NoManifest, c_NotFetched, c_NoBuild, c_Ringed, c_NoMachine, c_NoRollout].getD m 0 else c_Book, w⟩
  have TT : ClsTab K := clsTab_of e_tab rfl (fun m hm => if_pos hm)
  have To_BadText : OexC K (errA 1) := ⟨ex_BadText, (TT.ok 1 (by decide)).sa, (TT.ok 1 (by decide)).sb, (TT.ok 1 (by decide)).ty, (TT.ok 1 (by decide)).kp⟩
  have To_BadEntry : OexC K (errA 2) := ⟨ex_BadEntry, (TT.ok 2 (by decide)).sa, (TT.ok 2 (by decide)).sb, (TT.ok 2 (by decide)).ty, (TT.ok 2 (by decide)).kp⟩
  have To_BadBook : OexC K (errA 3) := ⟨ex_BadBook, (TT.ok 3 (by decide)).sa, (TT.ok 3 (by decide)).sb, (TT.ok 3 (by decide)).ty, (TT.ok 3 (by decide)).kp⟩
  have To_BadLine : OexC K (errA 4) := ⟨ex_BadLine, (TT.ok 4 (by decide)).sa, (TT.ok 4 (by decide)).sb, (TT.ok 4 (by decide)).ty, (TT.ok 4 (by decide)).kp⟩
  have To_BadQuestion : OexC K (errA 5) := ⟨ex_BadQuestion, (TT.ok 5 (by decide)).sa, (TT.ok 5 (by decide)).sb, (TT.ok 5 (by decide)).ty, (TT.ok 5 (by decide)).kp⟩
  have To_BadTask : OexC K (errA 6) := ⟨ex_BadTask, (TT.ok 6 (by decide)).sa, (TT.ok 6 (by decide)).sb, (TT.ok 6 (by decide)).ty, (TT.ok 6 (by decide)).kp⟩
  have To_BadStep : OexC K (errA 7) := ⟨ex_BadStep, (TT.ok 7 (by decide)).sa, (TT.ok 7 (by decide)).sb, (TT.ok 7 (by decide)).ty, (TT.ok 7 (by decide)).kp⟩
  have To_TooMany : OexC K (errA 8) := ⟨ex_TooMany, (TT.ok 8 (by decide)).sa, (TT.ok 8 (by decide)).sb, (TT.ok 8 (by decide)).ty, (TT.ok 8 (by decide)).kp⟩
  have To_NotFitting : OexC K (errA 9) := ⟨ex_NotFitting, (TT.ok 9 (by decide)).sa, (TT.ok 9 (by decide)).sb, (TT.ok 9 (by decide)).ty, (TT.ok 9 (by decide)).kp⟩
  have To_NotGiven : OexC K (errA 10) := ⟨ex_NotGiven, (TT.ok 10 (by decide)).sa, (TT.ok 10 (by decide)).sb, (TT.ok 10 (by decide)).ty, (TT.ok 10 (by decide)).kp⟩
  have To_NotFirst : OexC K (errA 11) := ⟨ex_NotFirst, (TT.ok 11 (by decide)).sa, (TT.ok 11 (by decide)).sb, (TT.ok 11 (by decide)).ty, (TT.ok 11 (by decide)).kp⟩
  have To_NoFeatures : OexC K (errA 12) := ⟨ex_NoFeatures, (TT.ok 12 (by decide)).sa, (TT.ok 12 (by decide)).sb, (TT.ok 12 (by decide)).ty, (TT.ok 12 (by decide)).kp⟩
  have To_NoEntry : OexC K (errA 13) := ⟨ex_NoEntry, (TT.ok 13 (by decide)).sa, (TT.ok 13 (by decide)).sb, (TT.ok 13 (by decide)).ty, (TT.ok 13 (by decide)).kp⟩
  have To_NotRight : OexC K (errA 14) := ⟨ex_NotRight, (TT.ok 14 (by decide)).sa, (TT.ok 14 (by decide)).sb, (TT.ok 14 (by decide)).ty, (TT.ok 14 (by decide)).kp⟩
  have To_NotThere : OexC K (errA 15) := ⟨ex_NotThere, (TT.ok 15 (by decide)).sa, (TT.ok 15 (by decide)).sb, (TT.ok 15 (by decide)).ty, (TT.ok 15 (by decide)).kp⟩
  have To_NotClosed : OexC K (errA 16) := ⟨ex_NotClosed, (TT.ok 16 (by decide)).sa, (TT.ok 16 (by decide)).sb, (TT.ok 16 (by decide)).ty, (TT.ok 16 (by decide)).kp⟩
  have To_NoSource : OexC K (errA 17) := ⟨ex_NoSource, (TT.ok 17 (by decide)).sa, (TT.ok 17 (by decide)).sb, (TT.ok 17 (by decide)).ty, (TT.ok 17 (by decide)).kp⟩
  have To_NoStand : OexC K (errA 18) := ⟨ex_NoStand, (TT.ok 18 (by decide)).sa, (TT.ok 18 (by decide)).sb, (TT.ok 18 (by decide)).ty, (TT.ok 18 (by decide)).kp⟩
  have To_NoGivens : OexC K (errA 19) := ⟨ex_NoGivens, (TT.ok 19 (by decide)).sa, (TT.ok 19 (by decide)).sb, (TT.ok 19 (by decide)).ty, (TT.ok 19 (by decide)).kp⟩
  have To_NoLiteral : OexC K (errA 20) := ⟨ex_NoLiteral, (TT.ok 20 (by decide)).sa, (TT.ok 20 (by decide)).sb, (TT.ok 20 (by decide)).ty, (TT.ok 20 (by decide)).kp⟩
  have To_NoPaper : OexC K (errA 21) := ⟨ex_NoPaper, (TT.ok 21 (by decide)).sa, (TT.ok 21 (by decide)).sb, (TT.ok 21 (by decide)).ty, (TT.ok 21 (by decide)).kp⟩
  have To_NoSources : OexC K (errA 22) := ⟨ex_NoSources, (TT.ok 22 (by decide)).sa, (TT.ok 22 (by decide)).sb, (TT.ok 22 (by decide)).ty, (TT.ok 22 (by decide)).kp⟩
  have To_NoName : OexC K (errA 23) := ⟨ex_NoName, (TT.ok 23 (by decide)).sa, (TT.ok 23 (by decide)).sb, (TT.ok 23 (by decide)).ty, (TT.ok 23 (by decide)).kp⟩
  have To_NoNumber : OexC K (errA 24) := ⟨ex_NoNumber, (TT.ok 24 (by decide)).sa, (TT.ok 24 (by decide)).sb, (TT.ok 24 (by decide)).ty, (TT.ok 24 (by decide)).kp⟩
  have To_NotEntry : OexC K (errA 25) := ⟨ex_NotEntry, (TT.ok 25 (by decide)).sa, (TT.ok 25 (by decide)).sb, (TT.ok 25 (by decide)).ty, (TT.ok 25 (by decide)).kp⟩
  have To_NotQuestion : OexC K (errA 26) := ⟨ex_NotQuestion, (TT.ok 26 (by decide)).sa, (TT.ok 26 (by decide)).sb, (TT.ok 26 (by decide)).ty, (TT.ok 26 (by decide)).kp⟩
  have To_NothingDone : OexC K (errA 27) := ⟨ex_NothingDone, (TT.ok 27 (by decide)).sa, (TT.ok 27 (by decide)).sb, (TT.ok 27 (by decide)).ty, (TT.ok 27 (by decide)).kp⟩
  have To_NoText : OexC K (errA 28) := ⟨ex_NoText, (TT.ok 28 (by decide)).sa, (TT.ok 28 (by decide)).sb, (TT.ok 28 (by decide)).ty, (TT.ok 28 (by decide)).kp⟩
  have To_NoStart : OexC K (errA 29) := ⟨ex_NoStart, (TT.ok 29 (by decide)).sa, (TT.ok 29 (by decide)).sb, (TT.ok 29 (by decide)).ty, (TT.ok 29 (by decide)).kp⟩
  have To_NoStop : OexC K (errA 30) := ⟨ex_NoStop, (TT.ok 30 (by decide)).sa, (TT.ok 30 (by decide)).sb, (TT.ok 30 (by decide)).ty, (TT.ok 30 (by decide)).kp⟩
  have To_NotSafe : OexC K (errA 31) := ⟨ex_NotSafe, (TT.ok 31 (by decide)).sa, (TT.ok 31 (by decide)).sb, (TT.ok 31 (by decide)).ty, (TT.ok 31 (by decide)).kp⟩
  have To_NoDeed : OexC K (errA 32) := ⟨ex_NoDeed, (TT.ok 32 (by decide)).sa, (TT.ok 32 (by decide)).sb, (TT.ok 32 (by decide)).ty, (TT.ok 32 (by decide)).kp⟩
  have To_NoContents : OexC K (errA 33) := ⟨ex_NoContents, (TT.ok 33 (by decide)).sa, (TT.ok 33 (by decide)).sb, (TT.ok 33 (by decide)).ty, (TT.ok 33 (by decide)).kp⟩
  have To_NoMirrors : OexC K (errA 34) := ⟨ex_NoMirrors, (TT.ok 34 (by decide)).sa, (TT.ok 34 (by decide)).sb, (TT.ok 34 (by decide)).ty, (TT.ok 34 (by decide)).kp⟩
  have To_NoManifest : OexC K (errA 35) := ⟨ex_NoManifest, (TT.ok 35 (by decide)).sa, (TT.ok 35 (by decide)).sb, (TT.ok 35 (by decide)).ty, (TT.ok 35 (by decide)).kp⟩
  have To_NotFetched : OexC K (errA 36) := ⟨ex_NotFetched, (TT.ok 36 (by decide)).sa, (TT.ok 36 (by decide)).sb, (TT.ok 36 (by decide)).ty, (TT.ok 36 (by decide)).kp⟩
  have To_NoBuild : OexC K (errA 37) := ⟨ex_NoBuild, (TT.ok 37 (by decide)).sa, (TT.ok 37 (by decide)).sb, (TT.ok 37 (by decide)).ty, (TT.ok 37 (by decide)).kp⟩
  have To_Ringed : OexC K (errA 38) := ⟨ex_Ringed, (TT.ok 38 (by decide)).sa, (TT.ok 38 (by decide)).sb, (TT.ok 38 (by decide)).ty, (TT.ok 38 (by decide)).kp⟩
  have To_NoMachine : OexC K (errA 39) := ⟨ex_NoMachine, (TT.ok 39 (by decide)).sa, (TT.ok 39 (by decide)).sb, (TT.ok 39 (by decide)).ty, (TT.ok 39 (by decide)).kp⟩
  have To_NoRollout : OexC K (errA 40) := ⟨ex_NoRollout, (TT.ok 40 (by decide)).sa, (TT.ok 40 (by decide)).sb, (TT.ok 40 (by decide)).ty, (TT.ok 40 (by decide)).kp⟩
  letI : TabCtx := ⟨[], []⟩
  have GG : Glob K mg := ⟨PySem.W.mg_of X G ea_BadBook,
    PySem.W.mg_of X G ea_BadEntry,
    PySem.W.mg_of X G ea_BadLine,
    PySem.W.mg_of X G ea_BadQuestion,
    PySem.W.mg_of X G ea_BadStep,
    PySem.W.mg_of X G ea_BadTask,
    PySem.W.mg_of X G ea_BadText,
    PySem.W.mg_of X G ea_Book,
    PySem.W.mg_of X G ea_LockError,
    PySem.W.mg_of X G ea_NoBuild,
    PySem.W.mg_of X G ea_NoContents,
    PySem.W.mg_of X G ea_NoDeed,
    PySem.W.mg_of X G ea_NoEntry,
    PySem.W.mg_of X G ea_NoFeatures,
    PySem.W.mg_of X G ea_NoGivens,
    PySem.W.mg_of X G ea_NoLiteral,
    PySem.W.mg_of X G ea_NoMachine,
    PySem.W.mg_of X G ea_NoManifest,
    PySem.W.mg_of X G ea_NoMirrors,
    PySem.W.mg_of X G ea_NoName,
    PySem.W.mg_of X G ea_NoNumber,
    PySem.W.mg_of X G ea_NoPaper,
    PySem.W.mg_of X G ea_NoRollout,
    PySem.W.mg_of X G ea_NoSource,
    PySem.W.mg_of X G ea_NoSources,
    PySem.W.mg_of X G ea_NoStand,
    PySem.W.mg_of X G ea_NoStart,
    PySem.W.mg_of X G ea_NoStop,
    PySem.W.mg_of X G ea_NoText,
    PySem.W.mg_of X G ea_NotClosed,
    PySem.W.mg_of X G ea_NotEntry,
    PySem.W.mg_of X G ea_NotFetched,
    PySem.W.mg_of X G ea_NotFirst,
    PySem.W.mg_of X G ea_NotFitting,
    PySem.W.mg_of X G ea_NotGiven,
    PySem.W.mg_of X G ea_NotQuestion,
    PySem.W.mg_of X G ea_NotRight,
    PySem.W.mg_of X G ea_NotSafe,
    PySem.W.mg_of X G ea_NotThere,
    PySem.W.mg_of X G ea_NothingDone,
    PySem.W.mg_of X G ea_Ringed,
    PySem.W.mg_of X G ea_TooMany,
    PySem.W.exm_ref (TT.ok 0 (by decide)).sb (TT.ok 0 (by decide)).hd (TT.ok 0 (by decide)).ty (TT.up 4 (ems_mem (by decide) (by decide))),
    PySem.W.exm_ref (TT.ok 0 (by decide)).sb (TT.ok 0 (by decide)).hd (TT.ok 0 (by decide)).ty (TT.up 1 (ems_mem (by decide) (by decide))),
    PySem.W.exm_ref (TT.ok 0 (by decide)).sb (TT.ok 0 (by decide)).hd (TT.ok 0 (by decide)).ty (TT.up 9 (ems_mem (by decide) (by decide))),
    PySem.W.exm_ref (TT.ok 0 (by decide)).sb (TT.ok 0 (by decide)).hd (TT.ok 0 (by decide)).ty (TT.up 38 (ems_mem (by decide) (by decide))),
    TT.erf e_sp e_tk (by decide),
    TT.erf e_sp e_tk (by decide),
    TT.erf e_sp e_tk (by decide),
    TT.erf e_sp e_tk (by decide),
    TT.erf e_sp e_tk (by decide),
    TT.erf e_sp e_tk (by decide),
    TT.erf e_sp e_tk (by decide),
    TT.erf e_sp e_tk (by decide),
    TT.erf e_sp e_tk (by decide),
    TT.erf e_sp e_tk (by decide),
    TT.erf e_sp e_tk (by decide),
    TT.erf e_sp e_tk (by decide),
    TT.erf e_sp e_tk (by decide),
    TT.erf e_sp e_tk (by decide),
    en_BadBook,
    en_BadEntry,
    en_BadLine,
    en_BadQuestion,
    en_BadStep,
    en_BadTask,
    en_BadText,
    en_NoBuild,
    en_NotFetched,
    en_NotFirst,
    en_NotFitting,
    en_NotGiven,
    en_Ringed,
    en_TooMany,
    TT.kit (m := 4) (x := 4) (ems_mem (by decide) (by decide)) (ems_mem (by decide) (by decide)),
    TT.kit (m := 4) (x := 1) (ems_mem (by decide) (by decide)) (ems_mem (by decide) (by decide)),
    TT.kit (m := 4) (x := 9) (ems_mem (by decide) (by decide)) (ems_mem (by decide) (by decide)),
    TT.kit (m := 4) (x := 38) (ems_mem (by decide) (by decide)) (ems_mem (by decide) (by decide)),
    TT.kit (m := 1) (x := 4) (ems_mem (by decide) (by decide)) (ems_mem (by decide) (by decide)),
    TT.kit (m := 1) (x := 1) (ems_mem (by decide) (by decide)) (ems_mem (by decide) (by decide)),
    TT.kit (m := 1) (x := 9) (ems_mem (by decide) (by decide)) (ems_mem (by decide) (by decide)),
    TT.kit (m := 1) (x := 38) (ems_mem (by decide) (by decide)) (ems_mem (by decide) (by decide)),
    TT.kit (m := 9) (x := 4) (ems_mem (by decide) (by decide)) (ems_mem (by decide) (by decide)),
    TT.kit (m := 9) (x := 1) (ems_mem (by decide) (by decide)) (ems_mem (by decide) (by decide)),
    TT.kit (m := 9) (x := 9) (ems_mem (by decide) (by decide)) (ems_mem (by decide) (by decide)),
    TT.kit (m := 9) (x := 38) (ems_mem (by decide) (by decide)) (ems_mem (by decide) (by decide)),
    TT.kit (m := 38) (x := 4) (ems_mem (by decide) (by decide)) (ems_mem (by decide) (by decide)),
    TT.kit (m := 38) (x := 1) (ems_mem (by decide) (by decide)) (ems_mem (by decide) (by decide)),
    TT.kit (m := 38) (x := 9) (ems_mem (by decide) (by decide)) (ems_mem (by decide) (by decide)),
    TT.kit (m := 38) (x := 38) (ems_mem (by decide) (by decide)) (ems_mem (by decide) (by decide)),
    fun q hq => ⟨TT.erf e_sp e_tk (ems_le hq), TT.kit hq (ems_mem (by decide) (by decide))⟩,
    fun q hq => ⟨TT.erf e_sp e_tk (ems_le hq), TT.kit hq (ems_mem (by decide) (by decide))⟩,
    fun q hq => ⟨TT.erf e_sp e_tk (ems_le hq), TT.kit hq (ems_mem (by decide) (by decide))⟩,
    fun q hq => ⟨TT.erf e_sp e_tk (ems_le hq), TT.kit hq (ems_mem (by decide) (by decide))⟩,
    fun q hq => ⟨TT.erf e_sp e_tk (ems_le hq), TT.kit hq (ems_mem (by decide) (by decide))⟩,
    fun q hq => ⟨TT.erf e_sp e_tk (ems_le hq), TT.kit hq (ems_mem (by decide) (by decide))⟩,
    fun q hq => ⟨TT.erf e_sp e_tk (ems_le hq), TT.kit hq (ems_mem (by decide) (by decide))⟩,
    fun q hq => ⟨TT.erf e_sp e_tk (ems_le hq), TT.kit0 hq⟩,
    fun q hq => ⟨TT.erf e_sp e_tk (ems_le hq), TT.kit hq (ems_mem (by decide) (by decide))⟩,
    fun q hq => ⟨TT.erf e_sp e_tk (ems_le hq), TT.kit hq (ems_mem (by decide) (by decide))⟩,
    fun q hq => ⟨TT.erf e_sp e_tk (ems_le hq), TT.kit hq (ems_mem (by decide) (by decide))⟩,
    fun q hq => ⟨TT.erf e_sp e_tk (ems_le hq), TT.kit hq (ems_mem (by decide) (by decide))⟩,
    fun q hq => ⟨TT.erf e_sp e_tk (ems_le hq), TT.kit hq (ems_mem (by decide) (by decide))⟩,
    fun q hq => ⟨TT.erf e_sp e_tk (ems_le hq), TT.kit hq (ems_mem (by decide) (by decide))⟩,
    fun q hq => ⟨TT.erf e_sp e_tk (ems_le hq), TT.kit hq (ems_mem (by decide) (by decide))⟩,
    fun q hq => ⟨TT.erf e_sp e_tk (ems_le hq), TT.kit hq (ems_mem (by decide) (by decide))⟩,
    fun q hq => ⟨TT.erf e_sp e_tk (ems_le hq), TT.kit hq (ems_mem (by decide) (by decide))⟩,
    fun q hq => ⟨TT.erf e_sp e_tk (ems_le hq), TT.kit hq (ems_mem (by decide) (by decide))⟩,
    fun q hq => ⟨TT.erf e_sp e_tk (ems_le hq), TT.kit hq (ems_mem (by decide) (by decide))⟩,
    fun q hq => ⟨TT.erf e_sp e_tk (ems_le hq), TT.kit hq (ems_mem (by decide) (by decide))⟩,
    fun q hq => ⟨TT.erf e_sp e_tk (ems_le hq), TT.kit hq (ems_mem (by decide) (by decide))⟩,
    fun q hq => ⟨TT.erf e_sp e_tk (ems_le hq), TT.kit hq (ems_mem (by decide) (by decide))⟩,
    fun q hq => ⟨TT.erf e_sp e_tk (ems_le hq), TT.kit hq (ems_mem (by decide) (by decide))⟩,
    fun q hq => ⟨TT.erf e_sp e_tk (ems_le hq), TT.kit hq (ems_mem (by decide) (by decide))⟩,
    fun q hq => ⟨TT.erf e_sp e_tk (ems_le hq), TT.kit hq (ems_mem (by decide) (by decide))⟩,
    fun q hq => ⟨TT.erf e_sp e_tk (ems_le hq), TT.kit hq (ems_mem (by decide) (by decide))⟩,
    fun q hq => ⟨TT.erf e_sp e_tk (ems_le hq), TT.kit hq (ems_mem (by decide) (by decide))⟩,
    fun q hq => ⟨TT.erf e_sp e_tk (ems_le hq), TT.kit hq (ems_mem (by decide) (by decide))⟩,
    fun q hq => ⟨TT.erf e_sp e_tk (ems_le hq), TT.kit hq (ems_mem (by decide) (by decide))⟩,
    fun q hq => ⟨TT.erf e_sp e_tk (ems_le hq), TT.kit hq (ems_mem (by decide) (by decide))⟩,
    fun q hq => ⟨TT.erf e_sp e_tk (ems_le hq), TT.kit hq (ems_mem (by decide) (by decide))⟩,
    fun q hq => ⟨TT.erf e_sp e_tk (ems_le hq), TT.kit hq (ems_mem (by decide) (by decide))⟩,
    fun q hq => ⟨TT.erf e_sp e_tk (ems_le hq), TT.kit hq (ems_mem (by decide) (by decide))⟩,
    fun q hq => ⟨TT.erf e_sp e_tk (ems_le hq), TT.kit hq (ems_mem (by decide) (by decide))⟩,
    fun q hq => ⟨TT.erf e_sp e_tk (ems_le hq), TT.kit hq (ems_mem (by decide) (by decide))⟩,
    fun q hq => ⟨TT.erf e_sp e_tk (ems_le hq), TT.kit hq (ems_mem (by decide) (by decide))⟩,
    fun q hq => ⟨TT.erf e_sp e_tk (ems_le hq), TT.kit hq (ems_mem (by decide) (by decide))⟩,
    fun q hq => ⟨TT.erf e_sp e_tk (ems_le hq), TT.kit hq (ems_mem (by decide) (by decide))⟩,
    fun q hq => ⟨TT.erf e_sp e_tk (ems_le hq), TT.kit hq (ems_mem (by decide) (by decide))⟩,
    fun q hq => ⟨TT.erf e_sp e_tk (ems_le hq), TT.kit hq (ems_mem (by decide) (by decide))⟩,
    fun q hq => ⟨TT.erf e_sp e_tk (ems_le hq), TT.kit hq (ems_mem (by decide) (by decide))⟩,
    fun q hq => ⟨TT.erf e_sp e_tk (ems_le hq), TT.kitV hq⟩,
    ⟨⟨bg_Book, bh_Book, bo_Book, bs_Book⟩, bc_Book, e_sp, e_tk, bm_Book, bi_Book, bt_Book⟩,
    ⟨⟨bg_Book, bh_Book, bo_Book, bs_Book⟩, bc_Book, e_sp, e_tk, bm_Book, kit_own bh_Book bt_Book be_Book be_Book⟩,
    ⟨PySem.W.mg_of X G ea_Book, bk_Book, bp_Book⟩,
    bn_Book_entries,
    bn_Book_places,
    def_mk X G a_is_tuple_within l_is_tuple_within q_is_tuple_within k_is_tuple_within (fun _ _ _ _ _ _ us hl => match us, hl with | [_, _], _ => rfl),
    def_mk X G a_wrong_entry l_wrong_entry q_wrong_entry k_wrong_entry (fun _ _ _ _ _ _ us hl => match us, hl with | [_], _ => rfl),
    def_mk X G a__law_hand l__law_hand q__law_hand k__law_hand (fun _ _ _ _ _ _ us hl => match us, hl with | [_], _ => rfl),
    def_mk X G a__law_draw l__law_draw q__law_draw k__law_draw (fun _ _ _ _ _ _ us hl => match us, hl with | [_, _], _ => rfl),
    def_mk X G a__law_some l__law_some q__law_some k__law_some (fun _ _ _ _ _ _ us hl => match us, hl with | [_, _], _ => rfl),
    def_mk X G a__law_is l__law_is q__law_is k__law_is (fun _ _ _ _ _ _ us hl => match us, hl with | [_, _], _ => rfl),
    def_mk X G a__law_deep l__law_deep q__law_deep k__law_deep (fun _ _ _ _ _ _ us hl => match us, hl with | [_], _ => rfl),
    def_mk X G a__law_first_classes l__law_first_classes q__law_first_classes k__law_first_classes (fun _ _ _ _ _ _ us hl => match us, hl with | [_], _ => rfl),
    def_mk X G a__law_classes l__law_classes q__law_classes k__law_classes (fun _ _ _ _ _ _ us hl => match us, hl with | [_], _ => rfl),
    def_mk X G a__law_field l__law_field q__law_field k__law_field (fun _ _ _ _ _ _ us hl => match us, hl with | [_, _], _ => rfl),
    def_mk X G a__law_raised l__law_raised q__law_raised k__law_raised (fun _ _ _ _ _ _ us hl => match us, hl with | [_, _], _ => rfl),
    def_mk X G a__law_right l__law_right q__law_right k__law_right (fun _ _ _ _ _ _ us hl => match us, hl with | [_, _, _], _ => rfl),
    def_mk X G a_law l_law q_law k_law (fun _ _ _ _ _ _ us hl => match us, hl with | [_], _ => rfl),
    ⟨f_Book___init__, _, (fun_mk (st := S_Book___init__) l_Book___init__ q_Book___init__ k_Book___init__), ⟨a_Book___init__, i_Book___init__, k_Book___init__⟩, (fun_mk (st := S_Book___init__) l_Book___init__ q_Book___init__ k_Book___init__).binds (fun _ _ _ _ _ _ us hl => match us, hl with | [_, _], _ => rfl)⟩,
    ⟨f_Book___eq__, _, (fun_mk (st := S_Book___eq__) l_Book___eq__ q_Book___eq__ k_Book___eq__), ⟨a_Book___eq__, i_Book___eq__, k_Book___eq__⟩, (fun_mk (st := S_Book___eq__) l_Book___eq__ q_Book___eq__ k_Book___eq__).binds (fun _ _ _ _ _ _ us hl => match us, hl with | [_, _], _ => rfl)⟩,
    PySem.W.mg_none_of X G z_ValueError,
    PySem.W.mg_none_of X G z_abs,
    PySem.W.mg_none_of X G z_all,
    PySem.W.mg_none_of X G z_bool,
    PySem.W.mg_none_of X G z_dict,
    PySem.W.mg_none_of X G z_enumerate,
    PySem.W.mg_none_of X G z_int,
    PySem.W.mg_none_of X G z_isinstance,
    PySem.W.mg_none_of X G z_len,
    PySem.W.mg_none_of X G z_list,
    PySem.W.mg_none_of X G z_range,
    PySem.W.mg_none_of X G z_tuple,
    Cst.of (PySem.W.mg_of X G n_ENTRIES_MOST) r_ENTRIES_MOST⟩
  have FL := fun_mk (st := S_law) l_law q_law k_law
  refine law_at (fd := PySem.W.fnOf "law" "law" (defArgs S_law) (defBody S_law) (defScope S_law) .none kV_law dc_law pm_law an_law cd_law ct_law) [] [] (fun _ z => nomatch z) (fun _ z => nomatch z) (fun _ z => nomatch z) (fun _ z => nomatch z) (fun s u => .of_eq rfl) fun base _ _ TT => ?_
  have E_BadText : Er1 l.prog w K mg base 1 "BadText" "index" := ⟨PySem.W.mg_of X G ea_BadText, To_BadText, fi_BadText, _, ei_BadText, ej_BadText, init1_ok (fun_mk (st := SI_BadText) el_BadText eq_BadText er_BadText) sci_BadText rfl To_BadText en_BadText (by decide) (by decide) (by first | exact Or.inl rfl | exact Or.inr (Or.inl rfl) | exact Or.inr (Or.inr rfl)) (by first | exact Or.inl rfl | exact Or.inr (Or.inl rfl) | exact Or.inr (Or.inr rfl)) (fun _ => rfl), (fun_mk (st := SI_BadText) el_BadText eq_BadText er_BadText).binds fun _ _ _ _ _ _ us hl => match us, hl with | [_, _], _ => rfl⟩
  have E_BadEntry : Er1 l.prog w K mg base 2 "BadEntry" "part" := ⟨PySem.W.mg_of X G ea_BadEntry, To_BadEntry, fi_BadEntry, _, ei_BadEntry, ej_BadEntry, init1_ok (fun_mk (st := SI_BadEntry) el_BadEntry eq_BadEntry er_BadEntry) sci_BadEntry rfl To_BadEntry en_BadEntry (by decide) (by decide) (by first | exact Or.inl rfl | exact Or.inr (Or.inl rfl) | exact Or.inr (Or.inr rfl)) (by first | exact Or.inl rfl | exact Or.inr (Or.inl rfl) | exact Or.inr (Or.inr rfl)) (fun _ => rfl), (fun_mk (st := SI_BadEntry) el_BadEntry eq_BadEntry er_BadEntry).binds fun _ _ _ _ _ _ us hl => match us, hl with | [_, _], _ => rfl⟩
  have E_BadBook : Er1 l.prog w K mg base 3 "BadBook" "index" := ⟨PySem.W.mg_of X G ea_BadBook, To_BadBook, fi_BadBook, _, ei_BadBook, ej_BadBook, init1_ok (fun_mk (st := SI_BadBook) el_BadBook eq_BadBook er_BadBook) sci_BadBook rfl To_BadBook en_BadBook (by decide) (by decide) (by first | exact Or.inl rfl | exact Or.inr (Or.inl rfl) | exact Or.inr (Or.inr rfl)) (by first | exact Or.inl rfl | exact Or.inr (Or.inl rfl) | exact Or.inr (Or.inr rfl)) (fun _ => rfl), (fun_mk (st := SI_BadBook) el_BadBook eq_BadBook er_BadBook).binds fun _ _ _ _ _ _ us hl => match us, hl with | [_, _], _ => rfl⟩
  have E_BadLine : Er1 l.prog w K mg base 4 "BadLine" "number" := ⟨PySem.W.mg_of X G ea_BadLine, To_BadLine, fi_BadLine, _, ei_BadLine, ej_BadLine, init1_ok (fun_mk (st := SI_BadLine) el_BadLine eq_BadLine er_BadLine) sci_BadLine rfl To_BadLine en_BadLine (by decide) (by decide) (by first | exact Or.inl rfl | exact Or.inr (Or.inl rfl) | exact Or.inr (Or.inr rfl)) (by first | exact Or.inl rfl | exact Or.inr (Or.inl rfl) | exact Or.inr (Or.inr rfl)) (fun _ => rfl), (fun_mk (st := SI_BadLine) el_BadLine eq_BadLine er_BadLine).binds fun _ _ _ _ _ _ us hl => match us, hl with | [_, _], _ => rfl⟩
  have E_BadQuestion : Er1 l.prog w K mg base 5 "BadQuestion" "part" := ⟨PySem.W.mg_of X G ea_BadQuestion, To_BadQuestion, fi_BadQuestion, _, ei_BadQuestion, ej_BadQuestion, init1_ok (fun_mk (st := SI_BadQuestion) el_BadQuestion eq_BadQuestion er_BadQuestion) sci_BadQuestion rfl To_BadQuestion en_BadQuestion (by decide) (by decide) (by first | exact Or.inl rfl | exact Or.inr (Or.inl rfl) | exact Or.inr (Or.inr rfl)) (by first | exact Or.inl rfl | exact Or.inr (Or.inl rfl) | exact Or.inr (Or.inr rfl)) (fun _ => rfl), (fun_mk (st := SI_BadQuestion) el_BadQuestion eq_BadQuestion er_BadQuestion).binds fun _ _ _ _ _ _ us hl => match us, hl with | [_, _], _ => rfl⟩
  have E_BadTask : Er1 l.prog w K mg base 6 "BadTask" "part" := ⟨PySem.W.mg_of X G ea_BadTask, To_BadTask, fi_BadTask, _, ei_BadTask, ej_BadTask, init1_ok (fun_mk (st := SI_BadTask) el_BadTask eq_BadTask er_BadTask) sci_BadTask rfl To_BadTask en_BadTask (by decide) (by decide) (by first | exact Or.inl rfl | exact Or.inr (Or.inl rfl) | exact Or.inr (Or.inr rfl)) (by first | exact Or.inl rfl | exact Or.inr (Or.inl rfl) | exact Or.inr (Or.inr rfl)) (fun _ => rfl), (fun_mk (st := SI_BadTask) el_BadTask eq_BadTask er_BadTask).binds fun _ _ _ _ _ _ us hl => match us, hl with | [_, _], _ => rfl⟩
  have E_BadStep : Er1 l.prog w K mg base 7 "BadStep" "number" := ⟨PySem.W.mg_of X G ea_BadStep, To_BadStep, fi_BadStep, _, ei_BadStep, ej_BadStep, init1_ok (fun_mk (st := SI_BadStep) el_BadStep eq_BadStep er_BadStep) sci_BadStep rfl To_BadStep en_BadStep (by decide) (by decide) (by first | exact Or.inl rfl | exact Or.inr (Or.inl rfl) | exact Or.inr (Or.inr rfl)) (by first | exact Or.inl rfl | exact Or.inr (Or.inl rfl) | exact Or.inr (Or.inr rfl)) (fun _ => rfl), (fun_mk (st := SI_BadStep) el_BadStep eq_BadStep er_BadStep).binds fun _ _ _ _ _ _ us hl => match us, hl with | [_, _], _ => rfl⟩
  have E_TooMany : Er1 l.prog w K mg base 8 "TooMany" "most" := ⟨PySem.W.mg_of X G ea_TooMany, To_TooMany, fi_TooMany, _, ei_TooMany, ej_TooMany, init1_ok (fun_mk (st := SI_TooMany) el_TooMany eq_TooMany er_TooMany) sci_TooMany rfl To_TooMany en_TooMany (by decide) (by decide) (by first | exact Or.inl rfl | exact Or.inr (Or.inl rfl) | exact Or.inr (Or.inr rfl)) (by first | exact Or.inl rfl | exact Or.inr (Or.inl rfl) | exact Or.inr (Or.inr rfl)) (fun _ => rfl), (fun_mk (st := SI_TooMany) el_TooMany eq_TooMany er_TooMany).binds fun _ _ _ _ _ _ us hl => match us, hl with | [_, _], _ => rfl⟩
  have E_NotFitting : Er1 l.prog w K mg base 9 "NotFitting" "source" := ⟨PySem.W.mg_of X G ea_NotFitting, To_NotFitting, fi_NotFitting, _, ei_NotFitting, ej_NotFitting, init1_ok (fun_mk (st := SI_NotFitting) el_NotFitting eq_NotFitting er_NotFitting) sci_NotFitting rfl To_NotFitting en_NotFitting (by decide) (by decide) (by first | exact Or.inl rfl | exact Or.inr (Or.inl rfl) | exact Or.inr (Or.inr rfl)) (by first | exact Or.inl rfl | exact Or.inr (Or.inl rfl) | exact Or.inr (Or.inr rfl)) (fun _ => rfl), (fun_mk (st := SI_NotFitting) el_NotFitting eq_NotFitting er_NotFitting).binds fun _ _ _ _ _ _ us hl => match us, hl with | [_, _], _ => rfl⟩
  have E_NotGiven : Er1 l.prog w K mg base 10 "NotGiven" "literal" := ⟨PySem.W.mg_of X G ea_NotGiven, To_NotGiven, fi_NotGiven, _, ei_NotGiven, ej_NotGiven, init1_ok (fun_mk (st := SI_NotGiven) el_NotGiven eq_NotGiven er_NotGiven) sci_NotGiven rfl To_NotGiven en_NotGiven (by decide) (by decide) (by first | exact Or.inl rfl | exact Or.inr (Or.inl rfl) | exact Or.inr (Or.inr rfl)) (by first | exact Or.inl rfl | exact Or.inr (Or.inl rfl) | exact Or.inr (Or.inr rfl)) (fun _ => rfl), (fun_mk (st := SI_NotGiven) el_NotGiven eq_NotGiven er_NotGiven).binds fun _ _ _ _ _ _ us hl => match us, hl with | [_, _], _ => rfl⟩
  have E_NotFirst : Er1 l.prog w K mg base 11 "NotFirst" "place" := ⟨PySem.W.mg_of X G ea_NotFirst, To_NotFirst, fi_NotFirst, _, ei_NotFirst, ej_NotFirst, init1_ok (fun_mk (st := SI_NotFirst) el_NotFirst eq_NotFirst er_NotFirst) sci_NotFirst rfl To_NotFirst en_NotFirst (by decide) (by decide) (by first | exact Or.inl rfl | exact Or.inr (Or.inl rfl) | exact Or.inr (Or.inr rfl)) (by first | exact Or.inl rfl | exact Or.inr (Or.inl rfl) | exact Or.inr (Or.inr rfl)) (fun _ => rfl), (fun_mk (st := SI_NotFirst) el_NotFirst eq_NotFirst er_NotFirst).binds fun _ _ _ _ _ _ us hl => match us, hl with | [_, _], _ => rfl⟩
  have E_NoFeatures : Er0 l.prog w K mg base 12 "NoFeatures" := ⟨PySem.W.mg_of X G ea_NoFeatures, To_NoFeatures, fi_LockError, _, ei_NoFeatures, ej_LockError, init0_ok (fun_mk (st := SI_LockError) el_LockError eq_LockError er_LockError) sci_LockError rfl, (fun_mk (st := SI_LockError) el_LockError eq_LockError er_LockError).binds fun _ _ _ _ _ _ us hl => match us, hl with | [_], _ => rfl⟩
  have E_NoEntry : Er0 l.prog w K mg base 13 "NoEntry" := ⟨PySem.W.mg_of X G ea_NoEntry, To_NoEntry, fi_LockError, _, ei_NoEntry, ej_LockError, init0_ok (fun_mk (st := SI_LockError) el_LockError eq_LockError er_LockError) sci_LockError rfl, (fun_mk (st := SI_LockError) el_LockError eq_LockError er_LockError).binds fun _ _ _ _ _ _ us hl => match us, hl with | [_], _ => rfl⟩
  have E_NotRight : Er0 l.prog w K mg base 14 "NotRight" := ⟨PySem.W.mg_of X G ea_NotRight, To_NotRight, fi_LockError, _, ei_NotRight, ej_LockError, init0_ok (fun_mk (st := SI_LockError) el_LockError eq_LockError er_LockError) sci_LockError rfl, (fun_mk (st := SI_LockError) el_LockError eq_LockError er_LockError).binds fun _ _ _ _ _ _ us hl => match us, hl with | [_], _ => rfl⟩
  have E_NotThere : Er0 l.prog w K mg base 15 "NotThere" := ⟨PySem.W.mg_of X G ea_NotThere, To_NotThere, fi_LockError, _, ei_NotThere, ej_LockError, init0_ok (fun_mk (st := SI_LockError) el_LockError eq_LockError er_LockError) sci_LockError rfl, (fun_mk (st := SI_LockError) el_LockError eq_LockError er_LockError).binds fun _ _ _ _ _ _ us hl => match us, hl with | [_], _ => rfl⟩
  have E_NotClosed : Er0 l.prog w K mg base 16 "NotClosed" := ⟨PySem.W.mg_of X G ea_NotClosed, To_NotClosed, fi_LockError, _, ei_NotClosed, ej_LockError, init0_ok (fun_mk (st := SI_LockError) el_LockError eq_LockError er_LockError) sci_LockError rfl, (fun_mk (st := SI_LockError) el_LockError eq_LockError er_LockError).binds fun _ _ _ _ _ _ us hl => match us, hl with | [_], _ => rfl⟩
  have E_NoSource : Er0 l.prog w K mg base 17 "NoSource" := ⟨PySem.W.mg_of X G ea_NoSource, To_NoSource, fi_LockError, _, ei_NoSource, ej_LockError, init0_ok (fun_mk (st := SI_LockError) el_LockError eq_LockError er_LockError) sci_LockError rfl, (fun_mk (st := SI_LockError) el_LockError eq_LockError er_LockError).binds fun _ _ _ _ _ _ us hl => match us, hl with | [_], _ => rfl⟩
  have E_NoStand : Er0 l.prog w K mg base 18 "NoStand" := ⟨PySem.W.mg_of X G ea_NoStand, To_NoStand, fi_LockError, _, ei_NoStand, ej_LockError, init0_ok (fun_mk (st := SI_LockError) el_LockError eq_LockError er_LockError) sci_LockError rfl, (fun_mk (st := SI_LockError) el_LockError eq_LockError er_LockError).binds fun _ _ _ _ _ _ us hl => match us, hl with | [_], _ => rfl⟩
  have E_NoGivens : Er0 l.prog w K mg base 19 "NoGivens" := ⟨PySem.W.mg_of X G ea_NoGivens, To_NoGivens, fi_LockError, _, ei_NoGivens, ej_LockError, init0_ok (fun_mk (st := SI_LockError) el_LockError eq_LockError er_LockError) sci_LockError rfl, (fun_mk (st := SI_LockError) el_LockError eq_LockError er_LockError).binds fun _ _ _ _ _ _ us hl => match us, hl with | [_], _ => rfl⟩
  have E_NoLiteral : Er0 l.prog w K mg base 20 "NoLiteral" := ⟨PySem.W.mg_of X G ea_NoLiteral, To_NoLiteral, fi_LockError, _, ei_NoLiteral, ej_LockError, init0_ok (fun_mk (st := SI_LockError) el_LockError eq_LockError er_LockError) sci_LockError rfl, (fun_mk (st := SI_LockError) el_LockError eq_LockError er_LockError).binds fun _ _ _ _ _ _ us hl => match us, hl with | [_], _ => rfl⟩
  have E_NoPaper : Er0 l.prog w K mg base 21 "NoPaper" := ⟨PySem.W.mg_of X G ea_NoPaper, To_NoPaper, fi_LockError, _, ei_NoPaper, ej_LockError, init0_ok (fun_mk (st := SI_LockError) el_LockError eq_LockError er_LockError) sci_LockError rfl, (fun_mk (st := SI_LockError) el_LockError eq_LockError er_LockError).binds fun _ _ _ _ _ _ us hl => match us, hl with | [_], _ => rfl⟩
  have E_NoSources : Er0 l.prog w K mg base 22 "NoSources" := ⟨PySem.W.mg_of X G ea_NoSources, To_NoSources, fi_LockError, _, ei_NoSources, ej_LockError, init0_ok (fun_mk (st := SI_LockError) el_LockError eq_LockError er_LockError) sci_LockError rfl, (fun_mk (st := SI_LockError) el_LockError eq_LockError er_LockError).binds fun _ _ _ _ _ _ us hl => match us, hl with | [_], _ => rfl⟩
  have E_NoName : Er0 l.prog w K mg base 23 "NoName" := ⟨PySem.W.mg_of X G ea_NoName, To_NoName, fi_LockError, _, ei_NoName, ej_LockError, init0_ok (fun_mk (st := SI_LockError) el_LockError eq_LockError er_LockError) sci_LockError rfl, (fun_mk (st := SI_LockError) el_LockError eq_LockError er_LockError).binds fun _ _ _ _ _ _ us hl => match us, hl with | [_], _ => rfl⟩
  have E_NoNumber : Er0 l.prog w K mg base 24 "NoNumber" := ⟨PySem.W.mg_of X G ea_NoNumber, To_NoNumber, fi_LockError, _, ei_NoNumber, ej_LockError, init0_ok (fun_mk (st := SI_LockError) el_LockError eq_LockError er_LockError) sci_LockError rfl, (fun_mk (st := SI_LockError) el_LockError eq_LockError er_LockError).binds fun _ _ _ _ _ _ us hl => match us, hl with | [_], _ => rfl⟩
  have E_NotEntry : Er0 l.prog w K mg base 25 "NotEntry" := ⟨PySem.W.mg_of X G ea_NotEntry, To_NotEntry, fi_LockError, _, ei_NotEntry, ej_LockError, init0_ok (fun_mk (st := SI_LockError) el_LockError eq_LockError er_LockError) sci_LockError rfl, (fun_mk (st := SI_LockError) el_LockError eq_LockError er_LockError).binds fun _ _ _ _ _ _ us hl => match us, hl with | [_], _ => rfl⟩
  have E_NotQuestion : Er0 l.prog w K mg base 26 "NotQuestion" := ⟨PySem.W.mg_of X G ea_NotQuestion, To_NotQuestion, fi_LockError, _, ei_NotQuestion, ej_LockError, init0_ok (fun_mk (st := SI_LockError) el_LockError eq_LockError er_LockError) sci_LockError rfl, (fun_mk (st := SI_LockError) el_LockError eq_LockError er_LockError).binds fun _ _ _ _ _ _ us hl => match us, hl with | [_], _ => rfl⟩
  have E_NothingDone : Er0 l.prog w K mg base 27 "NothingDone" := ⟨PySem.W.mg_of X G ea_NothingDone, To_NothingDone, fi_LockError, _, ei_NothingDone, ej_LockError, init0_ok (fun_mk (st := SI_LockError) el_LockError eq_LockError er_LockError) sci_LockError rfl, (fun_mk (st := SI_LockError) el_LockError eq_LockError er_LockError).binds fun _ _ _ _ _ _ us hl => match us, hl with | [_], _ => rfl⟩
  have E_NoText : Er0 l.prog w K mg base 28 "NoText" := ⟨PySem.W.mg_of X G ea_NoText, To_NoText, fi_LockError, _, ei_NoText, ej_LockError, init0_ok (fun_mk (st := SI_LockError) el_LockError eq_LockError er_LockError) sci_LockError rfl, (fun_mk (st := SI_LockError) el_LockError eq_LockError er_LockError).binds fun _ _ _ _ _ _ us hl => match us, hl with | [_], _ => rfl⟩
  have E_NoStart : Er0 l.prog w K mg base 29 "NoStart" := ⟨PySem.W.mg_of X G ea_NoStart, To_NoStart, fi_LockError, _, ei_NoStart, ej_LockError, init0_ok (fun_mk (st := SI_LockError) el_LockError eq_LockError er_LockError) sci_LockError rfl, (fun_mk (st := SI_LockError) el_LockError eq_LockError er_LockError).binds fun _ _ _ _ _ _ us hl => match us, hl with | [_], _ => rfl⟩
  have E_NoStop : Er0 l.prog w K mg base 30 "NoStop" := ⟨PySem.W.mg_of X G ea_NoStop, To_NoStop, fi_LockError, _, ei_NoStop, ej_LockError, init0_ok (fun_mk (st := SI_LockError) el_LockError eq_LockError er_LockError) sci_LockError rfl, (fun_mk (st := SI_LockError) el_LockError eq_LockError er_LockError).binds fun _ _ _ _ _ _ us hl => match us, hl with | [_], _ => rfl⟩
  have E_NotSafe : Er0 l.prog w K mg base 31 "NotSafe" := ⟨PySem.W.mg_of X G ea_NotSafe, To_NotSafe, fi_LockError, _, ei_NotSafe, ej_LockError, init0_ok (fun_mk (st := SI_LockError) el_LockError eq_LockError er_LockError) sci_LockError rfl, (fun_mk (st := SI_LockError) el_LockError eq_LockError er_LockError).binds fun _ _ _ _ _ _ us hl => match us, hl with | [_], _ => rfl⟩
  have E_NoDeed : Er0 l.prog w K mg base 32 "NoDeed" := ⟨PySem.W.mg_of X G ea_NoDeed, To_NoDeed, fi_LockError, _, ei_NoDeed, ej_LockError, init0_ok (fun_mk (st := SI_LockError) el_LockError eq_LockError er_LockError) sci_LockError rfl, (fun_mk (st := SI_LockError) el_LockError eq_LockError er_LockError).binds fun _ _ _ _ _ _ us hl => match us, hl with | [_], _ => rfl⟩
  have E_NoContents : Er0 l.prog w K mg base 33 "NoContents" := ⟨PySem.W.mg_of X G ea_NoContents, To_NoContents, fi_LockError, _, ei_NoContents, ej_LockError, init0_ok (fun_mk (st := SI_LockError) el_LockError eq_LockError er_LockError) sci_LockError rfl, (fun_mk (st := SI_LockError) el_LockError eq_LockError er_LockError).binds fun _ _ _ _ _ _ us hl => match us, hl with | [_], _ => rfl⟩
  have E_NoMirrors : Er0 l.prog w K mg base 34 "NoMirrors" := ⟨PySem.W.mg_of X G ea_NoMirrors, To_NoMirrors, fi_LockError, _, ei_NoMirrors, ej_LockError, init0_ok (fun_mk (st := SI_LockError) el_LockError eq_LockError er_LockError) sci_LockError rfl, (fun_mk (st := SI_LockError) el_LockError eq_LockError er_LockError).binds fun _ _ _ _ _ _ us hl => match us, hl with | [_], _ => rfl⟩
  have E_NoManifest : Er0 l.prog w K mg base 35 "NoManifest" := ⟨PySem.W.mg_of X G ea_NoManifest, To_NoManifest, fi_LockError, _, ei_NoManifest, ej_LockError, init0_ok (fun_mk (st := SI_LockError) el_LockError eq_LockError er_LockError) sci_LockError rfl, (fun_mk (st := SI_LockError) el_LockError eq_LockError er_LockError).binds fun _ _ _ _ _ _ us hl => match us, hl with | [_], _ => rfl⟩
  have E_NotFetched : Er1 l.prog w K mg base 36 "NotFetched" "pair" := ⟨PySem.W.mg_of X G ea_NotFetched, To_NotFetched, fi_NotFetched, _, ei_NotFetched, ej_NotFetched, init1_ok (fun_mk (st := SI_NotFetched) el_NotFetched eq_NotFetched er_NotFetched) sci_NotFetched rfl To_NotFetched en_NotFetched (by decide) (by decide) (by first | exact Or.inl rfl | exact Or.inr (Or.inl rfl) | exact Or.inr (Or.inr rfl)) (by first | exact Or.inl rfl | exact Or.inr (Or.inl rfl) | exact Or.inr (Or.inr rfl)) (fun _ => rfl), (fun_mk (st := SI_NotFetched) el_NotFetched eq_NotFetched er_NotFetched).binds fun _ _ _ _ _ _ us hl => match us, hl with | [_, _], _ => rfl⟩
  have E_NoBuild : Er1 l.prog w K mg base 37 "NoBuild" "name" := ⟨PySem.W.mg_of X G ea_NoBuild, To_NoBuild, fi_NoBuild, _, ei_NoBuild, ej_NoBuild, init1_ok (fun_mk (st := SI_NoBuild) el_NoBuild eq_NoBuild er_NoBuild) sci_NoBuild rfl To_NoBuild en_NoBuild (by decide) (by decide) (by first | exact Or.inl rfl | exact Or.inr (Or.inl rfl) | exact Or.inr (Or.inr rfl)) (by first | exact Or.inl rfl | exact Or.inr (Or.inl rfl) | exact Or.inr (Or.inr rfl)) (fun _ => rfl), (fun_mk (st := SI_NoBuild) el_NoBuild eq_NoBuild er_NoBuild).binds fun _ _ _ _ _ _ us hl => match us, hl with | [_, _], _ => rfl⟩
  have E_Ringed : Er1 l.prog w K mg base 38 "Ringed" "names" := ⟨PySem.W.mg_of X G ea_Ringed, To_Ringed, fi_Ringed, _, ei_Ringed, ej_Ringed, init1_ok (fun_mk (st := SI_Ringed) el_Ringed eq_Ringed er_Ringed) sci_Ringed rfl To_Ringed en_Ringed (by decide) (by decide) (by first | exact Or.inl rfl | exact Or.inr (Or.inl rfl) | exact Or.inr (Or.inr rfl)) (by first | exact Or.inl rfl | exact Or.inr (Or.inl rfl) | exact Or.inr (Or.inr rfl)) (fun _ => rfl), (fun_mk (st := SI_Ringed) el_Ringed eq_Ringed er_Ringed).binds fun _ _ _ _ _ _ us hl => match us, hl with | [_, _], _ => rfl⟩
  have E_NoMachine : Er0 l.prog w K mg base 39 "NoMachine" := ⟨PySem.W.mg_of X G ea_NoMachine, To_NoMachine, fi_LockError, _, ei_NoMachine, ej_LockError, init0_ok (fun_mk (st := SI_LockError) el_LockError eq_LockError er_LockError) sci_LockError rfl, (fun_mk (st := SI_LockError) el_LockError eq_LockError er_LockError).binds fun _ _ _ _ _ _ us hl => match us, hl with | [_], _ => rfl⟩
  have E_NoRollout : Er0 l.prog w K mg base 40 "NoRollout" := ⟨PySem.W.mg_of X G ea_NoRollout, To_NoRollout, fi_LockError, _, ei_NoRollout, ej_LockError, init0_ok (fun_mk (st := SI_LockError) el_LockError eq_LockError er_LockError) sci_LockError rfl, (fun_mk (st := SI_LockError) el_LockError eq_LockError er_LockError).binds fun _ _ _ _ _ _ us hl => match us, hl with | [_], _ => rfl⟩
  have H_is_tuple_within := h_is_tuple_within (P := l.prog) (w := w) (base := base) (k := 0) GG CM.r_is_tuple_within
  have H_wrong_entry := h_wrong_entry (P := l.prog) (w := w) (base := base) (k := 1) GG (H_is_tuple_within.mono (by decide)) CM.r_wrong_entry_k00n
  have H__law_hand := h__law_hand (P := l.prog) (w := w) (base := base) (k := 0) GG CM.r__law_hand
  have H__law_draw := h__law_draw (P := l.prog) (w := w) (base := base) (k := 0) GG CM.r__law_draw
  have H__law_some := h__law_some (P := l.prog) (w := w) (base := base) (k := 1) GG (H__law_draw.mono (by decide)) CM.r__law_some
  have R__law_is : ∀ n, Has l.prog w K mg base (n + 1) "_law_is" 2 (CM.sp_isF n) := fun n => by
    induction n with
    | zero => exact h__law_is (k := 0) GG (has_none GG.d__law_is) (CM.r__law_is_k00n fun m e => (nomatch e))
    | succ n ih => exact h__law_is (k := n + 1) GG ih (CM.r__law_is_k00n fun m e ds st Q Z q => by cases e; exact q)
  have H__law_is := R__law_is 38
  have H__law_deep := h__law_deep (P := l.prog) (w := w) (base := base) (k := 0) GG CM.r__law_deepF
  have H__law_first_classes := h__law_first_classes (P := l.prog) (w := w) (base := base) (k := 0) GG CM.r__law_first_classes
  have H__law_classes := h__law_classes (P := l.prog) (w := w) (base := base) (k := 1) GG (H__law_first_classes.mono (by decide)) CM.r__law_classes
  have H__law_field := h__law_field (P := l.prog) (w := w) (base := base) (k := 0) GG CM.r__law_field
  have H__law_raised := h__law_raised (P := l.prog) (w := w) (base := base) (k := 2) GG E_BadText E_BadLine E_NotFitting E_Ringed (by decide) CM.r__law_raised_k00n
  have H__law_right := h__law_right (P := l.prog) (w := w) (base := base) (k := 39) GG (H__law_is.mono (by decide)) (H__law_classes.mono (by decide)) (H__law_field.mono (by decide)) CM.r__law_right
  have H_Book___init__ := h_Book___init__ (P := l.prog) (w := w) (base := base) (k := 2) GG (H_wrong_entry.mono (by decide)) rfl CM.r_Book___init__P_k00n
  have H_Book___eq__ := h_Book___eq__ (P := l.prog) (w := w) (base := base) (k := 0) GG CM.r_Book___eq___k00n
  exact h_law (k := 40) GG FL H_Book___init__ (by decide) (H_Book___eq__.mono (by decide)) (H__law_hand.mono (by decide)) (H__law_draw.mono (by decide)) (H__law_some.mono (by decide)) (H__law_is.mono (by decide)) (H__law_deep.mono (by decide)) (H__law_raised.mono (by decide)) (H__law_right.mono (by decide)) E_BadText E_BadEntry E_BadBook E_BadLine E_BadQuestion E_BadTask E_BadStep E_TooMany E_NotFitting E_NotGiven E_NotFirst E_NoFeatures E_NoEntry E_NotRight E_NotThere E_NotClosed E_NoSource E_NoStand E_NoGivens E_NoLiteral E_NoPaper E_NoSources E_NoName E_NoNumber E_NotEntry E_NotQuestion E_NothingDone E_NoText E_NoStart E_NoStop E_NotSafe E_NoDeed E_NoContents E_NoMirrors E_NoManifest E_NotFetched E_NoBuild E_Ringed E_NoMachine E_NoRollout (by decide) CM.r_law
theorem factsL {l : PySem.W.OpenLaw} {w : World} {K : PySem.W.Frag} {h : Heap} {mg : Str → Option Value} {fa : Addr} (X : K.In h) (G : h.Ns mainGlobals mg) (hfa : mg "law" = some (.ref fa)) (c : HK.SaysK Hdk00.fnL Hdk00.tfL Hdk00.exL h K) : LamX.LawAtS l w K (L2.CX l.prog w) 41 63 "script" mg fa h := by
  obtain ⟨oc_is_tuple_within, od_is_tuple_within, sl_is_tuple_within, kV_is_tuple_within, dc_is_tuple_within, pm_is_tuple_within, an_is_tuple_within, cd_is_tuple_within, ct_is_tuple_within, l_is_tuple_within, q_is_tuple_within⟩ := c.d 0 rfl
  obtain ⟨oc_wrong_entry, od_wrong_entry, sl_wrong_entry, kV_wrong_entry, dc_wrong_entry, pm_wrong_entry, an_wrong_entry, cd_wrong_entry, ct_wrong_entry, l_wrong_entry, q_wrong_entry⟩ := c.d 1 rfl
  obtain ⟨oc__law_hand, od__law_hand, sl__law_hand, kV__law_hand, dc__law_hand, pm__law_hand, an__law_hand, cd__law_hand, ct__law_hand, l__law_hand, q__law_hand⟩ := c.d 2 rfl
  obtain ⟨oc__law_draw, od__law_draw, sl__law_draw, kV__law_draw, dc__law_draw, pm__law_draw, an__law_draw, cd__law_draw, ct__law_draw, l__law_draw, q__law_draw⟩ := c.d 3 rfl
  obtain ⟨oc__law_some, od__law_some, sl__law_some, kV__law_some, dc__law_some, pm__law_some, an__law_some, cd__law_some, ct__law_some, l__law_some, q__law_some⟩ := c.d 4 rfl
  obtain ⟨oc__law_is, od__law_is, sl__law_is, kV__law_is, dc__law_is, pm__law_is, an__law_is, cd__law_is, ct__law_is, l__law_is, q__law_is⟩ := c.d 5 rfl
  obtain ⟨oc__law_deep, od__law_deep, sl__law_deep, kV__law_deep, dc__law_deep, pm__law_deep, an__law_deep, cd__law_deep, ct__law_deep, l__law_deep, q__law_deep⟩ := c.d 6 rfl
  obtain ⟨oc__law_first_classes, od__law_first_classes, sl__law_first_classes, kV__law_first_classes, dc__law_first_classes, pm__law_first_classes, an__law_first_classes, cd__law_first_classes, ct__law_first_classes, l__law_first_classes, q__law_first_classes⟩ := c.d 7 rfl
  obtain ⟨oc__law_classes, od__law_classes, sl__law_classes, kV__law_classes, dc__law_classes, pm__law_classes, an__law_classes, cd__law_classes, ct__law_classes, l__law_classes, q__law_classes⟩ := c.d 8 rfl
  obtain ⟨oc__law_field, od__law_field, sl__law_field, kV__law_field, dc__law_field, pm__law_field, an__law_field, cd__law_field, ct__law_field, l__law_field, q__law_field⟩ := c.d 9 rfl
  obtain ⟨oc__law_raised, od__law_raised, sl__law_raised, kV__law_raised, dc__law_raised, pm__law_raised, an__law_raised, cd__law_raised, ct__law_raised, l__law_raised, q__law_raised⟩ := c.d 10 rfl
  obtain ⟨oc__law_right, od__law_right, sl__law_right, kV__law_right, dc__law_right, pm__law_right, an__law_right, cd__law_right, ct__law_right, l__law_right, q__law_right⟩ := c.d 11 rfl
  obtain ⟨oc_law, od_law, sl_law, kV_law, dc_law, pm_law, an_law, cd_law, ct_law, l_law, q_law⟩ := c.d 12 rfl
  obtain ⟨oc_Book___init__, od_Book___init__, sl_Book___init__, kV_Book___init__, dc_Book___init__, pm_Book___init__, an_Book___init__, cd_Book___init__, ct_Book___init__, l_Book___init__, q_Book___init__⟩ := c.d 13 rfl
  obtain ⟨oc_Book___eq__, od_Book___eq__, sl_Book___eq__, kV_Book___eq__, dc_Book___eq__, pm_Book___eq__, an_Book___eq__, cd_Book___eq__, ct_Book___eq__, l_Book___eq__, q_Book___eq__⟩ := c.d 14 rfl
  obtain ⟨oc_iBadText, od_iBadText, sl_iBadText, kV_iBadText, dc_iBadText, pm_iBadText, an_iBadText, cd_iBadText, ct_iBadText, l_iBadText, q_iBadText⟩ := c.d 15 rfl
  obtain ⟨oc_iBadEntry, od_iBadEntry, sl_iBadEntry, kV_iBadEntry, dc_iBadEntry, pm_iBadEntry, an_iBadEntry, cd_iBadEntry, ct_iBadEntry, l_iBadEntry, q_iBadEntry⟩ := c.d 16 rfl
  obtain ⟨oc_iBadBook, od_iBadBook, sl_iBadBook, kV_iBadBook, dc_iBadBook, pm_iBadBook, an_iBadBook, cd_iBadBook, ct_iBadBook, l_iBadBook, q_iBadBook⟩ := c.d 17 rfl
  obtain ⟨oc_iBadLine, od_iBadLine, sl_iBadLine, kV_iBadLine, dc_iBadLine, pm_iBadLine, an_iBadLine, cd_iBadLine, ct_iBadLine, l_iBadLine, q_iBadLine⟩ := c.d 18 rfl
  obtain ⟨oc_iBadQuestion, od_iBadQuestion, sl_iBadQuestion, kV_iBadQuestion, dc_iBadQuestion, pm_iBadQuestion, an_iBadQuestion, cd_iBadQuestion, ct_iBadQuestion, l_iBadQuestion, q_iBadQuestion⟩ := c.d 19 rfl
  obtain ⟨oc_iBadTask, od_iBadTask, sl_iBadTask, kV_iBadTask, dc_iBadTask, pm_iBadTask, an_iBadTask, cd_iBadTask, ct_iBadTask, l_iBadTask, q_iBadTask⟩ := c.d 20 rfl
  obtain ⟨oc_iBadStep, od_iBadStep, sl_iBadStep, kV_iBadStep, dc_iBadStep, pm_iBadStep, an_iBadStep, cd_iBadStep, ct_iBadStep, l_iBadStep, q_iBadStep⟩ := c.d 21 rfl
  obtain ⟨oc_iTooMany, od_iTooMany, sl_iTooMany, kV_iTooMany, dc_iTooMany, pm_iTooMany, an_iTooMany, cd_iTooMany, ct_iTooMany, l_iTooMany, q_iTooMany⟩ := c.d 22 rfl
  obtain ⟨oc_iNotFitting, od_iNotFitting, sl_iNotFitting, kV_iNotFitting, dc_iNotFitting, pm_iNotFitting, an_iNotFitting, cd_iNotFitting, ct_iNotFitting, l_iNotFitting, q_iNotFitting⟩ := c.d 23 rfl
  obtain ⟨oc_iNotGiven, od_iNotGiven, sl_iNotGiven, kV_iNotGiven, dc_iNotGiven, pm_iNotGiven, an_iNotGiven, cd_iNotGiven, ct_iNotGiven, l_iNotGiven, q_iNotGiven⟩ := c.d 24 rfl
  obtain ⟨oc_iNotFirst, od_iNotFirst, sl_iNotFirst, kV_iNotFirst, dc_iNotFirst, pm_iNotFirst, an_iNotFirst, cd_iNotFirst, ct_iNotFirst, l_iNotFirst, q_iNotFirst⟩ := c.d 25 rfl
  obtain ⟨oc_iLockError, od_iLockError, sl_iLockError, kV_iLockError, dc_iLockError, pm_iLockError, an_iLockError, cd_iLockError, ct_iLockError, l_iLockError, q_iLockError⟩ := c.d 26 rfl
  obtain ⟨oc_iNotFetched, od_iNotFetched, sl_iNotFetched, kV_iNotFetched, dc_iNotFetched, pm_iNotFetched, an_iNotFetched, cd_iNotFetched, ct_iNotFetched, l_iNotFetched, q_iNotFetched⟩ := c.d 27 rfl
  obtain ⟨oc_iNoBuild, od_iNoBuild, sl_iNoBuild, kV_iNoBuild, dc_iNoBuild, pm_iNoBuild, an_iNoBuild, cd_iNoBuild, ct_iNoBuild, l_iNoBuild, q_iNoBuild⟩ := c.d 28 rfl
  obtain ⟨oc_iRinged, od_iRinged, sl_iRinged, kV_iRinged, dc_iRinged, pm_iRinged, an_iRinged, cd_iRinged, ct_iRinged, l_iRinged, q_iRinged⟩ := c.d 29 rfl
  exact all_mk X G hfa (He.eqO_ok (c.f 0 0 rfl rfl)) l_is_tuple_within q_is_tuple_within (c.f 0 1 rfl rfl) (He.eqO_ok (c.f 0 2 rfl rfl)) l_wrong_entry q_wrong_entry (c.f 0 3 rfl rfl) (He.eqO_ok (c.f 0 4 rfl rfl)) l__law_hand q__law_hand (c.f 0 5 rfl rfl) (He.eqO_ok (c.f 0 6 rfl rfl)) l__law_draw q__law_draw (c.f 0 7 rfl rfl) (He.eqO_ok (c.f 0 8 rfl rfl)) l__law_some q__law_some (c.f 0 9 rfl rfl) (He.eqO_ok (c.f 0 10 rfl rfl)) l__law_is q__law_is (c.f 0 11 rfl rfl) (He.eqO_ok (c.f 0 12 rfl rfl)) l__law_deep q__law_deep (c.f 0 13 rfl rfl) (He.eqO_ok (c.f 0 14 rfl rfl)) l__law_first_classes q__law_first_classes (c.f 0 15 rfl rfl) (He.eqO_ok (c.f 0 16 rfl rfl)) l__law_classes q__law_classes (c.f 0 17 rfl rfl) (He.eqO_ok (c.f 0 18 rfl rfl)) l__law_field q__law_field (c.f 0 19 rfl rfl) (He.eqO_ok (c.f 1 0 rfl rfl)) l__law_raised q__law_raised (c.f 1 1 rfl rfl) (He.eqO_ok (c.f 1 2 rfl rfl)) l__law_right q__law_right (c.f 1 3 rfl rfl) (He.eqO_ok (c.f 1 4 rfl rfl)) l_law q_law (c.f 1 5 rfl rfl) (He.eqO_ok (c.f 1 6 rfl rfl)) (He.eqO_ok (c.f 1 7 rfl rfl)) (He.eqO_ok (c.f 1 8 rfl rfl)) (He.eqO_ok (c.f 1 9 rfl rfl)) (He.eqO_ok (c.f 1 10 rfl rfl)) (He.eqO_ok (c.f 1 11 rfl rfl)) (He.eqO_ok (c.f 1 12 rfl rfl)) (He.eqO_ok (c.f 1 13 rfl rfl)) (He.eqO_ok (c.f 1 14 rfl rfl)) (He.eqO_ok (c.f 1 15 rfl rfl)) (He.eqO_ok (c.f 1 16 rfl rfl)) (He.eqO_ok (c.f 1 17 rfl rfl)) (He.eqO_ok (c.f 1 18 rfl rfl)) (He.eqO_ok (c.f 1 19 rfl rfl)) (He.eqO_ok (c.f 2 0 rfl rfl)) (He.eqO_ok (c.f 2 1 rfl rfl)) (He.eqO_ok (c.f 2 2 rfl rfl)) (He.eqO_ok (c.f 2 3 rfl rfl)) (He.eqO_ok (c.f 2 4 rfl rfl)) (He.eqO_ok (c.f 2 5 rfl rfl)) (He.eqO_ok (c.f 2 6 rfl rfl)) (He.eqO_ok (c.f 2 7 rfl rfl)) (He.eqO_ok (c.f 2 8 rfl rfl)) (He.eqO_ok (c.f 2 9 rfl rfl)) (He.eqO_ok (c.f 2 10 rfl rfl)) (He.eqO_ok (c.f 2 11 rfl rfl)) (He.eqO_ok (c.f 2 12 rfl rfl)) (He.eqO_ok (c.f 2 13 rfl rfl)) (He.eqO_ok (c.f 2 14 rfl rfl)) (He.eqO_ok (c.f 2 15 rfl rfl)) (He.eqO_ok (c.f 2 16 rfl rfl)) (He.eqO_ok (c.f 2 17 rfl rfl)) (He.eqO_ok (c.f 2 18 rfl rfl)) (He.eqO_ok (c.f 2 19 rfl rfl)) (He.eqO_ok (c.f 3 0 rfl rfl)) (He.eqO_ok (c.f 3 1 rfl rfl)) (He.eqO_ok (c.f 3 2 rfl rfl)) (He.eqO_ok (c.f 3 3 rfl rfl)) (He.eqO_ok (c.f 3 4 rfl rfl)) (He.eqO_ok (c.f 3 5 rfl rfl)) (He.eqO_ok (c.f 3 6 rfl rfl)) (He.eqO_ok (c.f 3 7 rfl rfl)) (He.eqO_ok (c.f 3 8 rfl rfl)) (He.eqO_ok (c.f 3 9 rfl rfl)) (He.eqO_ok (c.f 3 10 rfl rfl)) (He.eqO_ok (c.f 3 11 rfl rfl)) (He.eqO_ok (c.f 3 12 rfl rfl)) (He.eqO_ok (c.f 3 13 rfl rfl)) (He.eqO_ok (c.f 3 14 rfl rfl)) (He.eqO_ok (c.f 3 15 rfl rfl)) (He.eqO_ok (c.f 3 16 rfl rfl)) (He.eqO_ok (c.f 3 17 rfl rfl)) (He.eqO_ok (c.f 3 18 rfl rfl)) (HK.oexB_ok (c.f 3 19 rfl rfl)) (He.eqO_ok (c.f 4 0 rfl rfl)) (HK.oV_ok (c.f 4 1 rfl rfl)) l_iBadText q_iBadText (c.f 4 2 rfl rfl) (He.eqO_ok (c.f 4 3 rfl rfl)) (HK.oexB_ok (c.f 4 4 rfl rfl)) (He.eqO_ok (c.f 4 5 rfl rfl)) (HK.oV_ok (c.f 4 6 rfl rfl)) l_iBadEntry q_iBadEntry (c.f 4 7 rfl rfl) (He.eqO_ok (c.f 4 8 rfl rfl)) (HK.oexB_ok (c.f 4 9 rfl rfl)) (He.eqO_ok (c.f 4 10 rfl rfl)) (HK.oV_ok (c.f 4 11 rfl rfl)) l_iBadBook q_iBadBook (c.f 4 12 rfl rfl) (He.eqO_ok (c.f 4 13 rfl rfl)) (HK.oexB_ok (c.f 4 14 rfl rfl)) (He.eqO_ok (c.f 4 15 rfl rfl)) (HK.oV_ok (c.f 4 16 rfl rfl)) l_iBadLine q_iBadLine (c.f 4 17 rfl rfl) (He.eqO_ok (c.f 4 18 rfl rfl)) (HK.oexB_ok (c.f 4 19 rfl rfl)) (He.eqO_ok (c.f 5 0 rfl rfl)) (HK.oV_ok (c.f 5 1 rfl rfl)) l_iBadQuestion q_iBadQuestion (c.f 5 2 rfl rfl) (He.eqO_ok (c.f 5 3 rfl rfl)) (HK.oexB_ok (c.f 5 4 rfl rfl)) (He.eqO_ok (c.f 5 5 rfl rfl)) (HK.oV_ok (c.f 5 6 rfl rfl)) l_iBadTask q_iBadTask (c.f 5 7 rfl rfl) (He.eqO_ok (c.f 5 8 rfl rfl)) (HK.oexB_ok (c.f 5 9 rfl rfl)) (He.eqO_ok (c.f 5 10 rfl rfl)) (HK.oV_ok (c.f 5 11 rfl rfl)) l_iBadStep q_iBadStep (c.f 5 12 rfl rfl) (He.eqO_ok (c.f 5 13 rfl rfl)) (HK.oexB_ok (c.f 5 14 rfl rfl)) (He.eqO_ok (c.f 5 15 rfl rfl)) (HK.oV_ok (c.f 5 16 rfl rfl)) l_iTooMany q_iTooMany (c.f 5 17 rfl rfl) (He.eqO_ok (c.f 5 18 rfl rfl)) (HK.oexB_ok (c.f 5 19 rfl rfl)) (He.eqO_ok (c.f 6 0 rfl rfl)) (HK.oV_ok (c.f 6 1 rfl rfl)) l_iNotFitting q_iNotFitting (c.f 6 2 rfl rfl) (He.eqO_ok (c.f 6 3 rfl rfl)) (HK.oexB_ok (c.f 6 4 rfl rfl)) (He.eqO_ok (c.f 6 5 rfl rfl)) (HK.oV_ok (c.f 6 6 rfl rfl)) l_iNotGiven q_iNotGiven (c.f 6 7 rfl rfl) (He.eqO_ok (c.f 6 8 rfl rfl)) (HK.oexB_ok (c.f 6 9 rfl rfl)) (He.eqO_ok (c.f 6 10 rfl rfl)) (HK.oV_ok (c.f 6 11 rfl rfl)) l_iNotFirst q_iNotFirst (c.f 6 12 rfl rfl) (He.eqO_ok (c.f 6 13 rfl rfl)) (HK.oexB_ok (c.f 6 14 rfl rfl)) (He.eqO_ok (c.f 6 15 rfl rfl)) (HK.oV_ok (c.f 6 16 rfl rfl)) l_iLockError q_iLockError (c.f 6 17 rfl rfl) (HK.oexB_ok (c.f 6 18 rfl rfl)) (He.eqO_ok (c.f 6 19 rfl rfl)) (HK.oexB_ok (c.f 7 0 rfl rfl)) (He.eqO_ok (c.f 7 1 rfl rfl)) (HK.oexB_ok (c.f 7 2 rfl rfl)) (He.eqO_ok (c.f 7 3 rfl rfl)) (HK.oexB_ok (c.f 7 4 rfl rfl)) (He.eqO_ok (c.f 7 5 rfl rfl)) (HK.oexB_ok (c.f 7 6 rfl rfl)) (He.eqO_ok (c.f 7 7 rfl rfl)) (HK.oexB_ok (c.f 7 8 rfl rfl)) (He.eqO_ok (c.f 7 9 rfl rfl)) (HK.oexB_ok (c.f 7 10 rfl rfl)) (He.eqO_ok (c.f 7 11 rfl rfl)) (HK.oexB_ok (c.f 7 12 rfl rfl)) (He.eqO_ok (c.f 7 13 rfl rfl)) (HK.oexB_ok (c.f 7 14 rfl rfl)) (He.eqO_ok (c.f 7 15 rfl rfl)) (HK.oexB_ok (c.f 7 16 rfl rfl)) (He.eqO_ok (c.f 7 17 rfl rfl)) (HK.oexB_ok (c.f 7 18 rfl rfl)) (He.eqO_ok (c.f 7 19 rfl rfl)) (HK.oexB_ok (c.f 8 0 rfl rfl)) (He.eqO_ok (c.f 8 1 rfl rfl)) (HK.oexB_ok (c.f 8 2 rfl rfl)) (He.eqO_ok (c.f 8 3 rfl rfl)) (HK.oexB_ok (c.f 8 4 rfl rfl)) (He.eqO_ok (c.f 8 5 rfl rfl)) (HK.oexB_ok (c.f 8 6 rfl rfl)) (He.eqO_ok (c.f 8 7 rfl rfl)) (HK.oexB_ok (c.f 8 8 rfl rfl)) (He.eqO_ok (c.f 8 9 rfl rfl)) (HK.oexB_ok (c.f 8 10 rfl rfl)) (He.eqO_ok (c.f 8 11 rfl rfl)) (HK.oexB_ok (c.f 8 12 rfl rfl)) (He.eqO_ok (c.f 8 13 rfl rfl)) (HK.oexB_ok (c.f 8 14 rfl rfl)) (He.eqO_ok (c.f 8 15 rfl rfl)) (HK.oexB_ok (c.f 8 16 rfl rfl)) (He.eqO_ok (c.f 8 17 rfl rfl)) (HK.oexB_ok (c.f 8 18 rfl rfl)) (He.eqO_ok (c.f 8 19 rfl rfl)) (HK.oexB_ok (c.f 9 0 rfl rfl)) (He.eqO_ok (c.f 9 1 rfl rfl)) (HK.oexB_ok (c.f 9 2 rfl rfl)) (He.eqO_ok (c.f 9 3 rfl rfl)) (HK.oexB_ok (c.f 9 4 rfl rfl)) (He.eqO_ok (c.f 9 5 rfl rfl)) (HK.oV_ok (c.f 9 6 rfl rfl)) l_iNotFetched q_iNotFetched (c.f 9 7 rfl rfl) (He.eqO_ok (c.f 9 8 rfl rfl)) (HK.oexB_ok (c.f 9 9 rfl rfl)) (He.eqO_ok (c.f 9 10 rfl rfl)) (HK.oV_ok (c.f 9 11 rfl rfl)) l_iNoBuild q_iNoBuild (c.f 9 12 rfl rfl) (He.eqO_ok (c.f 9 13 rfl rfl)) (HK.oexB_ok (c.f 9 14 rfl rfl)) (He.eqO_ok (c.f 9 15 rfl rfl)) (HK.oV_ok (c.f 9 16 rfl rfl)) l_iRinged q_iRinged (c.f 9 17 rfl rfl) (He.eqO_ok (c.f 9 18 rfl rfl)) (HK.oexB_ok (c.f 9 19 rfl rfl)) (He.eqO_ok (c.f 10 0 rfl rfl)) (HK.oexB_ok (c.f 10 1 rfl rfl)) (He.eqO_ok (c.f 10 2 rfl rfl)) (He.eqO_ok (c.f 10 3 rfl rfl)) (HK.oB_ok (c.f 10 4 rfl rfl)) (c.f 10 5 rfl rfl) (He.eqO_ok (c.f 10 6 rfl rfl)) (c.f 10 7 rfl rfl) (c.f 10 8 rfl rfl) (c.f 10 9 rfl rfl) (He.eqO_ok (c.f 10 10 rfl rfl)) (He.eqO_ok (c.f 10 11 rfl rfl)) (HK.oB_ok (c.f 10 12 rfl rfl)) (c.f 10 13 rfl rfl) (HK.oV_ok (c.f 10 14 rfl rfl)) (HK.oB_ok (c.f 10 15 rfl rfl)) (c.f 10 16 rfl rfl) (c.f 10 17 rfl rfl) (He.eqO_ok (c.f 10 18 rfl rfl)) (He.eqO_ok (c.f 10 19 rfl rfl)) (He.eqO_ok (c.f 11 0 rfl rfl)) (c.f 11 1 rfl rfl) l_Book___init__ q_Book___init__ (c.f 11 2 rfl rfl) (He.eqO_ok (c.f 11 3 rfl rfl)) (c.f 11 4 rfl rfl) l_Book___eq__ q_Book___eq__ (c.f 11 5 rfl rfl) (He.eqO_ok (c.f 11 6 rfl rfl)) (HK.repB_ok (c.f 11 7 rfl rfl))
theorem walkL {l : PySem.W.OpenLaw} {q : Program} {loose : List Str} {XP : (Str → Option Value) → Heap → Prop} {d : DefRec} (hn : l.most = some 63) (hdf : d.params.defaults = []) (hd : d.name = "law") :
    PySem.W.WalkO q loose XP Hdk00.hkL.says l.row.toRowW d [] (fun f vs => PySem.call f vs) :=
  LamX.walk_ofTsE (n := 63) (k := 41) (x := "script") (CX := fun w => L2.CX l.prog w) hn (by decide) hdf ⟨rfl, by decide, by decide⟩ (fun w mg fa h Y G hmg => by
    obtain ⟨K, KX, c⟩ := Y
    rw [hd] at hmg
    exact ⟨K, KX, factsL KX G hmg c⟩) fun _ _ _ _ _ z => DL.cx_false z
end Lk00
open PySem PySem.W PySem.Calls PyProof.Rows
set_option maxRecDepth 100000 in
set_option maxHeartbeats 0 in
theorem PySem.Challenge.cw_lockwright_k00_errors_of_the_package_holds : PySem.Challenge.rw_lockwright_k00_errors_of_the_package.Holds := by
  w_on; o_law
  refine HandSHeadRun.head_any (r := OpenLaw.row PySem.Challenge.rw_lockwright_k00_errors_of_the_package) (q := Hdk00.qL) (H := Hdk00.hkL) (ob := Hdk00.obL) (M := 60000) (loose := Hdk00.nmL) (d := HandSHeadRun.topDef (OpenLaw.row PySem.Challenge.rw_lockwright_k00_errors_of_the_package).prog 89) (kwd := []) Hdk00.obL_eq (by kernel_rfl) (fun s => by kernel_rfl) Hdk00.runL (by kernel_rfl) (by kernel_rfl) (by kernel_rfl) (by rfl) (by first | assumption | decide +kernel) (by decide +kernel) ⟨rfl, rfl, rfl, rfl, rfl, by decide +kernel⟩ ?hw ?hc
  case hw => w_witness2
  case hc => exact Lk00.walkL (l := PySem.Challenge.rw_lockwright_k00_errors_of_the_package) rfl (by kernel_rfl) (by kernel_rfl)
