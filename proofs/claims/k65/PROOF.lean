import PyProof.Rows.All
import Wide.All
import OpenK.AllK
import Wide.FinOn
import HandS.ForMost
import HandS.Flow
import HandS.IsInst
import HandS.TupLe
import HandS.TupAny
import HandS.ForExc
import HandS.ExcInit
import HandS.CallSlots
import HandS.EndTab
import HandS.Zip
import HandS.Walk
import KE.GoesMore
import KE.GoesEnum
import KE.DataCmp
import KE.SortData
import KE.DataMinMax
import HandS.ExcValue
import HandS.SortKw
import KE.SortKeyHeap
import KE.KSortKey
import HandS.TupSets
import PyProof.MinMaxWalk
import PyProof.EnumMake
import PyProof.Draws
import HandS.Style
import HandS.Text
import HandS.StrMore
import HandS.FStr
import HandS.RaiseMore
import HandS.Dict
import KE.KExcIs
import HandS.ExcField
import HandS.ExcIs
import HandS.TryOnly
import HandS.ExcBuiltin
import HandS.More
import HandS.OwnEq
import HandS.Codes
import HandS.Star
import HandS.Set
import HandS.SetFor
import HandS.Strs
import HandS.Small
import PyProof.Rows.StrRev
import PyProof.StrOps2
import PyProof.Rows.StrFit
import HandS.ListItems
import KE.KDictList
import KE.KDictCopyH
import HandS.WordsDict
import KE.LtData
import PyProof.Rows.StrItems
import PyProof.StrLawsChain
import KE.IntTextText
import PyProof.Rows.StrLawsPart
import PySem.Challenge.RW_lockwright_k65_whole_questions_merged
set_option Elab.async false
set_option linter.all false
set_option maxRecDepth 100000
set_option autoImplicit false
namespace DL
open PySem L2 PySem.Spec
open PyProof.Rows hiding St
inductive D where
  | non | bl (b : Bool) | int (i : Int) | str (x : Str) | tup (ds : List D) | fls (ds : List D) | loc (n : Nat) | adr (a : Addr) | ty (n : String)
inductive Ob where
  | lst (ds : List D)
  | ins (C : Addr) (fs : List (Str × D))
  | dK (kvs : List (Key × D))
  /-- an exception made and not raised, its class, its dict's place -/
  | err (e C : Addr) (d : Option Addr)
  /-- that dict -/
  | xdt (dx : Addr) (fs : List (Str × D))
  /-- a dict that nothing writes to -/
  | dkF (o : Obj) (kvs : List (Key × D))
abbrev Sto := List Ob
abbrev Env' := List (Option D)
/-- a list that nothing writes to -/
def FzL (K : PySem.W.Frag) (H : Hp) (a : Addr) (xs : List V) : Prop :=
  (∃ o, H a = some (.frz o (.lst xs))) ∨
    ∃ (o : Obj) (its : Array Value) (n : Nat), K.lookup a = some o ∧ o.cls = .type "list" ∧ o.dict = none ∧ o.data = .seq its n ∧ its.size ≤ sizeLine ∧ Vals xs its.toList
theorem FzL.sq {K : PySem.W.Frag} {H : Hp} {a : Addr} {xs : List V} (h : FzL K H a xs) : SqL K H a xs := by
  rcases h with h | h
  · exact .inl (.inr h)
  · exact .inr h
mutual
def Rep (K : PySem.W.Frag) (H : Hp) (μ : List Addr) : D → V → Prop
  | .non, v => v = .non
  | .bl b, v => v = .bl b
  | .int i, v => v = .int i
  | .str x, v => v = .str x
  | .tup ds, v => ∃ a vs, v = .ref a ∧ SqT K H a vs ∧ Reps K H μ ds vs
  | .fls ds, v => ∃ a vs, v = .ref a ∧ FzL K H a vs ∧ Reps K H μ ds vs
  | .loc n, v => ∃ a, v = .ref a ∧ μ[n]? = some a
  | .adr a, v => v = .ref a
  | .ty n, v => v = .ty n
def Reps (K : PySem.W.Frag) (H : Hp) (μ : List Addr) : List D → List V → Prop
  | [], vs => vs = []
  | d :: ds, vs => ∃ v r, vs = v :: r ∧ Rep K H μ d v ∧ Reps K H μ ds r
end
/-- what may have come behind: nothing tracked is changed but what the store holds -/
structure Ext0 (H H' : Hp) (μ μ' : List Addr) : Prop where
  pre : ∀ (n : Nat) (a : Addr), μ[n]? = some a → μ'[n]? = some a
  tup : ∀ a xs, H a = some (.tup xs) → H' a = some (.tup xs)
  frz : ∀ a o u, H a = some (.frz o u) → H' a = some (.frz o u)
structure Ext (H H' : Hp) (μ μ' : List Addr) : Prop extends Ext0 H H' μ μ' where
  fra : ∀ a o, H a = some o → a ∉ μ → (∀ ps, o ≠ .tbl ps) → H' a = some o
  new : ∀ a, a ∈ μ' → a ∈ μ ∨ ∀ o, H a = some o → ∃ ps, o = .tbl ps
section
variable {K : PySem.W.Frag} {H H1 H2 H' : Hp} {μ μ1 μ2 μ' : List Addr}
theorem Ext.refl (H : Hp) (μ : List Addr) : Ext H H μ μ := ⟨⟨fun _ _ h => h, fun _ _ h => h, fun _ _ _ h => h⟩, fun _ _ h _ _ => h, fun _ h => .inl h⟩
theorem Ext.trans (x : Ext H H1 μ μ1) (y : Ext H1 H2 μ1 μ2) : Ext H H2 μ μ2 where
  pre n a h := y.pre n a (x.pre n a h)
  tup a xs h := y.tup a xs (x.tup a xs h)
  frz a o u h := y.frz a o u (x.frz a o u h)
  fra a o h hm hn := y.fra a o (x.fra a o h hm hn) (fun z => by
    rcases x.new a z with q | q
    · exact hm q
    · obtain ⟨ps, e⟩ := q o h
      exact hn ps e) hn
  new a h := by
    rcases y.new a h with q | q
    · exact x.new a q
    · by_cases hm : a ∈ μ
      · exact .inl hm
      · right
        intro o e
        by_cases ht : ∃ ps, o = .tbl ps
        · exact ht
        · exact q o (x.fra a o e hm fun ps z => ht ⟨ps, z⟩)
theorem Ext0.sqT (x : Ext0 H H' μ μ') {a : Addr} {xs : List V} (h : SqT K H a xs) : SqT K H' a xs := by
  rcases h with (h | ⟨o, h⟩) | h
  · exact .inl (.inl (x.tup _ _ h))
  · exact .inl (.inr ⟨o, x.frz _ _ _ h⟩)
  · exact .inr h
theorem Ext0.fzL (x : Ext0 H H' μ μ') {a : Addr} {xs : List V} (h : FzL K H a xs) : FzL K H' a xs := by
  rcases h with ⟨o, h⟩ | h
  · exact .inl ⟨o, x.frz _ _ _ h⟩
  · exact .inr h
mutual
theorem Rep.mono0 (x : Ext0 H H' μ μ') : ∀ {d : D} {v : V}, Rep K H μ d v → Rep K H' μ' d v
  | .non, _, h => h
  | .bl _, _, h => h
  | .int _, _, h => h
  | .str _, _, h => h
  | .tup ds, _, h => by
    obtain ⟨a, vs, e, s, r⟩ := h
    exact ⟨a, vs, e, x.sqT s, Reps.mono0 x r⟩
  | .fls ds, _, h => by
    obtain ⟨a, vs, e, s, r⟩ := h
    exact ⟨a, vs, e, x.fzL s, Reps.mono0 x r⟩
  | .loc n, _, h => by
    obtain ⟨a, e, q⟩ := h
    exact ⟨a, e, x.pre n a q⟩
  | .adr _, _, h => h
  | .ty _, _, h => h
theorem Reps.mono0 (x : Ext0 H H' μ μ') : ∀ {ds : List D} {vs : List V}, Reps K H μ ds vs → Reps K H' μ' ds vs
  | [], _, h => h
  | d :: ds, _, h => by
    obtain ⟨v, r, e, h1, h2⟩ := h
    exact ⟨v, r, e, Rep.mono0 x h1, Reps.mono0 x h2⟩
end
theorem Rep.mono (x : Ext H H' μ μ') {d : D} {v : V} (h : Rep K H μ d v) : Rep K H' μ' d v := h.mono0 x.toExt0
theorem Reps.mono (x : Ext H H' μ μ') {d : List D} {v : List V} (h : Reps K H μ d v) : Reps K H' μ' d v := h.mono0 x.toExt0
theorem Reps.length : ∀ {ds : List D} {vs : List V}, Reps K H μ ds vs → ds.length = vs.length
  | [], _, h => by subst h; rfl
  | d :: ds, _, h => by
    obtain ⟨v, r, rfl, _, h2⟩ := h
    simp [Reps.length h2]
theorem Reps.get : ∀ {ds : List D} {vs : List V} {i : Nat} {d : D}, Reps K H μ ds vs → ds[i]? = some d → ∃ v, vs[i]? = some v ∧ Rep K H μ d v
  | [], _, i, d, h, e => by simp at e
  | x :: ds, _, 0, d, h, e => by
    obtain ⟨v, r, rfl, h1, _⟩ := h
    simp at e; subst e
    exact ⟨v, rfl, h1⟩
  | x :: ds, _, i + 1, d, h, e => by
    obtain ⟨v, r, rfl, _, h2⟩ := h
    simpa using Reps.get (i := i) h2 (by simpa using e)
theorem Reps.append : ∀ {ds es : List D} {vs us : List V}, Reps K H μ ds vs → Reps K H μ es us → Reps K H μ (ds ++ es) (vs ++ us)
  | [], _, _, _, h, g => by subst h; exact g
  | d :: ds, es, _, us, h, g => by
    obtain ⟨v, r, rfl, h1, h2⟩ := h
    exact ⟨v, r ++ us, rfl, h1, Reps.append h2 g⟩
theorem Reps.one {d : D} {v : V} (h : Rep K H μ d v) : Reps K H μ [d] [v] := ⟨v, [], rfl, h, rfl⟩
theorem Reps.take : ∀ {ds : List D} {vs : List V} (n : Nat), Reps K H μ ds vs → Reps K H μ (ds.take n) (vs.take n)
  | _, _, 0, _ => rfl
  | [], _, n + 1, h => by subst h; rfl
  | d :: ds, _, n + 1, h => by
    obtain ⟨v, r, rfl, h1, h2⟩ := h
    exact ⟨v, r.take n, rfl, h1, Reps.take n h2⟩
theorem Reps.drop : ∀ {ds : List D} {vs : List V} (n : Nat), Reps K H μ ds vs → Reps K H μ (ds.drop n) (vs.drop n)
  | _, _, 0, h => h
  | [], _, n + 1, h => by subst h; rfl
  | d :: ds, _, n + 1, h => by
    obtain ⟨v, r, rfl, h1, h2⟩ := h
    exact Reps.drop n h2
theorem Reps.set : ∀ {ds : List D} {vs : List V} (n : Nat) {d : D} {v : V}, Reps K H μ ds vs → Rep K H μ d v → Reps K H μ (ds.set n d) (vs.set n v)
  | [], _, n, _, _, h, _ => by subst h; rfl
  | d :: ds, _, 0, e, u, h, g => by
    obtain ⟨v, r, rfl, h1, h2⟩ := h
    exact ⟨u, r, rfl, g, h2⟩
  | d :: ds, _, n + 1, e, u, h, g => by
    obtain ⟨v, r, rfl, h1, h2⟩ := h
    exact ⟨v, r.set n u, rfl, h1, Reps.set n h2 g⟩
theorem Reps.reverse : ∀ {ds : List D} {vs : List V}, Reps K H μ ds vs → Reps K H μ ds.reverse vs.reverse
  | [], _, h => by subst h; rfl
  | d :: ds, _, h => by
    obtain ⟨v, r, rfl, h1, h2⟩ := h
    simp only [List.reverse_cons]
    exact (Reps.reverse h2).append (Reps.one h1)
def OFs (K : PySem.W.Frag) (H : Hp) (μ : List Addr) (fs : List (Str × D)) (gs : List (Str × V)) : Prop := fs.map (·.1) = gs.map (·.1) ∧ Reps K H μ (fs.map (·.2)) (gs.map (·.2))
def OKv (K : PySem.W.Frag) (H : Hp) (μ : List Addr) (fs : List (Key × D)) (gs : List (Key × V)) : Prop := fs.map (·.1) = gs.map (·.1) ∧ Reps K H μ (fs.map (·.2)) (gs.map (·.2))
def ORep (K : PySem.W.Frag) (H : Hp) (μ : List Addr) : Ob → HO → Prop
  | .lst ds, o => ∃ vs, o = .lst vs ∧ Reps K H μ ds vs
  | .ins C fs, o => ∃ dx gs, o = .ins C dx gs ∧ OFs K H μ fs gs
  | .dK kvs, o => ∃ gs, o = .dK gs ∧ OKv K H μ kvs gs
  | .err e C d, o => o = exo e C d
  | .xdt dx fs, o => ∃ gs, o = exd dx gs ∧ OFs K H μ fs gs
  | .dkF od kvs, o => ∃ gs, o = .frz od (.dK gs) ∧ OKv K H μ kvs gs
theorem ORep.mono0 (x : Ext0 H H' μ μ') : ∀ {b : Ob} {o : HO}, ORep K H μ b o → ORep K H' μ' b o
  | .lst ds, _, h => by obtain ⟨vs, e, r⟩ := h; exact ⟨vs, e, r.mono0 x⟩
  | .ins C fs, _, h => by obtain ⟨dx, gs, e, r1, r2⟩ := h; exact ⟨dx, gs, e, r1, r2.mono0 x⟩
  | .dK fs, _, h => by obtain ⟨gs, e, r1, r2⟩ := h; exact ⟨gs, e, r1, r2.mono0 x⟩
  | .err _ _ _, _, h => h
  | .xdt dx fs, _, h => by obtain ⟨gs, e, r1, r2⟩ := h; exact ⟨gs, e, r1, r2.mono0 x⟩
  | .dkF od fs, _, h => by obtain ⟨gs, e, r1, r2⟩ := h; exact ⟨gs, e, r1, r2.mono0 x⟩
theorem ORep.mono (x : Ext H H' μ μ') {b : Ob} {o : HO} (h : ORep K H μ b o) : ORep K H' μ' b o := h.mono0 x.toExt0
/-- the tables of code objects that defs with lambdas fill -/
class TabCtx where
  T : List (Addr × Str)
  /-- the dicts of the exceptions that are held, and what stands in them -/
  xs : List (Addr × List (Str × D))
variable [TC : TabCtx]
def ExcAt (K : PySem.W.Frag) (H : Hp) (μ : List Addr) : Prop := ∀ p ∈ TC.xs, p.1 ∉ μ ∧ ∃ gs, H p.1 = some (.xd gs) ∧ OFs K H μ p.2 gs
theorem ExcAt.ext (s : ExcAt K H μ) (x : Ext H H' μ μ') : ExcAt K H' μ' := fun p hp => by
  obtain ⟨hn, gs, e, r1, r2⟩ := s p hp
  refine ⟨fun z => ?_, gs, x.fra _ _ e hn (fun ps z => nomatch z), r1, r2.mono x⟩
  rcases x.new _ z with q | q
  · exact hn q
  · obtain ⟨ps, q⟩ := q _ e
    cases q
theorem ORep.plain : ∀ {b : Ob} {o : HO}, ORep K H μ b o → ∀ ps, o ≠ .tbl ps
  | .lst ds, _, h => by obtain ⟨vs, rfl, r⟩ := h; exact fun _ z => (nomatch z)
  | .ins C fs, _, h => by obtain ⟨dx, gs, rfl, r⟩ := h; exact fun _ z => (nomatch z)
  | .dK fs, _, h => by obtain ⟨gs, rfl, r⟩ := h; exact fun _ z => (nomatch z)
  | .err e C d, o, h => fun ps z => exo_tbl ((show o = exo e C d from h).symm.trans z)
  | .xdt dx fs, _, h => by
    obtain ⟨gs, rfl, r⟩ := h
    intro ps z
    have z' : HO.ext _ = HO.tbl ps := z
    cases z'
  | .dkF od fs, _, h => by obtain ⟨gs, rfl, r⟩ := h; exact fun _ z => (nomatch z)
/-- the tables, where a thing that is none of theirs is written -/
theorem tabs_upd {T : List (Addr × Str)} {p : Addr} {u : HO} (h : LamX.Tabs T H) (hp : ∀ o, H p = some o → (∀ ps, o ≠ .tbl ps) ∧ ∀ f, o ≠ .ext f) : LamX.Tabs T (upd H p u) := fun q hq => by
  obtain ⟨ps, h1, h2, h3⟩ := h q hq
  refine ⟨ps, ?_, h2, fun pos cv hc => ?_⟩
  · rw [upd_ne (fun e => by rw [e] at h1; exact (hp _ h1).1 ps rfl)]; exact h1
  · obtain ⟨c, e1, e2⟩ := h3 pos cv hc
    exact ⟨c, e1, by rw [upd_ne (fun e => by rw [e] at e2; exact (hp _ e2).2 _ rfl)]; exact e2⟩
structure SRep (K : PySem.W.Frag) (st : Sto) (μ : List Addr) (H : Hp) : Prop where
  len : st.length = μ.length
  nd : μ.Nodup
  at' : ∀ (n : Nat) (b : Ob), st[n]? = some b → ∃ a o, μ[n]? = some a ∧ H a = some o ∧ ORep K H μ b o
  tab : LamX.Tabs TC.T H
  exc : ExcAt K H μ
theorem SRep.mem {st : Sto} (s : SRep K st μ H) {a : Addr} (h : a ∈ μ) : ∃ (n : Nat) (b : Ob) (o : HO), μ[n]? = some a ∧ st[n]? = some b ∧ H a = some o ∧ ORep K H μ b o := by
  obtain ⟨n, e⟩ := List.mem_iff_getElem?.mp h
  have hn : n < st.length := by
    rw [s.len]
    exact (List.getElem?_eq_some_iff.mp e).1
  obtain ⟨a', o, e', ho, r⟩ := s.at' n _ (List.getElem?_eq_getElem hn)
  rw [e] at e'; cases e'
  exact ⟨n, _, o, e, List.getElem?_eq_getElem hn, ho, r⟩
theorem SRep.not_mem {st : Sto} (s : SRep K st μ H) {a : Addr} (h : H a = none) : a ∉ μ := fun hm => by
  obtain ⟨n, b, o, _, _, ho, _⟩ := s.mem hm
  rw [h] at ho; cases ho
/-- a new thing that the store does not hold (a tuple) -/
theorem Ext.laid {p : Addr} {o : HO} (h : H p = none) : Ext H (upd H p o) μ μ where
  pre _ _ q := q
  tup a xs q := by rw [upd_ne (ne_of_none q h)]; exact q
  frz a ob u q := by rw [upd_ne (ne_of_none q h)]; exact q
  fra a ob q _ _ := by rw [upd_ne (ne_of_none q h)]; exact q
  new a q := .inl q
theorem SRep.ext {st : Sto} (s : SRep K st μ H) (x : Ext H H' μ μ) (k : ∀ a o, a ∈ μ → H a = some o → H' a = some o) (ht : LamX.Tabs TC.T H') : SRep K st μ H' :=
  ⟨s.len, s.nd, fun n b e => by
    obtain ⟨a, o, e1, e2, r⟩ := s.at' n b e
    exact ⟨a, o, e1, k a o (List.mem_of_getElem? e1) e2, r.mono x⟩, ht, s.exc.ext x⟩
theorem SRep.laid {st : Sto} (s : SRep K st μ H) {p : Addr} {o : HO} (h : H p = none) : SRep K st μ (upd H p o) :=
  s.ext (Ext.laid h) (fun a ob _ q => by rw [upd_ne (ne_of_none q h)]; exact q) (tabs_upd s.tab fun o q => by rw [h] at q; cases q)
/-- a new thing that the store holds -/
theorem Ext.push {p : Addr} {o : HO} (h : H p = none) : Ext H (upd H p o) μ (μ ++ [p]) where
  pre n a q := by rw [List.getElem?_append_left (List.getElem?_eq_some_iff.mp q).1]; exact q
  tup a xs q := by rw [upd_ne (ne_of_none q h)]; exact q
  frz a ob u q := by rw [upd_ne (ne_of_none q h)]; exact q
  fra a ob q _ _ := by rw [upd_ne (ne_of_none q h)]; exact q
  new a q := by
    rcases List.mem_append.mp q with q | q
    · exact .inl q
    · rw [List.mem_singleton.mp q]; exact .inr fun o q => by rw [h] at q; cases q
theorem SRep.push {st : Sto} (s : SRep K st μ H) {p : Addr} {o : HO} {b : Ob} (h : H p = none) (r : ORep K (upd H p o) (μ ++ [p]) b o) : SRep K (st ++ [b]) (μ ++ [p]) (upd H p o) := by
  refine ⟨by simp [s.len], ?_, fun n c e => ?_, tabs_upd s.tab (fun o q => by rw [h] at q; cases q), s.exc.ext (Ext.push h)⟩
  · refine List.nodup_append.mpr ⟨s.nd, by simp, fun a ha b hb => ?_⟩
    rw [List.mem_singleton.mp hb]
    intro e
    exact s.not_mem h (e ▸ ha)
  · by_cases hn : n < st.length
    · rw [List.getElem?_append_left hn] at e
      obtain ⟨a, ob, e1, e2, r2⟩ := s.at' n c e
      refine ⟨a, ob, ?_, ?_, r2.mono (Ext.push h)⟩
      · rw [List.getElem?_append_left (List.getElem?_eq_some_iff.mp e1).1]; exact e1
      · rw [upd_ne (ne_of_none e2 h)]; exact e2
    · have hn' : n = st.length := by
        have := (List.getElem?_eq_some_iff.mp e).1
        simp at this
        omega
      subst hn'
      rw [List.getElem?_append_right (Nat.le_refl _)] at e
      simp at e
      subst e
      refine ⟨p, o, ?_, upd_same, r⟩
      rw [s.len, List.getElem?_append_right (Nat.le_refl _)]
      simp
/-- a thing of the store is written -/
theorem SRep.write {st : Sto} (s : SRep K st μ H) {n : Nat} {p : Addr} {o o' : HO} {b : Ob} (hp : μ[n]? = some p) (ho : H p = some o) (r : ORep K H μ b o') (hx : ∀ f, o ≠ .ext f := by intro f z; cases z) (mu : Mut (some o) := by trivial) : Ext H (upd H p o') μ μ ∧ SRep K (st.set n b) μ (upd H p o') := by
  have hm : p ∈ μ := List.mem_of_getElem? hp
  obtain ⟨_, b0, o0, _, _, h0, r0⟩ := s.mem hm
  rw [ho] at h0; cases h0
  have x : Ext H (upd H p o') μ μ := by
    refine ⟨⟨fun _ _ q => q, fun a xs q => ?_, fun a ob u q => ?_⟩, fun a ob q hn _ => ?_, fun _ q => .inl q⟩
    · rw [upd_ne (fun e => by subst e; rw [ho] at q; cases q; exact mu)]; exact q
    · rw [upd_ne (fun e => by subst e; rw [ho] at q; cases q; exact mu)]; exact q
    · rw [upd_ne (fun (e : a = p) => hn (by rw [e]; exact hm))]; exact q
  refine ⟨x, by simp [s.len], s.nd, fun m c e => ?_, tabs_upd s.tab (fun o1 q => by rw [ho] at q; cases q; exact ⟨r0.plain, hx⟩), s.exc.ext x⟩
  by_cases hmn : m = n
  · subst hmn
    have hl : m < st.length := by
      have := (List.getElem?_eq_some_iff.mp hp).1
      rw [s.len]; exact this
    rw [List.getElem?_set_self hl] at e
    cases e
    exact ⟨p, o', hp, upd_same, r.mono x⟩
  · rw [List.getElem?_set_ne (Ne.symm hmn)] at e
    obtain ⟨a, ob, e1, e2, r2⟩ := s.at' m c e
    refine ⟨a, ob, e1, ?_, r2.mono x⟩
    rw [upd_ne (fun e => hmn ?_)]
    · exact e2
    · subst e
      exact nd_ix s.nd e1 hp
end
end DL
namespace DL
open PySem L2 PySem.Spec
open PyProof.Rows hiding St
variable [TC : TabCtx]
/-- an exception: its class, its fields -/
structure DX where
  cls : Value
  fs : List (Str × D)
abbrev DK := D → Sto → Prop
abbrev DZ := DX → Env' → Sto → Prop
abbrev DTE := Env' → Sto → DK → DZ → Prop
abbrev DTT := Env' → Sto → (Bool → Sto → Prop) → DZ → Prop
abbrev DTA := Env' → Sto → (List D → Sto → Prop) → DZ → Prop
structure DEnds where
  nx : Env' → Sto → Prop
  rt : DK
  bk : Env' → Sto → Prop := fun _ _ => False
  ct : Env' → Sto → Prop := fun _ _ => False
  xs : DZ := fun _ _ _ => False
abbrev DTS := DEnds → Env' → Sto → Prop
abbrev DTG := D → Env' → Sto → (Env' → Sto → Prop) → Prop
structure ERep (K : PySem.W.Frag) (H : Hp) (μ : List Addr) (ρ : Env') (σ : St) : Prop where
  len : ρ.length = σ.length
  at' : ∀ (i : Nat) (d : D), ρ[i]? = some (some d) → ∃ v, σ[i]? = some (some v) ∧ Rep K H μ d v
def XRep (K : PySem.W.Frag) (H : Hp) (μ : List Addr) (x : DX) (c : Value) (dx : Option Addr) : Prop :=
  c = x.cls ∧ ((dx = none ∧ x.fs = []) ∨ ∃ d gs, dx = some d ∧ H d = some (.xd gs) ∧ OFs K H μ x.fs gs)
structure Stt (K : PySem.W.Frag) (ρ : Env') (st : Sto) (μ : List Addr) (σ : St) (H : Hp) : Prop where
  e : ERep K H μ ρ σ
  s : SRep K st μ H
section
variable {K : PySem.W.Frag} {H H1 H2 H' : Hp} {μ μ1 μ2 μ' : List Addr} {ρ : Env'} {st st' : Sto} {σ : St}
theorem ERep.mono (x : Ext H H' μ μ') (h : ERep K H μ ρ σ) : ERep K H' μ' ρ σ := ⟨h.len, fun i d e => by
  obtain ⟨v, e1, r⟩ := h.at' i d e
  exact ⟨v, e1, r.mono x⟩⟩
theorem ERep.set (h : ERep K H μ ρ σ) (i : Nat) {d : D} {v : V} (r : Rep K H μ d v) : ERep K H μ (ρ.set i (some d)) (σ.set i (some v)) := ⟨by simp [h.len], fun j e q => by
  by_cases hj : j = i
  · subst hj
    have hl : j < ρ.length := by
      have := (List.getElem?_eq_some_iff.mp q).1
      simpa using this
    rw [List.getElem?_set_self hl] at q
    cases q
    exact ⟨v, by rw [List.getElem?_set_self (by rw [← h.len]; exact hl)], r⟩
  · rw [List.getElem?_set_ne (Ne.symm hj)] at q
    obtain ⟨u, e1, r1⟩ := h.at' j e q
    exact ⟨u, by rw [List.getElem?_set_ne (Ne.symm hj)]; exact e1, r1⟩⟩
theorem ERep.unset (h : ERep K H μ ρ σ) (i : Nat) : ERep K H μ (ρ.set i none) (σ.set i none) := ⟨by simp [h.len], fun j e q => by
  by_cases hj : j = i
  · subst hj
    have hl : j < ρ.length := by
      have := (List.getElem?_eq_some_iff.mp q).1
      simpa using this
    rw [List.getElem?_set_self hl] at q
    cases q
  · rw [List.getElem?_set_ne (Ne.symm hj)] at q
    obtain ⟨u, e1, r1⟩ := h.at' j e q
    exact ⟨u, by rw [List.getElem?_set_ne (Ne.symm hj)]; exact e1, r1⟩⟩
def wipeD (ρ : Env') : List Nat → Env'
  | [] => ρ
  | v :: vs => (wipeD ρ vs).set v none
theorem ERep.wipe (h : ERep K H μ ρ σ) : ∀ vs : List Nat, ERep K H μ (wipeD ρ vs) (wipe σ vs)
  | [] => h
  | v :: vs => (ERep.wipe h vs).unset v
theorem Stt.mono (x : Ext H H' μ μ') (h : Stt K ρ st μ σ H) (s' : SRep K st' μ' H') : Stt K ρ st' μ' σ H' := ⟨h.e.mono x, s'⟩
/-- the wish about exceptions is served -/
def ZOk (K : PySem.W.Frag) (W : WX) (Z : DZ) (H : Hp) (μ : List Addr) : Prop :=
  ∀ x ρ' st' σ' H' μ' c dx, Z x ρ' st' → Ext H H' μ μ' → Stt K ρ' st' μ' σ' H' → XRep K H' μ' x c dx → W c dx σ' H'
theorem ZOk.mono {W : WX} {Z : DZ} (z : ZOk K W Z H μ) (x : Ext H H' μ μ') : ZOk K W Z H' μ' := fun _ _ _ _ _ _ _ _ h e => z _ _ _ _ _ _ _ _ h (x.trans e)
def EOk (K : PySem.W.Frag) (Qd : DK) (Q : VK) (H : Hp) (μ : List Addr) : Prop :=
  ∀ d st' H' μ' v, Qd d st' → Ext H H' μ μ' → SRep K st' μ' H' → Rep K H' μ' d v → Q v H'
theorem EOk.mono {Qd : DK} {Q : VK} (z : EOk K Qd Q H μ) (x : Ext H H' μ μ') : EOk K Qd Q H' μ' := fun _ _ _ _ _ h e => z _ _ _ _ _ h (x.trans e)
def TOk (K : PySem.W.Frag) (Qd : Bool → Sto → Prop) (Q : Bool → Hp → Prop) (H : Hp) (μ : List Addr) : Prop :=
  ∀ b st' H' μ', Qd b st' → Ext H H' μ μ' → SRep K st' μ' H' → Q b H'
theorem TOk.mono {Qd : Bool → Sto → Prop} {Q : Bool → Hp → Prop} (z : TOk K Qd Q H μ) (x : Ext H H' μ μ') : TOk K Qd Q H' μ' := fun _ _ _ _ h e => z _ _ _ _ h (x.trans e)
def AOk (K : PySem.W.Frag) (Qd : List D → Sto → Prop) (Q : List V → Hp → Prop) (H : Hp) (μ : List Addr) : Prop :=
  ∀ ds st' H' μ' vs, Qd ds st' → Ext H H' μ μ' → SRep K st' μ' H' → Reps K H' μ' ds vs → Q vs H'
def NOk (K : PySem.W.Frag) (Qd : Env' → Sto → Prop) (Q : St → Hp → Prop) (H : Hp) (μ : List Addr) : Prop :=
  ∀ ρ' st' σ' H' μ', Qd ρ' st' → Ext H H' μ μ' → Stt K ρ' st' μ' σ' H' → Q σ' H'
theorem NOk.mono {Qd : Env' → Sto → Prop} {Q : St → Hp → Prop} (z : NOk K Qd Q H μ) (x : Ext H H' μ μ') : NOk K Qd Q H' μ' := fun _ _ _ _ _ h e => z _ _ _ _ _ h (x.trans e)
structure SOk (K : PySem.W.Frag) (W : WX) (DD : DEnds) (D : Ends) (H : Hp) (μ : List Addr) : Prop where
  nx : NOk K DD.nx D.nx H μ
  rt : EOk K DD.rt D.rt H μ
  bk : NOk K DD.bk D.bk H μ
  ct : NOk K DD.ct D.ct H μ
  xs : ZOk K W DD.xs H μ
theorem SOk.mono {W : WX} {DD : DEnds} {D : Ends} (z : SOk K W DD D H μ) (x : Ext H H' μ μ') : SOk K W DD D H' μ' := ⟨z.nx.mono x, z.rt.mono x, z.bk.mono x, z.ct.mono x, z.xs.mono x⟩
def liftE (K : PySem.W.Frag) (W : WX) (t : DTE) : TE := fun σ H Q => ∃ ρ st μ Qd Z, Stt K ρ st μ σ H ∧ t ρ st Qd Z ∧ EOk K Qd Q H μ ∧ ZOk K W Z H μ
def liftT (K : PySem.W.Frag) (W : WX) (t : DTT) : TT := fun σ H Q => ∃ ρ st μ Qd Z, Stt K ρ st μ σ H ∧ t ρ st Qd Z ∧ TOk K Qd Q H μ ∧ ZOk K W Z H μ
def liftA (K : PySem.W.Frag) (W : WX) (t : DTA) : TA := fun σ H Q => ∃ ρ st μ Qd Z, Stt K ρ st μ σ H ∧ t ρ st Qd Z ∧ AOk K Qd Q H μ ∧ ZOk K W Z H μ
def liftS (K : PySem.W.Frag) (W : WX) (t : DTS) : TS := fun D σ H => ∃ ρ st μ DD, Stt K ρ st μ σ H ∧ t DD ρ st ∧ SOk K W DD D H μ
/-- a target; ws: the slots that it may store -/
def liftG (K : PySem.W.Frag) (ws : List Nat) (t : DTG) : TG := fun v σ H Q => ∃ d ρ st μ Qd, Stt K ρ st μ σ H ∧ Rep K H μ d v ∧ t d ρ st Qd ∧
  ∀ ρ' st' σ' H' μ', Qd ρ' st' → Ext H H' μ μ' → Stt K ρ' st' μ' σ' H' → (∀ vs, (∀ w ∈ ws, w ∈ vs) → wipe σ' vs = wipe σ vs) → Q σ' H'
end
abbrev DE (X : Cx) (W : WX) (e : Expr) (t : DTE) : Prop := PE X e (liftE X.K W t)
abbrev DT (X : Cx) (W : WX) (e : Expr) (t : DTT) : Prop := PT X e (liftT X.K W t)
abbrev DW (X : Cx) (W : WX) (e : Expr) (t : DTT) : Prop := PW X e (liftT X.K W t)
abbrev DA (X : Cx) (W : WX) (es : List Expr) (t : DTA) : Prop := PA X es (liftA X.K W t)
abbrev DS (X : Cx) (W : WX) (s : Stmt) (t : DTS) : Prop := PS X s (liftS X.K W t)
abbrev DSs (X : Cx) (W : WX) (s : List Stmt) (t : DTS) : Prop := PSs X s (liftS X.K W t)
abbrev DG (X : Cx) (ws : List Nat) (e : Expr) (t : DTG) : Prop := PG X e (liftG X.K ws t)
section
variable {X : Cx} {W : WX}
theorem pe_weak {e : Expr} {t u : TE} (h : PE X e t) (w : ∀ σ H Q, u σ H Q → t σ H Q) : PE X e u := ⟨fun pins s σ H Q I q => h.run pins s σ H Q I (w σ H Q q)⟩
theorem pt_weak {e : Expr} {t u : TT} (h : PT X e t) (w : ∀ σ H Q, u σ H Q → t σ H Q) : PT X e u := ⟨fun pins s σ H Q I q => h.run pins s σ H Q I (w σ H Q q)⟩
theorem pw_weak {e : Expr} {t u : TT} (h : PW X e t) (w : ∀ σ H Q, u σ H Q → t σ H Q) : PW X e u := ⟨fun wh pins s σ H Q I q => h.run wh pins s σ H Q I (w σ H Q q)⟩
theorem pa_weak {e : List Expr} {t u : TA} (h : PA X e t) (w : ∀ σ H Q, u σ H Q → t σ H Q) : PA X e u := ⟨fun pos pins s σ H Q I q => h.run pos pins s σ H Q I (w σ H Q q)⟩
theorem ps_weak {e : Stmt} {t u : TS} (h : PS X e t) (w : ∀ D σ H, u D σ H → t D σ H) : PS X e u := ⟨fun pins s σ H D I q => h.run pins s σ H D I (w D σ H q)⟩
theorem pss_weak {e : List Stmt} {t u : TS} (h : PSs X e t) (w : ∀ D σ H, u D σ H → t D σ H) : PSs X e u := ⟨fun pins s σ H D I q => h.run pins s σ H D I (w D σ H q)⟩
theorem pg_weak {e : Expr} {t u : TG} (h : PG X e t) (w : ∀ v σ H Q, u v σ H Q → t v σ H Q) : PG X e u := ⟨fun pins s σ H v u Q I r q => h.run pins s σ H v u Q I r (w v σ H Q q)⟩
def dVar (i : Nat) : DTE := fun ρ st Q _ => match ρ[i]? with | some (some d) => Q d st | _ => False
def dC (d : D) : DTE := fun _ st Q _ => Q d st
theorem de_var {i : Nat} {x : Str} {pos : Pos} (h : PE X (.Name x pos) (tVar i)) : DE X W (.Name x pos) (dVar i) := pe_weak h fun σ H Q ⟨ρ, st, μ, Qd, Z, hS, ht, hQ, _⟩ => by
  unfold dVar at ht
  split at ht
  · rename_i d e
    obtain ⟨v, e1, r⟩ := hS.e.at' i d e
    exact ⟨v, e1, hQ d st H μ v ht (Ext.refl _ _) hS.s r⟩
  · exact ht.elim
theorem dv (i : Nat) {x : Str} {pos : Pos} (hN : X.N[i]? = some x := by rfl) (hv : Vis X.env.scope x := by first | exact Or.inl rfl | exact Or.inr (Or.inl rfl) | exact Or.inr (Or.inr rfl)) (hd : (x == ("__debug__" : Str)) = false := by decide)
    (hcd : (x == ("__classdict__" : Str)) = false := by decide) : DE X W (.Name x pos) (dVar i) := de_var (pe_var hN hv hd hcd)
theorem de_c {e : Expr} {d : D} {v : V} (h : PE X e (tC v)) (r : ∀ H μ, Rep X.K H μ d v) : DE X W e (dC d) := pe_weak h fun σ H Q ⟨ρ, st, μ, Qd, Z, hS, ht, hQ, _⟩ => hQ d st H μ v ht (Ext.refl _ _) hS.s (r H μ)
theorem de_int {i : Int} {j : Nat} {pos : Pos} : DE X W (.Constant (.int i) j pos) (dC (.int i)) := de_c pe_int fun _ _ => rfl
theorem de_bl {i : Bool} {j : Nat} {pos : Pos} : DE X W (.Constant (.bool i) j pos) (dC (.bl i)) := de_c pe_bl fun _ _ => rfl
theorem de_non {j : Nat} {pos : Pos} : DE X W (.Constant .none j pos) (dC .non) := de_c pe_non fun _ _ => rfl
theorem de_str {x : Str} {j : Nat} {pos : Pos} : DE X W (.Constant (.str x) j pos) (dC (.str x)) := de_c pe_str fun _ _ => rfl
abbrev D2 := D → D → Sto → DK → Prop
def DOp (K : PySem.W.Frag) (r : R2) (dr : D2) : Prop :=
  ∀ {H : Hp} {μ : List Addr} {st : Sto} {x y : D} {v u : V} {Qd : DK} {Q : VK}, SRep K st μ H → Rep K H μ x v → Rep K H μ y u → dr x y st Qd → EOk K Qd Q H μ → r v u H Q
def dOp (dr : D2) (ta tb : DTE) : DTE := fun ρ st Q Z => ta ρ st (fun x st1 => tb ρ st1 (fun y st2 => dr x y st2 Q) Z) Z
/-- two in a row, by values -/
theorem lift2 {K : PySem.W.Frag} {r : R2} {dr : D2} {ta tb : DTE} (hr : DOp K r dr) (σ : St) (H : Hp) (Q : VK) (h : liftE K W (dOp dr ta tb) σ H Q) : tOp r (liftE K W ta) (liftE K W tb) σ H Q := by
  obtain ⟨ρ, st, μ, Qd, Z, hS, ht, hQ, hZ⟩ := h
  refine ⟨ρ, st, μ, _, Z, hS, ht, fun x st1 H1 μ1 v hx e1 s1 rv => ?_, hZ⟩
  refine ⟨ρ, st1, μ1, _, Z, hS.mono e1 s1, hx, fun y st2 H2 μ2 u hy e2 s2 ru => ?_, hZ.mono e1⟩
  exact hr s2 (rv.mono e2) ru hy (hQ.mono (e1.trans e2))
variable {a b c : Expr} {ta tb tc : DTE} {pos : Pos}
theorem de_op {op : Operator} {r : R2} {dr : D2} (ho : OpR X (binaryOp op) r) (hr : DOp X.K r dr) (ha : DE X W a ta) (hb : DE X W b tb) : DE X W (.BinOp a op b pos) (dOp dr ta tb) := pe_weak (pe_op ho ha hb) fun σ H Q h => lift2 hr σ H Q h
theorem de_cmp {op : CmpOp} {r : R2} {dr : D2} (ho : OpR X (compareOp op) r) (hr : DOp X.K r dr) (hm : behindInMarks op b = false) (ha : DE X W a ta) (hb : DE X W b tb) : DE X W (.Compare a [op] [b] pos) (dOp dr ta tb) := pe_weak (pe_cmpR ho ha hb hm) fun σ H Q h => lift2 hr σ H Q h
/-- a value as a test: it is a bool -/
def dTest (t : DTE) : DTT := fun ρ st Q Z => t ρ st (fun x st1 => match x with | .bl b => Q b st1 | _ => False) Z
theorem dt_cmp {op : CmpOp} {r : R2} {dr : D2} (ho : OpR X (compareOp op) r) (hr : DOp X.K r dr) (hm : behindInMarks op b = false) (ha : DE X W a ta) (hb : DE X W b tb) : DT X W (.Compare a [op] [b] pos) (dTest (dOp dr ta tb)) := pt_weak (pt_cmpR ho ha hb hm) fun σ H Q h => by
  obtain ⟨ρ, st, μ, Qd, Z, hS, ht, hQ, hZ⟩ := h
  refine lift2 (dr := dr) hr σ H _ ⟨ρ, st, μ, _, Z, hS, ht, fun x st1 H1 μ1 v hx e1 s1 rv => ?_, hZ⟩
  cases x with
  | bl b => exact ⟨b, rv, hQ b st1 H1 μ1 hx e1 s1⟩
  | _ => exact hx.elim
/-- a op b op' c -/
def dChain (r r' : D2) (ta tb tc : DTE) : DTE := fun ρ st Q Z => ta ρ st (fun x st1 => tb ρ st1 (fun y st2 => r x y st2 fun z st3 => match z with
  | .bl k => if k = true then tc ρ st3 (fun w st4 => r' y w st4 Q) Z else Q (.bl false) st3
  | _ => False) Z) Z
def dUn (f : D → Sto → DK → Prop) (ta : DTE) : DTE := fun ρ st Q Z => ta ρ st (fun x st1 => f x st1 Q) Z
theorem de_un {op : UnaryOp} {r : V → Hp → VK → Prop} {dr : D → Sto → DK → Prop} (ho : UnR X (unaryOp op) r) (hr : ∀ {H : Hp} {μ : List Addr} {st : Sto} {x : D} {v : V} {Qd : DK} {Q : VK}, SRep X.K st μ H → Rep X.K H μ x v → dr x st Qd → EOk X.K Qd Q H μ → r v H Q)
    (ha : DE X W a ta) : DE X W (.UnaryOp op a pos) (dUn dr ta) := pe_weak (pe_un ho ha) fun σ H Q ⟨ρ, st, μ, Qd, Z, hS, ht, hQ, hZ⟩ =>
  ⟨ρ, st, μ, _, Z, hS, ht, fun x st1 H1 μ1 v hx e1 s1 rv => hr s1 rv hx (hQ.mono e1), hZ⟩
/-- a value's truth -/
def truD (st : Sto) : D → (Bool → Prop) → Prop
  | .non, Q => Q false
  | .bl b, Q => Q b
  | .int i, Q => Q (i != 0)
  | .str y, Q => y.length ≤ sizeLine ∧ Q ((y.length : Int) != 0)
  | .tup ds, Q => Q (!ds.isEmpty)
  | .fls ds, Q => Q (!ds.isEmpty)
  | .loc n, Q => match st[n]? with
    | some (.lst ds) => Q (!ds.isEmpty)
    | some (.dK kvs) => Q (!kvs.isEmpty)
    | _ => False
  | _, _ => False
theorem Reps.isEmpty {K : PySem.W.Frag} {H : Hp} {μ : List Addr} {ds : List D} {vs : List V} (h : Reps K H μ ds vs) : ds.isEmpty = vs.isEmpty := by
  have := h.length
  cases ds <;> cases vs <;> simp_all
theorem truD_ok {K : PySem.W.Frag} {H : Hp} {μ : List Addr} {st : Sto} {d : D} {v : V} {Q : Bool → Prop} (s : SRep K st μ H) (r : Rep K H μ d v) (h : truD st d Q) : ∃ k, TruV K v H k ∧ Q k := by
  cases d with
  | non => rw [show v = _ from r]; exact ⟨false, rfl, h⟩
  | bl b => rw [show v = _ from r]; exact ⟨b, rfl, h⟩
  | int i => rw [show v = _ from r]; exact ⟨i != 0, rfl, h⟩
  | str y => rw [show v = _ from r]; exact ⟨_, ⟨h.1, rfl⟩, h.2⟩
  | tup ds =>
    obtain ⟨a, vs, rfl, hs, hr⟩ := r
    exact ⟨_, .inr (.inl ⟨vs, hs, rfl⟩), by rw [← hr.isEmpty]; exact h⟩
  | fls ds =>
    obtain ⟨a, vs, rfl, hs, hr⟩ := r
    exact ⟨_, .inl ⟨vs, hs.sq, rfl⟩, by rw [← hr.isEmpty]; exact h⟩
  | loc n =>
    obtain ⟨a, rfl, hn⟩ := r
    simp only [truD] at h
    split at h
    · rename_i ds e
      obtain ⟨a', o, e1, e2, vs, rfl, hr⟩ := s.at' _ _ e
      rw [hn] at e1; cases e1
      exact ⟨_, .inl ⟨vs, .inl (.inl e2), rfl⟩, by rw [← hr.isEmpty]; exact h⟩
    · rename_i kvs e
      obtain ⟨a', o, e1, e2, gs, rfl, hk, hr⟩ := s.at' _ _ e
      rw [hn] at e1; cases e1
      refine ⟨_, .inr (.inr ⟨gs, e2, rfl⟩), ?_⟩
      have := congrArg List.length hk
      simp at this
      have e : kvs.isEmpty = gs.isEmpty := by
        cases kvs <;> cases gs <;> simp_all
      rw [← e]; exact h
    · exact h.elim
  | _ => exact (show False from h).elim
/-- a value as a test, by its truth -/
def dTru (t : DTE) : DTT := fun ρ st Q Z => t ρ st (fun x st1 => truD st1 x fun b => Q b st1) Z
theorem dt_tru (ha : DE X W a ta) (he : ∀ whole, isTrue a X.env whole = (do let v ← whole; standAt a.pos; holding [v] (truthy v)) := by intro _; rfl) : DT X W a (dTru ta) := pt_weak (pt_truth ha he) fun σ H Q ⟨ρ, st, μ, Qd, Z, hS, ht, hQ, hZ⟩ =>
  ⟨ρ, st, μ, _, Z, hS, ht, fun x st1 H1 μ1 v hx e1 s1 rv => by
    obtain ⟨k, hk, q⟩ := truD_ok s1 rv hx
    exact ⟨k, hk, hQ k st1 H1 μ1 q e1 s1⟩, hZ⟩
def dNot (t : DTT) : DTT := fun ρ st Q Z => t ρ st (fun b st1 => Q (!b) st1) Z
def dAnd (t u : DTT) : DTT := fun ρ st Q Z => t ρ st (fun b st1 => if b = true then u ρ st1 Q Z else Q false st1) Z
def dOr (t u : DTT) : DTT := fun ρ st Q Z => t ρ st (fun b st1 => if b = true then Q true st1 else u ρ st1 Q Z) Z
variable {t u : DTT} {rest : List Expr}
theorem dt_not (ha : DT X W a t) : DT X W (.UnaryOp .Not a pos) (dNot t) := pt_weak (pt_not ha) fun σ H Q ⟨ρ, st, μ, Qd, Z, hS, ht, hQ, hZ⟩ =>
  ⟨ρ, st, μ, _, Z, hS, ht, fun b st1 H1 μ1 hx e1 s1 => hQ _ _ _ _ hx e1 s1, hZ⟩
theorem dw_and1 (ha : DT X W a t) : DW X W (.BoolOp .And [a] pos) t := pw_and1 ha
theorem dw_or1 (ha : DT X W a t) : DW X W (.BoolOp .Or [a] pos) t := pw_or1 ha
theorem dw_and (ha : DT X W a t) (hb : DW X W (.BoolOp .And (b :: rest) pos) u) : DW X W (.BoolOp .And (a :: b :: rest) pos) (dAnd t u) := pw_weak (pw_and ha hb) fun σ H Q ⟨ρ, st, μ, Qd, Z, hS, ht, hQ, hZ⟩ =>
  ⟨ρ, st, μ, _, Z, hS, ht, fun k st1 H1 μ1 hx e1 s1 => by
    cases k with
    | true =>
      refine iteT ?_
      exact ⟨ρ, st1, μ1, Qd, Z, hS.mono e1 s1, hx, hQ.mono e1, hZ.mono e1⟩
    | false =>
      refine iteF ?_
      exact hQ _ _ _ _ hx e1 s1, hZ⟩
theorem dw_or (ha : DT X W a t) (hb : DW X W (.BoolOp .Or (b :: rest) pos) u) : DW X W (.BoolOp .Or (a :: b :: rest) pos) (dOr t u) := pw_weak (pw_or ha hb) fun σ H Q ⟨ρ, st, μ, Qd, Z, hS, ht, hQ, hZ⟩ =>
  ⟨ρ, st, μ, _, Z, hS, ht, fun k st1 H1 μ1 hx e1 s1 => by
    cases k with
    | true =>
      refine iteT ?_
      exact hQ _ _ _ _ hx e1 s1
    | false =>
      refine iteF ?_
      exact ⟨ρ, st1, μ1, Qd, Z, hS.mono e1 s1, hx, hQ.mono e1, hZ.mono e1⟩, hZ⟩
theorem dw_pt {e : Expr} (h : DW X W e t) : DT X W e t := h.pt
/-- a if t else b -/
def dIf (t : DTT) (ta tb : DTE) : DTE := fun ρ st Q Z => t ρ st (fun k st1 => if k = true then ta ρ st1 Q Z else tb ρ st1 Q Z) Z
theorem de_if (hc : DT X W c t) (ha : DE X W a ta) (hb : DE X W b tb) : DE X W (.IfExp c a b pos) (dIf t ta tb) := pe_weak (pe_ifExp hc ha hb) fun σ H Q ⟨ρ, st, μ, Qd, Z, hS, ht, hQ, hZ⟩ =>
  ⟨ρ, st, μ, _, Z, hS, ht, fun k st1 H1 μ1 hx e1 s1 => by
    cases k with
    | true =>
      refine iteT ?_
      exact ⟨ρ, st1, μ1, Qd, Z, hS.mono e1 s1, hx, hQ.mono e1, hZ.mono e1⟩
    | false =>
      refine iteF ?_
      exact ⟨ρ, st1, μ1, Qd, Z, hS.mono e1 s1, hx, hQ.mono e1, hZ.mono e1⟩, hZ⟩
end
end DL
namespace DL
open PySem L2 PySem.Spec
open PyProof.Rows hiding St
variable [TC : TabCtx]
section
variable {X : Cx} {W : WX} {a b c e : Expr} {ta tb tc te : DTE} {pos : Pos} {es rest : List Expr} {t : DTA}
def dAndV (ta tb : DTE) : DTE := fun ρ st Q Z => ta ρ st (fun x st1 => truD st1 x fun k => if k = true then tb ρ st1 Q Z else Q x st1) Z
def dOrV (ta tb : DTE) : DTE := fun ρ st Q Z => ta ρ st (fun x st1 => truD st1 x fun k => if k = true then Q x st1 else tb ρ st1 Q Z) Z
def dNotV (ta : DTE) : DTE := fun ρ st Q Z => ta ρ st (fun x st1 => truD st1 x fun k => Q (.bl (!k)) st1) Z
theorem de_one (ha : DE X W a ta) {op : BoolOp} : DE X W (.BoolOp op [a] pos) ta := pe_one ha
theorem de_and (ha : DE X W a ta) (hb : DE X W (.BoolOp .And (b :: rest) pos) tb) : DE X W (.BoolOp .And (a :: b :: rest) pos) (dAndV ta tb) := pe_weak (pe_andT ha hb) fun σ H Q ⟨ρ, st, μ, Qd, Z, hS, ht, hQ, hZ⟩ =>
  ⟨ρ, st, μ, _, Z, hS, ht, fun x st1 H1 μ1 v hx e1 s1 rv => by
    obtain ⟨k, hk, q⟩ := truD_ok s1 rv hx
    refine ⟨k, hk, ?_⟩
    cases k with
    | true => exact iteT ⟨ρ, st1, μ1, Qd, Z, hS.mono e1 s1, q, hQ.mono e1, hZ.mono e1⟩
    | false => exact iteF (hQ _ _ _ _ _ q e1 s1 rv), hZ⟩
theorem de_or (ha : DE X W a ta) (hb : DE X W (.BoolOp .Or (b :: rest) pos) tb) : DE X W (.BoolOp .Or (a :: b :: rest) pos) (dOrV ta tb) := pe_weak (pe_orT ha hb) fun σ H Q ⟨ρ, st, μ, Qd, Z, hS, ht, hQ, hZ⟩ =>
  ⟨ρ, st, μ, _, Z, hS, ht, fun x st1 H1 μ1 v hx e1 s1 rv => by
    obtain ⟨k, hk, q⟩ := truD_ok s1 rv hx
    refine ⟨k, hk, ?_⟩
    cases k with
    | true => exact iteT (hQ _ _ _ _ _ q e1 s1 rv)
    | false => exact iteF ⟨ρ, st1, μ1, Qd, Z, hS.mono e1 s1, q, hQ.mono e1, hZ.mono e1⟩, hZ⟩
theorem de_not (ha : DE X W a ta) : DE X W (.UnaryOp .Not a pos) (dNotV ta) := pe_weak (pe_notT ha) fun σ H Q ⟨ρ, st, μ, Qd, Z, hS, ht, hQ, hZ⟩ =>
  ⟨ρ, st, μ, _, Z, hS, ht, fun x st1 H1 μ1 v hx e1 s1 rv => by
    obtain ⟨k, hk, q⟩ := truD_ok s1 rv hx
    exact ⟨k, hk, hQ _ _ _ _ _ q e1 s1 rfl⟩, hZ⟩
def dNil : DTA := fun _ st Q _ => Q [] st
def dCons (ta : DTE) (tr : DTA) : DTA := fun ρ st Q Z => ta ρ st (fun x st1 => tr ρ st1 (fun xs st2 => Q (x :: xs) st2) Z) Z
theorem da_nil : DA X W [] dNil := pa_weak pa_nil fun σ H Q ⟨ρ, st, μ, Qd, Z, hS, ht, hQ, hZ⟩ => hQ [] st H μ [] ht (Ext.refl _ _) hS.s rfl
theorem da_cons (ha : DE X W a ta) (hr : DA X W es t) (hs : starEach (a :: es) X.env = (false, eval a X.env) :: starEach es X.env := by rfl) : DA X W (a :: es) (dCons ta t) :=
  pa_weak (pa_cons ha hr hs) fun σ H Q ⟨ρ, st, μ, Qd, Z, hS, ht, hQ, hZ⟩ => ⟨ρ, st, μ, _, Z, hS, ht, fun x st1 H1 μ1 v hx e1 s1 rv =>
    ⟨ρ, st1, μ1, _, Z, hS.mono e1 s1, hx, fun xs st2 H2 μ2 vs hxs e2 s2 rvs => hQ _ _ _ _ _ hxs (e1.trans e2) s2 ⟨v, vs, rfl, rv.mono e2, rvs⟩, hZ.mono e1⟩, hZ⟩
def dTup (t : DTA) : DTE := fun ρ st Q Z => t ρ st (fun xs st1 => xs.length ≤ sizeLine ∧ Q (.tup xs) st1) Z
def dLst (t : DTA) : DTE := fun ρ st Q Z => t ρ st (fun xs st1 => xs.length ≤ sizeLine ∧ Q (.loc st1.length) (st1 ++ [.lst xs])) Z
/-- a new tuple's address -/
theorem EOk.tup {K : PySem.W.Frag} {Qd : DK} {Q : VK} {H H1 : Hp} {μ μ1 : List Addr} {ds : List D} {vs : List V} {st1 : Sto} (hQ : EOk K Qd Q H μ) (e1 : Ext H H1 μ μ1) (s1 : SRep K st1 μ1 H1) (r : Reps K H1 μ1 ds vs) (q : Qd (.tup ds) st1) {p : Addr} (hp : H1 p = none) :
    Q (.ref p) (upd H1 p (.tup vs)) :=
  hQ _ _ _ _ _ q (e1.trans (Ext.laid hp)) (s1.laid hp) ⟨p, vs, rfl, .inl (.inl upd_same), r.mono (Ext.laid hp)⟩
theorem getElem?_end {α : Type} (l : List α) (x : α) : (l ++ [x])[l.length]? = some x := by simp
/-- a new list's address -/
theorem EOk.lst {K : PySem.W.Frag} {Qd : DK} {Q : VK} {H H1 : Hp} {μ μ1 : List Addr} {ds : List D} {vs : List V} {st1 : Sto} (hQ : EOk K Qd Q H μ) (e1 : Ext H H1 μ μ1) (s1 : SRep K st1 μ1 H1) (r : Reps K H1 μ1 ds vs) (q : Qd (.loc st1.length) (st1 ++ [.lst ds])) {p : Addr} (hp : H1 p = none) :
    Q (.ref p) (upd H1 p (.lst vs)) :=
  hQ _ _ _ _ _ q (e1.trans (Ext.push hp)) (s1.push hp ⟨vs, rfl, r.mono (Ext.push hp)⟩) ⟨p, rfl, by rw [s1.len]; exact getElem?_end _ _⟩
theorem de_tup {x1 : Nat} (h : DA X W es t) : DE X W (.Tuple es x1 pos) (dTup t) := pe_weak (pe_tup h) fun σ H Q ⟨ρ, st, μ, Qd, Z, hS, ht, hQ, hZ⟩ =>
  ⟨ρ, st, μ, _, Z, hS, ht, fun xs st1 H1 μ1 vs hx e1 s1 rv => ⟨by rw [← rv.length]; exact hx.1, fun p hp => hQ.tup e1 s1 rv hx.2 hp⟩, hZ⟩
theorem de_lst (h : DA X W es t) : DE X W (.List es pos) (dLst t) := pe_weak (pe_lst h) fun σ H Q ⟨ρ, st, μ, Qd, Z, hS, ht, hQ, hZ⟩ =>
  ⟨ρ, st, μ, _, Z, hS, ht, fun xs st1 H1 μ1 vs hx e1 s1 rv => ⟨by rw [← rv.length]; exact hx.1, fun p hp => hQ.lst e1 s1 rv hx.2 hp⟩, hZ⟩
abbrev DN := List D → Sto → DK → Prop
def DCl (K : PySem.W.Frag) (r : List V → Hp → VK → Prop) (dr : DN) : Prop :=
  ∀ {H : Hp} {μ : List Addr} {st : Sto} {ds : List D} {vs : List V} {Qd : DK} {Q : VK}, SRep K st μ H → Reps K H μ ds vs → dr ds st Qd → EOk K Qd Q H μ → r vs H Q
def dCB (dr : DN) (t : DTA) : DTE := fun ρ st Q Z => t ρ st (fun xs st1 => dr xs st1 Q) Z
variable {id T : String} {x : Str} {p : Pos} {r : List V → Hp → VK → Prop} {dr : DN}
theorem de_callB (hc : CallR X (.builtin id) r) (hr : DCl X.K r dr) (hg : Gl X x) (hm : X.mg x = none) (hv : bootBuiltins x = some (.builtin id)) (ha : DA X W (e :: es) t) (hn : x ≠ "__name__" := by decide) (hdb : (x == ("__debug__" : Str)) = false := by decide)
    (he : starEach (e :: es) X.env = (false, eval e X.env) :: starEach es X.env := by rfl) (hpl : (backTo pos (starEach es X.env)).any (·.1) = false := by rfl) : DE X W (.Call (.Name x p) (e :: es) [] pos) (dCB dr t) :=
  pe_weak (pe_callB hc hg hm hv ha hn hdb he hpl) fun σ H Q ⟨ρ, st, μ, Qd, Z, hS, ht, hQ, hZ⟩ => ⟨ρ, st, μ, _, Z, hS, ht, fun xs st1 H1 μ1 vs hx e1 s1 rv => hr s1 rv hx (hQ.mono e1), hZ⟩
theorem de_callTy (hc : CallR X (.type T) r) (hr : DCl X.K r dr) (hg : Gl X x) (hm : X.mg x = none) (hv : bootBuiltins x = some (.type T)) (ha : DA X W (e :: es) t) (hn : x ≠ "__name__" := by decide) (hdb : (x == ("__debug__" : Str)) = false := by decide)
    (he : starEach (e :: es) X.env = (false, eval e X.env) :: starEach es X.env := by rfl) (hpl : (backTo pos (starEach es X.env)).any (·.1) = false := by rfl) : DE X W (.Call (.Name x p) (e :: es) [] pos) (dCB dr t) :=
  pe_weak (pe_callTy hc hg hm hv ha hn hdb he hpl) fun σ H Q ⟨ρ, st, μ, Qd, Z, hS, ht, hQ, hZ⟩ => ⟨ρ, st, μ, _, Z, hS, ht, fun xs st1 H1 μ1 vs hx e1 s1 rv => hr s1 rv hx (hQ.mono e1), hZ⟩
/-- methods of built-in types -/
def tyD (st : Sto) (T : String) : D → Prop
  | .str _ => T = "str"
  | .fls _ => T = "list"
  | .loc n => match st[n]? with
    | some (.lst _) => T = "list"
    | some (.dK _) => T = "dict"
    | _ => False
  | _ => False
theorem tyD_ok {K : PySem.W.Frag} {st : Sto} {μ : List Addr} {H : Hp} {d : D} {v : V} (s : SRep K st μ H) (r : Rep K H μ d v) (h : tyD st T d) : tyV K T v H := by
  cases d with
  | str y => rw [show v = _ from r]; exact h
  | fls ds => obtain ⟨a, vs, rfl, hf, _⟩ := r; exact .inl ⟨h, vs, hf.sq⟩
  | loc n =>
    obtain ⟨a, rfl, hn⟩ := r
    simp only [tyD] at h
    split at h
    · rename_i ds e
      obtain ⟨a', o, e1, e2, vs, rfl, hr⟩ := s.at' _ _ e
      rw [hn] at e1; cases e1
      exact .inl ⟨h, vs, .inl (.inl e2)⟩
    · rename_i kvs e
      obtain ⟨a', o, e1, e2, gs, rfl, hk, hr⟩ := s.at' _ _ e
      rw [hn] at e1; cases e1
      exact .inr (.inr (.inl ⟨h, .inl ⟨gs, e2⟩⟩))
    · exact h.elim
  | _ => exact (show False from h).elim
abbrev DM := D → List D → Sto → DK → Prop
def DMt (K : PySem.W.Frag) (r : V → List V → Hp → VK → Prop) (dr : DM) : Prop :=
  ∀ {H : Hp} {μ : List Addr} {st : Sto} {x : D} {v : V} {ds : List D} {vs : List V} {Qd : DK} {Q : VK}, SRep K st μ H → Rep K H μ x v → Reps K H μ ds vs → dr x ds st Qd → EOk K Qd Q H μ → r v vs H Q
def dBM (T : String) (dr : DM) (to : DTE) (t : DTA) : DTE := fun ρ st Q Z => to ρ st (fun x st1 => tyD st1 T x ∧ t ρ st1 (fun xs st2 => dr x xs st2 Q) Z) Z
variable {o : Expr} {to : DTE} {name : Str} {apos cpos : Pos} {rm : V → List V → Hp → VK → Prop} {dm : DM}
theorem de_bm (pa : PlainAttrs T) (slot : Slot T name id) (hty : typeOf (.builtin id) = pure (.type "method_descriptor")) (hm : MtR X id rm) (hr : DMt X.K rm dm) (ho : DE X W o to) (ha : DA X W (e :: es) t)
    (hbase : attributeBase o name X.env (eval o X.env) = eval o X.env := by rfl)
    (hfew : ((backTo cpos (starEach (e :: es) X.env)).all (fun x => !x.1) && (backToKw cpos (keywordEach [] X.env)).all (fun x => x.1.isSome)
      && decide ((e :: es).length + ([] : List Keyword).length + (if ([] : List Keyword).isEmpty then 0 else 1) < 30)) = true := by rfl)
    (hline : (apos.endLine == cpos.line) = true := by rfl) (hs : starEach (e :: es) X.env = (false, eval e X.env) :: starEach es X.env := by rfl) (hplain : (backTo cpos (starEach es X.env)).any (·.1) = false := by rfl) :
    DE X W (.Call (.Attribute o name apos) (e :: es) [] cpos) (dBM T dm to t) := pe_weak (pe_bm pa slot hty hm ho ha hbase hfew hline hs hplain) fun σ H Q ⟨ρ, st, μ, Qd, Z, hS, ht, hQ, hZ⟩ =>
  ⟨ρ, st, μ, _, Z, hS, ht, fun x st1 H1 μ1 v hx e1 s1 rv => ⟨tyD_ok s1 rv hx.1, ρ, st1, μ1, _, Z, hS.mono e1 s1, hx.2, fun xs st2 H2 μ2 vs hxs e2 s2 rvs => hr s2 (rv.mono e2) rvs hxs (hQ.mono (e1.trans e2)), hZ.mono e1⟩, hZ⟩
theorem de_bm0 (pa : PlainAttrs T) (slot : Slot T name id) (hty : typeOf (.builtin id) = pure (.type "method_descriptor")) (hm : MtR X id rm) (hr : DMt X.K rm dm) (ho : DE X W o to)
    (hbase : attributeBase o name X.env (eval o X.env) = eval o X.env := by rfl) (hline : (apos.endLine == cpos.line) = true := by rfl) : DE X W (.Call (.Attribute o name apos) [] [] cpos) (dBM T dm to dNil) := pe_weak (pe_bm0 pa slot hty hm ho hbase hline) fun σ H Q ⟨ρ, st, μ, Qd, Z, hS, ht, hQ, hZ⟩ =>
  ⟨ρ, st, μ, _, Z, hS, ht, fun x st1 H1 μ1 v hx e1 s1 rv => ⟨tyD_ok s1 rv hx.1, hr (ds := []) s1 rv (show Reps X.K H1 μ1 [] [] from rfl) hx.2 (hQ.mono e1)⟩, hZ⟩
def dIx : D2 := fun x y st Q => match y with
  | .int i => match x with
    | .tup ds => ∃ d, atI ds i = some d ∧ Q d st
    | .fls ds => ∃ d, atI ds i = some d ∧ Q d st
    | .loc n => ∃ ds d, st[n]? = some (.lst ds) ∧ atI ds i = some d ∧ Q d st
    | .str z => ∃ c, z.length ≤ sizeLine ∧ atI z.cps.toList i = some c ∧ Q (.str ⟨#[c]⟩) st
    | _ => False
  | _ => False
theorem atI_rep {K : PySem.W.Frag} {H : Hp} {μ : List Addr} {ds : List D} {vs : List V} {i : Int} {d : D} (r : Reps K H μ ds vs) (h : atI ds i = some d) : ∃ v, atI vs i = some v ∧ Rep K H μ d v := by
  unfold atI at h ⊢
  rw [← r.length]
  cases e : ixN ds.length i with
  | none => rw [e] at h; cases h
  | some j =>
    rw [e] at h
    exact r.get h
theorem ix_ok {K : PySem.W.Frag} : DOp K (rIx K) dIx := by
  intro H μ st x y v u Qd Q s rx ry h hQ
  cases y with
  | int i =>
    rw [show u = _ from ry]
    cases x with
    | tup ds =>
      obtain ⟨a, vs, rfl, ht, hr⟩ := rx
      obtain ⟨d, hd, q⟩ := h
      obtain ⟨w, hw, rw'⟩ := atI_rep hr hd
      exact .inr (.inl ⟨a, vs, i, w, rfl, rfl, ht, hw, hQ _ _ _ _ _ q (Ext.refl _ _) s rw'⟩)
    | fls ds =>
      obtain ⟨a, vs, rfl, ht, hr⟩ := rx
      obtain ⟨d, hd, q⟩ := h
      obtain ⟨w, hw, rw'⟩ := atI_rep hr hd
      exact .inl ⟨a, vs, i, w, rfl, rfl, ht.sq, hw, hQ _ _ _ _ _ q (Ext.refl _ _) s rw'⟩
    | loc n =>
      obtain ⟨a, rfl, hn⟩ := rx
      obtain ⟨ds, d, hds, hd, q⟩ := h
      obtain ⟨a', o, e1, e2, vs, rfl, hr⟩ := s.at' _ _ hds
      rw [hn] at e1; cases e1
      obtain ⟨w, hw, rw'⟩ := atI_rep hr hd
      exact .inl ⟨a, vs, i, w, rfl, rfl, .inl (.inl e2), hw, hQ _ _ _ _ _ q (Ext.refl _ _) s rw'⟩
    | str z =>
      rw [show v = _ from rx]
      obtain ⟨c, hz, hc, q⟩ := h
      exact .inr (.inr ⟨z, i, c, rfl, rfl, hz, hc, hQ _ _ _ _ _ q (Ext.refl _ _) s rfl⟩)
    | _ => exact h.elim
  | _ => exact (show False from h).elim
theorem de_ix (ha : DE X W a ta) (hb : DE X W b tb) (hs : PlainIx b := by intro _ _; rfl) : DE X W (.Subscript a b pos) (dOp dIx ta tb) := pe_weak (pe_ix ix_seq ha hb hs) fun σ H Q h => lift2 ix_ok σ H Q h
abbrev DTO := Env' → Sto → (Option Int → Sto → Prop) → DZ → Prop
def liftO (K : PySem.W.Frag) (W : WX) (t : DTO) : TO := fun σ H Q => ∃ ρ st μ Qd Z, Stt K ρ st μ σ H ∧ t ρ st Qd Z ∧ (∀ o st' H' μ', Qd o st' → Ext H H' μ μ' → SRep K st' μ' H' → Q o H') ∧ ZOk K W Z H μ
abbrev DO (X : Cx) (W : WX) (e : Option Expr) (t : DTO) : Prop := PO X e (liftO X.K W t)
theorem po_weak {e : Option Expr} {t u : TO} (h : PO X e t) (w : ∀ σ H Q, u σ H Q → t σ H Q) : PO X e u := ⟨fun pins s σ H Q I q => h.run pins s σ H Q I (w σ H Q q)⟩
def dNoPart : DTO := fun _ st Q _ => Q none st
def dPart (t : DTE) : DTO := fun ρ st Q Z => t ρ st (fun x st1 => match x with | .int i => Q (some i) st1 | _ => False) Z
theorem do_none : DO X W none dNoPart := po_weak po_none fun σ H Q ⟨ρ, st, μ, Qd, Z, hS, ht, hQ, hZ⟩ => hQ none st H μ ht (Ext.refl _ _) hS.s
theorem do_some (ha : DE X W a ta) : DO X W (some a) (dPart ta) := po_weak (po_some ha) fun σ H Q ⟨ρ, st, μ, Qd, Z, hS, ht, hQ, hZ⟩ =>
  ⟨ρ, st, μ, _, Z, hS, ht, fun x st1 H1 μ1 v hx e1 s1 rv => by
    cases x with
    | int i => exact ⟨i, rv, hQ _ _ _ _ hx e1 s1⟩
    | _ => exact hx.elim, hZ⟩
def cutL {α : Type} (xs : List α) (lo hi : Option Int) : List α := (xs.drop (HT.sIx xs.length 0 lo)).take (HT.sIx xs.length xs.length hi - HT.sIx xs.length 0 lo)
theorem cutL_rep {K : PySem.W.Frag} {H : Hp} {μ : List Addr} {ds : List D} {vs : List V} (lo hi : Option Int) (r : Reps K H μ ds vs) : Reps K H μ (cutL ds lo hi) (cutV vs lo hi) := by
  unfold cutL cutV
  rw [← r.length]
  exact (r.drop _).take _
def dSlV : D → Option Int → Option Int → Sto → DK → Prop := fun x lo hi st Q => match x with
  | .tup ds => Q (.tup (cutL ds lo hi)) st
  | .fls ds => Q (.loc st.length) (st ++ [.lst (cutL ds lo hi)])
  | .loc n => ∃ ds, st[n]? = some (.lst ds) ∧ Q (.loc st.length) (st ++ [.lst (cutL ds lo hi)])
  | .str z => z.length ≤ sizeLine ∧ Q (.str (cutS z lo hi)) st
  | _ => False
def dSl (te : DTE) (tl th : DTO) : DTE := fun ρ st Q Z => te ρ st (fun x st1 => tl ρ st1 (fun l st2 => th ρ st2 (fun u st3 => dSlV x l u st3 Q) Z) Z) Z
theorem HT.whole {α : Type} {xs : List α} {lo hi : Option Int} (h : HT.sIx xs.length 0 lo = 0 ∧ HT.sIx xs.length xs.length hi = xs.length) : cutL xs lo hi = xs := by
  unfold cutL
  rw [h.1, h.2]
  simp
theorem de_slice {lo hi : Option Expr} {tl th : DTO} {p2 : Pos} (ha : DE X W a ta) (hl : DO X W lo tl) (hh : DO X W hi th) : DE X W (.Subscript a (.Slice lo hi none p2) pos) (dSl ta tl th) :=
  pe_weak (pe_slice (sl_list.or (sl_tupA.or sl_str)) ha hl hh) fun σ H Q ⟨ρ, st, μ, Qd, Z, hS, ht, hQ, hZ⟩ =>
  ⟨ρ, st, μ, _, Z, hS, ht, fun x st1 H1 μ1 v hx e1 s1 rv => ⟨ρ, st1, μ1, _, Z, hS.mono e1 s1, hx, fun l st2 H2 μ2 hy e2 s2 => ⟨ρ, st2, μ2, _, Z, hS.mono (e1.trans e2) s2, hy, fun u st3 H3 μ3 hz e3 s3 => by
    have rv3 := rv.mono (e2.trans e3)
    have e := (e1.trans e2).trans e3
    cases x with
    | tup ds =>
      obtain ⟨a, vs, rfl, ht, hr⟩ := rv3
      refine .inr (.inl ⟨a, vs, rfl, ht, fun h => ?_, fun _ p hp => ?_⟩)
      · have hz' : Qd (.tup (cutL ds l u)) st3 := hz
        rw [HT.whole (by rw [hr.length]; exact h)] at hz'
        exact hQ _ _ _ _ _ hz' e s3 ⟨a, vs, rfl, ht, hr⟩
      · exact hQ.tup e s3 (cutL_rep l u hr) hz hp
    | fls ds =>
      obtain ⟨a, vs, rfl, ht, hr⟩ := rv3
      exact .inl ⟨a, vs, rfl, ht.sq, fun p hp => hQ.lst e s3 (cutL_rep l u hr) hz hp⟩
    | loc n =>
      obtain ⟨a, rfl, hn⟩ := rv3
      obtain ⟨ds, hds, hz⟩ := hz
      obtain ⟨a', o, q1, q2, vs, rfl, hr⟩ := s3.at' _ _ hds
      rw [hn] at q1; cases q1
      exact .inl ⟨a, vs, rfl, .inl (.inl q2), fun p hp => hQ.lst e s3 (cutL_rep l u hr) hz hp⟩
    | str z =>
      rw [show v = _ from rv3]
      exact .inr (.inr ⟨z, rfl, hz.1, hQ _ _ _ _ _ hz.2 e s3 rfl⟩)
    | _ => exact hz.elim, hZ.mono (e1.trans e2)⟩, hZ.mono e1⟩, hZ⟩
end
end DL
namespace DL
open PySem L2 PySem.Spec
open PyProof.Rows hiding St
variable [TC : TabCtx]
section
variable {X : Cx} {W : WX} {a b c e : Expr} {ta tb tc te : DTE} {pos : Pos} {s : Stmt} {rest : List Stmt} {t u : DTS}
def dNext : DTS := fun E ρ st => E.nx ρ st
def dSeq (t u : DTS) : DTS := fun E ρ st => t { E with nx := u E } ρ st
theorem SOk.with_nx {K : PySem.W.Frag} {DD : DEnds} {D : Ends} {H : Hp} {μ : List Addr} {qd : Env' → Sto → Prop} {q : St → Hp → Prop} (z : SOk K W DD D H μ) (n : NOk K qd q H μ) : SOk K W { DD with nx := qd } { D with nx := q } H μ := ⟨n, z.rt, z.bk, z.ct, z.xs⟩
theorem dss_nil : DSs X W [] dNext := pss_weak pss_nil fun D σ H ⟨ρ, st, μ, DD, hS, ht, hO⟩ => hO.nx _ _ _ _ _ ht (Ext.refl _ _) hS
theorem dss_cons (h1 : DS X W s t) (h2 : DSs X W rest u) : DSs X W (s :: rest) (dSeq t u) := pss_weak (pss_cons h1 h2) fun D σ H ⟨ρ, st, μ, DD, hS, ht, hO⟩ =>
  ⟨ρ, st, μ, _, hS, ht, hO.with_nx fun ρ' st' σ' H' μ' q e s' => ⟨ρ', st', μ', DD, s', q, hO.mono e⟩⟩
theorem dss_one (h1 : DS X W s t) : DSs X W [s] t := pss_one h1
def dDrop (te : DTE) : DTS := fun E ρ st => te ρ st (fun _ st1 => E.nx ρ st1) E.xs
theorem ds_expr (he : DE X W e te) (hs : swapsWith e none pos.line X.env = pure false := by rfl) : DS X W (.Expr e pos) (dDrop te) := ps_weak (ps_expr he hs) fun D σ H ⟨ρ, st, μ, DD, hS, ht, hO⟩ =>
  ⟨ρ, st, μ, _, _, hS, ht, fun d st1 H1 μ1 v q e1 s1 _ => hO.nx _ _ _ _ _ q e1 (hS.mono e1 s1), hO.xs⟩
def dRet (te : DTE) : DTS := fun E ρ st => te ρ st E.rt E.xs
theorem ds_ret (he : DE X W e te) : DS X W (.Return (some e) pos) (dRet te) := ps_weak (ps_ret he) fun D σ H ⟨ρ, st, μ, DD, hS, ht, hO⟩ => ⟨ρ, st, μ, _, _, hS, ht, hO.rt, hO.xs⟩
def dIfS (c : DTT) (t u : DTS) : DTS := fun E ρ st => c ρ st (fun b st1 => if b = true then t E ρ st1 else u E ρ st1) E.xs
theorem ds_if {tc : DTT} {x y : List Stmt} (hc : DT X W c tc) (ha : DSs X W x t) (hb : DSs X W y u) : DS X W (.If c x y pos) (dIfS tc t u) := ps_weak (ps_if hc ha hb) fun D σ H ⟨ρ, st, μ, DD, hS, ht, hO⟩ =>
  ⟨ρ, st, μ, _, _, hS, ht, fun k st1 H1 μ1 hx e1 s1 => by
    cases k with
    | true => exact iteT ⟨ρ, st1, μ1, DD, hS.mono e1 s1, hx, hO.mono e1⟩
    | false => exact iteF ⟨ρ, st1, μ1, DD, hS.mono e1 s1, hx, hO.mono e1⟩, hO.xs⟩
def dNever : DTS := fun _ _ _ => False
theorem ds_never : DS X W s dNever := ps_weak ps_never fun _ _ _ ⟨_, _, _, _, _, h, _⟩ => h
def gN (i : Nat) : DTG := fun d ρ st Q => Q (ρ.set i (some d)) st
theorem wipe_set (σ : St) (i : Nat) (v : Option V) : ∀ vs : List Nat, i ∈ vs → wipe (σ.set i v) vs = wipe σ vs
  | x :: vs, h => by
    unfold wipe
    rcases List.mem_cons.mp h with h | h
    · subst h
      by_cases hm : i ∈ vs
      · rw [wipe_set σ i v vs hm]
      · have : ∀ (vs : List Nat) (σ : St), i ∉ vs → wipe (σ.set i v) vs = (wipe σ vs).set i v := by
          intro vs
          induction vs with
          | nil => intro σ _; rfl
          | cons y ys ih =>
            intro σ hn
            unfold wipe
            rw [ih σ (fun z => hn (List.mem_cons_of_mem _ z)), List.set_comm]
            intro e
            exact hn (e ▸ List.mem_cons_self)
        rw [this vs σ hm, List.set_set]
    · rw [wipe_set σ i v vs h]
theorem dg_name {i : Nat} {x : Str} (hN : X.N.Nodup) (hi : X.N[i]? = some x) (hx : Loc X.env.scope x) (hf : X.fn x = true ∨ X.env.scope.names.lookup x = some .local := by first | exact .inl rfl | exact .inr rfl | assumption) : DG X [i] (.Name x pos) (gN i) :=
  pg_weak (pg_name hN hi hx hf) fun v σ H Q ⟨d, ρ, st, μ, Qd, hS, rv, ht, hk⟩ => hk _ _ _ _ _ ht (Ext.refl _ _) ⟨hS.e.set i rv, hS.s⟩ fun vs hv => wipe_set _ _ _ _ (hv i List.mem_cons_self)
abbrev DTGs := List D → Env' → Sto → (Env' → Sto → Prop) → Prop
def liftGs (K : PySem.W.Frag) (ws : List Nat) (t : DTGs) : TGs := fun vs σ H Q => ∃ ds ρ st μ Qd, Stt K ρ st μ σ H ∧ Reps K H μ ds vs ∧ t ds ρ st Qd ∧
  ∀ ρ' st' σ' H' μ', Qd ρ' st' → Ext H H' μ μ' → Stt K ρ' st' μ' σ' H' → (∀ vs, (∀ w ∈ ws, w ∈ vs) → wipe σ' vs = wipe σ vs) → Q σ' H'
theorem pgs_weak {es : List Expr} {t u : TGs} (h : PGs X es t) (w : ∀ v σ H Q, u v σ H Q → t v σ H Q) : PGs X es u := ⟨fun pins s σ H v u Q I r q => h.run pins s σ H v u Q I r (w v σ H Q q)⟩
def gNil' : DTGs := fun ds ρ st Q => match ds with | [] => Q ρ st | _ => False
def gCons' (t : DTG) (u : DTGs) : DTGs := fun ds ρ st Q => match ds with | d :: r => t d ρ st fun ρ' st' => u r ρ' st' Q | _ => False
theorem dgs_nil : PGs X [] (liftGs X.K [] gNil') := pgs_weak pgs_nil fun vs σ H Q ⟨ds, ρ, st, μ, Qd, hS, rv, ht, hk⟩ => by
  cases ds with
  | nil => exact ⟨rv, hk _ _ _ _ _ ht (Ext.refl _ _) hS fun _ _ => rfl⟩
  | cons d r => exact ht.elim
theorem dgs_cons {es : List Expr} {w1 w2 : List Nat} {t : DTG} {u : DTGs} (h1 : DG X w1 e t) (h2 : PGs X es (liftGs X.K w2 u)) (hs : (assignEach (e :: es) X.env).map (·.2) = assign e X.env :: (assignEach es X.env).map (·.2) := by rfl) :
    PGs X (e :: es) (liftGs X.K (w1 ++ w2) (gCons' t u)) := pgs_weak (pgs_cons h1 h2 hs) fun vs σ H Q ⟨ds, ρ, st, μ, Qd, hS, rv, ht, hk⟩ => by
  cases ds with
  | nil => exact ht.elim
  | cons d r =>
    obtain ⟨v, vr, rfl, r1, r2⟩ := rv
    refine ⟨v, vr, rfl, d, ρ, st, μ, _, hS, r1, ht, fun ρ' st' σ' H' μ' q e1 s1 hw => ⟨r, ρ', st', μ', _, s1, r2.mono e1, q, fun ρ2 st2 σ2 H2 μ2 q2 e2 s2 hw2 => ?_⟩⟩
    exact hk _ _ _ _ _ q2 (e1.trans e2) s2 fun vs hv => (hw2 vs fun w m => hv w (List.mem_append_right _ m)).trans (hw vs fun w m => hv w (List.mem_append_left _ m))
def gTup' (n : Nat) (t : DTGs) : DTG := fun d ρ st Q => match d with | .tup ds => ds.length = n ∧ t ds ρ st Q | _ => False
theorem dg_tup {es : List Expr} {k n : Nat} {ws : List Nat} {t : DTGs} (hc : X.calm = true) (h : PGs X es (liftGs X.K ws t))
    (hn : (assignEach es X.env).length = n := by rfl) (hst : (assignEach es X.env).findIdx? (·.1) = none := by rfl) : DG X ws (.Tuple es k pos) (gTup' n t) :=
  pg_weak (pg_tup hc h hn hst) fun v σ H Q ⟨d, ρ, st, μ, Qd, hS, rv, ht, hk⟩ => by
    cases d with
    | tup ds =>
      obtain ⟨a, vs, rfl, hs, hr⟩ := rv
      exact ⟨a, vs, rfl, hs, by rw [← hr.length]; exact ht.1, ds, ρ, st, μ, Qd, hS, hr, ht.2, hk⟩
    | _ => exact ht.elim
/-- target = value -/
def dAsg (te : DTE) (g : DTG) : DTS := fun E ρ st => te ρ st (fun x st1 => g x ρ st1 E.nx) E.xs
theorem ds_asg {tg : Expr} {g : DTG} {ws : List Nat} (he : DE X W e te) (hg : DG X ws tg g) (hs : swapsWithSole [tg] e pos.line X.env = pure false := by rfl) (hw : swappedStores [tg] e X.env = pure none := by rfl)
    (h1 : (assignEach [tg] X.env).map (·.2) = [assign tg X.env] := by rfl) : DS X W (.Assign [tg] e pos) (dAsg te g) := ps_weak (ps_asg he hg hs hw h1) fun D σ H ⟨ρ, st, μ, DD, hS, ht, hO⟩ =>
  ⟨ρ, st, μ, _, _, hS, ht, fun x st1 H1 μ1 v hx e1 s1 rv => ⟨x, ρ, st1, μ1, _, hS.mono e1 s1, rv, hx, fun ρ' st' σ' H' μ' q e2 s2 _ => hO.nx _ _ _ _ _ q (e1.trans e2) s2⟩, hO.xs⟩
theorem ds_set {i : Nat} {x : Str} {pos' : Pos} (hN : X.N.Nodup) (hi : X.N[i]? = some x) (hx : Loc X.env.scope x) (he : DE X W e te) (hs : swapsWith e (some (.Name x pos')) pos.line X.env = pure false := by rfl) (hf : X.fn x = true ∨ X.env.scope.names.lookup x = some .local := by first | exact .inl rfl | exact .inr rfl | assumption) :
    DS X W (.Assign [.Name x pos'] e pos) (dAsg te (gN i)) := ps_weak (ps_set hN hi hx he hs hf) fun D σ H ⟨ρ, st, μ, DD, hS, ht, hO⟩ =>
  ⟨ρ, st, μ, _, _, hS, ht, fun x st1 H1 μ1 v hx e1 s1 rv => hO.nx _ _ _ _ _ hx e1 ⟨(hS.e.mono e1).set i rv, s1⟩, hO.xs⟩
/-- a, b = x, y by the right sides' values -/
def dPar (i j : Nat) (ta : DTA) : DTS := fun E ρ st => ta ρ st (fun vs st1 => match vs with | [v, w] => E.nx ((ρ.set i (some v)).set j (some w)) st1 | _ => False) E.xs
theorem ds_par {i j : Nat} {x y : Str} {ta : DTA} {px py pt : Pos} {kt k2 : Nat} {pt2 : Pos} (hc : X.calm = true) (hN : X.N.Nodup) (hi : X.N[i]? = some x) (hj : X.N[j]? = some y) (hij : i ≠ j)
    (hx : X.env.scope.names.lookup x = some .local) (hy : X.env.scope.names.lookup y = some .local) (ha : DA X W [a, b] ta)
    (hw : swappedStores [.Tuple [.Name x px, .Name y py] kt pt] (.Tuple [a, b] k2 pt2) X.env = pure (some [x, y]))
    (hs : swapsWithSole [.Tuple [.Name x px, .Name y py] kt pt] (.Tuple [a, b] k2 pt2) pos.line X.env = pure false := by rfl) :
    DS X W (.Assign [.Tuple [.Name x px, .Name y py] kt pt] (.Tuple [a, b] k2 pt2) pos) (dPar i j ta) := ps_weak (ps_par hc hN hi hj hij hx hy ha hw hs) fun D σ H ⟨ρ, st, μ, DD, hS, ht, hO⟩ =>
  ⟨ρ, st, μ, _, _, hS, ht, fun ds st1 H1 μ1 vs hx e1 s1 rv => by
    match ds, hx, rv with
    | [d1, d2], hx, rv =>
      obtain ⟨v, r, rfl, r1, w, r', rfl, r2, rfl⟩ := rv
      exact ⟨v, w, rfl, hO.nx _ _ _ _ _ hx e1 ⟨((hS.e.mono e1).set i r1).set j r2, s1⟩⟩, hO.xs⟩
def dAug (i : Nat) (te : DTE) (dr : D2) : DTS := fun E ρ st => match ρ[i]? with
  | some (some x) => te ρ st (fun y st1 => dr x y st1 fun z st2 => E.nx (ρ.set i (some z)) st2) E.xs
  | _ => False
/-- o[i] = v -/
abbrev D3 := D → D → D → Sto → (Sto → Prop) → Prop
def DSet (K : PySem.W.Frag) (r : TSet) (dr : D3) : Prop :=
  ∀ {H : Hp} {μ : List Addr} {st : Sto} {o i x : D} {vo vi v : V} {Qd : Sto → Prop} {Q : Hp → Prop}, SRep K st μ H → Rep K H μ o vo → Rep K H μ i vi → Rep K H μ x v → dr o i x st Qd →
    (∀ st' H' μ', Qd st' → Ext H H' μ μ' → SRep K st' μ' H' → Q H') → r vo vi v H Q
def gSub' (to ti : DTE) (dr : D3) : DTG := fun d ρ st Q => to ρ st (fun o st1 => ti ρ st1 (fun i st2 => dr o i d st2 fun st3 => Q ρ st3) fun _ _ _ => False) fun _ _ _ => False
def W0 : WX := fun _ _ _ _ => False
theorem ZOk.no {K : PySem.W.Frag} {W : WX} {H : Hp} {μ : List Addr} : ZOk K W (fun _ _ _ => False) H μ := fun _ _ _ _ _ _ _ _ h => h.elim
theorem dg_sub {o i : Expr} {to ti : DTE} {r : TSet} {dr : D3} (ho : DE X W0 o to) (hi : DE X W0 i ti) (hs : PSet X r) (hr : DSet X.K r dr)
    (ha : ∀ v, assign (.Subscript o i pos) X.env v = (do
      let ov ← holding [v] (eval o X.env)
      let iv ← holding [v, ov] (eval i X.env)
      standAt pos
      holding [v, ov, iv] (setItem ov iv v)
      release [v, ov, iv] []) := by intro _; rfl) : DG X [] (.Subscript o i pos) (gSub' to ti dr) := pg_weak (pg_sub ho hi hs ha) fun v σ H Q ⟨d, ρ, st, μ, Qd, hS, rv, ht, hk⟩ =>
  ⟨ρ, st, μ, _, _, hS, ht, fun x st1 H1 μ1 vo hx e1 s1 ro => ⟨ρ, st1, μ1, _, _, hS.mono e1 s1, hx, fun y st2 H2 μ2 vi hy e2 s2 ri =>
    hr s2 (ro.mono e2) ri (rv.mono (e1.trans e2)) hy fun st3 H3 μ3 q e3 s3 => hk _ _ _ _ _ q ((e1.trans e2).trans e3) ⟨hS.e.mono ((e1.trans e2).trans e3), s3⟩ fun _ _ => rfl, ZOk.no⟩, ZOk.no⟩
def dSetL : D3 := fun o i x st Q => match o, i with
  | .loc n, .int k => ∃ ds j, st[n]? = some (.lst ds) ∧ ixN ds.length k = some j ∧ Q (st.set n (.lst (ds.set j x)))
  | _, _ => False
end
end DL
namespace DL
open PySem L2 PySem.Spec
open PyProof.Rows hiding St
variable [TC : TabCtx]
section
variable {X : Cx} {W : WX} {a b c e tg : Expr} {ta tb tc te : DTE} {pos : Pos} {s : Stmt} {rest : List Stmt} {t u : DTS}
structure ItRep (K : PySem.W.Frag) (J : It) (items : List D) (G : Sto → Prop) (H0 : Hp) (μ0 : List Addr) : Prop where
  go : ∀ i H μ st d, Ext0 H0 H μ0 μ → SRep K st μ H → G st → items[i]? = some d → J.go i H ∧ ∀ x H', J.yld i H x H' → Ext H H' μ μ ∧ SRep K st μ H' ∧ Rep K H' μ d x ∧ (∀ b o, H b = some o → H' b = some o)
  stop : ∀ H μ st, Ext0 H0 H μ0 μ → SRep K st μ H → G st → J.stop items.length H
abbrev DTI := Env' → Sto → (List D → (Sto → Prop) → Sto → Prop) → DZ → Prop
def liftI (K : PySem.W.Frag) (W : WX) (t : DTI) : TI := fun σ H R => ∃ ρ st μ Qd Z, Stt K ρ st μ σ H ∧ t ρ st Qd Z ∧ ZOk K W Z H μ ∧
  ∀ items G st' H' μ' J, Qd items G st' → Ext H H' μ μ' → SRep K st' μ' H' → ItRep K J items G H' μ' → R J H'
abbrev DI (X : Cx) (W : WX) (tg e : Expr) (t : DTI) : Prop := PI X tg e (liftI X.K W t)
theorem pi_weak {e : Expr} {t u : TI} (h : PI X tg e t) (w : ∀ σ H R, u σ H R → t σ H R) : PI X tg e u := ⟨fun pins s σ H R I q => h.run pins s σ H R I (w σ H R q)⟩
theorem ItRep.tup {K : PySem.W.Frag} {H : Hp} {μ : List Addr} {a : Addr} {ds : List D} {vs : List V} (hs : SqT K H a vs) (hr : Reps K H μ ds vs) : ItRep K (Itt K a) ds (fun _ => True) H μ where
  go i H1 μ1 st d x s _ e := by
    obtain ⟨v, hv, rv⟩ := (hr.mono0 x).get e
    refine ⟨⟨vs, v, x.sqT hs, hv⟩, fun y H' hy => ?_⟩
    obtain ⟨rfl, hy⟩ := hy
    have := hy vs (x.sqT hs)
    rw [hv] at this; cases this
    exact ⟨Ext.refl _ _, s, rv, fun _ _ h => h⟩
  stop H1 μ1 st x s _ := ⟨vs, x.sqT hs, by rw [hr.length]; exact Nat.le_refl _⟩
theorem ItRep.fls {K : PySem.W.Frag} {H : Hp} {μ : List Addr} {a : Addr} {ds : List D} {vs : List V} (hs : FzL K H a vs) (hr : Reps K H μ ds vs) : ItRep K (Itl K a) ds (fun _ => True) H μ where
  go i H1 μ1 st d x s _ e := by
    obtain ⟨v, hv, rv⟩ := (hr.mono0 x).get e
    refine ⟨⟨vs, v, (x.fzL hs).sq, hv⟩, fun y H' hy => ?_⟩
    obtain ⟨rfl, hy⟩ := hy
    have := hy vs (x.fzL hs).sq
    rw [hv] at this; cases this
    exact ⟨Ext.refl _ _, s, rv, fun _ _ h => h⟩
  stop H1 μ1 st x s _ := ⟨vs, (x.fzL hs).sq, by rw [hr.length]; exact Nat.le_refl _⟩
theorem ItRep.lst {K : PySem.W.Frag} {H : Hp} {μ : List Addr} {a : Addr} {n : Nat} {ds : List D} (hn : μ[n]? = some a) : ItRep K (Itl K a) ds (fun st => st[n]? = some (.lst ds)) H μ where
  go i H1 μ1 st d x s g e := by
    obtain ⟨a', o, e1, e2, vs, rfl, hr⟩ := s.at' _ _ g
    rw [x.pre n a hn] at e1; cases e1
    obtain ⟨v, hv, rv⟩ := hr.get e
    refine ⟨⟨vs, v, .inl (.inl e2), hv⟩, fun y H' hy => ?_⟩
    obtain ⟨rfl, hy⟩ := hy
    have := hy vs (.inl (.inl e2))
    rw [hv] at this; cases this
    exact ⟨Ext.refl _ _, s, rv, fun _ _ h => h⟩
  stop H1 μ1 st x s g := by
    obtain ⟨a', o, e1, e2, vs, rfl, hr⟩ := s.at' _ _ g
    rw [x.pre n a hn] at e1; cases e1
    exact ⟨vs, .inl (.inl e2), by rw [hr.length]; exact Nat.le_refl _⟩
def strItems (z : Str) : List D := z.cps.toList.map fun c => .str ⟨#[c]⟩
theorem ItRep.str {K : PySem.W.Frag} {H : Hp} {μ : List Addr} {z : Str} : ItRep K (Its z) (strItems z) (fun _ => True) H μ where
  go i H1 μ1 st d x s _ e := by
    have hi : i < z.cps.size := by
      have := (List.getElem?_eq_some_iff.mp e).1
      simpa [strItems] using this
    refine ⟨hi, fun y H' hy => ?_⟩
    obtain ⟨rfl, c, hc, rfl⟩ := hy
    refine ⟨Ext.refl _ _, s, ?_, fun _ _ h => h⟩
    have : z.cps.toList[i]? = some c := by rw [Array.getElem?_toList]; exact hc
    simp [strItems, this] at e
    subst e
    rfl
  stop H1 μ1 st x s _ := by
    show z.cps.size ≤ (strItems z).length
    simp [strItems]
/-- a list, a tuple, a text: by what it is -/
def iSeq (K : PySem.W.Frag) (tl : TE) : TI := fun σ H R => tl σ H fun x H1 => (∃ a, x = .ref a ∧ (∃ xs, SqL K H1 a xs) ∧ R (Itl K a) H1) ∨ (∃ a, x = .ref a ∧ (∃ xs, SqT K H1 a xs) ∧ R (Itt K a) H1) ∨ ∃ z, x = .str z ∧ R (Its z) H1
theorem pi_seq {l : Expr} {tl : TE} (hl : PE X l tl) : PI X tg l (iSeq X.K tl) := by
  refine ⟨fun pins s σ H R I h => ?_⟩
  refine thn (hl.run pins s σ H _ I h) fun v s1 ⟨x, H1, I1, r1, q1⟩ => ?_
  rcases q1 with ⟨a, rfl, ⟨xs, hq⟩, q⟩ | ⟨a, rfl, ⟨xs, hq⟩, q⟩ | ⟨z, rfl, q⟩
  · cases r1
    obtain ⟨its, rv, p, hz⟩ := I1.list hq
    exact wpAny_pyIter_list p.isList (pi_one (tk := s1.toks) I1 _ (turn_list a _) ⟨_, Heap.get?_push_size _ rfl, rfl, rfl⟩ q)
  · cases r1
    obtain ⟨its, rv, p, hz⟩ := I1.tuple hq
    exact wpAny_pyIter_tuple (show s1.heap.IsTuple a its.toArray from p) (pi_one (tk := s1.toks) I1 _ (turn_tuple a _) ⟨_, Heap.get?_push_size _ rfl, rfl, rfl⟩ q)
  · obtain ⟨t, rfl⟩ := r1
    cases ha : z.cps.all (· < 128)
    · exact wpAny_pyIter_wide ha (pi_one (tk := s1.toks) I1 _ (turn_str _ z t "str_iterator" (.inr rfl)) ⟨_, Heap.get?_push_size _ rfl, rfl, rfl⟩ q)
    · exact wpAny_pyIter_ascii ha (pi_one (tk := s1.toks) I1 _ (turn_str _ z t "str_ascii_iterator" (.inl rfl)) ⟨_, Heap.get?_push_size _ rfl, rfl, rfl⟩ q)
/-- what is walked of a value -/
def walkD (st : Sto) : D → (List D → (Sto → Prop) → Prop) → Prop
  | .tup ds, Q => Q ds fun _ => True
  | .fls ds, Q => Q ds fun _ => True
  | .loc n, Q => ∃ ds, st[n]? = some (.lst ds) ∧ Q ds fun st => st[n]? = some (.lst ds)
  | .str z, Q => Q (strItems z) fun _ => True
  | _, _ => False
def iD (te : DTE) : DTI := fun ρ st Q Z => te ρ st (fun x st1 => walkD st1 x fun items G => Q items G st1) Z
theorem di_seq (h : DE X W e te) : DI X W tg e (iD te) := pi_weak (pi_seq h) fun σ H R ⟨ρ, st, μ, Qd, Z, hS, ht, hZ, hk⟩ =>
  ⟨ρ, st, μ, _, Z, hS, ht, fun x st1 H1 μ1 v hx e1 s1 rv => by
    cases x with
    | tup ds =>
      obtain ⟨a, vs, rfl, hs, hr⟩ := rv
      exact .inr (.inl ⟨a, rfl, ⟨vs, hs⟩, hk _ _ _ _ _ _ hx e1 s1 (ItRep.tup hs hr)⟩)
    | fls ds =>
      obtain ⟨a, vs, rfl, hs, hr⟩ := rv
      exact .inl ⟨a, rfl, ⟨vs, hs.sq⟩, hk _ _ _ _ _ _ hx e1 s1 (ItRep.fls hs hr)⟩
    | loc n =>
      obtain ⟨a, rfl, hn⟩ := rv
      obtain ⟨ds, hds, q⟩ := hx
      obtain ⟨a', o, q1, q2, vs, rfl, hr⟩ := s1.at' _ _ hds
      rw [hn] at q1; cases q1
      exact .inl ⟨a, rfl, ⟨vs, .inl (.inl q2)⟩, hk _ _ _ _ _ _ q e1 s1 (ItRep.lst hn)⟩
    | str z =>
      rw [show v = _ from rv]
      exact .inr (.inr ⟨z, rfl, hk _ _ _ _ _ _ hx e1 s1 ItRep.str⟩)
    | _ => exact hx.elim, hZ⟩
/-- range -/
def rngItems (lo : Int) (n : Nat) : List D := (List.range n).map fun (i : Nat) => .int (lo + (i : Int))
theorem ItRep.range {K : PySem.W.Frag} {H : Hp} {μ : List Addr} {lo : Int} {n : Nat} : ItRep K (Itr lo n) (rngItems lo n) (fun _ => True) H μ where
  go i H1 μ1 st d x s _ e := by
    have hi : i < n := by
      have := (List.getElem?_eq_some_iff.mp e).1
      simpa [rngItems] using this
    refine ⟨hi, fun y H' hy => ?_⟩
    obtain ⟨rfl, rfl⟩ := hy
    refine ⟨Ext.refl _ _, s, ?_, fun _ _ h => h⟩
    simp [rngItems, hi] at e
    subst e
    rfl
  stop H1 μ1 st x s _ := by
    show n ≤ (rngItems lo n).length
    simp [rngItems]
def iR1 (ta : DTA) : DTI := fun ρ st Q Z => ta ρ st (fun xs st1 => match xs with | [.int j] => -(2 ^ 62) ≤ j ∧ j < 2 ^ 62 ∧ Q (rngItems 0 j.toNat) (fun _ => True) st1 | _ => False) Z
def iR2 (ta : DTA) : DTI := fun ρ st Q Z => ta ρ st (fun xs st1 => match xs with | [.int i, .int j] => (-(2 ^ 62) ≤ i ∧ i < 2 ^ 62 ∧ -(2 ^ 62) ≤ j ∧ j < 2 ^ 62) ∧ Q (rngItems i (j - i).toNat) (fun _ => True) st1 | _ => False) Z
theorem Reps.ints1 {K : PySem.W.Frag} {H : Hp} {μ : List Addr} {i : Int} {vs : List V} (h : Reps K H μ [.int i] vs) : vs = [.int i] := by
  obtain ⟨v, r, rfl, r1, r2⟩ := h
  rw [show v = _ from r1, show r = _ from r2]
theorem di_range1 {x : Expr} {tx : DTA} {p : Pos} (hg : Gl X "range") (hm : X.mg "range" = none) (ha : DA X W [x] tx) (hs : starEach [x] X.env = [(false, eval x X.env)] := by rfl) : DI X W tg (.Call (.Name "range" p) [x] [] pos) (iR1 tx) :=
  pi_weak (pi_range1 hg hm ha hs) fun σ H R ⟨ρ, st, μ, Qd, Z, hS, ht, hZ, hk⟩ => ⟨ρ, st, μ, _, Z, hS, ht, fun ds st1 H1 μ1 vs hx e1 s1 rv => by
    dsimp only at hx
    split at hx
    · rename_i j
      exact ⟨j, rv.ints1, hx.1, hx.2.1, hk _ _ _ _ _ _ hx.2.2 e1 s1 ItRep.range⟩
    · exact hx.elim, hZ⟩
def runG (g : DTG) (body : DTS) (E : DEnds) (G : Sto → Prop) : List D → Env' → Sto → Prop
  | [], ρ, st => G st ∧ E.nx ρ st
  | d :: ds, ρ, st => G st ∧ g d ρ st fun ρ2 st2 => body { E with nx := runG g body E G ds, ct := runG g body E G ds, bk := E.nx } ρ2 st2
theorem drop_at {α : Type} {l : List α} {i : Nat} {x : α} (h : l[i]? = some x) : l.drop i = x :: l.drop (i + 1) := by
  obtain ⟨hi, e⟩ := List.getElem?_eq_some_iff.mp h
  rw [List.drop_eq_getElem_cons hi, e]
theorem for_ex {g : DTG} {body : DTS} {E : DEnds} {G : Sto → Prop} {items : List D} {ρ : Env'} {st : Sto} (h : runG g body E G items ρ st) : ∃ I : Nat → Env' → Sto → Prop, I 0 ρ st ∧ (∀ i ρ st, i ≤ items.length → I i ρ st → G st) ∧
    (∀ i d ρ st, items[i]? = some d → I i ρ st → g d ρ st fun ρ2 st2 => body { E with nx := I (i + 1), ct := I (i + 1), bk := E.nx } ρ2 st2) ∧ ∀ ρ st, I items.length ρ st → E.nx ρ st := by
  refine ⟨fun i => runG g body E G (items.drop i), h, fun i ρ st _ hi => ?_, fun i d ρ st hd hi => ?_, fun ρ st hi => ?_⟩
  · dsimp only at hi
    cases e : items.drop i <;> (rw [e] at hi; exact hi.1)
  · dsimp only at hi
    rw [drop_at hd] at hi
    exact hi.2
  · dsimp only at hi
    rw [List.drop_length] at hi
    exact hi.2
def dFor (it : DTI) (g : DTG) (body : DTS) : DTS := fun E ρ st => it ρ st (fun items G st1 => runG g body E G items ρ st1) E.xs
theorem ds_for {body : List Stmt} {it : DTI} {g : DTG} {ws : List Nat} {tb : DTS} (hp : PassesOwn (model X.prog X.w) X.A X.env X.xe) (hc : X.calm = true) (hi : DI X W tg e it) (hg : DG X ws tg g) (hb : DSs X W body tb)
    (hs : ∀ x, foldedSetIterable e X.env x = pure x := by intro _; rfl) : DS X W (.For tg e body [] pos) (dFor it g tb) := ps_weak (ps_for hp hc hi hg hb hs) fun D σ H ⟨ρ, st, μ, DD, hS, ht, hO⟩ =>
  ⟨ρ, st, μ, _, _, hS, ht, hO.xs, fun items G st1 H1 μ1 J hx e1 s1 hJ => by
    obtain ⟨I, h0, hG, hstep, hend⟩ := for_ex hx
    refine ⟨fun i m σ' H' => m = items.length - i ∧ i ≤ items.length ∧ ∃ ρ' st' μ', I i ρ' st' ∧ Ext H1 H' μ1 μ' ∧ Stt X.K ρ' st' μ' σ' H', ⟨_, rfl, Nat.zero_le _, ρ, st1, μ1, h0, Ext.refl _ _, hS.mono e1 s1⟩, ?_⟩
    rintro i m σ' H' ⟨rfl, hil, ρ', st', μ', hI, e2, s2⟩
    by_cases hlt : i < items.length
    · have hd : items[i]? = some items[i] := List.getElem?_eq_getElem hlt
      obtain ⟨hgo, hy⟩ := hJ.go i H' μ' st' _ e2.toExt0 s2.s (hG i ρ' st' hil hI) hd
      refine .inr ⟨hgo, fun σ3 H3 => ∃ ρ3 st3 μ3, I (i + 1) ρ3 st3 ∧ Ext H1 H3 μ1 μ3 ∧ Stt X.K ρ3 st3 μ3 σ3 H3, fun σ3 H3 ⟨ρ3, st3, μ3, q1, q2, q3⟩ => ⟨_, by omega, rfl, hlt, ρ3, st3, μ3, q1, q2, q3⟩, fun x H3 hx => ?_⟩
      obtain ⟨e3, s3, r3, _⟩ := hy x H3 hx
      refine ⟨_, ρ', st', μ', _, s2.mono e3 s3, r3, hstep i _ ρ' st' hd hI, fun ρ4 st4 σ4 H4 μ4 q e4 s4 _ => ?_⟩
      refine ⟨ρ4, st4, μ4, _, s4, q, ?_, ?_, ?_, ?_, ?_⟩
      · exact fun ρ5 st5 σ5 H5 μ5 q5 e5 s5 => ⟨ρ5, st5, μ5, q5, ((e2.trans e3).trans e4).trans e5, s5⟩
      · exact hO.rt.mono (((e1.trans e2).trans e3).trans e4)
      · exact hO.nx.mono (((e1.trans e2).trans e3).trans e4)
      · exact fun ρ5 st5 σ5 H5 μ5 q5 e5 s5 => ⟨ρ5, st5, μ5, q5, ((e2.trans e3).trans e4).trans e5, s5⟩
      · exact hO.xs.mono (((e1.trans e2).trans e3).trans e4)
    · have he : i = items.length := by omega
      subst he
      exact .inl ⟨hJ.stop H' μ' st' e2.toExt0 s2.s (hG _ ρ' st' hil hI), hO.nx _ _ _ _ _ (hend _ _ hI) (e1.trans e2) s2⟩⟩
end
end DL
namespace DL
open PySem L2 PySem.Spec
open PyProof.Rows hiding St
variable [TC : TabCtx]
section
variable {X : Cx} {W : WX} {a b c e tg : Expr} {ta tb tc te : DTE} {pos : Pos} {s : Stmt} {rest : List Stmt} {t u : DTS}
abbrev Z0 : DZ := fun _ _ _ => False
theorem pts_weak {ifs : List Expr} {t u : TT} (h : PTs X ifs t) (w : ∀ σ H Q, u σ H Q → t σ H Q) : PTs X ifs u := ⟨fun pins s σ H Q I q => h.run pins s σ H Q I (w σ H Q q)⟩
def dYes : DTT := fun _ st Q _ => Q true st
theorem dts_nil : PTs X [] (liftT X.K W0 dYes) := pts_weak pts_nil fun σ H Q ⟨ρ, st, μ, Qd, Z, hS, ht, hQ, hZ⟩ => hQ _ _ _ _ ht (Ext.refl _ _) hS.s
theorem dts_one {c : Expr} {t : DTT} (h : DT X W0 c t) : PTs X [c] (liftT X.K W0 t) := pts_one h
def runC (g : DTG) (tt : DTT) (te : DTE) (ρ : Env') (Q : DK) (G : Sto → Prop) : List D → List D → Sto → Prop
  | [], acc, st => G st ∧ Q (.loc st.length) (st ++ [.lst acc])
  | d :: ds, acc, st => G st ∧ g d ρ st fun ρ2 st2 => tt ρ2 st2 (fun b st3 => if b = true then te ρ2 st3 (fun y st4 => acc.length < sizeLine ∧ runC g tt te ρ Q G ds (acc ++ [y]) st4) Z0 else runC g tt te ρ Q G ds acc st3) Z0
theorem lc_ex {g : DTG} {tt : DTT} {te : DTE} {Q : DK} {G : Sto → Prop} {items : List D} {ρ : Env'} {st : Sto} (h : runC g tt te ρ Q G items [] st) : ∃ I : Nat → List D → Sto → Prop, I 0 [] st ∧ (∀ i acc st, i ≤ items.length → I i acc st → G st) ∧
    (∀ i d acc st, items[i]? = some d → I i acc st → g d ρ st fun ρ2 st2 => tt ρ2 st2 (fun b st3 => if b = true then te ρ2 st3 (fun y st4 => acc.length < sizeLine ∧ I (i + 1) (acc ++ [y]) st4) Z0 else I (i + 1) acc st3) Z0) ∧
    ∀ acc st, I items.length acc st → Q (.loc st.length) (st ++ [.lst acc]) := by
  refine ⟨fun i => runC g tt te ρ Q G (items.drop i), h, fun i acc st _ hi => ?_, fun i d acc st hd hi => ?_, fun acc st hi => ?_⟩
  · dsimp only at hi
    cases e : items.drop i <;> (rw [e] at hi; exact hi.1)
  · dsimp only at hi
    rw [drop_at hd] at hi
    exact hi.2
  · dsimp only at hi
    rw [List.drop_length] at hi
    exact hi.2
def dLc (it : DTI) (g : DTG) (tt : DTT) (te : DTE) (own : List Nat) : DTE := fun ρ st Q Z => it ρ st (fun items G st1 => runC g tt te (wipeD ρ own) Q G items [] st1) Z
theorem Ext.keep {H H' : Hp} {μ μ' : List Addr} (x : Ext H H' μ μ') {a : Addr} {xs : List V} (h : H a = some (.lst xs)) (hm : a ∉ μ) : H' a = some (.lst xs) ∧ a ∉ μ' := ⟨x.fra a _ h hm (fun _ z => nomatch z), fun z => by
  rcases x.new a z with q | q
  · exact hm q
  · obtain ⟨ps, e⟩ := q _ h
    cases e⟩
/-- the list D outside the store is written -/
theorem Ext.out {H0 H : Hp} {μ0 μ : List Addr} {D : Addr} (x : Ext H0 H μ0 μ) (h0 : H0 D = none) (u : HO) : Ext H0 (upd H D u) μ0 μ where
  pre := x.pre
  tup a zs q := by
    rw [upd_ne (ne_of_none q h0)]
    exact x.tup a zs q
  frz a o zs q := by
    rw [upd_ne (ne_of_none q h0)]
    exact x.frz a o zs q
  fra a o q hn hp := by
    rw [upd_ne (ne_of_none q h0)]
    exact x.fra a o q hn hp
  new := x.new
theorem Ext0.out {H : Hp} {μ : List Addr} {D : Addr} {xs : List V} (h : H D = some (.lst xs)) (u : HO) : Ext0 H (upd H D u) μ μ := ⟨fun _ _ q => q, fun a zs q => by
  rw [upd_ne (fun z => by rw [z, h] at q; cases q)]; exact q, fun a o zs q => by
  rw [upd_ne (fun z => by rw [z, h] at q; cases q)]; exact q⟩
theorem SRep.out {K : PySem.W.Frag} {st : Sto} {μ : List Addr} {H : Hp} (s : SRep K st μ H) {D : Addr} (hm : D ∉ μ) {xs : List V} (h : H D = some (.lst xs)) (u : HO) : SRep K st μ (upd H D u) := by
  refine ⟨s.len, s.nd, fun n b e => ?_, tabs_upd s.tab (fun o q => by rw [h] at q; cases q; exact ⟨fun _ z => (nomatch z), fun _ z => (nomatch z)⟩), fun q hq => ?_⟩
  case refine_2 =>
    obtain ⟨hn, gs, e, r1, r2⟩ := s.exc q hq
    exact ⟨hn, gs, by rw [upd_ne (fun z => by rw [z, h] at e; cases e)]; exact e, r1, r2.mono0 (Ext0.out h u)⟩
  obtain ⟨a, o, e1, e2, r⟩ := s.at' n b e
  have hne : a ≠ D := fun z => hm (z ▸ List.mem_of_getElem? e1)
  exact ⟨a, o, e1, by rw [upd_ne hne]; exact e2, r.mono0 (Ext0.out h u)⟩
/-- a thing that stood apart is taken into the store -/
theorem SRep.adopt {K : PySem.W.Frag} {st : Sto} {μ : List Addr} {H : Hp} (s : SRep K st μ H) {p : Addr} {o : HO} {b : Ob} (hm : p ∉ μ) (h : H p = some o) (r : ORep K H μ b o) : SRep K (st ++ [b]) (μ ++ [p]) H := by
  have x0 : Ext0 H H μ (μ ++ [p]) := ⟨fun n a q => by rw [List.getElem?_append_left (List.getElem?_eq_some_iff.mp q).1]; exact q, fun _ _ q => q, fun _ _ _ q => q⟩
  refine ⟨by simp [s.len], ?_, fun n c e => ?_, s.tab, fun q hq => ?_⟩
  case refine_3 =>
    obtain ⟨hn, gs, e, r1, r2⟩ := s.exc q hq
    refine ⟨fun z => ?_, gs, e, r1, r2.mono0 x0⟩
    rcases List.mem_append.mp z with z | z
    · exact hn z
    · rw [List.mem_singleton.mp z, h] at e
      cases e
      cases b with
      | lst ds => obtain ⟨vs, z, _⟩ := r; cases z
      | ins C fs => obtain ⟨dx, gs, z, _⟩ := r; cases z
      | dK fs => obtain ⟨gs, z, _⟩ := r; cases z
      | err e C d => have z : HO.xd _ = HO.ext _ := r; cases z
      | xdt dx fs => obtain ⟨gs, z, _⟩ := r; have z' : HO.xd _ = HO.ext _ := z; cases z'
      | dkF od fs => obtain ⟨gs, z, _⟩ := r; cases z
  · refine List.nodup_append.mpr ⟨s.nd, by simp, fun a ha b hb => ?_⟩
    rw [List.mem_singleton.mp hb]
    intro e
    exact hm (e ▸ ha)
  · by_cases hn : n < st.length
    · rw [List.getElem?_append_left hn] at e
      obtain ⟨a, ob, e1, e2, r2⟩ := s.at' n c e
      exact ⟨a, ob, x0.pre n a e1, e2, r2.mono0 x0⟩
    · have hn' : n = st.length := by
        have := (List.getElem?_eq_some_iff.mp e).1
        simp at this
        omega
      subst hn'
      rw [List.getElem?_append_right (Nat.le_refl _)] at e
      simp at e
      subst e
      refine ⟨p, o, ?_, h, r.mono0 x0⟩
      rw [s.len, List.getElem?_append_right (Nat.le_refl _)]
      simp
theorem wipe_at (σ : St) (i : Nat) : ∀ vs : List Nat, (wipe σ vs)[i]? = if i ∈ vs then (if i < σ.length then some none else none) else σ[i]?
  | [] => by simp [wipe]
  | v :: vs => by
    unfold wipe
    by_cases h : v = i
    · subst h
      rw [List.getElem?_set]
      simp [wipe_length]
    · rw [List.getElem?_set_ne h, wipe_at σ i vs]
      have : (i ∈ v :: vs) ↔ i ∈ vs := by
        simp [Ne.symm h]
      simp [this]
theorem wipe_idem (σ : St) (vs : List Nat) : wipe (wipe σ vs) vs = wipe σ vs := by
  refine List.ext_getElem? fun i => ?_
  rw [wipe_at, wipe_at, wipe_length]
  by_cases h : i ∈ vs <;> simp [h]
section
variable {ifs : List Expr} {scope : Scope} {own : List (Str × Nat)} {it : DTI} {g : DTG} {ws : List Nat} {tt : DTT}
theorem lc_lift {K : PySem.W.Frag} {elt : Expr} (hw : ∀ w ∈ ws, w ∈ own.map (·.2)) (σ : St) (H : Hp) (Q : VK) (h : liftE K W (dLc it g tt te (own.map (·.2))) σ H Q) :
    tLc (liftI K W it) (liftG K ws g) (liftT K W0 tt) (liftE K W0 te) (own.map (·.2)) σ H Q := by
  obtain ⟨ρ, st, μ, Qd, Z, hS, ht, hQ, hZ⟩ := h
  refine ⟨ρ, st, μ, _, Z, hS, ht, hZ, fun items G st1 H1 μ1 J hx e1 s1 hJ D hD => ?_⟩
  obtain ⟨I, h0, hG, hstep, hend⟩ := lc_ex hx
  refine ⟨fun i m H' => m = items.length - i ∧ i ≤ items.length ∧ ∃ acc va st' μ', I i acc st' ∧ Ext H1 H' μ1 μ' ∧ SRep K st' μ' H' ∧ Reps K H' μ' acc va ∧ H' D = some (.lst va) ∧ D ∉ μ',
    ⟨_, rfl, Nat.zero_le _, [], [], st1, μ1, h0, Ext.laid hD, s1.laid hD, rfl, upd_same, s1.not_mem hD⟩, ?_⟩
  rintro i m H' ⟨rfl, hil, acc, va, st', μ', hI, e2, s2, r2, d2, n2⟩
  by_cases hlt : i < items.length
  · have hd : items[i]? = some items[i] := List.getElem?_eq_getElem hlt
    obtain ⟨hgo, hy⟩ := hJ.go i H' μ' st' _ e2.toExt0 s2 (hG i acc st' hil hI) hd
    refine .inr ⟨hgo, fun H3 => ∃ acc va st' μ', I (i + 1) acc st' ∧ Ext H1 H3 μ1 μ' ∧ SRep K st' μ' H3 ∧ Reps K H3 μ' acc va ∧ H3 D = some (.lst va) ∧ D ∉ μ', fun H3 q => ⟨_, by omega, rfl, hlt, q⟩, fun x H3 hx => ?_⟩
    obtain ⟨e3, s3, r3, _⟩ := hy x H3 hx
    obtain ⟨d3, n3⟩ := e3.keep d2 n2
    refine ⟨_, wipeD ρ (own.map (·.2)), st', μ', _, ⟨(hS.e.mono ((e1.trans e2).trans e3)).wipe _, s3⟩, r3, hstep i _ acc st' hd hI, fun ρ4 st4 σ4 H4 μ4 q e4 s4 hw4 => ?_⟩
    obtain ⟨d4, n4⟩ := e4.keep d3 n3
    refine ⟨(hw4 _ hw).trans (wipe_idem _ _), ρ4, st4, μ4, _, Z0, s4, q, fun k st5 H5 μ5 q5 e5 s5 => ?_, ZOk.no⟩
    obtain ⟨d5, n5⟩ := e5.keep d4 n4
    cases k with
    | true =>
      refine iteT ⟨ρ4, st5, μ5, _, Z0, s4.mono e5 s5, q5, fun y st6 H6 μ6 v q6 e6 s6 r6 => ?_, ZOk.no⟩
      obtain ⟨d6, n6⟩ := e6.keep d5 n5
      have ex : Ext H' H6 μ' μ6 := ((e3.trans e4).trans e5).trans e6
      have ra := r2.mono ex
      have x0 : Ext0 H6 (upd H6 D (.lst (va ++ [v]))) μ6 μ6 := Ext0.out d6 _
      exact ⟨va, d6, by rw [← r2.length]; exact q6.1, acc ++ [y], va ++ [v], st6, μ6, q6.2, (e2.trans ex).out hD _, s6.out n6 d6 _, (ra.append (Reps.one r6)).mono0 x0, upd_same, n6⟩
    | false =>
      have ex : Ext H' H5 μ' μ5 := (e3.trans e4).trans e5
      exact iteF ⟨acc, va, st5, μ5, q5, e2.trans ex, s5, r2.mono ex, d5, n5⟩
  · have he : i = items.length := by omega
    subst he
    refine .inl ⟨hJ.stop H' μ' st' e2.toExt0 s2 (hG _ acc st' hil hI), ?_⟩
    refine hQ _ _ _ _ _ (hend _ _ hI) (e1.trans ⟨⟨fun n a q => ?_, e2.tup, e2.frz⟩, e2.fra, fun a q => ?_⟩) (s2.adopt n2 d2 ⟨va, rfl, r2⟩) ⟨D, rfl, by rw [s2.len]; exact getElem?_end _ _⟩
    · have := e2.pre n a q
      rw [List.getElem?_append_left (List.getElem?_eq_some_iff.mp this).1]; exact this
    · rcases List.mem_append.mp q with q | q
      · exact e2.new a q
      · rw [List.mem_singleton.mp q]; exact .inr fun o q => by rw [hD] at q; cases q
theorem de_lc {elt : Expr} (hc : X.calm = true) (hN : X.N.Nodup) (hi : DI X W tg e it) (ok : BlkOk X.N X.env.scope scope own) (hw : ∀ w ∈ ws, w ∈ own.map (·.2))
    (hg : ∀ (s : Shared) (H : Hp) (C : Addr) (cl : List (Str × Addr)) (fp : List Addr), DG (X.blk s H scope (compEnvC scope cl C X.env) fp) ws tg g) (ht : ∀ (s : Shared) (H : Hp) (C : Addr) (cl : List (Str × Addr)) (fp : List Addr), PTs (X.blk s H scope (compEnvC scope cl C X.env) fp) ifs (liftT X.K W0 tt))
    (he : ∀ (s : Shared) (H : Hp) (C : Addr) (cl : List (Str × Addr)) (fp : List Addr), DE (X.blk s H scope (compEnvC scope cl C X.env) fp) W0 elt te) (hs : ∀ x, foldedSetIterable e X.env x = pure x := by intro _; rfl) :
    DE X W (.ListComp elt [⟨tg, e, ifs, 0⟩] scope pos) (dLc it g tt te (own.map (·.2))) := pe_weak (pe_lc hc hN hi ok hg ht he hs) fun σ H Q h => lc_lift (elt := elt) hw σ H Q h
theorem ds_setLc {elt : Expr} {i : Nat} {y : Str} {py spos : Pos} (hc : X.calm = true) (hN : X.N.Nodup) (hy : X.N[i]? = some y) (hyl : X.env.scope.names.lookup y = some .local)
    (hsw : swapsWith (.ListComp elt [⟨tg, e, ifs, 0⟩] scope pos) (some (.Name y py)) spos.line X.env = pure true) (hi : DI X W tg e it) (ok : BlkOk X.N X.env.scope scope own) (hw : ∀ w ∈ ws, w ∈ own.map (·.2))
    (hg : ∀ (s : Shared) (H : Hp) (C : Addr) (cl : List (Str × Addr)) (fp : List Addr), DG (X.blk s H scope (compEnvC scope cl C X.env) fp) ws tg g) (ht : ∀ (s : Shared) (H : Hp) (C : Addr) (cl : List (Str × Addr)) (fp : List Addr), PTs (X.blk s H scope (compEnvC scope cl C X.env) fp) ifs (liftT X.K W0 tt))
    (he : ∀ (s : Shared) (H : Hp) (C : Addr) (cl : List (Str × Addr)) (fp : List Addr), DE (X.blk s H scope (compEnvC scope cl C X.env) fp) W0 elt te) (hs : ∀ x, foldedSetIterable e X.env x = pure x := by intro _; rfl) :
    DS X W (.Assign [.Name y py] (.ListComp elt [⟨tg, e, ifs, 0⟩] scope pos) spos) (dAsg (dLc it g tt te (own.map (·.2))) (gN i)) := ps_weak (ps_setLc hc hN hy hyl hsw hi ok hg ht he hs) fun D σ H ⟨ρ, st, μ, DD, hS, ht, hO⟩ =>
  lc_lift (elt := elt) (W := W) hw σ H _ ⟨ρ, st, μ, _, _, hS, ht, fun x st1 H1 μ1 v hx e1 s1 rv => hO.nx _ _ _ _ _ hx e1 ⟨(hS.e.mono e1).set i rv, s1⟩, hO.xs⟩
end
end
end DL
namespace DL
open PySem L2 PySem.Spec
open PyProof.Rows hiding St
variable [TC : TabCtx]
mutual
def D.blw (n : Nat) : D → Bool
  | .loc m => m < n
  | .tup ds => D.blws n ds
  | .fls ds => D.blws n ds
  | _ => true
def D.blws (n : Nat) : List D → Bool
  | [] => true
  | d :: ds => D.blw n d && D.blws n ds
end
def Ob.below (n : Nat) : Ob → Bool
  | .lst ds => D.blws n ds
  | .ins _ fs => D.blws n (fs.map (·.2))
  | .dK kvs => D.blws n (kvs.map (·.2))
  | .err _ _ _ => true
  | .xdt _ fs => D.blws n (fs.map (·.2))
  | .dkF _ fs => D.blws n (fs.map (·.2))
section
variable {K : PySem.W.Frag} {H H' : Hp} {μ : List Addr}
mutual
theorem Rep.cut {n : Nat} {ν : List Addr} (h : ∀ m, m < n → ν[m]? = μ[m]?) : ∀ {d : D} {v : V}, D.blw n d = true → Rep K H μ d v → Rep K H ν d v
  | .non, _, _, r => r
  | .bl _, _, _, r => r
  | .int _, _, _, r => r
  | .str _, _, _, r => r
  | .tup ds, _, b, r => by
    obtain ⟨a, vs, e, s, q⟩ := r
    exact ⟨a, vs, e, s, Reps.cut h b q⟩
  | .fls ds, _, b, r => by
    obtain ⟨a, vs, e, s, q⟩ := r
    exact ⟨a, vs, e, s, Reps.cut h b q⟩
  | .loc m, _, b, r => by
    obtain ⟨a, e, q⟩ := r
    exact ⟨a, e, by rw [h m (by simpa [D.blw] using b)]; exact q⟩
  | .adr _, _, _, r => r
  | .ty _, _, _, r => r
theorem Reps.cut {n : Nat} {ν : List Addr} (h : ∀ m, m < n → ν[m]? = μ[m]?) : ∀ {ds : List D} {vs : List V}, D.blws n ds = true → Reps K H μ ds vs → Reps K H ν ds vs
  | [], _, _, r => r
  | d :: ds, _, b, r => by
    obtain ⟨v, r', e, h1, h2⟩ := r
    simp only [D.blws, Bool.and_eq_true] at b
    exact ⟨v, r', e, Rep.cut h b.1 h1, Reps.cut h b.2 h2⟩
end
mutual
/-- what is told in μ names places of μ alone -/
theorem Rep.below : ∀ {d : D} {v : V}, Rep K H μ d v → D.blw μ.length d = true
  | .non, _, _ => rfl
  | .bl _, _, _ => rfl
  | .int _, _, _ => rfl
  | .str _, _, _ => rfl
  | .tup ds, _, r => by
    obtain ⟨a, vs, e, s, q⟩ := r
    exact Reps.below q
  | .fls ds, _, r => by
    obtain ⟨a, vs, e, s, q⟩ := r
    exact Reps.below q
  | .loc m, _, r => by
    obtain ⟨a, e, q⟩ := r
    simpa [D.blw] using (List.getElem?_eq_some_iff.mp q).1
  | .adr _, _, _ => rfl
  | .ty _, _, _ => rfl
theorem Reps.below : ∀ {ds : List D} {vs : List V}, Reps K H μ ds vs → D.blws μ.length ds = true
  | [], _, _ => rfl
  | d :: ds, _, r => by
    obtain ⟨v, r', e, h1, h2⟩ := r
    simp only [D.blws, Bool.and_eq_true]
    exact ⟨Rep.below h1, Reps.below h2⟩
end
theorem ORep.cut {n : Nat} {ν : List Addr} (h : ∀ m, m < n → ν[m]? = μ[m]?) : ∀ {b : Ob} {o : HO}, Ob.below n b = true → ORep K H μ b o → ORep K H ν b o
  | .lst ds, _, b, r => by obtain ⟨vs, e, q⟩ := r; exact ⟨vs, e, q.cut h b⟩
  | .ins C fs, _, b, r => by obtain ⟨dx, gs, e, q1, q2⟩ := r; exact ⟨dx, gs, e, q1, q2.cut h b⟩
  | .dK fs, _, b, r => by obtain ⟨gs, e, q1, q2⟩ := r; exact ⟨gs, e, q1, q2.cut h b⟩
  | .err _ _ _, _, b, r => r
  | .xdt dx fs, _, b, r => by obtain ⟨gs, e, q1, q2⟩ := r; exact ⟨gs, e, q1, q2.cut h b⟩
  | .dkF od fs, _, b, r => by obtain ⟨gs, e, q1, q2⟩ := r; exact ⟨gs, e, q1, q2.cut h b⟩
theorem ORep.below : ∀ {b : Ob} {o : HO}, ORep K H μ b o → Ob.below μ.length b = true
  | .lst ds, _, r => by obtain ⟨vs, e, q⟩ := r; exact q.below
  | .ins C fs, _, r => by obtain ⟨dx, gs, e, q1, q2⟩ := r; exact q2.below
  | .dK fs, _, r => by obtain ⟨gs, e, q1, q2⟩ := r; exact q2.below
  | .err _ _ _, _, r => rfl
  | .xdt dx fs, _, r => by obtain ⟨gs, e, q1, q2⟩ := r; exact q2.below
  | .dkF od fs, _, r => by obtain ⟨gs, e, q1, q2⟩ := r; exact q2.below
/-- the store's things hang on the store alone -/
theorem SRep.below {st : Sto} (s : SRep K st μ H) {b : Ob} (h : b ∈ st) : Ob.below st.length b = true := by
  obtain ⟨n, e⟩ := List.mem_iff_getElem?.mp h
  obtain ⟨a, o, _, _, r⟩ := s.at' n b e
  rw [s.len]
  exact r.below
abbrev DSp := List D → Sto → DK → (DX → Sto → Prop) → Prop
def XOk (K : PySem.W.Frag) (Z : DX → Sto → Prop) (E : XK) (H : Hp) (μ : List Addr) : Prop :=
  ∀ x st' H' μ' c dx, Z x st' → Ext H H' μ μ' → SRep K st' μ' H' → XRep K H' μ' x c dx → E c dx H'
def liftSp (K : PySem.W.Frag) (n : Nat) (dsp : DSp) : Sp := fun vs H Q E => vs.length = n ∧ ∃ ds st μ Qd Z, Reps K H μ ds vs ∧ SRep K st μ H ∧ dsp ds st Qd Z ∧ EOk K Qd Q H μ ∧ XOk K Z E H μ
/-- the def of that name keeps its promise, at most k levels deep -/
def Has (P : Program) (w : World) (K : PySem.W.Frag) (mg : Str → Option Value) (base : Heap) (k : Nat) (x : Str) (n : Nat) (dsp : DSp) : Prop :=
  ∃ f fd ps, FnOk P w K mg base (L2.CX P w) k f fd ps (liftSp K n dsp) ∧ mg x = some (.ref f) ∧ PySem.W.keepIn K (.ref f) = true ∧ Binds K fd ps []
theorem Has.mono {P : Program} {w : World} {mg : Str → Option Value} {base : Heap} {j k : Nat} {x : Str} {n : Nat} {dsp : DSp} (h : Has P w K mg base j x n dsp) (hk : j ≤ k) : Has P w K mg base k x n dsp := by
  obtain ⟨f, fd, ps, F, r⟩ := h
  exact ⟨f, fd, ps, F.mono hk, r⟩
/-- a weaker promise -/
theorem Has.imp {P : Program} {w : World} {mg : Str → Option Value} {base : Heap} {k : Nat} {x : Str} {n : Nat} {dsp dsp' : DSp} (h : Has P w K mg base k x n dsp) (hi : ∀ ds st Q Z, dsp' ds st Q Z → dsp ds st Q Z) : Has P w K mg base k x n dsp' := by
  obtain ⟨f, fd, ps, F, r⟩ := h
  refine ⟨f, fd, ps, F.imp fun vs H Q E q => ?_, r⟩
  obtain ⟨q0, ds, st, μ, Qd, Z, q1, q2, q3, q4, q5⟩ := q
  exact ⟨q0, ds, st, μ, Qd, Z, q1, q2, hi _ _ _ _ q3, q4, q5⟩
end
section
variable {X : Cx} {W : WX} {e : Expr} {es : List Expr} {pos p : Pos} {x : Str} {k n : Nat} {dsp : DSp} {t : DTA}
def dCall (n : Nat) (dsp : DSp) (t : DTA) : DTE := fun ρ st Q Z => t ρ st (fun ds st1 => ds.length = n ∧ dsp ds st1 Q fun x st2 => Z x ρ st2) Z
def Pas (X : Cx) (W : WX) : Prop := ∀ σ, PassesAt (L2.CX X.prog X.w) X σ (WE W σ)
theorem pas0 {X : Cx} : Pas X W0 := fun σ _ _ _ _ _ _ h => by
  obtain ⟨_, _, _, _, _, _, _, _, _, _, _, _, z⟩ := h
  exact z.elim
theorem pasT {X : Cx} {W : WX} (tk : Takes X W) : Pas X W := fun σ => passAt tk σ
theorem XOk.of {K : PySem.W.Frag} {W : WX} {Z : DZ} {H H1 : Hp} {μ μ1 : List Addr} {ρ : Env'} {st : Sto} {σ : St} (hS : Stt K ρ st μ σ H) (z : ZOk K W Z H μ) (e1 : Ext H H1 μ μ1) : XOk K (fun x st2 => Z x ρ st2) (WE W σ) H1 μ1 :=
  fun x st' H' μ' c dx q e s r => z _ _ _ _ _ _ _ _ q (e1.trans e) (hS.mono (e1.trans e) s) r
theorem de_call (F : Has X.prog X.w X.K X.mg X.base k x n dsp) (hr : Room k X.A) (hg : Gl X x) (hx : Pas X W) (ha : DA X W (e :: es) t)
    (hdb : (x == ("__debug__" : Str)) = false := by decide) (he : starEach (e :: es) X.env = (false, eval e X.env) :: starEach es X.env := by rfl) (hpl : (backTo pos (starEach es X.env)).any (·.1) = false := by rfl) :
    DE X W (.Call (.Name x p) (e :: es) [] pos) (dCall n dsp t) := by
  obtain ⟨f, fd, ps, F, hm, hk, hb⟩ := F
  refine pe_weak (pe_callS F hr hg hm hk hb hx ha hdb he hpl) fun σ H Q ⟨ρ, st, μ, Qd, Z, hS, ht, hQ, hZ⟩ => ?_
  exact ⟨ρ, st, μ, _, Z, hS, ht, fun ds st1 H1 μ1 vs hx e1 s1 rv => ⟨by rw [← rv.length]; exact hx.1, ds, st1, μ1, Qd, _, rv, s1, hx.2, hQ.mono e1, XOk.of hS hZ e1⟩, hZ⟩
end
/-- what is given back, what else the body made being forgotten -/
def Back (st : Sto) (Q : DK) : DK := fun d st' => Q d st' ∨ ∃ st1 g, st' = st1 ++ g ∧ st1.length = st.length ∧ (∀ b ∈ st1, b ∈ st ∨ Ob.below st.length b = true) ∧
  ((D.blw st.length d = true ∧ Q d st1) ∨ ∃ m ds, d = .loc m ∧ st'[m]? = some (.lst ds) ∧ st.length ≤ m ∧ D.blws st.length ds = true ∧ Q (.loc st.length) (st1 ++ [.lst ds]))
def BackX (st : Sto) (Z : DX → Sto → Prop) : DX → Sto → Prop := fun x st' => Z x st' ∨ ∃ st1 g, st' = st1 ++ g ∧ st1.length = st.length ∧ (∀ b ∈ st1, b ∈ st ∨ Ob.below st.length b = true) ∧ D.blws st.length (x.fs.map (·.2)) = true ∧ Z x st1
section
variable {K : PySem.W.Frag} {H H' : Hp} {μ μ' : List Addr} {st st' st1 g : Sto}
theorem Back.store (s0 : SRep K st μ H) (e : Ext H H' μ μ') (s : SRep K (st1 ++ g) μ' H') (hl : st1.length = st.length) (hb : ∀ b ∈ st1, b ∈ st ∨ Ob.below st.length b = true) : SRep K st1 μ H' ∧ Ext H H' μ μ := by
  have hpre : ∀ m, m < st.length → μ[m]? = μ'[m]? := fun m hm => by
    have h1 : m < μ.length := by rw [← s0.len]; exact hm
    rw [List.getElem?_eq_getElem h1]
    exact (e.pre m _ (List.getElem?_eq_getElem h1)).symm
  have e1 : Ext H H' μ μ := ⟨⟨fun _ _ q => q, e.tup, e.frz⟩, e.fra, fun a q => .inl q⟩
  refine ⟨⟨by rw [hl, s0.len], s0.nd, fun n b q => ?_, s.tab, s0.exc.ext e1⟩, e1⟩
  have hn : n < st1.length := (List.getElem?_eq_some_iff.mp q).1
  obtain ⟨a, o, e1, e2, r⟩ := s.at' n b (by rw [List.getElem?_append_left hn]; exact q)
  have hbl : Ob.below st.length b = true := by
    rcases hb b (List.mem_of_getElem? q) with z | z
    · exact s0.below z
    · exact z
  exact ⟨a, o, by rw [hpre n (by omega)]; exact e1, e2, r.cut hpre hbl⟩
theorem Back.ok {Qd : DK} {Q : VK} (s0 : SRep K st μ H) (hQ : EOk K Qd Q H μ) : EOk K (Back st Qd) Q H μ := fun d st' H' μ' v h e s r => by
  rcases h with h | ⟨st1, g, rfl, hl, hb, h⟩
  · exact hQ _ _ _ _ _ h e s r
  · obtain ⟨s1, e1⟩ := Back.store s0 e s hl hb
    have hpre : ∀ m, m < st.length → μ[m]? = μ'[m]? := fun m hm => by
      have h1 : m < μ.length := by rw [← s0.len]; exact hm
      rw [List.getElem?_eq_getElem h1]
      exact (e.pre m _ (List.getElem?_eq_getElem h1)).symm
    rcases h with ⟨hd, h⟩ | ⟨m, ds, rfl, hm, hge, hds, h⟩
    · exact hQ _ _ _ _ _ h e1 s1 (r.cut hpre hd)
    · obtain ⟨a, rfl, ha⟩ := r
      obtain ⟨a', o, q1, q2, vs, rfl, hr⟩ := s.at' m _ hm
      rw [ha] at q1; cases q1
      have hna : a ∉ μ := fun z => by
        obtain ⟨i, hi⟩ := List.mem_iff_getElem?.mp z
        have hi' : i < μ.length := (List.getElem?_eq_some_iff.mp hi).1
        have := nd_ix s.nd (e.pre i a hi) ha
        rw [← s0.len] at hi'
        omega
      have hn : ∀ o, H a = some o → ∃ ps, o = .tbl ps := by
        rcases e.new a (List.mem_of_getElem? ha) with z | z
        · exact absurd z hna
        · exact z
      have x0 : Ext0 H' H' μ (μ ++ [a]) := ⟨fun n b q => by rw [List.getElem?_append_left (List.getElem?_eq_some_iff.mp q).1]; exact q, fun _ _ q => q, fun _ _ _ q => q⟩
      refine hQ _ _ H' (μ ++ [a]) _ h ⟨⟨fun n b q => x0.pre n b q, e.tup, e.frz⟩, e.fra, fun b q => ?_⟩ (s1.adopt hna q2 ⟨vs, rfl, hr.cut hpre hds⟩) ⟨a, rfl, by rw [s0.len]; exact getElem?_end _ _⟩
      rcases List.mem_append.mp q with q | q
      · exact .inl q
      · rw [List.mem_singleton.mp q]; exact .inr hn
theorem BackX.ok {Z : DX → Sto → Prop} {E : XK} (s0 : SRep K st μ H) (hZ : XOk K Z E H μ) : XOk K (BackX st Z) E H μ := fun x st' H' μ' c dx h e s r => by
  rcases h with h | ⟨st1, g, rfl, hl, hb, hx, h⟩
  · exact hZ _ _ _ _ _ _ h e s r
  · obtain ⟨s1, e1⟩ := Back.store s0 e s hl hb
    have hpre : ∀ m, m < st.length → μ[m]? = μ'[m]? := fun m hm => by
      have h1 : m < μ.length := by rw [← s0.len]; exact hm
      rw [List.getElem?_eq_getElem h1]
      exact (e.pre m _ (List.getElem?_eq_getElem h1)).symm
    refine hZ _ _ _ _ _ _ h e1 s1 ⟨r.1, ?_⟩
    rcases r.2 with r2 | ⟨d, gs, r2, r3, r4, r5⟩
    · exact .inl r2
    · exact .inr ⟨d, gs, r2, r3, r4, r5.cut hpre hx⟩
end
/-- where a def of the text stands -/
def DefIn (K : PySem.W.Frag) (mg : Str → Option Value) (x : Str) (s : Stmt) (ps : List Str) : Prop := ∃ f fd, Fun K x x s f fd ∧ mg x = some (.ref f) ∧ Binds K fd ps []
def startD (N : List Str) (ds : List D) : Env' := ds.map some ++ List.replicate (N.length - ds.length) none
theorem start_rep {K : PySem.W.Frag} {H : Hp} {μ : List Addr} {ds : List D} {vs : List V} (N : List Str) (r : Reps K H μ ds vs) : ERep K H μ (startD N ds) (L2.start N vs) := by
  have hl := r.length
  refine ⟨by simp [startD, L2.start, hl], fun i d e => ?_⟩
  unfold startD at e
  by_cases hi : i < ds.length
  · rw [List.getElem?_append_left (by simpa using hi), List.getElem?_map] at e
    cases q : ds[i]? with
    | none => rw [q] at e; cases e
    | some d' =>
      rw [q] at e
      cases e
      obtain ⟨v, hv, rv⟩ := r.get q
      refine ⟨v, ?_, rv⟩
      unfold L2.start
      rw [List.getElem?_append_left (by simp; omega), List.getElem?_map, hv]
      rfl
  · rw [List.getElem?_append_right (by simpa using hi), List.getElem?_replicate] at e
    split at e <;> cases e
section
variable {P : Program} {w : World} {K : PySem.W.Frag} {mg : Str → Option Value} {base : Heap} {k n : Nat} {x : Str} {s : Stmt} {N ps : List Str} {dsp : DSp}
abbrev XDef (P : Program) (w : World) (K : PySem.W.Frag) (mg : Str → Option Value) (base : Heap) (N : List Str) (x : Str) (s : Stmt) (f : Addr) (cdv : Value) (A : Around) (outer : List Env) (s0 : Shared) (H : Hp) (E : XK) : Cx :=
  cxOf (L2.CX P w) P w K mg base N x (defScope s) f cdv A outer s0 H E
abbrev WDef (E : XK) : WX := fun cls d _ H => E cls d H
theorem has_mk (F : DefIn K mg x s ps) (S : FnScope N ps (defScope s)) (hn : ps.length = n)
    (body : ∀ (f : Addr) (cdv : Value) (A : Around) (outer : List Env) (s0 : Shared) (H : Hp) (E : XK), Room k (A.deeper (envOfC x (defScope s) s0.heap.objs.size f cdv)) →
      ∃ t, DSs (XDef P w K mg base N x s f cdv A outer s0 H E) (WDef E) (defBody s) t ∧ ∀ ds st Q Z, ds.length = n → dsp ds st Q Z → t { nx := fun _ st' => Back st Q .non st', rt := Back st Q, xs := fun x _ st' => BackX st Z x st' } (startD N ds) st) :
    Has P w K mg base (k + 1) x n dsp := by
  obtain ⟨f, fd, F, hm, hb⟩ := F
  refine ⟨f, fd, ps, F.okX S (fun vs H Q E h => by rw [hn]; exact h.1) (fun cdv A outer s0 H vs Q E hr h => ?_), hm, F.kp, hb⟩
  obtain ⟨t, ht, hd⟩ := body f cdv A outer s0 H E hr
  obtain ⟨hl, ds, st, μ, Qd, Z, r, sr, hsp, hQ, hZ⟩ := h
  refine ⟨_, ht, startD N ds, st, μ, _, ⟨start_rep N r, sr⟩, hd ds st Qd Z (by rw [r.length]; exact hl) hsp, ?_, Back.ok sr hQ, ?_, ?_, ?_⟩
  · exact fun ρ' st' σ' H' μ' q e s' => Back.ok sr hQ _ _ _ _ _ q e s'.s rfl
  · exact fun ρ' st' σ' H' μ' q e s' => q.elim
  · exact fun ρ' st' σ' H' μ' q e s' => q.elim
  · exact fun x' ρ' st' σ' H' μ' c dx q e s' r' => BackX.ok sr hZ _ _ _ _ _ _ q e s'.s r'
end
end DL
namespace DL
open PySem L2 PySem.Spec
open PyProof.Rows hiding St
variable [TC : TabCtx]
section
variable {K : PySem.W.Frag}
theorem DOp.or {r r' : R2} {d d' : D2} (h : DOp K r d) (h' : DOp K r' d') : DOp K (fun x y H Q => r x y H Q ∨ r' x y H Q) (fun x y st Q => d x y st Q ∨ d' x y st Q) := by
  intro H μ st x y v u Qd Q s rx ry q hQ
  rcases q with q | q
  · exact .inl (h s rx ry q hQ)
  · exact .inr (h' s rx ry q hQ)
theorem DOp.i0 {g : Int → Int → V} {f : Int → Int → D} (hf : ∀ i j H μ, Rep K H μ (f i j) (g i j)) : DOp K (rI0 g) (fun x y st Q => match x, y with | .int i, .int j => Q (f i j) st | _, _ => False) := by
  intro H μ st x y v u Qd Q s rx ry h hQ
  cases x <;> cases y <;> first | exact (show False from h).elim | skip
  exact ⟨_, _, rx, ry, hQ _ _ _ _ _ h (Ext.refl _ _) s (hf _ _ _ _)⟩
theorem DOp.ic {C : Int → Int → Prop} {g : Int → Int → V} {f : Int → Int → D} (hf : ∀ i j H μ, Rep K H μ (f i j) (g i j)) : DOp K (rI C g) (fun x y st Q => match x, y with | .int i, .int j => C i j ∧ Q (f i j) st | _, _ => False) := by
  intro H μ st x y v u Qd Q s rx ry h hQ
  cases x <;> cases y <;> first | exact (show False from h).elim | skip
  exact ⟨_, _, rx, ry, h.1, hQ _ _ _ _ _ h.2 (Ext.refl _ _) s (hf _ _ _ _)⟩
/-- +: ints, texts, tuples, lists -/
def dAdd : D2 := fun x y st Q => match x, y with
  | .int i, .int j => Q (.int (i + j)) st
  | .str a, .str b => a.length + b.length ≤ sizeLine ∧ Q (.str (a ++ b)) st
  | .tup a, .tup b => a.length + b.length ≤ sizeLine ∧ Q (.tup (a ++ b)) st
  | .loc m, .loc n => ∃ a b, st[m]? = some (.lst a) ∧ st[n]? = some (.lst b) ∧ a.length + b.length ≤ sizeLine ∧ Q (.loc st.length) (st ++ [.lst (a ++ b)])
  | _, _ => False
def rAddV (K : PySem.W.Frag) : R2 := fun x y H Q => rI0 (fun i j => .int (i + j)) x y H Q ∨ (∃ i j, x = .str i ∧ y = .str j ∧ i.length + j.length ≤ sizeLine ∧ Q (.str (i ++ j)) H) ∨ rCatA K x y H Q ∨ rCat x y H Q
theorem add_ok : DOp K (rAddV K) dAdd := by
  intro H μ st x y v u Qd Q s rx ry h hQ
  cases x with
  | int i =>
    cases y <;> first | exact (show False from h).elim | skip
    exact .inl ⟨_, _, rx, ry, hQ _ _ _ _ _ h (Ext.refl _ _) s rfl⟩
  | str a =>
    cases y <;> first | exact (show False from h).elim | skip
    exact .inr (.inl ⟨_, _, rx, ry, h.1, hQ _ _ _ _ _ h.2 (Ext.refl _ _) s rfl⟩)
  | tup a =>
    cases y <;> first | exact (show False from h).elim | skip
    rename_i b
    obtain ⟨p, vs, rfl, hs, hr⟩ := rx
    obtain ⟨q, us, rfl, hs', hr'⟩ := ry
    refine .inr (.inr (.inl ⟨p, q, vs, us, rfl, rfl, hs, hs', by rw [← hr.length, ← hr'.length]; exact h.1, fun e => ?_, fun _ e => ?_, fun _ _ o ho => ?_⟩))
    · subst e
      have : a = [] := List.eq_nil_of_length_eq_zero hr.length
      subst this
      exact hQ _ _ _ _ _ h.2 (Ext.refl _ _) s ⟨q, us, rfl, hs', hr'⟩
    · subst e
      have : b = [] := List.eq_nil_of_length_eq_zero hr'.length
      subst this
      refine hQ _ _ _ _ _ h.2 (Ext.refl _ _) s ⟨p, vs, rfl, hs, ?_⟩
      rw [List.append_nil]; exact hr
    · exact hQ.tup (Ext.refl _ _) s (hr.append hr') h.2 ho
  | loc m =>
    cases y <;> first | exact (show False from h).elim | skip
    rename_i n
    obtain ⟨a, b, ha, hb, hz, q⟩ := h
    obtain ⟨p, rfl, hp⟩ := rx
    obtain ⟨p', rfl, hp'⟩ := ry
    obtain ⟨_, o, e1, e2, vs, rfl, hr⟩ := s.at' _ _ ha
    rw [hp] at e1; cases e1
    obtain ⟨_, o, e1, e3, us, rfl, hr'⟩ := s.at' _ _ hb
    rw [hp'] at e1; cases e1
    exact .inr (.inr (.inr ⟨p, p', vs, us, rfl, rfl, e2, e3, by rw [← hr.length, ← hr'.length]; exact hz, fun o ho => hQ.lst (Ext.refl _ _) s (hr.append hr') q ho⟩))
  | _ => exact (show False from h).elim
def dSub : D2 := fun x y st Q => match x, y with | .int i, .int j => Q (.int (i - j)) st | _, _ => False
def dMul : D2 := fun x y st Q => match x, y with | .int i, .int j => CMul i j ∧ Q (.int (i * j)) st | _, _ => False
def dDiv : D2 := fun x y st Q => match x, y with | .int i, .int j => CDiv i j ∧ Q (.int (i / j)) st | _, _ => False
def dMod : D2 := fun x y st Q => match x, y with | .int i, .int j => 0 < j ∧ Q (.int (i % j)) st | _, _ => False
def dPow : D2 := fun x y st Q => match x, y with | .int i, .int j => CPow i j ∧ Q (.int (i ^ j.toNat)) st | _, _ => False
theorem sub_ok : DOp K (rI0 fun i j => .int (i - j)) dSub := DOp.i0 (f := fun i j => .int (i - j)) fun i j _ _ => rfl
theorem mul_ok : DOp K (rI CMul fun i j => .int (i * j)) dMul := DOp.ic (f := fun i j => .int (i * j)) fun i j _ _ => rfl
theorem div_ok : DOp K (rI CDiv fun i j => .int (i / j)) dDiv := DOp.ic (f := fun i j => .int (i / j)) fun i j _ _ => rfl
theorem mod_ok : DOp K (rI (fun _ j => 0 < j) fun i j => .int (i % j)) dMod := DOp.ic (f := fun i j => .int (i % j)) fun i j _ _ => rfl
theorem pow_ok : DOp K (rI CPow fun i j => .int (i ^ j.toNat)) dPow := DOp.ic (f := fun i j => .int (i ^ j.toNat)) fun i j _ _ => rfl
end
section
variable {X : Cx} {W : WX} {a b e : Expr} {ta tb te : DTE} {pos : Pos}
theorem de_add (ha : DE X W a ta) (hb : DE X W b tb) : DE X W (.BinOp a .Add b pos) (dOp dAdd ta tb) := de_op (op_add.or (op_add_str.or (op_catA.or op_cat))) add_ok ha hb
theorem de_sub (ha : DE X W a ta) (hb : DE X W b tb) : DE X W (.BinOp a .Sub b pos) (dOp dSub ta tb) := de_op op_sub sub_ok ha hb
theorem de_mul (ha : DE X W a ta) (hb : DE X W b tb) : DE X W (.BinOp a .Mult b pos) (dOp dMul ta tb) := de_op op_mul mul_ok ha hb
theorem de_div (ha : DE X W a ta) (hb : DE X W b tb) : DE X W (.BinOp a .FloorDiv b pos) (dOp dDiv ta tb) := de_op op_fdiv div_ok ha hb
theorem de_mod (ha : DE X W a ta) (hb : DE X W b tb) : DE X W (.BinOp a .Mod b pos) (dOp dMod ta tb) := de_op op_mod mod_ok ha hb
theorem de_pow (ha : DE X W a ta) (hb : DE X W b tb) : DE X W (.BinOp a .Pow b pos) (dOp dPow ta tb) := de_op op_pow pow_ok ha hb
end
end DL
namespace DL
open PySem L2 PySem.Spec
open PyProof.Rows hiding St
variable [TC : TabCtx]
def pdF (st : Sto) : Nat → D → Option PyData
  | _, .non => some .none
  | _, .bl b => some (.bool b)
  | _, .int i => some (.int i)
  | _, .str x => some (.str x)
  | n + 1, .tup ds => (ds.mapM (pdF st n)).map .tuple
  | n + 1, .fls ds => (ds.mapM (pdF st n)).map .list
  | n + 1, .loc m => match st[m]? with
    | some (.lst ds) => (ds.mapM (pdF st n)).map .list
    | _ => none
  | _, _ => none
section
variable {K : PySem.W.Frag} {H : Hp} {μ : List Addr} {st : Sto}
theorem mapM_cons_some {α β : Type} {f : α → Option β} {x : α} {xs : List α} {ps : List β} (h : (x :: xs).mapM f = some ps) : ∃ p qs, ps = p :: qs ∧ f x = some p ∧ xs.mapM f = some qs := by
  rw [List.mapM_cons] at h
  cases e1 : f x with
  | none => rw [e1] at h; cases h
  | some p =>
    cases e2 : xs.mapM f with
    | none => rw [e1, e2] at h; cases h
    | some qs =>
      rw [e1, e2] at h
      cases h
      exact ⟨p, qs, rfl, rfl, rfl⟩
theorem dpAll_of (s : SRep K st μ H) {n : Nat} (ih : ∀ d v p, Rep K H μ d v → pdF st n d = some p → Dp K H v p) : ∀ {ds : List D} {vs : List V} {ps : List PyData}, Reps K H μ ds vs → ds.mapM (pdF st n) = some ps → DpAll K H vs ps
  | [], _, _, r, h => by
    subst r
    cases h
    exact .nil
  | d :: ds, _, _, r, h => by
    obtain ⟨v, rs, rfl, r1, r2⟩ := r
    obtain ⟨p, qs, rfl, h1, h2⟩ := mapM_cons_some h
    exact .cons (ih d v p r1 h1) (dpAll_of s ih r2 h2)
theorem dp_of (s : SRep K st μ H) : ∀ (n : Nat) (d : D) (v : V) (p : PyData), Rep K H μ d v → pdF st n d = some p → Dp K H v p := by
  intro n
  induction n with
  | zero =>
    intro d v p r h
    cases d <;> simp only [pdF] at h <;> first | (cases h; rw [show v = _ from r]; constructor) | cases h
  | succ n ih =>
    intro d v p r h
    cases d with
    | non => cases h; rw [show v = _ from r]; constructor
    | bl b => cases h; rw [show v = _ from r]; constructor
    | int i => cases h; rw [show v = _ from r]; constructor
    | str x => cases h; rw [show v = _ from r]; constructor
    | tup ds =>
      obtain ⟨a, vs, rfl, hs, hr⟩ := r
      simp only [pdF, Option.map_eq_some_iff] at h
      obtain ⟨ps, h1, rfl⟩ := h
      exact .tup hs (dpAll_of s ih hr h1)
    | fls ds =>
      obtain ⟨a, vs, rfl, hs, hr⟩ := r
      simp only [pdF, Option.map_eq_some_iff] at h
      obtain ⟨ps, h1, rfl⟩ := h
      exact .lst hs.sq (dpAll_of s ih hr h1)
    | loc m =>
      obtain ⟨a, rfl, hm⟩ := r
      simp only [pdF] at h
      split at h
      · rename_i ds e
        obtain ⟨a', o, e1, e2, vs, rfl, hr⟩ := s.at' _ _ e
        rw [hm] at e1; cases e1
        simp only [Option.map_eq_some_iff] at h
        obtain ⟨ps, h1, rfl⟩ := h
        exact .lst (.inl (.inl e2)) (dpAll_of s ih hr h1)
      · cases h
    | adr a => cases h
    | ty t => cases h
def atomEq : D → D → Option Bool
  | .int i, .int j => some (decide (i = j))
  | .str x, .str y => some (decide (x = y))
  | .bl a, .bl b => some (decide (a = b))
  | .non, .non => some true
  | .non, .int _ => some false
  | .int _, .non => some false
  | .non, .str _ => some false
  | .str _, .non => some false
  | .non, .bl _ => some false
  | .bl _, .non => some false
  | .int _, .str _ => some false
  | .str _, .int _ => some false
  | _, _ => none
def dEqB (f : Bool → Bool) : D2 := fun x y st Q => match atomEq x y with
  | some b => Q (.bl (f b)) st
  | none => ∃ n d e, pdF st n x = some d ∧ pdF st n y = some e ∧ SeqAt.shaped d = true ∧ SeqAt.shaped e = true ∧ Q (.bl (f (PyData.eqv d e))) st
abbrev dEq : D2 := dEqB id
abbrev dNe : D2 := dEqB not
theorem atomEq_ok {x y : D} {v u : V} {b : Bool} (h : atomEq x y = some b) (rx : Rep K H μ x v) (ry : Rep K H μ y u) : scal v u = true ∧ decide (v = u) = b := by
  cases x <;> cases y <;> simp only [atomEq] at h <;> first | (cases h; done) | skip
  all_goals
    cases h
    rw [show v = _ from rx, show u = _ from ry]
    refine ⟨rfl, ?_⟩
    simp
theorem eq_ok : DOp K (fun x y H Q => rEq x y H Q ∨ rEqD K x y H Q) dEq := by
  intro H μ st x y v u Qd Q s rx ry h hQ
  unfold dEq dEqB at h
  split at h
  · rename_i b e
    obtain ⟨h1, h2⟩ := atomEq_ok e rx ry
    exact .inl ⟨h1, by rw [h2]; exact hQ _ _ _ _ _ h (Ext.refl _ _) s rfl⟩
  · obtain ⟨n, d, e, h1, h2, h3, h4, q⟩ := h
    exact .inr ⟨d, e, dp_of s n x v d rx h1, dp_of s n y u e ry h2, h3, h4, hQ _ _ _ _ _ q (Ext.refl _ _) s rfl⟩
theorem ne_ok : DOp K (fun x y H Q => rNe x y H Q ∨ rNeD K x y H Q) dNe := by
  intro H μ st x y v u Qd Q s rx ry h hQ
  unfold dNe dEqB at h
  split at h
  · rename_i b e
    obtain ⟨h1, h2⟩ := atomEq_ok e rx ry
    exact .inl ⟨h1, by rw [h2]; exact hQ _ _ _ _ _ h (Ext.refl _ _) s rfl⟩
  · obtain ⟨n, d, e, h1, h2, h3, h4, q⟩ := h
    exact .inr ⟨d, e, dp_of s n x v d rx h1, dp_of s n y u e ry h2, h3, h4, hQ _ _ _ _ _ q (Ext.refl _ _) s rfl⟩
/-- an order of ints; of texts, tuples, lists by dataLt -/
def dOrd (f : Int → Int → Bool) (g : PyData → PyData → Bool) : D2 := fun x y st Q => match x, y with
  | .int i, .int j => Q (.bl (f i j)) st
  | x, y => ∃ n d e, pdF st n x = some d ∧ pdF st n y = some e ∧ PySem.W.alike d e = true ∧ d ≠ .none ∧ d.depth ≤ 64 ∧ Q (.bl (g d e)) st
abbrev dLt : D2 := dOrd (fun i j => decide (i < j)) PySem.W.dataLt
abbrev dGt : D2 := dOrd (fun i j => decide (j < i)) fun d e => PySem.W.dataLt e d
abbrev dLe : D2 := dOrd (fun i j => decide (i ≤ j)) fun d e => !PySem.W.dataLt e d
abbrev dGe : D2 := dOrd (fun i j => decide (j ≤ i)) fun d e => !PySem.W.dataLt d e
def rOrdD (K : PySem.W.Frag) (g : PyData → PyData → Bool) : R2 := fun x y H Q => ∃ d e, Dp K H x d ∧ Dp K H y e ∧ PySem.W.alike d e = true ∧ d ≠ .none ∧ d.depth ≤ 64 ∧ Q (.bl (g d e)) H
theorem ord_ok {f : Int → Int → Bool} {g : PyData → PyData → Bool} : DOp K (fun x y H Q => rI0 (fun i j => .bl (f i j)) x y H Q ∨ rOrdD K g x y H Q) (dOrd f g) := by
  intro H μ st x y v u Qd Q s rx ry h hQ
  unfold dOrd at h
  split at h
  · exact .inl ⟨_, _, rx, ry, hQ _ _ _ _ _ h (Ext.refl _ _) s rfl⟩
  · obtain ⟨n, d, e, h1, h2, h3, h4, h5, q⟩ := h
    exact .inr ⟨d, e, dp_of s n _ v d rx h1, dp_of s n _ u e ry h2, h3, h4, h5, hQ _ _ _ _ _ q (Ext.refl _ _) s rfl⟩
end
section
variable {X : Cx}
theorem op_ordD {op : CmpOp} {g : PyData → PyData → Bool} (hu : X.A.units + 64 < cLine)
    (rule : ∀ (s : Shared) (E : Value → Shared → Prop) (a b : Value) (da db : PyData) (as bs : List Addr) (Q : Value → Shared → Prop), Reads s.heap a da as → Reads s.heap b db bs → PySem.W.alike da db = true → da ≠ .none → X.A.units + min da.depth db.depth < cLine → Q (.bool (g da db)) s → wpAny (model X.prog X.w) X.A (compareOp op a b) Q E s) :
    OpR X (compareOp op) (rOrdD X.K g) := by
  intro pins s σ H x y v u Q I rx ry h
  obtain ⟨d, e, hd, he, ha, hn, hdp, q⟩ := h
  obtain ⟨as, r1⟩ := Dp.reads I d x v hd rx
  obtain ⟨bs, r2⟩ := Dp.reads I e y u he ry
  have hm : min d.depth e.depth ≤ d.depth := Nat.min_le_left _ _
  exact rule s _ v u d e as bs _ r1 r2 ha hn (by omega) ⟨.bl _, H, I, rfl, q⟩
theorem op_ltA (hu : X.A.units + 64 < cLine) : OpR X (compareOp .Lt) (rOrdD X.K PySem.W.dataLt) := op_ordD hu fun _ _ _ _ _ _ _ _ _ h1 h2 h3 h4 h5 q => PySem.W.lt_data h1 h2 h3 h4 h5 q
theorem op_gtA (hu : X.A.units + 64 < cLine) : OpR X (compareOp .Gt) (rOrdD X.K fun d e => PySem.W.dataLt e d) := op_ordD hu fun _ _ _ _ _ _ _ _ _ h1 h2 h3 h4 h5 q => PySem.W.gt_data h1 h2 h3 h4 h5 q
theorem op_leA (hu : X.A.units + 64 < cLine) : OpR X (compareOp .LtE) (rOrdD X.K fun d e => !PySem.W.dataLt e d) := op_ordD hu fun _ _ _ _ _ _ _ _ _ h1 h2 h3 h4 h5 q => PySem.W.le_data h1 h2 h3 h4 h5 q
theorem op_geA (hu : X.A.units + 64 < cLine) : OpR X (compareOp .GtE) (rOrdD X.K fun d e => !PySem.W.dataLt d e) := op_ordD hu fun _ _ _ _ _ _ _ _ _ h1 h2 h3 h4 h5 q => PySem.W.ge_data h1 h2 h3 h4 h5 q
/-- a comparison, by values: the operator's rule and its data form -/
structure Cm (X : Cx) (op : CmpOp) (dr : D2) : Prop where
  ex : ∃ r, OpR X (compareOp op) r ∧ DOp X.K r dr
theorem cm_eq (hu : X.A.units + 64 < cLine) : Cm X .Eq dEq := ⟨_, op_eq.or (op_eqD hu), eq_ok⟩
theorem cm_ne (hu : X.A.units + 64 < cLine) : Cm X .NotEq dNe := ⟨_, op_ne.or (op_neD hu), ne_ok⟩
theorem cm_lt (hu : X.A.units + 64 < cLine) : Cm X .Lt dLt := ⟨_, op_lt.or (op_ltA hu), ord_ok⟩
theorem cm_gt (hu : X.A.units + 64 < cLine) : Cm X .Gt dGt := ⟨_, op_gt.or (op_gtA hu), ord_ok⟩
theorem cm_le (hu : X.A.units + 64 < cLine) : Cm X .LtE dLe := ⟨_, op_le.or (op_leA hu), ord_ok⟩
theorem cm_ge (hu : X.A.units + 64 < cLine) : Cm X .GtE dGe := ⟨_, op_ge.or (op_geA hu), ord_ok⟩
/-- is None, is not None -/
def isNonD : D → Bool
  | .non => true
  | _ => false
def dIsN (f : Bool → Bool) : D2 := fun x y st Q => match y with | .non => Q (.bl (f (isNonD x))) st | _ => False
theorem isNon_ok {K : PySem.W.Frag} {H : Hp} {μ : List Addr} {x : D} {v : V} (r : Rep K H μ x v) : decide (v = .non) = isNonD x := by
  cases x with
  | non => rw [show v = _ from r]; rfl
  | bl _ => rw [show v = _ from r]; rfl
  | int _ => rw [show v = _ from r]; rfl
  | str _ => rw [show v = _ from r]; rfl
  | adr _ => rw [show v = _ from r]; rfl
  | ty _ => rw [show v = _ from r]; rfl
  | tup _ => obtain ⟨a, vs, rfl, _⟩ := r; rfl
  | fls _ => obtain ⟨a, vs, rfl, _⟩ := r; rfl
  | loc _ => obtain ⟨a, rfl, _⟩ := r; rfl
theorem cm_is : Cm X .Is (dIsN id) := ⟨_, op_isN, fun {H μ st x y v u Qd Q} s rx ry h hQ => by
  cases y <;> first | exact (show False from h).elim | skip
  exact ⟨ry, by rw [isNon_ok rx]; exact hQ _ _ _ _ _ h (Ext.refl _ _) s rfl⟩⟩
theorem cm_isnot : Cm X .IsNot (dIsN not) := ⟨_, op_notN, fun {H μ st x y v u Qd Q} s rx ry h hQ => by
  cases y <;> first | exact (show False from h).elim | skip
  exact ⟨ry, by rw [isNon_ok rx]; exact hQ _ _ _ _ _ h (Ext.refl _ _) s rfl⟩⟩
/-- x in (a, b, ..), [a, b, ..]: flat items -/
def flatD : D → Bool
  | .non => true
  | .bl _ => true
  | .int _ => true
  | .str _ => true
  | _ => false
/-- a flat datum as a value -/
def flatVal : D → V
  | .bl b => .bl b
  | .int i => .int i
  | .str x => .str x
  | _ => .non
def inD (x : D) (ds : List D) : Bool := inV (flatVal x) (ds.map flatVal)
def itemsD (st : Sto) : D → Option (List D)
  | .tup ds => some ds
  | .fls ds => some ds
  | .loc n => match st[n]? with | some (.lst ds) => some ds | _ => none
  | _ => none
def dIn (neg : Bool) : D2 := fun x y st Q => ∃ ds, itemsD st y = some ds ∧ flatD x = true ∧ ds.all flatD = true ∧ Q (.bl (if neg then !inD x ds else inD x ds)) st
theorem flat_rep {K : PySem.W.Frag} {H : Hp} {μ : List Addr} {x : D} {v : V} (r : Rep K H μ x v) (h : flatD x = true) : v = flatVal x ∧ flatV v = true := by
  cases x <;> first | (cases h; done) | skip
  all_goals
    rw [show v = _ from r]
    exact ⟨rfl, rfl⟩
theorem flats_rep {K : PySem.W.Frag} {H : Hp} {μ : List Addr} : ∀ {ds : List D} {vs : List V}, Reps K H μ ds vs → ds.all flatD = true → vs = ds.map flatVal ∧ vs.all flatV = true
  | [], _, r, _ => by subst r; exact ⟨rfl, rfl⟩
  | d :: ds, _, r, h => by
    obtain ⟨v, rs, rfl, r1, r2⟩ := r
    simp only [List.all_cons, Bool.and_eq_true] at h
    obtain ⟨e1, e2⟩ := flat_rep r1 h.1
    obtain ⟨e3, e4⟩ := flats_rep r2 h.2
    subst e1 e3
    exact ⟨rfl, by simp only [List.all_cons, Bool.and_eq_true]; exact ⟨e2, e4⟩⟩
theorem items_ok {K : PySem.W.Frag} {H : Hp} {μ : List Addr} {st : Sto} {y : D} {u : V} {ds : List D} (s : SRep K st μ H) (r : Rep K H μ y u) (h : itemsD st y = some ds) : ∃ p vs, u = .ref p ∧ (SqL K H p vs ∨ SqT K H p vs) ∧ Reps K H μ ds vs := by
  cases y <;> simp only [itemsD] at h <;> first | (cases h; done) | skip
  · cases h
    obtain ⟨a, vs, rfl, hs, hr⟩ := r
    exact ⟨a, vs, rfl, .inr hs, hr⟩
  · cases h
    obtain ⟨a, vs, rfl, hs, hr⟩ := r
    exact ⟨a, vs, rfl, .inl hs.sq, hr⟩
  · obtain ⟨a, rfl, hn⟩ := r
    split at h
    · rename_i ds' e
      cases h
      obtain ⟨a', o, e1, e2, vs, rfl, hr⟩ := s.at' _ _ e
      rw [hn] at e1; cases e1
      exact ⟨a, vs, rfl, .inl (.inl (.inl e2)), hr⟩
    · cases h
theorem in_ok {K : PySem.W.Frag} {neg : Bool} : DOp K (rIn K neg) (dIn neg) := by
  intro H μ st x y v u Qd Q s rx ry h hQ
  obtain ⟨ds, h1, h2, h3, q⟩ := h
  obtain ⟨p, vs, rfl, hs, hr⟩ := items_ok s ry h1
  obtain ⟨e1, f1⟩ := flat_rep rx h2
  obtain ⟨e2, f2⟩ := flats_rep hr h3
  refine ⟨p, vs, rfl, hs, f1, f2, ?_⟩
  subst e1 e2
  exact hQ _ _ _ _ _ q (Ext.refl _ _) s rfl
theorem cm_notin : Cm X .NotIn (dIn true) := ⟨_, op_notIn_seq, in_ok⟩
end
section
variable {X : Cx} {W : WX} {a b c e : Expr} {ta tb tc : DTE} {pos : Pos} {op op' : CmpOp} {dr dr' : D2}
theorem de_cm (C : Cm X op dr) (hm : behindInMarks op b = false) (ha : DE X W a ta) (hb : DE X W b tb) : DE X W (.Compare a [op] [b] pos) (dOp dr ta tb) := by
  obtain ⟨r, ho, hr⟩ := C.ex
  exact de_cmp ho hr hm ha hb
theorem dt_cm (C : Cm X op dr) (hm : behindInMarks op b = false) (ha : DE X W a ta) (hb : DE X W b tb) : DT X W (.Compare a [op] [b] pos) (dTest (dOp dr ta tb)) := by
  obtain ⟨r, ho, hr⟩ := C.ex
  exact dt_cmp ho hr hm ha hb
end
end DL
namespace DL
open PySem L2 PySem.Spec
open PyProof.Rows hiding St
variable [TC : TabCtx]
section
variable {K : PySem.W.Frag} {H : Hp} {μ : List Addr} {st : Sto}
theorem CallR.or {X : Cx} {f : Value} {r r' : List V → Hp → VK → Prop} (h : CallR X f r) (h' : CallR X f r') : CallR X f (fun xs H Q => r xs H Q ∨ r' xs H Q) := by
  intro pins s σ H xs us Q I r q
  rcases q with q | q
  · exact h pins s σ H xs us Q I r q
  · exact h' pins s σ H xs us Q I r q
theorem reps1 {d : D} {vs : List V} (h : Reps K H μ [d] vs) : ∃ v, vs = [v] ∧ Rep K H μ d v := by
  obtain ⟨v, r, rfl, h1, h2⟩ := h
  exact ⟨v, by rw [show r = [] from h2], h1⟩
theorem reps2 {d e : D} {vs : List V} (h : Reps K H μ [d, e] vs) : ∃ v u, vs = [v, u] ∧ Rep K H μ d v ∧ Rep K H μ e u := by
  obtain ⟨v, r, rfl, h1, u, r2, rfl, h2, h3⟩ := h
  exact ⟨v, u, by rw [show r2 = [] from h3], h1, h2⟩
/-- len -/
def lenD (st : Sto) : D → (Nat → Prop) → Prop
  | .str z, Q => z.length ≤ sizeLine ∧ Q z.length
  | .tup ds, Q => Q ds.length
  | .fls ds, Q => Q ds.length
  | .loc n, Q => match st[n]? with | some (.lst ds) => Q ds.length | _ => False
  | _, _ => False
def dLen : DN := fun ds st Q => match ds with | [d] => lenD st d fun n => Q (.int n) st | _ => False
theorem len_ok : DCl K (fun xs H Q => (∃ p ys, xs = [.ref p] ∧ (SqL K H p ys ∨ SqT K H p ys) ∧ Q (.int ys.length) H) ∨ ∃ z, xs = [.str z] ∧ z.length ≤ sizeLine ∧ Q (.int z.length) H) dLen := by
  intro H μ st ds vs Qd Q s r h hQ
  match ds, r, h with
  | [d], r, h =>
    obtain ⟨v, rfl, r1⟩ := reps1 r
    cases d with
    | str z => rw [show v = _ from r1]; exact .inr ⟨z, rfl, h.1, hQ _ _ _ _ _ h.2 (Ext.refl _ _) s rfl⟩
    | tup ds =>
      obtain ⟨a, vs, rfl, hs, hr⟩ := r1
      exact .inl ⟨a, vs, rfl, .inr hs, by rw [← hr.length]; exact hQ _ _ _ _ _ h (Ext.refl _ _) s rfl⟩
    | fls ds =>
      obtain ⟨a, vs, rfl, hs, hr⟩ := r1
      exact .inl ⟨a, vs, rfl, .inl hs.sq, by rw [← hr.length]; exact hQ _ _ _ _ _ h (Ext.refl _ _) s rfl⟩
    | loc n =>
      obtain ⟨a, rfl, hn⟩ := r1
      simp only [dLen, lenD] at h
      split at h
      · rename_i ds e
        obtain ⟨a', o, e1, e2, vs, rfl, hr⟩ := s.at' _ _ e
        rw [hn] at e1; cases e1
        exact .inl ⟨a, vs, rfl, .inl (.inl (.inl e2)), by rw [← hr.length]; exact hQ _ _ _ _ _ h (Ext.refl _ _) s rfl⟩
      · exact h.elim
    | _ => exact (show False from h).elim
/-- abs, int -/
def dAbs : DN := fun ds st Q => match ds with | [.int i] => Q (.int (if i < 0 then -i else i)) st | _ => False
theorem abs_ok : DCl K (fun xs H Q => ∃ i, xs = [.int i] ∧ Q (.int (if i < 0 then -i else i)) H) dAbs := by
  intro H μ st ds vs Qd Q s r h hQ
  unfold dAbs at h
  split at h
  · exact ⟨_, r.ints1, hQ _ _ _ _ _ h (Ext.refl _ _) s rfl⟩
  · exact h.elim
def dInt : DN := fun ds st Q => match ds with
  | [.int i] => Q (.int i) st
  | [.bl k] => Q (.int (if k then 1 else 0)) st
  | [.str a] => ∃ n, PySem.intText? a = some n ∧ a.length ≤ 640 ∧ Q (.int n) st
  | _ => False
theorem int_ok : DCl K (fun xs H Q => ((∃ i, xs = [.int i] ∧ Q (.int i) H) ∨ ∃ k, xs = [.bl k] ∧ Q (.int (if k then 1 else 0)) H) ∨ ∃ a n, xs = [.str a] ∧ PySem.intText? a = some n ∧ a.length ≤ 640 ∧ Q (.int n) H) dInt := by
  intro H μ st ds vs Qd Q s r h hQ
  unfold dInt at h
  split at h
  · exact .inl (.inl ⟨_, r.ints1, hQ _ _ _ _ _ h (Ext.refl _ _) s rfl⟩)
  · obtain ⟨v, rfl, r1⟩ := reps1 r
    exact .inl (.inr ⟨_, by rw [show v = _ from r1], hQ _ _ _ _ _ h (Ext.refl _ _) s rfl⟩)
  · obtain ⟨v, rfl, r1⟩ := reps1 r
    obtain ⟨n, h1, h2, q⟩ := h
    exact .inr ⟨_, n, by rw [show v = _ from r1], h1, h2, hQ _ _ _ _ _ q (Ext.refl _ _) s rfl⟩
  · exact h.elim
/-- tuple(..), list(..) -/
def dTupOf : DN := fun ds st Q => match ds with | [d] => (match itemsD st d with | some es => Q (.tup es) st | none => False) | _ => False
theorem tupOf_ok : DCl K (fun xs H Q => ∃ p ys, xs = [.ref p] ∧ ((SqL K H p ys ∧ ∀ l, H l = none → Q (.ref l) (upd H l (.tup ys))) ∨ (SqT K H p ys ∧ Q (.ref p) H))) dTupOf := by
  intro H μ st ds vs Qd Q s r h hQ
  match ds, r, h with
  | [d], r, h =>
    obtain ⟨v, rfl, r1⟩ := reps1 r
    simp only [dTupOf] at h
    split at h
    · rename_i es e
      obtain ⟨p, vs, rfl, hs, hr⟩ := items_ok s r1 e
      refine ⟨p, vs, rfl, ?_⟩
      rcases hs with hs | hs
      · exact .inl ⟨hs, fun l hl => hQ.tup (Ext.refl _ _) s hr h hl⟩
      · exact .inr ⟨hs, hQ _ _ _ _ _ h (Ext.refl _ _) s ⟨p, vs, rfl, hs, hr⟩⟩
    · exact h.elim
def dLstOf : DN := fun ds st Q => match ds with | [d] => (match itemsD st d with | some es => Q (.loc st.length) (st ++ [.lst es]) | none => False) | _ => False
def dAll : DN := fun ds st Q => match ds with | [.loc n] => ∃ bs : List Bool, st[n]? = some (.lst (bs.map .bl)) ∧ Q (.bl (bs.all id)) st | _ => False
def dAny : DN := fun ds st Q => match ds with | [.loc n] => ∃ bs : List Bool, st[n]? = some (.lst (bs.map .bl)) ∧ Q (.bl (bs.any id)) st | _ => False
/-- append, extend, pop, clear, reverse of a list of the store -/
def dAppend : DM := fun x ds st Q => match x, ds with | .loc n, [d] => ∃ es, st[n]? = some (.lst es) ∧ es.length < sizeLine ∧ Q .non (st.set n (.lst (es ++ [d]))) | _, _ => False
theorem append_ok : DMt K rAppend dAppend := by
  intro H μ st x v ds vs Qd Q s rx rs h hQ
  unfold dAppend at h
  split at h
  · obtain ⟨u, rfl, ru⟩ := reps1 rs
    obtain ⟨a, rfl, hn⟩ := rx
    obtain ⟨es, he, hz, q⟩ := h
    obtain ⟨a', o, e1, e2, vs, rfl, hr⟩ := s.at' _ _ he
    rw [hn] at e1; cases e1
    have w := s.write (o' := .lst (vs ++ [u])) (b := .lst (es ++ [_])) hn e2 ⟨_, rfl, hr.append (Reps.one ru)⟩
    exact ⟨a, vs, u, rfl, rfl, e2, by rw [← hr.length]; exact hz, hQ _ _ _ _ _ q w.1 w.2 rfl⟩
  · exact h.elim
def dExtend : DM := fun x ds st Q => match x, ds with | .loc n, [.loc m] => ∃ es fs, st[n]? = some (.lst es) ∧ st[m]? = some (.lst fs) ∧ es.length + fs.length ≤ sizeLine ∧ Q .non (st.set n (.lst (es ++ fs))) | _, _ => False
def dPop : DM := fun x ds st Q => match x, ds with | .loc n, [] => ∃ es d, st[n]? = some (.lst es) ∧ es[es.length - 1]? = some d ∧ Q d (st.set n (.lst es.dropLast)) | _, _ => False
end
section
variable {X : Cx} {W : WX} {e : Expr} {es : List Expr} {t : DTA} {pos p apos : Pos} {o : Expr} {to : DTE}
/-- the calls; each x is a built-in's name that the module does not take -/
theorem de_len (hg : Gl X "len") (hm : X.mg "len" = none) (ha : DA X W (e :: es) t) (he : starEach (e :: es) X.env = (false, eval e X.env) :: starEach es X.env := by rfl) (hpl : (backTo pos (starEach es X.env)).any (·.1) = false := by rfl) :
    DE X W (.Call (.Name "len" p) (e :: es) [] pos) (dCB dLen t) := de_callB (CallR.or call_len_seq call_len_str) len_ok hg hm PySem.boot_len ha (by decide) (by decide) he hpl
theorem de_abs (hg : Gl X "abs") (hm : X.mg "abs" = none) (ha : DA X W (e :: es) t) (he : starEach (e :: es) X.env = (false, eval e X.env) :: starEach es X.env := by rfl) (hpl : (backTo pos (starEach es X.env)).any (·.1) = false := by rfl) :
    DE X W (.Call (.Name "abs" p) (e :: es) [] pos) (dCB dAbs t) := de_callB call_abs abs_ok hg hm PyProof.Rows.boot_abs ha (by decide) (by decide) he hpl
theorem de_int' (hg : Gl X "int") (hm : X.mg "int" = none) (ha : DA X W (e :: es) t) (he : starEach (e :: es) X.env = (false, eval e X.env) :: starEach es X.env := by rfl) (hpl : (backTo pos (starEach es X.env)).any (·.1) = false := by rfl) :
    DE X W (.Call (.Name "int" p) (e :: es) [] pos) (dCB dInt t) := de_callTy (CallR.or call_int1 call_int_str) int_ok hg hm PyProof.Rows.boot_int ha (by decide) (by decide) he hpl
theorem de_tuple (hg : Gl X "tuple") (hm : X.mg "tuple" = none) (ha : DA X W (e :: es) t) (he : starEach (e :: es) X.env = (false, eval e X.env) :: starEach es X.env := by rfl) (hpl : (backTo pos (starEach es X.env)).any (·.1) = false := by rfl) :
    DE X W (.Call (.Name "tuple" p) (e :: es) [] pos) (dCB dTupOf t) := de_callTy call_tuple_of tupOf_ok hg hm PyProof.Rows.boot_tuple ha (by decide) (by decide) he hpl
theorem de_append (ho : DE X W o to) (ha : DA X W [e] t) (hbase : attributeBase o "append" X.env (eval o X.env) = eval o X.env := by rfl)
    (hfew : ((backTo pos (starEach [e] X.env)).all (fun x => !x.1) && (backToKw pos (keywordEach [] X.env)).all (fun x => x.1.isSome) && decide ([e].length + ([] : List Keyword).length + (if ([] : List Keyword).isEmpty then 0 else 1) < 30)) = true := by rfl)
    (hline : (apos.endLine == pos.line) = true := by rfl) (hs : starEach [e] X.env = (false, eval e X.env) :: starEach [] X.env := by rfl) (hplain : (backTo pos (starEach [] X.env)).any (·.1) = false := by rfl) :
    DE X W (.Call (.Attribute o "append" apos) [e] [] pos) (dBM "list" dAppend to t) := de_bm PySem.F.plainAttrs_list PySem.F.slot_list_append PySem.F.type_list_append mt_append append_ok ho ha hbase hfew hline hs hplain
end
end DL
namespace DL
open PySem L2 PySem.Spec
open PyProof.Rows hiding St
variable [TC : TabCtx]
/-- a datum's type, where it is a built-in one -/
def tyN (st : Sto) : D → Option String
  | .non => some "NoneType"
  | .bl _ => some "bool"
  | .int _ => some "int"
  | .str _ => some "str"
  | .tup _ => some "tuple"
  | .fls _ => some "list"
  | .loc n => match st[n]? with
    | some (.lst _) => some "list"
    | some (.dK _) => some "dict"
    | some (.dkF _ _) => some "dict"
    | _ => none
  | _ => none
def tySub (a b : String) : Bool := a == b || (a == "bool" && b == "int")
theorem kitB_ok : ∀ a ∈ ["NoneType", "bool", "int", "str", "tuple", "list", "dict"], ∀ b ∈ ["bool", "int", "str", "tuple", "list", "dict"], kitB a b = some (tySub a b) := by decide +kernel
section
variable {K : PySem.W.Frag} {H : Hp} {μ : List Addr} {st : Sto}
theorem tyN_mem {d : D} {a : String} (h : tyN st d = some a) : a ∈ ["NoneType", "bool", "int", "str", "tuple", "list", "dict"] := by
  cases d <;> simp only [tyN] at h <;> first | (cases h; done) | (cases h; simp; done) | skip
  split at h <;> first | (cases h; simp; done) | cases h
theorem tyN_ok {d : D} {v : V} {a : String} (s : SRep K st μ H) (r : Rep K H μ d v) (h : tyN st d = some a) : TyX K H v (.type a) := by
  cases d with
  | non => cases h; rw [show v = _ from r]; exact .base .non
  | bl b => cases h; rw [show v = _ from r]; exact .base (.bl b)
  | int b => cases h; rw [show v = _ from r]; exact .base (.int b)
  | str b => cases h; rw [show v = _ from r]; exact .base (.str b)
  | tup ds =>
    cases h
    obtain ⟨a, vs, rfl, hs, hr⟩ := r
    rcases hs with (hs | ⟨o, hs⟩) | ⟨o, its, n, hk, hc, _⟩
    · exact .base (.tup hs)
    · exact .fTuple hs
    · exact .kTuple hk hc
  | fls ds =>
    cases h
    obtain ⟨a, vs, rfl, hs, hr⟩ := r
    rcases hs with ⟨o, hs⟩ | ⟨o, its, n, hk, hc, _⟩
    · exact .base (.frz hs)
    · exact .kList hk hc
  | loc n =>
    obtain ⟨a, rfl, hn⟩ := r
    simp only [tyN] at h
    split at h
    · rename_i ds e
      cases h
      obtain ⟨a', o, e1, e2, vs, rfl, hr⟩ := s.at' _ _ e
      rw [hn] at e1; cases e1
      exact .base (.lst e2)
    · rename_i kvs e
      cases h
      obtain ⟨a', o, e1, e2, gs, rfl, hk, hr⟩ := s.at' _ _ e
      rw [hn] at e1; cases e1
      exact .base (.dK e2)
    · rename_i od kvs e
      cases h
      obtain ⟨a', o, e1, e2, gs, rfl, hk, hr⟩ := s.at' _ _ e
      rw [hn] at e1; cases e1
      exact .fDict e2
    · cases h
  | _ => cases h
end
/-- the classes as written: built-in types' names -/
def dIsi (ta : DTE) (Ts : List String) : DTE := fun ρ st Q Z => ta ρ st (fun x st1 => match tyN st1 x with | some a => Q (.bl (Ts.any (tySub a))) st1 | none => False) Z
section
variable {X : Cx} {W : WX} {e c c1 c2 : Expr} {es : List Expr} {ta : DTE} {pos p tpos : Pos} {T T1 T2 : String}
theorem de_isi (hg : Gl X "isinstance") (hm : X.mg "isinstance" = none) (ha : DE X W e ta) (hc : PE X c (tC (.ty T))) (hT : T ∈ ["bool", "int", "str", "tuple", "list", "dict"] := by decide)
    (hs1 : starEach [e, c] X.env = (false, eval e X.env) :: starEach [c] X.env := by rfl) (hs2 : starEach [c] X.env = (false, eval c X.env) :: starEach [] X.env := by rfl) (hpl : (backTo pos (starEach [c] X.env)).any (·.1) = false := by rfl) :
    DE X W (.Call (.Name "isinstance" p) [e, c] [] pos) (dIsi ta [T]) :=
  pe_weak (pe_callB call_isi hg hm PyProof.Rows.boot_isinstance (pa_cons ha (pa_cons hc pa_nil hs2) hs1) (by decide) (by decide) hs1 hpl) fun σ H Q ⟨ρ, st, μ, Qd, Z, hS, ht, hQ, hZ⟩ =>
    ⟨ρ, st, μ, _, Z, hS, ht, fun x st1 H1 μ1 v hx e1 s1 rv => by
      dsimp only at hx
      split at hx
      · rename_i a ea
        have h1 := kitB_ok a (tyN_mem ea) T hT
        have h2 : ([T].any (tySub a)) = tySub a T := by simp
        rw [h2] at hx
        exact ⟨v, .ty T, .type a, .type T, tySub a T, rfl, .ty T, tyN_ok s1 rv ea, kit_ty h1, hQ _ _ _ _ _ hx e1 s1 rfl⟩
      · exact hx.elim, hZ⟩
/-- a built-in type's name, a built-in as a value -/
theorem pe_ty {x : Str} (hg : Gl X x) (hm : X.mg x = none) (hv : bootBuiltins x = some (.type T)) (hn : x ≠ "__name__" := by decide) (hd : (x == ("__debug__" : Str)) = false := by decide) : PE X (.Name x pos) (tC (.ty T)) := pe_bltn hg hm hv rfl hn hd
end
end DL
namespace DL
open PySem L2 PySem.Spec
open PyProof.Rows hiding St
open PySem.W (AllAlike Sortable dataLe EachIs)
variable [TC : TabCtx]
section
variable {prog : Program} {w : World} {A : Around} {E : Value → Shared → Prop} {s : Shared}
theorem sorted_seq {it : Addr} {T : String} {o : Obj} {vs : List Value} {n : Nat} {kw : List (Str × Value)} {Q : Value → Shared → Prop} (hT : T = "list" ∨ T = "tuple") (ho : s.heap.get? it = some o) (hc : o.cls = .type T) (hd : o.data = .seq vs.toArray n) (hL : vs.length ≤ sizeLine)
    (ha1 : argsOk "sorted" ⟨[.ref it], kw⟩) (ha2 : ∀ x, argsOk "list.sort" ⟨[.ref x], kw⟩)
    (body : ∀ (h1 : Heap) (E' : Value → Shared → Prop), (∀ b o', s.heap.get? b = some o' → h1.get? b = some o') →
      wpAny (model prog w) A.in1.in1 (Builtin.«list.sort» ⟨[.ref h1.objs.size], kw⟩) (fun f s' => f = .done (.ret .none) ∧ Q (.ref h1.objs.size) s') E' { s with heap := h1.push (seqObj "list" vs.toArray 0) }) :
    wpAny (model prog w) A (call (.builtin "sorted") [.ref it] kw) Q E s := by
  refine call_function_entry_kw kind_sorted plain_sorted entry_sorted ha1 ?_
  unfold Builtin.«sorted»
  refine wpAny_bind (m := checkCount "sorted" 1 1 _) (wpAny_pure ?_)
  refine wpAny_bind (wpAny_collect_seq it hT ho hc hd (fun h1 k => ?_) (by simpa using hL))
  simp only [List.toList_toArray]
  refine wpAny_bind (wpAny_newList ?_ hL)
  have hat : (h1.push (seqObj "list" vs.toArray 0)).get? h1.objs.size = some (seqObj "list" vs.toArray 0) := Heap.get?_push_size _ rfl
  show wpAny _ _ _ _ _ { s with heap := h1.push (seqObj "list" vs.toArray 0) }
  refine wpAny_bind (wpAny_holding (wpAny_call_entry_kw slot_list_sort ⟨_, hat, rfl⟩ entry_list_sort ?_ (ha2 _)))
  refine wpAny_mono (body h1 _ k) (fun f s' hf => ?_) fun _ _ e => e
  obtain ⟨rfl, hq⟩ := hf
  exact ⟨_, rfl, wpAny_pure ⟨_, rfl, hq⟩⟩
end
/-- the items' data beside them -/
abbrev PV := PyData × V
def rSortD (K : PySem.W.Frag) : List V → Hp → VK → Prop := fun xs H Q => ∃ (a : Addr) (ps : List PV), xs = [.ref a] ∧ (SqL K H a (ps.map (·.2)) ∨ SqT K H a (ps.map (·.2))) ∧ (∀ p ∈ ps, Dp K H p.2 p.1) ∧ AllAlike (ps.map (·.1)) ∧ Sortable (ps.map (·.1)) ∧ (∀ p ∈ ps, p.1.depth ≤ 60) ∧
  ∀ l, H l = none → Q (.ref l) (upd H l (.lst ((ps.mergeSort (dataLe false (·.1))).map (·.2))))
theorem each_vals {R : Value → PV → Prop} {P : PV → Prop} (hR : ∀ p u, RelV p.2 u → P p → R u p) : ∀ {ps : List PV} {us : List Value}, Vals (ps.map (·.2)) us → (∀ p ∈ ps, P p) → EachIs R us ps
  | [], _, .nil, _ => .nil
  | p :: ps, _, .cons r t, h => .cons (hR p _ r (h p List.mem_cons_self)) (each_vals hR t fun q m => h q (List.mem_cons_of_mem _ m))
theorem vals_each : ∀ {ps : List PV} {us : List Value}, EachIs (fun u p => RelV p.2 u) us ps → Vals (ps.map (·.2)) us
  | [], _, .nil => .nil
  | p :: ps, _, .cons r t => .cons r (vals_each t)
section
variable {X : Cx}
theorem cr_sortedD (hu : X.A.units + 64 < cLine) : CallR X (.builtin "sorted") (rSortD X.K) := by
  intro pins s σ H xs us Q I r h
  obtain ⟨a, ps, rfl, hs, hdp, hal, hso, hde, q⟩ := h
  rw [Vals.ref1 r]
  obtain ⟨its, T, o, n, rv, hT, ho, hc, hd, hz⟩ : ∃ (its : List Value) (T : String) (o : Obj) (n : Nat), Vals (ps.map (·.2)) its ∧ (T = "list" ∨ T = "tuple") ∧ s.heap.get? a = some o ∧ o.cls = .type T ∧ o.data = .seq its.toArray n ∧ (ps.map (·.2)).length ≤ sizeLine := by
    rcases hs with hs | hs
    · obtain ⟨its, rv, ⟨o, n, e, c, d, dt⟩, z⟩ := I.list hs
      exact ⟨its, _, o, n, rv, .inl rfl, e, c, dt, z⟩
    · obtain ⟨its, rv, ⟨o, e, c, n, dt⟩, z⟩ := I.tuple hs
      exact ⟨its, _, o, n, rv, .inr rfl, e, c, dt, z⟩
  have hL : its.length ≤ sizeLine := by rw [← rv.length]; exact hz
  refine sorted_seq hT ho hc hd hL (args_sorted1 _) (fun _ => args_list_sort _) fun h1 E' k => ?_
  have er : EachIs (fun u p => ∃ as, Reads s.heap u p.1 as) its ps := each_vals (P := fun p => Dp X.K H p.2 p.1) (fun p u ru hp => Dp.reads I p.1 p.2 u hp ru) rv hdp
  have e : EachIs (fun u (p : PV) => RelV p.2 u) its ps := each_vals (P := fun _ => True) (fun p u ru _ => ru) rv fun _ _ => trivial
  have hat : (h1.push (seqObj "list" its.toArray 0)).get? h1.objs.size = some (seqObj "list" its.toArray 0) := Heap.get?_push_size _ rfl
  have kk : ∀ b ob, s.heap.get? b = some ob → (PySem.W.sortingHeap (h1.push (seqObj "list" its.toArray 0)) h1.objs.size its).get? b = some ob := fun b ob eb =>
    PySem.W.sortingHeap_old (Nat.ne_of_lt (Heap.lt_size (k b ob eb))) (Heap.get?_push_of_some _ (k b ob eb))
  have er' : EachIs (fun u p => ∃ as, Reads (PySem.W.sortingHeap (h1.push (seqObj "list" its.toArray 0)) h1.objs.size its) u p.1 as) its ps := er.mono fun _ _ ⟨as, r⟩ => ⟨as, PyProof.Rows.Reads.keeps kk r⟩
  refine PySem.W.list_sort_vals (s := { s with heap := h1.push (seqObj "list" its.toArray 0) }) hat
    (PySem.W.SortsAt.data (s := { s with heap := PySem.W.sortingHeap (h1.push (seqObj "list" its.toArray 0)) h1.objs.size its }) (PySem.W.each_map (β := PV) (R := fun v d => ∃ as, Reads (PySem.W.sortingHeap (h1.push (seqObj "list" its.toArray 0)) h1.objs.size its) v d as) (·.1) er') hal hso
      (PySem.W.bound_map fun b hb => by have := hde b hb; show X.A.units + 1 + 1 + _ < _; omega)) hL ⟨rfl, ?_⟩
  have eo := PySem.W.sortVals_data false e er' hal
  obtain ⟨c, hcc⟩ := sortedHeap_at (h := h1.push (seqObj "list" its.toArray 0)) (vs := its) (out := (PySem.W.sortVals (PySem.W.dataKind (PySem.W.sortingHeap (h1.push (seqObj "list" its.toArray 0)) h1.objs.size its) (ps.map (·.1))) false its its).toArray) (n := 0) hat
  have hg : s.heap.get? h1.objs.size = none := by
    cases eb : s.heap.get? h1.objs.size with
    | none => rfl
    | some ob => exact absurd (Heap.lt_size (k _ _ eb)) (Nat.lt_irrefl _)
  have hn : H h1.objs.size = none := I.hok.gone hg
  have kept : ∀ b ob, s.heap.get? b = some ob → (sortedHeap (h1.push (seqObj "list" its.toArray 0)) h1.objs.size its (PySem.W.sortVals (PySem.W.dataKind (PySem.W.sortingHeap (h1.push (seqObj "list" its.toArray 0)) h1.objs.size its) (ps.map (·.1))) false its its).toArray).get? b = some ob := fun b ob eb => by
    have hb := k b ob eb
    rw [sortedHeap_old (Nat.ne_of_lt (Heap.lt_size hb)) (by rw [size_push']; exact Nat.lt_succ_of_lt (Heap.lt_size hb))]
    exact Heap.get?_push_of_some _ hb
  have eo' : EachIs (fun u (p : PV) => RelV p.2 u) _ (ps.mergeSort (dataLe false (·.1))) := PySem.W.sortVals_data false e er' hal
  have hlen : ((ps.mergeSort (dataLe false (·.1))).map (·.2)).length ≤ sizeLine := by
    rw [List.length_map, List.length_mergeSort]
    simpa using hz
  refine ⟨.ref h1.objs.size, _, I.laidN (t' := s.toks) kept hg hn (o := .lst ((ps.mergeSort (dataLe false (·.1))).map (·.2))) ⟨hlen, _, c, vals_each eo', hcc⟩, rfl, q _ hn⟩
end
section
variable {K : PySem.W.Frag} {H : Hp} {μ : List Addr} {st : Sto}
theorem reps_zip : ∀ {ds : List D} {vs : List V}, Reps K H μ ds vs → (ds.zip vs).map (·.1) = ds ∧ (ds.zip vs).map (·.2) = vs ∧ ∀ t ∈ ds.zip vs, Rep K H μ t.1 t.2
  | [], _, r => by subst r; exact ⟨rfl, rfl, fun t h => by simp at h⟩
  | d :: ds, _, r => by
    obtain ⟨v, rs, rfl, r1, r2⟩ := r
    obtain ⟨h1, h2, h3⟩ := reps_zip r2
    refine ⟨by simp only [List.zip_cons_cons, List.map_cons, h1], by simp only [List.zip_cons_cons, List.map_cons, h2], fun t ht => ?_⟩
    rcases List.mem_cons.mp ht with e | ht
    · rw [e]; exact r1
    · exact h3 t ht
theorem zip_reps : ∀ {ts : List (D × V)}, (∀ t ∈ ts, Rep K H μ t.1 t.2) → Reps K H μ (ts.map (·.1)) (ts.map (·.2))
  | [], _ => rfl
  | t :: ts, h => ⟨t.2, _, rfl, h t List.mem_cons_self, zip_reps fun u hu => h u (List.mem_cons_of_mem _ hu)⟩
omit TC in
theorem sort_map {α β : Type} (f : α → β) (k : β → PyData) (ts : List α) : (ts.map f).mergeSort (dataLe false k) = (ts.mergeSort (dataLe false fun t => k (f t))).map f :=
  by
  refine (List.map_mergeSort (f := f) (l := ts) (fun _ _ _ _ => ?_)).symm
  rfl
def dSorted : DN := fun ds st Q => match ds with
  | [d] => ∃ es n key, itemsD st d = some es ∧ (∀ e ∈ es, pdF st n e = some (key e)) ∧ AllAlike (es.map key) ∧ Sortable (es.map key) ∧ (∀ e ∈ es, (key e).depth ≤ 60) ∧ Q (.loc st.length) (st ++ [.lst (es.mergeSort (dataLe false key))])
  | _ => False
theorem sorted_ok : DCl K (rSortD K) dSorted := by
  intro H μ st ds vs Qd Q s r h hQ
  match ds, r, h with
  | [d], r, h =>
    obtain ⟨v, rfl, r1⟩ := reps1 r
    obtain ⟨es, n, key, hi, hk, hal, hso, hde, q⟩ := h
    obtain ⟨p, us, rfl, hs, hr⟩ := items_ok s r1 hi
    obtain ⟨z1, z2, z3⟩ := reps_zip hr
    have m1 : ∀ t ∈ es.zip us, t.1 ∈ es := fun t ht => (List.of_mem_zip ht).1
    have f1 : ((es.zip us).map fun t => ((key t.1, t.2) : PV)).map (·.2) = us := by
      rw [List.map_map]; exact z2
    have f2 : ((es.zip us).map fun t => ((key t.1, t.2) : PV)).map (·.1) = es.map key := by
      rw [List.map_map]
      conv => rhs; rw [← z1]
      rw [List.map_map]
      rfl
    refine ⟨p, (es.zip us).map fun t => (key t.1, t.2), rfl, by rw [f1]; exact hs, fun t ht => ?_, by rw [f2]; exact hal, by rw [f2]; exact hso, fun t ht => ?_, fun l hl => ?_⟩
    · obtain ⟨t', ht', rfl⟩ := List.mem_map.mp ht
      exact dp_of s n t'.1 t'.2 _ (z3 t' ht') (hk _ (m1 t' ht'))
    · obtain ⟨t', ht', rfl⟩ := List.mem_map.mp ht
      exact hde _ (m1 t' ht')
    · have e1 : (((es.zip us).map fun t => ((key t.1, t.2) : PV)).mergeSort (dataLe false (·.1))).map (·.2) = ((es.zip us).mergeSort (dataLe false fun t => key t.1)).map (·.2) := by
        rw [sort_map (fun t : D × V => ((key t.1, t.2) : PV)) (·.1), List.map_map]
        rfl
      have e2 : es.mergeSort (dataLe false key) = ((es.zip us).mergeSort (dataLe false fun t => key t.1)).map (·.1) := by
        conv => lhs; rw [← z1]
        rw [sort_map (fun t : D × V => t.1) key]
      rw [e1]
      rw [e2] at q
      exact hQ.lst (Ext.refl _ _) s (zip_reps fun t ht => z3 t (List.mem_mergeSort.mp ht)) q hl
end
section
variable {X : Cx} {W : WX} {e : Expr} {es : List Expr} {t : DTA} {pos p : Pos}
theorem de_sorted (hu : X.A.units + 64 < cLine) (hg : Gl X "sorted") (hm : X.mg "sorted" = none) (ha : DA X W (e :: es) t) (he : starEach (e :: es) X.env = (false, eval e X.env) :: starEach es X.env := by rfl) (hpl : (backTo pos (starEach es X.env)).any (·.1) = false := by rfl) :
    DE X W (.Call (.Name "sorted" p) (e :: es) [] pos) (dCB dSorted t) := de_callB (cr_sortedD hu) sorted_ok hg hm PyProof.Rows.boot_sorted ha (by decide) (by decide) he hpl
end
end DL
namespace DL
open PySem L2 PySem.Spec
open PyProof.Rows hiding St
open PySem.W (AllAlike Sortable dataLe EachIs)
end DL
namespace DL
open PySem L2 PySem.Spec
open PyProof.Rows hiding St
end DL
namespace DL
open PySem L2 PySem.Spec
open PyProof.Rows hiding St
variable [TC : TabCtx]
def alike2 (d e : PyData) : Prop := PySem.W.alike d d = true ∧ PySem.W.alike d e = true ∧ PySem.W.alike e d = true ∧ PySem.W.alike e e = true
def dMax2 : DN := fun ds st Q => match ds with
  | [x, y] => ∃ n d e, pdF st n x = some d ∧ pdF st n y = some e ∧ alike2 d e ∧ d ≠ .none ∧ e ≠ .none ∧ d.depth ≤ 60 ∧ e.depth ≤ 60 ∧ Q (if PySem.W.dataLt d e = true then y else x) st
  | _ => False
end DL
namespace DL
open PySem L2 PySem.Spec
open PyProof.Rows hiding St
variable [TC : TabCtx]
set_option maxHeartbeats 1000000 in
theorem meets_enum1 {v : Value} {o : Obj} {H : Heap → Prop} (B : Begins v o H) :
    Meets (Builtin.«enumerate.__new__» ⟨[.type "enumerate", v], []⟩) (fun _ R s => H s.heap ∧
      R (.ok (.ret (.ref (s.heap.push o).objs.size))) { s with heap := (s.heap.push o).push { cls := .type "enumerate", data := .fields #[.none, .bool false, .ref s.heap.objs.size, rawInt 0, .none, .none] } }) :=
  .of_wp fun prog w A R s h => by
    obtain ⟨hp, g, d, tk, os⟩ := s
    obtain ⟨h1, h⟩ := h
    have hsub := sub_enumerate
    have q1 : ∀ {A' : Around} {E : Value → Shared → Prop} {Q : Value → Shared → Prop}, Q (.ref hp.objs.size) ⟨hp.push o, g, d, tk, os⟩ → wpAny (model prog w) A' (pyIter v) Q E ⟨hp, g, d, tk, os⟩ :=
      fun q => B.iter prog w _ _ ⟨hp, g, d, tk, os⟩ _ h1 q
    wp_walk using q1
    refine wpAny_stack_any fun st => wpAny_pure ?_
    split
    · rename_i c _ _ _ _ _
      cases (c == Value.type "enumerate") <;> (wp_walk using q1; exact ⟨_, rfl, h⟩)
    · wp_walk using q1
      exact ⟨_, rfl, h⟩
section
variable {prog : Program} {w : World} {A : Around} {E : Value → Shared → Prop} {s : Shared}
theorem enum_begins1 {v : Value} {o : Obj} {H : Heap → Prop} {Q : Value → Shared → Prop} (B : Begins v o H) (h1 : H s.heap)
    (h : ∀ h', IsEnum h' (s.heap.objs.size + 1) s.heap.objs.size 0 .none → h'.get? s.heap.objs.size = some o → h'.objs.size = s.heap.objs.size + 2 → (∀ b o, s.heap.get? b = some o → h'.get? b = some o) → Q (.ref (s.heap.objs.size + 1)) { s with heap := h' }) :
    wpAny (model prog w) A (call (.type "enumerate") [v]) Q E s := by
  refine callType_new PySem.F.called_enumerate (by decide) (PySem.F.typeCall_enumerate_1 _) (PySem.F.newCall_enumerate_1 _) (fun obj => PySem.F.args_object_init_2 obj _) PySem.F.entry_enumerate_new (meets_enum1 B) ⟨h1, ?_⟩
  have hz : (s.heap.push o).objs.size = s.heap.objs.size + 1 := Heap.size_push ..
  show _ ∧ _
  rw [hz]
  have he : IsEnum ((s.heap.push o).push { cls := .type "enumerate", data := .fields #[.none, .bool false, .ref s.heap.objs.size, rawInt 0, .none, .none] }) (s.heap.objs.size + 1) s.heap.objs.size 0 .none := by
    have := Heap.get?_push_size (s.heap.push o) (o := { cls := .type "enumerate", data := .fields #[.none, .bool false, .ref s.heap.objs.size, rawInt 0, .none, .none] }) rfl
    rw [hz] at this
    exact this
  exact ⟨⟨_, he, rfl⟩, h _ he (Heap.get?_push_of_some _ (Heap.get?_push_size _ B.free)) (by rw [Heap.size_push, hz]) fun b o x => Heap.get?_push_of_some _ (Heap.get?_push_of_some _ x)⟩
end
/-- the tuple at a, each item in a new pair -/
def IteT (K : PySem.W.Frag) (a : Addr) : It :=
  ⟨fun i H => ∃ (xs : List V) (x : V), SqT K H a xs ∧ xs[i]? = some x, fun i H v H' => ∃ T x, v = .ref T ∧ H T = none ∧ H' = upd H T (.tup [.int (i : Nat), x]) ∧ ∀ xs, SqT K H a xs → xs[i]? = some x, fun i H => ∃ xs : List V, SqT K H a xs ∧ xs.length = i⟩
theorem turn_enumT {P : Program} {w : World} {K : PySem.W.Frag} {elts : List Expr} {kk : Nat} {tpos : Pos} (a e it : Addr) :
    Turn P w K (.Tuple elts kk tpos) (IteT K a) [e, it] e (fun i h => (∃ old, IsEnum h e it ((i : Nat) : Int) old) ∧ h.IsTupleIter it a i ∧ e ≠ it ∧ a ≠ it ∧ e ≠ a) where
  mem := by simp
  obj := fun i h st b hb => by
    obtain ⟨⟨old, he⟩, ⟨o, ho, hc, hd⟩, _⟩ := st
    have e' : b = e ∨ b = it := by simpa using hb
    rcases e' with z | z
    · rw [z]; exact ⟨_, he, fun v q => nomatch q⟩
    · rw [z]; exact ⟨o, ho, fun v q => by rw [hd] at q; cases q⟩
  keep := fun i h h' st k => let ⟨⟨old, he⟩, hi, hne⟩ := st; ⟨⟨old, k e (by simp) _ he⟩, hi.at fun o q => k it (by simp) o q, hne⟩
  item := by
    intro X hP hw hK hc i pins s σ H E I hf st hg
    subst hP hw hK
    obtain ⟨⟨old, he⟩, hit, hne, hai, hea⟩ := st
    obtain ⟨xs, x, hq, hx⟩ := hg
    obtain ⟨its, rv, p, hz⟩ := I.tuple hq
    obtain ⟨u, hu, ru⟩ := rv.get hx
    have hel : e < s.heap.objs.size := Heap.lt_size he
    have hil : it < s.heap.objs.size := by obtain ⟨_, q, _⟩ := hit; exact Heap.lt_size q
    have pt : s.heap.IsTuple a its.toArray := p
    have hlt : i < its.toArray.size := by
      have := (List.getElem?_eq_some_iff.mp hu).1
      simpa using this
    refine wpAny_pyNext_enum_itemD (Draws.tuple (A := X.A.in1) (I.ok.hd hc) it a hai its.toArray) he ⟨hit, pt⟩ hlt hne (by simp [hne, hea]) fun y h' tk hy ho hst hT hsz hk => ?_
    have hyu : y = u := by
      have h2 : its.toArray[i]? = some y := hy
      have h3 : its.toArray[i]? = some u := by simpa using hu
      rw [h2] at h3
      exact Option.some.inj h3
    subst hyu
    refine ⟨_, rfl, wpAny_letOwnedTupleGo_enum (s := { s with heap := h', toks := tk + 1 }) ho fun h'' he' sb => ?_⟩
    have hT2 : h''.get? s.heap.objs.size = some { cls := .type "tuple", data := .seq #[.int i tk, y] } := (sb.2 _ (Nat.ne_of_gt hel)).trans hT
    have new : ObjOk X.prog X.w (upd H s.heap.objs.size (.tup [.int (i : Nat), x])) h'' s.heap.objs.size (.tup [.int (i : Nat), x]) :=
      ⟨by show 2 ≤ sizeLine; decide, [.int i tk, y], .cons ⟨_, rfl⟩ (.cons ru .nil), ⟨_, hT2, rfl, _, rfl⟩⟩
    have I1 : Inv X pins σ (upd H s.heap.objs.size (.tup [.int (i : Nat), x])) { s with heap := h'', toks := tk + 1 } :=
      I.turnedNew (t' := tk + 1) (ch := [e, it]) (fun b ob hb q => (sb.2 b (fun z => hb (by simp [z]))).trans (hk b ob (fun z => hb (by simp [z])) (fun z => hb (by simp [z])) q)) hf (Nat.le_refl _) new
    refine ⟨.ref s.heap.objs.size, _, I1, rfl, ⟨_, x, rfl, I.hok.fresh (Nat.le_refl _), rfl, fun ys hy => by rw [I.tuple_inj hy hq]; exact hx⟩, ⟨⟨y, ?_⟩, hst.1.at fun o q => (sb.2 it (Ne.symm hne)).trans q, hne, hai, hea⟩, fun b hb => ?_⟩
    · have e1 : ((i + 1 : Nat) : Int) = (i : Int) + 1 := by omega
      rw [e1]; exact he'
    · have hb' : b < s.heap.objs.size := by
        have e' : b = e ∨ b = it := by simpa using hb
        rcases e' with z | z
        · rw [z]; exact hel
        · rw [z]; exact hil
      rw [upd_ne (Nat.ne_of_lt hb')]
      exact (hf b hb).1
  done := by
    intro X hP hw hK hc i pins s σ H E I hf st hg
    subst hP hw hK
    obtain ⟨⟨old, he⟩, hit, hne, hai, hea⟩ := st
    obtain ⟨xs, hq, hx⟩ := hg
    obtain ⟨its, rv, p, hz⟩ := I.tuple hq
    obtain ⟨f0, f1, f2, f3, f4, f5⟩ := hf it (by simp)
    have pt : s.heap.IsTuple a its.toArray := p
    have hn : its.toArray.size = i := by rw [List.size_toArray, ← rv.length]; exact hx
    refine wpAny_pyNext_enum_endD (Draws.tuple (A := X.A.in1) (I.ok.hd hc) it a hai its.toArray) he ⟨by rw [hn]; exact hit, pt⟩ fun h' eb => ⟨rfl, I.turned (t' := s.toks) (fun b o hb q => eb b o hb q) f0 f1 f3 f4 f5⟩
  self := fun A i s Q E st h => let ⟨⟨_, he⟩, _⟩ := st; wpAny_pyIter_enum he h
def iEnumA (K : PySem.W.Frag) (ta : TA) : TI := fun σ H R => ta σ H fun vs H1 => ∃ a, vs = [.ref a] ∧ (((∃ xs, SqL K H1 a xs) ∧ R (Ite K a) H1) ∨ ((∃ xs, SqT K H1 a xs) ∧ R (IteT K a) H1))
section
variable {X : Cx} {W : WX} {e : Expr} {p pos tpos : Pos} {elts : List Expr} {kk : Nat}
theorem pi_enumA {ta : TA} (hg : Gl X "enumerate") (hm : X.mg "enumerate" = none) (ha : PA X [e] ta) (hs : starEach [e] X.env = [(false, eval e X.env)] := by rfl) :
    PI X (.Tuple elts kk tpos) (.Call (.Name "enumerate" p) [e] [] pos) (iEnumA X.K ta) := by
  refine ⟨fun pins s σ H R I h => ?_⟩
  refine Call_ (ld_blt I hg hm boot_enumerate (PyProof.Rows.callWith_type1 (thn (ha.run pos pins s σ H _ I h) fun us s1 ⟨vs, H1, I1, r1, q1⟩ => ?_) hs rfl))
  obtain ⟨a, rfl, q1⟩ := q1
  rw [Vals.ref1 r1]
  have fresh2 : ∀ b, b ∈ [s1.heap.objs.size + 1, s1.heap.objs.size] → FpOk X pins H1 b := fun b hb => by
    have e' : b = s1.heap.objs.size + 1 ∨ b = s1.heap.objs.size := by simpa using hb
    have hle : s1.heap.objs.size ≤ b := by
      rcases e' with z | z
      · rw [z]; exact Nat.le_add_right _ _
      · rw [z]; exact Nat.le_refl _
    exact I1.fpOk hle (I1.hok.fresh hle)
  rcases q1 with ⟨⟨xs, hq⟩, q⟩ | ⟨⟨xs, hq⟩, q⟩
  · obtain ⟨its, rv, p', hz⟩ := I1.list hq
    refine call_enumerate_list p'.isList fun h' he hit hsz hk => wpAny_pyIter_enum he ?_
    exact ⟨s1.heap.objs.size + 1, [s1.heap.objs.size + 1, s1.heap.objs.size], _, _, H1, rfl, (I1.kept (t' := s1.toks) hk : Inv X pins σ H1 { s1 with heap := h' }), turn_enum a (s1.heap.objs.size + 1) s1.heap.objs.size, ⟨⟨.none, he⟩, hit, Nat.succ_ne_self _⟩, fresh2, q⟩
  · obtain ⟨its, rv, p', hz⟩ := I1.tuple hq
    have pt : s1.heap.IsTuple a its.toArray := p'
    have hlt : a < s1.heap.objs.size := by obtain ⟨_, q, _⟩ := pt; exact Heap.lt_size q
    refine enum_begins1 (begins_tuple a its.toArray) pt fun h' he hit hsz hk => wpAny_pyIter_enum he ?_
    exact ⟨s1.heap.objs.size + 1, [s1.heap.objs.size + 1, s1.heap.objs.size], _, _, H1, rfl, (I1.kept (t' := s1.toks) hk : Inv X pins σ H1 { s1 with heap := h' }), turn_enumT a (s1.heap.objs.size + 1) s1.heap.objs.size, ⟨⟨.none, he⟩, ⟨_, hit, rfl, rfl⟩, Nat.succ_ne_self _, Nat.ne_of_lt hlt, Nat.ne_of_gt (Nat.lt_succ_of_lt hlt)⟩, fresh2, q⟩
end
def enumItems (ds : List D) : List D := ds.mapIdx fun i d => .tup [.int (i : Nat), d]
theorem enumItems_get {ds : List D} {i : Nat} {y : D} (h : (enumItems ds)[i]? = some y) : ∃ d, ds[i]? = some d ∧ y = .tup [.int (i : Nat), d] := by
  unfold enumItems at h
  rw [List.getElem?_mapIdx, Option.map_eq_some_iff] at h
  obtain ⟨d, h1, h2⟩ := h
  exact ⟨d, h1, h2.symm⟩
section
variable {K : PySem.W.Frag} {H : Hp} {μ : List Addr} {st : Sto}
theorem pair_laid {i : Int} {d : D} {x : V} {T : Addr} (s : SRep K st μ H) (r : Rep K H μ d x) (hT : H T = none) :
    Ext H (upd H T (.tup [.int i, x])) μ μ ∧ SRep K st μ (upd H T (.tup [.int i, x])) ∧ Rep K (upd H T (.tup [.int i, x])) μ (.tup [.int i, d]) (.ref T) ∧ (∀ b o, H b = some o → upd H T (.tup [.int i, x]) b = some o) :=
  ⟨Ext.laid hT, s.laid hT, ⟨T, [.int i, x], rfl, .inl (.inl upd_same), ⟨_, _, rfl, rfl, ⟨_, _, rfl, r.mono (Ext.laid hT), rfl⟩⟩⟩, fun b o q => by rw [upd_ne (ne_of_none q hT)]; exact q⟩
theorem ItRep.enumT {a : Addr} {ds : List D} {vs : List V} (hs : SqT K H a vs) (hr : Reps K H μ ds vs) : ItRep K (IteT K a) (enumItems ds) (fun _ => True) H μ where
  go i H1 μ1 st y x s _ e := by
    obtain ⟨d, hd, rfl⟩ := enumItems_get e
    obtain ⟨v, hv, rv⟩ := (hr.mono0 x).get hd
    refine ⟨⟨vs, v, x.sqT hs, hv⟩, fun y H' hy => ?_⟩
    obtain ⟨T, z, rfl, hT, rfl, hz⟩ := hy
    have := hz vs (x.sqT hs)
    rw [hv] at this; cases this
    exact pair_laid s rv hT
  stop H1 μ1 st x s _ := ⟨vs, x.sqT hs, by simp [enumItems, hr.length]⟩
theorem ItRep.enumF {a : Addr} {ds : List D} {vs : List V} (hs : FzL K H a vs) (hr : Reps K H μ ds vs) : ItRep K (Ite K a) (enumItems ds) (fun _ => True) H μ where
  go i H1 μ1 st y x s _ e := by
    obtain ⟨d, hd, rfl⟩ := enumItems_get e
    obtain ⟨v, hv, rv⟩ := (hr.mono0 x).get hd
    refine ⟨⟨vs, v, (x.fzL hs).sq, hv⟩, fun y H' hy => ?_⟩
    obtain ⟨T, z, rfl, hT, rfl, hz⟩ := hy
    have := hz vs (x.fzL hs).sq
    rw [hv] at this; cases this
    exact pair_laid s rv hT
  stop H1 μ1 st x s _ := ⟨vs, (x.fzL hs).sq, by simp [enumItems, hr.length]⟩
theorem ItRep.enumL {a : Addr} {n : Nat} {ds : List D} (hn : μ[n]? = some a) : ItRep K (Ite K a) (enumItems ds) (fun st => st[n]? = some (.lst ds)) H μ where
  go i H1 μ1 st y x s g e := by
    obtain ⟨d, hd, rfl⟩ := enumItems_get e
    obtain ⟨a', o, e1, e2, vs, rfl, hr⟩ := s.at' _ _ g
    rw [x.pre n a hn] at e1; cases e1
    obtain ⟨v, hv, rv⟩ := hr.get hd
    refine ⟨⟨vs, v, .inl (.inl e2), hv⟩, fun y H' hy => ?_⟩
    obtain ⟨T, z, rfl, hT, rfl, hz⟩ := hy
    have := hz vs (.inl (.inl e2))
    rw [hv] at this; cases this
    exact pair_laid s rv hT
  stop H1 μ1 st x s g := by
    obtain ⟨a', o, e1, e2, vs, rfl, hr⟩ := s.at' _ _ g
    rw [x.pre n a hn] at e1; cases e1
    exact ⟨vs, .inl (.inl e2), by simp [enumItems, hr.length]⟩
end
/-- enumerate(x) -/
def enumD (st : Sto) : D → (List D → (Sto → Prop) → Prop) → Prop
  | .tup ds, Q => Q (enumItems ds) fun _ => True
  | .fls ds, Q => Q (enumItems ds) fun _ => True
  | .loc n, Q => ∃ ds, st[n]? = some (.lst ds) ∧ Q (enumItems ds) fun st => st[n]? = some (.lst ds)
  | _, _ => False
def iEn (ta : DTA) : DTI := fun ρ st Q Z => ta ρ st (fun xs st1 => match xs with | [x] => enumD st1 x fun items G => Q items G st1 | _ => False) Z
section
variable {X : Cx} {W : WX} {e : Expr} {t : DTA} {p pos tpos : Pos} {elts : List Expr} {kk : Nat}
theorem di_enum (hg : Gl X "enumerate") (hm : X.mg "enumerate" = none) (ha : DA X W [e] t) (hs : starEach [e] X.env = [(false, eval e X.env)] := by rfl) : DI X W (.Tuple elts kk tpos) (.Call (.Name "enumerate" p) [e] [] pos) (iEn t) :=
  pi_weak (pi_enumA hg hm ha hs) fun σ H R ⟨ρ, st, μ, Qd, Z, hS, ht, hZ, hk⟩ => ⟨ρ, st, μ, _, Z, hS, ht, fun ds st1 H1 μ1 vs hx e1 s1 rv => by
    match ds, rv, hx with
    | [x], rv, hx =>
      obtain ⟨v, rfl, rx⟩ := reps1 rv
      cases x with
      | tup ds =>
        obtain ⟨a, vs, rfl, hs, hr⟩ := rx
        exact ⟨a, rfl, .inr ⟨⟨vs, hs⟩, hk _ _ _ _ _ _ hx e1 s1 (ItRep.enumT hs hr)⟩⟩
      | fls ds =>
        obtain ⟨a, vs, rfl, hs, hr⟩ := rx
        exact ⟨a, rfl, .inl ⟨⟨vs, hs.sq⟩, hk _ _ _ _ _ _ hx e1 s1 (ItRep.enumF hs hr)⟩⟩
      | loc n =>
        obtain ⟨a, rfl, hn⟩ := rx
        obtain ⟨ds, hds, q⟩ := hx
        obtain ⟨a', o, q1, q2, vs, rfl, hr⟩ := s1.at' _ _ hds
        rw [hn] at q1; cases q1
        exact ⟨a, rfl, .inl ⟨⟨vs, .inl (.inl q2)⟩, hk _ _ _ _ _ _ q e1 s1 (ItRep.enumL hn)⟩⟩
      | _ => exact (show False from hx).elim, hZ⟩
end
end DL
namespace DL
open PySem L2 PySem.Spec
open PyProof.Rows hiding St
variable [TC : TabCtx]
def dRev (te : DTE) : DTE := fun ρ st Q Z => te ρ st (fun x st1 => match x with
  | .tup ds => Q (.tup ds.reverse) st1
  | x => ∃ ds, itemsD st1 x = some ds ∧ Q (.loc st1.length) (st1 ++ [.lst ds.reverse])) Z
def zipItems (ds es : List D) : List D := List.zipWith (fun a b => .tup [a, b]) ds es
def iZp (ta : DTA) : DTI := fun ρ st Q Z => ta ρ st (fun xs st1 => match xs with | [.tup ds, .tup es] => Q (zipItems ds es) (fun _ => True) st1 | _ => False) Z
end DL
namespace DL
open PySem L2 PySem.Spec
open PyProof.Rows hiding St
variable [TC : TabCtx]
section
variable {X : Cx} {W : WX} {a e : Expr} {ta : DTE} {pos p : Pos} {x : Str}
/-- -a -/
def dNegV : D → Sto → DK → Prop := fun x st Q => match x with | .int i => Q (.int (-i)) st | _ => False
theorem de_neg (ha : DE X W a ta) : DE X W (.UnaryOp .USub a pos) (dUn dNegV ta) := de_un un_neg (fun {H μ st x v Qd Q} s r h hQ => by
  cases x <;> first | exact (show False from h).elim | skip
  exact ⟨_, r, hQ _ _ _ _ _ h (Ext.refl _ _) s rfl⟩) ha
/-- {} -/
def dDict0 : DTE := fun _ st Q _ => Q (.loc st.length) (st ++ [.dK []])
theorem de_dict0 : DE X W (.Dict [] [] pos) dDict0 := pe_weak pe_dnewK fun σ H Q ⟨ρ, st, μ, Qd, Z, hS, ht, hQ, hZ⟩ p hp =>
  hQ _ _ _ _ _ ht (Ext.push hp) (hS.s.push hp ⟨[], rfl, rfl, rfl⟩) ⟨p, rfl, by rw [hS.s.len]; exact getElem?_end _ _⟩
/-- a constant of the module -/
def Cst (K : PySem.W.Frag) (mg : Str → Option Value) (x : Str) (d : D) : Prop := ∃ v u, mg x = some u ∧ RelV v u ∧ ∀ H μ, Rep K H μ d v
theorem de_cst {d : D} (hg : Gl X x) (h : Cst X.K X.mg x d) (hd : (x == ("__debug__" : Str)) = false := by decide) : DE X W (.Name x pos) (dC d) := by
  obtain ⟨v, u, hm, r, hr⟩ := h
  exact de_c (pe_glob hg hm r hd) hr
end
mutual
/-- a datum of the written part -/
def KRep (K : PySem.W.Frag) : D → Value → Prop
  | .non, u => u = .none
  | .bl b, u => u = .bool b
  | .int i, u => ∃ t, u = .int i t
  | .str x, u => ∃ t, u = .str x t
  | .tup ds, u => ∃ (a : Addr) (o : Obj) (us : Array Value) (n : Nat), u = .ref a ∧ K.lookup a = some o ∧ o.cls = .type "tuple" ∧ o.data = .seq us n ∧ us.size ≤ sizeLine ∧ KReps K ds us.toList
  | _, _ => False
def KReps (K : PySem.W.Frag) : List D → List Value → Prop
  | [], us => us = []
  | d :: ds, us => ∃ u r, us = u :: r ∧ KRep K d u ∧ KReps K ds r
end
mutual
theorem KRep.rep {K : PySem.W.Frag} : ∀ {d : D} {u : Value}, KRep K d u → ∃ v, RelV v u ∧ ∀ H μ, Rep K H μ d v
  | .non, _, h => by subst h; exact ⟨.non, rfl, fun _ _ => rfl⟩
  | .bl b, _, h => by subst h; exact ⟨.bl b, rfl, fun _ _ => rfl⟩
  | .int i, _, h => by obtain ⟨t, rfl⟩ := h; exact ⟨.int i, ⟨t, rfl⟩, fun _ _ => rfl⟩
  | .str x, _, h => by obtain ⟨t, rfl⟩ := h; exact ⟨.str x, ⟨t, rfl⟩, fun _ _ => rfl⟩
  | .tup ds, _, h => by
    obtain ⟨a, o, us, n, rfl, h1, h2, h3, h4, h5⟩ := h
    obtain ⟨vs, r1, r2⟩ := KReps.reps h5
    exact ⟨.ref a, rfl, fun H μ => ⟨a, vs, rfl, .inr ⟨o, us, n, h1, h2, h3, h4, r1⟩, r2 H μ⟩⟩
  | .fls _, _, h => h.elim
  | .loc _, _, h => h.elim
  | .adr _, _, h => h.elim
  | .ty _, _, h => h.elim
theorem KReps.reps {K : PySem.W.Frag} : ∀ {ds : List D} {us : List Value}, KReps K ds us → ∃ vs, Vals vs us ∧ ∀ H μ, Reps K H μ ds vs
  | [], _, h => by subst h; exact ⟨[], .nil, fun _ _ => rfl⟩
  | d :: ds, _, h => by
    obtain ⟨u, r, rfl, h1, h2⟩ := h
    obtain ⟨v, r1, r2⟩ := KRep.rep h1
    obtain ⟨vs, q1, q2⟩ := KReps.reps h2
    exact ⟨v :: vs, .cons r1 q1, fun H μ => ⟨v, vs, rfl, r2 H μ, q2 H μ⟩⟩
end
theorem Cst.of {K : PySem.W.Frag} {mg : Str → Option Value} {x : Str} {d : D} {u : Value} (h : mg x = some u) (r : KRep K d u) : Cst K mg x d := by
  obtain ⟨v, r1, r2⟩ := r.rep
  exact ⟨v, u, h, r1, r2⟩
end DL
namespace DL
open PySem L2 PySem.Spec
open PyProof.Rows hiding St
variable [TC : TabCtx]
/-- a reading serves a promise -/
def Rd (n : Nat) (dsp : DSp) (t : DTS) (N : List Str) : Prop :=
  ∀ ds st Q Z, ds.length = n → dsp ds st Q Z → t { nx := fun _ st1 => Back st Q .non st1, rt := Back st Q, xs := fun x _ st1 => BackX st Z x st1 } (startD N ds) st
section
variable {P : Program} {w : World} {K : PySem.W.Frag} {mg : Str → Option Value} {base : Heap} {k n : Nat} {x : Str} {s : Stmt} {N ps : List Str} {dsp : DSp} {c : Addr}
variable {h : Heap}
theorem def_mk {f : Addr} {oc : Value} {od an : Option Addr} {osl : Array (Option Value)} {kV doc pm cdv ct : Value} (KX : K.In h) (G : h.Ns mainGlobals mg) (a : PySem.W.nsIn K mainGlobals x = some (some (.ref f)))
    (l : K.lookup f = some ⟨oc, od, .func (PySem.W.fnOf x x (defArgs s) (defBody s) (defScope s) .none kV doc pm an cdv ct), osl⟩) (cd : PySem.W.codeIn K cdv x = true) (kp : PySem.W.keepIn K (.ref f) = true)
    (hb : ∀ (kV doc pm : Value) (an : Option Addr) (cdv ct : Value) (us : List Value), us.length = ps.length → bindArgs (PySem.W.fnOf x x (defArgs s) (defBody s) (defScope s) .none kV doc pm an cdv ct) ⟨us, []⟩ = pure (ps.zip us)) : DefIn K mg x s ps := by
  have F := fun_mk (st := s) l cd kp
  exact ⟨f, _, F, PySem.W.mg_of KX G a, F.binds hb⟩
end
end DL
namespace DL
open PySem L2 PySem.Spec
open PyProof.Rows hiding St
section
variable {i j : Nat} {ρ : Env'} {st : Sto} {Q : DK} {Z : DZ} {d x y z : D} {ds es : List D} {te ta tb tc : DTE} {t u : DTA} {c c' : DTT} {QT : Bool → Sto → Prop} {QA : List D → Sto → Prop} {E : DEnds} {s r : DTS}
@[simp] theorem s_var : dVar i ρ st Q Z = (match ρ[i]? with | some (some d) => Q d st | _ => False) := rfl
@[simp] theorem s_c : dC d ρ st Q Z = Q d st := rfl
@[simp] theorem s_op {dr : D2} : dOp dr ta tb ρ st Q Z = ta ρ st (fun x st1 => tb ρ st1 (fun y st2 => dr x y st2 Q) Z) Z := rfl
@[simp] theorem s_un {f : D → Sto → DK → Prop} : dUn f ta ρ st Q Z = ta ρ st (fun x st1 => f x st1 Q) Z := rfl
@[simp] theorem s_test : dTest ta ρ st QT Z = ta ρ st (fun x st1 => match x with | .bl b => QT b st1 | _ => False) Z := rfl
@[simp] theorem s_chain {r r' : D2} : dChain r r' ta tb tc ρ st Q Z = ta ρ st (fun x st1 => tb ρ st1 (fun y st2 => r x y st2 fun z st3 => match z with
  | .bl k => if k = true then tc ρ st3 (fun w st4 => r' y w st4 Q) Z else Q (.bl false) st3
  | _ => False) Z) Z := rfl
@[simp] theorem s_tru_non {Qb : Bool → Prop} : truD st .non Qb = Qb false := rfl
@[simp] theorem s_tru_bl {b : Bool} {Qb : Bool → Prop} : truD st (.bl b) Qb = Qb b := rfl
@[simp] theorem s_tru_int {b : Int} {Qb : Bool → Prop} : truD st (.int b) Qb = Qb (b != 0) := rfl
@[simp] theorem s_tru_tup {Qb : Bool → Prop} : truD st (.tup ds) Qb = Qb (!ds.isEmpty) := rfl
@[simp] theorem s_tru_fls {Qb : Bool → Prop} : truD st (.fls ds) Qb = Qb (!ds.isEmpty) := rfl
@[simp] theorem s_tru_loc {n : Nat} {Qb : Bool → Prop} : truD st (.loc n) Qb = (match st[n]? with | some (.lst ds) => Qb (!ds.isEmpty) | some (.dK kvs) => Qb (!kvs.isEmpty) | _ => False) := rfl
@[simp] theorem s_tru : dTru ta ρ st QT Z = ta ρ st (fun x st1 => truD st1 x fun b => QT b st1) Z := rfl
@[simp] theorem s_not : dNot c ρ st QT Z = c ρ st (fun b st1 => QT (!b) st1) Z := rfl
@[simp] theorem s_and : dAnd c c' ρ st QT Z = c ρ st (fun b st1 => if b = true then c' ρ st1 QT Z else QT false st1) Z := rfl
@[simp] theorem s_or : dOr c c' ρ st QT Z = c ρ st (fun b st1 => if b = true then QT true st1 else c' ρ st1 QT Z) Z := rfl
@[simp] theorem s_if : dIf c ta tb ρ st Q Z = c ρ st (fun k st1 => if k = true then ta ρ st1 Q Z else tb ρ st1 Q Z) Z := rfl
@[simp] theorem s_andV : dAndV ta tb ρ st Q Z = ta ρ st (fun x st1 => truD st1 x fun k => if k = true then tb ρ st1 Q Z else Q x st1) Z := rfl
@[simp] theorem s_orV : dOrV ta tb ρ st Q Z = ta ρ st (fun x st1 => truD st1 x fun k => if k = true then Q x st1 else tb ρ st1 Q Z) Z := rfl
@[simp] theorem s_notV : dNotV ta ρ st Q Z = ta ρ st (fun x st1 => truD st1 x fun k => Q (.bl (!k)) st1) Z := rfl
@[simp] theorem s_nil : dNil ρ st QA Z = QA [] st := rfl
@[simp] theorem s_cons : dCons ta t ρ st QA Z = ta ρ st (fun x st1 => t ρ st1 (fun xs st2 => QA (x :: xs) st2) Z) Z := rfl
@[simp] theorem s_dtup : dTup t ρ st Q Z = t ρ st (fun xs st1 => xs.length ≤ sizeLine ∧ Q (.tup xs) st1) Z := rfl
@[simp] theorem s_dlst : dLst t ρ st Q Z = t ρ st (fun xs st1 => xs.length ≤ sizeLine ∧ Q (.loc st1.length) (st1 ++ [.lst xs])) Z := rfl
@[simp] theorem s_dict0 : dDict0 ρ st Q Z = Q (.loc st.length) (st ++ [.dK []]) := rfl
@[simp] theorem s_cb {dr : DN} : dCB dr t ρ st Q Z = t ρ st (fun xs st1 => dr xs st1 Q) Z := rfl
@[simp] theorem s_bm {T : String} {dm : DM} : dBM T dm ta t ρ st Q Z = ta ρ st (fun x st1 => tyD st1 T x ∧ t ρ st1 (fun xs st2 => dm x xs st2 Q) Z) Z := rfl
@[simp] theorem s_call {n : Nat} {dsp : DSp} : dCall n dsp t ρ st Q Z = t ρ st (fun ds st1 => ds.length = n ∧ dsp ds st1 Q fun x st2 => Z x ρ st2) Z := rfl
@[simp] theorem s_isi {Ts : List String} : dIsi ta Ts ρ st Q Z = ta ρ st (fun x st1 => match tyN st1 x with | some a => Q (.bl (Ts.any (tySub a))) st1 | none => False) Z := rfl
@[simp] theorem s_sl {tl th : DTO} : dSl ta tl th ρ st Q Z = ta ρ st (fun x st1 => tl ρ st1 (fun l st2 => th ρ st2 (fun u st3 => dSlV x l u st3 Q) Z) Z) Z := rfl
@[simp] theorem s_noPart {QO : Option Int → Sto → Prop} : dNoPart ρ st QO Z = QO none st := rfl
@[simp] theorem s_part {QO : Option Int → Sto → Prop} : dPart ta ρ st QO Z = ta ρ st (fun x st1 => match x with | .int i => QO (some i) st1 | _ => False) Z := rfl
@[simp] theorem s_slv_tup {l u : Option Int} : dSlV (.tup ds) l u st Q = Q (.tup (cutL ds l u)) st := rfl
@[simp] theorem s_slv_fls {l u : Option Int} : dSlV (.fls ds) l u st Q = Q (.loc st.length) (st ++ [.lst (cutL ds l u)]) := rfl
@[simp] theorem s_slv_loc {n : Nat} {l u : Option Int} : dSlV (.loc n) l u st Q = ∃ ds, st[n]? = some (.lst ds) ∧ Q (.loc st.length) (st ++ [.lst (cutL ds l u)]) := rfl
@[simp] theorem s_rev : dRev ta ρ st Q Z = ta ρ st (fun x st1 => match x with
  | .tup ds => Q (.tup ds.reverse) st1
  | x => ∃ ds, itemsD st1 x = some ds ∧ Q (.loc st1.length) (st1 ++ [.lst ds.reverse])) Z := rfl
@[simp] theorem s_neg {i : Int} : dNegV (.int i) st Q = Q (.int (-i)) st := rfl
@[simp] theorem s_add_int {i j : Int} : dAdd (.int i) (.int j) st Q = Q (.int (i + j)) st := rfl
@[simp] theorem s_add_str {a b : Str} : dAdd (.str a) (.str b) st Q = (a.length + b.length ≤ sizeLine ∧ Q (.str (a ++ b)) st) := rfl
@[simp] theorem s_add_tup {a b : List D} : dAdd (.tup a) (.tup b) st Q = (a.length + b.length ≤ sizeLine ∧ Q (.tup (a ++ b)) st) := rfl
@[simp] theorem s_add_loc {m n : Nat} : dAdd (.loc m) (.loc n) st Q = ∃ a b, st[m]? = some (.lst a) ∧ st[n]? = some (.lst b) ∧ a.length + b.length ≤ sizeLine ∧ Q (.loc st.length) (st ++ [.lst (a ++ b)]) := rfl
@[simp] theorem s_sub {i j : Int} : dSub (.int i) (.int j) st Q = Q (.int (i - j)) st := rfl
@[simp] theorem s_mul {i j : Int} : dMul (.int i) (.int j) st Q = (CMul i j ∧ Q (.int (i * j)) st) := rfl
@[simp] theorem s_div {i j : Int} : dDiv (.int i) (.int j) st Q = (CDiv i j ∧ Q (.int (i / j)) st) := rfl
@[simp] theorem s_mod {i j : Int} : dMod (.int i) (.int j) st Q = (0 < j ∧ Q (.int (i % j)) st) := rfl
@[simp] theorem s_pow {i j : Int} : dPow (.int i) (.int j) st Q = (CPow i j ∧ Q (.int (i ^ j.toNat)) st) := rfl
@[simp] theorem s_eq_int {f : Bool → Bool} {i j : Int} : dEqB f (.int i) (.int j) st Q = Q (.bl (f (decide (i = j)))) st := rfl
@[simp] theorem s_eq_str {f : Bool → Bool} {i j : Str} : dEqB f (.str i) (.str j) st Q = Q (.bl (f (decide (i = j)))) st := rfl
@[simp] theorem s_eq_bl {f : Bool → Bool} {i j : Bool} : dEqB f (.bl i) (.bl j) st Q = Q (.bl (f (decide (i = j)))) st := rfl
@[simp] theorem s_ord_int {f : Int → Int → Bool} {g : PyData → PyData → Bool} {i j : Int} : dOrd f g (.int i) (.int j) st Q = Q (.bl (f i j)) st := rfl
@[simp] theorem s_is {f : Bool → Bool} : dIsN f x .non st Q = Q (.bl (f (isNonD x))) st := rfl
@[simp] theorem isNon_non : isNonD .non = true := rfl
@[simp] theorem isNon_int {i : Int} : isNonD (.int i) = false := rfl
@[simp] theorem isNon_str {i : Str} : isNonD (.str i) = false := rfl
@[simp] theorem isNon_bl {i : Bool} : isNonD (.bl i) = false := rfl
@[simp] theorem isNon_tup : isNonD (.tup ds) = false := rfl
@[simp] theorem isNon_loc {n : Nat} : isNonD (.loc n) = false := rfl
@[simp] theorem isNon_fls : isNonD (.fls ds) = false := rfl
@[simp] theorem s_ix_tup {i : Int} : dIx (.tup ds) (.int i) st Q = ∃ d, atI ds i = some d ∧ Q d st := rfl
@[simp] theorem s_ix_fls {i : Int} : dIx (.fls ds) (.int i) st Q = ∃ d, atI ds i = some d ∧ Q d st := rfl
@[simp] theorem s_ix_loc {n : Nat} {i : Int} : dIx (.loc n) (.int i) st Q = ∃ ds d, st[n]? = some (.lst ds) ∧ atI ds i = some d ∧ Q d st := rfl
@[simp] theorem s_ix_str {z : Str} {i : Int} : dIx (.str z) (.int i) st Q = ∃ c, z.length ≤ sizeLine ∧ atI z.cps.toList i = some c ∧ Q (.str ⟨#[c]⟩) st := rfl
@[simp] theorem s_len_tup : dLen [.tup ds] st Q = Q (.int ds.length) st := rfl
@[simp] theorem s_len_fls : dLen [.fls ds] st Q = Q (.int ds.length) st := rfl
@[simp] theorem s_len_loc {n : Nat} : dLen [.loc n] st Q = (match st[n]? with | some (.lst ds) => Q (.int ds.length) st | _ => False) := by
  first
    | (simp only [dLen, lenD]; done)
    | (simp only [dLen, lenD]
       cases st[n]? with
       | none => rfl
       | some b => cases b <;> rfl)
@[simp] theorem s_len_str {a : Str} : dLen [.str a] st Q = (a.length ≤ sizeLine ∧ Q (.int a.length) st) := rfl
@[simp] theorem s_abs {i : Int} : dAbs [.int i] st Q = Q (.int (if i < 0 then -i else i)) st := rfl
@[simp] theorem s_int {i : Int} : dInt [.int i] st Q = Q (.int i) st := rfl
@[simp] theorem s_int_bl {b : Bool} : dInt [.bl b] st Q = Q (.int (if b then 1 else 0)) st := rfl
@[simp] theorem s_tupOf : dTupOf [d] st Q = (match itemsD st d with | some es => Q (.tup es) st | none => False) := rfl
@[simp] theorem s_lstOf : dLstOf [d] st Q = (match itemsD st d with | some es => Q (.loc st.length) (st ++ [.lst es]) | none => False) := rfl
@[simp] theorem s_items_tup : itemsD st (.tup ds) = some ds := rfl
@[simp] theorem s_items_fls : itemsD st (.fls ds) = some ds := rfl
@[simp] theorem s_items_loc {n : Nat} : itemsD st (.loc n) = (match st[n]? with | some (.lst ds) => some ds | _ => none) := rfl
@[simp] theorem s_all {n : Nat} : dAll [.loc n] st Q = ∃ bs : List Bool, st[n]? = some (.lst (bs.map .bl)) ∧ Q (.bl (bs.all id)) st := rfl
@[simp] theorem s_any {n : Nat} : dAny [.loc n] st Q = ∃ bs : List Bool, st[n]? = some (.lst (bs.map .bl)) ∧ Q (.bl (bs.any id)) st := rfl
@[simp] theorem s_append {n : Nat} : dAppend (.loc n) [d] st Q = ∃ es, st[n]? = some (.lst es) ∧ es.length < sizeLine ∧ Q .non (st.set n (.lst (es ++ [d]))) := rfl
@[simp] theorem s_extend {n m : Nat} : dExtend (.loc n) [.loc m] st Q = ∃ es fs, st[n]? = some (.lst es) ∧ st[m]? = some (.lst fs) ∧ es.length + fs.length ≤ sizeLine ∧ Q .non (st.set n (.lst (es ++ fs))) := rfl
@[simp] theorem s_tyD_loc {T : String} {n : Nat} : tyD st T (.loc n) = (match st[n]? with | some (.lst _) => T = "list" | some (.dK _) => T = "dict" | _ => False) := rfl
@[simp] theorem tyN_non : tyN st .non = some "NoneType" := rfl
@[simp] theorem tyN_bl {b : Bool} : tyN st (.bl b) = some "bool" := rfl
@[simp] theorem tyN_int {b : Int} : tyN st (.int b) = some "int" := rfl
@[simp] theorem tyN_str {b : Str} : tyN st (.str b) = some "str" := rfl
@[simp] theorem tyN_tup : tyN st (.tup ds) = some "tuple" := rfl
@[simp] theorem tyN_fls : tyN st (.fls ds) = some "list" := rfl
@[simp] theorem s_next : dNext E ρ st = E.nx ρ st := rfl
@[simp] theorem s_seq : dSeq s r E ρ st = s { E with nx := r E } ρ st := rfl
@[simp] theorem s_drop : dDrop te E ρ st = te ρ st (fun _ st1 => E.nx ρ st1) E.xs := rfl
@[simp] theorem s_ret : dRet te E ρ st = te ρ st E.rt E.xs := rfl
@[simp] theorem s_ifS : dIfS c s r E ρ st = c ρ st (fun b st1 => if b = true then s E ρ st1 else r E ρ st1) E.xs := rfl
@[simp] theorem s_gN {i : Nat} {Qn : Env' → Sto → Prop} : gN i d ρ st Qn = Qn (ρ.set i (some d)) st := rfl
@[simp] theorem s_gNil {Qn : Env' → Sto → Prop} : gNil' [] ρ st Qn = Qn ρ st := rfl
@[simp] theorem s_gCons {g : DTG} {h : DTGs} {Qn : Env' → Sto → Prop} : gCons' g h (d :: ds) ρ st Qn = g d ρ st fun ρ' st' => h ds ρ' st' Qn := rfl
@[simp] theorem s_gTup {n : Nat} {h : DTGs} {Qn : Env' → Sto → Prop} : gTup' n h (.tup ds) ρ st Qn = (ds.length = n ∧ h ds ρ st Qn) := rfl
@[simp] theorem s_asg {g : DTG} : dAsg te g E ρ st = te ρ st (fun x st1 => g x ρ st1 E.nx) E.xs := rfl
@[simp] theorem s_par {i j : Nat} : dPar i j t E ρ st = t ρ st (fun vs st1 => match vs with | [v, w] => E.nx ((ρ.set i (some v)).set j (some w)) st1 | _ => False) E.xs := rfl
@[simp] theorem s_gSub {to ti : DTE} {dr : D3} {Qn : Env' → Sto → Prop} : gSub' to ti dr d ρ st Qn = to ρ st (fun o st1 => ti ρ st1 (fun i st2 => dr o i d st2 fun st3 => Qn ρ st3) fun _ _ _ => False) fun _ _ _ => False := rfl
@[simp] theorem s_setL {n : Nat} {k : Int} {Qs : Sto → Prop} : dSetL (.loc n) (.int k) x st Qs = ∃ ds j, st[n]? = some (.lst ds) ∧ ixN ds.length k = some j ∧ Qs (st.set n (.lst (ds.set j x))) := rfl
@[simp] theorem s_start {N : List Str} : startD N ds = ds.map some ++ List.replicate (N.length - ds.length) none := rfl
@[simp] theorem s_for {it : DTI} {g : DTG} {body : DTS} : dFor it g body E ρ st = it ρ st (fun items G st1 => runG g body E G items ρ st1) E.xs := rfl
theorem runG_nil {g : DTG} {body : DTS} {G : Sto → Prop} : runG g body E G [] ρ st = (G st ∧ E.nx ρ st) := rfl
theorem runG_cons {g : DTG} {body : DTS} {G : Sto → Prop} : runG g body E G (d :: ds) ρ st = (G st ∧ g d ρ st fun ρ2 st2 => body { E with nx := runG g body E G ds, ct := runG g body E G ds, bk := E.nx } ρ2 st2) := rfl
@[simp] theorem s_iD {QI : List D → (Sto → Prop) → Sto → Prop} : iD te ρ st QI Z = te ρ st (fun x st1 => walkD st1 x fun items G => QI items G st1) Z := rfl
@[simp] theorem s_walk_tup {QI : List D → (Sto → Prop) → Prop} : walkD st (.tup ds) QI = QI ds fun _ => True := rfl
@[simp] theorem s_walk_fls {QI : List D → (Sto → Prop) → Prop} : walkD st (.fls ds) QI = QI ds fun _ => True := rfl
@[simp] theorem s_walk_loc {n : Nat} {QI : List D → (Sto → Prop) → Prop} : walkD st (.loc n) QI = ∃ ds, st[n]? = some (.lst ds) ∧ QI ds fun st => st[n]? = some (.lst ds) := rfl
@[simp] theorem s_iR1 {QI : List D → (Sto → Prop) → Sto → Prop} : iR1 t ρ st QI Z = t ρ st (fun xs st1 => match xs with | [.int j] => -(2 ^ 62) ≤ j ∧ j < 2 ^ 62 ∧ QI (rngItems 0 j.toNat) (fun _ => True) st1 | _ => False) Z := rfl
@[simp] theorem s_iR2 {QI : List D → (Sto → Prop) → Sto → Prop} : iR2 t ρ st QI Z = t ρ st (fun xs st1 => match xs with | [.int i, .int j] => (-(2 ^ 62) ≤ i ∧ i < 2 ^ 62 ∧ -(2 ^ 62) ≤ j ∧ j < 2 ^ 62) ∧ QI (rngItems i (j - i).toNat) (fun _ => True) st1 | _ => False) Z := rfl
@[simp] theorem s_iEn {QI : List D → (Sto → Prop) → Sto → Prop} : iEn t ρ st QI Z = t ρ st (fun xs st1 => match xs with | [x] => enumD st1 x fun items G => QI items G st1 | _ => False) Z := rfl
@[simp] theorem s_iZp {QI : List D → (Sto → Prop) → Sto → Prop} : iZp t ρ st QI Z = t ρ st (fun xs st1 => match xs with | [.tup ds, .tup es] => QI (zipItems ds es) (fun _ => True) st1 | _ => False) Z := rfl
@[simp] theorem s_en_tup {QI : List D → (Sto → Prop) → Prop} : enumD st (.tup ds) QI = QI (enumItems ds) fun _ => True := rfl
@[simp] theorem s_en_fls {QI : List D → (Sto → Prop) → Prop} : enumD st (.fls ds) QI = QI (enumItems ds) fun _ => True := rfl
@[simp] theorem s_en_loc {n : Nat} {QI : List D → (Sto → Prop) → Prop} : enumD st (.loc n) QI = ∃ ds, st[n]? = some (.lst ds) ∧ QI (enumItems ds) fun st => st[n]? = some (.lst ds) := rfl
@[simp] theorem s_lc {it : DTI} {g : DTG} {tt : DTT} {own : List Nat} : dLc it g tt te own ρ st Q Z = it ρ st (fun items G st1 => runC g tt te (wipeD ρ own) Q G items [] st1) Z := rfl
theorem runC_nil {g : DTG} {tt : DTT} {G : Sto → Prop} : runC g tt te ρ Q G [] es st = (G st ∧ Q (.loc st.length) (st ++ [.lst es])) := rfl
theorem runC_cons {g : DTG} {tt : DTT} {G : Sto → Prop} : runC g tt te ρ Q G (d :: ds) es st = (G st ∧ g d ρ st fun ρ2 st2 => tt ρ2 st2 (fun b st3 => if b = true then te ρ2 st3 (fun y st4 => es.length < sizeLine ∧ runC g tt te ρ Q G ds (es ++ [y]) st4) Z0 else runC g tt te ρ Q G ds es st3) Z0) := rfl
@[simp] theorem s_wipe0 : wipeD ρ [] = ρ := rfl
@[simp] theorem s_wipe {v : Nat} {vs : List Nat} : wipeD ρ (v :: vs) = (wipeD ρ vs).set v none := rfl
@[simp] theorem s_yes : dYes ρ st QT Z = QT true st := rfl
end
end DL
namespace DL
open PySem L2 PySem.Spec
open PyProof.Rows hiding St
section
variable [TC : TabCtx] {P : Program} {w : World} {K : PySem.W.Frag} {mg : Str → Option Value} {base : Heap} {k n : Nat} {x : Str} {s : Stmt} {N ps : List Str} {dsp : DSp} {f : Addr} {fd : FuncData}
theorem fn_mk (F : Fun K x x s f fd) (S : FnScope N ps (defScope s)) (hn : ps.length = n)
    (body : ∀ (f : Addr) (cdv : Value) (A : Around) (outer : List Env) (s0 : Shared) (H : Hp) (E : XK), Room k (A.deeper (envOfC x (defScope s) s0.heap.objs.size f cdv)) →
      ∃ t, DSs (XDef P w K mg base N x s f cdv A outer s0 H E) (WDef E) (defBody s) t ∧ ∀ ds st Q Z, ds.length = n → dsp ds st Q Z → t { nx := fun _ st' => Back st Q .non st', rt := Back st Q, xs := fun x _ st' => BackX st Z x st' } (startD N ds) st) :
    FnOk P w K mg base (L2.CX P w) (k + 1) f fd ps (liftSp K n dsp) := by
  refine F.okX S (fun vs H Q E h => by rw [hn]; exact h.1) (fun cdv A outer s0 H vs Q E hr h => ?_)
  obtain ⟨t, ht, hd⟩ := body f cdv A outer s0 H E hr
  obtain ⟨hl, ds, st, μ, Qd, Z, r, sr, hsp, hQ, hZ⟩ := h
  refine ⟨_, ht, startD N ds, st, μ, _, ⟨start_rep N r, sr⟩, hd ds st Qd Z (by rw [r.length]; exact hl) hsp, ?_, Back.ok sr hQ, ?_, ?_, ?_⟩
  · exact fun ρ' st' σ' H' μ' q e s' => Back.ok sr hQ _ _ _ _ _ q e s'.s rfl
  · exact fun ρ' st' σ' H' μ' q e s' => q.elim
  · exact fun ρ' st' σ' H' μ' q e s' => q.elim
  · exact fun x' ρ' st' σ' H' μ' c dx q e s' r' => BackX.ok sr hZ _ _ _ _ _ _ q e s'.s r'
end
/-- what a law's own def promises: of a script it tells True -/
def IsL (st : Sto) (d : D) (ns : List Int) : Prop := d = .fls (ns.map .int) ∨ ∃ n, d = .loc n ∧ st[n]? = some (.lst (ns.map .int))
def sp_law : DSp := fun ds st Q _ => match ds with
  | [d] => ∃ ns : List Int, IsL st d ns ∧ ns.length ≤ 63 ∧ (∀ z ∈ ns, Builtin.Int.intBits z ≤ 1048576) ∧ ∀ st', Q (.bl true) st'
  | _ => False
theorem reps_ints0 {K : PySem.W.Frag} {H : Hp} {μ : List Addr} : ∀ ns : List Int, Reps K H μ (ns.map .int) (ns.map V.int)
  | [] => rfl
  | n :: ns => ⟨.int n, ns.map V.int, rfl, rfl, reps_ints0 ns⟩
theorem law_at {l : PySem.W.OpenLaw} {w : World} {K : PySem.W.Frag} {k : Nat} {mg : Str → Option Value} {fa : Addr} {fd : FuncData} {h : Heap} (T : List (Addr × Str)) (cs : List (Addr × Addr))
    (hT : ∀ p ∈ T, p.1 ∈ cs.map (·.2)) (ht : ∀ p ∈ cs, h.get? p.2 = some { cls := .none, data := .fields #[] }) (nk : ∀ p ∈ cs, K.lookup p.2 = none) (cd : ∀ p ∈ cs, PySem.W.CodeHd h p.1 p.2)
    (hb : ∀ (s : Shared) (u : Value), BindsTo s fd ⟨[u], []⟩ [("script", u)])
    (F : ∀ base : Heap, K.In base → base.Ns mainGlobals mg → (∀ p ∈ cs, LamX.TabB base mg p.1 p.2) → FnOk l.prog w K mg base (L2.CX l.prog w) k fa fd ["script"] (@liftSp ⟨T, []⟩ K 1 sp_law)) :
    LamX.LawAtS l w K (L2.CX l.prog w) k 63 "script" mg fa h := by
  letI : TabCtx := ⟨T, []⟩
  refine ⟨fd, cs, liftSp K 1 sp_law, ht, nk, cd, hb, fun H a ns hl hbits hts hS => ⟨rfl, ?_⟩, F⟩
  have tabs : LamX.Tabs T H := fun p hp => by
    obtain ⟨q, hq, e⟩ := List.mem_map.mp (hT p hp)
    rw [show p.1 = q.2 from e.symm]
    exact LamX.TabS.nil (hts q hq)
  have eok : ∀ {μ : List Addr}, EOk K (fun d _ => d = .bl true) (fun v _ => v = .bl true) H μ := fun d st' H' μ' v q _ _ r => by
    subst q
    exact r
  have xok : ∀ {μ : List Addr}, XOk K (fun _ _ => False) (fun _ _ _ => False) H μ := fun x st' H' μ' c dx q _ _ _ => q.elim
  have fz : FzL K H a (ns.map V.int) → ∃ ds st μ Qd Z, Reps K H μ ds [V.ref a] ∧ SRep K st μ H ∧ sp_law ds st Qd Z ∧ EOk K Qd (fun v _ => v = .bl true) H μ ∧ XOk K Z (fun _ _ _ => False) H μ := fun z =>
    ⟨[.fls (ns.map .int)], [], [], fun d _ => d = .bl true, fun _ _ => False, Reps.one ⟨a, _, rfl, z, reps_ints0 ns⟩,
      ⟨rfl, List.nodup_nil, fun n b e => by simp at e, tabs, fun _ h => nomatch h⟩, ⟨ns, .inl rfl, hl, hbits, fun _ => rfl⟩, eok, xok⟩
  rcases hS with (hS | hS) | hS
  · refine ⟨[.loc 0], [.lst (ns.map .int)], [a], fun d _ => d = .bl true, fun _ _ => False, Reps.one ⟨a, rfl, rfl⟩, ⟨rfl, by simp, fun n b e => ?_, tabs, fun _ h => nomatch h⟩, ⟨ns, .inr ⟨0, rfl, rfl⟩, hl, hbits, fun _ => rfl⟩, eok, xok⟩
    cases n with
    | zero =>
      cases e
      exact ⟨a, _, rfl, hS, _, rfl, reps_ints0 ns⟩
    | succ n => simp at e
  · exact fz (.inl hS)
  · exact fz (.inr hS)
theorem cx_false {P : Program} {w : World} {outer : List Env} {H : Hp} {s s' : Shared} {u : Value} (h : L2.CX P w outer H s (fun _ _ _ => False) u s') : False := by
  obtain ⟨a, B, H', cls, d, _, _, _, _, _, _, _, z⟩ := h
  exact z
end DL
namespace DL
open PySem L2 PySem.Spec
open PyProof.Rows hiding St
variable [TC : TabCtx]
section
variable {K : PySem.W.Frag}
def dStr0 (f : Str → Bool) : DM := fun x ds st Q => match x, ds with | .str a, [] => Q (.bl (f a)) st | _, _ => False
theorem str0_ok {f : Str → Bool} : DMt K (fun x xs H Q => ∃ a, x = .str a ∧ xs = [] ∧ True ∧ Q (.bl (f a)) H) (dStr0 f) := by
  intro H μ st x v ds vs Qd Q s rx rs h hQ
  unfold dStr0 at h
  split at h
  · exact ⟨_, rx, rs, trivial, hQ _ _ _ _ _ h (Ext.refl _ _) s rfl⟩
  · exact h.elim
def dStr1 (f : Str → Str → Bool) : DM := fun x ds st Q => match x, ds with | .str a, [.str b] => Q (.bl (f a b)) st | _, _ => False
theorem reps_strs0 {H : Hp} {μ : List Addr} : ∀ ys : List Str, Reps K H μ (ys.map D.str) (ys.map V.str)
  | [] => rfl
  | y :: ys => ⟨.str y, ys.map V.str, rfl, rfl, reps_strs0 ys⟩
theorem reps_strs {H : Hp} {μ : List Addr} : ∀ {ys : List Str} {vs : List V}, Reps K H μ (ys.map D.str) vs → vs = ys.map V.str
  | [], _, h => h
  | y :: ys, _, h => by
    obtain ⟨v, r, rfl, h1, h2⟩ := h
    rw [reps_strs h2, show v = _ from h1]
    rfl
def dSplit : DM := fun x ds st Q => match x, ds with | .str a, [.str b] => (b.length == 0) = false ∧ a.length + 2 ≤ sizeLine ∧ Q (.loc st.length) (st ++ [.lst ((Txt.split a b).map .str)]) | _, _ => False
def dJoin : DM := fun x ds st Q => match x, ds with
  | .str a, [d] => ∃ ys : List Str, itemsD st d = some (ys.map .str) ∧ (ys.map (·.length)).sum + ys.length * a.length ≤ 16777216 ∧ Q (.str (Txt.join a ys)) st
  | _, _ => False
/-- extend by a tuple -/
def rExtendT (K : PySem.W.Frag) : V → List V → Hp → VK → Prop := fun x vs H Q => ∃ l b xs zs, x = .ref l ∧ vs = [.ref b] ∧ H l = some (.lst xs) ∧ SqT K H b zs ∧ xs.length + zs.length ≤ sizeLine ∧ Q .non (upd H l (.lst (xs ++ zs)))
end
/-- a list grown by a tuple of whatever kind -/
theorem grown_by_tup {l b : Addr} {xs ys : Array Value} {n m : Nat} {dt : Option Addr} {sl : Array (Option Value)} (h0 : ¬(!xs.isEmpty && Builtin.List.listTooLong (xs.size + ys.size)) = true) (h1 : xs.size ≤ sizeLine) (h2 : xs.size + ys.size ≤ sizeLine + 1) :
    Meets (Builtin.«list.extend» ⟨[.ref l, .ref b], []⟩) (fun _ R s => s.heap.get? l = some { cls := .type "list", data := .seq xs n } ∧ s.heap.get? b = some { cls := .type "tuple", dict := dt, data := .seq ys m, slots := sl } ∧
      R (.ok (.ret Value.none)) { s with heap := s.heap.update l (Obj.mapSeq fun x => x ++ ys), toks := s.toks }) :=
  .of_wp fun prog w A R s h => by
    obtain ⟨hp, g, d, tk, os⟩ := s
    obtain ⟨hl, hb, h⟩ := h
    have f2 := sub_tuple_tuple
    have f3 := sub_list_list
    have f4 := sub_tuple_list
    have f5 := sub_list_tuple
    have hz' : (xs ++ ys).size ≤ sizeLine + 1 := by rw [Array.size_append]; exact h2
    wp_walk using (wpAny_updateSeq hl rfl (hz := h1) (_hz' := hz')), wpAny_loadPart' hl, wpAny_loadPart' hb
    exact ⟨_, rfl, h⟩
section
variable {X : Cx}
theorem mt_extendT : MtM X "list.extend" (rExtendT X.K) := by
  intro pins s σ H x vs v us Q I rx rv h
  obtain ⟨l, b, xs, zs, rfl, rfl, hH, hB, hz, q⟩ := h
  cases rx
  obtain ⟨u, rfl, ru⟩ := rv.one
  cases ru
  obtain ⟨z, its, n, r, hl, e⟩ := I.lstM hH
  obtain ⟨its2, r2, ⟨o2, e2, hc2, n2, hd2⟩, _⟩ := I.tuple hB
  obtain ⟨c2, d2, da2, sl2⟩ := o2
  cases hc2
  cases hd2
  have hl2 := r2.length
  have hsz : its.toArray.size + its2.toArray.size ≤ sizeLine := by rw [List.size_toArray, List.size_toArray]; omega
  have hlong : ¬ (!its.toArray.isEmpty && Builtin.List.listTooLong (its.toArray.size + its2.toArray.size)) = true := by
    rw [notLongL hsz, Bool.and_false]
    exact Bool.false_ne_true
  refine call_meets PySem.F.slot_list_extend ⟨_, e, rfl⟩ PySem.F.entry_list_extend (PySem.F.args_list_extend_2 _ _) (grown_by_tup hlong (by rw [List.size_toArray]; omega) (by omega)) ⟨e, e2, ?_⟩
  refine ⟨.non, _, I.lset (its' := its ++ its2) hH e (by simp) (r.append r2) ?_, rfl, q⟩
  rw [List.length_append]
  omega
end
section
variable {K : PySem.W.Frag}
/-- extend by a list or a tuple -/
def dExtendA : DM := fun x ds st Q => match x, ds with
  | .loc n, [d] => ∃ es fs, st[n]? = some (.lst es) ∧ (d = .tup fs ∨ ∃ m, d = .loc m ∧ st[m]? = some (.lst fs)) ∧ es.length + fs.length ≤ sizeLine ∧ Q .non (st.set n (.lst (es ++ fs)))
  | _, _ => False
theorem extendA_ok : DMt K (fun x xs H Q => rExtend x xs H Q ∨ rExtendT K x xs H Q) dExtendA := by
  intro H μ st x v ds vs Qd Q s rx rs h hQ
  unfold dExtendA at h
  split at h
  · obtain ⟨u, rfl, ru⟩ := reps1 rs
    obtain ⟨a, rfl, hn⟩ := rx
    obtain ⟨es, fs, he, hd, hz, q⟩ := h
    obtain ⟨a', o, e1, e2, vs, rfl, hr⟩ := s.at' _ _ he
    rw [hn] at e1; cases e1
    rcases hd with rfl | ⟨m, rfl, hm⟩
    · obtain ⟨b, us, rfl, ht, hr'⟩ := ru
      have w := s.write (o' := .lst (vs ++ us)) (b := .lst (es ++ fs)) hn e2 ⟨_, rfl, hr.append hr'⟩
      exact .inr ⟨a, b, vs, us, rfl, rfl, e2, ht, by rw [← hr.length, ← hr'.length]; exact hz, hQ _ _ _ _ _ q w.1 w.2 rfl⟩
    · obtain ⟨b, rfl, hb⟩ := ru
      obtain ⟨b', o, e1, e3, us, rfl, hr'⟩ := s.at' _ _ hm
      rw [hb] at e1; cases e1
      have w := s.write (o' := .lst (vs ++ us)) (b := .lst (es ++ fs)) hn e2 ⟨_, rfl, hr.append hr'⟩
      exact .inl ⟨a, b, vs, us, rfl, rfl, e2, e3, by rw [← hr.length, ← hr'.length]; exact hz, hQ _ _ _ _ _ q w.1 w.2 rfl⟩
  · exact h.elim
/-- int(text), str(number) -/
def dIntS : DN := fun ds st Q => match ds with | [.str a] => ∃ n, PySem.intText? a = some n ∧ a.length ≤ 640 ∧ Q (.int n) st | _ => False
def dStrI : DN := fun ds st Q => match ds with | [.int i] => i.natAbs.log2 < 1920 ∧ Q (.str (toString i)) st | _ => False
def dMaxT : DN := fun ds st Q => match ds with | [.tup es] => ∃ ns : List Int, es = ns.map .int ∧ 0 < ns.length ∧ ∀ m, m ∈ ns → (∀ y ∈ ns, y ≤ m) → Q (.int m) st | _ => False
end
end DL
namespace DL
open PySem L2 PySem.Spec
open PyProof.Rows hiding St
variable [TC : TabCtx]
section
variable {X : Cx} {W : WX} {e e1 e2 : Expr} {es : List Expr} {t te : DTE} {pos : Pos}
def dFmt (te : DTE) : DTE := fun ρ st Q Z => te ρ st (fun x st1 => match x with
  | .str y => y.length ≤ sizeLine ∧ Q (.str y) st1
  | .int i => i.natAbs.log2 < 1920 ∧ Q (.str (toString i)) st1
  | _ => False) Z
def dJs : List DTE → Str → Env' → Sto → (Str → Sto → Prop) → DZ → Prop
  | [], acc, _, st, Q, _ => Q acc st
  | t :: ts, acc, ρ, st, Q, Z => t ρ st (fun x st1 => match x with | .str y => (acc ++ y).length ≤ sizeLine ∧ dJs ts (acc ++ y) ρ st1 Q Z | _ => False) Z
def dJoined (ts : List DTE) : DTE := fun ρ st Q Z => dJs ts Str.empty ρ st (fun out st1 => Q (.str out) st1) Z
end
def keyD : D → Option Key
  | .int i => some (.inl i)
  | .str x => some (.inr x)
  | _ => none
def valD (kvs : List (Key × D)) (k : Key) : Option D := (kvs.find? fun kv => decide (kv.1 = k)).map (·.2)
def putD (kvs : List (Key × D)) (k : Key) (v : D) : List (Key × D) :=
  if (kvs.any fun kv => decide (kv.1 = k)) = true then kvs.map (fun kv => if kv.1 = k then (kv.1, v) else kv) else kvs ++ [(k, v)]
def mergeD (kvs more : List (Key × D)) : List (Key × D) := more.foldl (fun acc kv => putD acc kv.1 kv.2) kvs
section
variable {K : PySem.W.Frag} {H : Hp} {μ : List Addr}
theorem key_rep {d : D} {k : Key} {v : V} (h : keyD d = some k) (r : Rep K H μ d v) : v = kV k := by
  cases d <;> simp [keyD] at h <;> subst h <;> exact r
theorem okv_nil {gs : List (Key × V)} (h : OKv K H μ [] gs) : gs = [] := by
  have := h.1
  cases gs with
  | nil => rfl
  | cons g gs => simp at this
theorem okv_cons {p : Key × D} {kvs : List (Key × D)} {gs : List (Key × V)} (h : OKv K H μ (p :: kvs) gs) : ∃ v gs', gs = (p.1, v) :: gs' ∧ Rep K H μ p.2 v ∧ OKv K H μ kvs gs' := by
  obtain ⟨h1, v, r, h2, h3, h4⟩ := h
  cases gs with
  | nil => simp at h1
  | cons g gs =>
    simp only [List.map_cons, List.cons.injEq] at h1 h2
    obtain ⟨gk, gv⟩ := g
    obtain ⟨e1, e2⟩ := h1
    obtain ⟨e3, e4⟩ := h2
    dsimp only at e1 e3
    subst e1 e3
    exact ⟨gv, gs, rfl, h3, e2, by rw [e4]; exact h4⟩
theorem okv_mk {p : Key × D} {kvs : List (Key × D)} {gs : List (Key × V)} {v : V} (r : Rep K H μ p.2 v) (h : OKv K H μ kvs gs) : OKv K H μ (p :: kvs) ((p.1, v) :: gs) :=
  ⟨by simp [h.1], v, gs.map (·.2), rfl, r, h.2⟩
theorem okv_app {kvs kvs' : List (Key × D)} {gs gs' : List (Key × V)} (h : OKv K H μ kvs gs) (h' : OKv K H μ kvs' gs') : OKv K H μ (kvs ++ kvs') (gs ++ gs') := by
  refine ⟨by simp [h.1, h'.1], ?_⟩
  simp only [List.map_append]
  exact h.2.append h'.2
theorem okv_val {k : Key} : ∀ {kvs : List (Key × D)} {gs : List (Key × V)}, OKv K H μ kvs gs → (valD kvs k = none ∧ valV gs k = none) ∨ ∃ d v, valD kvs k = some d ∧ valV gs k = some v ∧ Rep K H μ d v
  | [], gs, h => by rw [okv_nil h]; exact .inl ⟨rfl, rfl⟩
  | p :: kvs, gs, h => by
    obtain ⟨v, gs', rfl, r, h'⟩ := okv_cons h
    by_cases e : p.1 = k
    · exact .inr ⟨p.2, v, by simp [valD, e], by simp [valV, e], r⟩
    · rcases okv_val (k := k) h' with ⟨h1, h2⟩ | ⟨d, u, h1, h2, h3⟩
      · exact .inl ⟨by simpa [valD, e] using h1, by simpa [valV, e] using h2⟩
      · exact .inr ⟨d, u, by simpa [valD, e] using h1, by simpa [valV, e] using h2, h3⟩
theorem okv_any {k : Key} : ∀ {kvs : List (Key × D)} {gs : List (Key × V)}, OKv K H μ kvs gs → (kvs.any fun kv => decide (kv.1 = k)) = gs.any fun kv => decide (kv.1 = k)
  | [], gs, h => by rw [okv_nil h]; rfl
  | p :: kvs, gs, h => by
    obtain ⟨v, gs', rfl, r, h'⟩ := okv_cons h
    simp only [List.any_cons, okv_any (k := k) h']
theorem okv_upd {k : Key} {d : D} {v : V} (r : Rep K H μ d v) : ∀ {kvs : List (Key × D)} {gs : List (Key × V)}, OKv K H μ kvs gs → OKv K H μ (kvs.map fun kv => if kv.1 = k then (kv.1, d) else kv) (gs.map fun kv => if kv.1 = k then (kv.1, v) else kv)
  | [], gs, h => by rw [okv_nil h]; exact ⟨rfl, rfl⟩
  | p :: kvs, gs, h => by
    obtain ⟨u, gs', rfl, ru, h'⟩ := okv_cons h
    have ih := okv_upd (k := k) r h'
    simp only [List.map_cons]
    by_cases e : p.1 = k
    · rw [if_pos e, if_pos e]
      exact okv_mk (p := (p.1, d)) r ih
    · rw [if_neg e, if_neg e]
      exact okv_mk ru ih
theorem okv_put {k : Key} {d : D} {v : V} (r : Rep K H μ d v) {kvs : List (Key × D)} {gs : List (Key × V)} (h : OKv K H μ kvs gs) : OKv K H μ (putD kvs k d) (putK gs k v) := by
  unfold putD putK
  rw [okv_any h]
  split
  · exact okv_upd r h
  · exact okv_app h (okv_mk (p := (k, d)) r ⟨rfl, rfl⟩)
theorem okv_merge : ∀ {more : List (Key × D)} {ms : List (Key × V)} {kvs : List (Key × D)} {gs : List (Key × V)}, OKv K H μ more ms → OKv K H μ kvs gs → OKv K H μ (mergeD kvs more) (mergeK gs ms)
  | [], ms, kvs, gs, h, g => by rw [okv_nil h]; exact g
  | p :: more, ms, kvs, gs, h, g => by
    obtain ⟨v, ms', rfl, r, h'⟩ := okv_cons h
    show OKv K H μ (mergeD (putD kvs p.1 p.2) more) (mergeK (putK gs p.1 v) ms')
    exact okv_merge (more := more) h' (okv_put r g)
theorem okv_len {kvs : List (Key × D)} {gs : List (Key × V)} (h : OKv K H μ kvs gs) : kvs.length = gs.length := by
  have := congrArg List.length h.1
  simpa using this
end
section
variable {X : Cx} {W : WX} {a b o i e : Expr} {keys : List (Option Expr)} {values : List Expr} {ta tb td ti : DTE} {pos : Pos}
/-- d[k] -/
def dDGet (td ti : DTE) : DTE := fun ρ st Q Z => td ρ st (fun x st1 => ti ρ st1 (fun y st2 => ∃ n kvs k v, x = .loc n ∧ st2[n]? = some (.dK kvs) ∧ keyD y = some k ∧ valD kvs k = some v ∧ Q v st2) Z) Z
theorem de_dget (hu : X.A.units + 1 < cLine) (ho : DE X W o td) (hi : DE X W i ti) (hs : NoSl i := by intro _ _; rfl) : DE X W (.Subscript o i pos) (dDGet td ti) := pe_weak (pe_dget hu ho hi hs) fun σ H Q ⟨ρ, st, μ, Qd, Z, hS, ht, hQ, hZ⟩ =>
  ⟨ρ, st, μ, _, Z, hS, ht, fun x st1 H1 μ1 v hx e1 s1 rv => ⟨ρ, st1, μ1, _, Z, hS.mono e1 s1, hx, fun y st2 H2 μ2 u hy e2 s2 ru => by
    obtain ⟨n, kvs, k, d, rfl, hn, hk, hv, q⟩ := hy
    obtain ⟨a, rfl, ha⟩ := rv.mono e2
    obtain ⟨a', ob, q1, q2, gs, rfl, okv⟩ := s2.at' _ _ hn
    rw [ha] at q1; cases q1
    rcases okv_val (k := k) okv with ⟨h1, _⟩ | ⟨d', w, h1, h2, r⟩
    · rw [h1] at hv; cases hv
    · rw [h1] at hv; cases hv
      refine ⟨a, w, rfl, ?_, hQ _ _ _ _ _ q (e1.trans e2) s2 r⟩
      have := DGet.k (k := k) q2
      rw [h2] at this
      rw [key_rep hk ru]
      exact this, hZ.mono e1⟩, hZ⟩
/-- {k: v, ..} -/
def dPairs : List (DTE × DTE) → Env' → Sto → (List (D × D) → Sto → Prop) → DZ → Prop
  | [], _, st, Q, _ => Q [] st
  | (tk, tv) :: r, ρ, st, Q, Z => tk ρ st (fun x st1 => tv ρ st1 (fun y st2 => dPairs r ρ st2 (fun ps st3 => Q ((x, y) :: ps) st3) Z) Z) Z
inductive DPs (X : Cx) (W : WX) : List (Option Expr) → List Expr → List (DTE × DTE) → Prop where
  | nil : DPs X W [] [] []
  | cons {k v : Expr} {ks : List (Option Expr)} {vs : List Expr} {tk tv : DTE} {ts : List (DTE × DTE)} (hk : DE X W k tk) (hv : DE X W v tv) (r : DPs X W ks vs ts) : DPs X W (some k :: ks) (v :: vs) ((tk, tv) :: ts)
theorem DPs.pps {ts : List (DTE × DTE)} (h : DPs X W keys values ts) : PPs X pos keys values (ts.map fun p => (liftE X.K W p.1, liftE X.K W p.2)) := by
  induction h with
  | nil => exact pps_nil
  | cons hk hv r ih => exact pps_cons hk hv ih
/-- pairs as they are told -/
def Pairs (K : PySem.W.Frag) (H : Hp) (μ : List Addr) : List (D × D) → List (V × V) → Prop
  | [], ps => ps = []
  | p :: ds, ps => ∃ q r, ps = q :: r ∧ Rep K H μ p.1 q.1 ∧ Rep K H μ p.2 q.2 ∧ Pairs K H μ ds r
theorem pairs_lift {K : PySem.W.Frag} {ρ : Env'} {Z : DZ} {σ : St} : ∀ {ts : List (DTE × DTE)} {Qd : List (D × D) → Sto → Prop} {Q : List (V × V) → Hp → Prop} {st : Sto} {H : Hp} {μ : List Addr}, Stt K ρ st μ σ H → dPairs ts ρ st Qd Z →
    (∀ ps st' H' μ' vs, Qd ps st' → Ext H H' μ μ' → SRep K st' μ' H' → Pairs K H' μ' ps vs → Q vs H') → ZOk K W Z H μ → tPairs (ts.map fun p => (liftE K W p.1, liftE K W p.2)) σ H Q
  | [], Qd, Q, st, H, μ, hS, h, hQ, hZ => hQ _ _ _ _ _ h (Ext.refl _ _) hS.s rfl
  | (tk, tv) :: ts, Qd, Q, st, H, μ, hS, h, hQ, hZ => ⟨ρ, st, μ, _, Z, hS, h, fun x st1 H1 μ1 v hx e1 s1 rv => ⟨ρ, st1, μ1, _, Z, hS.mono e1 s1, hx, fun y st2 H2 μ2 u hy e2 s2 ru =>
    pairs_lift (hS.mono (e1.trans e2) s2) hy (fun ps st' H' μ' vs q e3 s3 rp => hQ _ _ _ _ _ q ((e1.trans e2).trans e3) s3 ⟨(v, u), vs, rfl, (rv.mono e2).mono e3, ru.mono e3, rp⟩) (hZ.mono (e1.trans e2)), hZ.mono e1⟩, hZ⟩
theorem pairs_kv {K : PySem.W.Frag} {H : Hp} {μ : List Addr} : ∀ {ps : List (D × D)} {vs : List (V × V)} {kvs : List (Key × D)}, Pairs K H μ ps vs → ps.map (fun p => (keyD p.1, p.2)) = kvs.map (fun p => (some p.1, p.2)) →
    ∃ gs : List (Key × V), vs = gs.map (fun kv => (kV kv.1, kv.2)) ∧ OKv K H μ kvs gs
  | [], vs, kvs, h, e => by
    cases kvs with
    | nil => rw [show vs = [] from h]; exact ⟨[], rfl, rfl, rfl⟩
    | cons p kvs => simp at e
  | p :: ps, vs, kvs, h, e => by
    obtain ⟨q, r, rfl, h1, h2, h3⟩ := h
    cases kvs with
    | nil => simp at e
    | cons g kvs =>
      obtain ⟨gk, gv⟩ := g
      simp only [List.map_cons, List.cons.injEq, Prod.mk.injEq] at e
      obtain ⟨⟨e1, e2⟩, e3⟩ := e
      obtain ⟨gs, rfl, hg⟩ := pairs_kv h3 e3
      obtain ⟨qk, qv⟩ := q
      refine ⟨(gk, qv) :: gs, ?_, okv_mk (p := (gk, gv)) (by rw [← e2]; exact h2) hg⟩
      dsimp only at h1
      rw [key_rep e1 h1]
      rfl
def dDisp (ts : List (DTE × DTE)) : DTE := fun ρ st Q Z => dPairs ts ρ (st ++ [.dK []]) (fun ps st1 => st1[st.length]? = some (.dK []) ∧ ∃ kvs : List (Key × D), ps.map (fun p => (keyD p.1, p.2)) = kvs.map (fun p => (some p.1, p.2)) ∧ kvs.length ≤ 15 ∧
  Q (.loc st.length) (st1.set st.length (.dK (mergeD [] kvs)))) Z
theorem de_disp {ts : List (DTE × DTE)} (h : DPs X W keys values ts) (hall : keys.all (·.isSome) = true := by rfl) (hl : keys.length = values.length := by rfl) (h0 : keys ≠ [] := by exact fun z => nomatch z) (h15 : keys.length ≤ 15 := by decide) :
    DE X W (.Dict keys values pos) (dDisp ts) := pe_weak (pe_disp h.pps hall hl h0 h15) fun σ H Q ⟨ρ, st, μ, Qd, Z, hS, ht, hQ, hZ⟩ p hp => by
  have x0 := Ext.push (μ := μ) (o := .dK []) hp
  have s0 := hS.s.push (o := .dK []) (b := .dK []) hp ⟨[], rfl, rfl, rfl⟩
  refine pairs_lift (hS.mono x0 s0) ht (fun ps st1 H1 μ1 vs hq e1 s1 rp => ?_) (hZ.mono x0)
  obtain ⟨hat, kvs, hk, h15', q⟩ := hq
  have hp1 : μ1[st.length]? = some p := e1.pre _ _ (by rw [hS.s.len]; exact getElem?_end _ _)
  obtain ⟨a, ob, q1, q2, gs0, rfl, okv⟩ := s1.at' _ _ hat
  rw [hp1] at q1; cases q1
  rw [okv_nil okv] at q2
  obtain ⟨gs, rfl, hg⟩ := pairs_kv rp hk
  refine ⟨q2, gs, rfl, by rw [← okv_len hg]; exact h15', ?_⟩
  have w := s1.write (o' := .dK (mergeK [] gs)) (b := .dK (mergeD [] kvs)) hp1 q2 ⟨_, rfl, okv_merge hg ⟨rfl, rfl⟩⟩
  exact hQ _ _ _ _ _ q ((x0.trans e1).trans w.1) w.2 ⟨p, rfl, hp1⟩
end
end DL
namespace DL
open PySem L2 PySem.Spec
open PyProof.Rows hiding St
section
variable {ρ : Env'} {st : Sto} {Q : DK} {Z : DZ} {d x y z : D} {ds es : List D} {te ta tb tc td ti : DTE}
@[simp] theorem s_str0 {f : Str → Bool} {a : Str} : dStr0 f (.str a) [] st Q = Q (.bl (f a)) st := rfl
@[simp] theorem s_str1 {f : Str → Str → Bool} {a b : Str} : dStr1 f (.str a) [.str b] st Q = Q (.bl (f a b)) st := rfl
@[simp] theorem s_split {a b : Str} : dSplit (.str a) [.str b] st Q = ((b.length == 0) = false ∧ a.length + 2 ≤ sizeLine ∧ Q (.loc st.length) (st ++ [.lst ((Txt.split a b).map .str)])) := rfl
@[simp] theorem s_join {a : Str} : dJoin (.str a) [d] st Q = ∃ ys : List Str, itemsD st d = some (ys.map .str) ∧ (ys.map (·.length)).sum + ys.length * a.length ≤ 16777216 ∧ Q (.str (Txt.join a ys)) st := rfl
@[simp] theorem s_extendA {n : Nat} : dExtendA (.loc n) [d] st Q = ∃ es fs, st[n]? = some (.lst es) ∧ (d = .tup fs ∨ ∃ m, d = .loc m ∧ st[m]? = some (.lst fs)) ∧ es.length + fs.length ≤ sizeLine ∧ Q .non (st.set n (.lst (es ++ fs))) := rfl
@[simp] theorem s_tyD_str {T : String} {a : Str} : tyD st T (.str a) = (T = "str") := rfl
@[simp] theorem s_intS {a : Str} : dIntS [.str a] st Q = ∃ n, PySem.intText? a = some n ∧ a.length ≤ 640 ∧ Q (.int n) st := rfl
@[simp] theorem s_strI {i : Int} : dStrI [.int i] st Q = (i.natAbs.log2 < 1920 ∧ Q (.str (toString i)) st) := rfl
@[simp] theorem s_maxT : dMaxT [.tup es] st Q = ∃ ns : List Int, es = ns.map .int ∧ 0 < ns.length ∧ ∀ m, m ∈ ns → (∀ y ∈ ns, y ≤ m) → Q (.int m) st := rfl
@[simp] theorem s_fmt : dFmt te ρ st Q Z = te ρ st (fun x st1 => match x with
  | .str y => y.length ≤ sizeLine ∧ Q (.str y) st1
  | .int i => i.natAbs.log2 < 1920 ∧ Q (.str (toString i)) st1
  | _ => False) Z := rfl
@[simp] theorem s_joined {ts : List DTE} : dJoined ts ρ st Q Z = dJs ts Str.empty ρ st (fun out st1 => Q (.str out) st1) Z := rfl
@[simp] theorem s_js0 {acc : Str} {QS : Str → Sto → Prop} : dJs [] acc ρ st QS Z = QS acc st := rfl
@[simp] theorem s_js {t : DTE} {ts : List DTE} {acc : Str} {QS : Str → Sto → Prop} : dJs (t :: ts) acc ρ st QS Z = t ρ st (fun x st1 => match x with | .str y => (acc ++ y).length ≤ sizeLine ∧ dJs ts (acc ++ y) ρ st1 QS Z | _ => False) Z := rfl
@[simp] theorem s_aug {i : Nat} {dr : D2} {E : DEnds} : dAug i te dr E ρ st = (match ρ[i]? with
  | some (some x) => te ρ st (fun y st1 => dr x y st1 fun z st2 => E.nx (ρ.set i (some z)) st2) E.xs
  | _ => False) := rfl
@[simp] theorem s_walk_str {z : Str} {QI : List D → (Sto → Prop) → Prop} : walkD st (.str z) QI = QI (strItems z) fun _ => True := rfl
@[simp] theorem s_slv_str {z : Str} {l u : Option Int} : dSlV (.str z) l u st Q = (z.length ≤ sizeLine ∧ Q (.str (cutS z l u)) st) := rfl
@[simp] theorem s_tru_str {z : Str} {Qb : Bool → Prop} : truD st (.str z) Qb = (z.length ≤ sizeLine ∧ Qb ((z.length : Int) != 0)) := rfl
end
end DL
set_option maxHeartbeats 4000000
namespace L2
open PySem PySem.Spec PyProof.Rows
end L2
namespace DL
open PySem L2 PySem.Spec
open PyProof.Rows hiding St
class ErrCtx where
  A : Nat → Addr
def errA [EC : ErrCtx] (m : Nat) : Addr := EC.A m
def errX [EC : ErrCtx] (m : Nat) (fs : List (Str × D)) : DX := ⟨.ref (errA m), fs⟩
def spI1 (C : Addr) (f : Str) : Sp := fun vs H Q _ => ∃ (a : Addr) (y : V), vs = [.ref a, y] ∧ H a = some (exo a C none) ∧ ∀ dx, H dx = none → dx ≠ a → Q .non (upd (upd H dx (exd dx [(f, y)])) a (exo a C (some dx)))
/-- a statement within a class -/
def mthS (s : Stmt) (j : Nat) : Stmt := match s with
  | .ClassDef _ _ _ b _ _ _ _ _ _ _ => b.getD j (.Pass ⟨0, 0, 0, 0⟩)
  | _ => .Pass ⟨0, 0, 0, 0⟩
section
variable {P : Program} {w : World} {K : PySem.W.Frag} {mg : Str → Option Value} {base : Heap} {k : Nat} {s : Stmt} {f : Addr} {fd : FuncData} {qual fld : Str} {C : Addr}
theorem init1_ok {p1 p2 p3 p4 : Pos} (F : Fun K "__init__" qual s f fd) (S : FnScope ["self", fld] ["self", fld] (defScope s)) (hb : defBody s = [.Assign [.Attribute (.Name "self" p1) fld p2] (.Name fld p3) p4]) (T : OexC K C) (hno : PySem.W.findIn K (.ref C) fld = some none)
    (hd : (fld == ("__debug__" : Str)) = false) (hcd : (fld == ("__classdict__" : Str)) = false)
    (hv0 : Vis (defScope s) "self") (hv1 : Vis (defScope s) fld)
    (hs : ∀ env : Env, swapsWith (.Name fld p3) (some (.Attribute (.Name "self" p1) fld p2)) p4.line env = pure false) :
    FnOk P w K mg base (L2.CX P w) (k + 1) f fd ["self", fld] (spI1 C fld) := by
  refine F.okX S (fun vs H Q E h => by obtain ⟨a, y, rfl, _⟩ := h; rfl) (fun cdv A outer s0 H vs Q E hr h => ⟨tOst K fld (tVar 0) (tVar 1), ?_, ?_⟩)
  · rw [hb]
    exact pss_one (ps_ost (pe_var rfl hv0 (by decide) (by decide)) (pe_var rfl hv1 hd hcd) (hs _))
  · obtain ⟨a, y, rfl, ha, q⟩ := h
    refine ⟨y, rfl, .ref a, rfl, a, C, rfl, T, hno, .inl ⟨ha, q⟩⟩
end
/-- an error's class, made with one thing -/
structure Er1 [EC : ErrCtx] (P : Program) (w : World) (K : PySem.W.Frag) (mg : Str → Option Value) (base : Heap) (m : Nat) (x f : Str) : Prop where
  g : mg x = some (.ref (errA m))
  T : OexC K (errA m)
  i : ∃ fI fd, PySem.W.findIn K (.ref (errA m)) "__init__" = some (some (.ref fI)) ∧ PySem.W.typeIn K (.ref fI) = some (.type "function") ∧ FnOk P w K mg base (L2.CX P w) 1 fI fd ["self", f] (spI1 (errA m) f) ∧ Binds K fd ["self", f] []
section
variable [TC : TabCtx] [EC : ErrCtx] {X : Cx} {W : WX} {e : Expr} {es : List Expr} {te : DTE} {pos p pos2 : Pos} {x f : Str} {m k : Nat}
theorem passes0 {X : Cx} : Passes (L2.CX X.prog X.w) X (fun _ _ _ => False) := fun _ _ _ _ _ _ _ h => by
  obtain ⟨_, _, _, _, _, _, _, _, _, _, _, _, z⟩ := h
  exact z.elim
/-- raise X(e) -/
def dRaise1 (m : Nat) (f : Str) (te : DTE) : DTS := fun E ρ st => te ρ st (fun y st1 => E.xs (errX m [(f, y)]) ρ st1) E.xs
def dRaise0 (m : Nat) : DTS := fun E ρ st => E.xs (errX m []) ρ st
theorem ds_raise1 (hc : X.calm = true) (tk : Takes X W) (R : Er1 X.prog X.w X.K X.mg X.base m x f) (hr : Room k X.A) (hk : 2 ≤ k) (hg : Gl X x) (ha : DE X W e te)
    (hdb : (x == ("__debug__" : Str)) = false := by decide) (hs : starEach [e] X.env = (false, eval e X.env) :: starEach [] X.env := by rfl) (hpl : (backTo pos (starEach [] X.env)).any (·.1) = false := by rfl) :
    DS X W (.Raise (some (.Call (.Name x p) [e] [] pos)) none pos2) (dRaise1 m f te) := by
  obtain ⟨g, T, fI, fd, i1, i2, F, hb⟩ := R
  refine ps_weak (ps_raise hc tk (pmk_oex (ds := []) (dvs := []) T i1 i2 F (hr.mono hk) hb .nil passes0 hg g (da_cons ha da_nil hs) hdb hs hpl)) fun D σ H ⟨ρ, st, μ, DD, hS, ht, hO⟩ => ?_
  refine ⟨ρ, st, μ, fun ds st1 => ∃ y, ds = [y] ∧ DD.xs (errX m [(f, y)]) ρ st1, _, hS, ?_, fun ds st1 H1 μ1 vs hx e1 s1 rv => ?_, hO.xs⟩
  · show te ρ st _ _
    have : (fun x st1 => dNil ρ st1 (fun xs st2 => ∃ y, x :: xs = [y] ∧ DD.xs (errX m [(f, y)]) ρ st2) DD.xs) = fun y st1 => DD.xs (errX m [(f, y)]) ρ st1 := by
      funext y st1
      apply propext
      constructor
      · rintro ⟨z, e, h⟩
        cases e
        exact h
      · intro h
        exact ⟨y, rfl, h⟩
    rw [this]
    exact ht
  · obtain ⟨y, rfl, hx⟩ := hx
    obtain ⟨v, r, rfl, rv1, rfl⟩ := rv
    refine ⟨by show 1 ≤ 1000; decide, fun a ha => ⟨a, v, rfl, upd_same, fun dx hdx hne => ⟨rfl, dx, [(f, v)], upd_same, ?_, ?_, ?_⟩⟩⟩
    · rw [upd_ne hne, upd_same]
    · rw [upd_ne hne] at hdx
      exact hdx
    · rw [upd_ne hne] at hdx
      have eH : upd (del (upd (upd (upd H1 a (exo a (errA m) none)) dx (exd dx [(f, v)])) a (exo a (errA m) (some dx))) a) dx (.xd [(f, v)]) = upd H1 dx (.xd [(f, v)]) := by
        funext b
        by_cases hb : b = dx
        · rw [hb, upd_same, upd_same]
        · rw [upd_ne hb, upd_ne hb]
          by_cases hba : b = a
          · rw [hba, del_same, ha]
          · rw [del_ne hba, upd_ne hba, upd_ne hb, upd_ne hba]
      rw [eH]
      have e2 := Ext.laid (μ := μ1) (o := .xd [(f, v)]) hdx
      exact hO.xs _ _ _ σ _ μ1 _ _ hx (e1.trans e2) ⟨(hS.e.mono e1).mono e2, s1.laid hdx⟩ ⟨rfl, .inr ⟨dx, [(f, v)], rfl, upd_same, rfl, (Reps.one rv1).mono e2⟩⟩
end
/-- what a suite knows beside -/
abbrev tcx (TC : TabCtx) (d : Option Addr) (fs : List (Str × D)) : TabCtx := ⟨TC.T, match d with | some dd => (dd, fs) :: TC.xs | none => TC.xs⟩
def Caught [EC : ErrCtx] (ms : List Nat) (x : DX) : Prop := ∃ m ∈ ms, x.cls = .ref (errA m)
section
variable {TC : TabCtx} {K : PySem.W.Frag} {H : Hp} {μ : List Addr} {st : Sto} {d : Option Addr} {fs : List (Str × D)}
theorem SRep.drop (s : @SRep (tcx TC d fs) K st μ H) : @SRep TC K st μ H := by
  obtain ⟨h1, h2, h3, h4, h5⟩ := s
  refine @SRep.mk TC K st μ H h1 h2 h3 h4 fun p hp => h5 p ?_
  cases d with
  | none => exact hp
  | some dd => exact List.mem_cons_of_mem _ hp
theorem SRep.no_xd (s : @SRep TC K st μ H) {a : Addr} {gs : List (Str × V)} (h : H a = some (.xd gs)) : a ∉ μ := fun hm => by
  obtain ⟨n, b, o, _, _, ho, r⟩ := s.mem hm
  rw [h] at ho
  cases ho
  cases b with
  | lst ds => obtain ⟨vs, z, _⟩ := r; cases z
  | ins C fs => obtain ⟨dx, gs, z, _⟩ := r; cases z
  | dK fs => obtain ⟨gs, z, _⟩ := r; cases z
  | err e C d => have z : HO.xd _ = HO.ext _ := r; cases z
  | xdt dx fs => obtain ⟨gs, z, _⟩ := r; have z' : HO.xd _ = HO.ext _ := z; cases z'
  | dkF od fs => obtain ⟨gs, z, _⟩ := r; cases z
theorem SRep.hold (s : @SRep TC K st μ H) (h : ∀ dd, d = some dd → ∃ gs, H dd = some (.xd gs) ∧ OFs K H μ fs gs) : @SRep (tcx TC d fs) K st μ H := by
  have hno := fun (a : Addr) gs h => SRep.no_xd (a := a) (gs := gs) s h
  obtain ⟨h1, h2, h3, h4, h5⟩ := s
  refine @SRep.mk (tcx TC d fs) K st μ H h1 h2 h3 h4 fun p hp => ?_
  cases d with
  | none => exact h5 p hp
  | some dd =>
    rcases List.mem_cons.mp (show p ∈ (dd, fs) :: TC.xs from hp) with e | hp
    · obtain ⟨gs, e1, e2⟩ := h dd rfl
      rw [e]
      exact ⟨hno _ _ e1, gs, e1, e2⟩
    · exact h5 p hp
theorem OFs.lookup {fs : List (Str × D)} {gs : List (Str × V)} {n : Str} {y : D} : OFs K H μ fs gs → fs.lookup n = some y → ∃ v, gs.lookup n = some v ∧ Rep K H μ y v := by
  induction fs generalizing gs with
  | nil => intro _ h; cases h
  | cons p fs ih =>
    rintro ⟨h1, h2⟩ hl
    cases gs with
    | nil => cases h1
    | cons q gs =>
      obtain ⟨pn, pd⟩ := p
      obtain ⟨qn, qv⟩ := q
      simp only [List.map_cons, List.cons.injEq] at h1
      obtain ⟨v, r, e, r1, r2⟩ := h2
      simp only [List.map_cons, List.cons.injEq] at e
      obtain ⟨rfl, rfl⟩ := e
      obtain ⟨rfl, h1⟩ := h1
      by_cases e : n = pn
      · subst e
        simp [List.lookup] at hl ⊢
        subst hl
        exact r1
      · have e' : (n == pn) = false := by simpa using e
        simp only [List.lookup, e'] at hl ⊢
        exact ih ⟨h1, r2⟩ hl
end
section
variable [TC : TabCtx] [EC : ErrCtx] {X : Cx} {W : WX} {body suite : List Stmt} {b₀ : Stmt} {np pos pos' : Pos} {x n : Str} {i m : Nat} {ms : List Nat} {tb : DTS} {ts : Addr → DX → DTS}
/-- try: body, except C as n: suite -/
def dTryAs (ms : List Nat) (i : Nat) (tb : DTS) (ts : Addr → DX → DTS) : DTS := fun E ρ st => tb { E with xs := fun x ρ1 st1 => Caught ms x ∧ ∀ a, ts a x { nx := fun ρ2 st2 => E.nx (ρ2.set i none) st2, rt := E.rt, bk := fun ρ2 st2 => E.bk (ρ2.set i none) st2, ct := fun ρ2 st2 => E.ct (ρ2.set i none) st2 } (ρ1.set i (some (.adr a))) st1 } ρ st
/-- try: body, except C: suite -/
def dTryOnly (ms : List Nat) (tb : DTS) (ts : Addr → DX → DTS) : DTS := fun E ρ st => tb { E with xs := fun x ρ1 st1 => Caught ms x ∧ ∀ a, ts a x { nx := E.nx, rt := E.rt, bk := E.bk, ct := E.ct } ρ1 st1 } ρ st
theorem ds_try_as (hs : X.stack = X.env :: X.outer) (hf : X.env.frame = some X.env.locals) (hN : X.N.Nodup) (hi : X.N[i]? = some n) (hln : X.env.kindOf n = some .local) (hc : Names X x (.ref (errA m))) (tk : Takes X W)
    (hm : ∀ q ∈ ms, PySem.W.exmOne X.K (.ref (errA q)) (.ref (errA m)) = some true)
    (hb : ∀ (W : WX) (pn : List (Addr × Obj)) (xe : Value → Shared → Prop), Takes (X.tr pn xe) W → PassesOwn (model X.prog X.w) X.A X.env xe → DSs (X.tr pn xe) W body tb)
    (hsu : ∀ (TC' : TabCtx) (a : Addr) (oe : Obj) (x : DX) (d : Option Addr) (pn : List (Addr × Obj)), (∀ dd, d = some dd → (dd, x.fs) ∈ TC'.xs) → Zc x.cls d oe → (∃ vs, oe.data = .fields vs) → (d = none → x.fs = []) → @DSs TC' (X.suite a ((a, oe) :: pn)) W0 (b₀ :: suite) (ts a x)) :
    DS X W (.Try body [.ExceptHandler (some (.Name x np)) (some n) (b₀ :: suite) pos'] [] [] pos) (dTryAs ms i tb ts) := by
  refine ps_weak (ps_try_as (tb := fun W => liftS X.K W tb) (ts := fun a cls d D σ H => ∃ x : DX, cls = x.cls ∧ (d = none → x.fs = []) ∧ @liftS (tcx TC d x.fs) X.K W0 (ts a x) D σ H) (Wout := W) hs hf hN hi hln hc tk (fun W pn xe tk pw => hb W pn xe tk pw) fun a oe cls d pn hz hv => ?_) fun D σ H ⟨ρ, st, μ, DD, hS, ht, hO⟩ => ?_
  · exact ⟨fun pins s σ H D I ⟨x, ec, hd, h⟩ => (hsu (tcx TC d x.fs) a oe x d pn (fun dd e => by subst e; exact List.mem_cons_self) (ec ▸ hz) hv hd).run pins s σ H D I h⟩
  · refine ⟨ρ, st, μ, _, hS, ht, hO.nx, hO.rt, hO.bk, hO.ct, ?_⟩
    rintro x ρ1 st1 σ1 H1 μ1 c dx ⟨⟨q, hq, ec⟩, hx⟩ e1 hS1 ⟨rc, rx⟩
    refine ⟨true, by rw [rc, ec]; exact hm q hq, fun _ a ha => ⟨x, rc, ?_, ?_⟩, fun z => nomatch z⟩
    · intro hd
      rcases rx with ⟨_, h⟩ | ⟨dd, gs, h, _⟩
      · exact h
      · rw [hd] at h; cases h
    · have sh : @SRep (tcx TC dx x.fs) X.K st1 μ1 H1 := hS1.s.hold fun dd hd => by
        rcases rx with ⟨h, _⟩ | ⟨d2, gs, h, h1, h2⟩
        · rw [hd] at h; cases h
        · rw [hd] at h; cases h
          exact ⟨gs, h1, h2⟩
      have back : ∀ {st' : Sto} {H' : Hp} {μ' : List Addr} {ρ' : Env'} {σ' : St}, @Stt (tcx TC dx x.fs) X.K ρ' st' μ' σ' H' → Stt X.K (ρ'.set i none) st' μ' (σ'.set i none) H' := fun z => by
        obtain ⟨z1, z2⟩ := z
        exact ⟨z1.unset i, z2.drop⟩
      have hS2 : @Stt (tcx TC dx x.fs) X.K (ρ1.set i (some (.adr a))) st1 μ1 (σ1.set i (some (.ref a))) H1 := @Stt.mk (tcx TC dx x.fs) _ _ _ _ _ _ (hS1.e.set i (show Rep X.K H1 μ1 (.adr a) (.ref a) from rfl)) sh
      refine ⟨ρ1.set i (some (.adr a)), st1, μ1, _, hS2, hx a, @SOk.mk (tcx TC dx x.fs) _ _ _ _ _ _ ?_ ?_ ?_ ?_ (fun _ _ _ _ _ _ _ _ (z : False) => z.elim)⟩
      · exact fun ρ2 st2 σ2 H2 μ2 q e2 s2 => hO.nx _ _ _ _ _ q (e1.trans e2) (back s2)
      · exact fun y st2 H2 μ2 v q e2 s2 r => hO.rt _ _ _ _ _ q (e1.trans e2) s2.drop r
      · exact fun ρ2 st2 σ2 H2 μ2 q e2 s2 => hO.bk _ _ _ _ _ q (e1.trans e2) (back s2)
      · exact fun ρ2 st2 σ2 H2 μ2 q e2 s2 => hO.ct _ _ _ _ _ q (e1.trans e2) (back s2)
end
end DL
namespace L2
open PySem PySem.Spec PyProof.Rows
end L2
namespace DL
open PySem L2 PySem.Spec
open PyProof.Rows hiding St
theorem kit_own {K : PySem.W.Frag} {q x : Addr} {b : Bool} (hd : PySem.W.hasDictIn K x = true) (ht : PySem.W.typeIn K (.ref x) = some (.type "type")) (h0 : PySem.W.subIn K (.ref q) (.ref q) = some true) (hs : PySem.W.subIn K (.ref q) (.ref x) = some b) : PySem.W.kitOne K (.ref q) (.ref x) = some b := by
  obtain ⟨cd, hc, _⟩ := PySem.W.any_some hd
  unfold PySem.W.kitOne
  by_cases e : (Value.ref q == Value.ref x) = true
  · rw [if_pos e]
    have : q = x := Value.ref.inj (beq_iff_eq.mp e)
    subst this
    exact h0.symm.trans hs
  · rw [if_neg e]
    unfold PySem.W.kitCls
    dsimp only
    rw [if_pos (by rw [hc, ht]; rfl)]
    exact hs
/-- what is read of a held error -/
structure ErF [EC : ErrCtx] (K : PySem.W.Frag) (m : Nat) : Prop where
  xf : XfC K (errA m)
  ex : ExcC K (errA m)
section
variable [TC : TabCtx] [EC : ErrCtx] {X : Cx} {W : WX} {e c : Expr} {te : DTE} {pos p : Pos} {x n : Str} {m : Nat} {a : Addr} {oe : Obj} {xx : DX} {d : Option Addr} {pn : List (Addr × Obj)}
/-- e.f, e the exception held -/
def dXf (a : Addr) (x : DX) (m : Nat) (n : Str) (te : DTE) : DTE := fun ρ st Q Z => te ρ st (fun y st1 => y = .adr a ∧ x.cls = .ref (errA m) ∧ ∃ v, x.fs.lookup n = some v ∧ Q v st1) Z
theorem de_xf (hT : ∀ dd, d = some dd → (dd, xx.fs) ∈ TC.xs) (T : XfC X.K (errA m)) (hno : PySem.W.findIn X.K (.ref (errA m)) n = some none) (hz : Zc xx.cls d oe) (hf : ∃ vs, oe.data = .fields vs) (hd : d = none → xx.fs = []) (he : DE (X.suite a ((a, oe) :: pn)) W e te)
    (hb : attributeBase e n X.env (eval e X.env) = eval e X.env := by rfl) : DE (X.suite a ((a, oe) :: pn)) W (.Attribute e n pos) (dXf a xx m n te) :=
  pe_weak (pe_xf T hno hz hf he hb) fun σ H Q ⟨ρ, st, μ, Qd, Z, hS, ht, hQ, hZ⟩ => ⟨ρ, st, μ, _, Z, hS, ht, fun y st1 H1 μ1 v hx e1 s1 rv => by
    obtain ⟨rfl, ec, dv, hl, q⟩ := hx
    refine ⟨rv, ec, ?_⟩
    cases d with
    | none => rw [hd rfl] at hl; cases hl
    | some dd =>
      obtain ⟨h1, h2, h3, h4, h5⟩ := s1
      obtain ⟨hn, gs, eg, r⟩ := h5 (dd, xx.fs) (hT dd rfl)
      obtain ⟨w, hw, rw'⟩ := OFs.lookup r hl
      exact ⟨dd, gs, w, rfl, eg, hw, hQ _ _ _ _ _ q e1 ⟨h1, h2, h3, h4, h5⟩ rw'⟩, hZ⟩
/-- isinstance(e, c), e the exception held; tbl: its class, the answer -/
def dXi (a : Addr) (x : DX) (tbl : List (Nat × Bool)) (te : DTE) : DTE := fun ρ st Q Z => ∃ p ∈ tbl, x.cls = .ref (errA p.1) ∧ te ρ st (fun y st1 => y = .adr a ∧ Q (.bl p.2) st1) Z
end
section
variable [EC : ErrCtx] {st : Sto} {ρ : Env'} {Q : DK} {Z : DZ} {E : DEnds} {te : DTE} {tb : DTS} {ts : Addr → DX → DTS} {m i : Nat} {ms : List Nat} {f : Str} {a : Addr} {x : DX}
@[simp] theorem s_raise1 : dRaise1 m f te E ρ st = te ρ st (fun y st1 => E.xs (errX m [(f, y)]) ρ st1) E.xs := rfl
@[simp] theorem s_raise0 : dRaise0 m E ρ st = E.xs (errX m []) ρ st := rfl
@[simp] theorem s_tryAs : dTryAs ms i tb ts E ρ st = tb { E with xs := fun x ρ1 st1 => Caught ms x ∧ ∀ a, ts a x { nx := fun ρ2 st2 => E.nx (ρ2.set i none) st2, rt := E.rt, bk := fun ρ2 st2 => E.bk (ρ2.set i none) st2, ct := fun ρ2 st2 => E.ct (ρ2.set i none) st2 } (ρ1.set i (some (.adr a))) st1 } ρ st := rfl
@[simp] theorem s_tryOnly : dTryOnly ms tb ts E ρ st = tb { E with xs := fun x ρ1 st1 => Caught ms x ∧ ∀ a, ts a x { nx := E.nx, rt := E.rt, bk := E.bk, ct := E.ct } ρ1 st1 } ρ st := rfl
@[simp] theorem s_xf {n : Str} : dXf a x m n te ρ st Q Z = te ρ st (fun y st1 => y = .adr a ∧ x.cls = .ref (errA m) ∧ ∃ v, x.fs.lookup n = some v ∧ Q v st1) Z := rfl
@[simp] theorem s_xi {tbl : List (Nat × Bool)} : dXi a x tbl te ρ st Q Z = ∃ p ∈ tbl, x.cls = .ref (errA p.1) ∧ te ρ st (fun y st1 => y = .adr a ∧ Q (.bl p.2) st1) Z := rfl
@[simp] theorem errX_cls {fs : List (Str × D)} : (errX m fs).cls = .ref (errA m) := rfl
@[simp] theorem errX_fs {fs : List (Str × D)} : (errX m fs).fs = fs := rfl
theorem all_cons {α : Type} {P : α → Prop} {a : α} {as : List α} (h : P a) (hs : ∀ q ∈ as, P q) : ∀ q ∈ a :: as, P q := fun q hq => by
  rcases List.mem_cons.mp hq with e | hq
  · rw [e]; exact h
  · exact hs q hq
theorem caught {fs : List (Str × D)} (h : m ∈ ms) : Caught ms (errX m fs) := ⟨m, h, rfl⟩
end
end DL
namespace DL
open PySem L2 PySem.Spec
open PyProof.Rows hiding St
def putFD (f : Str) (v : D) : List (Str × D) → List (Str × D)
  | [] => [(f, v)]
  | (g, x) :: r => if g = f then (g, v) :: r else (g, x) :: putFD f v r
section
variable {K : PySem.W.Frag} {H : Hp} {μ : List Addr}
theorem ofs_nil : OFs K H μ [] [] := ⟨rfl, rfl⟩
theorem ofs_cons {p : Str × D} {fs : List (Str × D)} {gs : List (Str × V)} (h : OFs K H μ (p :: fs) gs) : ∃ v gs', gs = (p.1, v) :: gs' ∧ Rep K H μ p.2 v ∧ OFs K H μ fs gs' := by
  obtain ⟨h1, h2⟩ := h
  cases gs with
  | nil => cases h1
  | cons q gs =>
    simp only [List.map_cons, List.cons.injEq] at h1
    obtain ⟨v, r, e, r1, r2⟩ := h2
    simp only [List.map_cons, List.cons.injEq] at e
    obtain ⟨e1, e2⟩ := e
    subst e1 e2
    obtain ⟨qn, qv⟩ := q
    exact ⟨qv, gs, by rw [h1.1], r1, h1.2, r2⟩
theorem ofs_mk {p : Str × D} {fs : List (Str × D)} {gs : List (Str × V)} {v : V} (r : Rep K H μ p.2 v) (h : OFs K H μ fs gs) : OFs K H μ (p :: fs) ((p.1, v) :: gs) :=
  ⟨by simp [h.1], v, _, rfl, r, h.2⟩
theorem ofs_put {f : Str} {d : D} {v : V} (r : Rep K H μ d v) : ∀ {fs : List (Str × D)} {gs : List (Str × V)}, OFs K H μ fs gs → OFs K H μ (putFD f d fs) (putF f v gs)
  | [], gs, h => by
    obtain ⟨h1, h2⟩ := h
    cases gs with
    | nil => exact ofs_mk (p := (f, d)) r ofs_nil
    | cons q gs => cases h1
  | p :: fs, gs, h => by
    obtain ⟨w, gs', rfl, r1, h'⟩ := ofs_cons h
    obtain ⟨g, x⟩ := p
    unfold putFD putF
    by_cases e : g = f
    · simp only [e, if_true]
      exact ofs_mk (p := (f, d)) r h'
    · simp only [e, if_false]
      exact ofs_mk (p := (g, x)) r1 (ofs_put r h')
theorem ofs_len {fs : List (Str × D)} {gs : List (Str × V)} (h : OFs K H μ fs gs) : fs.length = gs.length := by
  have := congrArg List.length h.1
  simpa using this
end
/-- what is told of an own class -/
structure ClF [EC : ErrCtx] (K : PySem.W.Frag) (m : Nat) : Prop where
  c : Cls K (errA m)
  ha : PySem.W.findIn K (.ref (errA m)) "__class__" = some (some (.builtin "object.__class__"))
  hn : PySem.W.specialIn K (.builtin "object.__class__") "__get__" = some (some (.builtin "getset_descriptor.__get__"))
  ht : PySem.W.takesIn K (.builtin "object.__class__") = some true
  hm : PySem.W.mroIn K (errA m) (.type "object") = some true
  hi : PySem.W.isClsIn K (errA m) = true
  ty : PySem.W.typeIn K (.ref (errA m)) = some (.type "type")
/-- a method keeps its promise -/
def HasM [TC : TabCtx] [EC : ErrCtx] (P : Program) (w : World) (K : PySem.W.Frag) (mg : Str → Option Value) (base : Heap) (k : Nat) (m : Nat) (x : Str) (n : Nat) (dsp : DSp) : Prop :=
  ∃ f fd ps, FnOk P w K mg base (L2.CX P w) k f fd ps (liftSp K n dsp) ∧ Meth K (errA m) x f ∧ Binds K fd ps []
theorem HasM.mono [TC : TabCtx] [EC : ErrCtx] {P : Program} {w : World} {K : PySem.W.Frag} {mg : Str → Option Value} {base : Heap} {j k m : Nat} {x : Str} {n : Nat} {dsp : DSp} (h : HasM P w K mg base j m x n dsp) (hk : j ≤ k) : HasM P w K mg base k m x n dsp := by
  obtain ⟨f, fd, ps, F, r⟩ := h
  exact ⟨f, fd, ps, F.mono hk, r⟩
/-- where a method of the text stands -/
def MthIn [EC : ErrCtx] (K : PySem.W.Frag) (m : Nat) (x qual : Str) (s : Stmt) (ps : List Str) : Prop := ∃ f fd, Fun K x qual s f fd ∧ Meth K (errA m) x f ∧ Binds K fd ps []
section
variable [TC : TabCtx] [EC : ErrCtx] {P : Program} {w : World} {K : PySem.W.Frag} {mg : Str → Option Value} {base : Heap} {k n m : Nat} {x qual : Str} {s : Stmt} {N ps : List Str} {dsp : DSp}
theorem has_mkM (F : MthIn K m x qual s ps) (S : FnScope N ps (defScope s)) (hn : ps.length = n)
    (body : ∀ (f : Addr) (cdv : Value) (A : Around) (outer : List Env) (s0 : Shared) (H : Hp) (E : XK), Room k (A.deeper (envOfC qual (defScope s) s0.heap.objs.size f cdv)) →
      ∃ t, DSs (XDef P w K mg base N qual s f cdv A outer s0 H E) (WDef E) (defBody s) t ∧ ∀ ds st Q Z, ds.length = n → dsp ds st Q Z → t { nx := fun _ st' => Back st Q .non st', rt := Back st Q, xs := fun x _ st' => BackX st Z x st' } (startD N ds) st) :
    HasM P w K mg base (k + 1) m x n dsp := by
  obtain ⟨f, fd, F, hm, hb⟩ := F
  refine ⟨f, fd, ps, F.okX S (fun vs H Q E h => by rw [hn]; exact h.1) (fun cdv A outer s0 H vs Q E hr h => ?_), hm, hb⟩
  obtain ⟨t, ht, hd⟩ := body f cdv A outer s0 H E hr
  obtain ⟨hl, ds, st, μ, Qd, Z, r, sr, hsp, hQ, hZ⟩ := h
  refine ⟨_, ht, startD N ds, st, μ, _, ⟨start_rep N r, sr⟩, hd ds st Qd Z (by rw [r.length]; exact hl) hsp, ?_, Back.ok sr hQ, ?_, ?_, ?_⟩
  · exact fun ρ' st' σ' H' μ' q e s' => Back.ok sr hQ _ _ _ _ _ q e s'.s rfl
  · exact fun ρ' st' σ' H' μ' q e s' => q.elim
  · exact fun ρ' st' σ' H' μ' q e s' => q.elim
  · exact fun x' ρ' st' σ' H' μ' c dx q e s' r' => BackX.ok sr hZ _ _ _ _ _ _ q e s'.s r'
end
section
variable [TC : TabCtx] [EC : ErrCtx] {X : Cx} {W : WX} {e o : Expr} {es : List Expr} {te to : DTE} {t : DTA} {pos p pos2 : Pos} {x f : Str} {m k n : Nat} {dsp : DSp}
/-- o.f -/
def dFld (f : Str) (ms : List Nat) (te : DTE) : DTE := fun ρ st Q Z => te ρ st (fun y st1 => ∃ n m fs v, y = .loc n ∧ m ∈ ms ∧ st1[n]? = some (.ins (errA m) fs) ∧ fs.lookup f = some v ∧ Q v st1) Z
theorem de_fld {ms : List Nat} (C : ∀ m ∈ ms, ClF X.K m ∧ NoAttr X.K (errA m) f) (he : DE X W e te) (hb : attributeBase e f X.env (eval e X.env) = eval e X.env := by rfl) : DE X W (.Attribute e f pos) (dFld f ms te) :=
  pe_weak (pe_fld he hb) fun σ H Q ⟨ρ, st, μ, Qd, Z, hS, ht, hQ, hZ⟩ => ⟨ρ, st, μ, _, Z, hS, ht, fun y st1 H1 μ1 v hx e1 s1 rv => by
    obtain ⟨n, m, fs, w, rfl, hm, hn, hl, q⟩ := hx
    obtain ⟨a, rfl, ha⟩ := rv
    obtain ⟨a', ob, q1, q2, dx, gs, rfl, r⟩ := s1.at' _ _ hn
    rw [ha] at q1; cases q1
    obtain ⟨u, hu, ru⟩ := OFs.lookup r hl
    exact ⟨a, _, dx, gs, u, rfl, q2, (C m hm).1.c, (C m hm).2, hu, hQ _ _ _ _ _ q e1 s1 ru⟩, hZ⟩
/-- o.f = e -/
def dSetF (f : Str) (ms : List Nat) (to te : DTE) : DTS := fun E ρ st => te ρ st (fun y st1 => to ρ st1 (fun z st2 => ∃ n m fs, z = .loc n ∧ m ∈ ms ∧ st2[n]? = some (.ins (errA m) fs) ∧ fs.length < 1000 ∧ E.nx ρ (st2.set n (.ins (errA m) (putFD f y fs)))) E.xs) E.xs
theorem ds_setF {ms : List Nat} (C : ∀ m ∈ ms, ClF X.K m ∧ NoAttr X.K (errA m) f) (ho : DE X W o to) (he : DE X W e te) (hs : swapsWith e (some (.Attribute o f p)) pos.line X.env = pure false := by rfl) : DS X W (.Assign [.Attribute o f p] e pos) (dSetF f ms to te) :=
  ps_weak (ps_fld ho he hs) fun D σ H ⟨ρ, st, μ, DD, hS, ht, hO⟩ => ⟨ρ, st, μ, _, _, hS, ht, fun y st1 H1 μ1 v hx e1 s1 rv => ⟨ρ, st1, μ1, _, _, hS.mono e1 s1, hx, fun z st2 H2 μ2 w hz e2 s2 rw' => by
    obtain ⟨n, m, fs, rfl, hm, hn, hl, q⟩ := hz
    obtain ⟨a, rfl, ha⟩ := rw'
    obtain ⟨a', ob, q1, q2, dx, gs, rfl, r⟩ := s2.at' _ _ hn
    rw [ha] at q1; cases q1
    refine ⟨a, _, dx, gs, rfl, q2, (C m hm).1.c, (C m hm).2, by rw [← ofs_len r]; exact hl, ?_⟩
    obtain ⟨e3, s3⟩ := s2.write ha q2 (b := .ins (errA m) (putFD f y fs)) (o' := .ins (errA m) dx (putF f v gs)) ⟨dx, _, rfl, ofs_put (rv.mono e2) r⟩
    exact hO.nx _ _ _ _ _ q ((e1.trans e2).trans e3) ⟨hS.e.mono ((e1.trans e2).trans e3), s3⟩, hO.xs.mono e1⟩, hO.xs⟩
/-- C(e, ..) -/
def dMake (m : Nat) (n : Nat) (dsp : DSp) (t : DTA) : DTE := fun ρ st Q Z => t ρ st (fun ds st1 => ds.length + 1 = n ∧ dsp (.loc st1.length :: ds) (st1 ++ [.ins (errA m) []]) (fun v st2 => v = .non ∧ Q (.loc st1.length) st2) fun x st2 => Z x ρ st2) Z
structure MkF [EC : ErrCtx] (K : PySem.W.Frag) (mg : Str → Option Value) (m : Nat) (x : Str) : Prop where
  g : mg x = some (.ref (errA m))
  mks : PySem.W.makesIn K (errA m) = true
  kp : PySem.W.keepIn K (.ref (errA m)) = true
theorem PassesAt.all {E : XK} (h : ∀ σ, PassesAt (L2.CX X.prog X.w) X σ E) : Passes (L2.CX X.prog X.w) X E := fun pins σ H s e s' I c => h σ pins H s e s' I c
/-- C(e, ..), the exceptions of its __init__ wished for at the caller's slots -/
theorem run_makeS {CX : CXT} {fI C : Addr} {fd : FuncData} {ps : List Str} {sp : Sp} {E : XK} {pins : List (Addr × Obj)} {σ : St} {H : Hp} {s : Shared} {Q : VK} {us : List Value} {vs : List V} (M : Mk X.K C fI) (F : FnOk X.prog X.w X.K X.mg X.base CX k fI fd ps sp) (hr : Room (k + 1) X.A) (hb : Binds X.K fd ps [])
    (hx : PassesAt CX X σ E) (I : Inv X pins σ H s) (r : Vals vs us)
    (h : ∀ x dx, H x = none → H dx = none → dx ≠ x → sp (.ref x :: vs) (upd (upd H dx (.own x)) x (.ins C dx [])) (fun v H2 => v = .non ∧ Q (.ref x) H2) E) :
    wpAny (model X.prog X.w) X.A (call (.ref C) us) (EP X pins σ Q) X.xe s := by
  have hq := h (s.heap.objs.size + 1) s.heap.objs.size (I.hok.fresh (Nat.le_succ _)) (I.hok.fresh (Nat.le_refl _)) (Nat.ne_of_lt (Nat.lt_succ_self _))
  have I2 := Inv.made (C := C) I
  have r2 : Vals (V.ref (s.heap.objs.size + 1) :: vs) (Value.ref (s.heap.objs.size + 1) :: us) := .cons rfl r
  have hl : (Value.ref (s.heap.objs.size + 1) :: us ++ []).length = ps.length := by
    have e := r2.length
    rw [F.len _ _ _ _ hq] at e
    simpa using e.symm
  have hbd := hb _ (Value.ref (s.heap.objs.size + 1) :: us) I2.kIn hl
  rw [List.append_nil] at hbd
  refine wpAny_call (make_map (f := fI) I.kIn M.makes M.init (beq_iff_eq.mp M.fn) (codeAny_mono (F.run _ X.stack _ _ ⟨Value.ref (s.heap.objs.size + 1) :: us, []⟩ (Value.ref (s.heap.objs.size + 1) :: us) _ _ E (hr.make C us [])
    (I2.env0.make C us []) hbd r2 hq) fun r s' hq' => ?_))
  cases r with
  | error e => exact hx pins _ _ e s' I2 hq'
  | ok fl =>
    cases fl with
    | ret u =>
      obtain ⟨v, H', I3, rv, ev, q3⟩ := I2.after hq'
      subst ev
      exact ⟨rv, ⟨V.ref (s.heap.objs.size + 1), H', I3, rfl, q3⟩⟩
    | next => exact False.elim hq'
    | brk => exact False.elim hq'
    | cont => exact False.elim hq'
def tMakeS (C : Addr) (sp : Sp) (E : St → XK) (t : TA) : TE := fun σ H Q => t σ H fun vs H1 => ∀ x dx, H1 x = none → H1 dx = none → dx ≠ x →
  sp (.ref x :: vs) (upd (upd H1 dx (.own x)) x (.ins C dx [])) (fun v H2 => v = .non ∧ Q (.ref x) H2) (E σ)
theorem pe_makeS {CX : CXT} {fI C : Addr} {fd : FuncData} {ps : List Str} {sp : Sp} {E : St → XK} {ta : TA} (M : Mk X.K C fI) (F : FnOk X.prog X.w X.K X.mg X.base CX k fI fd ps sp) (hr : Room (k + 1) X.A) (hg : Gl X x) (hm : X.mg x = some (.ref C)) (hb : Binds X.K fd ps []) (hx : ∀ σ, PassesAt CX X σ (E σ))
    (ha : PA X (e :: es) ta) (hdb : (x == ("__debug__" : Str)) = false := by decide) (he : starEach (e :: es) X.env = (false, eval e X.env) :: starEach es X.env := by rfl) (hpl : (backTo pos (starEach es X.env)).any (·.1) = false := by rfl) :
    PE X (.Call (.Name x p) (e :: es) [] pos) (tMakeS C sp E ta) := by
  refine ⟨fun pins s σ H Q I h => ?_⟩
  refine wpAny_Call_Name_kw (ld_glob I hg hm ?_ hdb)
  refine PySem.W.callWith_K (h₀ := X.base) I.ok.mod.kin M.kp (thn (ha.run pos pins s σ H _ I h) fun us s1 ⟨vs, H1, I1, r, q⟩ => ⟨I1.kIn, ?_⟩) he hpl
  exact run_makeS M F hr hb (hx σ) I1 r q
theorem de_make (M : MkF X.K X.mg m x) (I : HasM X.prog X.w X.K X.mg X.base k m "__init__" n dsp) (hr : Room (k + 1) X.A) (hg : Gl X x) (hx : Pas X W) (ha : DA X W (e :: es) t)
    (hdb : (x == ("__debug__" : Str)) = false := by decide) (he : starEach (e :: es) X.env = (false, eval e X.env) :: starEach es X.env := by rfl) (hpl : (backTo pos (starEach es X.env)).any (·.1) = false := by rfl) :
    DE X W (.Call (.Name x p) (e :: es) [] pos) (dMake m n dsp t) := by
  obtain ⟨f, fd, ps, F, hm, hb⟩ := I
  refine pe_weak (pe_makeS ⟨M.mks, hm.at_, hm.fn, M.kp⟩ F hr hg M.g hb hx ha hdb he hpl) fun σ H Q ⟨ρ, st, μ, Qd, Z, hS, ht, hQ, hZ⟩ => ?_
  refine ⟨ρ, st, μ, _, Z, hS, ht, fun ds st1 H1 μ1 vs hx e1 s1 rv a dx ha hdx hne => ?_, hZ⟩
  obtain ⟨hl, hx⟩ := hx
  have ha' : upd H1 dx (.own a) a = none := by rw [upd_ne (Ne.symm hne)]; exact ha
  have e2 : Ext H1 (upd H1 dx (.own a)) μ1 μ1 := Ext.laid hdx
  have s2 : SRep X.K st1 μ1 (upd H1 dx (.own a)) := s1.laid hdx
  have e3 : Ext (upd H1 dx (.own a)) (upd (upd H1 dx (.own a)) a (.ins (errA m) dx [])) μ1 (μ1 ++ [a]) := Ext.push ha'
  have s3 : SRep X.K (st1 ++ [.ins (errA m) []]) (μ1 ++ [a]) (upd (upd H1 dx (.own a)) a (.ins (errA m) dx [])) := s2.push ha' ⟨dx, [], rfl, ofs_nil⟩
  have e := e2.trans e3
  refine ⟨?_, .loc st1.length :: ds, st1 ++ [.ins (errA m) []], μ1 ++ [a], fun v st2 => v = .non ∧ Qd (.loc st1.length) st2, fun x st2 => Z x ρ st2, ⟨.ref a, vs, rfl, ⟨a, rfl, by rw [s1.len]; exact getElem?_end _ _⟩, rv.mono e⟩, s3, hx, ?_, ?_⟩
  · simp only [List.length_cons, ← rv.length]
    exact hl
  · intro d st4 H4 μ4 v hd e4 s4 r4
    obtain ⟨hdn, hq⟩ := hd
    rw [hdn] at r4
    refine ⟨r4, hQ _ _ _ _ _ hq ((e1.trans e).trans e4) s4 ⟨a, rfl, ?_⟩⟩
    exact e4.pre _ _ (by rw [s1.len]; exact getElem?_end _ _)
  · exact XOk.of hS hZ (e1.trans e)
end
end DL
set_option maxHeartbeats 4000000
namespace L2
open PySem PySem.Spec PyProof.Rows
/-- what was just made is locked -/
theorem pe_frz {X : Cx} {e : Expr} {t : TE} (h : PE X e t) : PE X e (fun σ H Q => t σ H fun x H1 => ∃ d u, x = .ref d ∧ H1 d = some u ∧ Mut (some u) ∧ ∀ od, Q x (upd H1 d (.frz od u))) := by
  refine ⟨fun pins s σ H Q I hw => ?_⟩
  refine thn (h.run pins s σ _ _ I hw) fun v s1 ⟨x, H1, I2, r, d, u, ex, e2, mu, q⟩ => ?_
  obtain ⟨od, I3⟩ := I2.lock e2 mu
  exact ⟨x, _, I3, r, q od⟩
end L2
set_option maxHeartbeats 4000000
namespace L2
open PySem PySem.Spec PyProof.Rows
end L2
namespace DL
open PySem L2 PySem.Spec
open PyProof.Rows hiding St
/-- an exception in the store: at a, of class q, its fields -/
def ErrAt [EC : ErrCtx] (st : Sto) (a : Addr) (q : Nat) (fs : List (Str × D)) : Prop := ∃ (n : Nat) (d : Option Addr), st[n]? = some (.err a (errA q) d) ∧ ((d = none ∧ fs = []) ∨ ∃ (dd : Addr) (k : Nat), d = some dd ∧ st[k]? = some (.xdt dd fs))
section
variable [TC : TabCtx] [EC : ErrCtx] {X : Cx} {W : WX} {e c : Expr} {es : List Expr} {te ta tb : DTE} {tA : DTA} {pos p : Pos} {x f : Str} {m k : Nat}
/-- X(e), kept -/
def dMkE1 (m : Nat) (f : Str) (te : DTE) : DTE := fun ρ st Q Z => te ρ st (fun y st1 => ∀ a dx, Q (.adr a) (st1 ++ [.xdt dx [(f, y)], .err a (errA m) (some dx)])) Z
def dMkE0 (m : Nat) : DTE := fun _ st Q _ => ∀ a, Q (.adr a) (st ++ [.err a (errA m) none])
theorem ErrAt.get {K : PySem.W.Frag} {st : Sto} {μ : List Addr} {H : Hp} {a : Addr} {q : Nat} {fs : List (Str × D)} (h : ErrAt st a q fs) (s : SRep K st μ H) :
    ∃ b d, H b = some (exo a (errA q) d) ∧ ((d = none ∧ fs = []) ∨ ∃ dd qq gs, d = some dd ∧ H qq = some (exd dd gs) ∧ OFs K H μ fs gs) := by
  obtain ⟨n, d, h1, h2⟩ := h
  obtain ⟨b, o, e1, e2, r⟩ := s.at' _ _ h1
  rw [show o = exo a (errA q) d from r] at e2
  refine ⟨b, d, e2, ?_⟩
  rcases h2 with h2 | ⟨dd, k, e, h2⟩
  · exact .inl h2
  · obtain ⟨qq, o, e3, e4, gs, rfl, r⟩ := s.at' _ _ h2
    exact .inr ⟨dd, qq, gs, e, e4, r⟩
/-- isinstance(e, c), e an exception of the store -/
def dIsE (ms : List Nat) (g : Nat → Bool) (te : DTE) : DTE := fun ρ st Q Z => te ρ st (fun y st1 => ∃ a q fs, y = .adr a ∧ q ∈ ms ∧ ErrAt st1 a q fs ∧ Q (.bl (g q)) st1) Z
/-- e.f, e an exception of the store -/
def dErF (f : Str) (ms : List Nat) (te : DTE) : DTE := fun ρ st Q Z => te ρ st (fun y st1 => ∃ a q fs v, y = .adr a ∧ q ∈ ms ∧ ErrAt st1 a q fs ∧ fs.lookup f = some v ∧ Q v st1) Z
/-- a dict that is written once -/
def dFrz (te : DTE) : DTE := fun ρ st Q Z => te ρ st (fun y st1 => ∃ n kvs, y = .loc n ∧ st1[n]? = some (.dK kvs) ∧ ∀ od, Q (.loc n) (st1.set n (.dkF od kvs))) Z
theorem de_frz (he : DE X W e te) : DE X W e (dFrz te) := pe_weak (pe_frz he) fun σ H Q ⟨ρ, st, μ, Qd, Z, hS, ht, hQ, hZ⟩ => ⟨ρ, st, μ, _, Z, hS, ht, fun y st1 H1 μ1 v hx e1 s1 rv => by
  obtain ⟨n, kvs, rfl, hn, q⟩ := hx
  obtain ⟨a, rfl, ha⟩ := rv
  obtain ⟨a', o, q1, q2, gs, rfl, r⟩ := s1.at' _ _ hn
  rw [ha] at q1; cases q1
  refine ⟨a, _, rfl, q2, trivial, fun od => ?_⟩
  obtain ⟨e2, s2⟩ := s1.write (o' := .frz od (.dK gs)) (b := .dkF od kvs) ha q2 ⟨gs, rfl, r⟩
  exact hQ _ _ _ _ _ (q od) (e1.trans e2) s2 ⟨a, rfl, ha⟩, hZ⟩
/-- d[k] of it -/
def dDGetF (td ti : DTE) : DTE := fun ρ st Q Z => td ρ st (fun x st1 => ti ρ st1 (fun y st2 => ∃ n od kvs k v, x = .loc n ∧ st2[n]? = some (.dkF od kvs) ∧ keyD y = some k ∧ valD kvs k = some v ∧ Q v st2) Z) Z
/-- its keys -/
def dKeyD : Key → D
  | .inl i => .int i
  | .inr x => .str x
def iKF (te : DTE) : DTI := fun ρ st Q Z => te ρ st (fun x st1 => ∃ n od kvs, x = .loc n ∧ st1[n]? = some (.dkF od kvs) ∧ Q (kvs.map fun p => dKeyD p.1) (fun _ => True) st1) Z
theorem di_keysF {tg : Expr} (h : DE X W e te) : DI X W tg e (iKF te) := pi_weak (pi_keys h) fun σ H R ⟨ρ, st, μ, Qd, Z, hS, ht, hZ, hk⟩ =>
  ⟨ρ, st, μ, _, Z, hS, ht, fun x st1 H1 μ1 v hx e1 s1 rv => by
    obtain ⟨n, od, kvs, rfl, hn, q⟩ := hx
    obtain ⟨a, rfl, ha⟩ := rv
    obtain ⟨a', ob, q1, q2, gs, rfl, okv⟩ := s1.at' _ _ hn
    rw [ha] at q1; cases q1
    refine ⟨a, od, rfl, .inl ⟨gs, q2, hk _ _ _ _ _ _ q e1 s1 ?_⟩⟩
    refine ⟨fun i H2 μ2 st2 d x s _ e => ?_, fun H2 μ2 st2 x s _ => ⟨x.frz _ _ _ q2, by rw [List.length_map, okv_len okv]; exact Nat.le_refl _⟩⟩
    have hi : i < kvs.length := by
      have := (List.getElem?_eq_some_iff.mp e).1
      simpa using this
    have hi2 : i < gs.length := by rw [← okv_len okv]; exact hi
    refine ⟨⟨x.frz _ _ _ q2, hi2⟩, fun y H3 hy => ?_⟩
    obtain ⟨rfl, k, v, hkv, rfl⟩ := hy
    refine ⟨Ext.refl _ _, s, ?_, fun _ _ h => h⟩
    have hk1 : (kvs.map (·.1))[i]? = (gs.map (·.1))[i]? := by rw [okv.1]
    rw [List.getElem?_map, List.getElem?_map, hkv] at hk1
    rw [List.getElem?_map] at e
    cases hh : kvs[i]? with
    | none => rw [hh] at e; cases e
    | some p =>
      rw [hh] at e hk1
      simp only [Option.map_some, Option.some.injEq] at e hk1
      subst e
      rw [hk1]
      cases k <;> rfl, hZ⟩
/-- isinstance(e, C), e an instance of C -/
def dIsC1 (m : Nat) (te : DTE) : DTE := fun ρ st Q Z => te ρ st (fun y st1 => ∃ n fs, y = .loc n ∧ st1[n]? = some (.ins (errA m) fs) ∧ Q (.bl true) st1) Z
end
section
variable [EC : ErrCtx] {st : Sto} {ρ : Env'} {Q : DK} {Z : DZ} {E : DEnds} {te td ti : DTE} {m n : Nat} {ms : List Nat} {f : Str} {x y : D} {g : Nat → Bool}
@[simp] theorem s_mkE1 : dMkE1 m f te ρ st Q Z = te ρ st (fun y st1 => ∀ a dx, Q (.adr a) (st1 ++ [.xdt dx [(f, y)], .err a (errA m) (some dx)])) Z := rfl
@[simp] theorem s_mkE0 : dMkE0 m ρ st Q Z = ∀ a, Q (.adr a) (st ++ [.err a (errA m) none]) := rfl
@[simp] theorem s_isE : dIsE ms g te ρ st Q Z = te ρ st (fun y st1 => ∃ a q fs, y = .adr a ∧ q ∈ ms ∧ ErrAt st1 a q fs ∧ Q (.bl (g q)) st1) Z := rfl
@[simp] theorem s_erF : dErF f ms te ρ st Q Z = te ρ st (fun y st1 => ∃ a q fs v, y = .adr a ∧ q ∈ ms ∧ ErrAt st1 a q fs ∧ fs.lookup f = some v ∧ Q v st1) Z := rfl
omit [EC : ErrCtx] in
@[simp] theorem s_frz : dFrz te ρ st Q Z = te ρ st (fun y st1 => ∃ n kvs, y = .loc n ∧ st1[n]? = some (.dK kvs) ∧ ∀ od, Q (.loc n) (st1.set n (.dkF od kvs))) Z := rfl
omit [EC : ErrCtx] in
@[simp] theorem s_dgetF : dDGetF td ti ρ st Q Z = td ρ st (fun x st1 => ti ρ st1 (fun y st2 => ∃ n od kvs k v, x = .loc n ∧ st2[n]? = some (.dkF od kvs) ∧ keyD y = some k ∧ valD kvs k = some v ∧ Q v st2) Z) Z := rfl
omit [EC : ErrCtx] in
@[simp] theorem s_iKF {QI : List D → (Sto → Prop) → Sto → Prop} : iKF te ρ st QI Z = te ρ st (fun x st1 => ∃ n od kvs, x = .loc n ∧ st1[n]? = some (.dkF od kvs) ∧ QI (kvs.map fun p => dKeyD p.1) (fun _ => True) st1) Z := rfl
@[simp] theorem s_isC1 : dIsC1 m te ρ st Q Z = te ρ st (fun y st1 => ∃ n fs, y = .loc n ∧ st1[n]? = some (.ins (errA m) fs) ∧ Q (.bl true) st1) Z := rfl
@[simp] theorem s_fld {ms : List Nat} : dFld f ms te ρ st Q Z = te ρ st (fun y st1 => ∃ n m fs v, y = .loc n ∧ m ∈ ms ∧ st1[n]? = some (.ins (errA m) fs) ∧ fs.lookup f = some v ∧ Q v st1) Z := rfl
end
end DL
namespace DL
open PySem L2 PySem.Spec
open PyProof.Rows hiding St
end DL
set_option maxHeartbeats 4000000
namespace DL
open PySem L2 PySem.Spec
open PyProof.Rows hiding St
variable [TC : TabCtx]
section
variable [EC : ErrCtx] {X : Cx} {W : WX} {e c : Expr} {te : DTE} {pos p p2 : Pos} {x : Str} {m : Nat}
/-- isinstance(e, C), C an own class -/
def dIsC (ms : List Nat) (m : Nat) (te : DTE) : DTE := fun ρ st Q Z => te ρ st (fun y st1 => (∃ a, tyN st1 y = some a ∧ Q (.bl false) st1) ∨ ∃ n q fs, y = .loc n ∧ q ∈ ms ∧ st1[n]? = some (.ins (errA q) fs) ∧ Q (.bl (q == m)) st1) Z
theorem de_isC {ms : List Nat} (hB : ∀ a ∈ ["NoneType", "bool", "int", "str", "tuple", "list", "dict"], PySem.W.kitOne X.K (.type a) (.ref (errA m)) = some false) (hC : ∀ q ∈ ms, ClF X.K q ∧ PySem.W.kitOne X.K (.ref (errA q)) (.ref (errA m)) = some (q == m))
    (hg : Gl X "isinstance") (hm : X.mg "isinstance" = none) (hgx : Gl X x) (hmx : X.mg x = some (.ref (errA m))) (ha : DE X W e te)
    (hdb : (x == ("__debug__" : Str)) = false := by decide)
    (hs1 : starEach [e, .Name x p] X.env = (false, eval e X.env) :: starEach [.Name x p] X.env := by rfl) (hs2 : starEach [.Name x p] X.env = (false, eval (.Name x p) X.env) :: starEach [] X.env := by rfl) (hpl : (backTo pos (starEach [.Name x p] X.env)).any (·.1) = false := by rfl) :
    DE X W (.Call (.Name "isinstance" p2) [e, .Name x p] [] pos) (dIsC ms m te) :=
  pe_weak (pe_callB call_isi hg hm PyProof.Rows.boot_isinstance (pa_cons ha (pa_cons (pe_glob hgx hmx (show RelV (.ref (errA m)) (.ref (errA m)) from rfl) hdb) pa_nil hs2) hs1) (by decide) (by decide) hs1 hpl) fun σ H Q ⟨ρ, st, μ, Qd, Z, hS, ht, hQ, hZ⟩ =>
    ⟨ρ, st, μ, _, Z, hS, ht, fun y st1 H1 μ1 v hx e1 s1 rv => by
      rcases hx with ⟨a, hy, q⟩ | ⟨n, q, fs, rfl, hq, hn, qq⟩
      · exact ⟨v, .ref (errA m), .type a, .ref (errA m), false, rfl, .own _, tyN_ok s1 rv hy, hB a (tyN_mem hy), hQ _ _ _ _ _ q e1 s1 rfl⟩
      · obtain ⟨a, rfl, ha⟩ := rv
        obtain ⟨a', o, q1, q2, dx, gs, rfl, r⟩ := s1.at' _ _ hn
        rw [ha] at q1; cases q1
        obtain ⟨F, hk⟩ := hC q hq
        exact ⟨.ref a, .ref (errA m), .ref (errA q), .ref (errA m), q == m, rfl, .own _, .base (.ins q2 F.c F.ha F.hn F.ht F.hm), hk, hQ _ _ _ _ _ qq e1 s1 rfl⟩, hZ⟩
end
end DL
set_option maxHeartbeats 4000000
namespace L2
open PySem PySem.Spec PyProof.Rows
end L2
namespace DL
open PySem L2 PySem.Spec
open PyProof.Rows hiding St
variable [TC : TabCtx]
def dRemP : DM := fun x ds st Q => match x, ds with
  | .str a, [.str b] => a.length ≤ sizeLine ∧ Q (.str (Txt.removeprefix a b)) st
  | _, _ => False
def dFind : DM := fun x ds st Q => match x, ds with
  | .str a, [.str b] => Q (.int (Txt.find a b)) st
  | _, _ => False
def dStar (te : DTE) (t : DTA) : DTA := fun ρ st Q Z => te ρ st (fun x st1 => ∃ xs, itemsD st1 x = some xs ∧ t ρ st1 (fun ys st2 => Q (xs ++ ys) st2) Z) Z
theorem da_star {X : Cx} {W : WX} {e : Expr} {es : List Expr} {te : DTE} {t : DTA} {p : Pos} (he : DE X W e te) (hr : DA X W es t) (hs : starEach (.Starred e p :: es) X.env = (true, eval e X.env) :: starEach es X.env := by rfl) : DA X W (.Starred e p :: es) (dStar te t) :=
  pa_weak (StX.pa_star he hr hs) fun σ H Q ⟨ρ, st, μ, Qd, Z, hS, ht, hQ, hZ⟩ => by
    refine ⟨ρ, st, μ, _, Z, hS, ht, fun x st1 H1 μ1 v hx e1 s1 rv => ?_, hZ⟩
    obtain ⟨xs, hi, q⟩ := hx
    obtain ⟨a, vs, rfl, hsq, hv⟩ := items_ok s1 rv hi
    exact ⟨a, vs, rfl, hsq.symm, ρ, st1, μ1, _, Z, hS.mono e1 s1, q, fun ys st2 H2 μ2 us hy e2 s2 ru => hQ _ _ _ _ _ hy (e1.trans e2) s2 ((hv.mono e2).append ru), hZ.mono e1⟩
end DL
namespace DL
open PySem L2 PySem.Spec
open PyProof.Rows hiding St
section
variable {st : Sto} {ρ : Env'} {Q : DK} {Z : DZ} {te : DTE} {t : DTA} {QA : List D → Sto → Prop} {a b : Str} {n : Nat}
@[simp] theorem s_star : dStar te t ρ st QA Z = te ρ st (fun x st1 => ∃ xs, itemsD st1 x = some xs ∧ t ρ st1 (fun ys st2 => QA (xs ++ ys) st2) Z) Z := rfl
@[simp] theorem s_remP : dRemP (.str a) [.str b] st Q = (a.length ≤ sizeLine ∧ Q (.str (Txt.removeprefix a b)) st) := rfl
@[simp] theorem s_find : dFind (.str a) [.str b] st Q = Q (.int (Txt.find a b)) st := rfl
@[simp] theorem s_pop : dPop (.loc n) [] st Q = ∃ es d, st[n]? = some (.lst es) ∧ es[es.length - 1]? = some d ∧ Q d (st.set n (.lst es.dropLast)) := rfl
end
end DL
namespace DL
open PySem L2 PySem.Spec
/-- a thing of a built-in type is no instance of an own class -/
theorem kit_ty {K : PySem.W.Frag} {x : Addr} (hd : PySem.W.hasDictIn K x = true) (ht : PySem.W.typeIn K (.ref x) = some (.type "type")) : ∀ a ∈ ["NoneType", "bool", "int", "str", "tuple", "list", "dict"], PySem.W.kitOne K (.type a) (.ref x) = some false := by
  intro a ha
  obtain ⟨cd, hc, _⟩ := PySem.W.any_some hd
  unfold PySem.W.kitOne
  rw [if_neg (by simp)]
  unfold PySem.W.kitCls
  dsimp only
  rw [if_pos (by rw [hc, ht]; rfl)]
  have e : ∀ a ∈ ["NoneType", "bool", "int", "str", "tuple", "list", "dict"], ∃ l, fastBuiltinMro a = some l ∧ ∀ z ∈ l, ∃ n, z = .type n := by
    intro a ha
    simp only [List.mem_cons, List.not_mem_nil, or_false] at ha
    rcases ha with rfl | rfl | rfl | rfl | rfl | rfl | rfl
    · exact ⟨[.type "NoneType", .type "object"], by decide +kernel, by simp⟩
    · exact ⟨[.type "bool", .type "int", .type "object"], by decide +kernel, by simp⟩
    · exact ⟨[.type "int", .type "object"], by decide +kernel, by simp⟩
    · exact ⟨[.type "str", .type "object"], by decide +kernel, by simp⟩
    · exact ⟨[.type "tuple", .type "object"], by decide +kernel, by simp⟩
    · exact ⟨[.type "list", .type "object"], by decide +kernel, by simp⟩
    · exact ⟨[.type "dict", .type "object"], by decide +kernel, by simp⟩
  obtain ⟨l, h1, h2⟩ := e a ha
  have h3 : PySem.W.subIn K (.type a) (.ref x) = some false := by
    show (fastBuiltinMro a).map (·.contains (.ref x)) = some false
    rw [h1]
    simp only [Option.map_some, Option.some.injEq]
    rw [Bool.eq_false_iff]
    intro hc
    obtain ⟨n, e⟩ := h2 _ (List.contains_iff_mem.mp hc)
    cases e
  exact h3
end DL
set_option maxHeartbeats 4000000
namespace TxS
open PySem PySem.Spec PyProof.Rows L2
/-- the text of a row -/
def txt (e : Int × Value) : Str := match e.2 with
  | .str x _ => x
  | _ => Str.empty
def Row (P : Program) (w : World) (e : Int × Value) : Prop := ∃ x tk, e.2 = Value.str x tk ∧ e.1 = (PySem.strKind P w).hash x
/-- the set at a holds the texts L -/
structure Tx (P : Program) (w : World) (h : Heap) (a : Addr) (L : List Str) : Prop where
  ex : ∃ (o : Obj) (rows : Array (Int × Value)) (ep : Nat) (tab : SetTable), h.get? a = some o ∧ o.ExactSet ∧ o.data = .set rows ep tab ∧ (∀ e ∈ rows.toList, Row P w e) ∧ (rows.toList.map txt).Perm L ∧ L.Nodup ∧
    rows.size < scanBound ∧ tab.fits rows.size = true ∧ Ris tab.place.toList ∧ (w.params.followText "set-order" = true ∨ tab.led = true)
section
variable {P : Program} {w : World} {h h' : Heap} {a : Addr} {L : List Str}
theorem Tx.at (R : Tx P w h a L) (k : ∀ o, h.get? a = some o → h'.get? a = some o) : Tx P w h' a L := by
  obtain ⟨o, rows, ep, tab, ho, r⟩ := R.ex
  exact ⟨o, rows, ep, tab, k o ho, r⟩
theorem row_is {e : Int × Value} (g : Row P w e) (x : Str) : (PySem.strKind P w).is x e.2 = true ↔ txt e = x := by
  obtain ⟨y, tk, h1, _⟩ := g
  unfold txt
  rw [h1]
  show Value.isStrOf x (.str y tk) = true ↔ y = x
  simp [Value.isStrOf]
theorem rows_of {l : List (Int × Value)} (g : ∀ e ∈ l, Row P w e) : ElemsOf (PySem.strKind P w) l := fun e he => by
  obtain ⟨y, tk, h1, h2⟩ := g e he
  exact ⟨⟨y, by rw [h1]; exact strKind_is P w y tk, h2⟩, by rw [h1]; rfl⟩
theorem rows_mem {l : List (Int × Value)} (g : ∀ e ∈ l, Row P w e) (x : Str) : x ∈ l.map txt ↔ ∃ e ∈ l, (PySem.strKind P w).is x e.2 = true := by
  rw [List.mem_map]
  exact ⟨fun ⟨e, he, q⟩ => ⟨e, he, (row_is (g e he) x).2 q⟩, fun ⟨e, he, q⟩ => ⟨e, he, (row_is (g e he) x).1 q⟩⟩
theorem Tx.none {o : Obj} (ho : h.get? a = some o) (hx : o.ExactSet) (hd : o.data = .set #[] 0 (.fresh 0 0 (!w.params.followText "set-order"))) : Tx P w h a [] :=
  ⟨o, #[], 0, _, ho, hx, hd, fun e he => by simp at he, by simp, List.nodup_nil, by unfold scanBound; simp, by generalize (!w.params.followText "set-order") = b; cases b <;> rfl, by simp [SetTable.fresh, Ris], by
    cases hq : w.params.followText "set-order"
    · exact .inr rfl
    · exact .inl rfl⟩
end
section
variable {P : Program} {w : World} {A : Around} {E : Value → Shared → Prop} {s : Shared} {a : Addr} {L : List Str}
/-- what a text leaves: the rows with it, laid, perhaps all laid anew -/
theorem stored {say : Bool → Sem Unit} (hsay : ∀ (b : Bool) (s₁ : Shared) (Q' : Unit → Shared → Prop), Q' () s₁ → wpAny (model P w) A (say b) Q' E s₁)
    {o : Obj} {rows : Array (Int × Value)} {ep : Nat} {tab : SetTable} (ho : s.heap.get? a = some o) (hex : o.ExactSet) (hd : o.data = .set rows ep tab)
    {rows1 : Array (Int × Value)} {tab2 : SetTable} {M : List Str} (g1 : ∀ e ∈ rows1.toList, Row P w e) (p1 : (rows1.toList.map txt).Perm M) (nd : M.Nodup)
    (hb1 : rows1.size < scanBound) (hf2 : tab2.fits rows1.size = true) (hr2 : Ris tab2.place.toList) (hl2 : w.params.followText "set-order" = true ∨ tab2.led = true) {wasDummy : Bool} {R : Option Bool → Shared → Prop}
    (hR : ∀ h', Heap.SameBut a s.heap h' → Tx P w h' a M → R (some true) { s with heap := h' }) :
    wpAny (model P w) A (do
        storeSet a rows1 tab2
        if (!wasDummy && tab2.tooFull) = true then do
            say (relayAll tab2 rows1 (SetTable.grown rows1.size)).2.2
            storeSet a (relayAll tab2 rows1 (SetTable.grown rows1.size)).1 (relayAll tab2 rows1 (SetTable.grown rows1.size)).2.1
            pure (some true)
          else pure (some true)) R E s := by
  refine wpAny_bind (wpAny_storeSet_of ho hd ?_ (fits_of_scanBound hb1))
  have at1 := store_at (es' := rows1) (t' := tab2) ho hd
  have same1 := Heap.SameBut.update s.heap a (Obj.putSet rows1 tab2)
  split
  · have z1 := relayAll_perm tab2 rows1 (SetTable.grown rows1.size)
    have z2 := relayAll_fits tab2 rows1 (SetTable.grown rows1.size)
    have z3 := relayAll_ris tab2 rows1 (SetTable.grown rows1.size)
    have z4 := relayAll_led tab2 rows1 (SetTable.grown rows1.size)
    generalize relayAll tab2 rows1 (SetTable.grown rows1.size) = Y at z1 z2 z3 z4 ⊢
    obtain ⟨rows2, tab3, gave⟩ := Y
    dsimp only at z1 z2 z3 z4 ⊢
    have hsz : rows2.size = rows1.size := by rw [← Array.length_toList, z1.length_eq, Array.length_toList]
    refine wpAny_bind (hsay _ _ _ (wpAny_bind (wpAny_storeSet_of at1 rfl ?_ (fits_of_scanBound (by rw [hsz]; exact hb1)))))
    refine wpAny_pure (hR _ (same1.trans (Heap.SameBut.update _ a _)) ⟨_, rows2, _, tab3, store_at (es' := rows2) (t' := tab3) at1 rfl, hex, rfl, fun e he => g1 e (z1.mem_iff.mp he), (z1.map txt).trans p1, nd, by rw [hsz]; exact hb1, z2, z3, hl2.imp id fun z => by rw [z4]; exact z⟩)
  · exact wpAny_pure (hR _ same1 ⟨_, rows1, _, tab2, at1, hex, rfl, g1, p1, nd, hb1, hf2, hr2, hl2⟩)
/-- one more text -/
theorem added {x : Str} {tk : Tok} {Q : Bool → Shared → Prop} (R : Tx P w s.heap a L) (room : L.length + 1 < scanBound)
    (hQ : ∀ h' b, Heap.SameBut a s.heap h' → Tx P w h' a (if x ∈ L then L else x :: L) → Q b { s with heap := h' }) :
    wpAny (model P w) A (setAddHashed a (.str x tk) ((PySem.strKind P w).hash x)) Q E s := by
  obtain ⟨o, rows, ep, tab, ho, hex, hd, g, pm, nd, hb, hf, hr, hl⟩ := R.ex
  have hkey : (PySem.strKind P w).is x (.str x tk) = true := strKind_is P w x tk
  have hscan : (Value.str x tk).scannable = true := rfl
  have hel : ElemsOf (PySem.strKind P w) rows.toList := rows_of g
  unfold setAddHashed setAddHashedIn
  refine wpAny_holding (wpAny_bind (wpAny_setState_of ho hd hf ?_))
  dsimp only
  rw [byScan_of hscan hb hel]
  simp only [↓reduceIte]
  unfold setAddByScan
  refine wpAny_bind (wpAny_bind (wpAny_rule (wpAny_bind (wpAny_setScan_of hkey ho hd hf hel ?_))))
  cases hfi : List.findIdx? (fun e => (PySem.strKind P w).is x e.2) rows.toList with
  | some j =>
    dsimp only
    obtain ⟨hj, pj, _⟩ := List.findIdx?_eq_some_iff_getElem.mp hfi
    have hin : x ∈ L := pm.mem_iff.mp ((rows_mem g x).2 ⟨rows.toList[j], List.getElem_mem hj, pj⟩)
    exact wpAny_pure (wpAny_pure (hQ s.heap false (Heap.SameBut.refl a s.heap) (by rw [if_pos hin]; exact R)))
  | none =>
    dsimp only
    have hno : x ∉ L := fun z => by
      obtain ⟨e, he, q⟩ := (rows_mem g x).1 (pm.mem_iff.mpr z)
      have := List.findIdx?_eq_none_iff.mp hfi e he
      rw [q] at this
      cases this
    have told : ∀ (b : Bool) {s₁ : Shared} {Q' : Unit → Shared → Prop}, Q' () s₁ → wpAny (model P w) A (match b with | true => rule "set.scan.the-table-gave-way" | false => pure ()) Q' E s₁ :=
      fun b s₁ Q' q => match b with
        | true => wpAny_rule q
        | false => wpAny_pure q
    have z1 := layNew_perm tab rows ((PySem.strKind P w).hash x) (.str x tk)
    have z2 := layNew_fits tab rows ((PySem.strKind P w).hash x) (.str x tk)
    have z3 := layNew_ris tab rows ((PySem.strKind P w).hash x) (.str x tk) hr
    have z4 := layNew_led tab rows ((PySem.strKind P w).hash x) (.str x tk)
    generalize layNew tab rows ((PySem.strKind P w).hash x) (.str x tk) = Y at z1 z2 z3 z4 ⊢
    obtain ⟨rows1, tab1, wasDummy, gave⟩ := Y
    dsimp only at z1 z2 z3 z4 ⊢
    rw [Array.toList_push] at z1
    have pc : rows1.toList.Perm (((PySem.strKind P w).hash x, Value.str x tk) :: rows.toList) := z1.trans (List.perm_append_singleton _ _)
    have p1 : (rows1.toList.map txt).Perm (x :: L) := (pc.map txt).trans (pm.cons x)
    have g1 : ∀ e ∈ rows1.toList, Row P w e := fun e he => by
      rcases List.mem_cons.mp (pc.mem_iff.mp he) with z | z
      · rw [z]; exact ⟨x, tk, rfl, rfl⟩
      · exact g e z
    have nd1 : (x :: L).Nodup := List.nodup_cons.mpr ⟨hno, nd⟩
    have hsz : rows1.size = L.length + 1 := by
      have e1 := p1.length_eq
      rw [List.length_map, Array.length_toList] at e1
      exact e1
    have hb1 : rows1.size < scanBound := by rw [hsz]; exact room
    have led1 : w.params.followText "set-order" = true ∨ tab1.led = true := hl.imp id fun z => by rw [z4]; exact z
    have fin : ∀ h', Heap.SameBut a s.heap h' → Tx P w h' a (x :: L) → Q true { s with heap := h' } := fun h' sb r => hQ h' true sb (by rw [if_neg hno]; exact r)
    refine wpAny_bind (told _ ?_)
    split
    · refine wpAny_bind ?_
      rw [hashByValue_scannable 8 hscan]
      refine wpAny_pure (stored ?_ ho hex hd g1 p1 nd1 hb1 ?_ ?_ ?_ ?_)
      · exact fun b s₁ Q' q => told b q
      · first | (split <;> first | exact z2 | exact SetTable.fits_plain_off z2) | exact z2
      · first | (split <;> exact z3) | exact z3
      · first | (split <;> exact led1) | exact led1
      · exact fun h' sb r => wpAny_pure (fin h' sb r)
    · refine wpAny_bind (wpAny_pure ?_)
      simp only [↓reduceIte]
      exact stored (fun b s₁ Q' q => told b q) ho hex hd g1 p1 nd1 hb1 z2 z3 led1 fun h' sb r => wpAny_pure (fin h' sb r)
end
section
variable {prog : Program} {w : World} {A : Around} {R : Result → Shared → Prop} {I : Addr} {fp wr : List Addr} {G : Array GenState → Array GenState → Prop} {n : Nat} {P : Nat → Value → Prop} {St : Nat → Shared → Prop}
/-- all texts of a walk are put in -/
theorem putAll (W : WalksS prog w A.in1 I fp wr G n P St) (D : Addr) (hD : D ∉ fp) (xs : List Str) (hsz : xs.length = n) (hval : ∀ i v, P i v → ∃ t, v = .str (xs.getD i Str.empty) t) (room : n + 1 < scanBound) :
    ∀ (todo i : Nat) (s : Shared) (L : List Str), n - i = todo → i ≤ n → St i s → L.length ≤ i → (∀ x, x ∈ L ↔ x ∈ xs.take i) → Tx prog w s.heap D L →
      (∀ s' L', Moved (D :: wr) G s s' → (∀ x, x ∈ L' ↔ x ∈ xs) → L'.length ≤ n → Tx prog w s'.heap D L' → R (.ok (.ret .none)) s') →
      codeAny (model prog w) A (.builtin "set.update.loop" ⟨[.ref D, .ref I], []⟩) R s := by
  have hDw : D ∉ wr := fun z => hD (W.sub _ z)
  have hsub : ∀ b ∈ wr, b ∈ D :: wr := fun b hb => List.mem_cons_of_mem _ hb
  intro todo
  induction todo with
  | zero =>
    intro i s L hk hi hst hll hmem hL hR
    obtain rfl : i = n := by omega
    refine codeAny_builtin PyProof.Rows.F.entry_set_update_loop ?_
    rw [Around.under_plainId PyProof.Rows.F.plain_set_update_loop _]
    show wpAny _ A.in1 (pyNext (.ref I) >>= _) _ _ s
    refine wpAny_bind (W.done s _ _ hst fun s' hm => ?_)
    show wpAny _ A.in1 (ret Value.none) _ _ s'
    exact wpAny_pure (hR s' L (hm.mono hsub) (fun x => by rw [hmem x, ← hsz, List.take_length]) hll (hL.at fun u hu => hm.heap D _ hDw hu))
  | succ todo ih =>
    intro i s L hk hi hst hll hmem hL hR
    have hlt : i < n := by omega
    refine codeAny_builtin PyProof.Rows.F.entry_set_update_loop ?_
    rw [Around.under_plainId PyProof.Rows.F.plain_set_update_loop _]
    show wpAny _ A.in1 (pyNext (.ref I) >>= _) _ _ s
    refine wpAny_bind (W.item i s _ _ hlt hst fun v s' hP hst' hm => ?_)
    obtain ⟨t, rfl⟩ := hval i v hP
    have hx : xs[i]? = some (xs.getD i Str.empty) := by
      rw [List.getD_eq_getElem?_getD, List.getElem?_eq_getElem (by omega)]
      rfl
    generalize xs.getD i Str.empty = x at hx ⊢
    have hL' : Tx prog w s'.heap D L := hL.at fun u hu => hm.heap D _ hDw hu
    show wpAny _ A.in1 (holding [Value.str x t] (setAdd D (.str x t)) >>= _) _ _ s'
    refine wpAny_bind (wpAny_holding ?_)
    unfold setAdd
    refine wpAny_holding (wpAny_bind ((PySem.strKind prog w).pyHash (k := x) (strKind_is _ _ _ _) ?_))
    refine added (s := { s' with toks := s'.toks + 1 }) hL' (by omega) fun h' b same hnew => ?_
    have hmem' : ∀ y, y ∈ (if x ∈ L then L else x :: L) ↔ y ∈ xs.take (i + 1) := fun y => by
      have e1 : xs.take (i + 1) = xs.take i ++ [x] := by rw [List.take_add_one, hx]; rfl
      rw [e1, List.mem_append, List.mem_singleton, ← hmem y]
      split
      · rename_i hin
        exact ⟨.inl, fun z => z.elim id fun e => e ▸ hin⟩
      · rw [List.mem_cons]
        exact Or.comm
    have hlen' : (if x ∈ L then L else x :: L).length ≤ i + 1 := by
      split
      · omega
      · simp only [List.length_cons]; omega
    refine wpAny_pure ⟨plainId_quiet PyProof.Rows.F.plain_set_update_loop _, ih (i + 1) _ _ (by omega) hlt (W.frame _ s' _ _ hst' (Nat.le_succ _) fun c hc u e => ?_) hlen' hmem' hnew fun s2 L2 m2 h2 l2 t2 => ?_⟩
    · rw [same.2 c fun z : c = D => hD (by rw [← z]; exact hc)]
      exact e
    · refine hR s2 L2 (Moved.trans W.gtrans ((hm.mono hsub).then_heap (Nat.le_succ _) fun c u hc e => ?_) m2) h2 l2 t2
      rw [same.2 c fun z : c = D => hc (by rw [z]; exact List.mem_cons_self)]
      exact e
end
end TxS
set_option maxHeartbeats 4000000
namespace TxS
open PySem PySem.Spec PyProof.Rows L2
section
variable {prog : Program} {w : World} {A : Around} {E : Value → Shared → Prop} {s : Shared}
theorem made_list {l : Addr} {items : Array Value} {xs : List Str} {Q : Value → Shared → Prop} (free : A.handled = none) (hl : s.heap.IsList l items) (hi : PyProof.Rows.StrsAre items.toList xs) (room : xs.length + 1 < scanBound)
    (h : ∀ (h' : Heap) (tk : Nat) (L : List Str), Tx prog w h' s.heap.objs.size L → (∀ x, x ∈ L ↔ x ∈ xs) → L.length ≤ xs.length → (∀ b o, b < s.heap.objs.size → s.heap.get? b = some o → h'.get? b = some o) → Q (.ref s.heap.objs.size) { s with heap := h', toks := tk }) :
    wpAny (model prog w) A (call (.type "set") [.ref l]) Q E s := by
  obtain ⟨c, tl, k1⟩ := PySem.F.called_set.mro
  have k2 := PySem.F.called_set.made
  have k3 := PySem.F.called_set.sub
  refine wpAny_call (codeAny_of_tree (?_ : wpAny _ _ (callAny (.type "set") _) _ _ _))
  refine wpAny_pure ⟨Code.quiet_builtin _ (by decide +kernel), codeAny_builtin PySem.F.entry_type_call ?_⟩
  rw [Around.under_plain (weight_type_call_type "set" [.ref l] []) rfl]
  have k4 := PySem.F.called_set.notType
  have k5 := PySem.F.called_set.canCreate
  have k6 := PySem.F.typeCall_set_1 (.ref l)
  repeat (any_goals (first | assumption | wp_step))
  let fresh : Obj := { cls := .type "set", dict := none, data := .set #[] 0 (.fresh 0 0 (!w.params.followText "set-order")) }
  refine codeAny_mono (code_set_led1 (.ref l) (E := E) (Q₁ := fun u s₁ => u = .ref s.heap.objs.size ∧ s₁ = { s with heap := s.heap.push fresh }) ⟨rfl, rfl⟩) fun r s₁ hr => ?_
  cases r
  case error => exact hr
  rename_i fl
  cases fl
  case next => exact hr.elim
  case brk => exact hr.elim
  case cont => exact hr.elim
  case ret =>
    obtain ⟨rfl, rfl⟩ := hr
    have hat : (s.heap.push fresh).get? s.heap.objs.size = some fresh := Heap.get?_push_size _ rfl
    have hty : Shared.TypeIs { s with heap := s.heap.push fresh } (.ref s.heap.objs.size) "set" := ⟨_, hat, rfl⟩
    have k7 := PySem.F.called_set.init.lookup
    have k8 := PySem.F.called_set.init.bind (.ref s.heap.objs.size)
    repeat (any_goals (first | assumption | wp_step))
    refine codeAny_mono (codeAny_call_builtin (R := wants (fun u s₂ => u = .none ∧ ∃ h' tk L, s₂ = { s with heap := h', toks := tk } ∧ Tx prog w h' s.heap.objs.size L ∧ (∀ x, x ∈ L ↔ x ∈ xs) ∧ L.length ≤ xs.length ∧ (∀ b o, b < s.heap.objs.size → s.heap.get? b = some o → h'.get? b = some o)) E)
      PySem.F.called_set.init.plain PySem.F.entry_set_init (check_set_init_1 hty ?_)) fun r₂ s₂ hr₂ => ?_
    · obtain ⟨⟨_, od, _, osl⟩, hol, hcl, nl, hdl⟩ := hl
      simp only at hcl hdl
      subst hcl hdl
      have hol' : (s.heap.push fresh).get? l = some { cls := .type "list", dict := od, data := .seq items nl, slots := osl } := Heap.get?_push_of_some _ hol
      have k9 := PySem.F.sub_list_set
      have k10 := PySem.F.sub_list_frozenset
      have k11 : (Value.type "list" == Value.type "dict") = false := by decide
      have hl1 : (s.heap.push fresh).IsList l items := ⟨_, hol', rfl, nl, rfl⟩
      unfold Builtin.«set.__init__» noKeywords Builtin.Frozenset.updateFrom
      generalize hPI : pyIter = PI
      wp_walk
      subst hPI
      refine wpAny_pyIter_list hl1 (wpAny_bind (wpAny_runValue ?_))
      have lsz : l < s.heap.objs.size := Heap.lt_size hol
      have free3 : A.in1.in1.in1.handled = none := by simp [free]
      have psz : (s.heap.push fresh).objs.size = s.heap.objs.size + 1 := Heap.size_push ..
      have far : l ≠ (s.heap.push fresh).objs.size := by rw [psz]; exact Nat.ne_of_lt (Nat.lt_succ_of_lt lsz)
      have out : s.heap.objs.size ∉ [(s.heap.push fresh).objs.size, l] := by
        rw [psz]
        simp only [List.mem_cons, List.not_mem_nil, or_false, not_or]
        exact ⟨Nat.ne_of_lt (Nat.lt_succ_self _), Nat.ne_of_gt lsz⟩
      have cnt : xs.length = items.size := by rw [← StrsAre.len_eq hi, Array.length_toList]
      refine putAll ((Walks.list free3 _ l far items).toS) s.heap.objs.size out xs cnt (fun i v hv => SS.strs_at hi i v (by rw [Array.getElem?_toList]; exact hv)) (by omega) (items.size - 0) 0 _ [] (by omega) (Nat.zero_le _)
        ⟨⟨_, Heap.get?_push_size _ rfl, rfl, rfl⟩, (hl1.push _)⟩ (Nat.le_refl _) (fun x => by simp) ?one ?two
      case one =>
        have at2 : ((s.heap.push fresh).push { cls := .type "list_iterator", data := .fields #[.ref l, .int 0 0] }).get? s.heap.objs.size = some fresh := Heap.get?_push_of_some _ hat
        exact Tx.none at2 ⟨rfl, rfl, rfl⟩ rfl
      case two =>
        rintro ⟨h2, g2, d2, tk2, os2⟩ L2 hm hmem hlen hTx
        obtain rfl : g2 = s.gens := hm.gens
        obtain rfl : d2 = s.drawn := hm.drawn
        obtain rfl : os2 = s.os := hm.os
        refine wpAny_pure (show wpAny _ _ (ret Value.none) _ _ _ from wpAny_pure ⟨rfl, h2, tk2, L2, rfl, hTx, hmem, by omega, fun b u hb e => ?_⟩)
        exact hm.heap b u (by
          rw [psz]
          simp only [List.mem_cons, List.not_mem_nil, or_false, not_or]
          exact ⟨Nat.ne_of_lt hb, Nat.ne_of_lt (Nat.lt_succ_of_lt hb)⟩) (Heap.get?_push_of_some _ (Heap.get?_push_of_some _ e))
    · cases r₂
      case error => exact hr₂
      rename_i fl₂
      cases fl₂
      case next => exact hr₂.elim
      case brk => exact hr₂.elim
      case cont => exact hr₂.elim
      case ret =>
        obtain ⟨rfl, h2, tk2, L2, rfl, t1, t2, t3, t4⟩ := hr₂
        repeat (any_goals (first | assumption | wp_step))
        exact h _ _ _ t1 t2 t3 t4
end
end TxS
set_option maxHeartbeats 4000000
namespace TxS
open PySem PySem.Spec PyProof.Rows L2
section
variable {prog : Program} {w : World} {A : Around} {E : Value → Shared → Prop} {s : Shared}
theorem made_tuple {l : Addr} {items : Array Value} {xs : List Str} {Q : Value → Shared → Prop} (free : A.handled = none) (hl : s.heap.IsTuple l items) (hi : PyProof.Rows.StrsAre items.toList xs) (room : xs.length + 1 < scanBound)
    (h : ∀ (h' : Heap) (tk : Nat) (L : List Str), Tx prog w h' s.heap.objs.size L → (∀ x, x ∈ L ↔ x ∈ xs) → L.length ≤ xs.length → (∀ b o, b < s.heap.objs.size → s.heap.get? b = some o → h'.get? b = some o) → Q (.ref s.heap.objs.size) { s with heap := h', toks := tk }) :
    wpAny (model prog w) A (call (.type "set") [.ref l]) Q E s := by
  obtain ⟨c, tl, k1⟩ := PySem.F.called_set.mro
  have k2 := PySem.F.called_set.made
  have k3 := PySem.F.called_set.sub
  refine wpAny_call (codeAny_of_tree (?_ : wpAny _ _ (callAny (.type "set") _) _ _ _))
  refine wpAny_pure ⟨Code.quiet_builtin _ (by decide +kernel), codeAny_builtin PySem.F.entry_type_call ?_⟩
  rw [Around.under_plain (weight_type_call_type "set" [.ref l] []) rfl]
  have k4 := PySem.F.called_set.notType
  have k5 := PySem.F.called_set.canCreate
  have k6 := PySem.F.typeCall_set_1 (.ref l)
  repeat (any_goals (first | assumption | wp_step))
  let fresh : Obj := { cls := .type "set", dict := none, data := .set #[] 0 (.fresh 0 0 (!w.params.followText "set-order")) }
  refine codeAny_mono (code_set_led1 (.ref l) (E := E) (Q₁ := fun u s₁ => u = .ref s.heap.objs.size ∧ s₁ = { s with heap := s.heap.push fresh }) ⟨rfl, rfl⟩) fun r s₁ hr => ?_
  cases r
  case error => exact hr
  rename_i fl
  cases fl
  case next => exact hr.elim
  case brk => exact hr.elim
  case cont => exact hr.elim
  case ret =>
    obtain ⟨rfl, rfl⟩ := hr
    have hat : (s.heap.push fresh).get? s.heap.objs.size = some fresh := Heap.get?_push_size _ rfl
    have hty : Shared.TypeIs { s with heap := s.heap.push fresh } (.ref s.heap.objs.size) "set" := ⟨_, hat, rfl⟩
    have k7 := PySem.F.called_set.init.lookup
    have k8 := PySem.F.called_set.init.bind (.ref s.heap.objs.size)
    repeat (any_goals (first | assumption | wp_step))
    refine codeAny_mono (codeAny_call_builtin (R := wants (fun u s₂ => u = .none ∧ ∃ h' tk L, s₂ = { s with heap := h', toks := tk } ∧ Tx prog w h' s.heap.objs.size L ∧ (∀ x, x ∈ L ↔ x ∈ xs) ∧ L.length ≤ xs.length ∧ (∀ b o, b < s.heap.objs.size → s.heap.get? b = some o → h'.get? b = some o)) E)
      PySem.F.called_set.init.plain PySem.F.entry_set_init (check_set_init_1 hty ?_)) fun r₂ s₂ hr₂ => ?_
    · obtain ⟨⟨_, od, _, osl⟩, hol, hcl, nl, hdl⟩ := hl
      simp only at hcl hdl
      subst hcl hdl
      have hol' : (s.heap.push fresh).get? l = some { cls := .type "tuple", dict := od, data := .seq items nl, slots := osl } := Heap.get?_push_of_some _ hol
      have k9 := PySem.F.sub_tuple_set
      have k10 := PySem.F.sub_tuple_frozenset
      have k11 : (Value.type "tuple" == Value.type "dict") = false := by decide
      have hl1 : (s.heap.push fresh).IsTuple l items := ⟨_, hol', rfl, nl, rfl⟩
      unfold Builtin.«set.__init__» noKeywords Builtin.Frozenset.updateFrom
      generalize hPI : pyIter = PI
      wp_walk
      subst hPI
      refine wpAny_pyIter_tuple hl1 (wpAny_bind (wpAny_runValue ?_))
      have lsz : l < s.heap.objs.size := Heap.lt_size hol
      have free3 : A.in1.in1.in1.handled = none := by simp [free]
      have psz : (s.heap.push fresh).objs.size = s.heap.objs.size + 1 := Heap.size_push ..
      have far : l ≠ (s.heap.push fresh).objs.size := by rw [psz]; exact Nat.ne_of_lt (Nat.lt_succ_of_lt lsz)
      have out : s.heap.objs.size ∉ [(s.heap.push fresh).objs.size, l] := by
        rw [psz]
        simp only [List.mem_cons, List.not_mem_nil, or_false, not_or]
        exact ⟨Nat.ne_of_lt (Nat.lt_succ_self _), Nat.ne_of_gt lsz⟩
      have cnt : xs.length = items.size := by rw [← StrsAre.len_eq hi, Array.length_toList]
      refine putAll ((Walks.tuple free3 _ l far items).toS) s.heap.objs.size out xs cnt (fun i v hv => SS.strs_at hi i v (by rw [Array.getElem?_toList]; exact hv)) (by omega) (items.size - 0) 0 _ [] (by omega) (Nat.zero_le _)
        ⟨⟨_, Heap.get?_push_size _ rfl, rfl, rfl⟩, (hl1.push _)⟩ (Nat.le_refl _) (fun x => by simp) ?one ?two
      case one =>
        have at2 : ((s.heap.push fresh).push { cls := .type "tuple_iterator", data := .fields #[.ref l, .int 0 0] }).get? s.heap.objs.size = some fresh := Heap.get?_push_of_some _ hat
        exact Tx.none at2 ⟨rfl, rfl, rfl⟩ rfl
      case two =>
        rintro ⟨h2, g2, d2, tk2, os2⟩ L2 hm hmem hlen hTx
        obtain rfl : g2 = s.gens := hm.gens
        obtain rfl : d2 = s.drawn := hm.drawn
        obtain rfl : os2 = s.os := hm.os
        refine wpAny_pure (show wpAny _ _ (ret Value.none) _ _ _ from wpAny_pure ⟨rfl, h2, tk2, L2, rfl, hTx, hmem, by omega, fun b u hb e => ?_⟩)
        exact hm.heap b u (by
          rw [psz]
          simp only [List.mem_cons, List.not_mem_nil, or_false, not_or]
          exact ⟨Nat.ne_of_lt hb, Nat.ne_of_lt (Nat.lt_succ_of_lt hb)⟩) (Heap.get?_push_of_some _ (Heap.get?_push_of_some _ e))
    · cases r₂
      case error => exact hr₂
      rename_i fl₂
      cases fl₂
      case next => exact hr₂.elim
      case brk => exact hr₂.elim
      case cont => exact hr₂.elim
      case ret =>
        obtain ⟨rfl, h2, tk2, L2, rfl, t1, t2, t3, t4⟩ := hr₂
        repeat (any_goals (first | assumption | wp_step))
        exact h _ _ _ t1 t2 t3 t4
end
end TxS
set_option maxHeartbeats 4000000
namespace TxS
open PySem PySem.Spec PyProof.Rows L2
open PySem.W (AllAlike Sortable dataLe EachIs)
/-- a text and its datum -/
def said (v : Value) : PyData × V := match v with
  | .str x _ => (.str x, .str x)
  | _ => (.none, .non)
def word (v : Value) : Str := match v with
  | .str x _ => x
  | _ => Str.empty
theorem vals_said : ∀ {ps : List (PyData × V)} {us : List Value}, EachIs (fun u p => RelV p.2 u) us ps → Vals (ps.map (·.2)) us
  | [], _, .nil => .nil
  | p :: ps, _, .cons r t => .cons r (vals_said t)
def asc (xs : List Str) : List Str := xs.mergeSort (dataLe false PyData.str)
section
variable {prog : Program} {w : World} {A : Around} {E : Value → Shared → Prop} {s : Shared} {a : Addr} {L : List Str}
theorem told_up (R : Tx prog w s.heap a L) (free : A.handled = none) (hu : A.units + 64 < cLine) {Q : Value → Shared → Prop}
    (hQ : ∀ s' p (out : Array Value) (c : Nat) (M : List Str), (∀ b o, s.heap.get? b = some o → s'.heap.get? b = some o) → s'.gens = s.gens → s'.os = s.os → s.heap.objs.size ≤ p → s'.heap.get? p = some (seqObj "list" out c) →
      Vals ((asc M).map V.str) out.toList → M.Perm L → Q (.ref p) s') :
    wpAny (model prog w) A (call (.builtin "sorted") [.ref a]) Q E s := by
  obtain ⟨o, rows, ep, tab, ho, hex, hd, g, pm, nd, hb, hf, hr, hl⟩ := R.ex
  refine Calls.call_function_entry kind_sorted plain_sorted entry_sorted (args_sorted1 _) ?_
  unfold Builtin.«sorted»
  refine wpAny_bind (m := checkCount "sorted" 1 1 _) (wpAny_pure ?_)
  refine wpAny_bind (collect_set (A := A.in1) free ⟨o, ho, hex.1, hd⟩ hf hb hr hl fun s1 vs k1 hz g1 o1 pv => ?_)
  have isStr : ∀ v ∈ vs, ∃ x tk, v = Value.str x tk := fun v hv => by
    obtain ⟨e, he, q⟩ := List.mem_map.mp (pv.mem_iff.mp hv)
    obtain ⟨x, tk, h1, _⟩ := g e he
    exact ⟨x, tk, by rw [← q]; exact h1⟩
  have hwords : (vs.map word).Perm L := by
    have q := pv.map word
    rw [List.map_map] at q
    exact q.trans pm
  have hvl : vs.length ≤ sizeLine := by
    have e0 : vs.length = rows.size := by rw [pv.length_eq, List.length_map, Array.length_toList]
    rw [e0, sizeLine_eq]
    unfold scanBound at hb
    omega
  refine wpAny_bind (wpAny_newList ?_ hvl)
  have hat : (s1.heap.push (seqObj "list" vs.toArray 0)).get? s1.heap.objs.size = some (seqObj "list" vs.toArray 0) := Heap.get?_push_size _ rfl
  have rd : ∀ (h : Heap) (us : List Value), (∀ v ∈ us, ∃ x tk, v = Value.str x tk) → EachIs (fun u (p : PyData × V) => ∃ as, Reads h u p.1 as) us (us.map said) := fun h us => by
    induction us with
    | nil => exact fun _ => .nil
    | cons u us ih =>
      intro hs
      obtain ⟨x, tk, rfl⟩ := hs u List.mem_cons_self
      exact .cons ⟨[], .str x tk⟩ (ih fun v hv => hs v (List.mem_cons_of_mem _ hv))
  have rl : ∀ (us : List Value), (∀ v ∈ us, ∃ x tk, v = Value.str x tk) → EachIs (fun u (p : PyData × V) => RelV p.2 u) us (us.map said) := fun us => by
    induction us with
    | nil => exact fun _ => .nil
    | cons u us ih =>
      intro hs
      obtain ⟨x, tk, rfl⟩ := hs u List.mem_cons_self
      exact .cons ⟨tk, rfl⟩ (ih fun v hv => hs v (List.mem_cons_of_mem _ hv))
  have sd : ∀ p ∈ vs.map said, ∃ x, p = (PyData.str x, V.str x) := fun p hp => by
    obtain ⟨v, hv, rfl⟩ := List.mem_map.mp hp
    obtain ⟨x, tk, rfl⟩ := isStr v hv
    exact ⟨x, rfl⟩
  have hal : AllAlike ((vs.map said).map (·.1)) := fun d hd d' hd' => by
    obtain ⟨p, hp, rfl⟩ := List.mem_map.mp hd
    obtain ⟨p', hp', rfl⟩ := List.mem_map.mp hd'
    obtain ⟨x, rfl⟩ := sd p hp
    obtain ⟨x', rfl⟩ := sd p' hp'
    rfl
  have hso : Sortable ((vs.map said).map (·.1)) := .inr fun d hd => by
    obtain ⟨p, hp, rfl⟩ := List.mem_map.mp hd
    obtain ⟨x, rfl⟩ := sd p hp
    exact ⟨nofun, nofun⟩
  have er := rd (PySem.W.sortingHeap (s1.heap.push (seqObj "list" vs.toArray 0)) s1.heap.objs.size vs) vs isStr
  have el := rl vs isStr
  refine wpAny_bind (wpAny_holding (wpAny_call_entry_kw slot_list_sort ⟨_, hat, rfl⟩ entry_list_sort ?_ (args_list_sort _)))
  suffices body : wpAny (model prog w) A.in1.in1 (Builtin.«list.sort» ⟨[.ref s1.heap.objs.size], []⟩) (fun f s' => f = .done (.ret .none) ∧ Q (.ref s1.heap.objs.size) s') _ { s1 with heap := s1.heap.push (seqObj "list" vs.toArray 0) } by
    refine wpAny_mono body (fun f s' hf => ?_) fun _ _ e => e
    obtain ⟨rfl, hq⟩ := hf
    exact ⟨_, rfl, wpAny_pure ⟨_, rfl, hq⟩⟩
  refine PySem.W.list_sort_vals (s := { s1 with heap := s1.heap.push (seqObj "list" vs.toArray 0) }) hat
    (PySem.W.SortsAt.data (s := { s1 with heap := PySem.W.sortingHeap (s1.heap.push (seqObj "list" vs.toArray 0)) s1.heap.objs.size vs }) (PySem.W.each_map (β := PyData × V) (R := fun v d => ∃ as, Reads (PySem.W.sortingHeap (s1.heap.push (seqObj "list" vs.toArray 0)) s1.heap.objs.size vs) v d as) (·.1) er) hal hso
      (PySem.W.bound_map fun b hb => by
        obtain ⟨x, rfl⟩ := sd b hb
        show A.units + 1 + 1 + _ < _
        simp only [PyData.depth]
        omega)) hvl ⟨rfl, ?_⟩
  · have eo : EachIs (fun u (p : PyData × V) => RelV p.2 u) _ ((vs.map said).mergeSort (dataLe false (·.1))) := PySem.W.sortVals_data false el er hal
    obtain ⟨c, hcc⟩ := sortedHeap_at (h := s1.heap.push (seqObj "list" vs.toArray 0)) (vs := vs) (out := (PySem.W.sortVals (PySem.W.dataKind (PySem.W.sortingHeap (s1.heap.push (seqObj "list" vs.toArray 0)) s1.heap.objs.size vs) ((vs.map said).map (·.1))) false vs vs).toArray) (n := 0) hat
    have kept : ∀ b ob, s.heap.get? b = some ob → (sortedHeap (s1.heap.push (seqObj "list" vs.toArray 0)) s1.heap.objs.size vs (PySem.W.sortVals (PySem.W.dataKind (PySem.W.sortingHeap (s1.heap.push (seqObj "list" vs.toArray 0)) s1.heap.objs.size vs) ((vs.map said).map (·.1))) false vs vs).toArray).get? b = some ob := fun b ob eb => by
      have hb' := k1 b ob eb
      rw [sortedHeap_old (Nat.ne_of_lt (Heap.lt_size hb')) (by rw [size_push']; exact Nat.lt_succ_of_lt (Heap.lt_size hb'))]
      exact Heap.get?_push_of_some _ hb'
    refine hQ _ s1.heap.objs.size _ c (vs.map word) kept g1 o1 hz hcc ?_ hwords
    have e1 : (vs.map said).mergeSort (dataLe false (·.1)) = (asc (vs.map word)).map fun x => (PyData.str x, V.str x) := by
      have e2 : vs.map said = (vs.map word).map fun x => (PyData.str x, V.str x) := by
        rw [List.map_map]
        refine List.map_congr_left fun v hv => ?_
        obtain ⟨x, tk, rfl⟩ := isStr v hv
        rfl
      rw [e2, DL.sort_map]
      rfl
    rw [e1] at eo
    have := vals_said eo
    rw [List.map_map] at this
    exact this
end
end TxS
namespace L2
open PySem PySem.Spec PyProof.Rows
/-- sorted(set(e)), e a list or a tuple of texts -/
def tSortTx (K : PySem.W.Frag) (ta : TE) : TE := fun σ H Q => ta σ H fun x H1 => ∃ (l : Addr) (xs : List Str), x = .ref l ∧ (SqL K H1 l (xs.map V.str) ∨ SqT K H1 l (xs.map V.str)) ∧ xs.length < 4000 ∧
  ∀ (M : List Str) (p : Addr), M.Nodup → (∀ y, y ∈ M ↔ y ∈ xs) → H1 p = none → Q (.ref p) (upd H1 p (.lst ((TxS.asc M).map V.str)))
theorem pe_sortTx {X : Cx} {a : Expr} {ta : TE} {p p2 q pos : Pos} (hc : X.calm = true) (hu : X.A.units + 64 < cLine) (hg : Gl X "sorted") (hm : X.mg "sorted" = none) (hg2 : Gl X "set") (hm2 : X.mg "set" = none) (ha : PE X a ta)
    (na : starEach [a] X.env = (false, eval a X.env) :: starEach [] X.env := by rfl) : PE X (.Call (.Name "sorted" p) [.Call (.Name "set" p2) [a] [] q] [] pos) (tSortTx X.K ta) := by
  refine ⟨fun pins s σ H Q I h => ?_⟩
  refine Call_ (ld_blt I hg hm boot_sorted ?_)
  refine PyProof.Rows.callWith_builtin1 (PyProof.Rows.args_cons ?_ rfl) rfl rfl
  refine Call_ (ld_blt I hg2 hm2 boot_set ?_)
  refine PyProof.Rows.callWith_type1 (PyProof.Rows.args_cons (thn (ha.run pins s σ H _ I h) fun v s1 ⟨x, H1, I1, r1, q1⟩ => PyProof.Rows.args_nil ?_) na) na rfl
  obtain ⟨l, xs, rfl, hq, few, q1⟩ := q1
  cases r1
  have fin : ∀ (h' : Heap) (tk : Nat) (L : List Str), TxS.Tx X.prog X.w h' s1.heap.objs.size L → (∀ x, x ∈ L ↔ x ∈ xs) → L.length ≤ xs.length → (∀ b o, b < s1.heap.objs.size → s1.heap.get? b = some o → h'.get? b = some o) →
      wpAny (model X.prog X.w) X.A (spliced (backTo pos (starEach [] X.env))) (fun vs s₂ => wpAny (model X.prog X.w) X.A (call (.builtin "sorted") (Value.ref s1.heap.objs.size :: vs)) (EP X pins σ Q) X.xe s₂) X.xe { s1 with heap := h', toks := tk } := fun h' tk L hT hmem hlen hk => by
    refine PyProof.Rows.args_nil ?_
    have kp : ∀ b o, s1.heap.get? b = some o → h'.get? b = some o := fun b o e => hk b o (Heap.lt_size e) e
    have ndL : L.Nodup := by
      obtain ⟨_, _, _, _, _, _, _, _, _, nd, _⟩ := hT.ex
      exact nd
    refine TxS.told_up (s := { s1 with heap := h', toks := tk }) hT (I1.ok.hd hc) hu fun s' p out c M k g o hp hgt hv pm => ?_
    have kept : ∀ b ob, s1.heap.get? b = some ob → s'.heap.get? b = some ob := fun b ob e => k b ob (kp b ob e)
    have hp0 : s1.heap.get? p = none := by
      cases eb : s1.heap.get? p with
      | none => rfl
      | some ob =>
        have z1 := Heap.lt_size eb
        have z2 : s1.heap.objs.size < h'.objs.size := by
          obtain ⟨_, _, _, _, ho, _⟩ := hT.ex
          exact Heap.lt_size ho
        exact absurd (Nat.lt_of_lt_of_le (Nat.lt_trans z1 z2) hp) (Nat.lt_irrefl _)
    have hn : H1 p = none := I1.hok.gone hp0
    have hlen' : ((TxS.asc M).map V.str).length ≤ sizeLine := by
      rw [List.length_map]
      unfold TxS.asc
      rw [List.length_mergeSort, pm.length_eq, sizeLine_eq]
      omega
    have eg : s'.gens = s1.gens := g
    have J : Inv X pins σ (upd H1 p (.lst ((TxS.asc M).map V.str))) { s1 with heap := s'.heap, toks := s'.toks, gens := s'.gens, drawn := s'.drawn } :=
      I1.call (ch := []) (Un.laidN kept hp0 hn) (I1.hok.laidN kept hn ⟨hlen', out.toList, c, hv, hgt⟩) (by rw [eg]; exact I1.bare) (fun _ z => nomatch z)
    have e : s' = { s1 with heap := s'.heap, toks := s'.toks, gens := s'.gens, drawn := s'.drawn } := by
      cases s'
      cases s1
      cases o
      rfl
    refine ⟨.ref p, _, ?_, rfl, q1 M p (pm.nodup_iff.mpr ndL) (fun y => (pm.mem_iff).trans (hmem y)) hn⟩
    rw [e]
    exact J
  rcases hq with hq | hq
  · obtain ⟨its, r, pl, hz⟩ := I1.list hq
    exact TxS.made_list (I1.ok.hd hc) pl.isList (by simpa using strsAre_of r) (by unfold scanBound; omega) fin
  · obtain ⟨its, r, pl, hz⟩ := I1.tuple hq
    exact TxS.made_tuple (I1.ok.hd hc) pl (by simpa using strsAre_of r) (by unfold scanBound; omega) fin
end L2
namespace DL
open PySem L2 PySem.Spec
open PyProof.Rows hiding St
variable [TC : TabCtx]
def dSortTx : DN := fun ds st Q => match ds with
  | [x] => ∃ xs : List Str, itemsD st x = some (xs.map .str) ∧ xs.length < 4000 ∧ ∀ M : List Str, M.Nodup → (∀ y, y ∈ M ↔ y ∈ xs) → Q (.loc st.length) (st ++ [.lst ((TxS.asc M).map .str)])
  | _ => False
section
variable {X : Cx} {W : WX} {e : Expr} {te : DTE} {p p2 q pos : Pos}
theorem de_sortTx (hc : X.calm = true) (hu : X.A.units + 64 < cLine) (hg : Gl X "sorted") (hm : X.mg "sorted" = none) (hg2 : Gl X "set") (hm2 : X.mg "set" = none) (ha : DE X W e te)
    (na : starEach [e] X.env = (false, eval e X.env) :: starEach [] X.env := by rfl) : DE X W (.Call (.Name "sorted" p) [.Call (.Name "set" p2) [e] [] q] [] pos) (dCB dSortTx (dCons te dNil)) :=
  pe_weak (pe_sortTx hc hu hg hm hg2 hm2 ha na) fun σ H Q ⟨ρ, st, μ, Qd, Z, hS, ht, hQ, hZ⟩ =>
    ⟨ρ, st, μ, _, Z, hS, ht, fun x st1 H1 μ1 v hx e1 s1 rv => by
      obtain ⟨xs, hi, few, q⟩ := hx
      obtain ⟨a, vs, rfl, hsq, hv⟩ := items_ok s1 rv hi
      rw [reps_strs hv] at hsq
      exact ⟨a, xs, rfl, hsq, few, fun M l nd hmem hl => hQ.lst e1 s1 (reps_strs0 _) (q M nd hmem) hl⟩, hZ⟩
end
end DL
namespace DL
open PySem L2 PySem.Spec
open PyProof.Rows hiding St
@[simp] theorem s_sortTx {x : D} {st : Sto} {Q : DK} : dSortTx [x] st Q = ∃ xs : List Str, itemsD st x = some (xs.map .str) ∧ xs.length < 4000 ∧ ∀ M : List Str, M.Nodup → (∀ y, y ∈ M ↔ y ∈ xs) → Q (.loc st.length) (st ++ [.lst ((TxS.asc M).map .str)]) := rfl
end DL
namespace DL
open PySem L2 PySem.Spec
open PyProof.Rows hiding St
def dSum : DN := fun ds st Q => match ds with | [.loc n] => ∃ ns : List Int, st[n]? = some (.lst (ns.map .int)) ∧ Q (.int ns.sum) st | _ => False
def dOrdS : DN := fun ds st Q => match ds with | [.str x] => x.length = 1 ∧ Q (.int (x.cps.getD 0 0 : Nat)) st | _ => False
def dUpper : DM := fun x ds st Q => match x, ds with | .str a, [] => a.length ≤ 5592405 ∧ Q (.str (Txt.upper a)) st | _, _ => False
def dSetK : D3 := fun o i x st Q => match o with | .loc n => ∃ kvs k, st[n]? = some (.dK kvs) ∧ keyD i = some k ∧ kvs.length < sizeLine ∧ Q (st.set n (.dK (putD kvs k x))) | _ => False
section
variable {st : Sto} {Q : DK} {a : Str} {i j : Int} {n : Nat} {x d : D} {Qs : Sto → Prop}
@[simp] theorem s_sum : dSum [.loc n] st Q = ∃ ns : List Int, st[n]? = some (.lst (ns.map .int)) ∧ Q (.int ns.sum) st := rfl
@[simp] theorem s_ordS : dOrdS [.str a] st Q = (a.length = 1 ∧ Q (.int (a.cps.getD 0 0 : Nat)) st) := rfl
@[simp] theorem s_upper : dUpper (.str a) [] st Q = (a.length ≤ 5592405 ∧ Q (.str (Txt.upper a)) st) := rfl
@[simp] theorem s_setK : dSetK (.loc n) d x st Qs = ∃ kvs k, st[n]? = some (.dK kvs) ∧ keyD d = some k ∧ kvs.length < sizeLine ∧ Qs (st.set n (.dK (putD kvs k x))) := rfl
end
variable [TC : TabCtx]
section
variable {K : PySem.W.Frag}
theorem setK_ok : DSet K rSetD dSetK := by
  intro H μ st o i x vo vi v Qd Q s ro ri rv h hQ
  cases o <;> try exact (show False from h).elim
  rename_i n
  obtain ⟨a, rfl, hn⟩ := ro
  obtain ⟨kvs, k, hk, hi, hl, q⟩ := h
  obtain ⟨a', o, e1, e2, gs, rfl, okv⟩ := s.at' _ _ hk
  rw [hn] at e1; cases e1
  have w := s.write (o' := .dK (putK gs k v)) (b := .dK (putD kvs k x)) hn e2 ⟨_, rfl, okv_put rv okv⟩
  refine ⟨a, _, rfl, ?_, hQ _ _ _ q w.1 w.2⟩
  rw [key_rep hi ri]
  exact DPut.k e2 (by rw [← okv_len okv]; exact hl)
end
end DL
namespace DL
open PySem L2 PySem.Spec
open PyProof.Rows hiding St
def revS (z : Str) : Str := ⟨z.cps.toList.reverse.toArray⟩
def dRevS (te : DTE) : DTE := fun ρ st Q Z => te ρ st (fun x st1 => match x with
  | .str z => z.length ≤ sizeLine ∧ Q (.str (revS z)) st1
  | _ => False) Z
section
variable {ρ : Env'} {st : Sto} {Q : DK} {Z : DZ} {te : DTE}
@[simp] theorem s_revS : dRevS te ρ st Q Z = te ρ st (fun x st1 => match x with
  | .str z => z.length ≤ sizeLine ∧ Q (.str (revS z)) st1
  | _ => False) Z := rfl
end
variable [TC : TabCtx]
end DL
namespace DL
open PySem L2 PySem.Spec
open PyProof.Rows hiding St
def iEnS (te : DTE) : DTI := fun ρ st Q Z => te ρ st (fun x st1 => match x with | .str z => Q (enumItems (strItems z)) (fun _ => True) st1 | _ => False) Z
section
variable {ρ : Env'} {st : Sto} {Z : DZ} {te : DTE}
@[simp] theorem s_iEnS {QI : List D → (Sto → Prop) → Sto → Prop} : iEnS te ρ st QI Z = te ρ st (fun x st1 => match x with | .str z => QI (enumItems (strItems z)) (fun _ => True) st1 | _ => False) Z := rfl
end
variable [TC : TabCtx]
end DL
set_option maxHeartbeats 4000000
namespace DL
open PySem L2 PySem.Spec
open PyProof.Rows hiding St
def repS (a : Str) (n : Nat) : Str := ⟨(List.replicate n a.cps).foldl (· ++ ·) #[]⟩
def dMulS : D2 := fun x y st Q => match x, y with
  | .str a, .int k => 2 ≤ k ∧ k ≤ 1000 ∧ 0 < a.length ∧ a.length ≤ 1000 ∧ Q (.str (repS a k.toNat)) st
  | _, _ => False
@[simp] theorem s_mulS {a : Str} {k : Int} {st : Sto} {Q : DK} : dMulS (.str a) (.int k) st Q = (2 ≤ k ∧ k ≤ 1000 ∧ 0 < a.length ∧ a.length ≤ 1000 ∧ Q (.str (repS a k.toNat)) st) := rfl
end DL
namespace DL
open PySem L2 PySem.Spec
open PyProof.Rows hiding St
def rInsertV : V → List V → Hp → VK → Prop := fun x vs H Q => ∃ (l : Addr) (xs : List V) (i : Int) (y : V), x = .ref l ∧ vs = [.int i, y] ∧ H l = some (.lst xs) ∧ xs.length < sizeLine ∧ 0 ≤ i ∧ i < 2 ^ 63 ∧
    Q .non (upd H l (.lst (xs.take i.toNat ++ [y] ++ xs.drop i.toNat)))
def dInsert : DM := fun x ds st Q => match x, ds with
  | .loc n, [.int i, d] => ∃ es, st[n]? = some (.lst es) ∧ es.length < sizeLine ∧ 0 ≤ i ∧ i < 2 ^ 62 ∧ Q .non (st.set n (.lst (es.take i.toNat ++ [d] ++ es.drop i.toNat)))
  | _, _ => False
theorem insert_ok [TC : TabCtx] {K : PySem.W.Frag} : DMt K rInsertV dInsert := by
  intro H μ st x v ds vs Qd Q s rx rs h hQ
  unfold dInsert at h
  split at h
  · rename_i n i d
    obtain ⟨a, rfl, hn⟩ := rx
    obtain ⟨es, he, hz, h0, h1, q⟩ := h
    obtain ⟨u1, u2, rfl, r1, r2⟩ := reps2 rs
    have e1 : u1 = .int i := r1
    subst e1
    obtain ⟨a', o, q1, q2, ws, rfl, hr⟩ := s.at' _ _ he
    rw [hn] at q1; cases q1
    have w := s.write (o' := .lst (ws.take i.toNat ++ [u2] ++ ws.drop i.toNat)) (b := .lst (es.take i.toNat ++ [d] ++ es.drop i.toNat)) hn q2 ⟨_, rfl, ((hr.take _).append (Reps.one r2)).append (hr.drop _)⟩
    exact ⟨a, ws, i, u2, rfl, rfl, q2, by rw [← hr.length]; exact hz, h0, by omega, hQ _ _ _ _ _ q w.1 w.2 rfl⟩
  · exact h.elim
@[simp] theorem s_insert {n : Nat} {i : Int} {d : D} {st : Sto} {Q : DK} : dInsert (.loc n) [.int i, d] st Q = ∃ es, st[n]? = some (.lst es) ∧ es.length < sizeLine ∧ 0 ≤ i ∧ i < 2 ^ 62 ∧ Q .non (st.set n (.lst (es.take i.toNat ++ [d] ++ es.drop i.toNat))) := rfl
end DL
namespace DL
open PySem L2 PySem.Spec
open PyProof.Rows hiding St
def dkAt (st : Sto) (n : Nat) : Option (List (Key × D)) := match st[n]? with
  | some (.dK kvs) => some kvs
  | some (.dkF _ kvs) => some kvs
  | _ => none
theorem dkAt_K {st : Sto} {n : Nat} {kvs : List (Key × D)} (h : st[n]? = some (.dK kvs)) : dkAt st n = some kvs := by unfold dkAt; rw [h]
theorem dkAt_F {st : Sto} {n : Nat} {od : Obj} {kvs : List (Key × D)} (h : st[n]? = some (.dkF od kvs)) : dkAt st n = some kvs := by unfold dkAt; rw [h]
theorem dkAt_app {st : Sto} {n : Nat} {kvs : List (Key × D)} (h : dkAt st n = some kvs) (g : Sto) : dkAt (st ++ g) n = some kvs := by
  unfold dkAt at *
  by_cases hn : n < st.length
  · rw [List.getElem?_append_left hn]; exact h
  · rw [List.getElem?_eq_none (by omega)] at h; cases h
section
variable [TC : TabCtx]
theorem dk_rep {K : PySem.W.Frag} {H : Hp} {μ : List Addr} {st : Sto} {n : Nat} {a : Addr} {kvs : List (Key × D)} (s : SRep K st μ H) (hn : μ[n]? = some a) (h : dkAt st n = some kvs) : ∃ gs, L2.Rd H a (.dK gs) ∧ OKv K H μ kvs gs := by
  unfold dkAt at h
  split at h
  · rename_i kvs' e
    cases h
    obtain ⟨a', ob, q1, q2, gs, rfl, okv⟩ := s.at' _ _ e
    rw [hn] at q1; cases q1
    exact ⟨gs, .inl q2, okv⟩
  · rename_i od kvs' e
    cases h
    obtain ⟨a', ob, q1, q2, gs, rfl, okv⟩ := s.at' _ _ e
    rw [hn] at q1; cases q1
    exact ⟨gs, .inr ⟨od, q2⟩, okv⟩
  · cases h
section
variable {X : Cx} {W : WX} {o e f i : Expr} {td ty tx te : DTE} {apos cpos pos : Pos}
/-- d[k] -/
def dDGetA (td ti : DTE) : DTE := fun ρ st Q Z => td ρ st (fun x st1 => ti ρ st1 (fun y st2 => ∃ n kvs k v, x = .loc n ∧ dkAt st2 n = some kvs ∧ keyD y = some k ∧ valD kvs k = some v ∧ Q v st2) Z) Z
theorem de_dgetA (hu : X.A.units + 1 < cLine) (ho : DE X W o td) (hi : DE X W i ty) (hs : NoSl i := by intro _ _; rfl) : DE X W (.Subscript o i pos) (dDGetA td ty) := pe_weak (pe_dget hu ho hi hs) fun σ H Q ⟨ρ, st, μ, Qd, Z, hS, ht, hQ, hZ⟩ =>
  ⟨ρ, st, μ, _, Z, hS, ht, fun x st1 H1 μ1 v hx e1 s1 rv => ⟨ρ, st1, μ1, _, Z, hS.mono e1 s1, hx, fun y st2 H2 μ2 u hy e2 s2 ru => by
    obtain ⟨n, kvs, k, d, rfl, hn, hk, hv, q⟩ := hy
    obtain ⟨a, rfl, ha⟩ := rv.mono e2
    obtain ⟨gs, hr, okv⟩ := dk_rep s2 ha hn
    rcases okv_val (k := k) okv with ⟨h1, _⟩ | ⟨d', w, h1, h2, r⟩
    · rw [h1] at hv; cases hv
    · rw [h1] at hv; cases hv
      refine ⟨a, w, rfl, ?_, hQ _ _ _ _ _ q (e1.trans e2) s2 r⟩
      rw [key_rep hk ru]
      exact .inl ⟨gs, k, hr, rfl, h2.symm⟩, hZ.mono e1⟩, hZ⟩
/-- d.get(k, x) -/
def dDGet2A (td ty tx : DTE) : DTE := fun ρ st Q Z => td ρ st (fun x st1 => (∃ n kvs, x = .loc n ∧ dkAt st1 n = some kvs) ∧ ty ρ st1 (fun y st2 => tx ρ st2 (fun z st3 => ∃ n kvs k, x = .loc n ∧ dkAt st3 n = some kvs ∧ keyD y = some k ∧ Q ((valD kvs k).getD z) st3) Z) Z) Z
theorem de_dget2A (hu : X.A.units + 1 < cLine) (ho : DE X W o td) (he : DE X W e ty) (hf : DE X W f tx) (m : M2 X o "get" apos e f cpos) : DE X W (.Call (.Attribute o "get" apos) [e, f] [] cpos) (dDGet2A td ty tx) := pe_weak (pe_dget2 hu ho he hf m) fun σ H Q ⟨ρ, st, μ, Qd, Z, hS, ht, hQ, hZ⟩ =>
  ⟨ρ, st, μ, _, Z, hS, ht, fun x st1 H1 μ1 v hx e1 s1 rv => by
    obtain ⟨⟨n, kvs, rfl, hn⟩, hy⟩ := hx
    obtain ⟨a, rfl, ha⟩ := rv
    obtain ⟨gs, hr, okv⟩ := dk_rep s1 ha hn
    refine ⟨a, rfl, .inl ⟨gs, hr⟩, ρ, st1, μ1, _, Z, hS.mono e1 s1, hy, fun y st2 H2 μ2 u hz e2 s2 ru => ⟨ρ, st2, μ2, _, Z, (hS.mono e1 s1).mono e2 s2, hz, fun z st3 H3 μ3 w hq e3 s3 rw_ => ?_, (hZ.mono e1).mono e2⟩, hZ.mono e1⟩
    obtain ⟨n', kvs', k, en, hn', hk, q⟩ := hq
    cases en
    have ha3 : μ3[n]? = some a := e3.pre _ _ (e2.pre _ _ ha)
    obtain ⟨gs', hr', okv'⟩ := dk_rep s3 ha3 hn'
    rw [key_rep hk (ru.mono e3)]
    rcases okv_val (k := k) okv' with ⟨h1, h2⟩ | ⟨d', w', h1, h2, r⟩
    · rw [h1] at q
      exact ⟨none, .inl ⟨gs', k, hr', rfl, h2.symm⟩, hQ _ _ _ _ _ q ((e1.trans e2).trans e3) s3 rw_⟩
    · rw [h1] at q
      exact ⟨some w', .inl ⟨gs', k, hr', rfl, h2.symm⟩, hQ _ _ _ _ _ q ((e1.trans e2).trans e3) s3 r⟩, hZ⟩
/-- k in d, k not in d -/
def dInD (neg : Bool) : D2 := fun y x st Q => ∃ n kvs k, x = .loc n ∧ dkAt st n = some kvs ∧ keyD y = some k ∧ Q (.bl (if neg then !(valD kvs k).isSome else (valD kvs k).isSome)) st
theorem din_rep {K : PySem.W.Frag} {H : Hp} {μ : List Addr} {st : Sto} {x y : D} {v u : V} {P : Bool → Prop} (s : SRep K st μ H) (ry : Rep K H μ y u) (rx : Rep K H μ x v)
    (h : ∃ n kvs k, x = .loc n ∧ dkAt st n = some kvs ∧ keyD y = some k ∧ P (valD kvs k).isSome) : ∃ a r, v = .ref a ∧ DGet H a u r ∧ P r.isSome := by
  obtain ⟨n, kvs, k, rfl, hn, hk, q⟩ := h
  obtain ⟨a, rfl, ha⟩ := rx
  obtain ⟨gs, hr, okv⟩ := dk_rep s ha hn
  rw [key_rep hk ry]
  rcases okv_val (k := k) okv with ⟨h1, h2⟩ | ⟨d', w', h1, h2, r⟩
  · exact ⟨a, _, rfl, .inl ⟨gs, k, hr, rfl, h2.symm⟩, by rw [h1] at q; exact q⟩
  · exact ⟨a, _, rfl, .inl ⟨gs, k, hr, rfl, h2.symm⟩, by rw [h1] at q; exact q⟩
theorem dt_dnotin (hu : X.A.units + 1 < cLine) (hm : behindInMarks .NotIn o = false) (hi : DE X W i ty) (ho : DE X W o td) : DT X W (.Compare i [.NotIn] [o] pos) (dTest (dOp (dInD true) ty td)) := pt_weak (pt_cmp (pc_dnotin hu hi ho) hm) fun σ H Q ⟨ρ, st, μ, Qd, Z, hS, ht, hQ, hZ⟩ =>
  ⟨ρ, st, μ, _, Z, hS, ht, fun y st1 H1 μ1 u hy e1 s1 ru => ⟨ρ, st1, μ1, _, Z, hS.mono e1 s1, hy, fun x st2 H2 μ2 v hx e2 s2 rv => by
    exact (din_rep (P := fun b => ∃ c, V.bl (!b) = .bl c ∧ Q c H2) s2 (ru.mono e2) rv (by
      obtain ⟨n, kvs, k, h1, h2, h3, q⟩ := hx
      exact ⟨n, kvs, k, h1, h2, h3, _, rfl, hQ _ _ _ _ q (e1.trans e2) s2⟩)), hZ.mono e1⟩, hZ⟩
end
end
end DL
namespace DL
open PySem L2 PySem.Spec
open PyProof.Rows hiding St
def ltX (a b : Str) : Bool := PySem.W.dataLt (.str a) (.str b)
theorem ltX_eq (a b : Str) : ltX a b = decide (a.cps.toList < b.cps.toList) := PySem.W.dataLt_str a b
theorem minD_strs : ∀ (ns : List Str) (n : Str), ∃ m, m ∈ n :: ns ∧ PySem.W.minD (.str n) (ns.map PyData.str) = .str m ∧ ∀ y ∈ n :: ns, ltX y m = false
  | [], n => ⟨n, List.mem_cons_self, rfl, fun y hy => by rw [List.mem_singleton.mp hy, ltX_eq]; simp⟩
  | k :: ns, n => by
    have step : PySem.W.minD (.str n) ((k :: ns).map PyData.str) = PySem.W.minD (.str (if ltX k n = true then k else n)) (ns.map PyData.str) := by
      unfold PySem.W.minD
      rw [List.map_cons, List.foldl_cons]
      show List.foldl _ (if ltX k n = true then PyData.str k else PyData.str n) _ = _
      split <;> rfl
    obtain ⟨m, hm, e, h⟩ := minD_strs ns (if ltX k n = true then k else n)
    refine ⟨m, ?_, step.trans e, fun y hy => ?_⟩
    · rcases List.mem_cons.mp hm with hm | hm
      · rw [hm]; split
        · exact List.mem_cons_of_mem _ List.mem_cons_self
        · exact List.mem_cons_self
      · exact List.mem_cons_of_mem _ (List.mem_cons_of_mem _ hm)
    · have h0 := h _ List.mem_cons_self
      by_cases hk : ltX k n = true
      · rw [if_pos hk] at h0
        rcases List.mem_cons.mp hy with rfl | hy
        · rw [ltX_eq] at *
          simp only [decide_eq_true_eq, decide_eq_false_iff_not] at *
          exact fun z => h0 (List.lt_trans hk z)
        · rcases List.mem_cons.mp hy with rfl | hy
          · exact h0
          · exact h _ (List.mem_cons_of_mem _ hy)
      · rw [if_neg hk] at h0
        rcases List.mem_cons.mp hy with rfl | hy
        · exact h0
        · rcases List.mem_cons.mp hy with rfl | hy
          · rw [ltX_eq] at *
            simp only [decide_eq_true_eq, decide_eq_false_iff_not] at *
            exact fun z => h0 (List.lt_of_le_of_lt (List.not_lt.mp hk) z)
          · exact h _ (List.mem_cons_of_mem _ hy)
theorem depth_strs : ∀ ns : List Str, PyData.depthAll (ns.map PyData.str) = 0
  | [] => by simp [PyData.depthAll]
  | n :: ns => by simp [PyData.depthAll, PyData.depth, depth_strs ns]
theorem dpAll_strs {K : PySem.W.Frag} {H : Hp} : ∀ ns : List Str, DpAll K H (ns.map V.str) (ns.map PyData.str)
  | [] => .nil
  | n :: ns => .cons (.str n) (dpAll_strs ns)
def rMinTx (K : PySem.W.Frag) : List V → Hp → VK → Prop := fun vs H Q => ∃ (a : Addr) (ns : List Str), vs = [V.ref a] ∧ SqL K H a (ns.map V.str) ∧ 0 < ns.length ∧ ∀ m, m ∈ ns → (∀ y ∈ ns, ltX y m = false) → Q (.str m) H
theorem cr_minTx {X : Cx} (hc : X.calm = true) (hu : X.A.units + 64 < cLine) : CallR X (.builtin "min") (rMinTx X.K) := by
  intro pins s σ H vs us Q I r h
  obtain ⟨a, ns, rfl, hs, hne, q⟩ := h
  obtain ⟨its, rv, hl, _⟩ := I.list hs
  rw [Vals.ref1 r]
  cases ns with
  | nil => simp at hne
  | cons n ns =>
    obtain ⟨as, ra⟩ := Dp.readsAll I ((n :: ns).map PyData.str) _ _ (dpAll_strs (n :: ns)) rv
    have hal : PySem.W.AlikeAll (PyData.str n :: ns.map PyData.str) := by
      have key : ∀ d ∈ (PyData.str n :: ns.map PyData.str), ∃ i, d = .str i := fun d hd => by
        rcases List.mem_cons.mp hd with rfl | hd
        · exact ⟨_, rfl⟩
        · obtain ⟨i, _, rfl⟩ := List.mem_map.mp hd
          exact ⟨i, rfl⟩
      refine ⟨fun x hx y hy => ?_, fun x hx => ?_⟩
      · obtain ⟨i, rfl⟩ := key x hx
        obtain ⟨j, rfl⟩ := key y hy
        rfl
      · obtain ⟨i, rfl⟩ := key x hx
        exact fun z => nomatch z
    have hd : PyData.depthAll (PyData.str n :: ns.map PyData.str) = 0 := depth_strs (n :: ns)
    refine PySem.W.min_list_data (I.ok.hd hc) hl.isList ra hal (by rw [hd]; omega) fun i v h' tk bs hv hr hk => ?_
    obtain ⟨m, f1, f2, f3⟩ := minD_strs ns n
    rw [f2] at hr
    cases hr
    exact ⟨.str _, H, I.kept hk, ⟨_, rfl⟩, q _ f1 f3⟩
def dMinTx : DN := fun ds st Q => match ds with | [.loc n] => ∃ ns : List Str, st[n]? = some (.lst (ns.map .str)) ∧ 0 < ns.length ∧ ∀ m, m ∈ ns → (∀ y ∈ ns, ltX y m = false) → Q (.str m) st | _ => False
theorem minTx_ok [TC : TabCtx] {K : PySem.W.Frag} : DCl K (rMinTx K) dMinTx := by
  intro H μ st ds vs Qd Q s r h hQ
  unfold dMinTx at h
  split at h
  · rename_i n
    obtain ⟨v, rfl, rv⟩ := reps1 r
    obtain ⟨ns, hn, h1, q⟩ := h
    obtain ⟨a, rfl, ha⟩ := rv
    obtain ⟨a', o, q1, q2, vs, rfl, hr⟩ := s.at' _ _ hn
    rw [ha] at q1; cases q1
    rw [(flats_rep hr (by simp [flatD])).1] at q2
    refine ⟨a, ns, rfl, .inl (.inl (by rw [List.map_map] at q2; exact q2)), h1, fun m hm hy => hQ _ _ _ _ _ (q m hm hy) (Ext.refl _ _) s rfl⟩
  · exact h.elim
theorem de_minTx [TC : TabCtx] {X : Cx} {W : WX} {e : Expr} {es : List Expr} {t : DTA} {pos p : Pos} (hc : X.calm = true) (hu : X.A.units + 64 < cLine) (hg : Gl X "min") (hm : X.mg "min" = none) (ha : DA X W (e :: es) t) (he : starEach (e :: es) X.env = (false, eval e X.env) :: starEach es X.env := by rfl) (hpl : (backTo pos (starEach es X.env)).any (·.1) = false := by rfl) :
    DE X W (.Call (.Name "min" p) (e :: es) [] pos) (dCB dMinTx t) := de_callB (cr_minTx hc hu) minTx_ok hg hm PyProof.Rows.boot_min ha (by decide) (by decide) he hpl
@[simp] theorem s_minTx {n : Nat} {st : Sto} {Q : DK} : dMinTx [.loc n] st Q = ∃ ns : List Str, st[n]? = some (.lst (ns.map .str)) ∧ 0 < ns.length ∧ ∀ m, m ∈ ns → (∀ y ∈ ns, ltX y m = false) → Q (.str m) st := rfl
theorem Ext.grown {H H' : Hp} {μ : List Addr} (k : ∀ b o, H b = some o → H' b = some o) : Ext H H' μ μ := ⟨⟨fun _ _ q => q, fun _ _ q => k _ _ q, fun _ _ _ q => k _ _ q⟩, fun _ _ q _ _ => k _ _ q, fun _ q => .inl q⟩
theorem Ext.take {H H' : Hp} {μ : List Addr} {p : Addr} (x : Ext H H' μ μ) (hp : H p = none) : Ext H H' μ (μ ++ [p]) := ⟨⟨fun n a q => by rw [List.getElem?_append_left (List.getElem?_eq_some_iff.mp q).1]; exact q, x.tup, x.frz⟩, x.fra, fun a q => by
  rcases List.mem_append.mp q with q | q
  · exact .inl q
  · rw [List.mem_singleton.mp q]; exact .inr fun o q => by rw [hp] at q; cases q⟩
theorem tabs_grown {T : List (Addr × Str)} {H H' : Hp} (k : ∀ b o, H b = some o → H' b = some o) (h : LamX.Tabs T H) : LamX.Tabs T H' := fun q hq => by
  obtain ⟨ps, h1, h2, h3⟩ := h q hq
  refine ⟨ps, k _ _ h1, h2, fun pos cv hc => ?_⟩
  obtain ⟨c, e1, e2⟩ := h3 pos cv hc
  exact ⟨c, e1, k _ _ e2⟩
section
variable [TC : TabCtx] {X : Cx} {W : WX} {e : Expr} {te : DTE} {p apos cpos pos : Pos}
theorem rep_key {K : PySem.W.Frag} {H : Hp} {μ : List Addr} (k : Key) : Rep K H μ (dKeyD k) (kV k) := by cases k <;> rfl
theorem reps_items {K : PySem.W.Frag} {H H' : Hp} {μ : List Addr} (x : Ext H H' μ μ) : ∀ {ts : List Addr} {gs : List (Key × V)} {kvs : List (Key × D)}, Paired (fun (t : Addr) (q : Key × V) => H' t = some (.tup [kV q.1, q.2])) ts gs → OKv K H μ kvs gs → Reps K H' μ (kvs.map fun p => .tup [dKeyD p.1, p.2]) (ts.map V.ref)
  | _, _, kvs, .nil, h => by
    have : kvs = [] := List.map_eq_nil_iff.mp h.1
    subst this
    rfl
  | _, _, kvs, .cons h1 h2, h => by
    cases kvs with
    | nil => have := h.1; simp at this
    | cons p kvs =>
      obtain ⟨g1, g2⟩ := h
      simp only [List.map_cons, List.cons.injEq] at g1
      obtain ⟨v, r, hr, r1, r2⟩ := g2
      simp only [List.map_cons, List.cons.injEq] at hr
      obtain ⟨rfl, rfl⟩ := hr
      exact ⟨_, _, rfl, ⟨_, _, rfl, .inl (.inl h1), _, _, rfl, by rw [g1.1]; exact rep_key _, _, _, rfl, r1.mono x, rfl⟩, reps_items x h2 ⟨g1.2, r2⟩⟩
def dListItems (te : DTE) : DTE := fun ρ st Q Z => te ρ st (fun x st1 => ∃ n kvs, x = .loc n ∧ st1[n]? = some (.dK kvs) ∧ Q (.loc st1.length) (st1 ++ [.lst (kvs.map fun p => .tup [dKeyD p.1, p.2])])) Z
theorem de_listItems (hc : X.calm = true) (he : DE X W e te) (hg : Gl X "list") (hm : X.mg "list" = none) (hbase : attributeBase e "items" X.env (eval e X.env) = eval e X.env := by rfl) (hline : (apos.endLine == cpos.line) = true := by rfl)
    (hs : starEach [.Call (.Attribute e "items" apos) [] [] cpos] X.env = (false, eval (.Call (.Attribute e "items" apos) [] [] cpos) X.env) :: starEach [] X.env := by rfl) :
    DE X W (.Call (.Name "list" p) [.Call (.Attribute e "items" apos) [] [] cpos] [] pos) (dListItems te) := pe_weak (LiI.pe_listItems hc he hg hm PyProof.Rows.boot_list hbase hline hs) fun σ H Q ⟨ρ, st, μ, Qd, Z, hS, ht, hQ, hZ⟩ =>
  ⟨ρ, st, μ, _, Z, hS, ht, fun x st1 H1 μ1 v hx e1 s1 rv => by
    obtain ⟨n, kvs, rfl, hn, q⟩ := hx
    obtain ⟨a, rfl, ha⟩ := rv
    obtain ⟨a', o, q1, q2, gs, rfl, r⟩ := s1.at' _ _ hn
    rw [ha] at q1; cases q1
    refine ⟨a, gs, rfl, q2, fun H' p' ts k hp hts hpt hH' hP => ?_⟩
    have x1 : Ext H1 H' μ1 μ1 := Ext.grown k
    have s2 : SRep X.K st1 μ1 H' := s1.ext x1 (fun a o _ q => k a o q) (tabs_grown k s1.tab)
    have s3 := s2.adopt (s1.not_mem hp) hH' (b := .lst (kvs.map fun p => .tup [dKeyD p.1, p.2])) ⟨_, rfl, reps_items x1 hP r⟩
    refine hQ _ _ _ _ _ q (e1.trans (x1.take hp)) s3 ⟨p', rfl, ?_⟩
    rw [s1.len]
    exact getElem?_end _ _, hZ⟩
omit TC in
@[simp] theorem s_listItems {ρ : Env'} {st : Sto} {Q : DK} {Z : DZ} : dListItems te ρ st Q Z = te ρ st (fun x st1 => ∃ n kvs, x = .loc n ∧ st1[n]? = some (.dK kvs) ∧ Q (.loc st1.length) (st1 ++ [.lst (kvs.map fun p => .tup [dKeyD p.1, p.2])])) Z := rfl
end
section
variable [TC : TabCtx] {X : Cx} {W : WX} {pos : Pos}
def gLst' (n : Nat) (t : DTGs) : DTG := fun d ρ st Q => match d with | .loc m => ∃ ds, st[m]? = some (.lst ds) ∧ ds.length = n ∧ t ds ρ st Q | _ => False
theorem dg_lst {es : List Expr} {k n : Nat} {ws : List Nat} {t : DTGs} (hc : X.calm = true) (h : PGs X es (liftGs X.K ws t))
    (hn : (assignEach es X.env).length = n := by rfl) (hst : (assignEach es X.env).findIdx? (·.1) = none := by rfl) : DG X ws (.Tuple es k pos) (gLst' n t) :=
  pg_weak (pg_lst hc h hn hst) fun v σ H Q ⟨d, ρ, st, μ, Qd, hS, rv, ht, hk⟩ => by
    cases d with
    | loc m =>
      obtain ⟨ds, hm, hl, ht⟩ := ht
      obtain ⟨a, rfl, ha⟩ := rv
      obtain ⟨a', o, q1, q2, vs, rfl, hr⟩ := hS.s.at' _ _ hm
      rw [ha] at q1; cases q1
      exact ⟨a, vs, rfl, .inl (.inl q2), by rw [← hr.length]; exact hl, ds, ρ, st, μ, Qd, hS, hr, ht, hk⟩
    | _ => exact ht.elim
omit TC in
@[simp] theorem s_gLst {n m : Nat} {h : DTGs} {ρ : Env'} {st : Sto} {Qn : Env' → Sto → Prop} : gLst' n h (.loc m) ρ st Qn = ∃ ds, st[m]? = some (.lst ds) ∧ ds.length = n ∧ h ds ρ st Qn := rfl
end
end DL
namespace DL
open PySem L2 PySem.Spec
open PyProof.Rows hiding St
open PySem.W (kdl_call kdl_values kdl_vals_eq)
theorem vals_kv : ∀ {gs : List (Key × V)} {vs : List (Key × Value)}, KV gs vs → Vals (gs.map (·.2)) (vs.map (·.2))
  | _, _, .nil => .nil
  | _, _, .cons h t => .cons h.2 (vals_kv t)
def tListVals (te : TE) : TE := fun σ H Q => te σ H fun x H1 => ∃ (d : Addr) (kvs : List (Key × V)), x = .ref d ∧ L2.Rd H1 d (.dK kvs) ∧ ∀ p, H1 p = none → Q (.ref p) (upd H1 p (.lst (kvs.map (·.2))))
section
variable {X : Cx} {e : Expr} {te : TE} {p apos cpos pos : Pos}
theorem pe_listVals (hc : X.calm = true) (he : PE X e te) (hg : Gl X "list") (hm : X.mg "list" = none) (hv : bootBuiltins "list" = some (.type "list")) (hbase : attributeBase e "values" X.env (eval e X.env) = eval e X.env := by rfl) (hline : (apos.endLine == cpos.line) = true := by rfl)
    (hs : starEach [.Call (.Attribute e "values" apos) [] [] cpos] X.env = (false, eval (.Call (.Attribute e "values" apos) [] [] cpos) X.env) :: starEach [] X.env := by rfl) :
    PE X (.Call (.Name "list" p) [.Call (.Attribute e "values" apos) [] [] cpos] [] pos) (tListVals te) := by
  refine ⟨fun pins s σ H Q I hq => ?_⟩
  refine wpAny_Call_Name_kw (ld_blt I hg hm hv ?_)
  refine PyProof.Rows.callWith_type1 ?_ hs rfl
  rw [hs]
  show wpAny _ _ (spliced ((false, eval (.Call (.Attribute e "values" apos) [] [] cpos) X.env) :: backTo pos (starEach [] X.env))) _ _ s
  refine Calls.spliced_cons ?_
  refine wpAny_Call_method (T := "dict") (id := "dict.values") hbase rfl hline F.plainAttrs_dict F.slot_dict_values F.type_dict_values (thn (he.run pins s σ H _ I hq) fun u s1 ⟨x, H1, I1, rx, d, kvs, ex, hd, q⟩ => ?_)
  subst ex
  obtain rfl : u = Value.ref d := rx
  obtain ⟨hz, hs0, vs, kv, hdo⟩ := dk_rd I1.hok hd
  obtain ⟨ep, hat⟩ := hdo.dictAt
  have lk : kvs.length = vs.length := KV.length kv
  have I2 : Inv X pins σ H1 { s1 with heap := s1.heap.push { cls := .type "dict_values", data := .fields #[.ref d] } } := I1.kept (t' := s1.toks) fun b ob q => Heap.get?_push_of_some _ q
  refine ⟨hdo.typeIs, hdo.mapOf.noDict, ?_⟩
  show wpAny _ _ (callWith cpos (.builtin "dict.values") [.ref d] [] []) _ X.xe s1
  refine method_meetsIn F.slot_dict_values F.entry_dict_values rfl (PySem.evalArgs_none ⟨rfl, hdo.typeIs, F.args_dict_values_1 _, _, meets_dict_values (mixKind X.prog X.w) d hs0, ⟨vs, hdo⟩, ?_⟩)
  refine Calls.spliced_nil ?_
  refine kdl_call (kdl_values (knd := mixKind X.prog X.w) (kvs := vs) (ep := ep) (d := d)) (I1.ok.hd hc) ⟨⟨_, Heap.get?_push_size _ rfl, rfl, rfl⟩, hat.push _⟩ (by omega) fun h' tk acc c hk hS hacc => ?_
  have ev : acc.toList = vs.map (·.2) := kdl_vals_eq acc.toList (by rw [Array.length_toList]; exact hacc.1) fun j v e => hacc.2 j v (by rw [← Array.getElem?_toList]; exact e)
  have hg : (s1.heap.push { cls := .type "dict_values", data := .fields #[.ref d] }).get? (s1.heap.push { cls := .type "dict_values", data := .fields #[.ref d] }).objs.size = none := by
    cases eb : (s1.heap.push { cls := .type "dict_values", data := .fields #[.ref d] }).get? (s1.heap.push { cls := .type "dict_values", data := .fields #[.ref d] }).objs.size with
    | none => rfl
    | some ob => exact absurd (Heap.lt_size eb) (Nat.lt_irrefl _)
  have hn : H1 (s1.heap.push { cls := .type "dict_values", data := .fields #[.ref d] }).objs.size = none := I2.hok.gone hg
  refine ⟨.ref _, _, I2.laidN (t' := tk) hk hg hn (o := .lst (kvs.map (·.2))) ⟨by rw [List.length_map]; omega, acc.toList, c, by rw [ev]; exact vals_kv kv, by rw [Array.toArray_toList]; exact hS⟩, rfl, q _ hn⟩
end
section
variable [TC : TabCtx] {X : Cx} {W : WX} {e : Expr} {te : DTE} {p apos cpos pos : Pos}
def dListVals (te : DTE) : DTE := fun ρ st Q Z => te ρ st (fun x st1 => ∃ n kvs, x = .loc n ∧ dkAt st1 n = some kvs ∧ Q (.loc st1.length) (st1 ++ [.lst (kvs.map (·.2))])) Z
theorem de_listVals (hc : X.calm = true) (he : DE X W e te) (hg : Gl X "list") (hm : X.mg "list" = none) (hbase : attributeBase e "values" X.env (eval e X.env) = eval e X.env := by rfl) (hline : (apos.endLine == cpos.line) = true := by rfl)
    (hs : starEach [.Call (.Attribute e "values" apos) [] [] cpos] X.env = (false, eval (.Call (.Attribute e "values" apos) [] [] cpos) X.env) :: starEach [] X.env := by rfl) :
    DE X W (.Call (.Name "list" p) [.Call (.Attribute e "values" apos) [] [] cpos] [] pos) (dListVals te) := pe_weak (pe_listVals hc he hg hm PyProof.Rows.boot_list hbase hline hs) fun σ H Q ⟨ρ, st, μ, Qd, Z, hS, ht, hQ, hZ⟩ =>
  ⟨ρ, st, μ, _, Z, hS, ht, fun x st1 H1 μ1 v hx e1 s1 rv => by
    obtain ⟨n, kvs, rfl, hn, q⟩ := hx
    obtain ⟨a, rfl, ha⟩ := rv
    obtain ⟨gs, hr, okv⟩ := dk_rep s1 ha hn
    refine ⟨a, gs, rfl, hr, fun p hp => ?_⟩
    exact hQ.lst e1 s1 okv.2 q hp, hZ⟩
omit TC in
@[simp] theorem s_listVals {ρ : Env'} {st : Sto} {Q : DK} {Z : DZ} : dListVals te ρ st Q Z = te ρ st (fun x st1 => ∃ n kvs, x = .loc n ∧ dkAt st1 n = some kvs ∧ Q (.loc st1.length) (st1 ++ [.lst (kvs.map (·.2))])) Z := rfl
end
end DL
namespace DL
open PySem L2 PySem.Spec
open PyProof.Rows hiding St
variable [TC : TabCtx]
section
variable {X : Cx} {W : WX} {a b c e tg : Expr} {ta tb tc te : DTE} {pos : Pos} {s : Stmt} {rest : List Stmt} {t u : DTS}
/-- the inner walk: K what follows it -/
def runI (g : DTG) (tt : DTT) (te : DTE) (ρ : Env') (G : Sto → Prop) (K : List D → Sto → Prop) : List D → List D → Sto → Prop
  | [], acc, st => G st ∧ K acc st
  | d :: ds, acc, st => G st ∧ g d ρ st fun ρ2 st2 => tt ρ2 st2 (fun b st3 => if b = true then te ρ2 st3 (fun y st4 => acc.length < sizeLine ∧ runI g tt te ρ G K ds (acc ++ [y]) st4) Z0 else runI g tt te ρ G K ds acc st3) Z0
def runC2 (g : DTG) (tt : DTT) (it1 : DTI) (g1 : DTG) (tt1 : DTT) (te : DTE) (ρ : Env') (vs1 : List Nat) (Q : DK) (G : Sto → Prop) : List D → List D → Sto → Prop
  | [], acc, st => G st ∧ Q (.loc st.length) (st ++ [.lst acc])
  | d :: ds, acc, st => G st ∧ g d ρ st fun ρ2 st2 => tt ρ2 st2 (fun b st3 => if b = true then it1 ρ2 st3 (fun items1 G1 st4 => runI g1 tt1 te (wipeD ρ2 vs1) G1 (fun acc' st5 => runC2 g tt it1 g1 tt1 te ρ vs1 Q G ds acc' st5) items1 acc st4) Z0 else runC2 g tt it1 g1 tt1 te ρ vs1 Q G ds acc st3) Z0
theorem Ext0.trans0 {H H1 H2 : Hp} {μ μ1 μ2 : List Addr} (x : Ext0 H H1 μ μ1) (y : Ext0 H1 H2 μ1 μ2) : Ext0 H H2 μ μ2 := ⟨fun n a h => y.pre n a (x.pre n a h), fun a xs h => y.tup a xs (x.tup a xs h), fun a o u h => y.frz a o u (x.frz a o u h)⟩
theorem ERep.mono0 {K : PySem.W.Frag} {H H' : Hp} {μ μ' : List Addr} {ρ : Env'} {σ : St} (h : ERep K H μ ρ σ) (x : Ext0 H H' μ μ') : ERep K H' μ' ρ σ := ⟨h.len, fun i d e => by
  obtain ⟨v, e1, r⟩ := h.at' i d e
  exact ⟨v, e1, r.mono0 x⟩⟩
theorem li_ex {g : DTG} {tt : DTT} {te : DTE} {G : Sto → Prop} {K : List D → Sto → Prop} {items : List D} {ρ : Env'} {acc0 : List D} {st : Sto} (h : runI g tt te ρ G K items acc0 st) : ∃ I : Nat → List D → Sto → Prop, I 0 acc0 st ∧ (∀ i acc st, i ≤ items.length → I i acc st → G st) ∧
    (∀ i d acc st, items[i]? = some d → I i acc st → g d ρ st fun ρ2 st2 => tt ρ2 st2 (fun b st3 => if b = true then te ρ2 st3 (fun y st4 => acc.length < sizeLine ∧ I (i + 1) (acc ++ [y]) st4) Z0 else I (i + 1) acc st3) Z0) ∧
    ∀ acc st, I items.length acc st → K acc st := by
  refine ⟨fun i => runI g tt te ρ G K (items.drop i), h, fun i acc st _ hi => ?_, fun i d acc st hd hi => ?_, fun acc st hi => ?_⟩
  · dsimp only at hi
    cases e : items.drop i <;> (rw [e] at hi; exact hi.1)
  · dsimp only at hi
    rw [drop_at hd] at hi
    exact hi.2
  · dsimp only at hi
    rw [List.drop_length] at hi
    exact hi.2
theorem lc2_ex {g : DTG} {tt : DTT} {it1 : DTI} {g1 : DTG} {tt1 : DTT} {te : DTE} {vs1 : List Nat} {Q : DK} {G : Sto → Prop} {items : List D} {ρ : Env'} {st : Sto} (h : runC2 g tt it1 g1 tt1 te ρ vs1 Q G items [] st) : ∃ I : Nat → List D → Sto → Prop, I 0 [] st ∧ (∀ i acc st, i ≤ items.length → I i acc st → G st) ∧
    (∀ i d acc st, items[i]? = some d → I i acc st → g d ρ st fun ρ2 st2 => tt ρ2 st2 (fun b st3 => if b = true then it1 ρ2 st3 (fun items1 G1 st4 => runI g1 tt1 te (wipeD ρ2 vs1) G1 (fun acc' st5 => I (i + 1) acc' st5) items1 acc st4) Z0 else I (i + 1) acc st3) Z0) ∧
    ∀ acc st, I items.length acc st → Q (.loc st.length) (st ++ [.lst acc]) := by
  refine ⟨fun i => runC2 g tt it1 g1 tt1 te ρ vs1 Q G (items.drop i), h, fun i acc st _ hi => ?_, fun i d acc st hd hi => ?_, fun acc st hi => ?_⟩
  · dsimp only at hi
    cases e : items.drop i <;> (rw [e] at hi; exact hi.1)
  · dsimp only at hi
    rw [drop_at hd] at hi
    exact hi.2
  · dsimp only at hi
    rw [List.drop_length] at hi
    exact hi.2
def dLc2 (it : DTI) (g : DTG) (tt : DTT) (it1 : DTI) (g1 : DTG) (tt1 : DTT) (te : DTE) (own vs1 : List Nat) : DTE := fun ρ st Q Z => it ρ st (fun items G st1 => runC2 g tt it1 g1 tt1 te (wipeD ρ own) vs1 Q G items [] st1) Z
section
variable {ifs ifs1 : List Expr} {scope : Scope} {own : List (Str × Nat)} {it it1 : DTI} {g g1 : DTG} {ws ws1 vs1 : List Nat} {tt tt1 : DTT}
theorem lc2_lift {K : PySem.W.Frag} (hw : ∀ w ∈ ws, w ∈ own.map (·.2)) (hw1 : ∀ w ∈ ws1, w ∈ vs1) (σ : St) (H : Hp) (Q : VK) (h : liftE K W (dLc2 it g tt it1 g1 tt1 te (own.map (·.2)) vs1) σ H Q) :
    tLc2 (liftI K W it) (liftG K ws g) (liftT K W0 tt) (liftI K W0 it1) (liftG K ws1 g1) (liftT K W0 tt1) (liftE K W0 te) (own.map (·.2)) vs1 σ H Q := by
  obtain ⟨ρ, st, μ, Qd, Z, hS, ht, hQ, hZ⟩ := h
  refine ⟨ρ, st, μ, _, Z, hS, ht, hZ, fun items G st1 H1 μ1 J hx e1 s1 hJ D hD => ?_⟩
  obtain ⟨I, h0, hG, hstep, hend⟩ := lc2_ex hx
  refine ⟨fun i m H' => m = items.length - i ∧ i ≤ items.length ∧ ∃ acc va st' μ', I i acc st' ∧ Ext H1 H' μ1 μ' ∧ SRep K st' μ' H' ∧ Reps K H' μ' acc va ∧ H' D = some (.lst va) ∧ D ∉ μ',
    ⟨_, rfl, Nat.zero_le _, [], [], st1, μ1, h0, Ext.laid hD, s1.laid hD, rfl, upd_same, s1.not_mem hD⟩, ?_⟩
  rintro i m H' ⟨rfl, hil, acc, va, st', μ', hI, e2, s2, r2, d2, n2⟩
  by_cases hlt : i < items.length
  · have hd : items[i]? = some items[i] := List.getElem?_eq_getElem hlt
    obtain ⟨hgo, hy⟩ := hJ.go i H' μ' st' _ e2.toExt0 s2 (hG i acc st' hil hI) hd
    refine .inr ⟨hgo, fun H3 => ∃ acc va st' μ', I (i + 1) acc st' ∧ Ext H1 H3 μ1 μ' ∧ SRep K st' μ' H3 ∧ Reps K H3 μ' acc va ∧ H3 D = some (.lst va) ∧ D ∉ μ', fun H3 q => ⟨_, by omega, rfl, hlt, q⟩, fun x H3 hx => ?_⟩
    obtain ⟨e3, s3, r3, _⟩ := hy x H3 hx
    obtain ⟨d3, n3⟩ := e3.keep d2 n2
    refine ⟨_, wipeD ρ (own.map (·.2)), st', μ', _, ⟨(hS.e.mono ((e1.trans e2).trans e3)).wipe _, s3⟩, r3, hstep i _ acc st' hd hI, fun ρ4 st4 σ4 H4 μ4 q e4 s4 hw4 => ?_⟩
    obtain ⟨d4, n4⟩ := e4.keep d3 n3
    refine ⟨(hw4 _ hw).trans (wipe_idem _ _), ρ4, st4, μ4, _, Z0, s4, q, fun k st5 H5 μ5 q5 e5 s5 => ?_, ZOk.no⟩
    obtain ⟨d5, n5⟩ := e5.keep d4 n4
    cases k with
    | true =>
      refine iteT ⟨ρ4, st5, μ5, _, Z0, s4.mono e5 s5, q5, ZOk.no, fun items1 G1 st6 H6 μ6 J1 q6 e6 s6 hJ1 => ?_⟩
      obtain ⟨d6, n6⟩ := e6.keep d5 n5
      have ex6 : Ext H' H6 μ' μ6 := ((e3.trans e4).trans e5).trans e6
      have S6 : Stt K ρ4 st6 μ6 σ4 H6 := (s4.mono e5 s5).mono e6 s6
      obtain ⟨I1, h01, hG1, hstep1, hend1⟩ := li_ex q6
      refine ⟨fun j m H7 => m = items1.length - j ∧ j ≤ items1.length ∧ ∃ acc va st7 μ7, I1 j acc st7 ∧ Ext H1 H7 μ1 μ7 ∧ Ext0 H6 H7 μ6 μ7 ∧ Stt K (wipeD ρ4 vs1) st7 μ7 (wipe σ4 vs1) H7 ∧ Reps K H7 μ7 acc va ∧ H7 D = some (.lst va) ∧ D ∉ μ7,
        ⟨_, rfl, Nat.zero_le _, acc, va, st6, μ6, h01, e2.trans ex6, ⟨fun _ _ q => q, fun _ _ q => q, fun _ _ _ q => q⟩, ⟨S6.e.wipe _, S6.s⟩, r2.mono ex6, d6, n6⟩, ?_⟩
      rintro j m7 H7 ⟨rfl, hjl, acc7, va7, st7, μ7, hI7, e27, e07, s7, r7, d7, n7⟩
      by_cases hlt1 : j < items1.length
      · have hd1 : items1[j]? = some items1[j] := List.getElem?_eq_getElem hlt1
        obtain ⟨hgo1, hy1⟩ := hJ1.go j H7 μ7 st7 _ e07 s7.s (hG1 j acc7 st7 hjl hI7) hd1
        refine .inr ⟨hgo1, fun H8 => ∃ acc va st8 μ8, I1 (j + 1) acc st8 ∧ Ext H1 H8 μ1 μ8 ∧ Ext0 H6 H8 μ6 μ8 ∧ Stt K (wipeD ρ4 vs1) st8 μ8 (wipe σ4 vs1) H8 ∧ Reps K H8 μ8 acc va ∧ H8 D = some (.lst va) ∧ D ∉ μ8, fun H8 q => ⟨_, by omega, rfl, hlt1, q⟩, fun x8 H8 hx8 => ?_⟩
        obtain ⟨e8, s8, r8, _⟩ := hy1 x8 H8 hx8
        obtain ⟨d8, n8⟩ := e8.keep d7 n7
        refine ⟨_, wipeD ρ4 vs1, st7, μ7, _, s7.mono e8 s8, r8, hstep1 j _ acc7 st7 hd1 hI7, fun ρ9 st9 σ9 H9 μ9 q9 e9 s9 hw9 => ?_⟩
        obtain ⟨d9, n9⟩ := e9.keep d8 n8
        refine ⟨(hw9 _ hw1).trans (wipe_idem _ _), ρ9, st9, μ9, _, Z0, s9, q9, fun k1 st10 H10 μ10 q10 e10 s10 => ?_, ZOk.no⟩
        obtain ⟨d10, n10⟩ := e10.keep d9 n9
        cases k1 with
        | true =>
          refine iteT ⟨ρ9, st10, μ10, _, Z0, s9.mono e10 s10, q10, fun y st11 H11 μ11 v q11 e11 s11 r11 => ?_, ZOk.no⟩
          obtain ⟨d11, n11⟩ := e11.keep d10 n10
          have ex : Ext H7 H11 μ7 μ11 := ((e8.trans e9).trans e10).trans e11
          have ra := r7.mono ex
          have x0 : Ext0 H11 (upd H11 D (.lst (va7 ++ [v]))) μ11 μ11 := Ext0.out d11 _
          have y0 : Ext0 H6 H11 μ6 μ11 := e07.trans0 ex.toExt0
          exact ⟨va7, d11, by rw [← r7.length]; exact q11.1, acc7 ++ [y], va7 ++ [v], st11, μ11, q11.2, (e27.trans ex).out hD _, y0.trans0 x0, ⟨(s7.e.mono ex).mono0 x0, s11.out n11 d11 _⟩, (ra.append (Reps.one r11)).mono0 x0, upd_same, n11⟩
        | false =>
          have ex : Ext H7 H10 μ7 μ10 := (e8.trans e9).trans e10
          exact iteF ⟨acc7, va7, st10, μ10, q10, e27.trans ex, e07.trans0 ex.toExt0, s7.mono ex s10, r7.mono ex, d10, n10⟩
      · have he : j = items1.length := by omega
        subst he
        exact .inl ⟨hJ1.stop H7 μ7 st7 e07 s7.s (hG1 _ acc7 st7 hjl hI7), acc7, va7, st7, μ7, hend1 _ _ hI7, e27, s7.s, r7, d7, n7⟩
    | false =>
      have ex : Ext H' H5 μ' μ5 := (e3.trans e4).trans e5
      exact iteF ⟨acc, va, st5, μ5, q5, e2.trans ex, s5, r2.mono ex, d5, n5⟩
  · have he : i = items.length := by omega
    subst he
    refine .inl ⟨hJ.stop H' μ' st' e2.toExt0 s2 (hG _ acc st' hil hI), ?_⟩
    refine hQ _ _ _ _ _ (hend _ _ hI) (e1.trans ⟨⟨fun n a q => ?_, e2.tup, e2.frz⟩, e2.fra, fun a q => ?_⟩) (s2.adopt n2 d2 ⟨va, rfl, r2⟩) ⟨D, rfl, by rw [s2.len]; exact getElem?_end _ _⟩
    · have := e2.pre n a q
      rw [List.getElem?_append_left (List.getElem?_eq_some_iff.mp this).1]; exact this
    · rcases List.mem_append.mp q with q | q
      · exact e2.new a q
      · rw [List.mem_singleton.mp q]; exact .inr fun o q => by rw [hD] at q; cases q
theorem ds_setLc2 {elt tg1 e1 : Expr} {i : Nat} {y : Str} {py spos : Pos} (hc : X.calm = true) (hN : X.N.Nodup) (hy : X.N[i]? = some y) (hyl : X.env.scope.names.lookup y = some .local)
    (hsw : swapsWith (.ListComp elt [⟨tg, e, ifs, 0⟩, ⟨tg1, e1, ifs1, 0⟩] scope pos) (some (.Name y py)) spos.line X.env = pure true) (hi : DI X W tg e it) (ok : BlkOk X.N X.env.scope scope own) (hw : ∀ w ∈ ws, w ∈ own.map (·.2)) (hv : ∀ i ∈ vs1, i ∈ own.map (·.2)) (hw1 : ∀ w ∈ ws1, w ∈ vs1)
    (hg : ∀ (s : Shared) (H : Hp) (C : Addr) (cl : List (Str × Addr)) (fp : List Addr), DG (X.blk s H scope (compEnvC scope cl C X.env) fp) ws tg g) (ht : ∀ (s : Shared) (H : Hp) (C : Addr) (cl : List (Str × Addr)) (fp : List Addr), PTs (X.blk s H scope (compEnvC scope cl C X.env) fp) ifs (liftT X.K W0 tt))
    (hi1 : ∀ (s : Shared) (H : Hp) (C : Addr) (cl : List (Str × Addr)) (fp : List Addr), DI (X.blk s H scope (compEnvC scope cl C X.env) fp) W0 tg1 e1 it1)
    (hg1 : ∀ (s : Shared) (H : Hp) (C : Addr) (cl : List (Str × Addr)) (fp : List Addr), DG (X.blk s H scope (compEnvC scope cl C X.env) fp) ws1 tg1 g1) (ht1 : ∀ (s : Shared) (H : Hp) (C : Addr) (cl : List (Str × Addr)) (fp : List Addr), PTs (X.blk s H scope (compEnvC scope cl C X.env) fp) ifs1 (liftT X.K W0 tt1))
    (he : ∀ (s : Shared) (H : Hp) (C : Addr) (cl : List (Str × Addr)) (fp : List Addr), DE (X.blk s H scope (compEnvC scope cl C X.env) fp) W0 elt te) (hs : ∀ x, foldedSetIterable e X.env x = pure x := by intro _; rfl) (hs1 : ∀ env x, foldedSetIterable e1 env x = pure x := by intro _ _; rfl) :
    DS X W (.Assign [.Name y py] (.ListComp elt [⟨tg, e, ifs, 0⟩, ⟨tg1, e1, ifs1, 0⟩] scope pos) spos) (dAsg (dLc2 it g tt it1 g1 tt1 te (own.map (·.2)) vs1) (gN i)) := ps_weak (ps_setLc2 hc hN hy hyl hsw hi ok hv hg ht hi1 hg1 ht1 he hs hs1) fun D σ H ⟨ρ, st, μ, DD, hS, ht, hO⟩ =>
  lc2_lift (W := W) hw hw1 σ H _ ⟨ρ, st, μ, _, _, hS, ht, fun x st1 H1 μ1 v hx e1 s1 rv => hO.nx _ _ _ _ _ hx e1 ⟨(hS.e.mono e1).set i rv, s1⟩, hO.xs⟩
omit TC in
@[simp] theorem s_lc2 {own vs1 : List Nat} {ρ : Env'} {st : Sto} {Q : DK} {Z : DZ} : dLc2 it g tt it1 g1 tt1 te own vs1 ρ st Q Z = it ρ st (fun items G st1 => runC2 g tt it1 g1 tt1 te (wipeD ρ own) vs1 Q G items [] st1) Z := rfl
end
end
end DL
namespace DL
open PySem L2 PySem.Spec
open PyProof.Rows hiding St
def dLenK : DN := fun ds st Q => match ds with | [.loc n] => ∃ kvs, st[n]? = some (.dK kvs) ∧ Q (.int kvs.length) st | _ => False
theorem lenK_ok [TC : TabCtx] {K : PySem.W.Frag} : DCl K (fun xs H Q => ∃ a kvs, xs = [V.ref a] ∧ H a = some (.dK kvs) ∧ Q (.int kvs.length) H) dLenK := by
  intro H μ st ds vs Qd Q s r h hQ
  unfold dLenK at h
  split at h
  · rename_i n
    obtain ⟨v, rfl, rv⟩ := reps1 r
    obtain ⟨kvs, hn, q⟩ := h
    obtain ⟨a, rfl, ha⟩ := rv
    obtain ⟨a', o, q1, q2, gs, rfl, okv⟩ := s.at' _ _ hn
    rw [ha] at q1; cases q1
    rw [okv_len okv] at q
    exact ⟨a, gs, rfl, q2, hQ _ _ _ _ _ q (Ext.refl _ _) s rfl⟩
  · exact h.elim
theorem de_lenK [TC : TabCtx] {X : Cx} {W : WX} {e : Expr} {es : List Expr} {t : DTA} {pos p : Pos} (hg : Gl X "len") (hm : X.mg "len" = none) (ha : DA X W (e :: es) t) (he : starEach (e :: es) X.env = (false, eval e X.env) :: starEach es X.env := by rfl) (hpl : (backTo pos (starEach es X.env)).any (·.1) = false := by rfl) :
    DE X W (.Call (.Name "len" p) (e :: es) [] pos) (dCB dLenK t) := de_callB call_lenD lenK_ok hg hm PySem.boot_len ha (by decide) (by decide) he hpl
@[simp] theorem s_lenK {n : Nat} {st : Sto} {Q : DK} : dLenK [.loc n] st Q = ∃ kvs, st[n]? = some (.dK kvs) ∧ Q (.int kvs.length) st := rfl
end DL
namespace RD
open PySem L2 PySem.Spec DL
open PyProof.Rows hiding St
abbrev N_is_integer : List Str := ["thing"]
def t_is_integer : DTS := (dRet (dAndV (dIsi (dVar 0) ["int"]) (dNotV (dIsi (dVar 0) ["bool"]))))
abbrev N_is_number : List Str := ["thing"]
def t_is_number (s_is_integer : DSp) : DTS := (dRet (dAndV (dCall 1 s_is_integer (dCons (dVar 0) dNil)) (dOp dGe (dVar 0) (dC (.int 0)))))
abbrev N_is_names : List Str := ["thing", "ahead", "name"]
def b_is_names_1 (s_is_name : DSp) : DTS := (dSeq (dIfS (dOr (dNot (dTru (dCall 1 s_is_name (dCons (dVar 2) dNil)))) (dTest (dOp dLe (dVar 2) (dVar 1)))) (dRet (dC (.bl false))) dNext)
    (dAsg (dVar 2) (gN 1)))
def t_is_names (s_is_name : DSp) : DTS := (dSeq (dIfS (dNot (dTru (dIsi (dVar 0) ["tuple"]))) (dRet (dC (.bl false))) dNext)
    (dSeq (dAsg (dC (.str "")) (gN 1))
    (dSeq (dFor (iD (dVar 0)) (gN 2) (b_is_names_1 s_is_name))
    (dRet (dC (.bl true))))))
abbrev N_is_wanted : List Str := ["thing"]
def t_is_wanted (s_is_names : DSp) : DTS := (dRet (dAndV (dCall 1 s_is_names (dCons (dVar 0) dNil)) (dOp dLe (dCB dLen (dCons (dVar 0) dNil)) (dC (.int 4)))))
abbrev N_is_tuple_of : List Str := ["many", "thing"]
def t_is_tuple_of : DTS := (dRet (dAndV (dIsi (dVar 1) ["tuple"]) (dOp dEq (dCB dLen (dCons (dVar 1) dNil)) (dVar 0))))
abbrev N_is_tuple_within : List Str := ["most", "thing"]
def t_is_tuple_within : DTS := (dRet (dAndV (dIsi (dVar 1) ["tuple"]) (dOp dLe (dCB dLen (dCons (dVar 1) dNil)) (dVar 0))))
abbrev N_is_version : List Str := ["thing", "number"]
def b_is_version_1 (s_is_number : DSp) (s_is_tuple_of : DSp) : DTS := (dIfS (dOr (dNot (dTru (dCall 1 s_is_number (dCons (dVar 1) dNil)))) (dTest (dOp dGt (dVar 1) (dC (.int 1000000))))) (dRet (dC (.bl false))) dNext)
def t_is_version (s_is_number : DSp) (s_is_tuple_of : DSp) : DTS := (dSeq (dIfS (dNot (dTru (dCall 2 s_is_tuple_of (dCons (dC (.int 3)) (dCons (dVar 0) dNil))))) (dRet (dC (.bl false))) dNext)
    (dSeq (dFor (iD (dVar 0)) (gN 1) (b_is_version_1 s_is_number s_is_tuple_of))
    (dRet (dC (.bl true)))))
abbrev N_is_stretch : List Str := ["thing", "low", "high"]
def t_is_stretch (s_is_tuple_of : DSp) (s_is_version : DSp) : DTS := (dSeq (dIfS (dNot (dTru (dCall 2 s_is_tuple_of (dCons (dC (.int 2)) (dCons (dVar 0) dNil))))) (dRet (dC (.bl false))) dNext)
    (dSeq (dAsg (dVar 0) (gTup' 2 (gCons' (gN 1) (gCons' (gN 2) gNil'))))
    (dSeq (dIfS (dNot (dTru (dCall 1 s_is_version (dCons (dVar 1) dNil)))) (dRet (dC (.bl false))) dNext)
    (dRet (dOrV (dOp (dIsN id) (dVar 2) (dC (.non))) (dAndV (dCall 1 s_is_version (dCons (dVar 2) dNil)) (dOp dLt (dVar 1) (dVar 2))))))))
abbrev N_is_range : List Str := ["thing", "at", "pair"]
def b_is_range_1 (s_is_stretch : DSp) (s_reaches : DSp) : DTS := (dSeq (dIfS (dNot (dTru (dCall 1 s_is_stretch (dCons (dVar 2) dNil)))) (dRet (dC (.bl false))) dNext)
    (dIfS (dAnd (dTest (dOp dGt (dVar 1) (dC (.int 0)))) (dTru (dCall 2 s_reaches (dCons (dOp dIx (dOp dIx (dVar 0) (dOp dSub (dVar 1) (dC (.int 1)))) (dC (.int 1))) (dCons (dOp dIx (dVar 2) (dC (.int 0))) dNil))))) (dRet (dC (.bl false))) dNext))
def t_is_range (s_is_stretch : DSp) (s_reaches : DSp) : DTS := (dSeq (dIfS (dNot (dTru (dIsi (dVar 0) ["tuple"]))) (dRet (dC (.bl false))) dNext)
    (dSeq (dFor (iEn (dCons (dVar 0) dNil)) (gTup' 2 (gCons' (gN 1) (gCons' (gN 2) gNil'))) (b_is_range_1 s_is_stretch s_reaches))
    (dRet (dC (.bl true)))))
abbrev N_reaches : List Str := ["high", "low"]
def t_reaches : DTS := (dRet (dOrV (dOp (dIsN id) (dVar 0) (dC (.non))) (dOp dLe (dVar 1) (dVar 0))))
abbrev N_wrong_part_k09 : List Str := ["wishes", "locks", "at", "wish"]
def b_wrong_part_k09_1 (s_is_tuple_within : DSp) (s_is_wish : DSp) (s_is_locks : DSp) : DTS := (dIfS (dNot (dTru (dCall 1 s_is_wish (dCons (dVar 3) dNil)))) (dRet (dTup (dCons (dC (.str "wish")) (dCons (dVar 2) dNil)))) dNext)
def t_wrong_part_k09 (s_is_tuple_within : DSp) (s_is_wish : DSp) (s_is_locks : DSp) : DTS := (dSeq (dIfS (dNot (dTru (dCall 2 s_is_tuple_within (dCons (dC (.int 8)) (dCons (dVar 0) dNil))))) (dRet (dC (.str "wishes"))) dNext)
    (dSeq (dFor (iEn (dCons (dVar 0) dNil)) (gTup' 2 (gCons' (gN 2) (gCons' (gN 3) gNil'))) (b_wrong_part_k09_1 s_is_tuple_within s_is_wish s_is_locks))
    (dSeq (dIfS (dNot (dTru (dCall 1 s_is_locks (dCons (dVar 1) dNil)))) (dRet (dC (.str "locks"))) dNext)
    (dRet (dC (.non))))))
abbrev N_is_wish : List Str := ["thing"]
def t_is_wish (s_is_name : DSp) (s_is_wanted : DSp) (s_is_tuple_of : DSp) (s_is_range : DSp) : DTS := (dRet (dAndV (dCall 2 s_is_tuple_of (dCons (dC (.int 3)) (dCons (dVar 0) dNil))) (dAndV (dCall 1 s_is_name (dCons (dOp dIx (dVar 0) (dC (.int 0))) dNil)) (dAndV (dCall 1 s_is_range (dCons (dOp dIx (dVar 0) (dC (.int 1))) dNil)) (dCall 1 s_is_wanted (dCons (dOp dIx (dVar 0) (dC (.int 2))) dNil))))))
abbrev N_is_locks : List Str := ["thing", "lock"]
def b_is_locks_1 (s_is_names : DSp) (s_is_tuple_of : DSp) (s_is_tuple_within : DSp) (s_is_version : DSp) : DTS := (dIfS (dOr (dNot (dTru (dCall 2 s_is_tuple_of (dCons (dC (.int 2)) (dCons (dVar 1) dNil))))) (dNot (dTru (dCall 1 s_is_version (dCons (dOp dIx (dVar 1) (dC (.int 1))) dNil))))) (dRet (dC (.bl false))) dNext)
def e_is_locks_2 (s_is_names : DSp) (s_is_tuple_of : DSp) (s_is_tuple_within : DSp) (s_is_version : DSp) : DTE := (dOp dIx (dVar 1) (dC (.int 0)))
def t_is_locks (s_is_names : DSp) (s_is_tuple_of : DSp) (s_is_tuple_within : DSp) (s_is_version : DSp) : DTS := (dSeq (dIfS (dNot (dTru (dCall 2 s_is_tuple_within (dCons (dC (.int 40)) (dCons (dVar 0) dNil))))) (dRet (dC (.bl false))) dNext)
    (dSeq (dFor (iD (dVar 0)) (gN 1) (b_is_locks_1 s_is_names s_is_tuple_of s_is_tuple_within s_is_version))
    (dRet (dCall 1 s_is_names (dCons (dCB dTupOf (dCons (dLc (iD (dVar 0)) (gN 1) dYes (e_is_locks_2 s_is_names s_is_tuple_of s_is_tuple_within s_is_version) [1]) dNil)) dNil)))))
end RD
namespace RD
open PySem L2 PySem.Spec DL
open PyProof.Rows hiding St
abbrev N_is_name : List Str := ["thing"]
def t_is_name : DTS := (dSeq (dIfS (dOr (dNot (dTru (dIsi (dVar 0) ["str"]))) (dTest (dOp dGt (dCB dLen (dCons (dVar 0) dNil)) (dC (.int 12))))) (dRet (dC (.bl false))) dNext)
    (dRet (dAndV (dBM "str" (dStr0 Txt.isascii) (dVar 0) dNil) (dAndV (dBM "str" (dStr0 Txt.isalpha) (dVar 0) dNil) (dBM "str" (dStr0 Txt.islower) (dVar 0) dNil)))))
end RD
namespace RD
open PySem L2 PySem.Spec DL
open PyProof.Rows hiding St
abbrev N_Question___init___k14 : List Str := ["self", "wishes", "locks", "part"]
def t_Question___init___k14 [ErrCtx] (s_wrong_part : DSp) : DTS := (dSeq (dAsg (dCall 2 s_wrong_part (dCons (dVar 1) (dCons (dVar 2) dNil))) (gN 3))
    (dSeq (dIfS (dTest (dOp (dIsN not) (dVar 3) (dC (.non)))) dNever dNext)
    (dSeq (dSetF "wishes" [102] (dVar 0) (dVar 1))
    (dSetF "locks" [102] (dVar 0) (dVar 2)))))
abbrev N_Question___eq__ : List Str := ["self", "other"]
def t_Question___eq__ [ErrCtx] : DTS := (dRet (dAndV (dIsC [102] 102 (dVar 1)) (dAndV (dOp dEq (dFld "wishes" [102] (dVar 0)) (dFld "wishes" [102] (dVar 1))) (dOp dEq (dFld "locks" [102] (dVar 0)) (dFld "locks" [102] (dVar 1))))))
end RD
namespace RD
open PySem L2 PySem.Spec DL
open PyProof.Rows hiding St
abbrev N__law_any : List Str := ["hand", "things"]
def t__law_any (s__law_draw : DSp) : DTS := (dRet (dOp dIx (dVar 1) (dCall 2 s__law_draw (dCons (dVar 0) (dCons (dCB dLen (dCons (dVar 1) dNil)) dNil)))))
end RD
namespace DL
open PySem L2 PySem.Spec
open PyProof.Rows hiding St
variable [TC : TabCtx]
section
variable {K : PySem.W.Frag} {H : Hp} {μ : List Addr}
omit TC in
theorem lookup_none {α : Type} {f : Str} : ∀ {fs : List (Str × α)}, fs.lookup f = none ↔ f ∉ fs.map (·.1)
  | [] => by simp
  | (g, x) :: fs => by
    rw [List.lookup_cons, List.map_cons, List.mem_cons, not_or, ← lookup_none (fs := fs)]
    by_cases h : f = g
    · simp [h]
    · rw [show (f == g) = false from beq_eq_false_iff_ne.mpr h]
      simp [h]
theorem OFs.none {fs : List (Str × D)} {gs : List (Str × V)} (r : OFs K H μ fs gs) {f : Str} (h : fs.lookup f = none) : gs.lookup f = none := by
  rw [lookup_none] at h ⊢
  rw [← r.1]
  exact h
end
end DL
namespace DL
open PySem L2 PySem.Spec
open PyProof.Rows hiding St
end DL
namespace L2
open PySem PySem.Spec PyProof.Rows
end L2
namespace DL
open PySem L2 PySem.Spec
open PyProof.Rows hiding St
end DL
namespace RD
open PySem L2 PySem.Spec DL
open PyProof.Rows hiding St
abbrev N_by_name : List Str := ["rows", "found", "row"]
def b_by_name_1 : DTS := (dAsg (dTup (dStar (dDGet2A (dVar 1) (dOp dIx (dVar 2) (dC (.int 0))) (dTup dNil)) (dCons (dVar 2) dNil))) (gSub' (dVar 1) (dOp dIx (dVar 2) (dC (.int 0))) dSetK))
def t_by_name : DTS := (dSeq (dAsg dDict0 (gN 1))
    (dSeq (dFor (iD (dVar 0)) (gN 2) (b_by_name_1))
    (dRet (dVar 1))))
abbrev N_settled : List Str := ["base", "mine", "theirs"]
def t_settled : DTS := (dSeq (dIfS (dTest (dOp dEq (dVar 1) (dVar 0))) (dRet (dVar 2)) dNext)
    (dSeq (dIfS (dOr (dTest (dOp dEq (dVar 2) (dVar 0))) (dTest (dOp dEq (dVar 1) (dVar 2)))) (dRet (dVar 1)) dNext)
    (dRet (dC (.non)))))
abbrev N_merged_rows : List Str := ["base", "mine", "theirs", "sides", "rows", "found", "side", "name"]
def e_merged_rows_1 (s_by_name : DSp) (s_settled : DSp) : DTE := (dCall 1 s_by_name (dCons (dVar 4) dNil))
def b_merged_rows_2 (s_by_name : DSp) (s_settled : DSp) : DTS := (dIfS (dTest (dOp (dInD true) (dVar 7) (dVar 5))) (dAsg (dCall 3 s_settled (dCons (dDGet2A (dOp dIx (dVar 3) (dC (.int 0))) (dVar 7) (dTup dNil)) (dCons (dDGet2A (dOp dIx (dVar 3) (dC (.int 1))) (dVar 7) (dTup dNil)) (dCons (dDGet2A (dOp dIx (dVar 3) (dC (.int 2))) (dVar 7) (dTup dNil)) dNil)))) (gSub' (dVar 5) (dVar 7) dSetK)) dNext)
def b_merged_rows_3 (s_by_name : DSp) (s_settled : DSp) : DTS := (dFor (iKF (dFrz (dVar 6))) (gN 7) (b_merged_rows_2 s_by_name s_settled))
def t_merged_rows (s_by_name : DSp) (s_settled : DSp) : DTS := (dSeq (dAsg (dLc (iD (dTup (dCons (dVar 0) (dCons (dVar 1) (dCons (dVar 2) dNil))))) (gN 4) dYes (e_merged_rows_1 s_by_name s_settled) [4]) (gN 3))
    (dSeq (dAsg dDict0 (gN 5))
    (dSeq (dFor (iD (dVar 3)) (gN 6) (b_merged_rows_3 s_by_name s_settled))
    (dRet (dVar 5)))))
abbrev N_clash_of : List Str := ["kind", "found", "names", "name"]
def i_clash_of_1 : DTT := (dTest (dOp (dIsN id) (dDGetA (dVar 1) (dVar 3)) (dC (.non))))
def e_clash_of_2 : DTE := (dVar 3)
def t_clash_of : DTS := (dSeq (dAsg (dLc (iKF (dFrz (dVar 1))) (gN 3) (i_clash_of_1) (e_clash_of_2) [3]) (gN 2))
    (dSeq (dIfS (dNot (dTru (dVar 2))) (dRet (dC (.non))) dNext)
    (dRet (dTup (dCons (dC (.str "clash")) (dCons (dVar 0) (dCons (dCB dMinTx (dCons (dVar 2) dNil)) dNil)))))))
abbrev N_rows_within : List Str := ["most", "found", "rows", "lot", "row"]
def e_rows_within_1 [ErrCtx] : DTE := (dVar 4)
def t_rows_within [ErrCtx] : DTS := (dSeq (dAsg (dLc2 (iD (dListVals (dVar 1))) (gN 3) dYes (iD (dVar 3)) (gN 4) dYes (e_rows_within_1) [3, 4] [4]) (gN 2))
    (dSeq (dIfS (dTest (dOp dGt (dCB dLen (dCons (dVar 2) dNil)) (dVar 0))) (dRaise1 8 "most" (dVar 0)) dNext)
    (dRet (dVar 2))))
abbrev N_merged : List Str := ["base", "mine", "theirs", "wishes", "locks", "clash", "left"]
def t_merged [ErrCtx] (s_Question___init__ : DSp) (s_merged_rows : DSp) (s_clash_of : DSp) (s_rows_within : DSp) : DTS := (dSeq (dAsg (dCall 3 s_merged_rows (dCons (dFld "wishes" [102] (dVar 0)) (dCons (dFld "wishes" [102] (dVar 1)) (dCons (dFld "wishes" [102] (dVar 2)) dNil)))) (gN 3))
    (dSeq (dAsg (dCall 3 s_merged_rows (dCons (dFld "locks" [102] (dVar 0)) (dCons (dFld "locks" [102] (dVar 1)) (dCons (dFld "locks" [102] (dVar 2)) dNil)))) (gN 4))
    (dSeq (dAsg (dCall 2 s_clash_of (dCons (dC (.str "wish")) (dCons (dVar 3) dNil))) (gN 5))
    (dSeq (dIfS (dTest (dOp (dIsN id) (dVar 5) (dC (.non)))) (dAsg (dCall 2 s_clash_of (dCons (dC (.str "lock")) (dCons (dVar 4) dNil))) (gN 5)) dNext)
    (dSeq (dIfS (dTest (dOp (dIsN not) (dVar 5) (dC (.non)))) (dRet (dVar 5)) dNext)
    (dSeq (dAsg (dCall 2 s_rows_within (dCons (dC (.int 8)) (dCons (dVar 3) dNil))) (gN 6))
    (dRet (dTup (dCons (dC (.str "merged")) (dCons (dMake 102 3 s_Question___init__ (dCons (dCB dTupOf (dCons (dVar 6) dNil)) (dCons (dCB dTupOf (dCons (dCB dSorted (dCons (dCall 2 s_rows_within (dCons (dC (.int 40)) (dCons (dVar 4) dNil))) dNil)) dNil)) dNil))) dNil))))))))))
abbrev N__law_hand_k65 : List Str := ["script", "cells", "cell"]
def e__law_hand_k65_1 : DTE := (dCB dAbs (dCons (dCB dInt (dCons (dVar 2) dNil)) dNil))
def t__law_hand_k65 : DTS := (dSeq (dAsg (dLc (iD (dSl (dVar 0) dNoPart (dPart (dC (.int 63))))) (gN 2) dYes (e__law_hand_k65_1) [2]) (gN 1))
    (dRet (dDisp [((dC (.str "cells")), (dVar 1)), ((dC (.str "at")), (dC (.int 0))), ((dC (.str "great")), (dC (.int 0))), ((dC (.str "seed")), (dOp dAdd (dC (.int 977)) (dCB dLen (dCons (dVar 1) dNil)))), ((dC (.str "turn")), (dC (.int 0)))])))
abbrev N__law_draw_k65 : List Str := ["hand", "many", "cell", "digit", "number"]
def t__law_draw_k65 : DTS := (dSeq (dIfS (dAnd (dTest (dOp dEq (dDGet (dVar 0) (dC (.str "great"))) (dC (.int 0)))) (dTest (dOp dLt (dDGet (dVar 0) (dC (.str "at"))) (dCB dLen (dCons (dDGet (dVar 0) (dC (.str "cells"))) dNil))))) (dSeq (dAsg (dOp dIx (dDGet (dVar 0) (dC (.str "cells"))) (dDGet (dVar 0) (dC (.str "at")))) (gN 2))
    (dSeq (dAsg (dOp dAdd (dDGet (dVar 0) (dC (.str "at"))) (dC (.int 1))) (gSub' (dVar 0) (dC (.str "at")) dSetK))
    (dSeq (dAsg (dOp dMod (dCB dInt (dCons (dOp dAdd (dOp dAdd (dOp dMul (dDGet (dVar 0) (dC (.str "seed"))) (dC (.int 48271))) (dVar 2)) (dC (.int 7))) dNil)) (dC (.int 2147483629))) (gSub' (dVar 0) (dC (.str "seed")) dSetK))
    (dIfS (dTest (dOp dGe (dVar 2) (dOp dPow (dC (.int 10)) (dC (.int 18))))) (dAsg (dVar 2) (gSub' (dVar 0) (dC (.str "great")) dSetK)) dNext)))) dNext)
    (dSeq (dIfS (dTest (dOp dGt (dDGet (dVar 0) (dC (.str "great"))) (dC (.int 0)))) (dSeq (dAsg (dOp dMod (dCB dInt (dCons (dDGet (dVar 0) (dC (.str "great"))) dNil)) (dVar 1)) (gN 3))
    (dSeq (dAsg (dOp dDiv (dDGet (dVar 0) (dC (.str "great"))) (dVar 1)) (gSub' (dVar 0) (dC (.str "great")) dSetK))
    (dRet (dVar 3)))) dNext)
    (dSeq (dAsg (dOp dAdd (dDGet (dVar 0) (dC (.str "turn"))) (dC (.int 1))) (gSub' (dVar 0) (dC (.str "turn")) dSetK))
    (dSeq (dAsg (dOp dMod (dCB dInt (dCons (dOp dMul (dCB dInt (dCons (dOp dAdd (dOp dAdd (dDGet (dVar 0) (dC (.str "seed"))) (dC (.int 1))) (dOp dMul (dC (.int 7919)) (dDGet (dVar 0) (dC (.str "turn"))))) dNil)) (dC (.int 69621))) dNil)) (dC (.int 2147483647))) (gN 4))
    (dSeq (dAsg (dOp dMod (dCB dInt (dCons (dOp dMul (dVar 4) (dOp dAdd (dOp dDiv (dVar 4) (dC (.int 1009))) (dC (.int 48271)))) dNil)) (dC (.int 2147483647))) (gN 4))
    (dSeq (dAsg (dOp dMod (dCB dInt (dCons (dOp dMul (dVar 4) (dOp dAdd (dOp dDiv (dVar 4) (dC (.int 2003))) (dC (.int 40692)))) dNil)) (dC (.int 2147483399))) (gN 4))
    (dRet (dOp dMod (dCB dInt (dCons (dOp dDiv (dVar 4) (dC (.int 16))) dNil)) (dVar 1)))))))))
abbrev N__law_name_k65 : List Str := ["number", "letters"]
def t__law_name_k65 : DTS := (dSeq (dAsg (dC (.str "abcdefghijklmnopqrstuvwxyz")) (gN 1))
    (dRet (dOp dAdd (dOp dIx (dVar 1) (dOp dDiv (dVar 0) (dC (.int 26)))) (dOp dIx (dVar 1) (dOp dMod (dCB dInt (dCons (dVar 0) dNil)) (dC (.int 26)))))))
abbrev N__law_wishS_k65 : List Str := ["hand", "names", "rng"]
def t__law_wishS_k65 (s__law_any : DSp) : DTS := (dSeq (dAsg (dCall 2 s__law_any (dCons (dVar 0) (dCons (dLst (dCons (dTup (dCons (dTup (dCons (dTup (dCons (dC (.int 0)) (dCons (dC (.int 0)) (dCons (dC (.int 0)) dNil)))) (dCons (dC (.non)) dNil))) dNil)) (dCons (dTup (dCons (dTup (dCons (dTup (dCons (dC (.int 1)) (dCons (dC (.int 0)) (dCons (dC (.int 0)) dNil)))) (dCons (dTup (dCons (dC (.int 2)) (dCons (dC (.int 0)) (dCons (dC (.int 0)) dNil)))) dNil))) dNil)) (dCons (dTup dNil) dNil)))) dNil))) (gN 2))
    (dRet (dTup (dCons (dCall 2 s__law_any (dCons (dVar 0) (dCons (dVar 1) dNil))) (dCons (dVar 2) (dCons (dCall 2 s__law_any (dCons (dVar 0) (dCons (dLst (dCons (dTup dNil) (dCons (dTup dNil) (dCons (dTup (dCons (dC (.str "f")) dNil)) (dCons (dTup (dCons (dC (.str "f")) (dCons (dC (.str "g")) dNil))) dNil))))) dNil))) dNil))))))
abbrev N__law_wishes : List Str := ["hand", "names", "elder", "found", "wish", "kind", "k"]
def b__law_wishes_1 (s__law_draw : DSp) (s__law_any : DSp) (s__law_wish : DSp) : DTS := (dSeq (dAsg (dCall 2 s__law_draw (dCons (dVar 0) (dCons (dC (.int 8)) dNil))) (gN 5))
    (dIfS (dTest (dOp dEq (dVar 5) (dC (.int 0)))) (dDrop (dBM "list" dAppend (dVar 3) (dCons (dTup (dCons (dOp dIx (dVar 4) (dC (.int 0))) (dCons (dTup (dCons (dTup (dCons (dTup (dCons (dC (.int 3)) (dCons (dC (.int 0)) (dCons (dC (.int 0)) dNil)))) (dCons (dC (.non)) dNil))) dNil)) (dCons (dOp dIx (dVar 4) (dC (.int 2))) dNil)))) dNil))) (dIfS (dTest (dOp dGt (dVar 5) (dC (.int 1)))) (dDrop (dBM "list" dAppend (dVar 3) (dCons (dVar 4) dNil))) dNext)))
def b__law_wishes_2 (s__law_draw : DSp) (s__law_any : DSp) (s__law_wish : DSp) : DTS := (dIfS (dTest (dOp dLt (dCB dLen (dCons (dVar 3) dNil)) (dC (.int 8)))) (dDrop (dBM "list" dInsert (dVar 3) (dCons (dCall 2 s__law_draw (dCons (dVar 0) (dCons (dOp dAdd (dCB dLen (dCons (dVar 3) dNil)) (dC (.int 1))) dNil))) (dCons (dCall 2 s__law_wish (dCons (dVar 0) (dCons (dVar 1) dNil))) dNil)))) dNext)
def t__law_wishes (s__law_draw : DSp) (s__law_any : DSp) (s__law_wish : DSp) : DTS := (dSeq (dAsg (dLst dNil) (gN 3))
    (dSeq (dFor (iD (dVar 2)) (gN 4) (b__law_wishes_1 s__law_draw s__law_any s__law_wish))
    (dSeq (dFor (iR1 (dCons (dCall 2 s__law_any (dCons (dVar 0) (dCons (dLst (dCons (dC (.int 0)) (dCons (dC (.int 0)) (dCons (dC (.int 1)) (dCons (dC (.int 2)) (dCons (dC (.int 3)) (dCons (dC (.int 8)) dNil))))))) dNil))) dNil)) (gN 6) (b__law_wishes_2 s__law_draw s__law_any s__law_wish))
    (dRet (dCB dTupOf (dCons (dVar 3) dNil))))))
abbrev N__law_locks : List Str := ["hand", "names", "elder", "many", "found", "name", "version", "kind", "k"]
def b__law_locks_1 (s__law_draw : DSp) (s__law_any : DSp) : DTS := (dSeq (dAsg (dCall 2 s__law_draw (dCons (dVar 0) (dCons (dC (.int 10)) dNil))) (gN 7))
    (dIfS (dTest (dOp dEq (dVar 7) (dC (.int 0)))) (dAsg (dTup (dCons (dC (.int 9)) (dCons (dC (.int 9)) (dCons (dCall 2 s__law_draw (dCons (dVar 0) (dCons (dC (.int 2)) dNil))) dNil)))) (gSub' (dVar 4) (dVar 5) dSetK)) (dIfS (dOr (dTest (dOp dGt (dVar 7) (dC (.int 1)))) (dTest (dOp dGt (dVar 3) (dC (.int 5))))) (dAsg (dVar 6) (gSub' (dVar 4) (dVar 5) dSetK)) dNext)))
def b__law_locks_2 (s__law_draw : DSp) (s__law_any : DSp) : DTS := (dIfS (dTest (dOp dLt (dCB dLenK (dCons (dVar 4) dNil)) (dC (.int 40)))) (dAsg (dTup (dCons (dC (.int 1)) (dCons (dCall 2 s__law_draw (dCons (dVar 0) (dCons (dC (.int 2)) dNil))) (dCons (dC (.int 0)) dNil)))) (gSub' (dVar 4) (dCall 2 s__law_any (dCons (dVar 0) (dCons (dVar 1) dNil))) dSetK)) dNext)
def t__law_locks (s__law_draw : DSp) (s__law_any : DSp) : DTS := (dSeq (dAsg dDict0 (gN 4))
    (dSeq (dFor (iD (dVar 2)) (gTup' 2 (gCons' (gN 5) (gCons' (gN 6) gNil'))) (b__law_locks_1 s__law_draw s__law_any))
    (dSeq (dFor (iR1 (dCons (dVar 3) dNil)) (gN 8) (b__law_locks_2 s__law_draw s__law_any))
    (dRet (dCB dTupOf (dCons (dCB dSorted (dCons (dListItems (dVar 4)) dNil)) dNil))))))
abbrev N__law_of : List Str := ["rows", "name", "row"]
def i__law_of_1 : DTT := (dTest (dOp dEq (dOp dIx (dVar 2) (dC (.int 0))) (dVar 1)))
def e__law_of_2 : DTE := (dVar 2)
def t__law_of : DTS := (dRet (dCB dTupOf (dCons (dLc (iD (dVar 0)) (gN 2) (i__law_of_1) (e__law_of_2) [2]) dNil)))
abbrev N__law_due_k65 : List Str := ["sides", "found", "names", "side", "row", "name", "base", "mine", "theirs"]
def e__law_due_k65_1 (s__law_of : DSp) : DTE := (dOp dIx (dVar 4) (dC (.int 0)))
def b__law_due_k65_2 (s__law_of : DSp) : DTS := (dDrop (dBM "list" dExtendA (dVar 2) (dCons (dLc (iD (dVar 3)) (gN 4) dYes (e__law_due_k65_1 s__law_of) [4]) dNil)))
def e__law_due_k65_3 (s__law_of : DSp) : DTE := (dCall 2 s__law_of (dCons (dVar 3) (dCons (dVar 5) dNil)))
def b__law_due_k65_4 (s__law_of : DSp) : DTS := (dSeq (dAsg (dLc (iD (dVar 0)) (gN 3) dYes (e__law_due_k65_3 s__law_of) [3]) (gLst' 3 (gCons' (gN 6) (gCons' (gN 7) (gCons' (gN 8) gNil')))))
    (dSeq (dAsg (dIf (dTest (dOp dEq (dVar 7) (dVar 6))) (dVar 8) (dVar 7)) (gSub' (dVar 1) (dVar 5) dSetK))
    (dIfS (dAnd (dTest (dOp dNe (dVar 7) (dVar 6))) (dAnd (dTest (dOp dNe (dVar 8) (dVar 6))) (dTest (dOp dNe (dVar 7) (dVar 8))))) (dRet (dTup (dCons (dVar 1) (dCons (dVar 5) dNil)))) dNext)))
def t__law_due_k65 (s__law_of : DSp) : DTS := (dSeq (dPar 1 2 (dCons dDict0 (dCons (dLst dNil) dNil)))
    (dSeq (dFor (iD (dVar 0)) (gN 3) (b__law_due_k65_2 s__law_of))
    (dSeq (dFor (iD (dCB dSortTx (dCons (dVar 2) dNil))) (gN 5) (b__law_due_k65_4 s__law_of))
    (dRet (dTup (dCons (dVar 1) (dCons (dC (.non)) dNil)))))))
abbrev N__law_placed : List Str := ["found", "sides", "rows", "done", "side", "row"]
def b__law_placed_1 : DTS := (dIfS (dTest (dOp (dIn true) (dOp dIx (dVar 5) (dC (.int 0))) (dVar 3))) (dSeq (dDrop (dBM "list" dAppend (dVar 3) (dCons (dOp dIx (dVar 5) (dC (.int 0))) dNil)))
    (dDrop (dBM "list" dExtendA (dVar 2) (dCons (dDGetA (dVar 0) (dOp dIx (dVar 5) (dC (.int 0)))) dNil)))) dNext)
def b__law_placed_2 : DTS := (dFor (iD (dVar 4)) (gN 5) (b__law_placed_1))
def t__law_placed : DTS := (dSeq (dPar 2 3 (dCons (dLst dNil) (dCons (dLst dNil) dNil)))
    (dSeq (dFor (iD (dVar 1)) (gN 4) (b__law_placed_2))
    (dRet (dCB dTupOf (dCons (dVar 2) dNil)))))
abbrev N__law_told_k65 : List Str := ["base", "mine", "theirs", "found", "e"]
def b__law_told_k65_1 [ErrCtx] (s_merged : DSp) : DTS := (dAsg (dCall 3 s_merged (dCons (dVar 0) (dCons (dVar 1) (dCons (dVar 2) dNil)))) (gN 3))
def s__law_told_k65_2 [ErrCtx] (s_merged : DSp) : Addr → DX → DTS := fun a x => (dRet (dTup (dCons (dC (.str "too many")) (dCons (dXf a x 8 "most" (dVar 4)) dNil))))
def t__law_told_k65 [ErrCtx] (s_merged : DSp) : DTS := (dSeq (dTryAs [8] 4 (b__law_told_k65_1 s_merged) ((s__law_told_k65_2 s_merged)))
    (dSeq (dIfS (dAnd (dTru (dIsi (dVar 3) ["tuple"])) (dAnd (dTest (dOp dEq (dCB dLen (dCons (dVar 3) dNil)) (dC (.int 2)))) (dTru (dIsC [102] 102 (dOp dIx (dVar 3) (dC (.int 1))))))) (dRet (dTup (dCons (dOp dIx (dVar 3) (dC (.int 0))) (dCons (dFld "wishes" [102] (dOp dIx (dVar 3) (dC (.int 1)))) (dCons (dFld "locks" [102] (dOp dIx (dVar 3) (dC (.int 1)))) dNil))))) dNext)
    (dRet (dVar 3))))
abbrev N__law_wanted : List Str := ["sides", "wishes", "name", "side", "locks", "rows", "kept"]
def e__law_wanted_1 (s__law_due : DSp) (s__law_placed : DSp) : DTE := (dOp dIx (dVar 3) (dC (.int 0)))
def e__law_wanted_2 (s__law_due : DSp) (s__law_placed : DSp) : DTE := (dOp dIx (dVar 3) (dC (.int 1)))
def e__law_wanted_3 (s__law_due : DSp) (s__law_placed : DSp) : DTE := (dOp dIx (dVar 3) (dC (.int 0)))
def e__law_wanted_4 (s__law_due : DSp) (s__law_placed : DSp) : DTE := (dOp dIx (dVar 3) (dC (.int 1)))
def t__law_wanted (s__law_due : DSp) (s__law_placed : DSp) : DTS := (dSeq (dAsg (dCall 1 s__law_due (dCons (dLc (iD (dVar 0)) (gN 3) dYes (e__law_wanted_1 s__law_due s__law_placed) [3]) dNil)) (gTup' 2 (gCons' (gN 1) (gCons' (gN 2) gNil'))))
    (dSeq (dIfS (dTest (dOp (dIsN not) (dVar 2) (dC (.non)))) (dRet (dTup (dCons (dC (.str "clash")) (dCons (dC (.str "wish")) (dCons (dVar 2) dNil))))) dNext)
    (dSeq (dAsg (dCall 1 s__law_due (dCons (dLc (iD (dVar 0)) (gN 3) dYes (e__law_wanted_2 s__law_due s__law_placed) [3]) dNil)) (gTup' 2 (gCons' (gN 4) (gCons' (gN 2) gNil'))))
    (dSeq (dIfS (dTest (dOp (dIsN not) (dVar 2) (dC (.non)))) (dRet (dTup (dCons (dC (.str "clash")) (dCons (dC (.str "lock")) (dCons (dVar 2) dNil))))) dNext)
    (dSeq (dAsg (dCall 2 s__law_placed (dCons (dVar 1) (dCons (dLc (iD (dVar 0)) (gN 3) dYes (e__law_wanted_3 s__law_due s__law_placed) [3]) dNil))) (gN 5))
    (dSeq (dAsg (dCB dTupOf (dCons (dCB dSorted (dCons (dCall 2 s__law_placed (dCons (dVar 4) (dCons (dLc (iD (dVar 0)) (gN 3) dYes (e__law_wanted_4 s__law_due s__law_placed) [3]) dNil))) dNil)) dNil)) (gN 6))
    (dSeq (dIfS (dTest (dOp dGt (dCB dLen (dCons (dVar 5) dNil)) (dC (.int 8)))) (dRet (dTup (dCons (dC (.str "too many")) (dCons (dC (.int 8)) dNil)))) dNext)
    (dRet (dIf (dTest (dOp dGt (dCB dLen (dCons (dVar 6) dNil)) (dC (.int 40)))) (dTup (dCons (dC (.str "too many")) (dCons (dC (.int 40)) dNil))) (dTup (dCons (dC (.str "merged")) (dCons (dVar 5) (dCons (dVar 6) dNil)))))))))))))
abbrev N__law_is_right_k65 : List Str := ["sides", "questions", "side", "question"]
def e__law_is_right_k65_1 [ErrCtx] (s_Question___init__ : DSp) (s__law_told : DSp) (s__law_wanted : DSp) : DTE := (dMake 102 3 s_Question___init__ (dCons (dOp dIx (dVar 2) (dC (.int 0))) (dCons (dOp dIx (dVar 2) (dC (.int 1))) dNil)))
def e__law_is_right_k65_2 [ErrCtx] (s_Question___init__ : DSp) (s__law_told : DSp) (s__law_wanted : DSp) : DTE := (dTup (dCons (dFld "wishes" [102] (dVar 3)) (dCons (dFld "locks" [102] (dVar 3)) dNil)))
def t__law_is_right_k65 [ErrCtx] (s_Question___init__ : DSp) (s__law_told : DSp) (s__law_wanted : DSp) : DTS := (dSeq (dAsg (dLc (iD (dVar 0)) (gN 2) dYes (e__law_is_right_k65_1 s_Question___init__ s__law_told s__law_wanted) [2]) (gN 1))
    (dSeq (dIfS (dTest (dOp dNe (dCall 3 s__law_told (dCons (dOp dIx (dVar 1) (dC (.int 0))) (dCons (dOp dIx (dVar 1) (dC (.int 1))) (dCons (dOp dIx (dVar 1) (dC (.int 2))) dNil)))) (dCall 1 s__law_wanted (dCons (dVar 0) dNil)))) (dRet (dC (.bl false))) dNext)
    (dRet (dOp dEq (dLc (iD (dVar 1)) (gN 3) dYes (e__law_is_right_k65_2 s_Question___init__ s__law_told s__law_wanted) [3]) (dVar 0)))))
abbrev N_law_k65 : List Str := ["script", "hand", "turn", "great", "names", "k", "more", "locked", "many", "parted", "wishes", "base", "sides", "kind", "elder", "extra", "other", "apart", "j"]
def e_law_k65_1 (s__law_hand : DSp) (s__law_draw : DSp) (s__law_any : DSp) (s__law_name : DSp) (s__law_wish : DSp) (s__law_wishes : DSp) (s__law_locks : DSp) (s__law_is_right : DSp) : DTE := (dCall 1 s__law_name (dCons (dCall 2 s__law_draw (dCons (dVar 1) (dCons (dC (.int 676)) dNil))) dNil))
def e_law_k65_2 (s__law_hand : DSp) (s__law_draw : DSp) (s__law_any : DSp) (s__law_name : DSp) (s__law_wish : DSp) (s__law_wishes : DSp) (s__law_locks : DSp) (s__law_is_right : DSp) : DTE := (dCall 1 s__law_name (dCons (dOp dAdd (dVar 5) (dOp dMul (dC (.int 26)) (dCall 2 s__law_draw (dCons (dVar 1) (dCons (dC (.int 26)) dNil))))) dNil))
def e_law_k65_3 (s__law_hand : DSp) (s__law_draw : DSp) (s__law_any : DSp) (s__law_name : DSp) (s__law_wish : DSp) (s__law_wishes : DSp) (s__law_locks : DSp) (s__law_is_right : DSp) : DTE := (dCall 1 s__law_name (dCons (dVar 5) dNil))
def e_law_k65_4 (s__law_hand : DSp) (s__law_draw : DSp) (s__law_any : DSp) (s__law_name : DSp) (s__law_wish : DSp) (s__law_wishes : DSp) (s__law_locks : DSp) (s__law_is_right : DSp) : DTE := (dCall 1 s__law_name (dCons (dOp dAdd (dOp dMul (dC (.int 2)) (dVar 18)) (dVar 5)) dNil))
def e_law_k65_5 (s__law_hand : DSp) (s__law_draw : DSp) (s__law_any : DSp) (s__law_name : DSp) (s__law_wish : DSp) (s__law_wishes : DSp) (s__law_locks : DSp) (s__law_is_right : DSp) : DTE := (dCall 2 s__law_wish (dCons (dVar 1) (dCons (dVar 17) dNil)))
def b_law_k65_6 (s__law_hand : DSp) (s__law_draw : DSp) (s__law_any : DSp) (s__law_name : DSp) (s__law_wish : DSp) (s__law_wishes : DSp) (s__law_locks : DSp) (s__law_is_right : DSp) : DTS := (dSeq (dAsg (dCall 2 s__law_draw (dCons (dVar 1) (dCons (dC (.int 6)) dNil))) (gN 13))
    (dSeq (dAsg (dIf (dTest (dOp dEq (dVar 13) (dC (.int 0)))) (dOp dIx (dVar 12) (dUn dNegV (dC (.int 1)))) (dVar 11)) (gN 14))
    (dSeq (dAsg (dIf (dTru (dVar 3)) (dVar 8) (dOp dDiv (dVar 13) (dC (.int 3)))) (gN 15))
    (dSeq (dAsg (dTup (dCons (dCall 3 s__law_wishes (dCons (dVar 1) (dCons (dVar 4) (dCons (dOp dIx (dVar 14) (dC (.int 0))) dNil)))) (dCons (dCall 4 s__law_locks (dCons (dVar 1) (dCons (dVar 7) (dCons (dOp dIx (dVar 14) (dC (.int 1))) (dCons (dVar 15) dNil))))) dNil))) (gN 16))
    (dSeq (dIfS (dTru (dVar 9)) (dSeq (dAsg (dLc (iR1 (dCons (dC (.int 4)) dNil)) (gN 18) dYes (e_law_k65_4 s__law_hand s__law_draw s__law_any s__law_name s__law_wish s__law_wishes s__law_locks s__law_is_right) [18]) (gN 17))
    (dAsg (dTup (dCons (dCB dTupOf (dCons (dLc (iR1 (dCons (dOp dAdd (dC (.int 3)) (dCall 2 s__law_draw (dCons (dVar 1) (dCons (dC (.int 4)) dNil)))) dNil)) (gN 18) dYes (e_law_k65_5 s__law_hand s__law_draw s__law_any s__law_name s__law_wish s__law_wishes s__law_locks s__law_is_right) [18]) dNil)) (dCons (dOp dIx (dVar 16) (dC (.int 1))) dNil))) (gN 16))) (dIfS (dTest (dOp dEq (dVar 13) (dC (.int 1)))) (dAsg (dVar 14) (gN 16)) dNext))
    (dSeq (dIfS (dTest (dOp dEq (dVar 13) (dC (.int 2)))) (dAsg (dTup (dCons (dOp dIx (dVar 14) (dC (.int 0))) (dCons (dOp dIx (dVar 16) (dC (.int 1))) dNil))) (gN 16)) dNext)
    (dSeq (dIfS (dTest (dOp dEq (dVar 13) (dC (.int 3)))) (dAsg (dTup (dCons (dOp dIx (dVar 16) (dC (.int 0))) (dCons (dOp dIx (dVar 14) (dC (.int 1))) dNil))) (gN 16)) dNext)
    (dDrop (dBM "list" dAppend (dVar 12) (dCons (dVar 16) dNil))))))))))
def b_law_k65_7 (s__law_hand : DSp) (s__law_draw : DSp) (s__law_any : DSp) (s__law_name : DSp) (s__law_wish : DSp) (s__law_wishes : DSp) (s__law_locks : DSp) (s__law_is_right : DSp) : DTS := (dSeq (dAsg (dOp dEq (dCall 2 s__law_draw (dCons (dVar 1) (dCons (dC (.int 10)) dNil))) (dC (.int 0))) (gN 3))
    (dSeq (dAsg (dLc (iR1 (dCons (dCall 2 s__law_any (dCons (dVar 1) (dCons (dLst (dCons (dC (.int 1)) (dCons (dC (.int 2)) (dCons (dC (.int 4)) (dCons (dC (.int 8)) dNil))))) dNil))) dNil)) (gN 5) dYes (e_law_k65_1 s__law_hand s__law_draw s__law_any s__law_name s__law_wish s__law_wishes s__law_locks s__law_is_right) [5]) (gN 4))
    (dSeq (dAsg (dOp dAdd (dLc (iR1 (dCons (dC (.int 26)) dNil)) (gN 5) dYes (e_law_k65_2 s__law_hand s__law_draw s__law_any s__law_name s__law_wish s__law_wishes s__law_locks s__law_is_right) [5]) (dLc (iR1 (dCons (dC (.int 60)) dNil)) (gN 5) dYes (e_law_k65_3 s__law_hand s__law_draw s__law_any s__law_name s__law_wish s__law_wishes s__law_locks s__law_is_right) [5])) (gN 6))
    (dSeq (dAsg (dIf (dTru (dVar 3)) (dVar 6) (dVar 4)) (gN 7))
    (dSeq (dAsg (dIf (dTru (dVar 3)) (dC (.int 20)) (dCall 2 s__law_draw (dCons (dVar 1) (dCons (dC (.int 4)) dNil)))) (gN 8))
    (dSeq (dAsg (dOp dEq (dCall 2 s__law_draw (dCons (dVar 1) (dCons (dC (.int 6)) dNil))) (dC (.int 0))) (gN 9))
    (dSeq (dAsg (dIf (dTru (dVar 9)) (dTup dNil) (dCall 3 s__law_wishes (dCons (dVar 1) (dCons (dVar 4) (dCons (dTup dNil) dNil))))) (gN 10))
    (dSeq (dAsg (dTup (dCons (dVar 10) (dCons (dCall 4 s__law_locks (dCons (dVar 1) (dCons (dVar 7) (dCons (dTup dNil) (dCons (dVar 8) dNil))))) dNil))) (gN 11))
    (dSeq (dAsg (dLst (dCons (dVar 11) dNil)) (gN 12))
    (dSeq (dFor (iR1 (dCons (dC (.int 2)) dNil)) (gN 5) (b_law_k65_6 s__law_hand s__law_draw s__law_any s__law_name s__law_wish s__law_wishes s__law_locks s__law_is_right))
    (dSeq (dIfS (dOr (dNot (dTru (dCall 1 s__law_is_right (dCons (dVar 12) dNil)))) (dNot (dTru (dCall 1 s__law_is_right (dCons (dLst (dCons (dOp dIx (dVar 12) (dC (.int 0))) (dCons (dOp dIx (dVar 12) (dC (.int 2))) (dCons (dOp dIx (dVar 12) (dC (.int 1))) dNil)))) dNil))))) (dRet (dC (.bl false))) dNext)
    (dSeq (dIfS (dOr (dNot (dTru (dCall 1 s__law_is_right (dCons (dLst (dCons (dOp dIx (dVar 12) (dC (.int 0))) (dCons (dOp dIx (dVar 12) (dC (.int 0))) (dCons (dOp dIx (dVar 12) (dC (.int 2))) dNil)))) dNil)))) (dNot (dTru (dCall 1 s__law_is_right (dCons (dLst (dCons (dOp dIx (dVar 12) (dC (.int 0))) (dCons (dOp dIx (dVar 12) (dC (.int 1))) (dCons (dOp dIx (dVar 12) (dC (.int 0))) dNil)))) dNil))))) (dRet (dC (.bl false))) dNext)
    (dIfS (dNot (dTru (dCall 1 s__law_is_right (dCons (dLst (dCons (dOp dIx (dVar 12) (dC (.int 1))) (dCons (dOp dIx (dVar 12) (dC (.int 1))) (dCons (dOp dIx (dVar 12) (dC (.int 1))) dNil)))) dNil)))) (dRet (dC (.bl false))) dNext)))))))))))))
def t_law_k65 (s__law_hand : DSp) (s__law_draw : DSp) (s__law_any : DSp) (s__law_name : DSp) (s__law_wish : DSp) (s__law_wishes : DSp) (s__law_locks : DSp) (s__law_is_right : DSp) : DTS := (dSeq (dAsg (dCall 1 s__law_hand (dCons (dVar 0) dNil)) (gN 1))
    (dSeq (dFor (iR1 (dCons (dC (.int 2)) dNil)) (gN 2) (b_law_k65_7 s__law_hand s__law_draw s__law_any s__law_name s__law_wish s__law_wishes s__law_locks s__law_is_right))
    (dRet (dC (.bl true)))))
end RD
namespace Lk65
open PySem L2 PySem.Spec DL
open PyProof.Rows hiding St
def topS (i : Nat) : Stmt := PySem.Challenge.pw_lockwright_k65_whole_questions_merged.main.body.getD i (.Pass ⟨0, 0, 0, 0⟩)
abbrev S_is_integer : Stmt := topS 7
abbrev N_is_integer : List Str := RD.N_is_integer
theorem sc_is_integer : FnScope N_is_integer ["thing"] (defScope S_is_integer) := ⟨rfl, rfl, rfl, by decide +kernel, rfl, by decide +kernel, by decide +kernel⟩
abbrev S_is_number : Stmt := topS 8
abbrev N_is_number : List Str := RD.N_is_number
theorem sc_is_number : FnScope N_is_number ["thing"] (defScope S_is_number) := ⟨rfl, rfl, rfl, by decide +kernel, rfl, by decide +kernel, by decide +kernel⟩
abbrev S_is_name : Stmt := topS 9
abbrev N_is_name : List Str := RD.N_is_name
theorem sc_is_name : FnScope N_is_name ["thing"] (defScope S_is_name) := ⟨rfl, rfl, rfl, by decide +kernel, rfl, by decide +kernel, by decide +kernel⟩
abbrev S_is_names : Stmt := topS 10
abbrev N_is_names : List Str := RD.N_is_names
theorem sc_is_names : FnScope N_is_names ["thing"] (defScope S_is_names) := ⟨rfl, rfl, rfl, by decide +kernel, rfl, by decide +kernel, by decide +kernel⟩
abbrev S_is_wanted : Stmt := topS 11
abbrev N_is_wanted : List Str := RD.N_is_wanted
theorem sc_is_wanted : FnScope N_is_wanted ["thing"] (defScope S_is_wanted) := ⟨rfl, rfl, rfl, by decide +kernel, rfl, by decide +kernel, by decide +kernel⟩
abbrev S_is_tuple_of : Stmt := topS 12
abbrev N_is_tuple_of : List Str := RD.N_is_tuple_of
theorem sc_is_tuple_of : FnScope N_is_tuple_of ["many", "thing"] (defScope S_is_tuple_of) := ⟨rfl, rfl, rfl, by decide +kernel, rfl, by decide +kernel, by decide +kernel⟩
abbrev S_is_tuple_within : Stmt := topS 13
abbrev N_is_tuple_within : List Str := RD.N_is_tuple_within
theorem sc_is_tuple_within : FnScope N_is_tuple_within ["most", "thing"] (defScope S_is_tuple_within) := ⟨rfl, rfl, rfl, by decide +kernel, rfl, by decide +kernel, by decide +kernel⟩
abbrev S_is_version : Stmt := topS 16
abbrev N_is_version : List Str := RD.N_is_version
theorem sc_is_version : FnScope N_is_version ["thing"] (defScope S_is_version) := ⟨rfl, rfl, rfl, by decide +kernel, rfl, by decide +kernel, by decide +kernel⟩
abbrev S_is_stretch : Stmt := topS 17
abbrev N_is_stretch : List Str := RD.N_is_stretch
theorem sc_is_stretch : FnScope N_is_stretch ["thing"] (defScope S_is_stretch) := ⟨rfl, rfl, rfl, by decide +kernel, rfl, by decide +kernel, by decide +kernel⟩
abbrev S_is_range : Stmt := topS 18
abbrev N_is_range : List Str := RD.N_is_range
theorem sc_is_range : FnScope N_is_range ["thing"] (defScope S_is_range) := ⟨rfl, rfl, rfl, by decide +kernel, rfl, by decide +kernel, by decide +kernel⟩
abbrev S_reaches : Stmt := topS 19
abbrev N_reaches : List Str := RD.N_reaches
theorem sc_reaches : FnScope N_reaches ["high", "low"] (defScope S_reaches) := ⟨rfl, rfl, rfl, by decide +kernel, rfl, by decide +kernel, by decide +kernel⟩
abbrev S_is_wish : Stmt := topS 23
abbrev N_is_wish : List Str := RD.N_is_wish
theorem sc_is_wish : FnScope N_is_wish ["thing"] (defScope S_is_wish) := ⟨rfl, rfl, rfl, by decide +kernel, rfl, by decide +kernel, by decide +kernel⟩
abbrev S_is_locks : Stmt := topS 24
abbrev N_is_locks : List Str := RD.N_is_locks
theorem sc_is_locks : FnScope N_is_locks ["thing"] (defScope S_is_locks) := ⟨rfl, rfl, rfl, by decide +kernel, rfl, by decide +kernel, by decide +kernel⟩
abbrev S_wrong_part : Stmt := topS 25
abbrev N_wrong_part : List Str := RD.N_wrong_part_k09
theorem sc_wrong_part : FnScope N_wrong_part ["wishes", "locks"] (defScope S_wrong_part) := ⟨rfl, rfl, rfl, by decide +kernel, rfl, by decide +kernel, by decide +kernel⟩
abbrev S_by_name : Stmt := topS 28
abbrev N_by_name : List Str := RD.N_by_name
theorem sc_by_name : FnScope N_by_name ["rows"] (defScope S_by_name) := ⟨rfl, rfl, rfl, by decide +kernel, rfl, by decide +kernel, by decide +kernel⟩
abbrev S_settled : Stmt := topS 29
abbrev N_settled : List Str := RD.N_settled
theorem sc_settled : FnScope N_settled ["base", "mine", "theirs"] (defScope S_settled) := ⟨rfl, rfl, rfl, by decide +kernel, rfl, by decide +kernel, by decide +kernel⟩
abbrev S_merged_rows : Stmt := topS 30
abbrev N_merged_rows : List Str := RD.N_merged_rows
theorem sc_merged_rows : FnScope N_merged_rows ["base", "mine", "theirs"] (defScope S_merged_rows) := ⟨rfl, rfl, rfl, by decide +kernel, rfl, by decide +kernel, by decide +kernel⟩
abbrev S_clash_of : Stmt := topS 31
abbrev N_clash_of : List Str := RD.N_clash_of
theorem sc_clash_of : FnScope N_clash_of ["kind", "found"] (defScope S_clash_of) := ⟨rfl, rfl, rfl, by decide +kernel, rfl, by decide +kernel, by decide +kernel⟩
abbrev S_rows_within : Stmt := topS 32
abbrev N_rows_within : List Str := RD.N_rows_within
theorem sc_rows_within : FnScope N_rows_within ["most", "found"] (defScope S_rows_within) := ⟨rfl, rfl, rfl, by decide +kernel, rfl, by decide +kernel, by decide +kernel⟩
abbrev S_merged : Stmt := topS 33
abbrev N_merged : List Str := RD.N_merged
theorem sc_merged : FnScope N_merged ["base", "mine", "theirs"] (defScope S_merged) := ⟨rfl, rfl, rfl, by decide +kernel, rfl, by decide +kernel, by decide +kernel⟩
abbrev S__law_hand : Stmt := topS 35
abbrev N__law_hand : List Str := RD.N__law_hand_k65
theorem sc__law_hand : FnScope N__law_hand ["script"] (defScope S__law_hand) := ⟨rfl, rfl, rfl, by decide +kernel, rfl, by decide +kernel, by decide +kernel⟩
abbrev S__law_draw : Stmt := topS 36
abbrev N__law_draw : List Str := RD.N__law_draw_k65
theorem sc__law_draw : FnScope N__law_draw ["hand", "many"] (defScope S__law_draw) := ⟨rfl, rfl, rfl, by decide +kernel, rfl, by decide +kernel, by decide +kernel⟩
abbrev S__law_any : Stmt := topS 37
abbrev N__law_any : List Str := RD.N__law_any
theorem sc__law_any : FnScope N__law_any ["hand", "things"] (defScope S__law_any) := ⟨rfl, rfl, rfl, by decide +kernel, rfl, by decide +kernel, by decide +kernel⟩
abbrev S__law_name : Stmt := topS 38
abbrev N__law_name : List Str := RD.N__law_name_k65
theorem sc__law_name : FnScope N__law_name ["number"] (defScope S__law_name) := ⟨rfl, rfl, rfl, by decide +kernel, rfl, by decide +kernel, by decide +kernel⟩
abbrev S__law_wish : Stmt := topS 39
abbrev N__law_wish : List Str := RD.N__law_wishS_k65
theorem sc__law_wish : FnScope N__law_wish ["hand", "names"] (defScope S__law_wish) := ⟨rfl, rfl, rfl, by decide +kernel, rfl, by decide +kernel, by decide +kernel⟩
abbrev S__law_wishes : Stmt := topS 40
abbrev N__law_wishes : List Str := RD.N__law_wishes
theorem sc__law_wishes : FnScope N__law_wishes ["hand", "names", "elder"] (defScope S__law_wishes) := ⟨rfl, rfl, rfl, by decide +kernel, rfl, by decide +kernel, by decide +kernel⟩
abbrev S__law_locks : Stmt := topS 41
abbrev N__law_locks : List Str := RD.N__law_locks
theorem sc__law_locks : FnScope N__law_locks ["hand", "names", "elder", "many"] (defScope S__law_locks) := ⟨rfl, rfl, rfl, by decide +kernel, rfl, by decide +kernel, by decide +kernel⟩
abbrev S__law_of : Stmt := topS 42
abbrev N__law_of : List Str := RD.N__law_of
theorem sc__law_of : FnScope N__law_of ["rows", "name"] (defScope S__law_of) := ⟨rfl, rfl, rfl, by decide +kernel, rfl, by decide +kernel, by decide +kernel⟩
abbrev S__law_due : Stmt := topS 43
abbrev N__law_due : List Str := RD.N__law_due_k65
theorem sc__law_due : FnScope N__law_due ["sides"] (defScope S__law_due) := ⟨rfl, rfl, rfl, by decide +kernel, rfl, by decide +kernel, by decide +kernel⟩
abbrev S__law_placed : Stmt := topS 44
abbrev N__law_placed : List Str := RD.N__law_placed
theorem sc__law_placed : FnScope N__law_placed ["found", "sides"] (defScope S__law_placed) := ⟨rfl, rfl, rfl, by decide +kernel, rfl, by decide +kernel, by decide +kernel⟩
abbrev S__law_told : Stmt := topS 45
abbrev N__law_told : List Str := RD.N__law_told_k65
theorem sc__law_told : FnScope N__law_told ["base", "mine", "theirs"] (defScope S__law_told) := ⟨rfl, rfl, rfl, by decide +kernel, rfl, by decide +kernel, by decide +kernel⟩
abbrev S__law_wanted : Stmt := topS 46
abbrev N__law_wanted : List Str := RD.N__law_wanted
theorem sc__law_wanted : FnScope N__law_wanted ["sides"] (defScope S__law_wanted) := ⟨rfl, rfl, rfl, by decide +kernel, rfl, by decide +kernel, by decide +kernel⟩
abbrev S__law_is_right : Stmt := topS 47
abbrev N__law_is_right : List Str := RD.N__law_is_right_k65
theorem sc__law_is_right : FnScope N__law_is_right ["sides"] (defScope S__law_is_right) := ⟨rfl, rfl, rfl, by decide +kernel, rfl, by decide +kernel, by decide +kernel⟩
abbrev S_law : Stmt := topS 48
abbrev N_law : List Str := RD.N_law_k65
theorem sc_law : FnScope N_law ["script"] (defScope S_law) := ⟨rfl, rfl, rfl, by decide +kernel, rfl, by decide +kernel, by decide +kernel⟩
abbrev S_Question___init__ : Stmt := mthS (topS 26) 0
abbrev N_Question___init__ : List Str := RD.N_Question___init___k14
theorem sc_Question___init__ : FnScope N_Question___init__ ["self", "wishes", "locks"] (defScope S_Question___init__) := ⟨rfl, rfl, rfl, by decide +kernel, rfl, by decide +kernel, by decide +kernel⟩
abbrev S_Question___eq__ : Stmt := mthS (topS 26) 1
abbrev N_Question___eq__ : List Str := RD.N_Question___eq__
theorem sc_Question___eq__ : FnScope N_Question___eq__ ["self", "other"] (defScope S_Question___eq__) := ⟨rfl, rfl, rfl, by decide +kernel, rfl, by decide +kernel, by decide +kernel⟩
abbrev SI_TooMany : Stmt := mthS (topS 3) 0
theorem sci_TooMany : FnScope ["self", "most"] ["self", "most"] (defScope SI_TooMany) := ⟨rfl, rfl, rfl, by decide +kernel, rfl, by decide +kernel, by decide +kernel⟩
structure Glob [ErrCtx] (K : PySem.W.Frag) (mg : Str → Option Value) : Prop where
  g_Question : mg "Question" = some (.ref (errA 102))
  g_TooMany : mg "TooMany" = some (.ref (errA 8))
  xm_TooMany_TooMany : PySem.W.exmOne K (.ref (errA 8)) (.ref (errA 8)) = some true
  ef_TooMany : ErF K 8
  no_TooMany : PySem.W.findIn K (.ref (errA 8)) "most" = some none
  kb_Question : ∀ a ∈ ["NoneType", "bool", "int", "str", "tuple", "list", "dict"], PySem.W.kitOne K (.type a) (.ref (errA 102)) = some false
  ko_Question_Question : PySem.W.kitOne K (.ref (errA 102)) (.ref (errA 102)) = some (102 == 102)
  cl_Question : ClF K 102
  in_Question : C8.InsC K (errA 102)
  mk_Question : MkF K mg 102 "Question"
  na_Question_locks : NoAttr K (errA 102) "locks"
  na_Question_wishes : NoAttr K (errA 102) "wishes"
  d_is_integer : DefIn K mg "is_integer" S_is_integer ["thing"]
  d_is_number : DefIn K mg "is_number" S_is_number ["thing"]
  d_is_name : DefIn K mg "is_name" S_is_name ["thing"]
  d_is_names : DefIn K mg "is_names" S_is_names ["thing"]
  d_is_wanted : DefIn K mg "is_wanted" S_is_wanted ["thing"]
  d_is_tuple_of : DefIn K mg "is_tuple_of" S_is_tuple_of ["many", "thing"]
  d_is_tuple_within : DefIn K mg "is_tuple_within" S_is_tuple_within ["most", "thing"]
  d_is_version : DefIn K mg "is_version" S_is_version ["thing"]
  d_is_stretch : DefIn K mg "is_stretch" S_is_stretch ["thing"]
  d_is_range : DefIn K mg "is_range" S_is_range ["thing"]
  d_reaches : DefIn K mg "reaches" S_reaches ["high", "low"]
  d_is_wish : DefIn K mg "is_wish" S_is_wish ["thing"]
  d_is_locks : DefIn K mg "is_locks" S_is_locks ["thing"]
  d_wrong_part : DefIn K mg "wrong_part" S_wrong_part ["wishes", "locks"]
  d_by_name : DefIn K mg "by_name" S_by_name ["rows"]
  d_settled : DefIn K mg "settled" S_settled ["base", "mine", "theirs"]
  d_merged_rows : DefIn K mg "merged_rows" S_merged_rows ["base", "mine", "theirs"]
  d_clash_of : DefIn K mg "clash_of" S_clash_of ["kind", "found"]
  d_rows_within : DefIn K mg "rows_within" S_rows_within ["most", "found"]
  d_merged : DefIn K mg "merged" S_merged ["base", "mine", "theirs"]
  d__law_hand : DefIn K mg "_law_hand" S__law_hand ["script"]
  d__law_draw : DefIn K mg "_law_draw" S__law_draw ["hand", "many"]
  d__law_any : DefIn K mg "_law_any" S__law_any ["hand", "things"]
  d__law_name : DefIn K mg "_law_name" S__law_name ["number"]
  d__law_wish : DefIn K mg "_law_wish" S__law_wish ["hand", "names"]
  d__law_wishes : DefIn K mg "_law_wishes" S__law_wishes ["hand", "names", "elder"]
  d__law_locks : DefIn K mg "_law_locks" S__law_locks ["hand", "names", "elder", "many"]
  d__law_of : DefIn K mg "_law_of" S__law_of ["rows", "name"]
  d__law_due : DefIn K mg "_law_due" S__law_due ["sides"]
  d__law_placed : DefIn K mg "_law_placed" S__law_placed ["found", "sides"]
  d__law_told : DefIn K mg "_law_told" S__law_told ["base", "mine", "theirs"]
  d__law_wanted : DefIn K mg "_law_wanted" S__law_wanted ["sides"]
  d__law_is_right : DefIn K mg "_law_is_right" S__law_is_right ["sides"]
  d_law : DefIn K mg "law" S_law ["script"]
  m_Question___init__ : MthIn K 102 "__init__" "Question.__init__" S_Question___init__ ["self", "wishes", "locks"]
  m_Question___eq__ : MthIn K 102 "__eq__" "Question.__eq__" S_Question___eq__ ["self", "other"]
  z_abs : mg "abs" = none
  z_bool : mg "bool" = none
  z_enumerate : mg "enumerate" = none
  z_int : mg "int" = none
  z_isinstance : mg "isinstance" = none
  z_len : mg "len" = none
  z_list : mg "list" = none
  z_min : mg "min" = none
  z_range : mg "range" = none
  z_set : mg "set" = none
  z_sorted : mg "sorted" = none
  z_str : mg "str" = none
  z_tuple : mg "tuple" = none
  c_NAME_MOST : Cst K mg "NAME_MOST" (.int 12)
  c_WANTED_MOST : Cst K mg "WANTED_MOST" (.int 4)
  c_NUMBER_MOST : Cst K mg "NUMBER_MOST" (.int 1000000)
  c_WISHES_MOST : Cst K mg "WISHES_MOST" (.int 8)
  c_LOCKS_MOST : Cst K mg "LOCKS_MOST" (.int 40)
section
variable [TC : TabCtx] [EC : ErrCtx] {P : Program} {w : World} {K : PySem.W.Frag} {mg : Str → Option Value} {base : Heap} {k : Nat}
theorem h_is_integer {dsp : DSp} (G : Glob K mg) (hd : Rd 1 dsp (RD.t_is_integer) N_is_integer) : Has P w K mg base (k + 1) "is_integer" 1 dsp :=
  has_mk G.d_is_integer sc_is_integer rfl fun f cdv A outer s0 H E hr => by
    have hu := hr.units
    have hu1 : _ + 1 < cLine := Nat.lt_of_le_of_lt (Nat.add_le_add_left (by decide : 1 ≤ 64) _) hu
    exact ⟨RD.t_is_integer, (dss_one (ds_ret (de_and (de_isi (by rfl) G.z_isinstance (dv 0) (pe_ty (by rfl) G.z_int PyProof.Rows.boot_int)) (de_one (de_not (de_isi (by rfl) G.z_isinstance (dv 0) (pe_ty (by rfl) G.z_bool PyProof.Rows.boot_bool))))))), hd⟩
theorem h_is_number {dsp : DSp} {s_is_integer : DSp} (G : Glob K mg) (H_is_integer : Has P w K mg base k "is_integer" 1 s_is_integer) (hd : Rd 1 dsp (RD.t_is_number s_is_integer) N_is_number) : Has P w K mg base (k + 1) "is_number" 1 dsp :=
  has_mk G.d_is_number sc_is_number rfl fun f cdv A outer s0 H E hr => by
    have hu := hr.units
    have hu1 : _ + 1 < cLine := Nat.lt_of_le_of_lt (Nat.add_le_add_left (by decide : 1 ≤ 64) _) hu
    exact ⟨RD.t_is_number s_is_integer, (dss_one (ds_ret (de_and (de_call H_is_integer hr (by rfl) (pasT (takes_of rfl rfl rfl rfl)) (da_cons (dv 0) da_nil)) (de_one (de_cm (cm_ge hu) (nomark _) (dv 0) de_int))))), hd⟩
theorem h_is_name {dsp : DSp} (G : Glob K mg) (hd : Rd 1 dsp (RD.t_is_name) N_is_name) : Has P w K mg base (k + 1) "is_name" 1 dsp :=
  has_mk G.d_is_name sc_is_name rfl fun f cdv A outer s0 H E hr => by
    have hu := hr.units
    have hu1 : _ + 1 < cLine := Nat.lt_of_le_of_lt (Nat.add_le_add_left (by decide : 1 ≤ 64) _) hu
    exact ⟨RD.t_is_name, (dss_cons (ds_if (dw_pt (dw_or (dt_not (dt_tru (de_isi (by rfl) G.z_isinstance (dv 0) (pe_ty (by rfl) G.z_str PyProof.Rows.boot_str)))) (dw_or1 (dt_cm (cm_gt hu) (nomark _) (de_len (by rfl) G.z_len (da_cons (dv 0) da_nil)) (de_cst (by rfl) G.c_NAME_MOST))))) (dss_one (ds_ret de_bl)) dss_nil)
      (dss_one (ds_ret (de_and (de_bm0 PySem.F.plainAttrs_str PySem.F.slot_str_isascii PySem.F.type_str_isascii mt_isascii str0_ok (dv 0)) (de_and (de_bm0 PySem.F.plainAttrs_str PySem.F.slot_str_isalpha PySem.F.type_str_isalpha mt_isalpha str0_ok (dv 0)) (de_one (de_bm0 PySem.F.plainAttrs_str PySem.F.slot_str_islower PySem.F.type_str_islower mt_islower str0_ok (dv 0)))))))), hd⟩
theorem h_is_names {dsp : DSp} {s_is_name : DSp} (G : Glob K mg) (H_is_name : Has P w K mg base k "is_name" 1 s_is_name) (hd : Rd 1 dsp (RD.t_is_names s_is_name) N_is_names) : Has P w K mg base (k + 1) "is_names" 1 dsp :=
  has_mk G.d_is_names sc_is_names rfl fun f cdv A outer s0 H E hr => by
    have hu := hr.units
    have hu1 : _ + 1 < cLine := Nat.lt_of_le_of_lt (Nat.add_le_add_left (by decide : 1 ≤ 64) _) hu
    exact ⟨RD.t_is_names s_is_name, (dss_cons (ds_if (dt_not (dt_tru (de_isi (by rfl) G.z_isinstance (dv 0) (pe_ty (by rfl) G.z_tuple PyProof.Rows.boot_tuple)))) (dss_one (ds_ret de_bl)) dss_nil)
      (dss_cons (ds_set (i := 1) sc_is_names.nd rfl (by first | exact .inl rfl | exact .inr rfl) de_str)
      (dss_cons (ds_for (passes_of rfl) rfl (di_seq (dv 0)) (dg_name (i := 2) sc_is_names.nd rfl (by first | exact .inl rfl | exact .inr rfl)) (dss_cons (ds_if (dw_pt (dw_or (dt_not (dt_tru (de_call H_is_name hr (by rfl) (pasT (takes_of rfl rfl rfl rfl)) (da_cons (dv 2) da_nil)))) (dw_or1 (dt_cm (cm_le hu) (nomark _) (dv 2) (dv 1))))) (dss_one (ds_ret de_bl)) dss_nil)
      (dss_one (ds_set (i := 1) sc_is_names.nd rfl (by first | exact .inl rfl | exact .inr rfl) (dv 2)))))
      (dss_one (ds_ret de_bl))))), hd⟩
theorem h_is_wanted {dsp : DSp} {s_is_names : DSp} (G : Glob K mg) (H_is_names : Has P w K mg base k "is_names" 1 s_is_names) (hd : Rd 1 dsp (RD.t_is_wanted s_is_names) N_is_wanted) : Has P w K mg base (k + 1) "is_wanted" 1 dsp :=
  has_mk G.d_is_wanted sc_is_wanted rfl fun f cdv A outer s0 H E hr => by
    have hu := hr.units
    have hu1 : _ + 1 < cLine := Nat.lt_of_le_of_lt (Nat.add_le_add_left (by decide : 1 ≤ 64) _) hu
    exact ⟨RD.t_is_wanted s_is_names, (dss_one (ds_ret (de_and (de_call H_is_names hr (by rfl) (pasT (takes_of rfl rfl rfl rfl)) (da_cons (dv 0) da_nil)) (de_one (de_cm (cm_le hu) (nomark _) (de_len (by rfl) G.z_len (da_cons (dv 0) da_nil)) (de_cst (by rfl) G.c_WANTED_MOST)))))), hd⟩
theorem h_is_tuple_of {dsp : DSp} (G : Glob K mg) (hd : Rd 2 dsp (RD.t_is_tuple_of) N_is_tuple_of) : Has P w K mg base (k + 1) "is_tuple_of" 2 dsp :=
  has_mk G.d_is_tuple_of sc_is_tuple_of rfl fun f cdv A outer s0 H E hr => by
    have hu := hr.units
    have hu1 : _ + 1 < cLine := Nat.lt_of_le_of_lt (Nat.add_le_add_left (by decide : 1 ≤ 64) _) hu
    exact ⟨RD.t_is_tuple_of, (dss_one (ds_ret (de_and (de_isi (by rfl) G.z_isinstance (dv 1) (pe_ty (by rfl) G.z_tuple PyProof.Rows.boot_tuple)) (de_one (de_cm (cm_eq hu) (nomark _) (de_len (by rfl) G.z_len (da_cons (dv 1) da_nil)) (dv 0)))))), hd⟩
theorem h_is_tuple_within {dsp : DSp} (G : Glob K mg) (hd : Rd 2 dsp (RD.t_is_tuple_within) N_is_tuple_within) : Has P w K mg base (k + 1) "is_tuple_within" 2 dsp :=
  has_mk G.d_is_tuple_within sc_is_tuple_within rfl fun f cdv A outer s0 H E hr => by
    have hu := hr.units
    have hu1 : _ + 1 < cLine := Nat.lt_of_le_of_lt (Nat.add_le_add_left (by decide : 1 ≤ 64) _) hu
    exact ⟨RD.t_is_tuple_within, (dss_one (ds_ret (de_and (de_isi (by rfl) G.z_isinstance (dv 1) (pe_ty (by rfl) G.z_tuple PyProof.Rows.boot_tuple)) (de_one (de_cm (cm_le hu) (nomark _) (de_len (by rfl) G.z_len (da_cons (dv 1) da_nil)) (dv 0)))))), hd⟩
theorem h_is_version {dsp : DSp} {s_is_number : DSp} {s_is_tuple_of : DSp} (G : Glob K mg) (H_is_number : Has P w K mg base k "is_number" 1 s_is_number) (H_is_tuple_of : Has P w K mg base k "is_tuple_of" 2 s_is_tuple_of) (hd : Rd 1 dsp (RD.t_is_version s_is_number s_is_tuple_of) N_is_version) : Has P w K mg base (k + 1) "is_version" 1 dsp :=
  has_mk G.d_is_version sc_is_version rfl fun f cdv A outer s0 H E hr => by
    have hu := hr.units
    have hu1 : _ + 1 < cLine := Nat.lt_of_le_of_lt (Nat.add_le_add_left (by decide : 1 ≤ 64) _) hu
    exact ⟨RD.t_is_version s_is_number s_is_tuple_of, (dss_cons (ds_if (dt_not (dt_tru (de_call H_is_tuple_of hr (by rfl) (pasT (takes_of rfl rfl rfl rfl)) (da_cons de_int (da_cons (dv 0) da_nil))))) (dss_one (ds_ret de_bl)) dss_nil)
      (dss_cons (ds_for (passes_of rfl) rfl (di_seq (dv 0)) (dg_name (i := 1) sc_is_version.nd rfl (by first | exact .inl rfl | exact .inr rfl)) (dss_one (ds_if (dw_pt (dw_or (dt_not (dt_tru (de_call H_is_number hr (by rfl) (pasT (takes_of rfl rfl rfl rfl)) (da_cons (dv 1) da_nil)))) (dw_or1 (dt_cm (cm_gt hu) (nomark _) (dv 1) (de_cst (by rfl) G.c_NUMBER_MOST))))) (dss_one (ds_ret de_bl)) dss_nil)))
      (dss_one (ds_ret de_bl)))), hd⟩
theorem h_is_stretch {dsp : DSp} {s_is_tuple_of : DSp} {s_is_version : DSp} (G : Glob K mg) (H_is_tuple_of : Has P w K mg base k "is_tuple_of" 2 s_is_tuple_of) (H_is_version : Has P w K mg base k "is_version" 1 s_is_version) (hd : Rd 1 dsp (RD.t_is_stretch s_is_tuple_of s_is_version) N_is_stretch) : Has P w K mg base (k + 1) "is_stretch" 1 dsp :=
  has_mk G.d_is_stretch sc_is_stretch rfl fun f cdv A outer s0 H E hr => by
    have hu := hr.units
    have hu1 : _ + 1 < cLine := Nat.lt_of_le_of_lt (Nat.add_le_add_left (by decide : 1 ≤ 64) _) hu
    exact ⟨RD.t_is_stretch s_is_tuple_of s_is_version, (dss_cons (ds_if (dt_not (dt_tru (de_call H_is_tuple_of hr (by rfl) (pasT (takes_of rfl rfl rfl rfl)) (da_cons de_int (da_cons (dv 0) da_nil))))) (dss_one (ds_ret de_bl)) dss_nil)
      (dss_cons (ds_asg (dv 0) (dg_tup (n := 2) rfl (dgs_cons (dg_name (i := 1) sc_is_stretch.nd rfl (by first | exact .inl rfl | exact .inr rfl)) (dgs_cons (dg_name (i := 2) sc_is_stretch.nd rfl (by first | exact .inl rfl | exact .inr rfl)) dgs_nil))))
      (dss_cons (ds_if (dt_not (dt_tru (de_call H_is_version hr (by rfl) (pasT (takes_of rfl rfl rfl rfl)) (da_cons (dv 1) da_nil)))) (dss_one (ds_ret de_bl)) dss_nil)
      (dss_one (ds_ret (de_or (de_cm cm_is (nomark _) (dv 2) de_non) (de_one (de_and (de_call H_is_version hr (by rfl) (pasT (takes_of rfl rfl rfl rfl)) (da_cons (dv 2) da_nil)) (de_one (de_cm (cm_lt hu) (nomark _) (dv 1) (dv 2))))))))))), hd⟩
theorem h_is_range {dsp : DSp} {s_is_stretch : DSp} {s_reaches : DSp} (G : Glob K mg) (H_is_stretch : Has P w K mg base k "is_stretch" 1 s_is_stretch) (H_reaches : Has P w K mg base k "reaches" 2 s_reaches) (hd : Rd 1 dsp (RD.t_is_range s_is_stretch s_reaches) N_is_range) : Has P w K mg base (k + 1) "is_range" 1 dsp :=
  has_mk G.d_is_range sc_is_range rfl fun f cdv A outer s0 H E hr => by
    have hu := hr.units
    have hu1 : _ + 1 < cLine := Nat.lt_of_le_of_lt (Nat.add_le_add_left (by decide : 1 ≤ 64) _) hu
    exact ⟨RD.t_is_range s_is_stretch s_reaches, (dss_cons (ds_if (dt_not (dt_tru (de_isi (by rfl) G.z_isinstance (dv 0) (pe_ty (by rfl) G.z_tuple PyProof.Rows.boot_tuple)))) (dss_one (ds_ret de_bl)) dss_nil)
      (dss_cons (ds_for (passes_of rfl) rfl (di_enum (by rfl) G.z_enumerate (da_cons (dv 0) da_nil)) (dg_tup (n := 2) rfl (dgs_cons (dg_name (i := 1) sc_is_range.nd rfl (by first | exact .inl rfl | exact .inr rfl)) (dgs_cons (dg_name (i := 2) sc_is_range.nd rfl (by first | exact .inl rfl | exact .inr rfl)) dgs_nil))) (dss_cons (ds_if (dt_not (dt_tru (de_call H_is_stretch hr (by rfl) (pasT (takes_of rfl rfl rfl rfl)) (da_cons (dv 2) da_nil)))) (dss_one (ds_ret de_bl)) dss_nil)
      (dss_one (ds_if (dw_pt (dw_and (dt_cm (cm_gt hu) (nomark _) (dv 1) de_int) (dw_and1 (dt_tru (de_call H_reaches hr (by rfl) (pasT (takes_of rfl rfl rfl rfl)) (da_cons (de_ix (de_ix (dv 0) (de_sub (dv 1) de_int)) de_int) (da_cons (de_ix (dv 2) de_int) da_nil))))))) (dss_one (ds_ret de_bl)) dss_nil))))
      (dss_one (ds_ret de_bl)))), hd⟩
theorem h_reaches {dsp : DSp} (G : Glob K mg) (hd : Rd 2 dsp (RD.t_reaches) N_reaches) : Has P w K mg base (k + 1) "reaches" 2 dsp :=
  has_mk G.d_reaches sc_reaches rfl fun f cdv A outer s0 H E hr => by
    have hu := hr.units
    have hu1 : _ + 1 < cLine := Nat.lt_of_le_of_lt (Nat.add_le_add_left (by decide : 1 ≤ 64) _) hu
    exact ⟨RD.t_reaches, (dss_one (ds_ret (de_or (de_cm cm_is (nomark _) (dv 0) de_non) (de_one (de_cm (cm_le hu) (nomark _) (dv 1) (dv 0)))))), hd⟩
theorem h_is_wish {dsp : DSp} {s_is_name : DSp} {s_is_wanted : DSp} {s_is_tuple_of : DSp} {s_is_range : DSp} (G : Glob K mg) (H_is_name : Has P w K mg base k "is_name" 1 s_is_name) (H_is_wanted : Has P w K mg base k "is_wanted" 1 s_is_wanted) (H_is_tuple_of : Has P w K mg base k "is_tuple_of" 2 s_is_tuple_of) (H_is_range : Has P w K mg base k "is_range" 1 s_is_range) (hd : Rd 1 dsp (RD.t_is_wish s_is_name s_is_wanted s_is_tuple_of s_is_range) N_is_wish) : Has P w K mg base (k + 1) "is_wish" 1 dsp :=
  has_mk G.d_is_wish sc_is_wish rfl fun f cdv A outer s0 H E hr => by
    have hu := hr.units
    have hu1 : _ + 1 < cLine := Nat.lt_of_le_of_lt (Nat.add_le_add_left (by decide : 1 ≤ 64) _) hu
    exact ⟨RD.t_is_wish s_is_name s_is_wanted s_is_tuple_of s_is_range, (dss_one (ds_ret (de_and (de_call H_is_tuple_of hr (by rfl) (pasT (takes_of rfl rfl rfl rfl)) (da_cons de_int (da_cons (dv 0) da_nil))) (de_and (de_call H_is_name hr (by rfl) (pasT (takes_of rfl rfl rfl rfl)) (da_cons (de_ix (dv 0) de_int) da_nil)) (de_and (de_call H_is_range hr (by rfl) (pasT (takes_of rfl rfl rfl rfl)) (da_cons (de_ix (dv 0) de_int) da_nil)) (de_one (de_call H_is_wanted hr (by rfl) (pasT (takes_of rfl rfl rfl rfl)) (da_cons (de_ix (dv 0) de_int) da_nil)))))))), hd⟩
theorem h_is_locks {dsp : DSp} {s_is_names : DSp} {s_is_tuple_of : DSp} {s_is_tuple_within : DSp} {s_is_version : DSp} (G : Glob K mg) (H_is_names : Has P w K mg base k "is_names" 1 s_is_names) (H_is_tuple_of : Has P w K mg base k "is_tuple_of" 2 s_is_tuple_of) (H_is_tuple_within : Has P w K mg base k "is_tuple_within" 2 s_is_tuple_within) (H_is_version : Has P w K mg base k "is_version" 1 s_is_version) (hd : Rd 1 dsp (RD.t_is_locks s_is_names s_is_tuple_of s_is_tuple_within s_is_version) N_is_locks) : Has P w K mg base (k + 1) "is_locks" 1 dsp :=
  has_mk G.d_is_locks sc_is_locks rfl fun f cdv A outer s0 H E hr => by
    have hu := hr.units
    have hu1 : _ + 1 < cLine := Nat.lt_of_le_of_lt (Nat.add_le_add_left (by decide : 1 ≤ 64) _) hu
    exact ⟨RD.t_is_locks s_is_names s_is_tuple_of s_is_tuple_within s_is_version, (dss_cons (ds_if (dt_not (dt_tru (de_call H_is_tuple_within hr (by rfl) (pasT (takes_of rfl rfl rfl rfl)) (da_cons (de_cst (by rfl) G.c_LOCKS_MOST) (da_cons (dv 0) da_nil))))) (dss_one (ds_ret de_bl)) dss_nil)
      (dss_cons (ds_for (passes_of rfl) rfl (di_seq (dv 0)) (dg_name (i := 1) sc_is_locks.nd rfl (by first | exact .inl rfl | exact .inr rfl)) (dss_one (ds_if (dw_pt (dw_or (dt_not (dt_tru (de_call H_is_tuple_of hr (by rfl) (pasT (takes_of rfl rfl rfl rfl)) (da_cons de_int (da_cons (dv 1) da_nil))))) (dw_or1 (dt_not (dt_tru (de_call H_is_version hr (by rfl) (pasT (takes_of rfl rfl rfl rfl)) (da_cons (de_ix (dv 1) de_int) da_nil))))))) (dss_one (ds_ret de_bl)) dss_nil)))
      (dss_one (ds_ret (de_call H_is_names hr (by rfl) (pasT (takes_of rfl rfl rfl rfl)) (da_cons (de_tuple (by rfl) G.z_tuple (da_cons (de_lc (own := [("lock", 1)]) rfl sc_is_locks.nd (di_seq (dv 0)) (blkOk_by (N := N_is_locks) (sc := defScope S_is_locks) (own := [("lock", 1)]) (by decide +kernel)) (by decide) (fun _ _ _ _ _ => (dg_name (i := 1) sc_is_locks.nd rfl (by first | exact .inl rfl | exact .inr rfl))) (fun _ _ _ _ _ => dts_nil) (fun _ _ _ _ _ => (de_ix (dv 1) de_int))) da_nil)) da_nil)))))), hd⟩
theorem h_wrong_part {dsp : DSp} {s_is_tuple_within : DSp} {s_is_wish : DSp} {s_is_locks : DSp} (G : Glob K mg) (H_is_tuple_within : Has P w K mg base k "is_tuple_within" 2 s_is_tuple_within) (H_is_wish : Has P w K mg base k "is_wish" 1 s_is_wish) (H_is_locks : Has P w K mg base k "is_locks" 1 s_is_locks) (hd : Rd 2 dsp (RD.t_wrong_part_k09 s_is_tuple_within s_is_wish s_is_locks) N_wrong_part) : Has P w K mg base (k + 1) "wrong_part" 2 dsp :=
  has_mk G.d_wrong_part sc_wrong_part rfl fun f cdv A outer s0 H E hr => by
    have hu := hr.units
    have hu1 : _ + 1 < cLine := Nat.lt_of_le_of_lt (Nat.add_le_add_left (by decide : 1 ≤ 64) _) hu
    exact ⟨RD.t_wrong_part_k09 s_is_tuple_within s_is_wish s_is_locks, (dss_cons (ds_if (dt_not (dt_tru (de_call H_is_tuple_within hr (by rfl) (pasT (takes_of rfl rfl rfl rfl)) (da_cons (de_cst (by rfl) G.c_WISHES_MOST) (da_cons (dv 0) da_nil))))) (dss_one (ds_ret de_str)) dss_nil)
      (dss_cons (ds_for (passes_of rfl) rfl (di_enum (by rfl) G.z_enumerate (da_cons (dv 0) da_nil)) (dg_tup (n := 2) rfl (dgs_cons (dg_name (i := 2) sc_wrong_part.nd rfl (by first | exact .inl rfl | exact .inr rfl)) (dgs_cons (dg_name (i := 3) sc_wrong_part.nd rfl (by first | exact .inl rfl | exact .inr rfl)) dgs_nil))) (dss_one (ds_if (dt_not (dt_tru (de_call H_is_wish hr (by rfl) (pasT (takes_of rfl rfl rfl rfl)) (da_cons (dv 3) da_nil)))) (dss_one (ds_ret (de_tup (da_cons de_str (da_cons (dv 2) da_nil))))) dss_nil)))
      (dss_cons (ds_if (dt_not (dt_tru (de_call H_is_locks hr (by rfl) (pasT (takes_of rfl rfl rfl rfl)) (da_cons (dv 1) da_nil)))) (dss_one (ds_ret de_str)) dss_nil)
      (dss_one (ds_ret de_non))))), hd⟩
theorem h_by_name {dsp : DSp} (G : Glob K mg) (hd : Rd 1 dsp (RD.t_by_name) N_by_name) : Has P w K mg base (k + 1) "by_name" 1 dsp :=
  has_mk G.d_by_name sc_by_name rfl fun f cdv A outer s0 H E hr => by
    have hu := hr.units
    have hu1 : _ + 1 < cLine := Nat.lt_of_le_of_lt (Nat.add_le_add_left (by decide : 1 ≤ 64) _) hu
    exact ⟨RD.t_by_name, (dss_cons (ds_set (i := 1) sc_by_name.nd rfl (by first | exact .inl rfl | exact .inr rfl) de_dict0)
      (dss_cons (ds_for (passes_of rfl) rfl (di_seq (dv 0)) (dg_name (i := 2) sc_by_name.nd rfl (by first | exact .inl rfl | exact .inr rfl)) (dss_one (ds_asg (de_tup (da_star (de_dget2A hu1 (dv 1) (de_ix (dv 2) de_int) (de_tup da_nil) ⟨by rfl, by rfl, by rfl, by rfl⟩) (da_cons (dv 2) da_nil))) (dg_sub (dv 1) (de_ix (dv 2) de_int) (set_dict hu1) setK_ok))))
      (dss_one (ds_ret (dv 1))))), hd⟩
theorem h_settled {dsp : DSp} (G : Glob K mg) (hd : Rd 3 dsp (RD.t_settled) N_settled) : Has P w K mg base (k + 1) "settled" 3 dsp :=
  has_mk G.d_settled sc_settled rfl fun f cdv A outer s0 H E hr => by
    have hu := hr.units
    have hu1 : _ + 1 < cLine := Nat.lt_of_le_of_lt (Nat.add_le_add_left (by decide : 1 ≤ 64) _) hu
    exact ⟨RD.t_settled, (dss_cons (ds_if (dt_cm (cm_eq hu) (nomark _) (dv 1) (dv 0)) (dss_one (ds_ret (dv 2))) dss_nil)
      (dss_cons (ds_if (dw_pt (dw_or (dt_cm (cm_eq hu) (nomark _) (dv 2) (dv 0)) (dw_or1 (dt_cm (cm_eq hu) (nomark _) (dv 1) (dv 2))))) (dss_one (ds_ret (dv 1))) dss_nil)
      (dss_one (ds_ret de_non)))), hd⟩
theorem h_merged_rows {dsp : DSp} {s_by_name : DSp} {s_settled : DSp} (G : Glob K mg) (H_by_name : Has P w K mg base k "by_name" 1 s_by_name) (H_settled : Has P w K mg base k "settled" 3 s_settled) (hd : Rd 3 dsp (RD.t_merged_rows s_by_name s_settled) N_merged_rows) : Has P w K mg base (k + 1) "merged_rows" 3 dsp :=
  has_mk G.d_merged_rows sc_merged_rows rfl fun f cdv A outer s0 H E hr => by
    have hu := hr.units
    have hu1 : _ + 1 < cLine := Nat.lt_of_le_of_lt (Nat.add_le_add_left (by decide : 1 ≤ 64) _) hu
    exact ⟨RD.t_merged_rows s_by_name s_settled, (dss_cons (ds_setLc (i := 3) (own := [("rows", 4)]) rfl sc_merged_rows.nd rfl rfl (sw_true rfl rfl rfl (by decide +kernel)) (di_seq (de_tup (da_cons (dv 0) (da_cons (dv 1) (da_cons (dv 2) da_nil))))) (blkOk_by (N := N_merged_rows) (sc := defScope S_merged_rows) (own := [("rows", 4)]) (by decide +kernel)) (by decide) (fun _ _ _ _ _ => (dg_name (i := 4) sc_merged_rows.nd rfl (by first | exact .inl rfl | exact .inr rfl))) (fun _ _ _ _ _ => dts_nil) (fun _ _ _ _ _ => (de_call H_by_name hr (by rfl) pas0 (da_cons (dv 4) da_nil))))
      (dss_cons (ds_set (i := 5) sc_merged_rows.nd rfl (by first | exact .inl rfl | exact .inr rfl) de_dict0)
      (dss_cons (ds_for (passes_of rfl) rfl (di_seq (dv 3)) (dg_name (i := 6) sc_merged_rows.nd rfl (by first | exact .inl rfl | exact .inr rfl)) (dss_one (ds_for (passes_of rfl) rfl (di_keysF (de_frz (dv 6))) (dg_name (i := 7) sc_merged_rows.nd rfl (by first | exact .inl rfl | exact .inr rfl)) (dss_one (ds_if (dt_dnotin hu1 (by rfl) (dv 7) (dv 5)) (dss_one (ds_asg (de_call H_settled hr (by rfl) (pasT (takes_of rfl rfl rfl rfl)) (da_cons (de_dget2A hu1 (de_ix (dv 3) de_int) (dv 7) (de_tup da_nil) ⟨by rfl, by rfl, by rfl, by rfl⟩) (da_cons (de_dget2A hu1 (de_ix (dv 3) de_int) (dv 7) (de_tup da_nil) ⟨by rfl, by rfl, by rfl, by rfl⟩) (da_cons (de_dget2A hu1 (de_ix (dv 3) de_int) (dv 7) (de_tup da_nil) ⟨by rfl, by rfl, by rfl, by rfl⟩) da_nil)))) (dg_sub (dv 5) (dv 7) (set_dict hu1) setK_ok))) dss_nil)))))
      (dss_one (ds_ret (dv 5)))))), hd⟩
theorem h_clash_of {dsp : DSp} (G : Glob K mg) (hd : Rd 2 dsp (RD.t_clash_of) N_clash_of) : Has P w K mg base (k + 1) "clash_of" 2 dsp :=
  has_mk G.d_clash_of sc_clash_of rfl fun f cdv A outer s0 H E hr => by
    have hu := hr.units
    have hu1 : _ + 1 < cLine := Nat.lt_of_le_of_lt (Nat.add_le_add_left (by decide : 1 ≤ 64) _) hu
    exact ⟨RD.t_clash_of, (dss_cons (ds_setLc (i := 2) (own := [("name", 3)]) rfl sc_clash_of.nd rfl rfl (sw_true rfl rfl rfl (by decide +kernel)) (di_keysF (de_frz (dv 1))) (blkOk_by (N := N_clash_of) (sc := defScope S_clash_of) (own := [("name", 3)]) (by decide +kernel)) (by decide) (fun _ _ _ _ _ => (dg_name (i := 3) sc_clash_of.nd rfl (by first | exact .inl rfl | exact .inr rfl))) (fun _ _ _ _ _ => (dts_one (dt_cm cm_is (nomark _) (de_dgetA hu1 (dv 1) (dv 3)) de_non))) (fun _ _ _ _ _ => (dv 3)))
      (dss_cons (ds_if (dt_not (dt_tru (dv 2))) (dss_one (ds_ret de_non)) dss_nil)
      (dss_one (ds_ret (de_tup (da_cons de_str (da_cons (dv 0) (da_cons (de_minTx rfl hu (by rfl) G.z_min (da_cons (dv 2) da_nil)) da_nil)))))))), hd⟩
theorem h_rows_within {dsp : DSp} (G : Glob K mg) (E_TooMany : Er1 P w K mg base 8 "TooMany" "most") (hk : 2 ≤ k) (hd : Rd 2 dsp (RD.t_rows_within) N_rows_within) : Has P w K mg base (k + 1) "rows_within" 2 dsp :=
  has_mk G.d_rows_within sc_rows_within rfl fun f cdv A outer s0 H E hr => by
    have hu := hr.units
    have hu1 : _ + 1 < cLine := Nat.lt_of_le_of_lt (Nat.add_le_add_left (by decide : 1 ≤ 64) _) hu
    exact ⟨RD.t_rows_within, (dss_cons (ds_setLc2 (i := 2) (own := [("lot", 3), ("row", 4)]) (vs1 := [4]) rfl sc_rows_within.nd rfl rfl (sw_true rfl rfl rfl (by decide +kernel)) (di_seq (de_listVals rfl (dv 1) (by rfl) G.z_list)) (blkOk_by (N := N_rows_within) (sc := defScope S_rows_within) (own := [("lot", 3), ("row", 4)]) (by decide +kernel)) (by decide) (by decide) (by decide) (fun _ _ _ _ _ => (dg_name (i := 3) sc_rows_within.nd rfl (by first | exact .inl rfl | exact .inr rfl))) (fun _ _ _ _ _ => dts_nil) (fun _ _ _ _ _ => (di_seq (dv 3))) (fun _ _ _ _ _ => (dg_name (i := 4) sc_rows_within.nd rfl (by first | exact .inl rfl | exact .inr rfl))) (fun _ _ _ _ _ => dts_nil) (fun _ _ _ _ _ => (dv 4)))
      (dss_cons (ds_if (dt_cm (cm_gt hu) (nomark _) (de_len (by rfl) G.z_len (da_cons (dv 2) da_nil)) (dv 0)) (dss_one (ds_raise1 rfl (takes_of rfl rfl rfl rfl) E_TooMany hr hk (by rfl) (dv 0))) dss_nil)
      (dss_one (ds_ret (dv 2))))), hd⟩
theorem h_merged {dsp : DSp} {s_Question___init__ : DSp} {s_merged_rows : DSp} {s_clash_of : DSp} {s_rows_within : DSp} (G : Glob K mg) {j_Question___init__ : Nat} (H_Question___init__ : HasM P w K mg base j_Question___init__ 102 "__init__" 3 s_Question___init__) (hk1_Question___init__ : j_Question___init__ + 1 ≤ k) (H_merged_rows : Has P w K mg base k "merged_rows" 3 s_merged_rows) (H_clash_of : Has P w K mg base k "clash_of" 2 s_clash_of) (H_rows_within : Has P w K mg base k "rows_within" 2 s_rows_within) (hd : Rd 3 dsp (RD.t_merged s_Question___init__ s_merged_rows s_clash_of s_rows_within) N_merged) : Has P w K mg base (k + 1) "merged" 3 dsp :=
  has_mk G.d_merged sc_merged rfl fun f cdv A outer s0 H E hr => by
    have hu := hr.units
    have hu1 : _ + 1 < cLine := Nat.lt_of_le_of_lt (Nat.add_le_add_left (by decide : 1 ≤ 64) _) hu
    exact ⟨RD.t_merged s_Question___init__ s_merged_rows s_clash_of s_rows_within, (dss_cons (ds_set (i := 3) sc_merged.nd rfl (by first | exact .inl rfl | exact .inr rfl) (de_call H_merged_rows hr (by rfl) (pasT (takes_of rfl rfl rfl rfl)) (da_cons (de_fld (ms := [102]) (all_cons ⟨G.cl_Question, G.na_Question_wishes⟩ (fun _ h => nomatch h)) (dv 0)) (da_cons (de_fld (ms := [102]) (all_cons ⟨G.cl_Question, G.na_Question_wishes⟩ (fun _ h => nomatch h)) (dv 1)) (da_cons (de_fld (ms := [102]) (all_cons ⟨G.cl_Question, G.na_Question_wishes⟩ (fun _ h => nomatch h)) (dv 2)) da_nil)))))
      (dss_cons (ds_set (i := 4) sc_merged.nd rfl (by first | exact .inl rfl | exact .inr rfl) (de_call H_merged_rows hr (by rfl) (pasT (takes_of rfl rfl rfl rfl)) (da_cons (de_fld (ms := [102]) (all_cons ⟨G.cl_Question, G.na_Question_locks⟩ (fun _ h => nomatch h)) (dv 0)) (da_cons (de_fld (ms := [102]) (all_cons ⟨G.cl_Question, G.na_Question_locks⟩ (fun _ h => nomatch h)) (dv 1)) (da_cons (de_fld (ms := [102]) (all_cons ⟨G.cl_Question, G.na_Question_locks⟩ (fun _ h => nomatch h)) (dv 2)) da_nil)))))
      (dss_cons (ds_set (i := 5) sc_merged.nd rfl (by first | exact .inl rfl | exact .inr rfl) (de_call H_clash_of hr (by rfl) (pasT (takes_of rfl rfl rfl rfl)) (da_cons de_str (da_cons (dv 3) da_nil))))
      (dss_cons (ds_if (dt_cm cm_is (nomark _) (dv 5) de_non) (dss_one (ds_set (i := 5) sc_merged.nd rfl (by first | exact .inl rfl | exact .inr rfl) (de_call H_clash_of hr (by rfl) (pasT (takes_of rfl rfl rfl rfl)) (da_cons de_str (da_cons (dv 4) da_nil))))) dss_nil)
      (dss_cons (ds_if (dt_cm cm_isnot (nomark _) (dv 5) de_non) (dss_one (ds_ret (dv 5))) dss_nil)
      (dss_cons (ds_set (i := 6) sc_merged.nd rfl (by first | exact .inl rfl | exact .inr rfl) (de_call H_rows_within hr (by rfl) (pasT (takes_of rfl rfl rfl rfl)) (da_cons (de_cst (by rfl) G.c_WISHES_MOST) (da_cons (dv 3) da_nil))))
      (dss_one (ds_ret (de_tup (da_cons de_str (da_cons (de_make G.mk_Question H_Question___init__ (hr.mono hk1_Question___init__) (by rfl) (pasT (takes_of rfl rfl rfl rfl)) (da_cons (de_tuple (by rfl) G.z_tuple (da_cons (dv 6) da_nil)) (da_cons (de_tuple (by rfl) G.z_tuple (da_cons (de_sorted hu (by rfl) G.z_sorted (da_cons (de_call H_rows_within hr (by rfl) (pasT (takes_of rfl rfl rfl rfl)) (da_cons (de_cst (by rfl) G.c_LOCKS_MOST) (da_cons (dv 4) da_nil))) da_nil)) da_nil)) da_nil))) da_nil))))))))))), hd⟩
theorem h__law_hand {dsp : DSp} (G : Glob K mg) (hd : Rd 1 dsp (RD.t__law_hand_k65) N__law_hand) : Has P w K mg base (k + 1) "_law_hand" 1 dsp :=
  has_mk G.d__law_hand sc__law_hand rfl fun f cdv A outer s0 H E hr => by
    have hu := hr.units
    have hu1 : _ + 1 < cLine := Nat.lt_of_le_of_lt (Nat.add_le_add_left (by decide : 1 ≤ 64) _) hu
    exact ⟨RD.t__law_hand_k65, (dss_cons (ds_setLc (i := 1) (own := [("cell", 2)]) rfl sc__law_hand.nd rfl rfl (sw_true rfl rfl rfl (by decide +kernel)) (di_seq (de_slice (dv 0) do_none (do_some de_int))) (blkOk_by (N := N__law_hand) (sc := defScope S__law_hand) (own := [("cell", 2)]) (by decide +kernel)) (by decide) (fun _ _ _ _ _ => (dg_name (i := 2) sc__law_hand.nd rfl (by first | exact .inl rfl | exact .inr rfl))) (fun _ _ _ _ _ => dts_nil) (fun _ _ _ _ _ => (de_abs (by rfl) G.z_abs (da_cons (de_int' (by rfl) G.z_int (da_cons (dv 2) da_nil)) da_nil))))
      (dss_one (ds_ret (de_disp (DPs.cons de_str (dv 1) (DPs.cons de_str de_int (DPs.cons de_str de_int (DPs.cons de_str (de_add de_int (de_len (by rfl) G.z_len (da_cons (dv 1) da_nil))) (DPs.cons de_str de_int DPs.nil))))))))), hd⟩
theorem h__law_draw {dsp : DSp} (G : Glob K mg) (hd : Rd 2 dsp (RD.t__law_draw_k65) N__law_draw) : Has P w K mg base (k + 1) "_law_draw" 2 dsp :=
  has_mk G.d__law_draw sc__law_draw rfl fun f cdv A outer s0 H E hr => by
    have hu := hr.units
    have hu1 : _ + 1 < cLine := Nat.lt_of_le_of_lt (Nat.add_le_add_left (by decide : 1 ≤ 64) _) hu
    exact ⟨RD.t__law_draw_k65, (dss_cons (ds_if (dw_pt (dw_and (dt_cm (cm_eq hu) (nomark _) (de_dget hu1 (dv 0) de_str) de_int) (dw_and1 (dt_cm (cm_lt hu) (nomark _) (de_dget hu1 (dv 0) de_str) (de_len (by rfl) G.z_len (da_cons (de_dget hu1 (dv 0) de_str) da_nil)))))) (dss_cons (ds_set (i := 2) sc__law_draw.nd rfl (by first | exact .inl rfl | exact .inr rfl) (de_ix (de_dget hu1 (dv 0) de_str) (de_dget hu1 (dv 0) de_str)))
      (dss_cons (ds_asg (de_add (de_dget hu1 (dv 0) de_str) de_int) (dg_sub (dv 0) de_str (set_dict hu1) setK_ok))
      (dss_cons (ds_asg (de_mod (de_int' (by rfl) G.z_int (da_cons (de_add (de_add (de_mul (de_dget hu1 (dv 0) de_str) de_int) (dv 2)) de_int) da_nil)) de_int) (dg_sub (dv 0) de_str (set_dict hu1) setK_ok))
      (dss_one (ds_if (dt_cm (cm_ge hu) (nomark _) (dv 2) (de_pow de_int de_int)) (dss_one (ds_asg (dv 2) (dg_sub (dv 0) de_str (set_dict hu1) setK_ok))) dss_nil))))) dss_nil)
      (dss_cons (ds_if (dt_cm (cm_gt hu) (nomark _) (de_dget hu1 (dv 0) de_str) de_int) (dss_cons (ds_set (i := 3) sc__law_draw.nd rfl (by first | exact .inl rfl | exact .inr rfl) (de_mod (de_int' (by rfl) G.z_int (da_cons (de_dget hu1 (dv 0) de_str) da_nil)) (dv 1)))
      (dss_cons (ds_asg (de_div (de_dget hu1 (dv 0) de_str) (dv 1)) (dg_sub (dv 0) de_str (set_dict hu1) setK_ok))
      (dss_one (ds_ret (dv 3))))) dss_nil)
      (dss_cons (ds_asg (de_add (de_dget hu1 (dv 0) de_str) de_int) (dg_sub (dv 0) de_str (set_dict hu1) setK_ok))
      (dss_cons (ds_set (i := 4) sc__law_draw.nd rfl (by first | exact .inl rfl | exact .inr rfl) (de_mod (de_int' (by rfl) G.z_int (da_cons (de_mul (de_int' (by rfl) G.z_int (da_cons (de_add (de_add (de_dget hu1 (dv 0) de_str) de_int) (de_mul de_int (de_dget hu1 (dv 0) de_str))) da_nil)) de_int) da_nil)) de_int))
      (dss_cons (ds_set (i := 4) sc__law_draw.nd rfl (by first | exact .inl rfl | exact .inr rfl) (de_mod (de_int' (by rfl) G.z_int (da_cons (de_mul (dv 4) (de_add (de_div (dv 4) de_int) de_int)) da_nil)) de_int))
      (dss_cons (ds_set (i := 4) sc__law_draw.nd rfl (by first | exact .inl rfl | exact .inr rfl) (de_mod (de_int' (by rfl) G.z_int (da_cons (de_mul (dv 4) (de_add (de_div (dv 4) de_int) de_int)) da_nil)) de_int))
      (dss_one (ds_ret (de_mod (de_int' (by rfl) G.z_int (da_cons (de_div (dv 4) de_int) da_nil)) (dv 1)))))))))), hd⟩
theorem h__law_any {dsp : DSp} {s__law_draw : DSp} (G : Glob K mg) (H__law_draw : Has P w K mg base k "_law_draw" 2 s__law_draw) (hd : Rd 2 dsp (RD.t__law_any s__law_draw) N__law_any) : Has P w K mg base (k + 1) "_law_any" 2 dsp :=
  has_mk G.d__law_any sc__law_any rfl fun f cdv A outer s0 H E hr => by
    have hu := hr.units
    have hu1 : _ + 1 < cLine := Nat.lt_of_le_of_lt (Nat.add_le_add_left (by decide : 1 ≤ 64) _) hu
    exact ⟨RD.t__law_any s__law_draw, (dss_one (ds_ret (de_ix (dv 1) (de_call H__law_draw hr (by rfl) (pasT (takes_of rfl rfl rfl rfl)) (da_cons (dv 0) (da_cons (de_len (by rfl) G.z_len (da_cons (dv 1) da_nil)) da_nil)))))), hd⟩
theorem h__law_name {dsp : DSp} (G : Glob K mg) (hd : Rd 1 dsp (RD.t__law_name_k65) N__law_name) : Has P w K mg base (k + 1) "_law_name" 1 dsp :=
  has_mk G.d__law_name sc__law_name rfl fun f cdv A outer s0 H E hr => by
    have hu := hr.units
    have hu1 : _ + 1 < cLine := Nat.lt_of_le_of_lt (Nat.add_le_add_left (by decide : 1 ≤ 64) _) hu
    exact ⟨RD.t__law_name_k65, (dss_cons (ds_set (i := 1) sc__law_name.nd rfl (by first | exact .inl rfl | exact .inr rfl) de_str)
      (dss_one (ds_ret (de_add (de_ix (dv 1) (de_div (dv 0) de_int)) (de_ix (dv 1) (de_mod (de_int' (by rfl) G.z_int (da_cons (dv 0) da_nil)) de_int)))))), hd⟩
theorem h__law_wish {dsp : DSp} {s__law_any : DSp} (G : Glob K mg) (H__law_any : Has P w K mg base k "_law_any" 2 s__law_any) (hd : Rd 2 dsp (RD.t__law_wishS_k65 s__law_any) N__law_wish) : Has P w K mg base (k + 1) "_law_wish" 2 dsp :=
  has_mk G.d__law_wish sc__law_wish rfl fun f cdv A outer s0 H E hr => by
    have hu := hr.units
    have hu1 : _ + 1 < cLine := Nat.lt_of_le_of_lt (Nat.add_le_add_left (by decide : 1 ≤ 64) _) hu
    exact ⟨RD.t__law_wishS_k65 s__law_any, (dss_cons (ds_set (i := 2) sc__law_wish.nd rfl (by first | exact .inl rfl | exact .inr rfl) (de_call H__law_any hr (by rfl) (pasT (takes_of rfl rfl rfl rfl)) (da_cons (dv 0) (da_cons (de_lst (da_cons (de_tup (da_cons (de_tup (da_cons (de_tup (da_cons de_int (da_cons de_int (da_cons de_int da_nil)))) (da_cons de_non da_nil))) da_nil)) (da_cons (de_tup (da_cons (de_tup (da_cons (de_tup (da_cons de_int (da_cons de_int (da_cons de_int da_nil)))) (da_cons (de_tup (da_cons de_int (da_cons de_int (da_cons de_int da_nil)))) da_nil))) da_nil)) (da_cons (de_tup da_nil) da_nil)))) da_nil))))
      (dss_one (ds_ret (de_tup (da_cons (de_call H__law_any hr (by rfl) (pasT (takes_of rfl rfl rfl rfl)) (da_cons (dv 0) (da_cons (dv 1) da_nil))) (da_cons (dv 2) (da_cons (de_call H__law_any hr (by rfl) (pasT (takes_of rfl rfl rfl rfl)) (da_cons (dv 0) (da_cons (de_lst (da_cons (de_tup da_nil) (da_cons (de_tup da_nil) (da_cons (de_tup (da_cons de_str da_nil)) (da_cons (de_tup (da_cons de_str (da_cons de_str da_nil))) da_nil))))) da_nil))) da_nil))))))), hd⟩
theorem h__law_wishes {dsp : DSp} {s__law_draw : DSp} {s__law_any : DSp} {s__law_wish : DSp} (G : Glob K mg) (H__law_draw : Has P w K mg base k "_law_draw" 2 s__law_draw) (H__law_any : Has P w K mg base k "_law_any" 2 s__law_any) (H__law_wish : Has P w K mg base k "_law_wish" 2 s__law_wish) (hd : Rd 3 dsp (RD.t__law_wishes s__law_draw s__law_any s__law_wish) N__law_wishes) : Has P w K mg base (k + 1) "_law_wishes" 3 dsp :=
  has_mk G.d__law_wishes sc__law_wishes rfl fun f cdv A outer s0 H E hr => by
    have hu := hr.units
    have hu1 : _ + 1 < cLine := Nat.lt_of_le_of_lt (Nat.add_le_add_left (by decide : 1 ≤ 64) _) hu
    exact ⟨RD.t__law_wishes s__law_draw s__law_any s__law_wish, (dss_cons (ds_set (i := 3) sc__law_wishes.nd rfl (by first | exact .inl rfl | exact .inr rfl) (de_lst da_nil))
      (dss_cons (ds_for (passes_of rfl) rfl (di_seq (dv 2)) (dg_name (i := 4) sc__law_wishes.nd rfl (by first | exact .inl rfl | exact .inr rfl)) (dss_cons (ds_set (i := 5) sc__law_wishes.nd rfl (by first | exact .inl rfl | exact .inr rfl) (de_call H__law_draw hr (by rfl) (pasT (takes_of rfl rfl rfl rfl)) (da_cons (dv 0) (da_cons de_int da_nil))))
      (dss_one (ds_if (dt_cm (cm_eq hu) (nomark _) (dv 5) de_int) (dss_one (ds_expr (de_append (dv 3) (da_cons (de_tup (da_cons (de_ix (dv 4) de_int) (da_cons (de_tup (da_cons (de_tup (da_cons (de_tup (da_cons de_int (da_cons de_int (da_cons de_int da_nil)))) (da_cons de_non da_nil))) da_nil)) (da_cons (de_ix (dv 4) de_int) da_nil)))) da_nil)))) (dss_one (ds_if (dt_cm (cm_gt hu) (nomark _) (dv 5) de_int) (dss_one (ds_expr (de_append (dv 3) (da_cons (dv 4) da_nil)))) dss_nil))))))
      (dss_cons (ds_for (passes_of rfl) rfl (di_range1 (by rfl) G.z_range (da_cons (de_call H__law_any hr (by rfl) (pasT (takes_of rfl rfl rfl rfl)) (da_cons (dv 0) (da_cons (de_lst (da_cons de_int (da_cons de_int (da_cons de_int (da_cons de_int (da_cons de_int (da_cons de_int da_nil))))))) da_nil))) da_nil)) (dg_name (i := 6) sc__law_wishes.nd rfl (by first | exact .inl rfl | exact .inr rfl)) (dss_one (ds_if (dt_cm (cm_lt hu) (nomark _) (de_len (by rfl) G.z_len (da_cons (dv 3) da_nil)) de_int) (dss_one (ds_expr (de_bm PySem.F.plainAttrs_list PySem.F.slot_list_insert PySem.F.type_list_insert mt_insert insert_ok (dv 3) (da_cons (de_call H__law_draw hr (by rfl) (pasT (takes_of rfl rfl rfl rfl)) (da_cons (dv 0) (da_cons (de_add (de_len (by rfl) G.z_len (da_cons (dv 3) da_nil)) de_int) da_nil))) (da_cons (de_call H__law_wish hr (by rfl) (pasT (takes_of rfl rfl rfl rfl)) (da_cons (dv 0) (da_cons (dv 1) da_nil))) da_nil))))) dss_nil)))
      (dss_one (ds_ret (de_tuple (by rfl) G.z_tuple (da_cons (dv 3) da_nil))))))), hd⟩
theorem h__law_locks {dsp : DSp} {s__law_draw : DSp} {s__law_any : DSp} (G : Glob K mg) (H__law_draw : Has P w K mg base k "_law_draw" 2 s__law_draw) (H__law_any : Has P w K mg base k "_law_any" 2 s__law_any) (hd : Rd 4 dsp (RD.t__law_locks s__law_draw s__law_any) N__law_locks) : Has P w K mg base (k + 1) "_law_locks" 4 dsp :=
  has_mk G.d__law_locks sc__law_locks rfl fun f cdv A outer s0 H E hr => by
    have hu := hr.units
    have hu1 : _ + 1 < cLine := Nat.lt_of_le_of_lt (Nat.add_le_add_left (by decide : 1 ≤ 64) _) hu
    exact ⟨RD.t__law_locks s__law_draw s__law_any, (dss_cons (ds_set (i := 4) sc__law_locks.nd rfl (by first | exact .inl rfl | exact .inr rfl) de_dict0)
      (dss_cons (ds_for (passes_of rfl) rfl (di_seq (dv 2)) (dg_tup (n := 2) rfl (dgs_cons (dg_name (i := 5) sc__law_locks.nd rfl (by first | exact .inl rfl | exact .inr rfl)) (dgs_cons (dg_name (i := 6) sc__law_locks.nd rfl (by first | exact .inl rfl | exact .inr rfl)) dgs_nil))) (dss_cons (ds_set (i := 7) sc__law_locks.nd rfl (by first | exact .inl rfl | exact .inr rfl) (de_call H__law_draw hr (by rfl) (pasT (takes_of rfl rfl rfl rfl)) (da_cons (dv 0) (da_cons de_int da_nil))))
      (dss_one (ds_if (dt_cm (cm_eq hu) (nomark _) (dv 7) de_int) (dss_one (ds_asg (de_tup (da_cons de_int (da_cons de_int (da_cons (de_call H__law_draw hr (by rfl) (pasT (takes_of rfl rfl rfl rfl)) (da_cons (dv 0) (da_cons de_int da_nil))) da_nil)))) (dg_sub (dv 4) (dv 5) (set_dict hu1) setK_ok))) (dss_one (ds_if (dw_pt (dw_or (dt_cm (cm_gt hu) (nomark _) (dv 7) de_int) (dw_or1 (dt_cm (cm_gt hu) (nomark _) (dv 3) de_int)))) (dss_one (ds_asg (dv 6) (dg_sub (dv 4) (dv 5) (set_dict hu1) setK_ok))) dss_nil))))))
      (dss_cons (ds_for (passes_of rfl) rfl (di_range1 (by rfl) G.z_range (da_cons (dv 3) da_nil)) (dg_name (i := 8) sc__law_locks.nd rfl (by first | exact .inl rfl | exact .inr rfl)) (dss_one (ds_if (dt_cm (cm_lt hu) (nomark _) (de_lenK (by rfl) G.z_len (da_cons (dv 4) da_nil)) de_int) (dss_one (ds_asg (de_tup (da_cons de_int (da_cons (de_call H__law_draw hr (by rfl) (pasT (takes_of rfl rfl rfl rfl)) (da_cons (dv 0) (da_cons de_int da_nil))) (da_cons de_int da_nil)))) (dg_sub (dv 4) (de_call H__law_any hr (by rfl) pas0 (da_cons (dv 0) (da_cons (dv 1) da_nil))) (set_dict hu1) setK_ok))) dss_nil)))
      (dss_one (ds_ret (de_tuple (by rfl) G.z_tuple (da_cons (de_sorted hu (by rfl) G.z_sorted (da_cons (de_listItems rfl (dv 4) (by rfl) G.z_list) da_nil)) da_nil))))))), hd⟩
theorem h__law_of {dsp : DSp} (G : Glob K mg) (hd : Rd 2 dsp (RD.t__law_of) N__law_of) : Has P w K mg base (k + 1) "_law_of" 2 dsp :=
  has_mk G.d__law_of sc__law_of rfl fun f cdv A outer s0 H E hr => by
    have hu := hr.units
    have hu1 : _ + 1 < cLine := Nat.lt_of_le_of_lt (Nat.add_le_add_left (by decide : 1 ≤ 64) _) hu
    exact ⟨RD.t__law_of, (dss_one (ds_ret (de_tuple (by rfl) G.z_tuple (da_cons (de_lc (own := [("row", 2)]) rfl sc__law_of.nd (di_seq (dv 0)) (blkOk_by (N := N__law_of) (sc := defScope S__law_of) (own := [("row", 2)]) (by decide +kernel)) (by decide) (fun _ _ _ _ _ => (dg_name (i := 2) sc__law_of.nd rfl (by first | exact .inl rfl | exact .inr rfl))) (fun _ _ _ _ _ => (dts_one (dt_cm (cm_eq hu) (nomark _) (de_ix (dv 2) de_int) (dv 1)))) (fun _ _ _ _ _ => (dv 2))) da_nil)))), hd⟩
theorem h__law_due {dsp : DSp} {s__law_of : DSp} (G : Glob K mg) (H__law_of : Has P w K mg base k "_law_of" 2 s__law_of) (hd : Rd 1 dsp (RD.t__law_due_k65 s__law_of) N__law_due) : Has P w K mg base (k + 1) "_law_due" 1 dsp :=
  has_mk G.d__law_due sc__law_due rfl fun f cdv A outer s0 H E hr => by
    have hu := hr.units
    have hu1 : _ + 1 < cLine := Nat.lt_of_le_of_lt (Nat.add_le_add_left (by decide : 1 ≤ 64) _) hu
    exact ⟨RD.t__law_due_k65 s__law_of, (dss_cons (ds_par (i := 1) (j := 2) rfl sc__law_due.nd rfl rfl (by decide) rfl rfl (da_cons de_dict0 (da_cons (de_lst da_nil) da_nil)) (by rfl))
      (dss_cons (ds_for (passes_of rfl) rfl (di_seq (dv 0)) (dg_name (i := 3) sc__law_due.nd rfl (by first | exact .inl rfl | exact .inr rfl)) (dss_one (ds_expr (de_bm PySem.F.plainAttrs_list PySem.F.slot_list_extend PySem.F.type_list_extend (MtR.or mt_extend mt_extendT) extendA_ok (dv 2) (da_cons (de_lc (own := [("row", 4)]) rfl sc__law_due.nd (di_seq (dv 3)) (blkOk_by (N := N__law_due) (sc := defScope S__law_due) (own := [("row", 4)]) (by decide +kernel)) (by decide) (fun _ _ _ _ _ => (dg_name (i := 4) sc__law_due.nd rfl (by first | exact .inl rfl | exact .inr rfl))) (fun _ _ _ _ _ => dts_nil) (fun _ _ _ _ _ => (de_ix (dv 4) de_int))) da_nil)))))
      (dss_cons (ds_for (passes_of rfl) rfl (di_seq (de_sortTx rfl hu (by rfl) G.z_sorted (by rfl) G.z_set (dv 2))) (dg_name (i := 5) sc__law_due.nd rfl (by first | exact .inl rfl | exact .inr rfl)) (dss_cons (ds_asg (de_lc (own := [("side", 3)]) rfl sc__law_due.nd (di_seq (dv 0)) (blkOk_by (N := N__law_due) (sc := defScope S__law_due) (own := [("side", 3)]) (by decide +kernel)) (by decide) (fun _ _ _ _ _ => (dg_name (i := 3) sc__law_due.nd rfl (by first | exact .inl rfl | exact .inr rfl))) (fun _ _ _ _ _ => dts_nil) (fun _ _ _ _ _ => (de_call H__law_of hr (by rfl) pas0 (da_cons (dv 3) (da_cons (dv 5) da_nil))))) (dg_lst (n := 3) rfl (dgs_cons (dg_name (i := 6) sc__law_due.nd rfl (by first | exact .inl rfl | exact .inr rfl)) (dgs_cons (dg_name (i := 7) sc__law_due.nd rfl (by first | exact .inl rfl | exact .inr rfl)) (dgs_cons (dg_name (i := 8) sc__law_due.nd rfl (by first | exact .inl rfl | exact .inr rfl)) dgs_nil)))))
      (dss_cons (ds_asg (de_if (dt_cm (cm_eq hu) (nomark _) (dv 7) (dv 6)) (dv 8) (dv 7)) (dg_sub (dv 1) (dv 5) (set_dict hu1) setK_ok))
      (dss_one (ds_if (dw_pt (dw_and (dt_cm (cm_ne hu) (nomark _) (dv 7) (dv 6)) (dw_and (dt_cm (cm_ne hu) (nomark _) (dv 8) (dv 6)) (dw_and1 (dt_cm (cm_ne hu) (nomark _) (dv 7) (dv 8)))))) (dss_one (ds_ret (de_tup (da_cons (dv 1) (da_cons (dv 5) da_nil))))) dss_nil)))))
      (dss_one (ds_ret (de_tup (da_cons (dv 1) (da_cons de_non da_nil)))))))), hd⟩
theorem h__law_placed {dsp : DSp} (G : Glob K mg) (hd : Rd 2 dsp (RD.t__law_placed) N__law_placed) : Has P w K mg base (k + 1) "_law_placed" 2 dsp :=
  has_mk G.d__law_placed sc__law_placed rfl fun f cdv A outer s0 H E hr => by
    have hu := hr.units
    have hu1 : _ + 1 < cLine := Nat.lt_of_le_of_lt (Nat.add_le_add_left (by decide : 1 ≤ 64) _) hu
    exact ⟨RD.t__law_placed, (dss_cons (ds_par (i := 2) (j := 3) rfl sc__law_placed.nd rfl rfl (by decide) rfl rfl (da_cons (de_lst da_nil) (da_cons (de_lst da_nil) da_nil)) (by rfl))
      (dss_cons (ds_for (passes_of rfl) rfl (di_seq (dv 1)) (dg_name (i := 4) sc__law_placed.nd rfl (by first | exact .inl rfl | exact .inr rfl)) (dss_one (ds_for (passes_of rfl) rfl (di_seq (dv 4)) (dg_name (i := 5) sc__law_placed.nd rfl (by first | exact .inl rfl | exact .inr rfl)) (dss_one (ds_if (dt_cm cm_notin (by rfl) (de_ix (dv 5) de_int) (dv 3)) (dss_cons (ds_expr (de_append (dv 3) (da_cons (de_ix (dv 5) de_int) da_nil)))
      (dss_one (ds_expr (de_bm PySem.F.plainAttrs_list PySem.F.slot_list_extend PySem.F.type_list_extend (MtR.or mt_extend mt_extendT) extendA_ok (dv 2) (da_cons (de_dgetA hu1 (dv 0) (de_ix (dv 5) de_int)) da_nil))))) dss_nil)))))
      (dss_one (ds_ret (de_tuple (by rfl) G.z_tuple (da_cons (dv 2) da_nil)))))), hd⟩
theorem h__law_told {dsp : DSp} {s_merged : DSp} (G : Glob K mg) (H_merged : Has P w K mg base k "merged" 3 s_merged) (hd : Rd 3 dsp (RD.t__law_told_k65 s_merged) N__law_told) : Has P w K mg base (k + 1) "_law_told" 3 dsp :=
  has_mk G.d__law_told sc__law_told rfl fun f cdv A outer s0 H E hr => by
    have hu := hr.units
    have hu1 : _ + 1 < cLine := Nat.lt_of_le_of_lt (Nat.add_le_add_left (by decide : 1 ≤ 64) _) hu
    exact ⟨RD.t__law_told_k65 s_merged, (dss_cons (ds_try_as (ms := [8]) (i := 4) rfl rfl sc__law_told.nd rfl rfl ⟨by rfl, by decide, .inl G.g_TooMany⟩ (takes_of rfl rfl rfl rfl) (all_cons G.xm_TooMany_TooMany (fun _ h => nomatch h)) (fun W pn xe tk po => (dss_one (ds_set (i := 3) sc__law_told.nd rfl (by first | exact .inl rfl | exact .inr rfl) (de_call H_merged hr (by rfl) (pasT tk) (da_cons (dv 0) (da_cons (dv 1) (da_cons (dv 2) da_nil))))))) (fun TC' a oe x d pn hT hz hv hd => by exact ((dss_one (ds_ret (de_tup (da_cons de_str (da_cons (de_xf (X := XDef P w K mg base N__law_told "_law_told" S__law_told f cdv A outer s0 H E) (a := a) (oe := oe) (pn := pn) (xx := x) (d := d) (m := 8) hT G.ef_TooMany.xf G.no_TooMany hz hv hd (dv 4)) da_nil))))))))
      (dss_cons (ds_if (dw_pt (dw_and (dt_tru (de_isi (by rfl) G.z_isinstance (dv 3) (pe_ty (by rfl) G.z_tuple PyProof.Rows.boot_tuple))) (dw_and (dt_cm (cm_eq hu) (nomark _) (de_len (by rfl) G.z_len (da_cons (dv 3) da_nil)) de_int) (dw_and1 (dt_tru (de_isC (ms := [102]) G.kb_Question (all_cons ⟨G.cl_Question, G.ko_Question_Question⟩ (fun _ h => nomatch h)) (by rfl) G.z_isinstance (by rfl) G.g_Question (de_ix (dv 3) de_int))))))) (dss_one (ds_ret (de_tup (da_cons (de_ix (dv 3) de_int) (da_cons (de_fld (ms := [102]) (all_cons ⟨G.cl_Question, G.na_Question_wishes⟩ (fun _ h => nomatch h)) (de_ix (dv 3) de_int)) (da_cons (de_fld (ms := [102]) (all_cons ⟨G.cl_Question, G.na_Question_locks⟩ (fun _ h => nomatch h)) (de_ix (dv 3) de_int)) da_nil)))))) dss_nil)
      (dss_one (ds_ret (dv 3))))), hd⟩
theorem h__law_wanted {dsp : DSp} {s__law_due : DSp} {s__law_placed : DSp} (G : Glob K mg) (H__law_due : Has P w K mg base k "_law_due" 1 s__law_due) (H__law_placed : Has P w K mg base k "_law_placed" 2 s__law_placed) (hd : Rd 1 dsp (RD.t__law_wanted s__law_due s__law_placed) N__law_wanted) : Has P w K mg base (k + 1) "_law_wanted" 1 dsp :=
  has_mk G.d__law_wanted sc__law_wanted rfl fun f cdv A outer s0 H E hr => by
    have hu := hr.units
    have hu1 : _ + 1 < cLine := Nat.lt_of_le_of_lt (Nat.add_le_add_left (by decide : 1 ≤ 64) _) hu
    exact ⟨RD.t__law_wanted s__law_due s__law_placed, (dss_cons (ds_asg (de_call H__law_due hr (by rfl) (pasT (takes_of rfl rfl rfl rfl)) (da_cons (de_lc (own := [("side", 3)]) rfl sc__law_wanted.nd (di_seq (dv 0)) (blkOk_by (N := N__law_wanted) (sc := defScope S__law_wanted) (own := [("side", 3)]) (by decide +kernel)) (by decide) (fun _ _ _ _ _ => (dg_name (i := 3) sc__law_wanted.nd rfl (by first | exact .inl rfl | exact .inr rfl))) (fun _ _ _ _ _ => dts_nil) (fun _ _ _ _ _ => (de_ix (dv 3) de_int))) da_nil)) (dg_tup (n := 2) rfl (dgs_cons (dg_name (i := 1) sc__law_wanted.nd rfl (by first | exact .inl rfl | exact .inr rfl)) (dgs_cons (dg_name (i := 2) sc__law_wanted.nd rfl (by first | exact .inl rfl | exact .inr rfl)) dgs_nil))))
      (dss_cons (ds_if (dt_cm cm_isnot (nomark _) (dv 2) de_non) (dss_one (ds_ret (de_tup (da_cons de_str (da_cons de_str (da_cons (dv 2) da_nil)))))) dss_nil)
      (dss_cons (ds_asg (de_call H__law_due hr (by rfl) (pasT (takes_of rfl rfl rfl rfl)) (da_cons (de_lc (own := [("side", 3)]) rfl sc__law_wanted.nd (di_seq (dv 0)) (blkOk_by (N := N__law_wanted) (sc := defScope S__law_wanted) (own := [("side", 3)]) (by decide +kernel)) (by decide) (fun _ _ _ _ _ => (dg_name (i := 3) sc__law_wanted.nd rfl (by first | exact .inl rfl | exact .inr rfl))) (fun _ _ _ _ _ => dts_nil) (fun _ _ _ _ _ => (de_ix (dv 3) de_int))) da_nil)) (dg_tup (n := 2) rfl (dgs_cons (dg_name (i := 4) sc__law_wanted.nd rfl (by first | exact .inl rfl | exact .inr rfl)) (dgs_cons (dg_name (i := 2) sc__law_wanted.nd rfl (by first | exact .inl rfl | exact .inr rfl)) dgs_nil))))
      (dss_cons (ds_if (dt_cm cm_isnot (nomark _) (dv 2) de_non) (dss_one (ds_ret (de_tup (da_cons de_str (da_cons de_str (da_cons (dv 2) da_nil)))))) dss_nil)
      (dss_cons (ds_set (i := 5) sc__law_wanted.nd rfl (by first | exact .inl rfl | exact .inr rfl) (de_call H__law_placed hr (by rfl) (pasT (takes_of rfl rfl rfl rfl)) (da_cons (dv 1) (da_cons (de_lc (own := [("side", 3)]) rfl sc__law_wanted.nd (di_seq (dv 0)) (blkOk_by (N := N__law_wanted) (sc := defScope S__law_wanted) (own := [("side", 3)]) (by decide +kernel)) (by decide) (fun _ _ _ _ _ => (dg_name (i := 3) sc__law_wanted.nd rfl (by first | exact .inl rfl | exact .inr rfl))) (fun _ _ _ _ _ => dts_nil) (fun _ _ _ _ _ => (de_ix (dv 3) de_int))) da_nil))))
      (dss_cons (ds_set (i := 6) sc__law_wanted.nd rfl (by first | exact .inl rfl | exact .inr rfl) (de_tuple (by rfl) G.z_tuple (da_cons (de_sorted hu (by rfl) G.z_sorted (da_cons (de_call H__law_placed hr (by rfl) (pasT (takes_of rfl rfl rfl rfl)) (da_cons (dv 4) (da_cons (de_lc (own := [("side", 3)]) rfl sc__law_wanted.nd (di_seq (dv 0)) (blkOk_by (N := N__law_wanted) (sc := defScope S__law_wanted) (own := [("side", 3)]) (by decide +kernel)) (by decide) (fun _ _ _ _ _ => (dg_name (i := 3) sc__law_wanted.nd rfl (by first | exact .inl rfl | exact .inr rfl))) (fun _ _ _ _ _ => dts_nil) (fun _ _ _ _ _ => (de_ix (dv 3) de_int))) da_nil))) da_nil)) da_nil)))
      (dss_cons (ds_if (dt_cm (cm_gt hu) (nomark _) (de_len (by rfl) G.z_len (da_cons (dv 5) da_nil)) de_int) (dss_one (ds_ret (de_tup (da_cons de_str (da_cons de_int da_nil))))) dss_nil)
      (dss_one (ds_ret (de_if (dt_cm (cm_gt hu) (nomark _) (de_len (by rfl) G.z_len (da_cons (dv 6) da_nil)) de_int) (de_tup (da_cons de_str (da_cons de_int da_nil))) (de_tup (da_cons de_str (da_cons (dv 5) (da_cons (dv 6) da_nil)))))))))))))), hd⟩
theorem h__law_is_right {dsp : DSp} {s_Question___init__ : DSp} {s__law_told : DSp} {s__law_wanted : DSp} (G : Glob K mg) {j_Question___init__ : Nat} (H_Question___init__ : HasM P w K mg base j_Question___init__ 102 "__init__" 3 s_Question___init__) (hk1_Question___init__ : j_Question___init__ + 1 ≤ k) (H__law_told : Has P w K mg base k "_law_told" 3 s__law_told) (H__law_wanted : Has P w K mg base k "_law_wanted" 1 s__law_wanted) (hd : Rd 1 dsp (RD.t__law_is_right_k65 s_Question___init__ s__law_told s__law_wanted) N__law_is_right) : Has P w K mg base (k + 1) "_law_is_right" 1 dsp :=
  has_mk G.d__law_is_right sc__law_is_right rfl fun f cdv A outer s0 H E hr => by
    have hu := hr.units
    have hu1 : _ + 1 < cLine := Nat.lt_of_le_of_lt (Nat.add_le_add_left (by decide : 1 ≤ 64) _) hu
    exact ⟨RD.t__law_is_right_k65 s_Question___init__ s__law_told s__law_wanted, (dss_cons (ds_setLc (i := 1) (own := [("side", 2)]) rfl sc__law_is_right.nd rfl rfl (sw_true rfl rfl rfl (by decide +kernel)) (di_seq (dv 0)) (blkOk_by (N := N__law_is_right) (sc := defScope S__law_is_right) (own := [("side", 2)]) (by decide +kernel)) (by decide) (fun _ _ _ _ _ => (dg_name (i := 2) sc__law_is_right.nd rfl (by first | exact .inl rfl | exact .inr rfl))) (fun _ _ _ _ _ => dts_nil) (fun _ _ _ _ _ => (de_make G.mk_Question H_Question___init__ (hr.mono hk1_Question___init__) (by rfl) pas0 (da_cons (de_ix (dv 2) de_int) (da_cons (de_ix (dv 2) de_int) da_nil)))))
      (dss_cons (ds_if (dt_cm (cm_ne hu) (nomark _) (de_call H__law_told hr (by rfl) (pasT (takes_of rfl rfl rfl rfl)) (da_cons (de_ix (dv 1) de_int) (da_cons (de_ix (dv 1) de_int) (da_cons (de_ix (dv 1) de_int) da_nil)))) (de_call H__law_wanted hr (by rfl) (pasT (takes_of rfl rfl rfl rfl)) (da_cons (dv 0) da_nil))) (dss_one (ds_ret de_bl)) dss_nil)
      (dss_one (ds_ret (de_cm (cm_eq hu) (nomark _) (de_lc (own := [("question", 3)]) rfl sc__law_is_right.nd (di_seq (dv 1)) (blkOk_by (N := N__law_is_right) (sc := defScope S__law_is_right) (own := [("question", 3)]) (by decide +kernel)) (by decide) (fun _ _ _ _ _ => (dg_name (i := 3) sc__law_is_right.nd rfl (by first | exact .inl rfl | exact .inr rfl))) (fun _ _ _ _ _ => dts_nil) (fun _ _ _ _ _ => (de_tup (da_cons (de_fld (ms := [102]) (all_cons ⟨G.cl_Question, G.na_Question_wishes⟩ (fun _ h => nomatch h)) (dv 3)) (da_cons (de_fld (ms := [102]) (all_cons ⟨G.cl_Question, G.na_Question_locks⟩ (fun _ h => nomatch h)) (dv 3)) da_nil))))) (dv 0)))))), hd⟩
theorem h_law {dsp : DSp} {s__law_hand : DSp} {s__law_draw : DSp} {s__law_any : DSp} {s__law_name : DSp} {s__law_wish : DSp} {s__law_wishes : DSp} {s__law_locks : DSp} {s__law_is_right : DSp} {f : Addr} {fd : FuncData} (G : Glob K mg) (F : Fun K "law" "law" S_law f fd) (H__law_hand : Has P w K mg base k "_law_hand" 1 s__law_hand) (H__law_draw : Has P w K mg base k "_law_draw" 2 s__law_draw) (H__law_any : Has P w K mg base k "_law_any" 2 s__law_any) (H__law_name : Has P w K mg base k "_law_name" 1 s__law_name) (H__law_wish : Has P w K mg base k "_law_wish" 2 s__law_wish) (H__law_wishes : Has P w K mg base k "_law_wishes" 3 s__law_wishes) (H__law_locks : Has P w K mg base k "_law_locks" 4 s__law_locks) (H__law_is_right : Has P w K mg base k "_law_is_right" 1 s__law_is_right) (hd : Rd 1 dsp (RD.t_law_k65 s__law_hand s__law_draw s__law_any s__law_name s__law_wish s__law_wishes s__law_locks s__law_is_right) N_law) : FnOk P w K mg base (L2.CX P w) (k + 1) f fd ["script"] (liftSp K 1 dsp) :=
  fn_mk F sc_law rfl fun f cdv A outer s0 H E hr => by
    have hu := hr.units
    have hu1 : _ + 1 < cLine := Nat.lt_of_le_of_lt (Nat.add_le_add_left (by decide : 1 ≤ 64) _) hu
    exact ⟨RD.t_law_k65 s__law_hand s__law_draw s__law_any s__law_name s__law_wish s__law_wishes s__law_locks s__law_is_right, (dss_cons (ds_set (i := 1) sc_law.nd rfl (by first | exact .inl rfl | exact .inr rfl) (de_call H__law_hand hr (by rfl) (pasT (takes_of rfl rfl rfl rfl)) (da_cons (dv 0) da_nil)))
      (dss_cons (ds_for (passes_of rfl) rfl (di_range1 (by rfl) G.z_range (da_cons de_int da_nil)) (dg_name (i := 2) sc_law.nd rfl (by first | exact .inl rfl | exact .inr rfl)) (dss_cons (ds_set (i := 3) sc_law.nd rfl (by first | exact .inl rfl | exact .inr rfl) (de_cm (cm_eq hu) (nomark _) (de_call H__law_draw hr (by rfl) (pasT (takes_of rfl rfl rfl rfl)) (da_cons (dv 1) (da_cons de_int da_nil))) de_int))
      (dss_cons (ds_setLc (i := 4) (own := [("k", 5)]) rfl sc_law.nd rfl rfl (sw_true rfl rfl rfl (by decide +kernel)) (di_range1 (by rfl) G.z_range (da_cons (de_call H__law_any hr (by rfl) (pasT (takes_of rfl rfl rfl rfl)) (da_cons (dv 1) (da_cons (de_lst (da_cons de_int (da_cons de_int (da_cons de_int (da_cons de_int da_nil))))) da_nil))) da_nil)) (blkOk_by (N := N_law) (sc := defScope S_law) (own := [("k", 5)]) (by decide +kernel)) (by decide) (fun _ _ _ _ _ => (dg_name (i := 5) sc_law.nd rfl (by first | exact .inl rfl | exact .inr rfl))) (fun _ _ _ _ _ => dts_nil) (fun _ _ _ _ _ => (de_call H__law_name hr (by rfl) pas0 (da_cons (de_call H__law_draw hr (by rfl) pas0 (da_cons (dv 1) (da_cons de_int da_nil))) da_nil))))
      (dss_cons (ds_set (i := 6) sc_law.nd rfl (by first | exact .inl rfl | exact .inr rfl) (de_add (de_lc (own := [("k", 5)]) rfl sc_law.nd (di_range1 (by rfl) G.z_range (da_cons de_int da_nil)) (blkOk_by (N := N_law) (sc := defScope S_law) (own := [("k", 5)]) (by decide +kernel)) (by decide) (fun _ _ _ _ _ => (dg_name (i := 5) sc_law.nd rfl (by first | exact .inl rfl | exact .inr rfl))) (fun _ _ _ _ _ => dts_nil) (fun _ _ _ _ _ => (de_call H__law_name hr (by rfl) pas0 (da_cons (de_add (dv 5) (de_mul de_int (de_call H__law_draw hr (by rfl) pas0 (da_cons (dv 1) (da_cons de_int da_nil))))) da_nil)))) (de_lc (own := [("k", 5)]) rfl sc_law.nd (di_range1 (by rfl) G.z_range (da_cons de_int da_nil)) (blkOk_by (N := N_law) (sc := defScope S_law) (own := [("k", 5)]) (by decide +kernel)) (by decide) (fun _ _ _ _ _ => (dg_name (i := 5) sc_law.nd rfl (by first | exact .inl rfl | exact .inr rfl))) (fun _ _ _ _ _ => dts_nil) (fun _ _ _ _ _ => (de_call H__law_name hr (by rfl) pas0 (da_cons (dv 5) da_nil))))))
      (dss_cons (ds_set (i := 7) sc_law.nd rfl (by first | exact .inl rfl | exact .inr rfl) (de_if (dt_tru (dv 3)) (dv 6) (dv 4)))
      (dss_cons (ds_set (i := 8) sc_law.nd rfl (by first | exact .inl rfl | exact .inr rfl) (de_if (dt_tru (dv 3)) de_int (de_call H__law_draw hr (by rfl) (pasT (takes_of rfl rfl rfl rfl)) (da_cons (dv 1) (da_cons de_int da_nil)))))
      (dss_cons (ds_set (i := 9) sc_law.nd rfl (by first | exact .inl rfl | exact .inr rfl) (de_cm (cm_eq hu) (nomark _) (de_call H__law_draw hr (by rfl) (pasT (takes_of rfl rfl rfl rfl)) (da_cons (dv 1) (da_cons de_int da_nil))) de_int))
      (dss_cons (ds_set (i := 10) sc_law.nd rfl (by first | exact .inl rfl | exact .inr rfl) (de_if (dt_tru (dv 9)) (de_tup da_nil) (de_call H__law_wishes hr (by rfl) (pasT (takes_of rfl rfl rfl rfl)) (da_cons (dv 1) (da_cons (dv 4) (da_cons (de_tup da_nil) da_nil))))))
      (dss_cons (ds_set (i := 11) sc_law.nd rfl (by first | exact .inl rfl | exact .inr rfl) (de_tup (da_cons (dv 10) (da_cons (de_call H__law_locks hr (by rfl) (pasT (takes_of rfl rfl rfl rfl)) (da_cons (dv 1) (da_cons (dv 7) (da_cons (de_tup da_nil) (da_cons (dv 8) da_nil))))) da_nil))))
      (dss_cons (ds_set (i := 12) sc_law.nd rfl (by first | exact .inl rfl | exact .inr rfl) (de_lst (da_cons (dv 11) da_nil)))
      (dss_cons (ds_for (passes_of rfl) rfl (di_range1 (by rfl) G.z_range (da_cons de_int da_nil)) (dg_name (i := 5) sc_law.nd rfl (by first | exact .inl rfl | exact .inr rfl)) (dss_cons (ds_set (i := 13) sc_law.nd rfl (by first | exact .inl rfl | exact .inr rfl) (de_call H__law_draw hr (by rfl) (pasT (takes_of rfl rfl rfl rfl)) (da_cons (dv 1) (da_cons de_int da_nil))))
      (dss_cons (ds_set (i := 14) sc_law.nd rfl (by first | exact .inl rfl | exact .inr rfl) (de_if (dt_cm (cm_eq hu) (nomark _) (dv 13) de_int) (de_ix (dv 12) (de_neg de_int)) (dv 11)))
      (dss_cons (ds_set (i := 15) sc_law.nd rfl (by first | exact .inl rfl | exact .inr rfl) (de_if (dt_tru (dv 3)) (dv 8) (de_div (dv 13) de_int)))
      (dss_cons (ds_set (i := 16) sc_law.nd rfl (by first | exact .inl rfl | exact .inr rfl) (de_tup (da_cons (de_call H__law_wishes hr (by rfl) (pasT (takes_of rfl rfl rfl rfl)) (da_cons (dv 1) (da_cons (dv 4) (da_cons (de_ix (dv 14) de_int) da_nil)))) (da_cons (de_call H__law_locks hr (by rfl) (pasT (takes_of rfl rfl rfl rfl)) (da_cons (dv 1) (da_cons (dv 7) (da_cons (de_ix (dv 14) de_int) (da_cons (dv 15) da_nil))))) da_nil))))
      (dss_cons (ds_if (dt_tru (dv 9)) (dss_cons (ds_set (i := 17) sc_law.nd rfl (by first | exact .inl rfl | exact .inr rfl) (de_lc (own := [("j", 18)]) rfl sc_law.nd (di_range1 (by rfl) G.z_range (da_cons de_int da_nil)) (blkOk_by (N := N_law) (sc := defScope S_law) (own := [("j", 18)]) (by decide +kernel)) (by decide) (fun _ _ _ _ _ => (dg_name (i := 18) sc_law.nd rfl (by first | exact .inl rfl | exact .inr rfl))) (fun _ _ _ _ _ => dts_nil) (fun _ _ _ _ _ => (de_call H__law_name hr (by rfl) pas0 (da_cons (de_add (de_mul de_int (dv 18)) (dv 5)) da_nil)))))
      (dss_one (ds_set (i := 16) sc_law.nd rfl (by first | exact .inl rfl | exact .inr rfl) (de_tup (da_cons (de_tuple (by rfl) G.z_tuple (da_cons (de_lc (own := [("j", 18)]) rfl sc_law.nd (di_range1 (by rfl) G.z_range (da_cons (de_add de_int (de_call H__law_draw hr (by rfl) (pasT (takes_of rfl rfl rfl rfl)) (da_cons (dv 1) (da_cons de_int da_nil)))) da_nil)) (blkOk_by (N := N_law) (sc := defScope S_law) (own := [("j", 18)]) (by decide +kernel)) (by decide) (fun _ _ _ _ _ => (dg_name (i := 18) sc_law.nd rfl (by first | exact .inl rfl | exact .inr rfl))) (fun _ _ _ _ _ => dts_nil) (fun _ _ _ _ _ => (de_call H__law_wish hr (by rfl) pas0 (da_cons (dv 1) (da_cons (dv 17) da_nil))))) da_nil)) (da_cons (de_ix (dv 16) de_int) da_nil)))))) (dss_one (ds_if (dt_cm (cm_eq hu) (nomark _) (dv 13) de_int) (dss_one (ds_set (i := 16) sc_law.nd rfl (by first | exact .inl rfl | exact .inr rfl) (dv 14))) dss_nil)))
      (dss_cons (ds_if (dt_cm (cm_eq hu) (nomark _) (dv 13) de_int) (dss_one (ds_set (i := 16) sc_law.nd rfl (by first | exact .inl rfl | exact .inr rfl) (de_tup (da_cons (de_ix (dv 14) de_int) (da_cons (de_ix (dv 16) de_int) da_nil))))) dss_nil)
      (dss_cons (ds_if (dt_cm (cm_eq hu) (nomark _) (dv 13) de_int) (dss_one (ds_set (i := 16) sc_law.nd rfl (by first | exact .inl rfl | exact .inr rfl) (de_tup (da_cons (de_ix (dv 16) de_int) (da_cons (de_ix (dv 14) de_int) da_nil))))) dss_nil)
      (dss_one (ds_expr (de_append (dv 12) (da_cons (dv 16) da_nil))))))))))))
      (dss_cons (ds_if (dw_pt (dw_or (dt_not (dt_tru (de_call H__law_is_right hr (by rfl) (pasT (takes_of rfl rfl rfl rfl)) (da_cons (dv 12) da_nil)))) (dw_or1 (dt_not (dt_tru (de_call H__law_is_right hr (by rfl) (pasT (takes_of rfl rfl rfl rfl)) (da_cons (de_lst (da_cons (de_ix (dv 12) de_int) (da_cons (de_ix (dv 12) de_int) (da_cons (de_ix (dv 12) de_int) da_nil)))) da_nil))))))) (dss_one (ds_ret de_bl)) dss_nil)
      (dss_cons (ds_if (dw_pt (dw_or (dt_not (dt_tru (de_call H__law_is_right hr (by rfl) (pasT (takes_of rfl rfl rfl rfl)) (da_cons (de_lst (da_cons (de_ix (dv 12) de_int) (da_cons (de_ix (dv 12) de_int) (da_cons (de_ix (dv 12) de_int) da_nil)))) da_nil)))) (dw_or1 (dt_not (dt_tru (de_call H__law_is_right hr (by rfl) (pasT (takes_of rfl rfl rfl rfl)) (da_cons (de_lst (da_cons (de_ix (dv 12) de_int) (da_cons (de_ix (dv 12) de_int) (da_cons (de_ix (dv 12) de_int) da_nil)))) da_nil))))))) (dss_one (ds_ret de_bl)) dss_nil)
      (dss_one (ds_if (dt_not (dt_tru (de_call H__law_is_right hr (by rfl) (pasT (takes_of rfl rfl rfl rfl)) (da_cons (de_lst (da_cons (de_ix (dv 12) de_int) (da_cons (de_ix (dv 12) de_int) (da_cons (de_ix (dv 12) de_int) da_nil)))) da_nil)))) (dss_one (ds_ret de_bl)) dss_nil)))))))))))))))
      (dss_one (ds_ret de_bl)))), hd⟩
theorem h_Question___init__ {dsp : DSp} {s_wrong_part : DSp} (G : Glob K mg) (H_wrong_part : Has P w K mg base k "wrong_part" 2 s_wrong_part) (hd : Rd 3 dsp (RD.t_Question___init___k14 s_wrong_part) N_Question___init__) : HasM P w K mg base (k + 1) 102 "__init__" 3 dsp :=
  has_mkM G.m_Question___init__ sc_Question___init__ rfl fun f cdv A outer s0 H E hr => by
    have hu := hr.units
    have hu1 : _ + 1 < cLine := Nat.lt_of_le_of_lt (Nat.add_le_add_left (by decide : 1 ≤ 64) _) hu
    exact ⟨RD.t_Question___init___k14 s_wrong_part, (dss_cons (ds_set (i := 3) sc_Question___init__.nd rfl (by first | exact .inl rfl | exact .inr rfl) (de_call H_wrong_part hr (by rfl) (pasT (takes_of rfl rfl rfl rfl)) (da_cons (dv 1) (da_cons (dv 2) da_nil))))
      (dss_cons (ds_if (dt_cm cm_isnot (nomark _) (dv 3) de_non) (dss_one ds_never) dss_nil)
      (dss_cons (ds_setF (ms := [102]) (all_cons ⟨G.cl_Question, G.na_Question_wishes⟩ (fun _ h => nomatch h)) (dv 0) (dv 1))
      (dss_one (ds_setF (ms := [102]) (all_cons ⟨G.cl_Question, G.na_Question_locks⟩ (fun _ h => nomatch h)) (dv 0) (dv 2)))))), hd⟩
theorem h_Question___eq__ {dsp : DSp} (G : Glob K mg) (hd : Rd 2 dsp (RD.t_Question___eq__) N_Question___eq__) : HasM P w K mg base (k + 1) 102 "__eq__" 2 dsp :=
  has_mkM G.m_Question___eq__ sc_Question___eq__ rfl fun f cdv A outer s0 H E hr => by
    have hu := hr.units
    have hu1 : _ + 1 < cLine := Nat.lt_of_le_of_lt (Nat.add_le_add_left (by decide : 1 ≤ 64) _) hu
    exact ⟨RD.t_Question___eq__, (dss_one (ds_ret (de_and (de_isC (ms := [102]) G.kb_Question (all_cons ⟨G.cl_Question, G.ko_Question_Question⟩ (fun _ h => nomatch h)) (by rfl) G.z_isinstance (by rfl) G.g_Question (dv 1)) (de_and (de_cm (cm_eq hu) (nomark _) (de_fld (ms := [102]) (all_cons ⟨G.cl_Question, G.na_Question_wishes⟩ (fun _ h => nomatch h)) (dv 0)) (de_fld (ms := [102]) (all_cons ⟨G.cl_Question, G.na_Question_wishes⟩ (fun _ h => nomatch h)) (dv 1))) (de_one (de_cm (cm_eq hu) (nomark _) (de_fld (ms := [102]) (all_cons ⟨G.cl_Question, G.na_Question_locks⟩ (fun _ h => nomatch h)) (dv 0)) (de_fld (ms := [102]) (all_cons ⟨G.cl_Question, G.na_Question_locks⟩ (fun _ h => nomatch h)) (dv 1)))))))), hd⟩
end
end Lk65
namespace CM
open PySem L2 PySem.Spec DL
open PyProof.Rows hiding St
mutual
def pu : D → Bool
  | .non => true
  | .int _ => true
  | .str x => PyData.strOk x
  | .tup ds => pus ds
  | _ => false
def pus : List D → Bool
  | [] => true
  | d :: ds => pu d && pus ds
end
mutual
def dp : D → Nat
  | .tup ds => dps ds + 1
  | _ => 0
def dps : List D → Nat
  | [] => 0
  | d :: ds => max (dp d) (dps ds)
end
mutual
def pd : D → PyData
  | .int i => .int i
  | .str x => .str x
  | .bl b => .bool b
  | .tup ds => .tuple (pds ds)
  | _ => .none
def pds : List D → List PyData
  | [] => []
  | d :: ds => pd d :: pds ds
end
mutual
theorem pd_depth : ∀ d, (pd d).depth = dp d
  | .non => by simp [pd, dp, PyData.depth]
  | .bl _ => by simp [pd, dp, PyData.depth]
  | .int _ => by simp [pd, dp, PyData.depth]
  | .str _ => by simp [pd, dp, PyData.depth]
  | .fls _ => by simp [pd, dp, PyData.depth]
  | .loc _ => by simp [pd, dp, PyData.depth]
  | .adr _ => by simp [pd, dp, PyData.depth]
  | .ty _ => by simp [pd, dp, PyData.depth]
  | .tup ds => by simp [pd, dp, PyData.depth, pds_depth ds]
theorem pds_depth : ∀ ds, PyData.depthAll (pds ds) = dps ds
  | [] => by simp [pds, dps, PyData.depthAll]
  | d :: ds => by simp [pds, dps, PyData.depthAll, pd_depth d, pds_depth ds]
end
mutual
theorem pd_lay : ∀ d, pu d = true → (pd d).canLay0 = true
  | .non, _ => by simp [pd, PyData.canLay0]
  | .int _, _ => by simp [pd, PyData.canLay0]
  | .str x, h => by simpa [pd, PyData.canLay0, pu] using h
  | .tup ds, h => by simpa [pd, PyData.canLay0] using pds_lay ds (by simpa [pu] using h)
  | .bl _, h => by simp [pu] at h
  | .fls _, h => by simp [pu] at h
  | .loc _, h => by simp [pu] at h
  | .adr _, h => by simp [pu] at h
  | .ty _, h => by simp [pu] at h
theorem pds_lay : ∀ ds, pus ds = true → PyData.canLayAll0 (pds ds) = true
  | [], _ => by simp [pds, PyData.canLayAll0]
  | d :: ds, h => by
    simp only [pus, Bool.and_eq_true] at h
    simp [pds, PyData.canLayAll0, pd_lay d h.1, pds_lay ds h.2]
end
theorem shaped_pd {d : D} (h : pu d = true) (hd : dp d ≤ 60) : SeqAt.shaped (pd d) = true := by
  unfold SeqAt.shaped
  rw [pd_lay d h, pd_depth d]
  simp
  omega
theorem mapM_pds {st : Sto} {n : Nat} (ih : ∀ d, pu d = true → dp d ≤ n → pdF st n d = some (pd d)) : ∀ ds : List D, pus ds = true → dps ds ≤ n → ds.mapM (pdF st n) = some (pds ds)
  | [], _, _ => rfl
  | d :: ds, h, hd => by
    simp only [pus, Bool.and_eq_true] at h
    simp only [dps] at hd
    rw [List.mapM_cons, ih d h.1 (by omega), mapM_pds ih ds h.2 (by omega)]
    rfl
theorem pdF_pd (st : Sto) : ∀ (n : Nat) (d : D), pu d = true → dp d ≤ n → pdF st n d = some (pd d) := by
  intro n
  induction n with
  | zero =>
    intro d h hd
    cases d <;> simp [pu, dp] at h hd <;> simp [pdF, pd]
  | succ n ih =>
    intro d h hd
    cases d <;> simp [pu, dp] at h hd <;> try simp [pdF, pd]
    rename_i ds
    rw [mapM_pds ih ds h (by omega)]
mutual
theorem eqv_pd : ∀ x y : D, pu x = true → pu y = true → (PyData.eqv (pd x) (pd y) = true ↔ x = y)
  | .non, y, _, hy => by cases y <;> simp [pu] at hy <;> simp [pd, PyData.eqv]
  | .int i, y, _, hy => by cases y <;> simp [pu] at hy <;> simp [pd, PyData.eqv]
  | .str x, y, _, hy => by cases y <;> simp [pu] at hy <;> simp [pd, PyData.eqv]
  | .tup ds, y, hx, hy => by
    cases y <;> simp [pu] at hx hy <;> simp [pd, PyData.eqv]
    exact eqv_pds ds _ hx hy
  | .bl _, _, h, _ => by simp [pu] at h
  | .fls _, _, h, _ => by simp [pu] at h
  | .loc _, _, h, _ => by simp [pu] at h
  | .adr _, _, h, _ => by simp [pu] at h
  | .ty _, _, h, _ => by simp [pu] at h
theorem eqv_pds : ∀ xs ys : List D, pus xs = true → pus ys = true → (PyData.eqvAll (pds xs) (pds ys) = true ↔ xs = ys)
  | [], [], _, _ => by simp [pds, PyData.eqvAll]
  | [], y :: ys, _, _ => by simp [pds, PyData.eqvAll]
  | x :: xs, [], _, _ => by simp [pds, PyData.eqvAll]
  | x :: xs, y :: ys, hx, hy => by
    simp only [pus, Bool.and_eq_true] at hx hy
    simp only [pds, PyData.eqvAll, Bool.and_eq_true, eqv_pd x y hx.1 hy.1, eqv_pds xs ys hx.2 hy.2, List.cons.injEq]
end
/-- == of plain data -/
theorem eq_plain {f : Bool → Bool} {x y : D} {st : Sto} {Q : DK} {b : Bool} (hx : pu x = true) (hy : pu y = true) (dx : dp x ≤ 60) (dy : dp y ≤ 60) (hb : b = true ↔ x = y) (q : Q (.bl (f b)) st) : dEqB f x y st Q := by
  unfold dEqB
  split
  · rename_i b' e
    have : b' = b := by
      cases x <;> cases y <;> simp [atomEq] at e <;> cases b <;> simp_all
    rw [this]; exact q
  · refine ⟨60, pd x, pd y, pdF_pd st 60 x hx dx, pdF_pd st 60 y hy dy, shaped_pd hx dx, shaped_pd hy dy, ?_⟩
    have : PyData.eqv (pd x) (pd y) = b := by
      have h := eqv_pd x y hx hy
      cases b <;> cases e : PyData.eqv (pd x) (pd y) <;> simp_all
    rw [this]; exact q
def vA (n : Nat) : Nat := n / 1000001 / 1000001
def vB (n : Nat) : Nat := n / 1000001 % 1000001
def vC (n : Nat) : Nat := n % 1000001
def mkV (a b c : Nat) : Nat := (a * 1000001 + b) * 1000001 + c
def vI (n : Nat) : List Int := [(vA n : Int), (vB n : Int), (vC n : Int)]
def encV (n : Nat) : D := .tup [.int (vA n), .int (vB n), .int (vC n)]
theorem mkV_eq (n : Nat) : mkV (vA n) (vB n) (vC n) = n := by unfold mkV vA vB vC; omega
theorem vA_mk {a b c : Nat} (hb : b < 1000001) (hc : c < 1000001) : vA (mkV a b c) = a := by unfold mkV vA; omega
theorem vB_mk {a b c : Nat} (hb : b < 1000001) (hc : c < 1000001) : vB (mkV a b c) = b := by unfold mkV vB; omega
theorem vC_mk {a b c : Nat} (hc : c < 1000001) : vC (mkV a b c) = c := by unfold mkV vC; omega
theorem vI_lt (m n : Nat) : vI m < vI n ↔ m < n := by
  unfold vI
  simp only [List.cons_lt_cons_iff, List.not_lt_nil, and_false, or_false]
  unfold vA vB vC
  omega
theorem vI_inj {m n : Nat} : vI m = vI n ↔ m = n := by
  constructor
  · intro h
    unfold vI at h
    simp only [List.cons.injEq, and_true] at h
    obtain ⟨h1, h2, h3⟩ := h
    rw [← mkV_eq m, ← mkV_eq n, Int.ofNat_inj.mp h1, Int.ofNat_inj.mp h2, Int.ofNat_inj.mp h3]
  · intro h; rw [h]
theorem encV_inj {m n : Nat} : encV m = encV n ↔ m = n := by
  rw [← vI_inj]
  unfold encV vI
  simp
theorem pu_encV (n : Nat) : pu (encV n) = true := by simp [encV, pu, pus]
theorem dp_encV (n : Nat) : dp (encV n) = 1 := by simp [encV, dp, dps]
theorem pd_encV (n : Nat) : pd (encV n) = .tuple ((vI n).map .int) := by simp [encV, pd, pds, vI]
theorem dataLt_encV (m n : Nat) : PySem.W.dataLt (pd (encV m)) (pd (encV n)) = decide (m < n) := by
  rw [pd_encV, pd_encV, PySem.W.dataLt_tuple]
  refine (PySem.W.dataLt_ints (vI m) (vI n)).trans ?_
  simp only [vI_lt]
theorem alike_encV (m n : Nat) : PySem.W.alike (pd (encV m)) (pd (encV n)) = true := by
  rw [pd_encV, pd_encV]
  simp [vI, PySem.W.alike, PySem.W.alikeAll]
section
variable {st : Sto} {Q : DK} {m n : Nat}
theorem pdF_encV (k : Nat) : pdF st k (encV n) = if k = 0 then none else some (pd (encV n)) := by
  cases k with
  | zero => rfl
  | succ k => rw [if_neg (Nat.succ_ne_zero k)]; exact pdF_pd st (k + 1) _ (pu_encV n) (by rw [dp_encV]; omega)
theorem ord_encV {f : Int → Int → Bool} {g : PyData → PyData → Bool} : dOrd f g (encV m) (encV n) st Q = Q (.bl (g (pd (encV m)) (pd (encV n)))) st := by
  show (∃ k d e, pdF st k (encV m) = some d ∧ pdF st k (encV n) = some e ∧ PySem.W.alike d e = true ∧ d ≠ .none ∧ d.depth ≤ 64 ∧ Q (.bl (g d e)) st) = _
  apply propext
  constructor
  · rintro ⟨k, d, e, h1, h2, _, _, _, q⟩
    rw [pdF_encV] at h1 h2
    split at h1
    · cases h1
    · rename_i hk
      rw [if_neg hk] at h2
      cases h1
      cases h2
      exact q
  · intro q
    refine ⟨1, _, _, pdF_encV 1, pdF_encV 1, alike_encV m n, ?_, ?_, q⟩
    · rw [pd_encV]; simp
    · rw [pd_depth, dp_encV]; decide
@[simp] theorem lt_encV : dLt (encV m) (encV n) st Q = Q (.bl (decide (m < n))) st := by rw [dLt, ord_encV, dataLt_encV]
@[simp] theorem gt_encV : dGt (encV m) (encV n) st Q = Q (.bl (decide (n < m))) st := by rw [dGt, ord_encV, dataLt_encV]
@[simp] theorem le_encV : dLe (encV m) (encV n) st Q = Q (.bl (decide (m ≤ n))) st := by
  rw [dLe, ord_encV, dataLt_encV]
  have : (!decide (n < m)) = decide (m ≤ n) := by
    by_cases h : n < m
    · simp [h]
    · simp [h]; omega
  rw [this]
end
@[simp] theorem isNon_encV {n : Nat} : isNonD (encV n) = false := rfl
def encO : Option Nat → D
  | none => .non
  | some n => encV n
abbrev Rng := List (Nat × Option Nat)
def encP (p : Nat × Option Nat) : D := .tup [encV p.1, encO p.2]
def encR (r : Rng) : D := .tup (r.map encP)
@[simp] theorem isNon_encO {o : Option Nat} : isNonD (encO o) = o.isNone := by cases o <;> rfl
theorem encO_inj {a b : Option Nat} : encO a = encO b ↔ a = b := by
  cases a <;> cases b <;> simp [encO, encV_inj] <;> simp [encV]
theorem encP_inj {p q : Nat × Option Nat} : encP p = encP q ↔ p = q := by
  obtain ⟨a, b⟩ := p
  obtain ⟨c, d⟩ := q
  simp [encP, encV_inj, encO_inj]
theorem encR_inj {r s : Rng} : encR r = encR s ↔ r = s := by
  unfold encR
  simp only [D.tup.injEq]
  constructor
  · intro h
    exact (List.map_inj_right fun _ _ h => encP_inj.mp h).mp h
  · intro h; rw [h]
theorem pu_encO (o : Option Nat) : pu (encO o) = true := by cases o; rfl; exact pu_encV _
theorem dp_encO (o : Option Nat) : dp (encO o) ≤ 1 := by cases o; decide; exact Nat.le_of_eq (dp_encV _)
theorem pus_encP : ∀ r : Rng, pus (r.map encP) = true
  | [] => rfl
  | p :: r => by simp [pus, encP, pu, pu_encV, pu_encO, pus_encP r]
theorem dps_encP : ∀ r : Rng, dps (r.map encP) ≤ 2
  | [] => by decide
  | p :: r => by
    have := dps_encP r
    have h := dp_encO p.2
    simp only [List.map_cons, dps, encP, dp, dp_encV]
    omega
theorem pu_encR (r : Rng) : pu (encR r) = true := by simp [encR, pu, pus_encP]
theorem dp_encR (r : Rng) : dp (encR r) ≤ 3 := by
  have := dps_encP r
  simp only [encR, dp]
  omega
end CM
namespace CM
open PySem L2 PySem.Spec DL
open PyProof.Rows hiding St
mutual
def ok (st : Sto) : D → Prop
  | .tup ds => oks st ds
  | .loc n => (∃ es, st[n]? = some (.lst es)) ∨ ∃ es, st[n]? = some (.dK es)
  | .adr _ => False
  | .ty _ => False
  | _ => True
def oks (st : Sto) : List D → Prop
  | [] => True
  | d :: ds => ok st d ∧ oks st ds
end
theorem oks_iff {st : Sto} : ∀ {ds : List D}, oks st ds ↔ ∀ d ∈ ds, ok st d
  | [] => by simp [oks]
  | d :: ds => by simp [oks, oks_iff (ds := ds)]
theorem ok_cases {st : Sto} {d : D} (h : ok st d) : d = .non ∨ (∃ b, d = .bl b) ∨ (∃ i, d = .int i) ∨ (∃ x, d = .str x) ∨ (∃ ds, d = .tup ds ∧ oks st ds) ∨ (∃ ds, d = .fls ds) ∨ (∃ n es, d = .loc n ∧ st[n]? = some (.lst es)) ∨ ∃ n es, d = .loc n ∧ st[n]? = some (.dK es) := by
  cases d <;> simp [ok] at h ⊢
  · exact h
  · exact h
/-- lists stay lists, dicts stay dicts -/
structure Kin (st st' : Sto) : Prop where
  lst : ∀ (n : Nat) es, st[n]? = some (.lst es) → ∃ es', st'[n]? = some (.lst es')
  dK : ∀ (n : Nat) es, st[n]? = some (.dK es) → ∃ es', st'[n]? = some (.dK es')
theorem Kin.app (st g : Sto) : Kin st (st ++ g) :=
  ⟨fun n es h => ⟨es, by rw [List.getElem?_append_left (List.getElem?_eq_some_iff.mp h).1]; exact h⟩, fun n es h => ⟨es, by rw [List.getElem?_append_left (List.getElem?_eq_some_iff.mp h).1]; exact h⟩⟩
theorem Kin.trans {st st1 st2 : Sto} (a : Kin st st1) (b : Kin st1 st2) : Kin st st2 :=
  ⟨fun n es h => let ⟨_, h1⟩ := a.lst n es h; b.lst n _ h1, fun n es h => let ⟨_, h1⟩ := a.dK n es h; b.dK n _ h1⟩
mutual
theorem ok_mono {st st' : Sto} (h : Kin st st') : ∀ {d : D}, ok st d → ok st' d
  | .tup ds, hd => by simp only [ok] at hd ⊢; exact oks_mono h hd
  | .loc n, hd => by
    simp only [ok] at hd ⊢
    rcases hd with ⟨es, e⟩ | ⟨es, e⟩
    · exact .inl (h.lst n es e)
    · exact .inr (h.dK n es e)
  | .non, _ => by simp [ok]
  | .bl _, _ => by simp [ok]
  | .int _, _ => by simp [ok]
  | .str _, _ => by simp [ok]
  | .fls _, _ => by simp [ok]
  | .adr _, hd => by simp [ok] at hd
  | .ty _, hd => by simp [ok] at hd
theorem oks_mono {st st' : Sto} (h : Kin st st') : ∀ {ds : List D}, oks st ds → oks st' ds
  | [], _ => by simp [oks]
  | d :: ds, hd => by
    simp only [oks] at hd ⊢
    exact ⟨ok_mono h hd.1, oks_mono h hd.2⟩
end
def numOf : D → Option Nat
  | .int i => if 0 ≤ i then some i.toNat else none
  | _ => none
def numMost (most : Nat) (d : D) : Option Nat := match numOf d with
  | some n => if n ≤ most then some n else none
  | none => none
def verM (most : Nat) : D → Option Nat
  | .tup [a, b, c] => match numMost most a, numMost most b, numMost most c with
    | some x, some y, some z => some (mkV x y z)
    | _, _, _ => none
  | _ => none
def intIs : D → Bool
  | .int _ => true
  | _ => false
def sp_is_integer : DSp := fun ds st Q _ => match ds with
  | [d] => ok st d ∧ Q (.bl (intIs d)) st
  | _ => False
def sp_is_number : DSp := fun ds st Q _ => match ds with
  | [d] => ok st d ∧ Q (.bl (numOf d).isSome) st
  | _ => False
def lenIs (i : Int) : D → Bool
  | .tup es => decide ((es.length : Int) = i)
  | _ => false
def sp_is_tuple_of : DSp := fun ds st Q _ => match ds with
  | [.int i, d] => ok st d ∧ Q (.bl (lenIs i d)) st
  | _ => False
def sp_is_version : DSp := fun ds st Q _ => match ds with
  | [d] => ok st d ∧ Q (.bl (verM 1000000 d).isSome) st
  | _ => False
section
variable {st : Sto} {Q : DK} {Z : DX → Sto → Prop} {d : D} {i : Int} {ds : List D}
@[simp] theorem e_is_integer : sp_is_integer [d] st Q Z = (ok st d ∧ Q (.bl (intIs d)) st) := rfl
@[simp] theorem e_is_number : sp_is_number [d] st Q Z = (ok st d ∧ Q (.bl (numOf d).isSome) st) := rfl
@[simp] theorem e_is_tuple_of : sp_is_tuple_of [.int i, d] st Q Z = (ok st d ∧ Q (.bl (lenIs i d)) st) := rfl
@[simp] theorem e_is_version : sp_is_version [d] st Q Z = (ok st d ∧ Q (.bl (verM 1000000 d).isSome) st) := rfl
@[simp] theorem lenIs_tup : lenIs i (.tup ds) = decide ((ds.length : Int) = i) := rfl
@[simp] theorem lenIs_non : lenIs i .non = false := rfl
@[simp] theorem lenIs_bl {b : Bool} : lenIs i (.bl b) = false := rfl
@[simp] theorem lenIs_int {b : Int} : lenIs i (.int b) = false := rfl
@[simp] theorem lenIs_str {b : Str} : lenIs i (.str b) = false := rfl
@[simp] theorem lenIs_fls : lenIs i (.fls ds) = false := rfl
@[simp] theorem lenIs_loc {n : Nat} : lenIs i (.loc n) = false := rfl
@[simp] theorem ok_non : ok st .non = True := rfl
@[simp] theorem ok_bl {b : Bool} : ok st (.bl b) = True := rfl
@[simp] theorem ok_int {b : Int} : ok st (.int b) = True := rfl
@[simp] theorem ok_str {b : Str} : ok st (.str b) = True := rfl
@[simp] theorem ok_fls : ok st (.fls ds) = True := rfl
@[simp] theorem ok_tup : ok st (.tup ds) = oks st ds := rfl
@[simp] theorem oks_nil : oks st [] = True := rfl
@[simp] theorem oks_cons : oks st (d :: ds) = (ok st d ∧ oks st ds) := rfl
end
theorem r_is_integer : Rd 1 sp_is_integer RD.t_is_integer RD.N_is_integer := by
  intro ds st Q Z hl h
  match ds, hl with
  | [d], _ =>
    obtain ⟨ht, q⟩ := h
    unfold RD.t_is_integer
    rcases ok_cases ht with rfl | ⟨b, rfl⟩ | ⟨i, rfl⟩ | ⟨s, rfl⟩ | ⟨ds, rfl, _⟩ | ⟨ds, rfl⟩ | ⟨n, es, rfl, e⟩ | ⟨n, es, rfl, e⟩ <;> simp [tySub, *, tyN] <;> exact .inl q
theorem r_is_number : Rd 1 sp_is_number (RD.t_is_number sp_is_integer) RD.N_is_number := by
  intro ds st Q Z hl h
  match ds, hl with
  | [d], _ =>
    obtain ⟨ht, q⟩ := h
    unfold RD.t_is_number
    rcases ok_cases ht with rfl | ⟨b, rfl⟩ | ⟨i, rfl⟩ | ⟨s, rfl⟩ | ⟨ds, rfl, ho⟩ | ⟨ds, rfl⟩ | ⟨n, es, rfl, e⟩ | ⟨n, es, rfl, e⟩
    case inr.inr.inl =>
      simp [intIs]
      refine .inl ?_
      have : (numOf (.int i)).isSome = decide (0 ≤ i) := by
        unfold numOf
        by_cases hi : 0 ≤ i <;> simp [hi]
      rw [this] at q
      exact q
    all_goals simp [intIs, ht]; exact .inl q
theorem r_is_tuple_of : Rd 2 sp_is_tuple_of RD.t_is_tuple_of RD.N_is_tuple_of := by
  intro ds st Q Z hl h
  match ds, hl, h with
  | [.int i, d], _, h =>
    obtain ⟨ht, q⟩ := h
    unfold RD.t_is_tuple_of
    rcases ok_cases ht with rfl | ⟨b, rfl⟩ | ⟨i, rfl⟩ | ⟨s, rfl⟩ | ⟨ds, rfl, _⟩ | ⟨ds, rfl⟩ | ⟨n, es, rfl, e⟩ | ⟨n, es, rfl, e⟩ <;> simp [tySub, *, tyN] <;> exact .inl q
theorem verM_len {most : Nat} {ds : List D} (h : ds.length ≠ 3) : verM most (.tup ds) = none := by
  match ds, h with
  | [], _ => rfl
  | [_], _ => rfl
  | [_, _], _ => rfl
  | [_, _, _], h => exact absurd rfl h
  | _ :: _ :: _ :: _ :: _, _ => rfl
theorem num_some {d : D} {n : Nat} (h : numOf d = some n) : d = .int n := by
  unfold numOf at h
  split at h
  · rename_i i
    split at h
    · cases h
      rw [Int.toNat_of_nonneg (by assumption)]
    · cases h
  · cases h
theorem num_int {n : Nat} : numOf (.int n) = some n := by
  unfold numOf
  simp
theorem most_some {d : D} {most n : Nat} (h : numMost most d = some n) : d = .int n ∧ n ≤ most := by
  unfold numMost at h
  split at h
  · rename_i m e
    split at h
    · cases h
      exact ⟨num_some e, by assumption⟩
    · cases h
  · cases h
theorem most_int {n most : Nat} (h : n ≤ most) : numMost most (.int n) = some n := by
  unfold numMost
  rw [num_int]
  simp [h]
theorem r_is_version : Rd 1 sp_is_version (RD.t_is_version sp_is_number sp_is_tuple_of) RD.N_is_version := by
  intro ds st Q Z hl h
  match ds, hl with
  | [d], _ =>
    obtain ⟨ht, q⟩ := h
    unfold RD.t_is_version
    rcases ok_cases ht with rfl | ⟨b, rfl⟩ | ⟨i, rfl⟩ | ⟨s, rfl⟩ | ⟨ds, rfl, ho⟩ | ⟨ds, rfl⟩ | ⟨n, es, rfl, e⟩ | ⟨n, es, rfl, e⟩
    case inr.inr.inr.inr.inl =>
      by_cases hl : ds.length = 3
      · match ds, hl with
        | [a, b, c], _ =>
          simp [ht, runG_nil, runG_cons, RD.b_is_version_1] at ho q ⊢
          have hv : ∀ (h : numMost 1000000 a = none ∨ numMost 1000000 b = none ∨ numMost 1000000 c = none), DL.Back st Q (.bl false) st := fun h => by
            have e : (verM 1000000 (.tup [a, b, c])).isSome = false := by
              unfold verM
              rcases h with h | h | h <;> simp only [h]
              · rfl
              · cases numMost 1000000 a <;> rfl
              · cases numMost 1000000 a <;> cases numMost 1000000 b <;> rfl
            rw [e] at q
            exact .inl q
          have big : ∀ {n : Nat}, ¬ n ≤ 1000000 → numMost 1000000 (.int n) = none := fun h => by unfold numMost; rw [num_int]; simp [h]
          have nn : ∀ {x : D}, numOf x = none → numMost 1000000 x = none := fun h => by unfold numMost; rw [h]
          refine ⟨ho.1, ?_⟩
          cases e1 : numOf a with
          | none => simp; exact hv (.inl (nn e1))
          | some x =>
            obtain rfl := num_some e1
            by_cases h1 : x ≤ 1000000
            · have h1' : ¬ (1000000 : Int) < x := by omega
              simp [h1']
              refine ⟨ho.2.1, ?_⟩
              cases e2 : numOf b with
              | none => simp; exact hv (.inr (.inl (nn e2)))
              | some y =>
                obtain rfl := num_some e2
                by_cases h2 : y ≤ 1000000
                · have h2' : ¬ (1000000 : Int) < y := by omega
                  simp [h2']
                  refine ⟨ho.2.2, ?_⟩
                  cases e3 : numOf c with
                  | none => simp; exact hv (.inr (.inr (nn e3)))
                  | some z =>
                    obtain rfl := num_some e3
                    by_cases h3 : z ≤ 1000000
                    · have h3' : ¬ (1000000 : Int) < z := by omega
                      simp [h3']
                      have e : (verM 1000000 (.tup [.int (x : Int), .int (y : Int), .int (z : Int)])).isSome = true := by
                        simp only [verM, most_int h1, most_int h2, most_int h3, Option.isSome_some]
                      rw [e] at q
                      exact .inl q
                    · have h3' : (1000000 : Int) < z := by omega
                      simp [h3']
                      exact hv (.inr (.inr (big h3)))
                · have h2' : (1000000 : Int) < y := by omega
                  simp [h2']
                  exact hv (.inr (.inl (big h2)))
            · have h1' : (1000000 : Int) < x := by omega
              simp [h1']
              exact hv (.inl (big h1))
      · have h3 : ¬ ((ds.length : Int) = 3) := by omega
        simp [ho, verM_len hl, h3] at q ⊢
        exact .inl q
    all_goals
      simp [*]
      exact .inl q
end CM
namespace CM
open PySem L2 PySem.Spec DL
open PyProof.Rows hiding St
theorem verM_some {most n : Nat} {d : D} (hm : most ≤ 1000000) (h : verM most d = some n) : d = encV n ∧ vA n ≤ most ∧ vB n ≤ most ∧ vC n ≤ most := by
  unfold verM at h
  split at h
  · rename_i a b c
    split at h
    · rename_i x y z e1 e2 e3
      cases h
      obtain ⟨rfl, h1⟩ := most_some e1
      obtain ⟨rfl, h2⟩ := most_some e2
      obtain ⟨rfl, h3⟩ := most_some e3
      unfold encV
      rw [vA_mk (by omega) (by omega), vB_mk (by omega) (by omega), vC_mk (by omega)]
      exact ⟨rfl, h1, h2, h3⟩
    · cases h
  · cases h
theorem verM_enc {most n : Nat} (h1 : vA n ≤ most) (h2 : vB n ≤ most) (h3 : vC n ≤ most) : verM most (encV n) = some n := by
  unfold verM encV
  simp only [most_int h1, most_int h2, most_int h3, mkV_eq]
/-- versions as they may stand -/
def okV (n : Nat) : Prop := vA n ≤ 1000000
theorem vB_le (n : Nat) : vB n ≤ 1000000 := by unfold vB; omega
theorem vC_le (n : Nat) : vC n ≤ 1000000 := by unfold vC; omega
theorem ver_enc {n : Nat} (h : okV n) : verM 1000000 (encV n) = some n := verM_enc h (vB_le n) (vC_le n)
theorem ver_some {n : Nat} {d : D} (h : verM 1000000 d = some n) : d = encV n ∧ okV n := let ⟨a, b, _⟩ := verM_some (Nat.le_refl _) h; ⟨a, b⟩
/-- a pair of a range -/
def endOf : D → Option (Option Nat)
  | .non => some none
  | d => match verM 1000000 d with | some x => some (some x) | none => none
def pairOf : D → Option (Nat × Option Nat)
  | .tup [a, b] => match verM 1000000 a, endOf b with
    | some l, some none => some (l, none)
    | some l, some (some h) => if l < h then some (l, some h) else none
    | _, _ => none
  | _ => none
theorem pairOf_len {ds : List D} (h : ds.length ≠ 2) : pairOf (.tup ds) = none := by
  match ds, h with
  | [], _ => rfl
  | [_], _ => rfl
  | [_, _], h => exact absurd rfl h
  | _ :: _ :: _ :: _, _ => rfl
theorem endOf_some {d : D} {o : Option Nat} (h : endOf d = some o) : d = encO o ∧ ∀ x, o = some x → okV x := by
  unfold endOf at h
  split at h
  · cases h
    exact ⟨rfl, fun _ e => by cases e⟩
  · split at h
    · rename_i x e
      cases h
      obtain ⟨h1, h2⟩ := ver_some e
      exact ⟨h1, fun _ e => by cases e; exact h2⟩
    · cases h
def okP (p : Nat × Option Nat) : Prop := okV p.1 ∧ ∀ x, p.2 = some x → okV x ∧ p.1 < x
theorem pairOf_some {d : D} {p : Nat × Option Nat} (h : pairOf d = some p) : d = encP p ∧ okP p := by
  unfold pairOf at h
  split at h
  · rename_i a b
    split at h
    · rename_i l e1 e2
      cases h
      obtain ⟨rfl, h1⟩ := ver_some e1
      obtain ⟨rfl, h2⟩ := endOf_some e2
      exact ⟨rfl, h1, fun _ e => by cases e⟩
    · rename_i l x e1 e2
      split at h
      · cases h
        obtain ⟨rfl, h1⟩ := ver_some e1
        obtain ⟨rfl, h2⟩ := endOf_some e2
        exact ⟨rfl, h1, fun _ e => by cases e; exact ⟨h2 _ rfl, by assumption⟩⟩
      · cases h
    · cases h
  · cases h
theorem endOf_enc {o : Option Nat} (h : ∀ x, o = some x → okV x) : endOf (encO o) = some o := by
  cases o with
  | none => rfl
  | some x =>
    have e := ver_enc (h x rfl)
    unfold endOf
    rw [show encO (some x) = encV x from rfl]
    split
    · rename_i e'; exact absurd e' (by simp [encV])
    · rw [e]
theorem pairOf_enc {p : Nat × Option Nat} (h : okP p) : pairOf (encP p) = some p := by
  obtain ⟨l, o⟩ := p
  unfold pairOf encP
  dsimp only
  rw [ver_enc h.1, endOf_enc fun x e => (h.2 x e).1]
  cases o with
  | none => rfl
  | some x =>
    have := (h.2 x rfl).2
    dsimp only at this ⊢
    rw [if_pos this]
/-- a pair touches the one ahead -/
def touch : Option (Option Nat) → Nat → Bool
  | none, _ => false
  | some none, _ => true
  | some (some x), l => decide (l ≤ x)
def rngL : Option (Option Nat) → List D → Option Rng
  | _, [] => some []
  | prev, d :: ds => match pairOf d with
    | none => none
    | some (l, h) => if touch prev l then none else (rngL (some h) ds).map ((l, h) :: ·)
def rngOf : D → Option Rng
  | .tup ds => rngL none ds
  | _ => none
/-- each pair is one, and ends below the next -/
def okR : Option (Option Nat) → Rng → Prop
  | _, [] => True
  | prev, (l, h) :: r => okP (l, h) ∧ touch prev l = false ∧ okR (some h) r
theorem rngL_enc : ∀ {r : Rng} {prev : Option (Option Nat)}, okR prev r → rngL prev (r.map encP) = some r
  | [], _, _ => rfl
  | (l, o) :: r, prev, h => by
    obtain ⟨h1, h2, h3⟩ := h
    rw [List.map_cons, rngL, pairOf_enc h1]
    dsimp only
    rw [h2, rngL_enc h3]
    rfl
abbrev wf (r : Rng) : Prop := okR none r
theorem rngOf_enc {r : Rng} (h : wf r) : rngOf (encR r) = some r := rngL_enc h
def sp_is_stretch : DSp := fun ds st Q _ => match ds with
  | [d] => ok st d ∧ Q (.bl (pairOf d).isSome) st
  | _ => False
def sp_reaches : DSp := fun ds st Q _ => match ds with
  | [d, e] => ∃ o l, d = encO o ∧ e = encV l ∧ Q (.bl (touch (some o) l)) st
  | _ => False
def sp_is_range : DSp := fun ds st Q _ => match ds with
  | [d] => ok st d ∧ Q (.bl (rngOf d).isSome) st
  | _ => False
def sp_whole : DSp := fun ds st Q _ => match ds with
  | [d] => ok st d ∧ Q (.bl (match d with | .int _ => true | _ => false)) st
  | _ => False
def sp_law_is_version : DSp := fun ds st Q _ => match ds with
  | [d, .int m] => ok st d ∧ ∃ most : Nat, m = most ∧ Q (.bl (verM most d).isSome) st
  | _ => False
section
variable {st : Sto} {Q : DK} {Z : DX → Sto → Prop} {d : D} {i : Int} {ds : List D} {o : Option Nat} {l : Nat}
@[simp] theorem e_is_stretch : sp_is_stretch [d] st Q Z = (ok st d ∧ Q (.bl (pairOf d).isSome) st) := rfl
@[simp] theorem e_reaches : sp_reaches [encO o, encV l] st Q Z = Q (.bl (touch (some o) l)) st := by
  apply propext
  constructor
  · rintro ⟨o', l', h1, h2, q⟩
    rw [encO_inj] at h1
    rw [encV_inj] at h2
    subst h1 h2
    exact q
  · intro q
    exact ⟨o, l, rfl, rfl, q⟩
@[simp] theorem e_is_range : sp_is_range [d] st Q Z = (ok st d ∧ Q (.bl (rngOf d).isSome) st) := rfl
@[simp] theorem e_whole : sp_whole [d] st Q Z = (ok st d ∧ Q (.bl (match d with | .int _ => true | _ => false)) st) := rfl
@[simp] theorem e_law_is_version {m : Nat} : sp_law_is_version [d, .int m] st Q Z = (ok st d ∧ Q (.bl (verM m d).isSome) st) := by
  apply propext
  constructor
  · rintro ⟨h, most, e, q⟩
    have : m = most := Int.ofNat_inj.mp e
    subst this
    exact ⟨h, q⟩
  · rintro ⟨h, q⟩
    exact ⟨h, m, rfl, q⟩
@[simp] theorem e_law_is_version1 : sp_law_is_version [d, .int 1000000] st Q Z = (ok st d ∧ Q (.bl (verM 1000000 d).isSome) st) := e_law_is_version (m := 1000000)
@[simp] theorem e_law_is_version2 : sp_law_is_version [d, .int 999999] st Q Z = (ok st d ∧ Q (.bl (verM 999999 d).isSome) st) := e_law_is_version (m := 999999)
@[simp] theorem ok_encV {n : Nat} : ok st (encV n) = True := by simp [encV]
@[simp] theorem ok_encO : ok st (encO o) = True := by cases o <;> simp [encO]
theorem ok_encPs : ∀ {r : Rng}, oks st (r.map encP)
  | [] => trivial
  | p :: r => ⟨by simp [encP], ok_encPs⟩
@[simp] theorem ok_encR {r : Rng} : ok st (encR r) = True := by simp [encR, ok_encPs]
end
theorem r_reaches : Rd 2 sp_reaches RD.t_reaches RD.N_reaches := by
  intro ds st Q Z hl h
  match ds, hl, h with
  | [d, e], _, h =>
    obtain ⟨o, l, rfl, rfl, q⟩ := h
    unfold RD.t_reaches
    cases o with
    | none => simp [touch] at q ⊢; exact .inl q
    | some x => simp [touch, encO] at q ⊢; exact .inl q
theorem r_is_stretch : Rd 1 sp_is_stretch (RD.t_is_stretch sp_is_tuple_of sp_is_version) RD.N_is_stretch := by
  intro ds st Q Z hl h
  match ds, hl with
  | [d], _ =>
    obtain ⟨ht, q⟩ := h
    unfold RD.t_is_stretch
    rcases ok_cases ht with rfl | ⟨b, rfl⟩ | ⟨i, rfl⟩ | ⟨s, rfl⟩ | ⟨ds, rfl, ho⟩ | ⟨ds, rfl⟩ | ⟨n, es, rfl, e⟩ | ⟨n, es, rfl, e⟩
    case inr.inr.inr.inr.inl =>
      by_cases hl : ds.length = 2
      · match ds, hl with
        | [a, b], _ =>
          simp at ho
          simp [ho]
          cases e1 : verM 1000000 a with
          | none =>
            simp [pairOf, e1] at q ⊢
            exact .inl q
          | some l =>
            obtain ⟨rfl, h1⟩ := ver_some e1
            cases e2 : endOf b with
            | none =>
              simp [pairOf, e1, e2] at q ⊢
              have e3 : isNonD b = false := by
                cases b <;> first | rfl | (simp [endOf] at e2; done)
              have e4 : verM 1000000 b = none := by
                unfold endOf at e2
                split at e2
                · cases e2
                · split at e2
                  · cases e2
                  · assumption
              simp [e3, e4]
              exact .inl q
            | some o =>
              obtain ⟨rfl, h2⟩ := endOf_some e2
              cases o with
              | none =>
                simp [pairOf, e1, e2] at q ⊢
                exact .inl q
              | some x =>
                have e4 := ver_enc (h2 x rfl)
                simp [pairOf, e1, e2] at q ⊢
                simp [encO, e4]
                by_cases hx : l < x
                · simp [hx] at q ⊢
                  exact .inl q
                · simp [hx] at q ⊢
                  exact .inl q
      · have h3 : ¬ ((ds.length : Int) = 2) := by omega
        simp [ho, pairOf_len hl, h3] at q ⊢
        exact .inl q
    all_goals
      simp [*]
      exact .inl q
end CM
namespace CM
open PySem L2 PySem.Spec DL
open PyProof.Rows hiding St
def enumFrom : Nat → List D → List D
  | _, [] => []
  | n, d :: ds => .tup [.int (n : Nat), d] :: enumFrom (n + 1) ds
theorem enumFrom_eq : ∀ (ds : List D) (n : Nat), ds.mapIdx (fun i d => D.tup [.int ((n + i : Nat) : Int), d]) = enumFrom n ds
  | [], _ => rfl
  | d :: ds, n => by
    rw [List.mapIdx_cons, enumFrom, ← enumFrom_eq ds (n + 1)]
    congr 1
    refine congrArg (fun f => List.mapIdx f ds) ?_
    funext i x
    have : n + (i + 1) = n + 1 + i := by omega
    rw [this]
theorem enumItems_eq (ds : List D) : enumItems ds = enumFrom 0 ds := by
  rw [← enumFrom_eq]
  unfold enumItems
  refine congrArg (fun f => List.mapIdx f ds) ?_
  funext i x
  rw [Nat.zero_add]
theorem atI_end {pre suf : List D} {p : D} : atI (pre ++ p :: suf) (pre.length : Int) = some p := atI_nat (by simp)
section
variable {st : Sto} {Q : DK} {Z : DX → Sto → Prop}
@[simp] theorem atI_0 {a : D} {ds : List D} : atI (a :: ds) 0 = some a := atI_nat (j := 0) rfl
@[simp] theorem atI_1 {a b : D} {ds : List D} : atI (a :: b :: ds) 1 = some b := atI_nat (j := 1) rfl
@[simp] theorem atI_2 {a b c : D} {ds : List D} : atI (a :: b :: c :: ds) 2 = some c := atI_nat (j := 2) rfl
/-- what stands ahead of a place -/
def ahead (pre : List D) (prev : Option (Option Nat)) : Prop := (pre = [] ∧ prev = none) ∨ ∃ pr l h, pre = pr ++ [encP (l, h)] ∧ prev = some h
theorem lp_is_range (E : DEnds) : ∀ (suf pre : List D) (prev : Option (Option Nat)) (x1 x2 : Option D), oks st suf → ahead pre prev →
    ((rngL prev suf).isSome = true → ∀ y1 y2, E.nx [some (.tup (pre ++ suf)), y1, y2] st) → ((rngL prev suf).isSome = false → E.rt (.bl false) st) →
    runG (gTup' 2 (gCons' (gN 1) (gCons' (gN 2) gNil'))) (RD.b_is_range_1 sp_is_stretch sp_reaches) E (fun _ => True) (enumFrom pre.length suf) [some (.tup (pre ++ suf)), x1, x2] st := by
  intro suf
  induction suf with
  | nil =>
    intro pre prev x1 x2 _ _ hy hn
    simp [enumFrom, runG_nil]
    simpa using hy rfl x1 x2
  | cons d suf ih =>
    intro pre prev x1 x2 ho hp hy hn
    simp at ho
    rw [enumFrom, runG_cons]
    refine ⟨trivial, ?_⟩
    simp only [s_gTup, s_gCons, s_gN, s_gNil]
    refine ⟨rfl, ?_⟩
    simp [RD.b_is_range_1, ho]
    cases e : pairOf d with
    | none => simp; exact hn (by simp [rngL, e])
    | some p =>
      obtain ⟨l, h⟩ := p
      obtain ⟨rfl, h1⟩ := pairOf_some e
      have no : touch prev l = true → E.rt (.bl false) st := fun ht => hn (by simp [rngL, e, ht])
      have go : touch prev l = false → ∀ x1 x2, runG (gTup' 2 (gCons' (gN 1) (gCons' (gN 2) gNil'))) (RD.b_is_range_1 sp_is_stretch sp_reaches) E (fun _ => True) (enumFrom (pre.length + 1) suf) [some (.tup (pre ++ encP (l, h) :: suf)), x1, x2] st := fun ht x1 x2 => by
        have := ih (pre ++ [encP (l, h)]) (some h) x1 x2 ho.2 (.inr ⟨pre, l, h, rfl, rfl⟩) (fun h' y1 y2 => by
          have := hy (by simpa [rngL, e, ht] using h') y1 y2
          simpa using this) fun h' => hn (by simpa [rngL, e, ht] using h')
        simpa using this
      rcases hp with ⟨rfl, rfl⟩ | ⟨pr, l0, h0, rfl, rfl⟩
      · simp
        exact go rfl _ _
      · have hat : atI (pr ++ encP (l0, h0) :: encP (l, h) :: suf) (pr.length : Int) = some (encP (l0, h0)) := atI_end
        have hix : (pr.length : Int) + 1 - 1 = pr.length := by omega
        simp [hat, hix]
        simp only [encP, s_ix_tup, atI_1, atI_0]
        simp
        cases ht : touch (some h0) l with
        | true => simp; exact no ht
        | false =>
          have := go ht (some (.int ((pr.length : Int) + 1))) (some (encP (l, h)))
          simp [encP] at this ⊢
          exact this
theorem r_is_range : Rd 1 sp_is_range (RD.t_is_range sp_is_stretch sp_reaches) RD.N_is_range := by
  intro ds st Q Z hl h
  match ds, hl with
  | [d], _ =>
    obtain ⟨ht, q⟩ := h
    unfold RD.t_is_range
    rcases ok_cases ht with rfl | ⟨b, rfl⟩ | ⟨i, rfl⟩ | ⟨s, rfl⟩ | ⟨ds, rfl, ho⟩ | ⟨ds, rfl⟩ | ⟨n, es, rfl, e⟩ | ⟨n, es, rfl, e⟩
    case inr.inr.inr.inr.inl =>
      simp [tySub, enumItems_eq]
      refine lp_is_range _ ds [] none none none ho (.inl ⟨rfl, rfl⟩) (fun h y1 y2 => ?_) fun h => ?_
      · simp [rngOf, h] at q ⊢
        exact .inl q
      · simp only [rngOf, h] at q
        exact .inl q
    all_goals
      simp [tySub, tyN, *]
      exact .inl q
end
end CM
namespace CM
open PySem L2 PySem.Spec DL
open PyProof.Rows hiding St
theorem getElem?_push {α : Type} {l : List α} {x : α} : (l ++ [x])[l.length]? = some x := by simp
end CM
namespace CM
def inP (p : Nat × Option Nat) (v : Nat) : Prop := p.1 ≤ v ∧ ∀ x, p.2 = some x → v < x
instance (p : Nat × Option Nat) (v : Nat) : Decidable (inP p v) := by
  unfold inP
  cases e : p.2 with
  | none => exact if h : p.1 ≤ v then .isTrue ⟨h, fun _ e => by cases e⟩ else .isFalse fun q => h q.1
  | some x => exact if h : p.1 ≤ v ∧ v < x then .isTrue ⟨h.1, fun _ e => by cases e; exact h.2⟩ else .isFalse fun q => h ⟨q.1, q.2 x rfl⟩
def Has : Rng → Nat → Prop
  | [], _ => False
  | p :: r, v => inP p v ∨ Has r v
instance decHas : ∀ (r : Rng) (v : Nat), Decidable (Has r v)
  | [], _ => .isFalse id
  | p :: r, v => match (inferInstance : Decidable (inP p v)), decHas r v with
    | .isTrue h, _ => .isTrue (.inl h)
    | .isFalse _, .isTrue h => .isTrue (.inr h)
    | .isFalse h, .isFalse k => .isFalse fun q => q.elim h k
theorem has_append : ∀ {r s : Rng} {v : Nat}, Has (r ++ s) v ↔ Has r v ∨ Has s v
  | [], s, v => by simp [Has]
  | p :: r, s, v => by simp [Has, has_append (r := r), or_assoc]
theorem has_iff {r : Rng} {v : Nat} : Has r v ↔ ∃ p ∈ r, inP p v := by
  induction r with
  | nil => simp [Has]
  | cons p r ih => simp [Has, ih]
/-- all lows are beyond what is ahead -/
theorem okR_low : ∀ {r : Rng} {prev : Option (Option Nat)}, okR prev r → ∀ p ∈ r, okP p ∧ touch prev p.1 = false
  | [], _, _, p, hp => by simp at hp
  | (l, h) :: r, prev, ⟨h1, h2, h3⟩, p, hp => by
    rcases List.mem_cons.mp hp with rfl | hp
    · exact ⟨h1, h2⟩
    · obtain ⟨q1, q2⟩ := okR_low h3 p hp
      refine ⟨q1, ?_⟩
      cases prev with
      | none => rfl
      | some o =>
        cases o with
        | none => exact h2
        | some x =>
          have hx : ¬ l ≤ x := by simpa [touch] using h2
          cases h with
          | none => simp [touch] at q2
          | some y =>
            have hy : ¬ p.1 ≤ y := by simpa [touch] using q2
            have := (h1.2 y rfl).2
            dsimp only at this
            simp [touch]
            omega
theorem okR_has {r : Rng} {x v : Nat} (h : okR (some (some x)) r) (hv : Has r v) : x < v := by
  obtain ⟨p, hp, h1, _⟩ := has_iff.mp hv
  have := (okR_low h p hp).2
  have : ¬ p.1 ≤ x := by simpa [touch] using this
  omega
theorem okR_none {r : Rng} (h : okR (some none) r) : r = [] := by
  cases r with
  | nil => rfl
  | cons p r => obtain ⟨l, o⟩ := p; have := h.2.1; simp [touch] at this
def outF : Option Nat → Rng → Rng
  | none, _ => []
  | some b, [] => [(b, none)]
  | some b, (l, h) :: r => if b < l then (b, some l) :: outF h r else outF h r
theorem outF_spec : ∀ (r : Rng) (b : Nat) (prev : Option (Option Nat)), okR prev r → okV b → ((prev = none ∧ b = 0) ∨ prev = some (some b)) →
    (∀ v, Has (outF (some b) r) v ↔ b ≤ v ∧ ¬ Has r v) ∧ ∀ q : Option (Option Nat), touch q b = false → okR q (outF (some b) r)
  | [], b, prev, _, hb, _ => by
    refine ⟨fun v => ?_, fun q hq => ⟨⟨hb, fun _ e => by cases e⟩, hq, trivial⟩⟩
    simp [outF, Has, inP]
  | (l, h) :: r, b, prev, ho, hb, hp => by
    have hbl : b ≤ l := by
      rcases hp with ⟨_, rfl⟩ | rfl
      · exact Nat.zero_le _
      · have := ho.2.1
        simp [touch] at this
        omega
    have step : (∀ v, Has (outF h r) v ↔ (∃ x, h = some x ∧ x ≤ v) ∧ ¬ Has r v) ∧ ∀ q, (∀ x, h = some x → touch q x = false) → okR q (outF h r) := by
      cases h with
      | none =>
        rw [okR_none ho.2.2]
        refine ⟨fun v => ?_, fun q _ => trivial⟩
        simp [outF, Has]
      | some x =>
        obtain ⟨s1, s2⟩ := outF_spec r x (some (some x)) ho.2.2 (ho.1.2 x rfl).1 (.inr rfl)
        exact ⟨fun v => by rw [s1]; simp, fun q hq => s2 q (hq x rfl)⟩
    have lx : ∀ x, h = some x → l < x := fun x ex => (ho.1.2 x ex).2
    have nr : ∀ v, Has r v → ∃ x, h = some x ∧ x < v := fun v hv => by
      cases h with
      | none => rw [okR_none ho.2.2] at hv; exact hv.elim
      | some x => exact ⟨x, rfl, okR_has ho.2.2 hv⟩
    have main : ∀ v, (∃ x, h = some x ∧ x ≤ v) ∧ ¬ Has r v ↔ l ≤ v ∧ ¬ Has ((l, h) :: r) v := fun v => by
      constructor
      · rintro ⟨⟨x, ex, hx⟩, hn⟩
        have := lx x ex
        refine ⟨by omega, ?_⟩
        rintro (⟨_, q⟩ | q)
        · have := q x ex
          omega
        · exact hn q
      · rintro ⟨h1, hn⟩
        refine ⟨?_, fun q => hn (.inr q)⟩
        cases h with
        | none => exact (hn (.inl ⟨h1, fun _ e => by cases e⟩)).elim
        | some x =>
          refine ⟨x, rfl, ?_⟩
          refine Nat.le_of_not_lt fun c => hn (.inl ⟨h1, fun _ e => by cases e; exact c⟩)
    unfold outF
    by_cases c : b < l
    · rw [if_pos c]
      refine ⟨fun v => ?_, fun q hq => ⟨⟨hb, fun x e => by cases e; exact ⟨ho.1.1, c⟩⟩, hq, step.2 _ fun x ex => by simp [touch]; exact lx x ex⟩⟩
      show inP (b, some l) v ∨ Has (outF h r) v ↔ _
      rw [step.1, main]
      constructor
      · rintro (⟨h1, h2⟩ | ⟨h1, h2⟩)
        · have := h2 l rfl
          refine ⟨h1, ?_⟩
          rintro (⟨q, _⟩ | q)
          · dsimp only at q; omega
          · obtain ⟨x, ex, hx⟩ := nr v q
            have := lx x ex
            omega
        · exact ⟨by omega, h2⟩
      · rintro ⟨h1, h2⟩
        by_cases hv : v < l
        · exact .inl ⟨h1, fun _ e => by cases e; exact hv⟩
        · exact .inr ⟨by omega, h2⟩
    · rw [if_neg c]
      have : b = l := by omega
      subst this
      refine ⟨fun v => ?_, fun q hq => step.2 q fun x ex => ?_⟩
      · rw [step.1, main]
      · have := lx x ex
        cases q with
        | none => rfl
        | some o =>
          cases o with
          | none => simp [touch] at hq
          | some y => simp [touch] at hq ⊢; omega
abbrev outR (r : Rng) : Rng := outF (some 0) r
theorem okV0 : okV 0 := by unfold okV vA; omega
theorem has_out {r : Rng} (h : wf r) (v : Nat) : Has (outR r) v ↔ ¬ Has r v := by
  rw [(outF_spec r 0 none h okV0 (.inl ⟨rfl, rfl⟩)).1]
  simp
theorem wf_out {r : Rng} (h : wf r) : wf (outR r) := (outF_spec r 0 none h okV0 (.inl ⟨rfl, rfl⟩)).2 none rfl
end CM
namespace CM
def laterE : Option Nat → Option Nat → Option Nat
  | some x, some y => some (max x y)
  | _, _ => none
def mF : Nat × Option Nat → Rng → Rng
  | cur, [] => [cur]
  | (b, e), (l, h) :: r => if touch (some e) l = true then mF (b, laterE e h) r else (b, e) :: mF (l, h) r
theorem mF_spec : ∀ (ps : Rng) (b : Nat) (e : Option Nat), okP (b, e) → (∀ p ∈ ps, okP p ∧ b ≤ p.1) → ps.Pairwise (fun p q => p.1 ≤ q.1) →
    (∀ v, Has (mF (b, e) ps) v ↔ Has ((b, e) :: ps) v) ∧ ∀ q : Option (Option Nat), touch q b = false → okR q (mF (b, e) ps)
  | [], b, e, ho, _, _ => ⟨fun _ => Iff.rfl, fun q hq => ⟨ho, hq, trivial⟩⟩
  | (l, h) :: r, b, e, ho, ha, hs => by
    obtain ⟨hs1, hs2⟩ := List.pairwise_cons.mp hs
    obtain ⟨hp, hl⟩ := ha (l, h) List.mem_cons_self
    dsimp only at hl
    have hr : ∀ p ∈ r, okP p ∧ l ≤ p.1 := fun p hp => ⟨(ha p (List.mem_cons_of_mem _ hp)).1, hs1 p hp⟩
    unfold mF
    by_cases ht : touch (some e) l = true
    · rw [if_pos ht]
      have hok : okP (b, laterE e h) := by
        refine ⟨ho.1, fun x ex => ?_⟩
        cases e with
        | none => simp [laterE] at ex
        | some y =>
          cases h with
          | none => simp [laterE] at ex
          | some z =>
            simp only [laterE, Option.some.injEq] at ex
            have h1 := ho.2 y rfl
            have h2 := hp.2 z rfl
            dsimp only at h1 h2
            subst ex
            rcases Nat.le_total y z with c | c
            · rw [Nat.max_eq_right c]; exact ⟨h2.1, by omega⟩
            · rw [Nat.max_eq_left c]; exact ⟨h1.1, by omega⟩
      obtain ⟨m1, m2⟩ := mF_spec r b (laterE e h) hok (fun p hp' => ⟨(hr p hp').1, Nat.le_trans hl (hr p hp').2⟩) hs2
      refine ⟨fun v => ?_, m2⟩
      rw [m1]
      show inP (b, laterE e h) v ∨ Has r v ↔ inP (b, e) v ∨ inP (l, h) v ∨ Has r v
      rw [← or_assoc]
      have : inP (b, laterE e h) v ↔ inP (b, e) v ∨ inP (l, h) v := by
        unfold inP
        cases e with
        | none =>
          simp only [laterE]
          constructor
          · intro q; exact .inl ⟨q.1, fun _ e => by cases e⟩
          · rintro (q | q)
            · exact ⟨q.1, fun _ e => by cases e⟩
            · exact ⟨Nat.le_trans hl q.1, fun _ e => by cases e⟩
        | some y =>
          have hy : l ≤ y := by simpa [touch] using ht
          have hby := (ho.2 y rfl).2
          dsimp only at hby
          cases h with
          | none =>
            simp only [laterE]
            constructor
            · intro q
              by_cases c : v < y
              · exact .inl ⟨q.1, fun _ e => by cases e; exact c⟩
              · refine .inr ⟨?_, fun _ e => by cases e⟩
                show l ≤ v
                omega
            · rintro (q | q)
              · exact ⟨q.1, fun _ e => by cases e⟩
              · exact ⟨Nat.le_trans hl q.1, fun _ e => by cases e⟩
          | some z =>
            simp only [laterE, Option.some.injEq, forall_eq']
            omega
      rw [this]
    · rw [if_neg ht]
      obtain ⟨m1, m2⟩ := mF_spec r l h hp hr hs2
      refine ⟨fun v => ?_, fun q hq => ⟨ho, hq, m2 _ (by simpa using ht)⟩⟩
      show inP (b, e) v ∨ Has (mF (l, h) r) v ↔ _
      rw [m1]
      exact Iff.rfl
def leP (p q : Nat × Option Nat) : Bool := decide (p.1 ≤ q.1)
def sortP (ps : Rng) : Rng := ps.mergeSort leP
def stF : Rng → Rng
  | [] => []
  | p :: r => mF p r
def strR (ps : Rng) : Rng := stF (sortP ps)
theorem str_spec {ps : Rng} (h : ∀ p ∈ ps, okP p) : (∀ v, Has (strR ps) v ↔ Has ps v) ∧ wf (strR ps) := by
  have hp : (sortP ps).Perm ps := List.mergeSort_perm ps leP
  have hs : (sortP ps).Pairwise (fun p q => p.1 ≤ q.1) := by
    have := List.pairwise_mergeSort (le := leP) (fun a b c h1 h2 => by simp [leP] at h1 h2 ⊢; omega) (fun a b => by simp [leP]; omega) ps
    exact this.imp fun h => by simpa [leP] using h
  have hm : ∀ v, Has (sortP ps) v ↔ Has ps v := fun v => by
    rw [has_iff, has_iff]
    constructor
    · rintro ⟨p, h1, h2⟩; exact ⟨p, hp.mem_iff.mp h1, h2⟩
    · rintro ⟨p, h1, h2⟩; exact ⟨p, hp.mem_iff.mpr h1, h2⟩
  have ho : ∀ p ∈ sortP ps, okP p := fun p h' => h p (hp.mem_iff.mp h')
  unfold strR
  generalize sortP ps = qs at *
  cases qs with
  | nil => exact ⟨hm, trivial⟩
  | cons q r =>
    obtain ⟨b, e⟩ := q
    obtain ⟨h1, h2⟩ := List.pairwise_cons.mp hs
    obtain ⟨m1, m2⟩ := mF_spec r b e (ho _ List.mem_cons_self) (fun p hp => ⟨ho p (List.mem_cons_of_mem _ hp), h1 p hp⟩) h2
    exact ⟨fun v => by rw [show stF ((b, e) :: r) = mF (b, e) r from rfl, m1, hm], m2 none rfl⟩
abbrev eitherR (r s : Rng) : Rng := strR (r ++ s)
abbrev bothR (r s : Rng) : Rng := outR (eitherR (outR r) (outR s))
theorem okP_of {r : Rng} (h : wf r) : ∀ p ∈ r, okP p := fun p hp => (okR_low h p hp).1
theorem okP_app {r s : Rng} (h : wf r) (h2 : wf s) : ∀ p ∈ r ++ s, okP p := fun p hp => (List.mem_append.mp hp).elim (okP_of h p) (okP_of h2 p)
theorem has_either {r s : Rng} (h : wf r) (h2 : wf s) (v : Nat) : Has (eitherR r s) v ↔ Has r v ∨ Has s v := by
  rw [(str_spec (okP_app h h2)).1, has_append]
theorem wf_either {r s : Rng} (h : wf r) (h2 : wf s) : wf (eitherR r s) := (str_spec (okP_app h h2)).2
theorem has_both {r s : Rng} (h : wf r) (h2 : wf s) (v : Nat) : Has (bothR r s) v ↔ Has r v ∧ Has s v := by
  rw [has_out (wf_either (wf_out h) (wf_out h2)), has_either (wf_out h) (wf_out h2), has_out h, has_out h2]
  by_cases a : Has r v <;> by_cases b : Has s v <;> simp [a, b]
theorem wf_both {r s : Rng} (h : wf r) (h2 : wf s) : wf (bothR r s) := wf_out (wf_either (wf_out h) (wf_out h2))
def endsOf : Rng → List Nat
  | [] => []
  | (l, none) :: r => l :: endsOf r
  | (l, some x) :: r => l :: x :: endsOf r
theorem ends_mem {r : Rng} {m : Nat} : m ∈ endsOf r ↔ ∃ p ∈ r, m = p.1 ∨ p.2 = some m := by
  induction r with
  | nil => simp [endsOf]
  | cons p r ih =>
    obtain ⟨l, o⟩ := p
    cases o with
    | none => simp [endsOf, ih]
    | some x =>
      simp only [endsOf, List.mem_cons, ih]
      constructor
      · rintro (rfl | rfl | ⟨q, h1, h2⟩)
        · exact ⟨_, .inl rfl, .inl rfl⟩
        · exact ⟨_, .inl rfl, .inr rfl⟩
        · exact ⟨q, .inr h1, h2⟩
      · rintro ⟨q, rfl | h1, h2⟩
        · rcases h2 with h2 | h2
          · exact .inl h2
          · cases h2; exact .inr (.inl rfl)
        · exact .inr (.inr ⟨q, h1, h2⟩)
/-- stretches from marks and flags -/
def mkF (f : Nat → Bool) : Option Nat → List Nat → Rng
  | none, [] => []
  | some b, [] => [(b, none)]
  | none, m :: r => if f m = true then mkF f (some m) r else mkF f none r
  | some b, m :: r => if f m = true then mkF f (some b) r else (b, some m) :: mkF f none r
/-- the range of marks and flags -/
abbrev mkR (f : Nat → Bool) (ms : List Nat) : Rng := mkF f none ms
/-- marks: 0 and all ends, ascending, each once -/
def IsMarks (ms : List Nat) (rs : List Rng) : Prop := ms.Pairwise (· < ·) ∧ ∀ m, m ∈ ms ↔ m = 0 ∨ ∃ r ∈ rs, m ∈ endsOf r
end CM
namespace CM
open PySem L2 PySem.Spec DL
open PyProof.Rows hiding St
theorem sizeLine_big {n : Nat} (h : n < 1048577) : n < sizeLine := by
  have : sizeLine = 16777216 := by decide
  omega
/-- a tuple told from a list made apart: all else is as it was -/
theorem back_tup {st st' : Sto} {Q : DK} {d : D} (h : ∃ g, st' = st ++ g) (hb : D.blw st.length d = true) (q : Q d st) : DL.Back st Q d st' := by
  obtain ⟨g, rfl⟩ := h
  exact .inr ⟨st, g, rfl, rfl, fun b hb => .inl hb, .inl ⟨hb, q⟩⟩
theorem blw_encV (n m : Nat) : D.blw n (encV m) = true := by simp [encV, D.blw, D.blws]
theorem blw_encO (n : Nat) (o : Option Nat) : D.blw n (encO o) = true := by cases o; rfl; exact blw_encV _ _
theorem blws_encP (n : Nat) : ∀ r : Rng, D.blws n (r.map encP) = true
  | [] => rfl
  | p :: r => by simp [D.blws, encP, D.blw, blw_encV, blw_encO, blws_encP n r]
theorem blw_encR (n : Nat) (r : Rng) : D.blw n (encR r) = true := by simp [encR, D.blw, blws_encP]
def few (r : Rng) : Prop := r.length < 1048576
def sp_later_end : DSp := fun ds st Q _ => match ds with
  | [d, e] => ∃ a b, d = encO a ∧ e = encO b ∧ Q (encO (laterE a b)) st
  | _ => False
def sp_has : DSp := fun ds st Q _ => match ds with
  | [d, e] => ∃ r v, d = encR r ∧ e = encV v ∧ Q (.bl (decide (Has r v))) st
  | _ => False
def sp_stretched : DSp := fun ds st Q _ => match ds with
  | [d] => ∃ ps, itemsD st d = some (ps.map encP) ∧ few ps ∧ (∀ p ∈ ps, okP p) ∧ Q (encR (strR ps)) st
  | _ => False
def sp_outside : DSp := fun ds st Q _ => match ds with
  | [d] => ∃ r, d = encR r ∧ wf r ∧ few r ∧ Q (encR (outR r)) st
  | _ => False
def sp_either : DSp := fun ds st Q _ => match ds with
  | [d, e] => ∃ r s, d = encR r ∧ e = encR s ∧ wf r ∧ wf s ∧ r.length + s.length < 1048576 ∧ Q (encR (eitherR r s)) st
  | _ => False
def sp_both : DSp := fun ds st Q _ => match ds with
  | [d, e] => ∃ r s, d = encR r ∧ e = encR s ∧ wf r ∧ wf s ∧ r.length + s.length < 1000000 ∧ Q (encR (bothR r s)) st
  | _ => False
section
variable {st : Sto} {Q : DK} {Z : DX → Sto → Prop} {d : D} {r s : Rng} {a b : Option Nat} {v : Nat}
theorem ex1 {p : Rng → Prop} : (∃ t, encR r = encR t ∧ p t) = p r := by
  apply propext
  constructor
  · rintro ⟨t, e, h⟩
    rw [encR_inj] at e
    subst e
    exact h
  · intro h; exact ⟨r, rfl, h⟩
@[simp] theorem e_later_end : sp_later_end [encO a, encO b] st Q Z = Q (encO (laterE a b)) st := by
  apply propext
  constructor
  · rintro ⟨a', b', h1, h2, q⟩
    rw [encO_inj] at h1 h2
    subst h1 h2
    exact q
  · intro q; exact ⟨a, b, rfl, rfl, q⟩
@[simp] theorem e_has : sp_has [encR r, encV v] st Q Z = Q (.bl (decide (Has r v))) st := by
  apply propext
  constructor
  · rintro ⟨r', v', h1, h2, q⟩
    rw [encR_inj] at h1
    rw [encV_inj] at h2
    subst h1 h2
    exact q
  · intro q; exact ⟨r, v, rfl, rfl, q⟩
@[simp] theorem e_outside : sp_outside [encR r] st Q Z = (wf r ∧ few r ∧ Q (encR (outR r)) st) := ex1
@[simp] theorem e_either : sp_either [encR r, encR s] st Q Z = (wf r ∧ wf s ∧ r.length + s.length < 1048576 ∧ Q (encR (eitherR r s)) st) := by
  apply propext
  constructor
  · rintro ⟨r', s', h1, h2, q⟩
    rw [encR_inj] at h1 h2
    subst h1 h2
    exact q
  · intro q; exact ⟨r, s, rfl, rfl, q⟩
@[simp] theorem e_both : sp_both [encR r, encR s] st Q Z = (wf r ∧ wf s ∧ r.length + s.length < 1000000 ∧ Q (encR (bothR r s)) st) := by
  apply propext
  constructor
  · rintro ⟨r', s', h1, h2, q⟩
    rw [encR_inj] at h1 h2
    subst h1 h2
    exact q
  · intro q; exact ⟨r, s, rfl, rfl, q⟩
end
end CM
namespace CM
open PySem L2 PySem.Spec DL
open PyProof.Rows hiding St
theorem length_out : ∀ (r : Rng) (b : Option Nat), (outF b r).length ≤ r.length + 1
  | [], none => by simp [outF]
  | [], some b => by simp [outF]
  | (l, h) :: r, none => by simp [outF]
  | (l, h) :: r, some b => by
    have := length_out r h
    unfold outF
    split <;> simp <;> omega
@[simp] theorem atI_m1 {xs : List D} {v : D} : atI (xs ++ [v]) (-1) = some v := atI_last xs v
@[simp] theorem ixN_m1 {n : Nat} : ixN (n + 1) (-1) = some n := by
  unfold ixN
  rw [if_neg (by decide), if_pos (by omega)]
  congr 1
  omega
end CM
namespace CM
open PySem L2 PySem.Spec DL
open PyProof.Rows hiding St
@[simp] theorem e_stretched {st : Sto} {Q : DK} {Z : DX → Sto → Prop} {d : D} : sp_stretched [d] st Q Z = ∃ ps, itemsD st d = some (ps.map encP) ∧ few ps ∧ (∀ p ∈ ps, okP p) ∧ Q (encR (strR ps)) st := rfl
def sp_least_of : DSp := fun ds st Q _ => match ds with
  | [d] => ∃ r, d = encR r ∧ Q (encO (match r with | [] => none | p :: _ => some p.1)) st
  | _ => False
end CM
namespace CM
open PySem L2 PySem.Spec DL
open PyProof.Rows hiding St
section
variable {α : Type} {l g : List α} {x y : α}
theorem g0 : (l ++ x :: g)[l.length]? = some x := by simp
theorem s0 : (l ++ x :: g).set l.length y = l ++ y :: g := by
  rw [List.set_append_right _ _ (Nat.le_refl _)]
  simp
theorem gb {n : Nat} (h : l[n]? = some x) : (l ++ g)[n]? = some x := by
  rw [List.getElem?_append_left (List.getElem?_eq_some_iff.mp h).1]
  exact h
end
def allEnds (rs : List Rng) : List Nat := rs.flatMap endsOf
def sp_marks : DSp := fun ds st Q _ => match ds with
  | [d] => ∃ rs : List Rng, itemsD st d = some (rs.map encR) ∧ (∀ r ∈ rs, wf r) ∧ (allEnds rs).length < 63 ∧ ∀ ms, IsMarks ms rs → ms.length < 64 → Q (.loc st.length) (st ++ [.lst (ms.map encV)])
  | _ => False
theorem few_marks {ms ls : List Nat} (h1 : ms.Pairwise (· < ·)) (h2 : ∀ m ∈ ms, m ∈ ls) : ms.length ≤ ls.length := by
  induction ms generalizing ls with
  | nil => exact Nat.zero_le _
  | cons m ms ih =>
    obtain ⟨p1, p2⟩ := List.pairwise_cons.mp h1
    have hm := h2 m List.mem_cons_self
    have := ih (ls := ls.erase m) p2 fun k hk => by
      rw [List.mem_erase_of_ne (by have := p1 k hk; omega)]
      exact h2 k (List.mem_cons_of_mem _ hk)
    rw [List.length_erase_of_mem hm] at this
    have := List.length_pos_of_mem hm
    simp only [List.length_cons]
    omega
end CM
namespace CM
open PySem L2 PySem.Spec DL
open PyProof.Rows hiding St
/-- ints from a number on -/
def upFrom : Nat → Nat → List D
  | _, 0 => []
  | i, n + 1 => .int (i : Nat) :: upFrom (i + 1) n
theorem upFrom_eq : ∀ (n i : Nat), (List.range n).map (fun (j : Nat) => D.int ((i : Int) + (j : Int))) = upFrom i n
  | 0, _ => rfl
  | n + 1, i => by
    rw [List.range_succ_eq_map, List.map_cons, List.map_map, upFrom, ← upFrom_eq n (i + 1)]
    congr 1
    refine congrArg (fun f => List.map f (List.range n)) ?_
    funext j
    simp only [Function.comp]
    congr 1
    omega
theorem rngItems_up (n : Nat) : rngItems 0 n = upFrom 0 n := by
  rw [← upFrom_eq]
  unfold rngItems
  rfl
def sp_made : DSp := fun ds st Q _ => match ds with
  | [.loc a, .loc b] => ∃ (ms : List Nat) (f : Nat → Bool), st[a]? = some (.lst (ms.map encV)) ∧ st[b]? = some (.lst ((ms.map f).map .bl)) ∧ ms.length < 1000 ∧ Q (encR (mkR f ms)) st
  | _ => False
end CM
namespace CM
open PySem L2 PySem.Spec DL
open PyProof.Rows hiding St
/-- a comprehension whose turns leave the store be -/
theorem runC_pure {te : DTE} {ρ : Env'} {Q : DK} {G : Sto → Prop} {i : Nat} {α : Type} {inj : α → D} {out : α → D} {st : Sto} (hG : G st)
    (ht : ∀ x (QT : DK), QT (out x) st → te (ρ.set i (some (inj x))) st QT Z0) : ∀ (xs : List α) (acc : List D), acc.length + xs.length < 1048576 →
    Q (.loc st.length) (st ++ [.lst (acc ++ xs.map out)]) → runC (gN i) dYes te ρ Q G (xs.map inj) acc st
  | [], acc, _, q => by
    rw [List.map_nil, runC_nil]
    exact ⟨hG, by simpa using q⟩
  | x :: xs, acc, hl, q => by
    rw [List.map_cons, runC_cons]
    refine ⟨hG, ?_⟩
    simp only [List.length_cons] at hl
    simp
    refine ht x _ ⟨sizeLine_big (by omega), ?_⟩
    exact runC_pure hG ht xs (acc ++ [out x]) (by simp; omega) (by simpa using q)
def sp_law_both : DSp := fun ds st Q _ => match ds with
  | [d, e] => ∃ r s, d = encR r ∧ e = encR s ∧ wf r ∧ wf s ∧ (allEnds [r, s]).length < 63 ∧ Q (encR (bothR r s)) st
  | _ => False
def sp_law_either : DSp := fun ds st Q _ => match ds with
  | [d, e] => ∃ r s, d = encR r ∧ e = encR s ∧ wf r ∧ wf s ∧ (allEnds [r, s]).length < 63 ∧ Q (encR (eitherR r s)) st
  | _ => False
def sp_law_outside : DSp := fun ds st Q _ => match ds with
  | [d] => ∃ r, d = encR r ∧ wf r ∧ (allEnds [r]).length < 63 ∧ Q (encR (outR r)) st
  | _ => False
@[simp] theorem e_marks {st : Sto} {Q : DK} {Z : DX → Sto → Prop} {d : D} : sp_marks [d] st Q Z = ∃ rs : List Rng, itemsD st d = some (rs.map encR) ∧ (∀ r ∈ rs, wf r) ∧ (allEnds rs).length < 63 ∧ ∀ ms, IsMarks ms rs → ms.length < 64 → Q (.loc st.length) (st ++ [.lst (ms.map encV)]) := rfl
@[simp] theorem e_made {st : Sto} {Q : DK} {Z : DX → Sto → Prop} {a b : Nat} : sp_made [.loc a, .loc b] st Q Z = ∃ (ms : List Nat) (f : Nat → Bool), st[a]? = some (.lst (ms.map encV)) ∧ st[b]? = some (.lst ((ms.map f).map .bl)) ∧ ms.length < 1000 ∧ Q (encR (mkR f ms)) st := rfl
end CM
namespace CM
open PySem L2 PySem.Spec DL
open PyProof.Rows hiding St
def handOb (c : Nat) (a b d e : Int) : Ob := .lst [.loc c, .int a, .int b, .int d, .int e]
structure Hd (st : Sto) (h c : Nat) : Prop where
  ex : ∃ (cells : List Int) (a b d e : Int), st[h]? = some (handOb c a b d e) ∧ st[c]? = some (.lst (cells.map .int)) ∧ 0 ≤ a
theorem Hd.ne {st : Sto} {h c : Nat} (H : Hd st h c) : c ≠ h := by
  obtain ⟨cells, a, b, d, e, h1, h2, _⟩ := H.ex
  intro z
  rw [z, h1] at h2
  have h2 := Option.some.inj h2
  simp only [handOb, Ob.lst.injEq] at h2
  cases cells with
  | nil => simp at h2
  | cons x xs => simp at h2
theorem Hd.hlt {st : Sto} {h c : Nat} (H : Hd st h c) : h < st.length := by
  obtain ⟨cells, a, b, d, e, h1, h2, _⟩ := H.ex
  exact (List.getElem?_eq_some_iff.mp h1).1
theorem Hd.clt {st : Sto} {h c : Nat} (H : Hd st h c) : c < st.length := by
  obtain ⟨cells, a, b, d, e, h1, h2, _⟩ := H.ex
  exact (List.getElem?_eq_some_iff.mp h2).1
theorem Hd.app {st : Sto} {h c : Nat} (H : Hd st h c) (g : Sto) : Hd (st ++ g) h c := by
  obtain ⟨cells, a, b, d, e, h1, h2, h3⟩ := H.ex
  exact ⟨cells, a, b, d, e, gb h1, gb h2, h3⟩
/-- only the hand is another -/
structure Sm (h : Nat) (st st' : Sto) : Prop where
  len : st'.length = st.length
  same : ∀ n, n ≠ h → st'[n]? = st[n]?
theorem Sm.refl (h : Nat) (st : Sto) : Sm h st st := ⟨rfl, fun _ _ => rfl⟩
theorem Sm.trans {h : Nat} {st st1 st2 : Sto} (a : Sm h st st1) (b : Sm h st1 st2) : Sm h st st2 := ⟨b.len.trans a.len, fun n hn => (b.same n hn).trans (a.same n hn)⟩
theorem Sm.set {h : Nat} {st : Sto} {o : Ob} : Sm h st (st.set h o) := ⟨by simp, fun n hn => by rw [List.getElem?_set_ne (Ne.symm hn)]⟩
/-- grown: the old things but the hand stand -/
structure Gr (h c : Nat) (st st' : Sto) : Prop where
  len : st.length ≤ st'.length
  same : ∀ n, n < st.length → n ≠ h → st'[n]? = st[n]?
  hd : Hd st' h c
  hd0 : Hd st h c
theorem Gr.hlt {h c : Nat} {st st' : Sto} (g : Gr h c st st') : h < st.length := g.hd0.hlt
theorem Gr.clt {h c : Nat} {st st' : Sto} (g : Gr h c st st') : c < st.length := g.hd0.clt
theorem Gr.refl {h c : Nat} {st : Sto} (H : Hd st h c) : Gr h c st st := ⟨Nat.le_refl _, fun _ _ _ => rfl, H, H⟩
theorem Gr.trans {h c : Nat} {st st1 st2 : Sto} (a : Gr h c st st1) (b : Gr h c st1 st2) : Gr h c st st2 :=
  ⟨Nat.le_trans a.len b.len, fun n hn hne => (b.same n (Nat.lt_of_lt_of_le hn a.len) hne).trans (a.same n hn hne), b.hd, a.hd0⟩
theorem Gr.sm {h c : Nat} {st st1 st2 : Sto} (g : Gr h c st st1) (s : Sm h st1 st2) (H : Hd st2 h c) : Gr h c st st2 :=
  ⟨by rw [s.len]; exact g.len, fun n hn hne => (s.same n hne).trans (g.same n hn hne), H, g.hd0⟩
theorem Gr.app {h c : Nat} {st st1 : Sto} (g : Gr h c st st1) (x : Sto) : Gr h c st (st1 ++ x) :=
  ⟨by simp; have := g.len; omega, fun n hn hne => by rw [List.getElem?_append_left (by have := g.len; omega)]; exact g.same n hn hne, g.hd.app x, g.hd0⟩
theorem Gr.get {h c n : Nat} {st st1 : Sto} {b : Ob} (g : Gr h c st st1) (hb : st[n]? = some b) (hne : n ≠ h) : st1[n]? = some b := by
  rw [g.same n (List.getElem?_eq_some_iff.mp hb).1 hne]; exact hb
theorem Gr.kin {h c : Nat} {st st1 : Sto} (g : Gr h c st st1) : Kin st st1 :=
  ⟨fun n es e => by
    by_cases hn : n = h
    · subst hn
      obtain ⟨cells, a, b, d, e', h1, _, _⟩ := g.hd.ex
      exact ⟨_, h1⟩
    · exact ⟨es, g.get e hn⟩, fun n es e => by
    by_cases hn : n = h
    · subst hn
      obtain ⟨cells, a, b, d, e', h1, _, _⟩ := g.hd0.ex
      rw [h1] at e
      cases e
    · exact ⟨es, g.get e hn⟩⟩
def sp_draw : DSp := fun ds st Q _ => match ds with
  | [.loc h, .int m] => ∃ c, Hd st h c ∧ 0 < m ∧ m < 1000000000 ∧ ∀ r st', 0 ≤ r → r < m → Hd st' h c → Sm h st st' → Q (.int r) st'
  | _ => False
def sp_some : DSp := fun ds st Q _ => match ds with
  | [.loc h, t] => ∃ c es, Hd st h c ∧ itemsD st t = some es ∧ t ≠ .loc h ∧ 0 < es.length ∧ es.length < 1000000000 ∧ ∀ e st', e ∈ es → Hd st' h c → Sm h st st' → Q e st'
  | _ => False
def sp_flag : DSp := fun ds st Q _ => match ds with
  | [.bl a, .bl b] => Q (.bl (decide (a = b))) st
  | _ => False
theorem big_mul1 {i j : Int} (h : -(2 ^ 64) < j ∧ j < 2 ^ 64) : CMul i j := .inr h
theorem big_mul2 {i j : Int} (h : -(2 ^ 64) < i ∧ i < 2 ^ 64) : CMul i j := .inl h
@[simp] theorem atI_3 {a b c d : D} {ds : List D} : atI (a :: b :: c :: d :: ds) 3 = some d := atI_nat (j := 3) rfl
@[simp] theorem atI_4 {a b c d e : D} {ds : List D} : atI (a :: b :: c :: d :: e :: ds) 4 = some e := atI_nat (j := 4) rfl
theorem mod_in {x m : Int} (h : 0 < m) : 0 ≤ x % m ∧ x % m < m := ⟨Int.emod_nonneg _ (by omega), Int.emod_lt_of_pos _ h⟩
end CM
namespace CM
open PySem L2 PySem.Spec DL
open PyProof.Rows hiding St
@[simp] theorem e_draw {st : Sto} {Q : DK} {Z : DX → Sto → Prop} {h : Nat} {m : Int} : sp_draw [.loc h, .int m] st Q Z = ∃ c, Hd st h c ∧ 0 < m ∧ m < 1000000000 ∧ ∀ r st', 0 ≤ r → r < m → Hd st' h c → Sm h st st' → Q (.int r) st' := rfl
@[simp] theorem e_some {st : Sto} {Q : DK} {Z : DX → Sto → Prop} {h : Nat} {t : D} : sp_some [.loc h, t] st Q Z = ∃ c es, Hd st h c ∧ itemsD st t = some es ∧ t ≠ .loc h ∧ 0 < es.length ∧ es.length < 1000000000 ∧ ∀ e st', e ∈ es → Hd st' h c → Sm h st st' → Q e st' := rfl
@[simp] theorem e_flag {st : Sto} {Q : DK} {Z : DX → Sto → Prop} {a b : Bool} : sp_flag [.bl a, .bl b] st Q Z = Q (.bl (decide (a = b))) st := rfl
theorem at_mem {es : List D} {r : Int} (h0 : 0 ≤ r) (h1 : r < es.length) : ∃ e ∈ es, atI es r = some e := by
  have hl : r.toNat < es.length := by omega
  refine ⟨es[r.toNat], List.getElem_mem hl, ?_⟩
  have := atI_nat (List.getElem?_eq_getElem hl)
  rwa [Int.toNat_of_nonneg h0] at this
theorem cut63 {ns : List Int} (h : ns.length ≤ 63) : cutL (ns.map D.int) none (some 63) = ns.map .int := by
  have e : _root_.HT.sIx (ns.map D.int).length (ns.map D.int).length (some 63) = (ns.map D.int).length := by
    show (if (63 : Int) < 0 then ((63 : Int) + ((ns.map D.int).length : Int)).toNat else min (63 : Int).toNat (ns.map D.int).length) = _
    rw [if_neg (by decide)]
    simp
    omega
  unfold cutL
  rw [e, show _root_.HT.sIx (ns.map D.int).length 0 none = 0 from rfl]
  simp
  exact List.take_of_length_le (by simp)
end CM
namespace CM
open PySem L2 PySem.Spec DL
open PyProof.Rows hiding St
def smallV (n : Nat) : Prop := vA n ≤ 999999 ∧ vB n ≤ 999999 ∧ vC n ≤ 999999
theorem smallV.ok {n : Nat} (h : smallV n) : okV n := by unfold okV; have := h.1; omega
theorem small_mk {a b c : Int} (ha : 0 ≤ a ∧ a ≤ 999999) (hb : 0 ≤ b ∧ b ≤ 999999) (hc : 0 ≤ c ∧ c ≤ 999999) : ∃ n, D.tup [.int a, .int b, .int c] = encV n ∧ smallV n := by
  obtain ⟨x, rfl⟩ := Int.eq_ofNat_of_zero_le ha.1
  obtain ⟨y, rfl⟩ := Int.eq_ofNat_of_zero_le hb.1
  obtain ⟨z, rfl⟩ := Int.eq_ofNat_of_zero_le hc.1
  refine ⟨mkV x y z, ?_, ?_⟩
  · unfold encV
    rw [vA_mk (by omega) (by omega), vB_mk (by omega) (by omega), vC_mk (by omega)]
  · unfold smallV
    rw [vA_mk (by omega) (by omega), vB_mk (by omega) (by omega), vC_mk (by omega)]
    omega
def sp_lversion : DSp := fun ds st Q _ => match ds with
  | [.loc h] => ∃ c, Hd st h c ∧ ∀ n st', smallV n → Hd st' h c → Sm h st st' → Q (encV n) st'
  | _ => False
@[simp] theorem e_lversion {st : Sto} {Q : DK} {Z : DX → Sto → Prop} {h : Nat} : sp_lversion [.loc h] st Q Z = ∃ c, Hd st h c ∧ ∀ n st', smallV n → Hd st' h c → Sm h st st' → Q (encV n) st' := rfl
/-- all ends are small -/
def smE (r : Rng) : Prop := ∀ e ∈ endsOf r, smallV e
def sp_lrange : DSp := fun ds st Q _ => match ds with
  | [.loc h] => ∃ c, Hd st h c ∧ ∀ r st', wf r → smE r → r.length ≤ 6 → Hd st' h c → Sm h st st' → Q (encR r) st'
  | _ => False
@[simp] theorem e_lrange {st : Sto} {Q : DK} {Z : DX → Sto → Prop} {h : Nat} : sp_lrange [.loc h] st Q Z = ∃ c, Hd st h c ∧ ∀ r st', wf r → smE r → r.length ≤ 6 → Hd st' h c → Sm h st st' → Q (encR r) st' := rfl
end CM
namespace CM
open PySem L2 PySem.Spec DL
open PyProof.Rows hiding St
def sp_deep : DSp := fun ds st Q _ => match ds with
  | [.int _] => ∀ d st', (∃ g, st' = st ++ g) → ok st' d → (∀ r, d ≠ encR r) → Q d st'
  | _ => False
@[simp] theorem e_deep {st : Sto} {Q : DK} {Z : DX → Sto → Prop} {k : Int} : sp_deep [.int k] st Q Z = ∀ d st', (∃ g, st' = st ++ g) → ok st' d → (∀ r, d ≠ encR r) → Q d st' := rfl
def sp_oddv : DSp := fun ds st Q _ => match ds with
  | [.loc h, v] => ∃ c n, Hd st h c ∧ v = encV n ∧ ∀ d st', Gr h c st st' → ok st' d → Q d st'
  | _ => False
def DrE (h c : Nat) (st0 : Sto) (ρ : Env') (p : D → Prop) (te : DTE) : Prop :=
  ∀ st1 Q Z, Gr h c st0 st1 → (∀ d st2, Gr h c st1 st2 → ok st2 d → p d → Q d st2) → te ρ st1 Q Z
def DrL (h c : Nat) (st0 : Sto) (ρ : Env') (p : D → Prop) (n : Nat) (t : DTA) : Prop :=
  ∀ st1 (QA : List D → Sto → Prop) Z, Gr h c st0 st1 → (∀ ds st2, Gr h c st1 st2 → oks st2 ds → (∀ d ∈ ds, p d) → ds.length = n → QA ds st2) → t ρ st1 QA Z
section
variable {h c : Nat} {st0 : Sto} {ρ : Env'} {p : D → Prop} {n : Nat} {te : DTE} {t : DTA}
theorem DrL.nil : DrL h c st0 ρ p 0 dNil := fun st1 QA Z g q => q [] st1 (Gr.refl g.hd) trivial (by simp) rfl
theorem DrL.cons (a : DrE h c st0 ρ p te) (b : DrL h c st0 ρ p n t) : DrL h c st0 ρ p (n + 1) (dCons te t) := fun st1 QA Z g q => by
  rw [s_cons]
  refine a st1 _ Z g fun d st2 g2 h2 hp => b st2 _ Z (g.trans g2) fun ds st3 g3 h3 hps hl => q (d :: ds) st3 (g2.trans g3) ⟨ok_mono g3.kin h2, h3⟩ (fun e he => ?_) (by simp [hl])
  rcases List.mem_cons.mp he with rfl | he
  · exact hp
  · exact hps e he
theorem DrE.tup (a : DrL h c st0 ρ (fun _ => True) n t) (hn : n < 1000) (hp : ∀ ds, ds.length = n → p (.tup ds)) : DrE h c st0 ρ p (dTup t) := fun st1 Q Z g q => by
  rw [s_dtup]
  exact a st1 _ Z g fun ds st2 g2 h2 _ hl => ⟨by have := sizeLine_big (n := ds.length) (by omega); omega, q _ st2 g2 (by simpa [ok] using h2) (hp ds hl)⟩
theorem DrE.lst (a : DrL h c st0 ρ (fun _ => True) n t) (hn : n < 1000) (hp : ∀ m, p (.loc m)) : DrE h c st0 ρ p (dLst t) := fun st1 Q Z g q => by
  rw [s_dlst]
  exact a st1 _ Z g fun ds st2 g2 h2 _ hl => ⟨by have := sizeLine_big (n := ds.length) (by omega); omega, q _ _ (g2.app _) (.inl ⟨ds, by simp⟩) (hp _)⟩
theorem DrE.dict (hp : ∀ m, p (.loc m)) : DrE h c st0 ρ p dDict0 := fun st1 Q Z g q => by
  rw [s_dict0]
  exact q _ _ ((Gr.refl g.hd).app _) (.inr ⟨[], by simp⟩) (hp _)
end
end CM
namespace CM
open PySem L2 PySem.Spec DL
open PyProof.Rows hiding St
def leafD : D → Prop
  | .non => True
  | .bl _ => True
  | .int _ => True
  | .str _ => True
  | _ => False
def sam (st : Sto) : Nat → D → D → Prop
  | 0, t, d => t = d ∧ leafD d
  | n + 1, t, d => (t = d ∧ leafD d) ∨ ∃ ts ds, ((t = .tup ts ∧ d = .tup ds) ∨ ∃ a b, t = .loc a ∧ d = .loc b ∧ st[a]? = some (.lst ts) ∧ st[b]? = some (.lst ds)) ∧
      (ts.length = ds.length ∧ ∀ (k : Nat) x y, ts[k]? = some x → ds[k]? = some y → sam st n x y) ∧ ts.length < 1048576
def sp_is (n : Nat) : DSp := fun ds st Q _ => match ds with
  | [t, d] => sam st n t d ∧ Q (.bl true) st
  | _ => False
@[simp] theorem e_is {n : Nat} {st : Sto} {Q : DK} {Z : DX → Sto → Prop} {t d : D} : sp_is n [t, d] st Q Z = (sam st n t d ∧ Q (.bl true) st) := rfl
/-- a comprehension whose turns leave the store be, each item being one that was there -/
theorem runC_mem {te : DTE} {ρ : Env'} {Q : DK} {G : Sto → Prop} {i : Nat} {α : Type} {inj : α → D} {out : α → D} {st : Sto} (hG : G st) : ∀ (xs : List α) (acc : List D),
    (∀ x ∈ xs, ∀ (QT : DK), QT (out x) st → te (ρ.set i (some (inj x))) st QT Z0) → acc.length + xs.length < 1048576 →
    Q (.loc st.length) (st ++ [.lst (acc ++ xs.map out)]) → runC (gN i) dYes te ρ Q G (xs.map inj) acc st
  | [], acc, _, _, q => by
    rw [List.map_nil, runC_nil]
    exact ⟨hG, by simpa using q⟩
  | x :: xs, acc, ht, hl, q => by
    rw [List.map_cons, runC_cons]
    refine ⟨hG, ?_⟩
    simp only [List.length_cons] at hl
    simp
    refine ht x List.mem_cons_self _ ⟨sizeLine_big (by omega), ?_⟩
    exact runC_mem hG xs (acc ++ [out x]) (fun y hy => ht y (List.mem_cons_of_mem _ hy)) (by simp; omega) (by simpa using q)
end CM
namespace CM
open PySem L2 PySem.Spec DL
open PyProof.Rows hiding St
@[simp] theorem e_law_both {st : Sto} {Q : DK} {Z : DX → Sto → Prop} {r s : Rng} : sp_law_both [encR r, encR s] st Q Z = (wf r ∧ wf s ∧ (allEnds [r, s]).length < 63 ∧ Q (encR (bothR r s)) st) := by
  apply propext
  constructor
  · rintro ⟨r', s', h1, h2, q⟩
    obtain rfl := encR_inj.mp h1
    obtain rfl := encR_inj.mp h2
    exact q
  · exact fun q => ⟨r, s, rfl, rfl, q⟩
@[simp] theorem e_law_either {st : Sto} {Q : DK} {Z : DX → Sto → Prop} {r s : Rng} : sp_law_either [encR r, encR s] st Q Z = (wf r ∧ wf s ∧ (allEnds [r, s]).length < 63 ∧ Q (encR (eitherR r s)) st) := by
  apply propext
  constructor
  · rintro ⟨r', s', h1, h2, q⟩
    obtain rfl := encR_inj.mp h1
    obtain rfl := encR_inj.mp h2
    exact q
  · exact fun q => ⟨r, s, rfl, rfl, q⟩
@[simp] theorem e_law_outside {st : Sto} {Q : DK} {Z : DX → Sto → Prop} {r : Rng} : sp_law_outside [encR r] st Q Z = (wf r ∧ (allEnds [r]).length < 63 ∧ Q (encR (outR r)) st) := by
  apply propext
  constructor
  · rintro ⟨r', h1, q⟩
    obtain rfl := encR_inj.mp h1
    exact q
  · exact fun q => ⟨r, rfl, q⟩
@[simp] theorem e_least_of {st : Sto} {Q : DK} {Z : DX → Sto → Prop} {r : Rng} : sp_least_of [encR r] st Q Z = Q (encO (match r with | [] => none | p :: _ => some p.1)) st := ex1
theorem ends_len : ∀ (r : Rng), (endsOf r).length ≤ 2 * r.length
  | [] => by simp [endsOf]
  | (l, none) :: r => by have := ends_len r; simp [endsOf]; omega
  | (l, some x) :: r => by have := ends_len r; simp [endsOf]; omega
theorem out_len (r : Rng) : (outR r).length ≤ r.length + 1 := length_out r (some 0)
theorem ends_mF : ∀ (ps : Rng) (b : Nat) (e : Option Nat) (m : Nat), m ∈ endsOf (mF (b, e) ps) → m = b ∨ e = some m ∨ m ∈ endsOf ps
  | [], b, e, m, h => by
    simp only [mF] at h
    cases e with
    | none => simp [endsOf] at h; exact .inl h
    | some x =>
      simp [endsOf] at h
      rcases h with rfl | rfl
      · exact .inl rfl
      · exact .inr (.inl rfl)
  | (l, o) :: r, b, e, m, h => by
    have sub : m ∈ endsOf r → m ∈ endsOf ((l, o) :: r) := fun hx => by clear h; cases o <;> simp [endsOf, hx]
    have sub2 : o = some m → m ∈ endsOf ((l, o) :: r) := fun hx => by clear h; subst hx; simp [endsOf]
    have sub3 : m = l → m ∈ endsOf ((l, o) :: r) := fun hx => by clear h; cases o <;> simp [endsOf, hx]
    unfold mF at h
    split at h
    · rcases ends_mF r b (laterE e o) m h with h | h | h
      · exact .inl h
      · cases e with
        | none => cases h
        | some x =>
          cases o with
          | none => cases h
          | some y =>
            simp only [laterE, Option.some.injEq] at h
            by_cases hx : x ≤ y
            · rw [Nat.max_eq_right hx] at h
              exact .inr (.inr (sub2 (by rw [h])))
            · rw [Nat.max_eq_left (by omega)] at h
              exact .inr (.inl (by rw [h]))
      · exact .inr (.inr (sub h))
    · have h' : m = b ∨ e = some m ∨ m ∈ endsOf (mF (l, o) r) := by
        cases e with
        | none =>
          simp [endsOf] at h
          rcases h with h | h
          · exact .inl h
          · exact .inr (.inr h)
        | some x =>
          simp [endsOf] at h
          rcases h with h | h | h
          · exact .inl h
          · exact .inr (.inl (by rw [h]))
          · exact .inr (.inr h)
      rcases h' with h | h | h
      · exact .inl h
      · exact .inr (.inl h)
      · rcases ends_mF r l o m h with h | h | h
        · exact .inr (.inr (sub3 h))
        · exact .inr (.inr (sub2 h))
        · exact .inr (.inr (sub h))
theorem ends_str {ps : Rng} {m : Nat} (h : m ∈ endsOf (strR ps)) : m ∈ endsOf ps := by
  have hp : (sortP ps).Perm ps := List.mergeSort_perm ps leP
  have key : ∀ qs : Rng, m ∈ endsOf (stF qs) → m ∈ endsOf qs := fun qs h => by
    cases qs with
    | nil => exact h
    | cons q r =>
      obtain ⟨b, e⟩ := q
      rcases ends_mF r b e m h with hx | hx | hx
      · clear h; cases e <;> simp [endsOf, hx]
      · clear h; subst hx; simp [endsOf]
      · clear h; cases e <;> simp [endsOf, hx]
  have := key _ h
  rw [ends_mem] at this ⊢
  obtain ⟨p, h1, h2⟩ := this
  exact ⟨p, hp.mem_iff.mp h1, h2⟩
@[simp] theorem len_encR {r : Rng} {st : Sto} {Q : DK} : dLen [encR r] st Q = Q (.int r.length) st := by simp [encR]
@[simp] theorem ix0_encR {p : Nat × Option Nat} {r : Rng} {st : Sto} {Q : DK} : dIx (encR (p :: r)) (.int 0) st Q = Q (encP p) st := by simp [encR]
@[simp] theorem ix0_encP {p : Nat × Option Nat} {st : Sto} {Q : DK} : dIx (encP p) (.int 0) st Q = Q (encV p.1) st := by simp [encP]
@[simp] theorem max_int {i j : Int} {st : Sto} {Q : DK} : dMax2 [.int i, .int j] st Q ↔ Q (.int (if i < j then j else i)) st := by
  have hq : (if PySem.W.dataLt (.int i) (.int j) = true then D.int j else D.int i) = .int (if i < j then j else i) := by
    rw [PySem.W.dataLt_int]
    by_cases h : i < j
    · rw [if_pos h, if_pos (decide_eq_true h)]
    · rw [if_neg h, if_neg (by simpa using h)]
  constructor
  · rintro ⟨k, d, e, h1, h2, _, _, _, _, _, q⟩
    rw [show pdF st k (.int i) = some (.int i) by cases k <;> rfl] at h1
    rw [show pdF st k (.int j) = some (.int j) by cases k <;> rfl] at h2
    cases h1
    cases h2
    rwa [hq] at q
  · intro q
    refine ⟨0, .int i, .int j, rfl, rfl, ⟨by rfl, by rfl, by rfl, by rfl⟩, by simp, by simp, by simp [PyData.depth], by simp [PyData.depth], ?_⟩
    rw [hq]; exact q
end CM
namespace CM
open PySem L2 PySem.Spec DL
open PyProof.Rows hiding St
open TL (tl pre spl numL joinL)
/-- the number that signs tell -/
def okNum (l : List Nat) : Option Nat := if l ≠ [] ∧ l.length ≤ 7 ∧ (∀ c ∈ l, 48 ≤ c ∧ c ≤ 57) ∧ (l = [48] ∨ l.head? ≠ some 48) then some (NumText.digitsVal l) else none
def encN : Option Nat → D
  | none => .non
  | some n => .int n
/-- the number that signs tell, at most so many of them -/
def okNumD (m : Nat) (l : List Nat) : Option Nat := if l ≠ [] ∧ l.length ≤ m ∧ (∀ c ∈ l, 48 ≤ c ∧ c ≤ 57) ∧ (l = [48] ∨ l.head? ≠ some 48) then some (NumText.digitsVal l) else none
def sp_told_number : DSp := fun ds st Q _ => match ds with
  | [.int m, .str t] => 0 ≤ m ∧ m ≤ 100 ∧ t.length ≤ 1000000 ∧ Q (encN (okNumD m.toNat (tl t))) st
  | _ => False
@[simp] theorem e_told_numberD {st : Sto} {Q : DK} {Z : DX → Sto → Prop} {m : Int} {t : Str} : sp_told_number [.int m, .str t] st Q Z = (0 ≤ m ∧ m ≤ 100 ∧ t.length ≤ 1000000 ∧ Q (encN (okNumD m.toNat (tl t))) st) := rfl
theorem str_eq {x y : Str} : x = y ↔ tl x = tl y := ⟨fun h => by rw [h], TL.ext_tl⟩
end CM
namespace CM
open PySem L2 PySem.Spec DL
open PyProof.Rows hiding St
open TL (tl pre spl numL joinL)
/-- the version that signs tell -/
def verText (l : List Nat) : Option Nat := verM 1000000 (.tup ((spl [46] 0 [] l).map fun w => encN (okNum w)))
def sp_told_version : DSp := fun ds st Q _ => match ds with
  | [.str t] => t.length ≤ 1000000 ∧ Q (encO (verText (tl t))) st
  | _ => False
@[simp] theorem e_told_version {st : Sto} {Q : DK} {Z : DX → Sto → Prop} {t : Str} : sp_told_version [.str t] st Q Z = (t.length ≤ 1000000 ∧ Q (encO (verText (tl t))) st) := rfl
end CM
namespace CM
open PySem L2 PySem.Spec DL
open PyProof.Rows hiding St
open TL (tl pre spl numL joinL)
def t3 (a b c : Int) : D := .tup [.int a, .int b, .int c]
def behD (n : Nat) : D := t3 (vA n) (vB n) ((vC n : Int) + 1)
def carD (n : Nat) : D := if 0 < vA n then t3 ((vA n : Int) + 1) 0 0 else if 0 < vB n then t3 0 ((vB n : Int) + 1) 0 else t3 0 0 ((vC n : Int) + 1)
def sp_behind : DSp := fun ds st Q _ => match ds with
  | [d] => ∃ n, d = encV n ∧ Q (behD n) st
  | _ => False
def sp_caret : DSp := fun ds st Q _ => match ds with
  | [d] => ∃ n, d = encV n ∧ Q (carD n) st
  | _ => False
section
variable {st : Sto} {Q : DK} {Z : DX → Sto → Prop} {n : Nat}
theorem exV {p : Nat → Prop} : (∃ m, encV n = encV m ∧ p m) = p n := by
  apply propext
  constructor
  · rintro ⟨m, e, h⟩
    rw [encV_inj] at e
    subst e
    exact h
  · intro h; exact ⟨n, rfl, h⟩
@[simp] theorem e_behind : sp_behind [encV n] st Q Z = Q (behD n) st := exV
@[simp] theorem e_caret : sp_caret [encV n] st Q Z = Q (carD n) st := exV
end
def signs : List Str := ["<=", ">=", "<", ">", "!", "^", "~"]
def signOf (l : List Nat) : Str := (signs.find? fun s => pre (tl s) l).getD ""
def sp_sign_of : DSp := fun ds st Q _ => match ds with
  | [.str t] => Q (.str (signOf (tl t))) st
  | _ => False
@[simp] theorem e_sign_of {st : Sto} {Q : DK} {Z : DX → Sto → Prop} {t : Str} : sp_sign_of [.str t] st Q Z = Q (.str (signOf (tl t))) st := rfl
def rawOut (n : Nat) (d : D) : D := .tup ((if 0 < n then [.tup [encV 0, encV n]] else []) ++ [.tup [d, .non]])
def rosD (s : Str) (n : Nat) : D :=
  if s = "<" then encR (outR [(n, none)]) else
  if s = "<=" then .tup [.tup [encV 0, behD n]] else
  if s = ">" then .tup [.tup [behD n, .non]] else
  if s = ">=" then encR [(n, none)] else
  if s = "!" then rawOut n (behD n) else
  if s = "^" then .tup [.tup [encV n, carD n]] else
  if s = "~" then .tup [.tup [encV n, t3 (vA n) ((vB n : Int) + 1) 0]] else
  .tup [.tup [encV n, behD n]]
def sp_ros : DSp := fun ds st Q _ => match ds with
  | [.str s, d] => ∃ n, d = encV n ∧ okV n ∧ Q (rosD s n) st
  | _ => False
@[simp] theorem e_ros {st : Sto} {Q : DK} {Z : DX → Sto → Prop} {s : Str} {n : Nat} : sp_ros [.str s, encV n] st Q Z = (okV n ∧ Q (rosD s n) st) := exV
theorem szk (n : Nat) (h : n < 1000) : n ≤ sizeLine := Nat.le_of_lt (sizeLine_big (by omega))
end CM
namespace CM
open PySem L2 PySem.Spec DL
open PyProof.Rows hiding St
open TL (tl pre spl numL joinL)
def encOR : Option Rng → D
  | none => .non
  | some r => encR r
def everyR : Rng := [(0, none)]
def partOf (l : List Nat) : Option Rng := if l = [42] then some everyR else match verText (l.drop (tl (signOf l)).length) with
  | none => none
  | some n => rngOf (rosD (signOf l) n)
def sp_told_part : DSp := fun ds st Q _ => match ds with
  | [.str t] => t.length ≤ 1000000 ∧ Q (encOR (partOf (tl t))) st
  | _ => False
@[simp] theorem e_told_part {st : Sto} {Q : DK} {Z : DX → Sto → Prop} {t : Str} : sp_told_part [.str t] st Q Z = (t.length ≤ 1000000 ∧ Q (encOR (partOf (tl t))) st) := rfl
end CM
namespace CM
open PySem L2 PySem.Spec DL
open PyProof.Rows hiding St
open TL (tl pre spl numL joinL)
/-- what the law tells of a word and a version -/
def lawPart (w : Str) (n : Nat) : Option Rng := if w = "*" then some everyR else rngOf (rosD w n)
def words : List Str := ["*", "<=", ">=", "<", ">", "!", "^", "~", ""]
def sp_law_part : DSp := fun ds st Q _ => match ds with
  | [.str w, d] => ∃ n, d = encV n ∧ w ∈ words ∧ okV n ∧ Q (encOR (lawPart w n)) st
  | _ => False
@[simp] theorem e_law_part {st : Sto} {Q : DK} {Z : DX → Sto → Prop} {w : Str} {n : Nat} : sp_law_part [.str w, encV n] st Q Z = (w ∈ words ∧ okV n ∧ Q (encOR (lawPart w n)) st) := exV
theorem beh_lt {n : Nat} (h : vC n < 1000000) : behD n = encV (n + 1) := by
  unfold behD t3 encV vA vB vC at *
  have h1 : (n + 1) / 1000001 / 1000001 = n / 1000001 / 1000001 := by omega
  have h2 : (n + 1) / 1000001 % 1000001 = n / 1000001 % 1000001 := by omega
  have h3 : (n + 1) % 1000001 = n % 1000001 + 1 := by omega
  rw [h1, h2, h3]
  rfl
theorem okV_lt {n : Nat} (h : okV n) (hc : vC n < 1000000) : okV (n + 1) := by
  unfold okV vA vC at *
  omega
theorem rngOf_one {d : D} : rngOf (.tup [d]) = (pairOf d).map fun p => [p] := by
  show rngL none [d] = _
  unfold rngL
  cases e : pairOf d with
  | none => rfl
  | some p =>
    obtain ⟨l, h⟩ := p
    rfl
theorem pair_enc {n : Nat} {d : D} (h : okV n) : pairOf (.tup [encV n, d]) = match endOf d with | some none => some (n, none) | some (some x) => if n < x then some (n, some x) else none | none => none := by
  unfold pairOf
  dsimp only
  rw [ver_enc h]
  cases endOf d with
  | none => rfl
  | some o => cases o <;> rfl
theorem end_t3 (a b c : Int) : endOf (t3 a b c) = (verM 1000000 (t3 a b c)).map some := by
  unfold endOf t3
  dsimp only
  cases verM 1000000 (.tup [.int a, .int b, .int c]) <;> rfl
theorem wf1 {n : Nat} (h : okV n) : wf [(n, none)] := ⟨⟨h, fun _ e => by cases e⟩, rfl, trivial⟩
theorem wf2 {n x : Nat} (h : okV n) (hx : okV x) (hl : n < x) : wf [(n, some x)] := ⟨⟨h, fun _ e => by cases e; exact ⟨hx, hl⟩⟩, rfl, trivial⟩
theorem ros_some {n : Nat} (hn : okV n) (hc : vC n < 1000000) : rngOf (rosD "" n) = some [(n, some (n + 1))] ∧ rngOf (rosD "!" n) = some (outR [(n, some (n + 1))]) ∧ rngOf (rosD "<=" n) = some [(0, some (n + 1))] ∧ rngOf (rosD ">" n) = some [(n + 1, none)] := by
  have hb := beh_lt hc
  have h1 := okV_lt hn hc
  refine ⟨?_, ?_, ?_, ?_⟩
  · show rngOf (.tup [.tup [encV n, behD n]]) = _
    rw [hb]
    exact rngOf_enc (r := [(n, some (n + 1))]) (wf2 hn h1 (by omega))
  · show rngOf (rawOut n (behD n)) = _
    rw [hb]
    have : rawOut n (encV (n + 1)) = encR (outR [(n, some (n + 1))]) := by
      unfold rawOut outR
      by_cases h0 : 0 < n
      · simp [h0, outF, encR, encP, encO]
      · simp [h0, outF, encR, encP, encO]
    rw [this]
    exact rngOf_enc (wf_out (wf2 hn h1 (by omega)))
  · show rngOf (.tup [.tup [encV 0, behD n]]) = _
    rw [hb]
    exact rngOf_enc (r := [(0, some (n + 1))]) (wf2 okV0 h1 (by omega))
  · show rngOf (.tup [.tup [behD n, .non]]) = _
    rw [hb]
    exact rngOf_enc (r := [(n + 1, none)]) (wf1 h1)
/-- where the end is a triple told -/
theorem ros_end {n a b c : Nat} (hn : okV n) (hlt : a ≤ 1000000 → b ≤ 1000000 → c ≤ 1000000 → n < mkV a b c) :
    rngOf (.tup [.tup [encV n, t3 a b c]]) = if a ≤ 1000000 ∧ b ≤ 1000000 ∧ c ≤ 1000000 then some [(n, some (mkV a b c))] else none := by
  have big : ∀ {k : Nat}, ¬ k ≤ 1000000 → numMost 1000000 (.int k) = none := fun h => by unfold numMost; rw [num_int]; simp [h]
  rw [rngOf_one, pair_enc hn, end_t3]
  by_cases ha : a ≤ 1000000
  · by_cases hb : b ≤ 1000000
    · by_cases hc : c ≤ 1000000
      · rw [if_pos ⟨ha, hb, hc⟩]
        have : verM 1000000 (t3 a b c) = some (mkV a b c) := by simp only [verM, t3, most_int ha, most_int hb, most_int hc]
        rw [this]
        simp [hlt ha hb hc]
      · rw [if_neg fun h => hc h.2.2]
        have : verM 1000000 (t3 a b c) = none := by simp only [verM, t3, most_int ha, most_int hb, big hc]
        rw [this]
        rfl
    · rw [if_neg fun h => hb h.2.1]
      have : verM 1000000 (t3 a b c) = none := by simp only [verM, t3, most_int ha, big hb]
      rw [this]
      rfl
  · rw [if_neg fun h => ha h.1]
    have : verM 1000000 (t3 a b c) = none := by simp only [verM, t3, big ha]
    rw [this]
    rfl
end CM
namespace CM
open PySem L2 PySem.Spec DL
open PyProof.Rows hiding St
open TL (tl pre spl numL joinL)
theorem inD_strs (w : Str) : ∀ ls : List Str, inD (.str w) (ls.map D.str) = decide (w ∈ ls)
  | [] => rfl
  | l :: ls => by
    have ih := inD_strs w ls
    unfold inD inV at ih ⊢
    simp only [List.map_cons, List.any_cons]
    rw [ih]
    have : eqV (flatVal (.str l)) (flatVal (.str w)) = decide (w = l) := by
      show (decide (l = w) : Bool) = decide (w = l)
      exact decide_eq_decide.mpr ⟨Eq.symm, Eq.symm⟩
    rw [this]
    by_cases h : w = l <;> simp [h]
theorem flat_strs : ∀ ls : List Str, (ls.map D.str).all flatD = true
  | [] => rfl
  | l :: ls => by simp [flatD, flat_strs ls]
section
variable {st : Sto} {E : DEnds} {w : Str} {n : Nat}
/-- the frame of the law's reckoning of a part -/
def fr (w : Str) (n : Nat) (y6 y7 y8 : Option D) : Env' := [some (.str w), some (encV n), some (.int (vA n)), some (.int (vB n)), some (.int (vC n)), some (encR everyR), y6, y7, y8]
end
theorem k12 : (">=" : Str) ≠ "*" := by decide
theorem k13 : ("<" : Str) ≠ "*" := by decide
theorem car_nat (n : Nat) : ∃ a b c : Nat, carD n = t3 a b c ∧ (okV n → a ≤ 1000000 → b ≤ 1000000 → c ≤ 1000000 → n < mkV a b c) ∧
    (a, b, c) = (if 0 < vA n then (vA n + 1, 0, 0) else if 0 < vB n then (0, vB n + 1, 0) else (0, 0, vC n + 1)) := by
  have hm := mkV_eq n
  have hb := vB_le n
  have hc := vC_le n
  unfold carD
  by_cases h1 : 0 < vA n
  · rw [if_pos h1, if_pos h1]
    exact ⟨_, _, _, by rfl, fun _ _ _ _ => by unfold mkV at *; omega, rfl⟩
  · rw [if_neg h1, if_neg h1]
    by_cases h2 : 0 < vB n
    · rw [if_pos h2, if_pos h2]
      exact ⟨_, _, _, by rfl, fun _ _ _ _ => by unfold mkV at *; omega, rfl⟩
    · rw [if_neg h2, if_neg h2]
      exact ⟨_, _, _, by rfl, fun _ _ _ _ => by unfold mkV at *; omega, rfl⟩
theorem k1c : ("^" : Str) ≠ "*" := by decide
theorem k1t : ("~" : Str) ≠ "*" := by decide
end CM
namespace CM
open PySem L2 PySem.Spec DL
open PyProof.Rows hiding St
open TL (tl pre spl numL joinL)
theorem kxb : ("!" : Str) ≠ "*" := by decide
theorem kxl : ("<=" : Str) ≠ "*" := by decide
theorem kxg : (">" : Str) ≠ "*" := by decide
theorem kxe : ("" : Str) ≠ "*" := by decide
end CM
namespace CM
open PySem L2 PySem.Spec DL
open PyProof.Rows hiding St
open TL (tl pre spl numL joinL)
def SL (l : List Nat) : Str := ⟨l.toArray⟩
def vL (n : Nat) : List Nat := numL (vA n) ++ ([46] ++ (numL (vB n) ++ ([46] ++ numL (vC n))))
def vText (n : Nat) : Str := SL (vL n)
def sp_vtext : DSp := fun ds st Q _ => match ds with
  | [d] => ∃ n, d = encV n ∧ okV n ∧ Q (.str (vText n)) st
  | _ => False
@[simp] theorem e_vtext {st : Sto} {Q : DK} {Z : DX → Sto → Prop} {n : Nat} : sp_vtext [encV n] st Q Z = (okV n ∧ Q (.str (vText n)) st) := exV
end CM
namespace CM
open PySem L2 PySem.Spec DL
open PyProof.Rows hiding St
open TL (tl pre spl numL joinL)
def pText (w : Str) (n : Nat) : Str := if w = "*" then "*" else w ++ vText n
def sp_ptext : DSp := fun ds st Q _ => match ds with
  | [.str w, d] => ∃ n, d = encV n ∧ okV n ∧ w ∈ words ∧ Q (.str (pText w n)) st
  | _ => False
@[simp] theorem e_ptext {st : Sto} {Q : DK} {Z : DX → Sto → Prop} {w : Str} {n : Nat} : sp_ptext [.str w, encV n] st Q Z = (okV n ∧ w ∈ words ∧ Q (.str (pText w n)) st) := exV
def sText (l : Nat) : Option Nat → Str
  | none => (">=" : Str) ++ vText l
  | some h => if vC l < 1000000 ∧ h = l + 1 then vText l else (">=" : Str) ++ vText l ++ (", <" : Str) ++ vText h
def sp_stext : DSp := fun ds st Q _ => match ds with
  | [d, e] => ∃ l o, d = encV l ∧ e = encO o ∧ okP (l, o) ∧ Q (.str (sText l o)) st
  | _ => False
@[simp] theorem e_stext {st : Sto} {Q : DK} {Z : DX → Sto → Prop} {l : Nat} {o : Option Nat} : sp_stext [encV l, encO o] st Q Z = (okP (l, o) ∧ Q (.str (sText l o)) st) := by
  apply propext
  constructor
  · rintro ⟨l', o', h1, h2, q⟩
    rw [encV_inj] at h1
    rw [encO_inj] at h2
    subst h1 h2
    exact q
  · exact fun q => ⟨l, o, rfl, rfl, q⟩
end CM
namespace CM
open PySem L2 PySem.Spec DL
open PyProof.Rows hiding St
@[simp] theorem e_oddv {st : Sto} {Q : DK} {Z : DX → Sto → Prop} {h : Nat} {v : D} : sp_oddv [.loc h, v] st Q Z = ∃ c n, Hd st h c ∧ v = encV n ∧ ∀ d st', Gr h c st st' → ok st' d → Q d st' := rfl
def sp_oddr : DSp := fun ds st Q _ => match ds with
  | [.loc h, r] => ∃ c rng, Hd st h c ∧ r = encR rng ∧ wf rng ∧ rng.length ≤ 6 ∧ ∀ d st', Gr h c st st' → ok st' d → (∀ s, d = encR s → s.length ≤ 13) → Q d st'
  | _ => False
@[simp] theorem e_oddr {st : Sto} {Q : DK} {Z : DX → Sto → Prop} {h : Nat} {r : D} : sp_oddr [.loc h, r] st Q Z = ∃ c rng, Hd st h c ∧ r = encR rng ∧ wf rng ∧ rng.length ≤ 6 ∧ ∀ d st', Gr h c st st' → ok st' d → (∀ s, d = encR s → s.length ≤ 13) → Q d st' := rfl
section
variable {h c : Nat} {st0 : Sto} {ρ : Env'} {p : D → Prop} {n : Nat} {te : DTE} {t : DTA}
theorem DrE.some {i j m : Nat} {fs : List D} (hi : ρ[i]? = some (some (.loc h))) (hj : ρ[j]? = some (some (.loc m))) (hm : st0[m]? = some (.lst fs)) (hne : m ≠ h) (ho : oks st0 fs) (hl : 0 < fs.length ∧ fs.length < 1000000000) (hp : ∀ e ∈ fs, p e) : DrE h c st0 ρ p (dCall 2 sp_some (dCons (dVar i) (dCons (dVar j) dNil))) := fun st1 Q Z g q => by
  have k := g.get hm hne
  simp [hi, hj]
  refine ⟨c, g.hd, fs, by simp [k], fun e => hne e, hl.1, hl.2, fun e st' he H s => ?_⟩
  have g2 := (Gr.refl g.hd).sm s H
  exact q e st' g2 (ok_mono (g.trans g2).kin (oks_iff.mp ho e he)) (hp e he)
end
end CM
namespace CM
open PySem L2 PySem.Spec DL
open PyProof.Rows hiding St
def sp_near : DSp := fun ds st Q _ => match ds with
  | [.loc h, .loc m] => ∃ c rs, Hd st h c ∧ m ≠ h ∧ st[m]? = some (.lst (rs.map encR)) ∧ (∀ r ∈ rs, wf r ∧ smE r) ∧ (allEnds rs).length < 63 ∧ ∀ n st', Hd st' h c → Sm h st st' → Q (encV n) st'
  | _ => False
@[simp] theorem e_near {st : Sto} {Q : DK} {Z : DX → Sto → Prop} {h m : Nat} : sp_near [.loc h, .loc m] st Q Z = ∃ c rs, Hd st h c ∧ m ≠ h ∧ st[m]? = some (.lst (rs.map encR)) ∧ (∀ r ∈ rs, wf r ∧ smE r) ∧ (allEnds rs).length < 63 ∧ ∀ n st', Hd st' h c → Sm h st st' → Q (encV n) st' := rfl
end CM
namespace CM
open PySem L2 PySem.Spec DL
open PyProof.Rows hiding St
open TL (tl pre spl numL joinL)
def sTx (p : Nat × Option Nat) : Str := sText p.1 p.2
def rText (r : Rng) : Str := if r = everyR then "*" else if r = [] then "<0.0.0" else Txt.join " | " (r.map sTx)
def sp_rtext : DSp := fun ds st Q _ => match ds with
  | [d] => ∃ r, d = encR r ∧ wf r ∧ r.length ≤ 1000 ∧ Q (.str (rText r)) st
  | _ => False
@[simp] theorem e_rtext {st : Sto} {Q : DK} {Z : DX → Sto → Prop} {r : Rng} : sp_rtext [encR r] st Q Z = (wf r ∧ r.length ≤ 1000 ∧ Q (.str (rText r)) st) := ex1
def sp_words : DSp := fun ds st Q _ => match ds with
  | [.loc h] => ∃ c, Hd st h c ∧ ∀ w n st', w ∈ words → smallV n → Hd st' h c → Sm h st st' → Q (.tup [.str w, encV n]) st'
  | _ => False
@[simp] theorem e_words {st : Sto} {Q : DK} {Z : DX → Sto → Prop} {h : Nat} : sp_words [.loc h] st Q Z = ∃ c, Hd st h c ∧ ∀ w n st', w ∈ words → smallV n → Hd st' h c → Sm h st st' → Q (.tup [.str w, encV n]) st' := rfl
end CM
namespace CM
open PySem L2 PySem.Spec DL
open PyProof.Rows hiding St
open TL (tl pre spl numL joinL)
def altsOf (l : List Nat) : List (List (Option Rng)) := (spl [32, 124, 32] 0 [] l).map fun a => (spl [44, 32] 0 [] a).map partOf
def altR (rs : List Rng) : Rng := outR (strR (rs.flatMap outR))
def readR (as : List (List Rng)) : Rng := strR (as.flatMap altR)
structure Mild (as : List (List Rng)) : Prop where
  len : as.length ≤ 1000
  each : ∀ a ∈ as, a.length ≤ 20 ∧ ∀ r ∈ a, wf r ∧ r.length ≤ 10
def sp_read : DSp := fun ds st Q _ => match ds with
  | [.str t] => ∃ as : List (List Rng), altsOf (tl t) = as.map (fun a => a.map some) ∧ t.length ≤ 1000000 ∧ Mild as ∧ Q (encR (readR as)) st
  | _ => False
/-- st0 stands at the beginning -/
def Pre (st0 st : Sto) : Prop := ∃ g, st = st0 ++ g
theorem Pre.app {st0 st : Sto} (h : Pre st0 st) (g : Sto) : Pre st0 (st ++ g) := by
  obtain ⟨x, rfl⟩ := h
  exact ⟨x ++ g, by simp⟩
theorem Pre.set {st0 st : Sto} (h : Pre st0 st) {n : Nat} (hn : st0.length ≤ n) (o : Ob) : Pre st0 (st.set n o) := by
  obtain ⟨x, rfl⟩ := h
  exact ⟨x.set (n - st0.length) o, by rw [List.set_append_right _ _ hn]⟩
theorem Pre.len {st0 st : Sto} (h : Pre st0 st) : st0.length ≤ st.length := by
  obtain ⟨x, rfl⟩ := h
  simp
end CM
namespace CM
open PySem L2 PySem.Spec DL
open PyProof.Rows hiding St
open TL (tl pre spl numL joinL)
theorem lawP_ge {n : Nat} (h : okV n) : lawPart ">=" n = some [(n, none)] := by
  unfold lawPart
  rw [if_neg k12]
  exact rngOf_enc (wf1 h)
theorem lawP_lt {n : Nat} (h : okV n) : lawPart "<" n = some (outR [(n, none)]) := by
  unfold lawPart
  rw [if_neg k13]
  exact rngOf_enc (wf_out (wf1 h))
theorem lawP_e {n : Nat} (h : okV n) (hc : vC n < 1000000) : lawPart "" n = some [(n, some (n + 1))] := by
  unfold lawPart
  rw [if_neg kxe]
  exact (ros_some h hc).1
end CM
namespace CM
open PySem L2 PySem.Spec DL
open PyProof.Rows hiding St
open TL (tl pre spl numL joinL)
theorem ends_asc : ∀ (r : Rng) (prev : Option (Option Nat)), okR prev r → (endsOf r).Pairwise (· < ·) ∧ ∀ e ∈ endsOf r, ∀ x, prev = some (some x) → x < e
  | [], _, _ => ⟨List.Pairwise.nil, fun _ h => nomatch h⟩
  | (l, none) :: r, prev, ⟨h1, h2, h3⟩ => by
    have : r = [] := okR_none h3
    subst this
    refine ⟨by simp [endsOf], fun e he x hx => ?_⟩
    subst hx
    simp [endsOf] at he
    subst he
    simpa [touch] using h2
  | (l, some y) :: r, prev, ⟨h1, h2, h3⟩ => by
    obtain ⟨a, b⟩ := ends_asc r _ h3
    have hly := (h1.2 y rfl).2
    dsimp only at hly
    have hy : ∀ e ∈ endsOf r, y < e := fun e he => b e he y rfl
    refine ⟨?_, fun e he x hx => ?_⟩
    · simp only [endsOf, List.pairwise_cons, List.mem_cons]
      refine ⟨fun e he => ?_, hy, a⟩
      rcases he with rfl | he
      · exact hly
      · exact Nat.lt_trans hly (hy e he)
    · subst hx
      have hx : x < l := by simpa [touch] using h2
      simp only [endsOf, List.mem_cons] at he
      rcases he with rfl | rfl | he
      · exact hx
      · omega
      · have := hy e he; omega
theorem ends_outF : ∀ (r : Rng) (b : Option Nat) (m : Nat), m ∈ endsOf (outF b r) → b = some m ∨ m ∈ endsOf r
  | [], none, m, h => by simp [outF, endsOf] at h
  | [], some b, m, h => by simp [outF, endsOf] at h; exact .inl (by rw [h])
  | (l, o) :: r, none, m, h => by simp [outF, endsOf] at h
  | (l, o) :: r, some b, m, h => by
    have up : o = some m ∨ m ∈ endsOf r → m ∈ endsOf ((l, o) :: r) := fun q => by
      clear h
      rcases q with rfl | q
      · simp [endsOf]
      · cases o <;> simp [endsOf, q]
    have hl : m = l → m ∈ endsOf ((l, o) :: r) := fun q => by clear h; cases o <;> simp [endsOf, q]
    unfold outF at h
    split at h
    · simp only [endsOf, List.mem_cons] at h
      rcases h with h | h | h
      · exact .inl (by rw [h])
      · exact .inr (hl h)
      · exact .inr (up (ends_outF r o m h))
    · exact .inr (up (ends_outF r o m h))
theorem ends_out {r : Rng} {m : Nat} (h : m ∈ endsOf (outR r)) : m = 0 ∨ m ∈ endsOf r := by
  rcases ends_outF r (some 0) m h with h | h
  · cases h; exact .inl rfl
  · exact .inr h
theorem ends_app {r s : Rng} {m : Nat} (h : m ∈ endsOf (r ++ s)) : m ∈ endsOf r ∨ m ∈ endsOf s := by
  rw [ends_mem] at h
  obtain ⟨p, h1, h2⟩ := h
  rcases List.mem_append.mp h1 with h1 | h1
  · exact .inl (ends_mem.mpr ⟨p, h1, h2⟩)
  · exact .inr (ends_mem.mpr ⟨p, h1, h2⟩)
theorem ends_eith {r s : Rng} {m : Nat} (h : m ∈ endsOf (eitherR r s)) : m ∈ endsOf r ∨ m ∈ endsOf s := ends_app (ends_str (ps := r ++ s) h)
theorem ends_both {r s : Rng} {m : Nat} (h : m ∈ endsOf (bothR r s)) : m = 0 ∨ m ∈ endsOf r ∨ m ∈ endsOf s := by
  rcases ends_out (r := eitherR (outR r) (outR s)) h with h | h
  · exact .inl h
  · rcases ends_eith h with h | h
    · rcases ends_out h with h | h
      · exact .inl h
      · exact .inr (.inl h)
    · rcases ends_out h with h | h
      · exact .inl h
      · exact .inr (.inr h)
theorem len_both {r s : Rng} (hr : wf r) (hs : wf s) : (endsOf (bothR r s)).length ≤ 1 + (endsOf r).length + (endsOf s).length := by
  have := few_marks (ls := 0 :: (endsOf r ++ endsOf s)) (ends_asc _ _ (wf_both hr hs)).1 fun m hm => by
    rcases ends_both hm with h | h | h
    · simp [h]
    · simp [h]
    · simp [h]
  simp at this
  omega
theorem len_either {r s : Rng} (hr : wf r) (hs : wf s) : (endsOf (eitherR r s)).length ≤ (endsOf r).length + (endsOf s).length := by
  have := few_marks (ls := endsOf r ++ endsOf s) (ends_asc _ _ (wf_either hr hs)).1 fun m hm => by
    rcases ends_eith hm with h | h
    · simp [h]
    · simp [h]
  simpa using this
def lpR (w : Str) (n : Nat) : Rng := (lawPart w n).getD []
theorem law_some {w : Str} {n : Nat} (hw : w ∈ words) (hn : smallV n) : lawPart w n = some (lpR w n) ∧ wf (lpR w n) ∧ (endsOf (lpR w n)).length ≤ 4 := by
  have ho := hn.ok
  have hc : vC n < 1000000 := by have := hn.2.2; omega
  have key : ∀ r, lawPart w n = some r → wf r → (endsOf r).length ≤ 4 → lawPart w n = some (lpR w n) ∧ wf (lpR w n) ∧ (endsOf (lpR w n)).length ≤ 4 := fun r e h1 h2 => by
    have : lpR w n = r := by unfold lpR; rw [e]; rfl
    rw [this]
    exact ⟨e, h1, h2⟩
  have h1 := okV_lt ho hc
  obtain ⟨r1, r2, r3, r4⟩ := ros_some ho hc
  simp only [words, List.mem_cons, List.not_mem_nil, or_false] at hw
  rcases hw with rfl | rfl | rfl | rfl | rfl | rfl | rfl | rfl | rfl
  · exact key everyR (by unfold lawPart; rw [if_pos rfl]) (wf1 okV0) (by decide)
  · exact key [(0, some (n + 1))] (by unfold lawPart; rw [if_neg kxl]; exact r3) (wf2 okV0 h1 (by omega)) (by simp [endsOf])
  · exact key [(n, none)] (lawP_ge ho) (wf1 ho) (by simp [endsOf])
  · refine key _ (lawP_lt ho) (wf_out (wf1 ho)) ?_
    have := ends_len (outR [(n, none)])
    have := out_len [(n, (none : Option Nat))]
    simp at *
    omega
  · exact key [(n + 1, none)] (by unfold lawPart; rw [if_neg kxg]; exact r4) (wf1 h1) (by simp [endsOf])
  · refine key _ (by unfold lawPart; rw [if_neg kxb]; exact r2) (wf_out (wf2 ho h1 (by omega))) ?_
    have := ends_len (outR [(n, some (n + 1))])
    have := out_len [(n, (some (n + 1) : Option Nat))]
    simp at *
    omega
  · obtain ⟨a, b, c, ec, hlt, habc⟩ := car_nat n
    have hle : a ≤ 1000000 ∧ b ≤ 1000000 ∧ c ≤ 1000000 := by
      have := hn.1
      have := hn.2.1
      split at habc
      · cases habc; omega
      · split at habc
        · cases habc; omega
        · cases habc; omega
    have e := ros_end ho (hlt ho)
    rw [if_pos hle] at e
    refine key [(n, some (mkV a b c))] ?_ (wf2 ho ?_ (hlt ho hle.1 hle.2.1 hle.2.2)) (by simp [endsOf])
    · unfold lawPart
      rw [if_neg k1c, ← e, ← ec]
      rfl
    · unfold okV
      rw [vA_mk (by omega) (by omega)]
      exact hle.1
  · have hm := mkV_eq n
    have hle : vA n ≤ 1000000 ∧ vB n + 1 ≤ 1000000 ∧ 0 ≤ 1000000 := by
      have := hn.1
      have := hn.2.1
      omega
    have hlt : n < mkV (vA n) (vB n + 1) 0 := by
      have := vC_le n
      unfold mkV at *
      omega
    have e := ros_end (a := vA n) (b := vB n + 1) (c := 0) ho fun _ _ _ => hlt
    rw [if_pos hle] at e
    refine key [(n, some (mkV (vA n) (vB n + 1) 0))] ?_ (wf2 ho ?_ hlt) (by simp [endsOf])
    · unfold lawPart
      rw [if_neg k1t, ← e]
      rfl
    · unfold okV
      rw [vA_mk (by omega) (by omega)]
      exact hle.1
  · exact key [(n, some (n + 1))] (lawP_e ho hc) (wf2 ho h1 (by omega)) (by simp [endsOf])
end CM
namespace CM
open PySem L2 PySem.Spec DL
open PyProof.Rows hiding St
open TL (tl pre spl numL joinL)
def wrong1 (os : List (Option Rng)) : Option Nat := os.findIdx? (·.isNone)
def wrongAt (as : List (List (Option Rng))) : Option Nat := wrong1 as.flatten
def gets (os : List (Option Rng)) : List Rng := os.map (·.getD [])
section
variable [ErrCtx]
def readT (l : List Nat) : Rng := readR ((altsOf l).map gets)
end
end CM
namespace CM
open PySem L2 PySem.Spec DL
open PyProof.Rows hiding St
open TL (tl pre spl numL joinL)
def okNumM (l : List Nat) : Option Nat := match okNum l with
  | some n => if n ≤ 1000000 then some n else none
  | none => none
def sp_lnum : DSp := fun ds st Q _ => match ds with
  | [.str t] => t.length ≤ 20000 ∧ Q (encN (okNumM (tl t))) st
  | _ => False
@[simp] theorem e_lnum {st : Sto} {Q : DK} {Z : DX → Sto → Prop} {t : Str} : sp_lnum [.str t] st Q Z = (t.length ≤ 20000 ∧ Q (encN (okNumM (tl t))) st) := rfl
theorem atI_nat0 {α : Type} {x : α} {xs : List α} : atI (x :: xs) 0 = some x := by
  unfold atI ixN
  simp
end CM
namespace CM
open PySem L2 PySem.Spec DL
open PyProof.Rows hiding St
open TL (tl pre spl numL joinL)
def sp_ispart : DSp := fun ds st Q _ => match ds with
  | [.str t] => t.length ≤ 20000 ∧ Q (.bl (partOf (tl t)).isSome) st
  | _ => False
@[simp] theorem e_ispart {st : Sto} {Q : DK} {Z : DX → Sto → Prop} {t : Str} : sp_ispart [.str t] st Q Z = (t.length ≤ 20000 ∧ Q (.bl (partOf (tl t)).isSome) st) := rfl
end CM
namespace CM
open PySem L2 PySem.Spec DL
open PyProof.Rows hiding St
def samF (st : Sto) : Nat → D → D → Prop
  | 0, t, d => t = d ∧ leafD d
  | n + 1, t, d => (t = d ∧ leafD d) ∨ (∃ ts ds, ((t = .tup ts ∧ d = .tup ds) ∨ ∃ a b, t = .loc a ∧ d = .loc b ∧ st[a]? = some (.lst ts) ∧ st[b]? = some (.lst ds)) ∧
      (ts.length = ds.length ∧ ∀ (k : Nat) x y, ts[k]? = some x → ds[k]? = some y → samF st n x y) ∧ ts.length < 1048576) ∨ ∃ a od k i, t = .loc a ∧ d = .loc a ∧ st[a]? = some (.dkF od [(k, .int i)])
def sp_isF (n : Nat) : DSp := fun ds st Q _ => match ds with
  | [t, d] => samF st n t d ∧ Q (.bl true) st
  | _ => False
@[simp] theorem e_isF {n : Nat} {st : Sto} {Q : DK} {Z : DX → Sto → Prop} {t d : D} : sp_isF n [t, d] st Q Z = (samF st n t d ∧ Q (.bl true) st) := rfl
end CM
namespace CM
open PySem L2 PySem.Spec DL
open PyProof.Rows hiding St
def nameS (s : Str) : Bool := decide (s.length ≤ 12) && (Txt.isascii s && (Txt.isalpha s && Txt.islower s))
def nameB : D → Bool
  | .str s => nameS s
  | _ => false
def fit (d : D) : Prop := ∀ s, d = .str s → s.length ≤ sizeLine
def sp_name : DSp := fun ds st Q _ => match ds with
  | [d] => ok st d ∧ fit d ∧ Q (.bl (nameB d)) st
  | _ => False
theorem r_is_name : Rd 1 sp_name RD.t_is_name RD.N_is_name := by
  intro ds st Q Z hl h
  match ds, hl, h with
  | [d], _, ⟨ho, hf, q⟩ =>
    unfold RD.t_is_name
    rcases ok_cases ho with rfl | ⟨b, rfl⟩ | ⟨i, rfl⟩ | ⟨x, rfl⟩ | ⟨ds, rfl, _⟩ | ⟨ds, rfl⟩ | ⟨n, es, rfl, e⟩ | ⟨n, es, rfl, e⟩
    case inr.inr.inr.inl =>
      have hx := hf x rfl
      simp [tySub, hx]
      by_cases h12 : x.length ≤ 12
      · have h12' : ¬ (12 : Int) < (x.length : Int) := by omega
        simp [h12']
        have q' : Q (.bl (Txt.isascii x && (Txt.isalpha x && Txt.islower x))) st := by simpa [nameB, nameS, h12] using q
        cases ha : Txt.isascii x <;> cases hb : Txt.isalpha x <;> rw [ha, hb] at q' <;> simp at q' ⊢ <;> exact .inl q'
      · have h12' : (12 : Int) < (x.length : Int) := by omega
        simp [h12']
        exact .inl (by simpa [nameB, nameS, h12] using q)
    all_goals
      simp [tySub, tyN, *]
      first
        | exact .inl q
        | (refine .inl ?_; simpa [nameB] using q)
end CM
namespace CM
open PySem L2 PySem.Spec DL
open PyProof.Rows hiding St
theorem blw_strs {n : Nat} (es : List Str) : D.blws n (es.map .str) = true := by
  induction es with
  | nil => rfl
  | cons e es ih => simp [D.blws, D.blw, ih]
end CM
namespace CM
open PySem L2 PySem.Spec DL
open PyProof.Rows hiding St
theorem sm3 {x y z : Nat} (hx : x ≤ 999999) (hy : y ≤ 999999) (hz : z ≤ 999999) : smallV (mkV x y z) := by
  refine ⟨?_, ?_, ?_⟩
  · rw [vA_mk (by omega) (by omega)]; exact hx
  · rw [vB_mk (by omega) (by omega)]; exact hy
  · rw [vC_mk (by omega)]; exact hz
def smallR (r : Rng) : Prop := wf r ∧ smE r ∧ r.length ≤ 3
theorem small_none {n : Nat} (h : smallV n) : smallR [(n, none)] := by
  refine ⟨⟨⟨h.ok, fun x z => nomatch z⟩, rfl, trivial⟩, fun e he => ?_, by simp⟩
  simp [endsOf] at he
  rw [he]; exact h
theorem small_some {n m : Nat} (h : smallV n) (h2 : smallV m) (lt : n < m) : smallR [(n, some m)] := by
  refine ⟨⟨⟨h.ok, fun x z => ?_⟩, rfl, trivial⟩, fun e he => ?_, by simp⟩
  · cases z
    exact ⟨h2.ok, lt⟩
  · simp [endsOf] at he
    rcases he with rfl | rfl
    · exact h
    · exact h2
end CM
namespace CM
open PySem L2 PySem.Spec DL
open PyProof.Rows hiding St
structure RawE where
  name : Str
  ver : Nat
  feats : List (Str × List Str)
  needs : List (Str × Str × Rng × List Str)
  bars : List (Str × Rng)
def encL (l : List Str) : D := .tup (l.map .str)
def encF (p : Str × List Str) : D := .tup [.str p.1, encL p.2]
def encN4 (p : Str × Str × Rng × List Str) : D := .tup [.str p.1, .str p.2.1, encR p.2.2.1, encL p.2.2.2]
def encB (p : Str × Rng) : D := .tup [.str p.1, encR p.2]
def encRaw (e : RawE) : D := .tup [.str e.name, encV e.ver, .tup (e.feats.map encF), .tup (e.needs.map encN4), .tup (e.bars.map encB)]
/-- the store while an entry is drawn: the hand, the three lists, things that stay -/
structure RI (h c : Nat) (st0 : Sto) (n8 n9 n10 : Nat) (K : List (Nat × Ob)) (F N B : List D) (st : Sto) : Prop where
  g : Gr h c st0 st
  h8 : st[n8]? = some (.lst F)
  h9 : st[n9]? = some (.lst N)
  h10 : st[n10]? = some (.lst B)
  keep : ∀ p ∈ K, st[p.1]? = some p.2
/-- where they stand -/
structure RP (st0 : Sto) (n8 n9 n10 : Nat) (K : List (Nat × Ob)) : Prop where
  a : st0.length ≤ n8 ∧ st0.length ≤ n9 ∧ st0.length ≤ n10
  d : n8 ≠ n9 ∧ n8 ≠ n10 ∧ n9 ≠ n10
  k : ∀ p ∈ K, st0.length ≤ p.1 ∧ p.1 ≠ n8 ∧ p.1 ≠ n9 ∧ p.1 ≠ n10
section
variable {h c n8 n9 n10 : Nat} {st0 st st1 : Sto} {K : List (Nat × Ob)} {F N B : List D}
theorem RI.sm (P : RP st0 n8 n9 n10 K) (r : RI h c st0 n8 n9 n10 K F N B st) (s : Sm h st st1) (H : Hd st1 h c) : RI h c st0 n8 n9 n10 K F N B st1 := by
  have hh := r.g.hlt
  refine ⟨r.g.sm s H, by rw [s.same n8 (by have := P.a; omega)]; exact r.h8, by rw [s.same n9 (by have := P.a; omega)]; exact r.h9, by rw [s.same n10 (by have := P.a; omega)]; exact r.h10, fun p hp => ?_⟩
  rw [s.same p.1 (by have := (P.k p hp).1; omega)]
  exact r.keep p hp
theorem RI.app (r : RI h c st0 n8 n9 n10 K F N B st) (x : Sto) : RI h c st0 n8 n9 n10 K F N B (st ++ x) := ⟨r.g.app x, gb r.h8, gb r.h9, gb r.h10, fun p hp => gb (r.keep p hp)⟩
theorem Gr.setY {n : Nat} {o : Ob} (g : Gr h c st0 st) (hn : st0.length ≤ n) : Gr h c st0 (st.set n o) := by
  refine ⟨by simpa using g.len, fun m hm hne => ?_, ?_, g.hd0⟩
  · rw [List.getElem?_set_ne (by omega)]
    exact g.same m hm hne
  · obtain ⟨cells, a, b, d, e, q1, q2, q3⟩ := g.hd.ex
    have := g.hlt
    have := g.clt
    exact ⟨cells, a, b, d, e, by rw [List.getElem?_set_ne (by omega)]; exact q1, by rw [List.getElem?_set_ne (by omega)]; exact q2, q3⟩
end
end CM
namespace CM
open PySem L2 PySem.Spec DL
open PyProof.Rows hiding St
theorem blw_encL (n : Nat) (l : List Str) : D.blw n (encL l) = true := by simp [encL, D.blw, blw_strs]
end CM
namespace CM
open PySem L2 PySem.Spec DL
open PyProof.Rows hiding St
/-- the store while a book is drawn -/
structure BI (h c : Nat) (st0 : Sto) (n2 n3 : Nat) (names : List Str) (rs : List RawE) (st : Sto) : Prop where
  g : Gr h c st0 st
  h2 : st[n2]? = some (.lst (names.map .str))
  h3 : st[n3]? = some (.lst (rs.map encRaw))
section
variable {h c n2 n3 : Nat} {st0 st st1 : Sto} {names : List Str} {rs : List RawE}
theorem BI.sm (hn : st0.length ≤ n2 ∧ st0.length ≤ n3) (r : BI h c st0 n2 n3 names rs st) (s : Sm h st st1) (H : Hd st1 h c) : BI h c st0 n2 n3 names rs st1 := by
  have hh := r.g.hlt
  exact ⟨r.g.sm s H, by rw [s.same n2 (by omega)]; exact r.h2, by rw [s.same n3 (by omega)]; exact r.h3⟩
theorem BI.app (r : BI h c st0 n2 n3 names rs st) (x : Sto) : BI h c st0 n2 n3 names rs (st ++ x) := ⟨r.g.app x, gb r.h2, gb r.h3⟩
theorem BI.set (hn : st0.length ≤ n2 ∧ st0.length ≤ n3 ∧ n2 ≠ n3) (r : BI h c st0 n2 n3 names rs st) (rs' : List RawE) : BI h c st0 n2 n3 names rs' (st.set n3 (.lst (rs'.map encRaw))) :=
  ⟨r.g.setY hn.2.1, by rw [List.getElem?_set_ne (Ne.symm hn.2.2)]; exact r.h2, List.getElem?_set_self (List.getElem?_eq_some_iff.mp r.h3).1⟩
end
end CM
namespace CM
open PySem L2 PySem.Spec DL
open PyProof.Rows hiding St
theorem szk' {n : Nat} (h : n ≤ 1000) : n ≤ sizeLine := Nat.le_of_lt (sizeLine_big (by omega))
def ltS (a b : Str) : Bool := PySem.W.dataLt (.str a) (.str b)
def namesF : Str → List Str → Bool
  | _, [] => true
  | p, s :: r => nameS s && (ltS p s && namesF s r)
theorem le_strs {a b : Str} {st : Sto} {Q : DK} (q : Q (.bl (!ltS b a)) st) : dLe (.str a) (.str b) st Q := by
  exact ⟨1, .str a, .str b, rfl, rfl, rfl, (fun z => by cases z), (by simp [PyData.depth]), q⟩
def sp_names : DSp := fun ds st Q _ => match ds with
  | [d] => ∃ l : List Str, d = encL l ∧ (∀ s ∈ l, s.length ≤ 1000) ∧ Q (.bl (namesF "" l)) st
  | _ => False
theorem lp_names (E : DEnds) {d : D} {st : Sto} : ∀ (l : List Str) (p : Str) (y : Option D), (∀ s ∈ l, s.length ≤ 1000) → (namesF p l = false → E.rt (.bl false) st) → (namesF p l = true → ∀ p' y', E.nx [some d, some (.str p'), y'] st) →
    runG (gN 2) (RD.b_is_names_1 sp_name) E (fun _ => True) (l.map .str) [some d, some (.str p), y] st
  | [], p, y, hl, h0, h1 => ⟨trivial, h1 rfl p y⟩
  | s :: l, p, y, hl, h0, h1 => by
    rw [List.map_cons, runG_cons]
    refine ⟨trivial, ?_⟩
    have ih := fun p y => lp_names E (d := d) (st := st) l p y (fun s hs => hl s (List.mem_cons_of_mem _ hs))
    generalize hR : runG (gN 2) (RD.b_is_names_1 sp_name) E (fun _ => True) (l.map .str) = R at ih ⊢
    rw [s_gN]
    unfold RD.b_is_names_1
    show dSeq _ _ _ [some d, some (.str p), some (.str s)] st
    rw [s_seq, s_ifS, s_or, s_not, s_tru, s_call, s_cons, s_var]
    show dNil _ _ _ _
    rw [s_nil]
    have hs := hl s List.mem_cons_self
    refine ⟨rfl, by simp [ok], fun x e => by cases e; exact szk' hs, ?_⟩
    show truD st (.bl (nameS s)) _
    rw [s_tru_bl]
    simp only [namesF] at h0 h1
    cases hn : nameS s with
    | false =>
      rw [hn] at h0
      rw [if_pos (by decide), if_pos rfl, s_ret, s_c]
      exact h0 rfl
    | true =>
      rw [hn] at h0 h1
      simp only [Bool.true_and] at h0 h1
      rw [if_neg (by decide), s_test, s_op, s_var]
      show dVar 1 _ _ _ _
      rw [s_var]
      show dLe (.str s) (.str p) st _
      refine le_strs ?_
      dsimp only
      cases hlt : ltS p s with
      | false =>
        rw [hlt] at h0
        rw [if_pos (by decide), s_ret, s_c]
        exact h0 rfl
      | true =>
        rw [hlt] at h0 h1
        simp only [Bool.true_and] at h0 h1
        rw [if_neg (by decide), s_next]
        dsimp only
        rw [s_asg, s_var]
        exact ih s (some (.str s)) h0 h1
theorem r_is_names : Rd 1 sp_names (RD.t_is_names sp_name) RD.N_is_names := by
  intro ds st Q Z hl h
  match ds, hl, h with
  | [d], _, ⟨l, hd, hlen, q⟩ =>
    subst hd
    unfold RD.t_is_names
    rw [s_seq, s_ifS, s_not, s_tru, s_isi, s_var]
    show truD st (.bl true) _
    rw [s_tru_bl, if_neg (by decide), s_next]
    dsimp only
    rw [s_seq, s_asg, s_c, s_gN]
    dsimp only
    show dSeq _ _ _ [some (encL l), some (.str ""), none] st
    rw [s_seq, s_for, s_iD, s_var]
    show walkD _ _ _
    unfold encL
    rw [s_walk_tup]
    refine lp_names _ l "" none hlen (fun e => ?_) fun e p' y' => ?_
    · rw [e] at q
      exact .inl q
    · rw [e] at q
      dsimp only
      rw [s_ret, s_c]
      exact .inl q
end CM
namespace CM
open PySem L2 PySem.Spec DL
open PyProof.Rows hiding St
open TL (tl pre spl par numL joinL)
def nameL (l : List Nat) : Bool := decide (l.length ≤ 12) && (decide (l ≠ []) && l.all fun c => decide (97 ≤ c ∧ c ≤ 122))
theorem uni_low : ∀ c, c < 128 → (Unicode.isAlpha c && !(Unicode.isUpper c || Unicode.isTitle c)) = decide (97 ≤ c ∧ c ≤ 122) := by decide +kernel
theorem uni_is : ∀ c, c < 128 → 97 ≤ c → c ≤ 122 → Unicode.isLower c = true := by decide +kernel
theorem nameS_eq (s : Str) : nameS s = nameL (tl s) := by
  have hl := TL.len_tl s
  unfold nameS nameL
  rw [← hl]
  congr 1
  have e1 : Txt.isascii s = (tl s).all fun c => decide (c < 128) := by
    unfold Txt.isascii
    rw [← Array.all_toList]
  have e2 : Txt.isalpha s = (decide (tl s ≠ []) && (tl s).all Unicode.isAlpha) := by
    unfold Txt.isalpha
    rw [← Array.all_toList]
    congr 1
    rw [Bool.eq_iff_iff]
    simp only [decide_eq_true_eq, gt_iff_lt]
    rw [hl]
    exact List.length_pos_iff
  have e3 : Txt.islower s = ((tl s).any Unicode.isLower && !(tl s).any fun c => Unicode.isUpper c || Unicode.isTitle c) := by
    unfold Txt.islower
    rw [← Array.any_toList, ← Array.any_toList]
  rw [e1, e2, e3]
  generalize tl s = l
  rw [Bool.eq_iff_iff]
  simp only [Bool.and_eq_true, List.all_eq_true, decide_eq_true_eq, Bool.not_eq_true', List.any_eq_false, List.any_eq_true]
  constructor
  · rintro ⟨h1, ⟨h2, h3⟩, h4, h5⟩
    refine ⟨h2, fun c hc => ?_⟩
    have := uni_low c (h1 c hc)
    rw [h3 c hc, Bool.eq_false_iff.mpr (h5 c hc)] at this
    simpa using this
  · rintro ⟨h1, h2⟩
    have hlt : ∀ c ∈ l, c < 128 := fun c hc => by have := h2 c hc; omega
    have hu : ∀ c ∈ l, Unicode.isAlpha c = true ∧ (Unicode.isUpper c || Unicode.isTitle c) = false := fun c hc => by
      have := uni_low c (hlt c hc)
      rw [decide_eq_true (h2 c hc)] at this
      simpa using this
    refine ⟨hlt, ⟨h1, fun c hc => (hu c hc).1⟩, ?_, fun c hc => by rw [(hu c hc).2]; decide⟩
    cases l with
    | nil => exact absurd rfl h1
    | cons c r => exact ⟨c, List.mem_cons_self, uni_is c (hlt c List.mem_cons_self) (h2 c List.mem_cons_self).1 (h2 c List.mem_cons_self).2⟩
theorem nameL_free {l : List Nat} (h : nameL l = true) : ∀ c ∈ l, 97 ≤ c ∧ c ≤ 122 := by
  unfold nameL at h
  simp only [Bool.and_eq_true, List.all_eq_true, decide_eq_true_eq] at h
  exact h.2.2
end CM
namespace CM
open PySem L2 PySem.Spec DL
open PyProof.Rows hiding St
open TL (tl pre spl numL joinL)
@[simp] theorem e_read {st : Sto} {Q : DK} {Z : DX → Sto → Prop} {t : Str} : sp_read [.str t] st Q Z = ∃ as : List (List Rng), altsOf (tl t) = as.map (fun a => a.map some) ∧ t.length ≤ 1000000 ∧ Mild as ∧ Q (encR (readR as)) st := rfl
theorem Hd.set {st : Sto} {h c m : Nat} (H : Hd st h c) (h1 : m ≠ h) (h2 : m ≠ c) (o : Ob) : Hd (st.set m o) h c := by
  obtain ⟨cells, a, b, d, e, q1, q2, q3⟩ := H.ex
  exact ⟨cells, a, b, d, e, by rw [List.getElem?_set_ne h1]; exact q1, by rw [List.getElem?_set_ne h2]; exact q2, q3⟩
abbrev PW := List (Str × Nat)
def drawnP (ps : PW) : Prop := ∀ p ∈ ps, p.1 ∈ words ∧ smallV p.2
structure EvOk (ev : Rng) (ps : PW) : Prop where
  w : wf ev
  has : ∀ v, Has ev v ↔ ∀ p ∈ ps, Has (lpR p.1 p.2) v
  len : (endsOf ev).length ≤ 1 + 5 * ps.length
  dr : drawnP ps
theorem EvOk.nil : EvOk everyR [] := ⟨wf1 okV0, fun v => by simp [everyR, Has, inP], by decide, fun p hp => nomatch hp⟩
theorem EvOk.cons {ev : Rng} {ps : PW} (e : EvOk ev ps) {w : Str} {n : Nat} (hw : w ∈ words) (hn : smallV n) : EvOk (bothR ev (lpR w n)) (ps ++ [(w, n)]) := by
  obtain ⟨h1, h2, h3⟩ := law_some hw hn
  refine ⟨wf_both e.w h2, fun v => ?_, ?_, fun p hp => ?_⟩
  · rw [has_both e.w h2, e.has]
    simp only [List.mem_append, List.mem_singleton]
    constructor
    · rintro ⟨a, b⟩ p (hp | rfl)
      · exact a p hp
      · exact b
    · intro q
      exact ⟨fun p hp => q p (.inl hp), q (w, n) (.inr rfl)⟩
  · have := len_both e.w h2
    have := e.len
    simp
    omega
  · rcases List.mem_append.mp hp with hp | hp
    · exact e.dr p hp
    · rw [List.mem_singleton.mp hp]; exact ⟨hw, hn⟩
structure DueOk (due : Rng) (as : List PW) : Prop where
  w : wf due
  has : ∀ v, Has due v ↔ ∃ ps ∈ as, ∀ p ∈ ps, Has (lpR p.1 p.2) v
  len : (endsOf due).length ≤ 16 * as.length
  dr : ∀ ps ∈ as, ps ≠ [] ∧ ps.length ≤ 3 ∧ drawnP ps
theorem DueOk.nil : DueOk [] [] := ⟨trivial, fun v => by simp [Has], by simp [endsOf], fun p hp => nomatch hp⟩
theorem DueOk.cons {due : Rng} {as : List PW} (d : DueOk due as) {ev : Rng} {ps : PW} (e : EvOk ev ps) (h0 : ps ≠ []) (h3 : ps.length ≤ 3) : DueOk (eitherR due ev) (as ++ [ps]) := by
  refine ⟨wf_either d.w e.w, fun v => ?_, ?_, fun q hq => ?_⟩
  · rw [has_either d.w e.w, d.has, e.has]
    simp only [List.mem_append, List.mem_singleton]
    constructor
    · rintro (⟨p, h1, h2⟩ | h1)
      · exact ⟨p, .inl h1, h2⟩
      · exact ⟨ps, .inr rfl, h1⟩
    · rintro ⟨p, h1 | rfl, h2⟩
      · exact .inl ⟨p, h1, h2⟩
      · exact .inr h2
  · have := len_either d.w e.w
    have := d.len
    have := e.len
    simp
    omega
  · rcases List.mem_append.mp hq with hq | hq
    · exact d.dr q hq
    · rw [List.mem_singleton.mp hq]; exact ⟨h0, h3, e.dr⟩
end CM
namespace CM
open PySem L2 PySem.Spec DL
open PyProof.Rows hiding St
open TL (tl pre spl numL joinL)
def sp_bent : DSp := fun ds st Q _ => match ds with
  | [.loc h, .str t] => ∃ c, Hd st h c ∧ t.length ≤ 10000 ∧ ∀ t' st', t'.length ≤ 2 * t.length + 60 → Hd st' h c → Sm h st st' → Q (.str t') st'
  | _ => False
@[simp] theorem e_bent {st : Sto} {Q : DK} {Z : DX → Sto → Prop} {h : Nat} {t : Str} : sp_bent [.loc h, .str t] st Q Z = ∃ c, Hd st h c ∧ t.length ≤ 10000 ∧ ∀ t' st', t'.length ≤ 2 * t.length + 60 → Hd st' h c → Sm h st st' → Q (.str t') st' := rfl
theorem sz_big {n : Nat} (h : n < 1000000) : n ≤ sizeLine := Nat.le_of_lt (sizeLine_big (by omega))
end CM
namespace CM
open PySem L2 PySem.Spec DL
open PyProof.Rows hiding St
theorem r_is_wanted : Rd 1 (fun ds st Q Z => match ds with
  | [d] => ∃ l : List Str, d = encL l ∧ (∀ s ∈ l, s.length ≤ 1000) ∧ Q (.bl (namesF "" l && decide (l.length ≤ 4))) st
  | _ => False) (RD.t_is_wanted sp_names) RD.N_is_wanted := by
  intro ds st Q Z hl h
  match ds, hl, h with
  | [d], _, ⟨l, hd, hlen, q⟩ =>
    subst hd
    unfold RD.t_is_wanted
    rw [s_ret, s_andV, s_call, s_cons, s_var]
    show dNil _ _ _ _
    rw [s_nil]
    refine ⟨rfl, l, rfl, hlen, ?_⟩
    dsimp only
    rw [s_tru_bl]
    cases hb : namesF "" l with
    | false =>
      rw [hb] at q
      rw [if_neg (by decide)]
      exact .inl q
    | true =>
      rw [hb] at q
      rw [if_pos rfl, s_op, s_cb, s_cons, s_var]
      show dNil _ _ _ _
      rw [s_nil]
      show dLen [.tup (l.map .str)] st _
      rw [s_len_tup, s_c]
      refine .inl ?_
      have e : decide (((l.map D.str).length : Int) ≤ 4) = decide (l.length ≤ 4) := decide_eq_decide.mpr (by rw [List.length_map]; omega)
      show Q (.bl (decide (((l.map D.str).length : Int) ≤ 4))) st
      rw [e]
      simpa using q
def sp_withinT : DSp := fun ds st Q _ => match ds with
  | [.int m, .tup ds] => Q (.bl (decide ((ds.length : Int) ≤ m))) st
  | _ => False
theorem r_is_tuple_withinT : Rd 2 sp_withinT RD.t_is_tuple_within RD.N_is_tuple_within := by
  intro ds st Q Z hl h
  match ds, hl, h with
  | [.int m, .tup ds], _, q =>
    unfold RD.t_is_tuple_within
    rw [s_ret, s_andV, s_isi, s_var]
    show truD st (.bl true) _
    rw [s_tru_bl, if_pos rfl, s_op, s_cb, s_cons, s_var]
    show dNil _ _ _ _
    rw [s_nil]
    show dLen [.tup ds] st _
    rw [s_len_tup, s_var]
    exact .inl q
end CM
namespace CM
open PySem L2 PySem.Spec DL
open PyProof.Rows hiding St
def sp_wanted : DSp := fun ds st Q _ => match ds with
  | [d] => ∃ l : List Str, d = encL l ∧ (∀ s ∈ l, s.length ≤ 1000) ∧ Q (.bl (namesF "" l && decide (l.length ≤ 4))) st
  | _ => False
theorem r_is_wanted' : Rd 1 sp_wanted (RD.t_is_wanted sp_names) RD.N_is_wanted := r_is_wanted
end CM
namespace CM
open PySem L2 PySem.Spec DL
open PyProof.Rows hiding St
open TL (tl pre spl par numL joinL)
abbrev Wish := Str × Rng × List Str
abbrev Lock := Str × Nat
def encWish (w : Wish) : D := .tup [.str w.1, encR w.2.1, encL w.2.2]
def encLock (k : Lock) : D := .tup [.str k.1, encV k.2]
def encOL : Option (List Str) → D
  | none => .non
  | some l => encL l
def encOW : Option Wish → D
  | none => .non
  | some w => encWish w
def encOK : Option Lock → D
  | none => .non
  | some w => encLock w
def lotOk (ns : List Str) : Bool := namesF "" ns && decide (ns.length ≤ 4)
def namesOf (l : List Nat) : List Str := (spl [32] 0 [] l).map SL
def withL : List Nat := [32, 119, 105, 116, 104, 32]
def wantL (t : List Nat) : Option (List Str) := if t = [] then some [] else if pre withL t = true then (if lotOk (namesOf (t.drop 6)) = true then some (namesOf (t.drop 6)) else none) else none
def rangeL (l : List Nat) : Option Rng := if wrongAt (altsOf l) = none then some (readT l) else none
def targetB (n b : List Nat) : Option Wish := if nameL n = true then match par [41] [] b with
    | some (w, t) => match rangeL w, wantL t with
      | some r, some ns => some (SL n, r, ns)
      | _, _ => none
    | none => none
  else none
def targetL (l : List Nat) : Option Wish := match par [32] [] l with
  | some (n, 40 :: b) => targetB n b
  | _ => none
def placeL (l : List Nat) : Option Lock := match par [32] [] l with
  | some (n, b) => if nameL n = true then (verText b).map fun v => (SL n, v) else none
  | none => none
def sp_twant : DSp := fun ds st Q _ => match ds with
  | [.str t] => t.length ≤ 1000 ∧ Q (encOL (wantL (tl t))) st
  | _ => False
@[simp] theorem e_twant {st : Sto} {Q : DK} {Z : DX → Sto → Prop} {t : Str} : sp_twant [.str t] st Q Z = (t.length ≤ 1000 ∧ Q (encOL (wantL (tl t))) st) := rfl
theorem e_wanted {st : Sto} {Q : DK} {Z : DX → Sto → Prop} {l : List Str} (hl : ∀ s ∈ l, s.length ≤ 1000) (q : Q (.bl (lotOk l)) st) : sp_wanted [encL l] st Q Z := ⟨l, rfl, hl, q⟩
end CM
namespace CM
open PySem L2 PySem.Spec DL
open PyProof.Rows hiding St
open TL (tl pre spl par numL joinL)
def sp_trange : DSp := fun ds st Q _ => match ds with
  | [.str t] => t.length ≤ 1000 ∧ Q (encOR (rangeL (tl t))) st
  | _ => False
@[simp] theorem e_trange {st : Sto} {Q : DK} {Z : DX → Sto → Prop} {t : Str} : sp_trange [.str t] st Q Z = (t.length ≤ 1000 ∧ Q (encOR (rangeL (tl t))) st) := rfl
def sp_ttarget : DSp := fun ds st Q _ => match ds with
  | [.str t] => t.length ≤ 1000 ∧ Q (encOW (targetL (tl t))) st
  | _ => False
@[simp] theorem e_ttarget {st : Sto} {Q : DK} {Z : DX → Sto → Prop} {t : Str} : sp_ttarget [.str t] st Q Z = (t.length ≤ 1000 ∧ Q (encOW (targetL (tl t))) st) := rfl
def sp_tplace : DSp := fun ds st Q _ => match ds with
  | [.str t] => t.length ≤ 1000 ∧ Q (encOK (placeL (tl t))) st
  | _ => False
@[simp] theorem e_tplace {st : Sto} {Q : DK} {Z : DX → Sto → Prop} {t : Str} : sp_tplace [.str t] st Q Z = (t.length ≤ 1000 ∧ Q (encOK (placeL (tl t))) st) := rfl
end CM
namespace CM
open PySem L2 PySem.Spec DL
open PyProof.Rows hiding St
open TL (tl pre spl par numL joinL)
def wishP : List Nat := [119, 105, 115, 104, 32]
def lockP : List Nat := [108, 111, 99, 107, 32]
end CM
namespace CM
open PySem L2 PySem.Spec DL
open PyProof.Rows hiding St
theorem namesF_of : ∀ {l : List Str} {p : Str}, (∀ s ∈ l, nameS s = true) → (p :: l).Pairwise (fun a b => ltS a b = true) → namesF p l = true
  | [], _, _, _ => rfl
  | s :: r, p, h, hp => by
    obtain ⟨h1, h2⟩ := List.pairwise_cons.mp hp
    simp only [namesF, Bool.and_eq_true]
    exact ⟨h s List.mem_cons_self, h1 s List.mem_cons_self, namesF_of (fun q hq => h q (List.mem_cons_of_mem _ hq)) h2⟩
end CM
namespace CM
open PySem L2 PySem.Spec DL
open PyProof.Rows hiding St
section
variable [EC : ErrCtx]
omit [EC : ErrCtx] in
theorem putFD_new {f : Str} {d : D} : ∀ {fs : List (Str × D)}, (∀ p ∈ fs, p.1 ≠ f) → putFD f d fs = fs ++ [(f, d)]
  | [], _ => rfl
  | (g, x) :: r, h => by
    unfold putFD
    rw [if_neg (h (g, x) List.mem_cons_self), putFD_new fun p hp => h p (List.mem_cons_of_mem _ hp)]
    rfl
theorem s_setF {f : Str} {ms : List Nat} {to te : DTE} {E : DEnds} {ρ : Env'} {st : Sto} : dSetF f ms to te E ρ st = te ρ st (fun y st1 => to ρ st1 (fun z st2 => ∃ n m fs, z = .loc n ∧ m ∈ ms ∧ st2[n]? = some (.ins (errA m) fs) ∧ fs.length < 1000 ∧ E.nx ρ (st2.set n (.ins (errA m) (putFD f y fs)))) E.xs) E.xs := rfl
end
end CM
namespace CM
open PySem L2 PySem.Spec DL
open PyProof.Rows hiding St
open TL (tl pre spl par numL joinL)
structure AskV (ws : List Wish) (ls : List Lock) : Prop where
  w8 : ws.length ≤ 8
  wv : ∀ w ∈ ws, nameS w.1 = true ∧ wf w.2.1 ∧ lotOk w.2.2 = true ∧ ∀ s ∈ w.2.2, s.length ≤ 1000
  l40 : ls.length ≤ 40
  lv : ∀ k ∈ ls, okV k.2
  ln : namesF "" (ls.map (·.1)) = true
theorem AskV.nil : AskV [] [] := ⟨by simp, by simp, by simp, by simp, rfl⟩
theorem name12 {s : Str} (h : nameS s = true) : s.length ≤ 12 := by
  unfold nameS at h
  simp only [Bool.and_eq_true, decide_eq_true_eq] at h
  exact h.1
theorem namesF_names : ∀ {l : List Str} {p : Str}, namesF p l = true → ∀ s ∈ l, nameS s = true
  | s :: r, p, h, t, ht => by
    simp only [namesF, Bool.and_eq_true] at h
    rcases List.mem_cons.mp ht with rfl | ht
    · exact h.1
    · exact namesF_names h.2.2 t ht
theorem ltS_eq (a b : Str) : ltS a b = decide (tl a < tl b) := PySem.W.dataLt_str a b
theorem ltS_empty {s : Str} (h : nameS s = true) : ltS "" s = true := by
  rw [ltS_eq]
  rw [nameS_eq] at h
  have e : tl ("" : Str) = [] := rfl
  rw [e]
  cases hs : tl s with
  | nil => rw [hs] at h; exact absurd h (by decide)
  | cons c r => simp
theorem ok_encL {st : Sto} (l : List Str) : ok st (encL l) := by
  unfold encL
  rw [ok_tup]
  induction l with
  | nil => simp
  | cons s l ih => simp [ih]
def WishV (w : Wish) : Prop := nameS w.1 = true ∧ wf w.2.1 ∧ lotOk w.2.2 = true ∧ ∀ s ∈ w.2.2, s.length ≤ 1000
def sp_iswish : DSp := fun ds st Q _ => match ds with
  | [d] => ∃ w : Wish, d = encWish w ∧ WishV w ∧ Q (.bl true) st
  | _ => False
theorem e_nameT {st : Sto} {Q : DK} {Z : DX → Sto → Prop} {s : Str} (hs : nameS s = true) (q : Q (.bl true) st) : sp_name [.str s] st Q Z := ⟨by simp [ok], fun x e => by cases e; exact sz_big (by have := name12 hs; omega), by show Q (.bl (nameS s)) st; rw [hs]; exact q⟩
theorem ok_encWish {st : Sto} (w : Wish) : ok st (encWish w) := by
  unfold encWish
  rw [ok_tup]
  simp only [oks_cons, ok_str, oks_nil, and_true, true_and]
  exact ⟨by simp, ok_encL _⟩
theorem r_is_wish : Rd 1 sp_iswish (RD.t_is_wish sp_name sp_wanted sp_is_tuple_of sp_is_range) RD.N_is_wish := by
  intro ds st Q Z hl h
  match ds, hl, h with
  | [d], _, ⟨w, hd, hv, q⟩ =>
    subst hd
    unfold RD.t_is_wish
    rw [s_ret, s_andV, s_call, s_cons, s_c, s_cons, s_var]
    show dNil _ _ _ _
    rw [s_nil]
    refine ⟨rfl, ?_⟩
    rw [e_is_tuple_of]
    refine ⟨ok_encWish w, ?_⟩
    rw [show lenIs 3 (encWish w) = true from rfl, s_tru_bl, if_pos (by simp), s_andV, s_call, s_cons, s_op, s_var]
    show dC _ _ _ _ _
    rw [s_c]
    refine ⟨.str w.1, rfl, ?_⟩
    show dNil _ _ _ _
    rw [s_nil]
    refine ⟨rfl, e_nameT hv.1 ?_⟩
    rw [s_tru_bl, if_pos (by simp), s_andV, s_call, s_cons, s_op, s_var]
    show dC _ _ _ _ _
    rw [s_c]
    refine ⟨encR w.2.1, rfl, ?_⟩
    show dNil _ _ _ _
    rw [s_nil]
    refine ⟨rfl, by simp, ?_⟩
    rw [rngOf_enc hv.2.1]
    show truD st (.bl true) _
    rw [s_tru_bl, if_pos (by simp), s_call, s_cons, s_op, s_var]
    show dC _ _ _ _ _
    rw [s_c]
    refine ⟨encL w.2.2, rfl, ?_⟩
    show dNil _ _ _ _
    rw [s_nil]
    refine ⟨rfl, e_wanted hv.2.2.2 ?_⟩
    rw [hv.2.2.1]
    exact .inl q
def LocksV (ls : List Lock) : Prop := ls.length ≤ 40 ∧ (∀ k ∈ ls, okV k.2) ∧ namesF "" (ls.map (·.1)) = true
def sp_islocks : DSp := fun ds st Q _ => match ds with
  | [d] => ∃ ls : List Lock, d = .tup (ls.map encLock) ∧ LocksV ls ∧ Q (.bl true) st
  | _ => False
theorem ok_encLock {st : Sto} (k : Lock) : ok st (encLock k) := by
  unfold encLock
  rw [ok_tup]
  simp only [oks_cons, ok_str, oks_nil, and_true, true_and]
  simp
theorem lp_islocks (E : DEnds) {d : D} {st : Sto} : ∀ (ls : List Lock) (y : Option D), (∀ k ∈ ls, okV k.2) → (∀ y, E.nx [some d, y] st) →
    runG (gN 1) (RD.b_is_locks_1 sp_names sp_is_tuple_of sp_withinT sp_is_version) E (fun _ => True) (ls.map encLock) [some d, y] st
  | [], y, _, hk => ⟨trivial, hk y⟩
  | k :: ls, y, hv, hk => by
    rw [List.map_cons, runG_cons]
    refine ⟨trivial, ?_⟩
    have ih := fun y => lp_islocks E (d := d) (st := st) ls y (fun z hz => hv z (List.mem_cons_of_mem _ hz)) hk
    generalize hR : runG (gN 1) (RD.b_is_locks_1 sp_names sp_is_tuple_of sp_withinT sp_is_version) E (fun _ => True) (ls.map encLock) = R at ih ⊢
    rw [s_gN]
    unfold RD.b_is_locks_1
    show dIfS _ _ _ _ [some d, some (encLock k)] st
    rw [s_ifS, s_or, s_not, s_tru, s_call, s_cons, s_c, s_cons, s_var]
    show dNil _ _ _ _
    rw [s_nil]
    refine ⟨rfl, ?_⟩
    rw [e_is_tuple_of]
    refine ⟨ok_encLock k, ?_⟩
    rw [show lenIs 2 (encLock k) = true from rfl, s_tru_bl, if_neg (by simp), s_not, s_tru, s_call, s_cons, s_op, s_var]
    show dC _ _ _ _ _
    rw [s_c]
    refine ⟨encV k.2, rfl, ?_⟩
    show dNil _ _ _ _
    rw [s_nil]
    refine ⟨rfl, ?_⟩
    rw [e_is_version]
    refine ⟨by simp, ?_⟩
    rw [verM_enc (hv k List.mem_cons_self) (by unfold vB; omega) (by unfold vC; omega)]
    show truD st (.bl true) _
    rw [s_tru_bl, if_neg (by simp), s_next]
    exact ih _
theorem e_within {st : Sto} {Q : DK} {Z : DX → Sto → Prop} {m : Int} {ds : List D} (h : (ds.length : Int) ≤ m) (q : Q (.bl true) st) : sp_withinT [.int m, .tup ds] st Q Z := by
  show Q (.bl (decide ((ds.length : Int) ≤ m))) st
  rw [decide_eq_true h]
  exact q
theorem runC_name {Q : DK} {G : Sto → Prop} {x0 : Option D} {st : Sto} (hG : G st) : ∀ (ls : List Lock) (acc : List D), acc.length + ls.length < 1000 → Q (.loc st.length) (st ++ [.lst (acc ++ (ls.map (·.1)).map .str)]) →
    runC (gN 1) dYes (RD.e_is_locks_2 sp_names sp_is_tuple_of sp_withinT sp_is_version) [x0, none] Q G (ls.map encLock) acc st
  | [], acc, _, q => ⟨hG, by simpa using q⟩
  | k :: ls, acc, hl, q => by
    rw [List.map_cons, runC_cons]
    refine ⟨hG, ?_⟩
    have ih := runC_name (Q := Q) (x0 := x0) hG ls
    generalize hR : runC (gN 1) dYes (RD.e_is_locks_2 sp_names sp_is_tuple_of sp_withinT sp_is_version) [x0, none] Q G (ls.map encLock) = R at ih ⊢
    rw [s_gN, s_yes, if_pos rfl]
    unfold RD.e_is_locks_2
    show dOp dIx (dVar 1) (dC (.int 0)) [x0, some (encLock k)] st _ _
    rw [s_op, s_var]
    show dC _ _ _ _ _
    rw [s_c]
    simp only [List.length_cons] at hl
    exact ⟨.str k.1, rfl, sizeLine_big (by omega), ih _ (by simp; omega) (by simpa using q)⟩
theorem r_is_locks : Rd 1 sp_islocks (RD.t_is_locks sp_names sp_is_tuple_of sp_withinT sp_is_version) RD.N_is_locks := by
  intro ds st Q Z hl h
  match ds, hl, h with
  | [d], _, ⟨ls, hd, hv, q⟩ =>
    subst hd
    unfold RD.t_is_locks
    rw [s_seq, s_ifS, s_not, s_tru, s_call, s_cons, s_c, s_cons, s_var]
    show dNil _ _ _ _
    rw [s_nil]
    refine ⟨rfl, e_within (by rw [List.length_map]; have := hv.1; omega) ?_⟩
    rw [s_tru_bl, if_neg (by simp), s_next]
    dsimp only
    show dSeq _ _ _ [some (.tup (ls.map encLock)), none] st
    rw [s_seq, s_for, s_iD, s_var]
    show walkD _ _ _
    rw [s_walk_tup]
    refine lp_islocks _ ls none hv.2.1 fun y => ?_
    dsimp only
    rw [s_ret, s_call, s_cons, s_cb, s_cons, s_lc, s_iD, s_var]
    show walkD _ _ _
    rw [s_walk_tup]
    refine runC_name trivial ls [] (by have := hv.1; simp; omega) ?_
    rw [s_nil, s_tupOf]
    simp only [s_items_loc, getElem?_push, List.nil_append]
    rw [s_nil]
    refine ⟨rfl, ls.map (·.1), rfl, fun s hs => ?_, ?_⟩
    · have := name12 (namesF_names hv.2.2 s hs)
      omega
    · rw [hv.2.2]
      exact back_tup ⟨_, rfl⟩ rfl q
def sp_wpartQ : DSp := fun ds st Q _ => match ds with
  | [d, e] => ∃ ws ls, d = .tup (ws.map encWish) ∧ e = .tup (ls.map encLock) ∧ AskV ws ls ∧ Q .non st
  | _ => False
theorem lp_wpartQ (E : DEnds) {d e : D} {st : Sto} (hk : ∀ y2 y3, E.nx [some d, some e, y2, y3] st) : ∀ (ws : List Wish) (n : Nat) (y2 y3 : Option D), (∀ p ∈ ws, WishV p) →
    runG (gTup' 2 (gCons' (gN 2) (gCons' (gN 3) gNil'))) (RD.b_wrong_part_k09_1 sp_withinT sp_iswish sp_islocks) E (fun _ => True) (enumFrom n (ws.map encWish)) [some d, some e, y2, y3] st
  | [], n, y2, y3, _ => ⟨trivial, hk y2 y3⟩
  | p :: ws, n, y2, y3, h => by
    rw [List.map_cons, enumFrom, runG_cons]
    refine ⟨trivial, ?_⟩
    have ih := fun y2 y3 => lp_wpartQ E hk ws (n + 1) y2 y3 fun q hq => h q (List.mem_cons_of_mem _ hq)
    generalize hR : runG (gTup' 2 (gCons' (gN 2) (gCons' (gN 3) gNil'))) (RD.b_wrong_part_k09_1 sp_withinT sp_iswish sp_islocks) E (fun _ => True) (enumFrom (n + 1) (ws.map encWish)) = R at ih ⊢
    rw [s_gTup]
    refine ⟨rfl, ?_⟩
    rw [s_gCons, s_gN, s_gCons, s_gN, s_gNil]
    unfold RD.b_wrong_part_k09_1
    show dIfS _ _ _ _ [some d, some e, some (.int (n : Nat)), some (encWish p)] st
    rw [s_ifS, s_not, s_tru, s_call, s_cons, s_var]
    show dNil _ _ _ _
    rw [s_nil]
    refine ⟨rfl, p, rfl, h p List.mem_cons_self, ?_⟩
    dsimp only
    rw [s_tru_bl, if_neg (by simp), s_next]
    exact ih _ _
theorem r_wrong_partQ : Rd 2 sp_wpartQ (RD.t_wrong_part_k09 sp_withinT sp_iswish sp_islocks) RD.N_wrong_part_k09 := by
  intro ds st Q Z hl h
  match ds, hl, h with
  | [d, e], _, ⟨ws, ls, hd, he, hv, q⟩ =>
    subst hd he
    unfold RD.t_wrong_part_k09
    rw [s_seq, s_ifS, s_not, s_tru, s_call, s_cons, s_c, s_cons, s_var]
    show dNil _ _ _ _
    rw [s_nil]
    refine ⟨rfl, e_within (by rw [List.length_map]; have := hv.w8; omega) ?_⟩
    rw [s_tru_bl, if_neg (by simp), s_next]
    dsimp only
    show dSeq _ _ _ [some (.tup (ws.map encWish)), some (.tup (ls.map encLock)), none, none] st
    rw [s_seq, s_for, s_iEn, s_cons, s_var]
    show dNil _ _ _ _
    rw [s_nil]
    show enumD st (.tup (ws.map encWish)) _
    rw [s_en_tup, enumItems_eq]
    refine lp_wpartQ _ (fun y2 y3 => ?_) ws 0 none none hv.wv
    dsimp only
    rw [s_seq, s_ifS, s_not, s_tru, s_call, s_cons, s_var]
    show dNil _ _ _ _
    rw [s_nil]
    refine ⟨rfl, ls, rfl, ⟨hv.l40, hv.lv, hv.ln⟩, ?_⟩
    dsimp only
    rw [s_tru_bl, if_neg (by simp), s_next]
    dsimp only
    rw [s_ret, s_c]
    exact .inl q
section
variable [EC : ErrCtx]
/-- a question's fields -/
def askF (ws : List Wish) (ls : List Lock) : List (Str × D) := [("wishes", .tup (ws.map encWish)), ("locks", .tup (ls.map encLock))]
def sp_qinit : DSp := fun ds st Q _ => match ds with
  | [.loc n, d, e] => ∃ ws ls, d = .tup (ws.map encWish) ∧ e = .tup (ls.map encLock) ∧ AskV ws ls ∧ st[n]? = some (.ins (errA 102) []) ∧ Q .non (st.set n (.ins (errA 102) (askF ws ls)))
  | _ => False
theorem setF_okM {m : Nat} {f : Str} {i n : Nat} {d : D} {fs : List (Str × D)} {E : DEnds} {ρ : Env'} {st : Sto} (h0 : ρ[0]? = some (some (.loc n))) (hi : ρ[i]? = some (some d)) (hn : st[n]? = some (.ins (errA m) fs)) (hl : fs.length < 1000) (k : E.nx ρ (st.set n (.ins (errA m) (putFD f d fs)))) : dSetF f [m] (dVar 0) (dVar i) E ρ st := by
  rw [s_setF, s_var, hi]
  dsimp only
  rw [s_var, h0]
  exact ⟨n, m, fs, rfl, by simp, hn, hl, k⟩
theorem r_Question_init : Rd 3 sp_qinit (RD.t_Question___init___k14 sp_wpartQ) RD.N_Question___init___k14 := by
  intro ds st Q Z hl h
  match ds, hl, h with
  | [.loc n, d, e], _, ⟨ws, ls, hd, he, hv, hn, q⟩ =>
    subst hd he
    unfold RD.t_Question___init___k14
    rw [s_seq, s_asg, s_call, s_cons, s_var]
    show dCons _ _ _ _ _ _
    rw [s_cons, s_var]
    show dNil _ _ _ _
    rw [s_nil]
    refine ⟨rfl, ws, ls, rfl, rfl, hv, ?_⟩
    dsimp only
    rw [s_gN]
    show dSeq _ _ _ [some (.loc n), some (.tup (ws.map encWish)), some (.tup (ls.map encLock)), some .non] st
    rw [s_seq, s_ifS, s_test, s_op, s_var]
    show dC _ _ _ _ _
    rw [s_c, s_is]
    dsimp only
    rw [if_neg (by simp), s_next]
    dsimp only
    have hlt : n < st.length := (List.getElem?_eq_some_iff.mp hn).1
    rw [s_seq]
    refine setF_okM (m := 102) rfl rfl hn (by simp) ?_
    dsimp only
    refine setF_okM (m := 102) rfl rfl (List.getElem?_set_self hlt) (by simp [putFD]) ?_
    rw [show putFD "wishes" (.tup (ws.map encWish)) [] = ([(("wishes" : Str), D.tup (ws.map encWish))] : List (Str × D)) from rfl, putFD_new (f := "locks") (fs := [(("wishes" : Str), (.tup (ws.map encWish) : D))]) (by simp; decide), List.set_set]
    exact .inl q
end
end CM
namespace CM
open PySem L2 PySem.Spec DL
open PyProof.Rows hiding St
open TL (tl pre spl par numL joinL)
theorem strOk_name {s : Str} (h : nameS s = true) : PyData.strOk s = true := by
  rw [nameS_eq] at h
  have := nameL_free h
  unfold PyData.strOk
  rw [← Array.all_toList, List.all_eq_true]
  intro c hc
  have := this c hc
  simp
  omega
theorem pus_strs : ∀ {l : List Str}, (∀ s ∈ l, nameS s = true) → pus (l.map .str) = true
  | [], _ => rfl
  | s :: l, h => by
    simp only [List.map_cons, pus, pu, Bool.and_eq_true]
    exact ⟨strOk_name (h s List.mem_cons_self), pus_strs fun t ht => h t (List.mem_cons_of_mem _ ht)⟩
theorem dps_strs : ∀ l : List Str, dps (l.map .str) = 0
  | [] => rfl
  | s :: l => by simp only [List.map_cons, dps, dp, dps_strs l]; rfl
theorem lot_names {l : List Str} (h : lotOk l = true) : ∀ s ∈ l, nameS s = true := by
  unfold lotOk at h
  exact namesF_names (Bool.and_eq_true_iff.mp h).1
theorem pus_wish : ∀ {ws : List Wish}, (∀ w ∈ ws, WishV w) → pus (ws.map encWish) = true
  | [], _ => rfl
  | w :: ws, h => by
    have hw := h w List.mem_cons_self
    simp only [List.map_cons, pus, encWish, pu, Bool.and_eq_true, pu_encR, encL, Bool.and_true, Bool.true_and]
    exact ⟨⟨strOk_name hw.1, pus_strs (lot_names hw.2.2.1)⟩, pus_wish fun t ht => h t (List.mem_cons_of_mem _ ht)⟩
theorem dps_wish : ∀ ws : List Wish, dps (ws.map encWish) ≤ 4
  | [] => by simp [dps]
  | w :: ws => by
    have := dps_wish ws
    have := dp_encR w.2.1
    simp only [List.map_cons, dps, encWish, dp, encL, dps_strs]
    omega
theorem pus_lock : ∀ {ls : List Lock}, (∀ k ∈ ls, nameS k.1 = true) → pus (ls.map encLock) = true
  | [], _ => rfl
  | k :: ls, h => by
    simp only [List.map_cons, pus, encLock, pu, Bool.and_eq_true, pu_encV, Bool.and_true, Bool.true_and]
    exact ⟨strOk_name (h k List.mem_cons_self), pus_lock fun t ht => h t (List.mem_cons_of_mem _ ht)⟩
theorem dps_lock : ∀ ls : List Lock, dps (ls.map encLock) ≤ 2
  | [] => by simp [dps]
  | k :: ls => by
    have := dps_lock ls
    simp only [List.map_cons, dps, encLock, dp, dp_encV]
    omega
theorem encL_inj {a b : List Str} : encL a = encL b ↔ a = b := by
  constructor
  · intro h
    have h' : a.map D.str = b.map D.str := by injection h
    exact (List.map_inj_right (fun x y e => by injection e)).mp h'
  · exact fun h => by rw [h]
theorem encWish_inj {a b : Wish} (h : encWish a = encWish b) : a = b := by
  unfold encWish at h
  injection h with h
  simp only [List.cons.injEq, and_true] at h
  obtain ⟨h1, h2, h3⟩ := h
  injection h1 with h1
  exact Prod.ext h1 (Prod.ext (encR_inj.mp h2) (encL_inj.mp h3))
theorem encLock_inj {a b : Lock} (h : encLock a = encLock b) : a = b := by
  unfold encLock at h
  injection h with h
  simp only [List.cons.injEq, and_true] at h
  obtain ⟨h1, h2⟩ := h
  injection h1 with h1
  exact Prod.ext h1 (encV_inj.mp h2)
theorem wishes_eq {a b : List Wish} : D.tup (a.map encWish) = D.tup (b.map encWish) ↔ a = b :=
  ⟨fun h => by injection h with h; exact (List.map_inj_right (fun x y e => encWish_inj e)).mp h, fun h => by rw [h]⟩
theorem locks_eq {a b : List Lock} : D.tup (a.map encLock) = D.tup (b.map encLock) ↔ a = b :=
  ⟨fun h => by injection h with h; exact (List.map_inj_right (fun x y e => encLock_inj e)).mp h, fun h => by rw [h]⟩
theorem AskV.lnames {ws : List Wish} {ls : List Lock} (v : AskV ws ls) : ∀ k ∈ ls, nameS k.1 = true := fun k hk => namesF_names v.ln k.1 (List.mem_map_of_mem hk)
section
variable [EC : ErrCtx]
def sp_qeq : DSp := fun ds st Q _ => match ds with
  | [.loc i, .loc j] => ∃ ws ls ws' ls', st[i]? = some (.ins (errA 102) (askF ws ls)) ∧ st[j]? = some (.ins (errA 102) (askF ws' ls')) ∧ AskV ws ls ∧ AskV ws' ls' ∧ Q (.bl (decide (ws = ws' ∧ ls = ls'))) st
  | _ => False
theorem s_fldV {f : Str} {ms : List Nat} {te : DTE} {ρ : Env'} {st : Sto} {Q : DK} {Z : DZ} : dFld f ms te ρ st Q Z = te ρ st (fun y st1 => ∃ n m fs v, y = .loc n ∧ m ∈ ms ∧ st1[n]? = some (.ins (errA m) fs) ∧ fs.lookup f = some v ∧ Q v st1) Z := rfl
theorem s_isCV {ms : List Nat} {m : Nat} {te : DTE} {ρ : Env'} {st : Sto} {Q : DK} {Z : DZ} : dIsC ms m te ρ st Q Z = te ρ st (fun y st1 => (∃ a, tyN st1 y = some a ∧ Q (.bl false) st1) ∨ ∃ n q fs, y = .loc n ∧ q ∈ ms ∧ st1[n]? = some (.ins (errA q) fs) ∧ Q (.bl (q == m)) st1) Z := rfl
theorem lk_w {ws : List Wish} {ls : List Lock} : List.lookup ("wishes" : Str) (askF ws ls) = some (D.tup (ws.map encWish)) := by
  unfold askF
  rw [List.lookup_cons]
  rfl
theorem lk_l {ws : List Wish} {ls : List Lock} : List.lookup ("locks" : Str) (askF ws ls) = some (D.tup (ls.map encLock)) := by
  unfold askF
  rw [List.lookup_cons, List.lookup_cons]
  rfl
theorem r_Question_eq : Rd 2 sp_qeq RD.t_Question___eq__ RD.N_Question___eq__ := by
  intro ds st Q Z hl h
  match ds, hl, h with
  | [.loc i, .loc j], _, ⟨ws, ls, ws', ls', hi, hj, v, v', q⟩ =>
    unfold RD.t_Question___eq__
    rw [s_ret, s_andV, s_isCV, s_var]
    refine .inr ⟨j, 102, _, rfl, by simp, hj, ?_⟩
    rw [show ((102 : Nat) == 102) = true from rfl, s_tru_bl, if_pos (by simp), s_andV, s_op, s_fldV, s_var]
    refine ⟨i, 102, _, _, rfl, by simp, hi, lk_w, ?_⟩
    rw [s_fldV, s_var]
    refine ⟨j, 102, _, _, rfl, by simp, hj, lk_w, ?_⟩
    refine eq_plain (by unfold pu; exact pus_wish v.wv) (by unfold pu; exact pus_wish v'.wv) (by unfold dp; have := dps_wish ws; omega) (by unfold dp; have := dps_wish ws'; omega) (b := decide (ws = ws')) (by rw [wishes_eq]; simp) ?_
    rw [id, s_tru_bl]
    by_cases e1 : ws = ws'
    · rw [if_pos (by simp [e1]), s_op, s_fldV, s_var]
      refine ⟨i, 102, _, _, rfl, by simp, hi, lk_l, ?_⟩
      rw [s_fldV, s_var]
      refine ⟨j, 102, _, _, rfl, by simp, hj, lk_l, ?_⟩
      refine eq_plain (by unfold pu; exact pus_lock v.lnames) (by unfold pu; exact pus_lock v'.lnames) (by unfold dp; have := dps_lock ls; omega) (by unfold dp; have := dps_lock ls'; omega) (b := decide (ls = ls')) (by rw [locks_eq]; simp) ?_
      have : decide (ws = ws' ∧ ls = ls') = decide (ls = ls') := by simp [e1]
      rw [this] at q
      exact .inl q
    · rw [if_neg (by simp [e1])]
      have : decide (ws = ws' ∧ ls = ls') = decide (ws = ws') := by simp [e1]
      rw [this] at q
      exact .inl q
end
end CM
namespace CM
open PySem L2 PySem.Spec DL
open PyProof.Rows hiding St
open TL (tl pre spl par numL joinL)
section
variable [EC : ErrCtx]
theorem s_makeV {m n : Nat} {dsp : DSp} {t : DTA} {ρ : Env'} {st : Sto} {Q : DK} {Z : DZ} : dMake m n dsp t ρ st Q Z = t ρ st (fun ds st1 => ds.length + 1 = n ∧ dsp (.loc st1.length :: ds) (st1 ++ [.ins (errA m) []]) (fun v st2 => v = .non ∧ Q (.loc st1.length) st2) fun x st2 => Z x ρ st2) Z := rfl
end
theorem var_ev {i : Nat} {d : D} {ρ : Env'} {st : Sto} {Q : DK} {Z : DZ} (h : ρ[i]? = some (some d)) (q : Q d st) : dVar i ρ st Q Z := by
  rw [s_var, h]
  exact q
end CM
namespace CM
open PySem L2 PySem.Spec DL
open PyProof.Rows hiding St
open TL (tl pre spl par numL joinL)
theorem k1 : (" " : Str).length = 1 ∧ (" (" : Str).length = 2 ∧ (")" : Str).length = 1 ∧ ("with" : Str).length = 4 ∧ ("wish " : Str).length = 5 ∧ ("lock " : Str).length = 5 ∧ (" with " : Str).length = 6 := by decide
end CM
namespace CM
open PySem L2 PySem.Spec DL
open PyProof.Rows hiding St
open TL (tl pre spl par numL joinL)
theorem low_mem (c : Nat) : decide (c ∈ ("abcdefghijklmnopqrstuvwxyz" : Str).cps.toList) = decide (97 ≤ c ∧ c ≤ 122) := by
  have e : ("abcdefghijklmnopqrstuvwxyz" : Str).cps.toList = [97, 98, 99, 100, 101, 102, 103, 104, 105, 106, 107, 108, 109, 110, 111, 112, 113, 114, 115, 116, 117, 118, 119, 120, 121, 122] := by decide
  rw [e]
  refine decide_eq_decide.mpr ?_
  simp only [List.mem_cons, List.not_mem_nil, or_false]
  omega
def sp_lname : DSp := fun ds st Q _ => match ds with
  | [.str t] => t.length ≤ 1000 ∧ Q (.bl (nameL (tl t))) st
  | _ => False
@[simp] theorem e_lname {st : Sto} {Q : DK} {Z : DX → Sto → Prop} {t : Str} : sp_lname [.str t] st Q Z = (t.length ≤ 1000 ∧ Q (.bl (nameL (tl t))) st) := rfl
theorem asc_perm (M : List Str) : (TxS.asc M).Perm M := List.mergeSort_perm _ _
theorem le_ltS (a b : Str) : PySem.W.dataLe false PyData.str a b = !ltS b a := rfl
theorem ltS_irrefl (a : Str) : ltS a a = false := by rw [ltS_eq]; simp
theorem ltS_trans {a b c : Str} (h1 : ltS a b = true) (h2 : ltS b c = true) : ltS a c = true := by
  rw [ltS_eq] at *
  simp only [decide_eq_true_eq] at *
  exact List.lt_trans h1 h2
theorem ltS_tri {a b : Str} (h1 : ltS a b = false) (h2 : ltS b a = false) : a = b := by
  rw [ltS_eq] at *
  simp only [decide_eq_false_iff_not] at *
  exact str_eq.mpr (List.le_antisymm h2 h1)
theorem asc_sorted (M : List Str) : (TxS.asc M).Pairwise fun a b => ltS b a = false := by
  have := List.pairwise_mergeSort (le := PySem.W.dataLe false PyData.str) (fun a b c h1 h2 => by
      rw [le_ltS] at *
      cases h : ltS c a with
      | false => rfl
      | true =>
        exfalso
        have h1' : ltS b a = false := by simpa using h1
        have h2' : ltS c b = false := by simpa using h2
        cases hab : ltS a b with
        | false => rw [ltS_tri hab h1'] at h; rw [h] at h2'; cases h2'
        | true => rw [ltS_trans h hab] at h2'; cases h2')
    (fun a b => by
      rw [le_ltS, le_ltS]
      cases h : ltS b a with
      | false => rfl
      | true =>
        cases h2 : ltS a b with
        | false => rfl
        | true => have := ltS_trans h h2; rw [ltS_irrefl] at this; cases this) M
  refine this.imp fun h => ?_
  rw [le_ltS] at h
  simpa using h
def up (l : List Str) : Prop := l.Pairwise fun a b => ltS a b = true
theorem asc_up {M : List Str} (h : M.Nodup) : up (TxS.asc M) := by
  have h1 := asc_sorted M
  have h2 : (TxS.asc M).Nodup := (asc_perm M).nodup_iff.mpr h
  refine (h1.and h2).imp fun {a b} hab => ?_
  cases h : ltS a b with
  | true => rfl
  | false => exact absurd (ltS_tri h hab.1) hab.2
theorem namesF_iff : ∀ {l : List Str} {p : Str}, (∀ s ∈ l, nameS s = true) → (namesF p l = true ↔ (p :: l).Pairwise fun a b => ltS a b = true) := fun {l p} hs =>
  ⟨fun h => by
    induction l generalizing p with
    | nil => simp
    | cons s r ih =>
      simp only [namesF, Bool.and_eq_true] at h
      have h2 := ih (p := s) (fun z hz => hs z (List.mem_cons_of_mem _ hz)) h.2.2
      refine List.pairwise_cons.mpr ⟨fun z hz => ?_, h2⟩
      rcases List.mem_cons.mp hz with rfl | hz
      · exact h.2.1
      · exact ltS_trans h.2.1 ((List.pairwise_cons.mp h2).1 z hz), fun h => namesF_of hs h⟩
theorem namesF_up {l : List Str} (hs : ∀ s ∈ l, nameS s = true) : namesF "" l = true ↔ up l := by
  rw [namesF_iff hs]
  exact ⟨fun h => (List.pairwise_cons.mp h).2, fun h => List.pairwise_cons.mpr ⟨fun z hz => ltS_empty (hs z hz), h⟩⟩
end CM
namespace CM
open PySem L2 PySem.Spec DL
open PyProof.Rows hiding St
open TL (tl pre spl par numL joinL)
def sp_lrv : DSp := fun ds st Q _ => match ds with
  | [.str t] => t.length ≤ 1000 ∧ Q (encO (verText (tl t))) st
  | _ => False
@[simp] theorem e_lrv {st : Sto} {Q : DK} {Z : DX → Sto → Prop} {t : Str} : sp_lrv [.str t] st Q Z = (t.length ≤ 1000 ∧ Q (encO (verText (tl t))) st) := rfl
def sp_lrp : DSp := fun ds st Q _ => match ds with
  | [.str t] => t.length ≤ 1000 ∧ Q (encOR (partOf (tl t))) st
  | _ => False
@[simp] theorem e_lrp {st : Sto} {Q : DK} {Z : DX → Sto → Prop} {t : Str} : sp_lrp [.str t] st Q Z = (t.length ≤ 1000 ∧ Q (encOR (partOf (tl t))) st) := rfl
end CM
namespace CM
open PySem L2 PySem.Spec DL
open PyProof.Rows hiding St
open TL (tl pre spl par numL joinL)
def sp_lrr : DSp := fun ds st Q _ => match ds with
  | [.str t] => t.length ≤ 1000 ∧ (tl t).count 44 ≤ 6 ∧ (tl t).count 124 ≤ 2 ∧ Q (encOR (rangeL (tl t))) st
  | _ => False
@[simp] theorem e_lrr {st : Sto} {Q : DK} {Z : DX → Sto → Prop} {t : Str} : sp_lrr [.str t] st Q Z = (t.length ≤ 1000 ∧ (tl t).count 44 ≤ 6 ∧ (tl t).count 124 ≤ 2 ∧ Q (encOR (rangeL (tl t))) st) := rfl
end CM
namespace CM
open PySem L2 PySem.Spec DL
open PyProof.Rows hiding St
open TL (tl pre spl par numL joinL)
def wishLine (l : List Nat) : Option Wish := if pre wishP l = true then targetL (l.drop 5) else none
def lockLine (l : List Nat) : Option Lock := if pre lockP l = true then placeL (l.drop 5) else none
end CM
namespace CM
open PySem L2 PySem.Spec DL
open PyProof.Rows hiding St
open TL (tl pre spl par numL joinL)
def sp_lrk : DSp := fun ds st Q _ => match ds with
  | [.str t] => t.length ≤ 1000 ∧ Q (encOK (lockLine (tl t))) st
  | _ => False
@[simp] theorem e_lrk {st : Sto} {Q : DK} {Z : DX → Sto → Prop} {t : Str} : sp_lrk [.str t] st Q Z = (t.length ≤ 1000 ∧ Q (encOK (lockLine (tl t))) st) := rfl
def sp_lrw : DSp := fun ds st Q _ => match ds with
  | [.str t] => t.length ≤ 1000 ∧ (tl t).count 44 ≤ 6 ∧ (tl t).count 124 ≤ 2 ∧ Q (encOW (wishLine (tl t))) st
  | _ => False
@[simp] theorem e_lrw {st : Sto} {Q : DK} {Z : DX → Sto → Prop} {t : Str} : sp_lrw [.str t] st Q Z = (t.length ≤ 1000 ∧ (tl t).count 44 ≤ 6 ∧ (tl t).count 124 ≤ 2 ∧ Q (encOW (wishLine (tl t))) st) := rfl
end CM
namespace CM
open PySem L2 PySem.Spec DL
open PyProof.Rows hiding St
open TL (tl pre spl par numL joinL)
theorem sub2 {α : Type} {x y : α} {sub : List α} (h : List.Sublist sub [x, y]) : sub = [] ∨ sub = [x] ∨ sub = [y] ∨ sub = [x, y] := by
  cases h with
  | cons _ h => cases h with
    | cons _ h => cases h; simp
    | cons_cons _ h => cases h; simp
  | cons_cons _ h => cases h with
    | cons _ h => cases h; simp
    | cons_cons _ h => cases h; simp
end CM
namespace CM
open PySem L2 PySem.Spec DL
open PyProof.Rows hiding St
open PySem.W (AllAlike Sortable dataLe)
open TL (tl pre spl par numL joinL)
def lockKey (k : Lock) : PyData := pd (encLock k)
def sortL (ls : List Lock) : List Lock := ls.mergeSort (dataLe false lockKey)
theorem lockKey_eq (k : Lock) : lockKey k = .tuple [.str k.1, pd (encV k.2)] := by
  unfold lockKey encLock
  simp [pd, pds]
theorem lock_lt {a b : Lock} (h : a.1 ≠ b.1) : PySem.W.dataLt (lockKey a) (lockKey b) = ltS a.1 b.1 := by
  rw [lockKey_eq, lockKey_eq, PySem.W.dataLt_tuple]
  simp only [PySem.W.keyToksAll, PySem.W.keyToks, List.cons_append, List.nil_append]
  rw [lex_cons, lex_cons]
  have e0 : itemLt (.inl 1) (.inl 1) = false := by decide
  have e1 : ∀ x y : Str, itemLt (.inr x.cps.toList) (.inr y.cps.toList) = ltS x y := fun x y => by
    rw [ltS_eq, ← PySem.W.dataLt_str, PySem.W.dataLt_str]
    rfl
  show (itemLt (.inl 1) (.inl 1) || (!itemLt (.inl 1) (.inl 1) && (itemLt (.inr a.1.cps.toList) (.inr b.1.cps.toList) || (!itemLt (.inr b.1.cps.toList) (.inr a.1.cps.toList) && _)))) = _
  rw [e0, e1, e1]
  cases h1 : ltS a.1 b.1 with
  | true => simp
  | false =>
    cases h2 : ltS b.1 a.1 with
    | true => simp
    | false => exact absurd (ltS_tri h1 h2) h
theorem sortL_perm (ls : List Lock) : (sortL ls).Perm ls := List.mergeSort_perm _ _
theorem sortL_up {ls : List Lock} (h : (ls.map (·.1)).Nodup) : up ((sortL ls).map (·.1)) := by
  have t := PySem.W.sortLe_total (listOrd itemOrd) false fun k : Lock => PySem.W.keyToks (lockKey k)
  have h1 : (sortL ls).Pairwise fun a b => dataLe false lockKey a b = true := List.pairwise_mergeSort (fun a b c x y => t.trans a b c x y) (fun a b => by
    rcases t.total a b with x | x
    · exact Bool.or_eq_true_iff.mpr (.inl x)
    · exact Bool.or_eq_true_iff.mpr (.inr x)) ls
  have h2 : ((sortL ls).map (·.1)).Nodup := ((sortL_perm ls).map (·.1)).nodup_iff.mpr h
  have h3 : (sortL ls).Pairwise fun a b => a.1 ≠ b.1 := List.pairwise_map.mp h2
  unfold up
  refine List.pairwise_map.mpr ((h1.and h3).imp fun {a b} hab => ?_)
  have : PySem.W.dataLt (lockKey b) (lockKey a) = false := by
    have := hab.1
    have e : dataLe false lockKey a b = !PySem.W.dataLt (lockKey b) (lockKey a) := rfl
    rw [e] at this
    simpa using this
  rw [lock_lt (fun e => hab.2 e.symm)] at this
  cases hh : ltS a.1 b.1 with
  | true => rfl
  | false => exact absurd (ltS_tri hh this) hab.2
theorem sort_locks {ls : List Lock} {st : Sto} {Q : DK} {n : Nat} (hn : st[n]? = some (.lst (ls.map encLock))) (hnm : ∀ k ∈ ls, nameS k.1 = true) (q : Q (.loc st.length) (st ++ [.lst ((sortL ls).map encLock)])) : dSorted [.loc n] st Q := by
  refine ⟨ls.map encLock, 10, pd, by simp only [s_items_loc, hn], fun e he => ?_, fun d hd d' hd' => ?_, .inl fun d hd => ?_, fun e he => ?_, ?_⟩
  · obtain ⟨k, hk, rfl⟩ := List.mem_map.mp he
    refine pdF_pd st 10 _ ?_ ?_
    · have := pus_lock (ls := [k]) (fun z hz => by rw [List.mem_singleton.mp hz]; exact hnm k hk)
      simpa [pus] using this
    · simp [encLock, encV, dp, dps]
  · obtain ⟨e, he, rfl⟩ := List.mem_map.mp hd
    obtain ⟨e', he', rfl⟩ := List.mem_map.mp hd'
    obtain ⟨k, _, rfl⟩ := List.mem_map.mp he
    obtain ⟨k', _, rfl⟩ := List.mem_map.mp he'
    show PySem.W.alike (lockKey k) (lockKey k') = true
    rw [lockKey_eq, lockKey_eq]
    have := alike_encV k.2 k'.2
    simp [PySem.W.alike, PySem.W.alikeAll, this]
  · obtain ⟨e, he, rfl⟩ := List.mem_map.mp hd
    obtain ⟨k, _, rfl⟩ := List.mem_map.mp he
    exact ⟨_, _, lockKey_eq k⟩
  · obtain ⟨k, _, rfl⟩ := List.mem_map.mp he
    show (lockKey k).depth ≤ 60
    rw [lockKey_eq, pd_encV]
    simp [PyData.depth, PyData.depthAll, vI]
  · rw [DL.sort_map]
    exact q
/-- the names q.. -/
def qn (k : Nat) : Str := ("q" ++ (⟨#[97 + k / 6]⟩ : Str)) ++ (⟨#[97 + k % 6]⟩ : Str)
end CM
namespace CM
open PySem L2 PySem.Spec DL
open PyProof.Rows hiding St
def kvsJ (c : Nat) (a b d e : Int) : List (Key × D) := [(.inr "cells", .loc c), (.inr "at", .int a), (.inr "great", .int b), (.inr "seed", .int d), (.inr "turn", .int e)]
def handJ (c : Nat) (a b d e : Int) : Ob := .dK (kvsJ c a b d e)
section
variable {c : Nat} {a b d e x : Int}
theorem vj_cells : valD (kvsJ c a b d e) (.inr "cells") = some (.loc c) := rfl
theorem vj_at : valD (kvsJ c a b d e) (.inr "at") = some (.int a) := rfl
theorem vj_great : valD (kvsJ c a b d e) (.inr "great") = some (.int b) := rfl
theorem vj_seed : valD (kvsJ c a b d e) (.inr "seed") = some (.int d) := rfl
theorem vj_turn : valD (kvsJ c a b d e) (.inr "turn") = some (.int e) := rfl
theorem pj_at : putD (kvsJ c a b d e) (.inr "at") (.int x) = kvsJ c x b d e := rfl
theorem pj_great : putD (kvsJ c a b d e) (.inr "great") (.int x) = kvsJ c a x d e := rfl
theorem pj_seed : putD (kvsJ c a b d e) (.inr "seed") (.int x) = kvsJ c a b x e := rfl
theorem pj_turn : putD (kvsJ c a b d e) (.inr "turn") (.int x) = kvsJ c a b d x := rfl
theorem len_kvsJ : (kvsJ c a b d e).length = 5 := rfl
end
structure HdJ (st : Sto) (h c : Nat) : Prop where
  ex : ∃ (cells : List Int) (a b d e : Int), st[h]? = some (handJ c a b d e) ∧ st[c]? = some (.lst (cells.map .int)) ∧ 0 ≤ a
section
variable {st st' : Sto} {h c : Nat}
theorem HdJ.ne (H : HdJ st h c) : c ≠ h := by
  obtain ⟨cells, a, b, d, e, h1, h2, _⟩ := H.ex
  intro z
  rw [z, h1] at h2
  cases h2
theorem HdJ.hlt (H : HdJ st h c) : h < st.length := by
  obtain ⟨cells, a, b, d, e, h1, h2, _⟩ := H.ex
  exact (List.getElem?_eq_some_iff.mp h1).1
theorem HdJ.clt (H : HdJ st h c) : c < st.length := by
  obtain ⟨cells, a, b, d, e, h1, h2, _⟩ := H.ex
  exact (List.getElem?_eq_some_iff.mp h2).1
theorem HdJ.app (H : HdJ st h c) (g : Sto) : HdJ (st ++ g) h c := by
  obtain ⟨cells, a, b, d, e, h1, h2, h3⟩ := H.ex
  exact ⟨cells, a, b, d, e, gb h1, gb h2, h3⟩
end
structure GrJ (h c : Nat) (st st' : Sto) : Prop where
  len : st.length ≤ st'.length
  same : ∀ n, n < st.length → n ≠ h → st'[n]? = st[n]?
  hd : HdJ st' h c
  hd0 : HdJ st h c
theorem GrJ.hlt {h c : Nat} {st st' : Sto} (g : GrJ h c st st') : h < st.length := g.hd0.hlt
theorem GrJ.clt {h c : Nat} {st st' : Sto} (g : GrJ h c st st') : c < st.length := g.hd0.clt
theorem GrJ.refl {h c : Nat} {st : Sto} (H : HdJ st h c) : GrJ h c st st := ⟨Nat.le_refl _, fun _ _ _ => rfl, H, H⟩
theorem GrJ.trans {h c : Nat} {st st1 st2 : Sto} (a : GrJ h c st st1) (b : GrJ h c st1 st2) : GrJ h c st st2 :=
  ⟨Nat.le_trans a.len b.len, fun n hn hne => (b.same n (Nat.lt_of_lt_of_le hn a.len) hne).trans (a.same n hn hne), b.hd, a.hd0⟩
theorem GrJ.sm {h c : Nat} {st st1 st2 : Sto} (g : GrJ h c st st1) (s : Sm h st1 st2) (H : HdJ st2 h c) : GrJ h c st st2 :=
  ⟨by rw [s.len]; exact g.len, fun n hn hne => (s.same n hne).trans (g.same n hn hne), H, g.hd0⟩
theorem GrJ.app {h c : Nat} {st st1 : Sto} (g : GrJ h c st st1) (x : Sto) : GrJ h c st (st1 ++ x) :=
  ⟨by simp; have := g.len; omega, fun n hn hne => by rw [List.getElem?_append_left (by have := g.len; omega)]; exact g.same n hn hne, g.hd.app x, g.hd0⟩
theorem GrJ.get {h c n : Nat} {st st1 : Sto} {b : Ob} (g : GrJ h c st st1) (hb : st[n]? = some b) (hne : n ≠ h) : st1[n]? = some b := by
  rw [g.same n (List.getElem?_eq_some_iff.mp hb).1 hne]; exact hb
/-- a thing of one's own, behind what stood, is changed -/
theorem GrJ.set {h c n : Nat} {o : Ob} {st0 st : Sto} (g : GrJ h c st0 st) (hn : st0.length ≤ n) : GrJ h c st0 (st.set n o) := by
  have h1 := g.hlt
  have h2 := g.clt
  refine ⟨by simp; exact g.len, fun m hm hne => by rw [List.getElem?_set_ne (by omega)]; exact g.same m hm hne, ?_, g.hd0⟩
  obtain ⟨cells, a, b, d, e, q1, q2, q3⟩ := g.hd.ex
  exact ⟨cells, a, b, d, e, by rw [List.getElem?_set_ne (by omega)]; exact q1, by rw [List.getElem?_set_ne (by omega)]; exact q2, q3⟩
theorem below_handJ {n c : Nat} {a b d e : Int} (h : c < n) : Ob.below n (handJ c a b d e) = true := by
  simp [Ob.below, handJ, kvsJ, D.blws, D.blw, h]
theorem back_handJ {h c : Nat} {st st' : Sto} {Q : DK} {d : D} (g : GrJ h c st st') (hb : D.blw st.length d = true) (q : ∀ st1, HdJ st1 h c → Sm h st st1 → Q d st1) : DL.Back st Q d st' := by
  have hl := g.len
  have htl : (st'.take st.length).length = st.length := by simp; omega
  have hg : ∀ n, n < st.length → (st'.take st.length)[n]? = st'[n]? := fun n hn => by rw [List.getElem?_take]; simp [hn]
  have hs : Sm h st (st'.take st.length) := ⟨htl, fun n hne => by
    by_cases hn : n < st.length
    · rw [hg n hn, g.same n hn hne]
    · rw [List.getElem?_eq_none (by omega), List.getElem?_eq_none (by omega)]⟩
  obtain ⟨cells, a, b, d', e, h1, h2, h3⟩ := g.hd.ex
  have hH : HdJ (st'.take st.length) h c := ⟨cells, a, b, d', e, by rw [hg h g.hlt]; exact h1, by rw [hg c g.clt]; exact h2, h3⟩
  refine .inr ⟨st'.take st.length, st'.drop st.length, (List.take_append_drop _ _).symm, htl, fun x hx => ?_, .inl ⟨hb, q _ hH hs⟩⟩
  obtain ⟨n, hn⟩ := List.mem_iff_getElem?.mp hx
  have hlt : n < st.length := by
    have := (List.getElem?_eq_some_iff.mp hn).1
    omega
  by_cases hne : n = h
  · subst hne
    rw [hg n hlt, h1] at hn
    cases hn
    exact .inr (below_handJ g.clt)
  · rw [hs.same n hne] at hn
    exact .inl (List.mem_of_getElem? hn)
def sp_handJ : DSp := fun ds st Q _ => match ds with
  | [d] => ∃ ns : List Int, IsL st d ns ∧ ns.length ≤ 63 ∧ ∀ st' h c, (∃ g, st' = st ++ g) → HdJ st' h c → st.length ≤ h → st.length ≤ c → Q (.loc h) st'
  | _ => False
def sp_drawJ : DSp := fun ds st Q _ => match ds with
  | [.loc h, .int m] => ∃ c, HdJ st h c ∧ 0 < m ∧ m < 1000000000 ∧ ∀ r st', 0 ≤ r → r < m → HdJ st' h c → Sm h st st' → Q (.int r) st'
  | _ => False
def sp_anyJ : DSp := fun ds st Q _ => match ds with
  | [.loc h, .loc n] => ∃ c es, HdJ st h c ∧ st[n]? = some (.lst es) ∧ n ≠ h ∧ 0 < es.length ∧ es.length < 1000000000 ∧ ∀ e st', e ∈ es → HdJ st' h c → Sm h st st' → Q e st'
  | [.loc h, .str t] => ∃ c, HdJ st h c ∧ 0 < t.length ∧ t.length < 1000000 ∧ ∀ x st', x ∈ t.cps.toList → HdJ st' h c → Sm h st st' → Q (.str ⟨#[x]⟩) st'
  | _ => False
theorem e_drawJ {st : Sto} {Q : DK} {Z : DX → Sto → Prop} {h : Nat} {m : Int} : sp_drawJ [.loc h, .int m] st Q Z = ∃ c, HdJ st h c ∧ 0 < m ∧ m < 1000000000 ∧ ∀ r st', 0 ≤ r → r < m → HdJ st' h c → Sm h st st' → Q (.int r) st' := rfl
theorem e_anyLJ {st : Sto} {Q : DK} {Z : DX → Sto → Prop} {h n : Nat} : sp_anyJ [.loc h, .loc n] st Q Z = ∃ c es, HdJ st h c ∧ st[n]? = some (.lst es) ∧ n ≠ h ∧ 0 < es.length ∧ es.length < 1000000000 ∧ ∀ e st', e ∈ es → HdJ st' h c → Sm h st st' → Q e st' := rfl
theorem GrJ.of {h c : Nat} {st st' : Sto} (H : HdJ st h c) (H' : HdJ st' h c) (s : Sm h st st') : GrJ h c st st' := (GrJ.refl H).sm s H'
/-- one of a written list -/
theorem any_evJ {h c : Nat} {ρ : Env'} {st : Sto} {Q : DK} {Z : DZ} {t : DTA} {es : List D} (h0 : ρ[0]? = some (some (.loc h))) (H : HdJ st h c) (ht : ∀ (QA : List D → Sto → Prop) Z, QA es st → t ρ st QA Z) (hne : es ≠ []) (hl : es.length < 1000)
    (q : ∀ e st', e ∈ es → GrJ h c st st' → Q e st') : dCall 2 sp_anyJ (dCons (dVar 0) (dCons (dLst t) dNil)) ρ st Q Z := by
  have hlt := H.hlt
  rw [s_call, s_cons]
  refine var_ev h0 ?_
  rw [s_cons, s_dlst]
  refine ht _ _ ⟨szk _ hl, ?_⟩
  rw [s_nil, e_anyLJ]
  refine ⟨rfl, c, es, H.app _, getElem?_push, by omega, List.length_pos_iff.mpr hne, by omega, fun e st' he H' s => q e st' he ?_⟩
  exact ((GrJ.refl H).app _).sm s H'
theorem k_evJ {h : Nat} {x : Str} {c : Nat} {a b d e : Int} {v : D} {ρ : Env'} {st : Sto} {Q : DK} {Z : DZ} (h0 : ρ[0]? = some (some (.loc h))) (hk : st[h]? = some (handJ c a b d e)) (hv : valD (kvsJ c a b d e) (.inr x) = some v) (q : Q v st) : dDGet (dVar 0) (dC (.str x)) ρ st Q Z := by
  unfold dDGet
  rw [s_var, h0]
  show dC (.str x) ρ st _ _
  rw [s_c]
  exact ⟨h, _, _, _, rfl, hk, rfl, hv, q⟩
theorem ks_evJ {h : Nat} {x : Str} {y : D} {kvs : List (Key × D)} {c : Nat} {a b d e : Int} {ρ : Env'} {st : Sto} {Qn : Env' → Sto → Prop} (h0 : ρ[0]? = some (some (.loc h))) (hk : st[h]? = some (handJ c a b d e)) (hv : putD (kvsJ c a b d e) (.inr x) y = kvs) (q : Qn ρ (st.set h (.dK kvs))) : gSub' (dVar 0) (dC (.str x)) dSetK y ρ st Qn := by
  rw [s_gSub, s_var, h0]
  show dC (.str x) ρ st _ _
  rw [s_c, s_setK]
  exact ⟨_, _, hk, rfl, by rw [len_kvsJ]; decide, by rw [hv]; exact q⟩
end CM
namespace CM
open PySem L2 PySem.Spec DL
open PyProof.Rows hiding St
theorem r__law_draw_k65 : Rd 2 sp_drawJ RD.t__law_draw_k65 RD.N__law_draw_k65 := by
  intro ds st Q Z hl h
  match ds, hl, h with
  | [.loc h, .int m], _, hx =>
    obtain ⟨c, H, hm, hm2, q⟩ := hx
    have hlt := H.hlt
    have hne := H.ne
    obtain ⟨cells, a, b, d, e, h1, h2, h3⟩ := H.ex
    unfold RD.t__law_draw_k65
    have gs : ∀ x, (st.set h x)[h]? = some x := fun x => by rw [List.getElem?_set_self hlt]
    have gc : ∀ x, (st.set h x)[c]? = some (.lst (cells.map .int)) := fun x => by rw [List.getElem?_set_ne (Ne.symm hne)]; exact h2
    have ss : ∀ x y, (st.set h x).set h y = st.set h y := fun x y => List.set_set ..
    have hd : ∀ a b d e : Int, 0 ≤ a → HdJ (st.set h (handJ c a b d e)) h c := fun a b d e ha => ⟨cells, a, b, d, e, gs _, gc _, ha⟩
    have fin : ∀ (r a b d e : Int), 0 ≤ r → r < m → 0 ≤ a → DL.Back st Q (.int r) (st.set h (handJ c a b d e)) := fun r a b d e h1 h2 h3 => .inl (q r _ h1 h2 (hd a b d e h3) Sm.set)
    have keep : st.set h (handJ c a b d e) = st := by
      refine List.ext_getElem? fun n => ?_
      by_cases hn : n = h
      · subst hn; rw [gs]; exact h1.symm
      · rw [List.getElem?_set_ne (Ne.symm hn)]
    rw [s_seq]
    generalize hR : dSeq (dIfS (dTest (dOp dGt (dDGet (dVar 0) (dC (.str "great"))) (dC (.int 0)))) _ _) _ _ = R
    have tail : ∀ (a b d e : Int) (y2 : Option D), 0 ≤ a → R [some (.loc h), some (.int m), y2, none, none] (st.set h (handJ c a b d e)) := by
      intro a b d e y2 ha
      subst hR
      rw [s_seq]
      generalize hR : dSeq _ _ _ = R
      rw [s_ifS, s_test, s_op]
      refine k_evJ rfl (gs _) vj_great ?_
      rw [s_c]
      show dOrd _ _ (.int b) (.int 0) _ _
      rw [s_ord_int]
      by_cases hb : 0 < b
      · dsimp only
        rw [if_pos (by simpa using hb), s_seq, s_asg, s_op, s_cb, s_cons]
        refine k_evJ rfl (gs _) vj_great ?_
        rw [s_nil, s_int, s_var]
        show dMod (.int b) (.int m) _ _
        rw [s_mod]
        refine ⟨hm, ?_⟩
        rw [s_gN]
        dsimp only
        show dSeq _ _ _ [some (.loc h), some (.int m), y2, some (.int (b % m)), none] _
        rw [s_seq, s_asg, s_op]
        refine k_evJ rfl (gs _) vj_great ?_
        rw [s_var]
        show dDiv (.int b) (.int m) _ _
        rw [s_div]
        refine ⟨⟨hm, by omega⟩, ?_⟩
        refine ks_evJ rfl (gs _) pj_great ?_
        rw [ss]
        dsimp only
        show dRet _ _ _ _
        rw [s_ret, s_var]
        obtain ⟨m1, m2⟩ := mod_in (x := b) hm
        exact fin _ a (b / m) d e m1 m2 ha
      · dsimp only
        rw [if_neg (by simpa using hb), s_next]
        dsimp only
        subst hR
        rw [s_seq]
        generalize hR : dSeq _ _ _ = R
        rw [s_asg, s_op]
        refine k_evJ rfl (gs _) vj_turn ?_
        rw [s_c, s_add_int]
        refine ks_evJ rfl (gs _) pj_turn ?_
        rw [ss]
        dsimp only
        show R _ (st.set h (handJ c a b d (e + 1)))
        subst hR
        rw [s_seq]
        generalize hR : dSeq _ _ _ = R
        rw [s_asg, s_op, s_cb, s_cons, s_op, s_cb, s_cons, s_op, s_op]
        refine k_evJ rfl (gs _) vj_seed ?_
        rw [s_c, s_add_int, s_op, s_c]
        refine k_evJ rfl (gs _) vj_turn ?_
        rw [s_mul]
        refine ⟨big_mul2 ⟨by decide, by decide⟩, ?_⟩
        rw [s_add_int, s_nil, s_int, s_c, s_mul]
        refine ⟨big_mul1 ⟨by decide, by decide⟩, ?_⟩
        rw [s_nil, s_int, s_c, s_mod]
        refine ⟨by decide, ?_⟩
        generalize hx : (d + 1 + 7919 * (e + 1)) * 69621 % 2147483647 = x
        have hx1 := mod_in (x := (d + 1 + 7919 * (e + 1)) * 69621) (m := 2147483647) (by decide)
        rw [hx] at hx1
        rw [s_gN]
        dsimp only
        show R [some (.loc h), some (.int m), y2, none, some (.int x)] _
        subst hR
        rw [s_seq]
        generalize hR : dSeq _ _ _ = R
        rw [s_asg, s_op, s_cb, s_cons, s_op, s_var]
        show dOp _ _ _ _ _ _ _
        rw [s_op, s_op, s_var]
        show dC _ _ _ _ _
        rw [s_c, s_div]
        refine ⟨⟨by decide, by decide⟩, ?_⟩
        rw [s_c, s_add_int, s_mul]
        refine ⟨big_mul2 ⟨by omega, by omega⟩, ?_⟩
        rw [s_nil, s_int, s_c, s_mod]
        refine ⟨by decide, ?_⟩
        generalize hy : x * (x / 1009 + 48271) % 2147483647 = y
        have hy1 := mod_in (x := x * (x / 1009 + 48271)) (m := 2147483647) (by decide)
        rw [hy] at hy1
        rw [s_gN]
        dsimp only
        show R [some (.loc h), some (.int m), y2, none, some (.int y)] _
        subst hR
        rw [s_seq]
        generalize hR : dRet _ _ = R
        rw [s_asg, s_op, s_cb, s_cons, s_op, s_var]
        show dOp _ _ _ _ _ _ _
        rw [s_op, s_op, s_var]
        show dC _ _ _ _ _
        rw [s_c, s_div]
        refine ⟨⟨by decide, by decide⟩, ?_⟩
        rw [s_c, s_add_int, s_mul]
        refine ⟨big_mul2 ⟨by omega, by omega⟩, ?_⟩
        rw [s_nil, s_int, s_c, s_mod]
        refine ⟨by decide, ?_⟩
        generalize hz : y * (y / 2003 + 40692) % 2147483399 = z
        rw [s_gN]
        dsimp only
        show R [some (.loc h), some (.int m), y2, none, some (.int z)] _
        subst hR
        rw [s_ret, s_op, s_cb, s_cons, s_op, s_var]
        show dC _ _ _ _ _
        rw [s_c, s_div]
        refine ⟨⟨by decide, by decide⟩, ?_⟩
        rw [s_nil, s_int, s_var]
        show dMod (.int (z / 16)) (.int m) _ _
        rw [s_mod]
        refine ⟨hm, ?_⟩
        obtain ⟨m1, m2⟩ := mod_in (x := z / 16) hm
        exact fin _ a b d (e + 1) m1 m2 ha
    have t0 := tail a b d e none h3
    rw [keep] at t0
    rw [s_ifS, s_and, s_test, s_op]
    refine k_evJ rfl h1 vj_great ?_
    rw [s_c]
    show dEqB id (.int b) (.int 0) _ _
    rw [s_eq_int]
    by_cases hb : b = 0
    · dsimp only
      rw [if_pos (by simpa using hb), s_test, s_op]
      refine k_evJ rfl h1 vj_at ?_
      rw [s_cb, s_cons]
      refine k_evJ rfl h1 vj_cells ?_
      rw [s_nil, s_len_loc, h2]
      dsimp only
      show dOrd _ _ (.int a) (.int ((cells.map D.int).length : Int)) _ _
      rw [s_ord_int, List.length_map]
      by_cases ha : a < cells.length
      · have hcell : (cells.map D.int)[a.toNat]? = some (.int (cells[a.toNat]'(by omega))) := by
          rw [List.getElem?_map, List.getElem?_eq_getElem (by omega)]
          rfl
        have hat : atI (cells.map D.int) a = some (.int (cells[a.toNat]'(by omega))) := by
          have := atI_nat hcell
          rwa [Int.toNat_of_nonneg h3] at this
        generalize cells[a.toNat]'(by omega) = cell at hat
        dsimp only
        rw [if_pos (by simpa using ha), s_seq, s_asg, s_op]
        refine k_evJ rfl h1 vj_cells ?_
        refine k_evJ rfl h1 vj_at ?_
        rw [s_ix_loc]
        refine ⟨_, _, h2, hat, ?_⟩
        rw [s_gN]
        dsimp only
        show dSeq _ _ _ [some (.loc h), some (.int m), some (.int cell), none, none] _
        rw [s_seq, s_asg, s_op]
        refine k_evJ rfl h1 vj_at ?_
        rw [s_c, s_add_int]
        refine ks_evJ rfl h1 pj_at ?_
        dsimp only
        show dSeq _ _ _ _ (st.set h (handJ c (a + 1) b d e))
        rw [s_seq, s_asg, s_op, s_cb, s_cons, s_op, s_op, s_op]
        refine k_evJ rfl (gs _) vj_seed ?_
        rw [s_c, s_mul]
        refine ⟨big_mul1 ⟨by decide, by decide⟩, ?_⟩
        rw [s_var]
        show dAdd (.int (d * 48271)) (.int cell) _ _
        rw [s_add_int, s_c, s_add_int, s_nil, s_int, s_c, s_mod]
        refine ⟨by decide, ?_⟩
        refine ks_evJ rfl (gs _) pj_seed ?_
        rw [ss]
        dsimp only
        show dIfS _ _ _ _ _ (st.set h (handJ c (a + 1) b ((d * 48271 + cell + 7) % 2147483629) e))
        rw [s_ifS, s_test, s_op, s_var]
        show dOp _ _ _ _ _ _ _
        rw [s_op, s_c, s_c, s_pow]
        refine ⟨⟨by decide, by decide, by decide⟩, ?_⟩
        show dOrd _ _ (.int cell) (.int _) _ _
        rw [s_ord_int]
        dsimp only
        split
        · rw [s_asg, s_var]
          show gSub' _ _ _ (.int cell) _ _ _
          refine ks_evJ rfl (gs _) pj_great ?_
          rw [ss]
          exact tail _ _ _ _ _ (by omega)
        · rw [s_next]
          exact tail _ _ _ _ _ (by omega)
      · dsimp only
        rw [if_neg (by simpa using ha), s_next]
        exact t0
    · dsimp only
      rw [if_neg (by simpa using hb), if_neg (by decide), s_next]
      exact t0
theorem r__law_anyJ : Rd 2 sp_anyJ (RD.t__law_any sp_drawJ) RD.N__law_any := by
  intro ds st Q Z hl h
  match ds, hl, h with
  | [.loc h, .loc n], _, hx =>
    obtain ⟨c, es, H, hn, hne, hpos, hbig, q⟩ := hx
    unfold RD.t__law_any
    rw [s_ret, s_op, s_var]
    show dCall _ _ _ _ _ _ _
    rw [s_call, s_cons, s_var]
    show dCons _ _ _ _ _ _
    rw [s_cons, s_cb, s_cons, s_var]
    show dNil _ _ _ _
    rw [s_nil, s_len_loc, hn]
    dsimp only
    rw [s_nil, e_drawJ]
    refine ⟨rfl, c, H, by omega, by omega, fun r st' h0 h1 H' s => ?_⟩
    obtain ⟨e, he, ha⟩ := at_mem h0 h1
    rw [s_ix_loc]
    exact ⟨es, e, by rw [s.same n hne]; exact hn, ha, .inl (q e st' he H' s)⟩
  | [.loc h, .str t], _, hx =>
    obtain ⟨c, H, hpos, hbig, q⟩ := hx
    have hz : t.length ≤ sizeLine := sz_big (by omega)
    unfold RD.t__law_any
    rw [s_ret, s_op, s_var]
    show dCall _ _ _ _ _ _ _
    rw [s_call, s_cons, s_var]
    show dCons _ _ _ _ _ _
    rw [s_cons, s_cb, s_cons, s_var]
    show dNil _ _ _ _
    rw [s_nil, s_len_str]
    refine ⟨hz, ?_⟩
    rw [s_nil, e_drawJ]
    refine ⟨rfl, c, H, by omega, by omega, fun r st' h0 h1 H' s => ?_⟩
    rw [s_ix_str]
    have hr : r.toNat < t.cps.toList.length := by
      have : t.cps.toList.length = t.length := rfl
      omega
    have ha := atI_nat (List.getElem?_eq_getElem hr)
    rw [Int.toNat_of_nonneg h0] at ha
    exact ⟨_, hz, ha, .inl (q _ st' (List.getElem_mem hr) H' s)⟩
theorem r__law_hand_k65 : Rd 1 sp_handJ RD.t__law_hand_k65 RD.N__law_hand_k65 := by
  intro ds st Q Z hl h
  match ds, hl, h with
  | [d], _, hx =>
    obtain ⟨ns, hd, hl, q⟩ := hx
    unfold RD.t__law_hand_k65
    have go : ∀ (g : Sto) (G : Sto → Prop), G (st ++ g) → runC (gN 2) dYes RD.e__law_hand_k65_1 (wipeD [some d, none, none] [2]) (fun x st1 => gN 1 x [some d, none, none] st1 fun ρ st2 => dRet (dDisp [((dC (.str "cells")), (dVar 1)), ((dC (.str "at")), (dC (.int 0))), ((dC (.str "great")), (dC (.int 0))), ((dC (.str "seed")), (dOp dAdd (dC (.int 977)) (dCB dLen (dCons (dVar 1) dNil)))), ((dC (.str "turn")), (dC (.int 0)))]) { nx := fun _ st1 => DL.Back st Q .non st1, rt := DL.Back st Q, xs := fun x _ st1 => BackX st Z x st1 } ρ st2) G (ns.map .int) [] (st ++ g) := by
      intro g G hG
      refine runC_pure (out := fun i => .int (if i < 0 then -i else i)) (inj := D.int) hG (fun x QT hq => ?_) ns [] (by simp; omega) ?_
      · unfold RD.e__law_hand_k65_1
        simp
        exact hq
      · rw [s_gN, s_ret]
        generalize hcs : ns.map (fun i : Int => if i < 0 then -i else i) = cs
        have e0 : ([] : List D) ++ ns.map (fun i : Int => D.int (if i < 0 then -i else i)) = cs.map .int := by rw [← hcs]; simp
        rw [e0]
        generalize hn : (st ++ g).length = n
        have hnl : st.length ≤ n := by rw [← hn]; simp
        have hl2 : ∀ x : Sto, (st ++ g ++ [Ob.lst (cs.map D.int)] ++ x)[n]? = some (.lst (cs.map .int)) := fun x => gb (by rw [← hn]; exact getElem?_push)
        have hl1 : (st ++ g ++ [Ob.lst (cs.map D.int)]).length = n + 1 := by rw [List.length_append, hn]; rfl
        generalize hst1 : st ++ g ++ [Ob.lst (cs.map D.int)] = st1 at hl1 hl2 ⊢
        show dDisp _ [some d, some (.loc n), none] st1 _ _
        unfold dDisp
        rw [hl1]
        unfold dPairs
        rw [s_c, s_var]
        show dPairs _ _ _ _ _
        unfold dPairs
        rw [s_c, s_c]
        unfold dPairs
        rw [s_c, s_c]
        unfold dPairs
        rw [s_c, s_op, s_c, s_cb, s_cons, s_var]
        show dNil _ _ _ _
        rw [s_nil, s_len_loc, hl2]
        dsimp only
        rw [s_add_int]
        unfold dPairs
        rw [s_c, s_c]
        unfold dPairs
        generalize (977 : Int) + ((cs.map D.int).length : Int) = sd
        refine ⟨by rw [← hl1]; exact getElem?_push, kvsJ n 0 0 sd 0, rfl, by rw [len_kvsJ]; decide, ?_⟩
        have em : mergeD [] (kvsJ n 0 0 sd 0) = kvsJ n 0 0 sd 0 := rfl
        rw [em]
        have es : (st1 ++ [Ob.dK []]).set (n + 1) (.dK (kvsJ n 0 0 sd 0)) = st1 ++ [handJ n 0 0 sd 0] := by
          rw [List.set_append_right _ _ (by omega), hl1]
          simp [handJ]
        rw [es]
        refine .inl (q _ _ n ⟨g ++ [Ob.lst (cs.map D.int), handJ n 0 0 sd 0], by rw [← hst1]; simp⟩ ⟨⟨cs, 0, 0, _, 0, by rw [← hl1]; exact getElem?_push, hl2 _, by decide⟩⟩ (by omega) hnl)
    rcases hd with rfl | ⟨m, rfl, hm⟩
    · rw [s_seq, s_asg, s_lc, s_iD, s_sl, s_var]
      show dNoPart _ _ _ _
      rw [s_noPart, s_part, s_c]
      dsimp only
      rw [s_slv_fls, cut63 hl, s_walk_loc]
      exact ⟨_, getElem?_push, go _ _ getElem?_push⟩
    · rw [s_seq, s_asg, s_lc, s_iD, s_sl, s_var]
      show dNoPart _ _ _ _
      rw [s_noPart, s_part, s_c]
      dsimp only
      rw [s_slv_loc]
      refine ⟨_, hm, ?_⟩
      rw [cut63 hl, s_walk_loc]
      exact ⟨_, getElem?_push, go _ _ getElem?_push⟩
end CM
namespace CM
open PySem L2 PySem.Spec DL
open PyProof.Rows hiding St
def kvsK (c : Nat) (a b d e : Int) : List (Key × D) := [(.inr "cells", .loc c), (.inr "at", .int a), (.inr "left", .int b), (.inr "seed", .int d), (.inr "turn", .int e)]
def handK (c : Nat) (a b d e : Int) : Ob := .dK (kvsK c a b d e)
structure HdK (st : Sto) (h c : Nat) : Prop where
  ex : ∃ (cells : List Int) (a b d e : Int), st[h]? = some (handK c a b d e) ∧ st[c]? = some (.lst (cells.map .int)) ∧ 0 ≤ a
section
variable {st st' : Sto} {h c : Nat}
theorem HdK.ne (H : HdK st h c) : c ≠ h := by
  obtain ⟨cells, a, b, d, e, h1, h2, _⟩ := H.ex
  intro z
  rw [z, h1] at h2
  cases h2
theorem HdK.hlt (H : HdK st h c) : h < st.length := by
  obtain ⟨cells, a, b, d, e, h1, h2, _⟩ := H.ex
  exact (List.getElem?_eq_some_iff.mp h1).1
theorem HdK.clt (H : HdK st h c) : c < st.length := by
  obtain ⟨cells, a, b, d, e, h1, h2, _⟩ := H.ex
  exact (List.getElem?_eq_some_iff.mp h2).1
theorem HdK.app (H : HdK st h c) (g : Sto) : HdK (st ++ g) h c := by
  obtain ⟨cells, a, b, d, e, h1, h2, h3⟩ := H.ex
  exact ⟨cells, a, b, d, e, gb h1, gb h2, h3⟩
end
structure GrK (h c : Nat) (st st' : Sto) : Prop where
  len : st.length ≤ st'.length
  same : ∀ n, n < st.length → n ≠ h → st'[n]? = st[n]?
  hd : HdK st' h c
  hd0 : HdK st h c
theorem GrK.hlt {h c : Nat} {st st' : Sto} (g : GrK h c st st') : h < st.length := g.hd0.hlt
theorem GrK.clt {h c : Nat} {st st' : Sto} (g : GrK h c st st') : c < st.length := g.hd0.clt
theorem GrK.refl {h c : Nat} {st : Sto} (H : HdK st h c) : GrK h c st st := ⟨Nat.le_refl _, fun _ _ _ => rfl, H, H⟩
theorem GrK.trans {h c : Nat} {st st1 st2 : Sto} (a : GrK h c st st1) (b : GrK h c st1 st2) : GrK h c st st2 :=
  ⟨Nat.le_trans a.len b.len, fun n hn hne => (b.same n (Nat.lt_of_lt_of_le hn a.len) hne).trans (a.same n hn hne), b.hd, a.hd0⟩
theorem GrK.sm {h c : Nat} {st st1 st2 : Sto} (g : GrK h c st st1) (s : Sm h st1 st2) (H : HdK st2 h c) : GrK h c st st2 :=
  ⟨by rw [s.len]; exact g.len, fun n hn hne => (s.same n hne).trans (g.same n hn hne), H, g.hd0⟩
theorem GrK.app {h c : Nat} {st st1 : Sto} (g : GrK h c st st1) (x : Sto) : GrK h c st (st1 ++ x) :=
  ⟨by simp; have := g.len; omega, fun n hn hne => by rw [List.getElem?_append_left (by have := g.len; omega)]; exact g.same n hn hne, g.hd.app x, g.hd0⟩
theorem GrK.get {h c n : Nat} {st st1 : Sto} {b : Ob} (g : GrK h c st st1) (hb : st[n]? = some b) (hne : n ≠ h) : st1[n]? = some b := by
  rw [g.same n (List.getElem?_eq_some_iff.mp hb).1 hne]; exact hb
/-- a thing of one's own, behind what stood, is changed -/
theorem GrK.set {h c n : Nat} {o : Ob} {st0 st : Sto} (g : GrK h c st0 st) (hn : st0.length ≤ n) : GrK h c st0 (st.set n o) := by
  have h1 := g.hlt
  have h2 := g.clt
  refine ⟨by simp; exact g.len, fun m hm hne => by rw [List.getElem?_set_ne (by omega)]; exact g.same m hm hne, ?_, g.hd0⟩
  obtain ⟨cells, a, b, d, e, q1, q2, q3⟩ := g.hd.ex
  exact ⟨cells, a, b, d, e, by rw [List.getElem?_set_ne (by omega)]; exact q1, by rw [List.getElem?_set_ne (by omega)]; exact q2, q3⟩
end CM
namespace CM
open PySem L2 PySem.Spec DL
open PyProof.Rows hiding St
open TL (tl pre spl par numL joinL)
abbrev Trp := Str × Nat × List Str
def TrpV (t : Trp) : Prop := nameS t.1 = true ∧ okV t.2.1 ∧ namesF "" t.2.2 = true
def InstS (l : List Trp) : Prop := l.length ≤ 100 ∧ ∀ t ∈ l, TrpV t ∧ t.2.2.length ≤ 60
end CM
namespace CM
open PySem L2 PySem.Spec DL
open PyProof.Rows hiding St
open TL (tl pre spl par numL joinL)
def nmT (t : Trp) : Str := t.1
end CM
namespace CM
open PySem L2 PySem.Spec DL
open PyProof.Rows hiding St
open TL (tl pre spl par numL joinL)
theorem GrK.of {h c : Nat} {st st' : Sto} (H : HdK st h c) (H' : HdK st' h c) (s : Sm h st st') : GrK h c st st' := (GrK.refl H).sm s H'
theorem letters_at {r : Int} (h0 : 0 ≤ r) (h1 : r < 26) : ∃ c, atI ("abcdefghijklmnopqrstuvwxyz" : Str).cps.toList r = some c ∧ 97 ≤ c ∧ c ≤ 122 := by
  obtain ⟨n, rfl⟩ : ∃ n : Nat, r = n := ⟨r.toNat, by omega⟩
  have hl : n < ("abcdefghijklmnopqrstuvwxyz" : Str).cps.toList.length := by
    have : ("abcdefghijklmnopqrstuvwxyz" : Str).cps.toList.length = 26 := by decide
    omega
  refine ⟨_, atI_nat (List.getElem?_eq_getElem hl), ?_⟩
  have := low_mem (("abcdefghijklmnopqrstuvwxyz" : Str).cps.toList[n])
  rw [decide_eq_true (List.getElem_mem hl)] at this
  simpa using this.symm
end CM
namespace CM
open PySem L2 PySem.Spec DL
open PyProof.Rows hiding St
open TL (tl pre spl par numL joinL)
def sp_lname65 : DSp := fun ds st Q _ => match ds with
  | [.int n] => 0 ≤ n ∧ n < 676 ∧ ∀ s, nameS s = true → Q (.str s) st
  | _ => False
theorem two_low {a b : Nat} (h1 : 97 ≤ a) (h2 : a ≤ 122) (h3 : 97 ≤ b) (h4 : b ≤ 122) : nameS ((⟨#[a]⟩ : Str) ++ ⟨#[b]⟩) = true := by
  rw [nameS_eq, TL.tl_append]
  show nameL ([a] ++ [b]) = true
  simp [nameL, h1, h2, h3, h4]
theorem r__law_name_k65 : Rd 1 sp_lname65 RD.t__law_name_k65 RD.N__law_name_k65 := by
  intro ds st Q Z hl h
  match ds, hl, h with
  | [.int n], _, ⟨h0, h1, q⟩ =>
    unfold RD.t__law_name_k65
    rw [s_seq, s_asg, s_c, s_gN]
    dsimp only
    show dRet _ _ [some (.int n), some (.str "abcdefghijklmnopqrstuvwxyz")] st
    obtain ⟨c1, e1, l1, u1⟩ := letters_at (r := n / 26) (by omega) (by omega)
    obtain ⟨c2, e2, l2, u2⟩ := letters_at (r := n % 26) (by omega) (by omega)
    rw [s_ret, s_op, s_op]
    refine var_ev (d := .str "abcdefghijklmnopqrstuvwxyz") rfl ?_
    rw [s_op]
    refine var_ev (d := .int n) rfl ?_
    rw [s_c, s_div]
    refine ⟨⟨by decide, by decide⟩, ?_⟩
    rw [s_ix_str]
    refine ⟨c1, sz_big (by decide), e1, ?_⟩
    rw [s_op]
    refine var_ev (d := .str "abcdefghijklmnopqrstuvwxyz") rfl ?_
    rw [s_op, s_cb, s_cons]
    refine var_ev (d := .int n) rfl ?_
    rw [s_nil, s_int, s_c, s_mod]
    refine ⟨by decide, ?_⟩
    rw [s_ix_str]
    refine ⟨c2, sz_big (by decide), e2, ?_⟩
    rw [s_add_str]
    exact ⟨sz_big (by show 1 + 1 < _; decide), .inl (q _ (two_low l1 u1 l2 u2))⟩
theorem rng_lits : ∀ e ∈ ([.tup [.tup [.tup [.int 0, .int 0, .int 0], .non]], .tup [.tup [.tup [.int 1, .int 0, .int 0], .tup [.int 2, .int 0, .int 0]]], .tup []] : List D), ∃ r, e = encR r ∧ wf r := by
  intro e he
  simp only [List.mem_cons, List.not_mem_nil, or_false] at he
  rcases he with rfl | rfl | rfl
  · exact ⟨[(mkV 0 0 0, none)], by simp [encR, encP, encO, encV, vA, vB, vC, mkV], (small_none (sm3 (by decide) (by decide) (by decide))).1⟩
  · exact ⟨[(mkV 1 0 0, some (mkV 2 0 0))], by simp [encR, encP, encO, encV, vA, vB, vC, mkV], (small_some (sm3 (by decide) (by decide) (by decide)) (sm3 (by decide) (by decide) (by decide)) (by decide)).1⟩
  · exact ⟨[], rfl, trivial⟩
theorem rng3 : ∃ r, (D.tup [.tup [.tup [.int 3, .int 0, .int 0], .non]]) = encR r ∧ wf r :=
  ⟨[(mkV 3 0 0, none)], by simp [encR, encP, encO, encV, vA, vB, vC, mkV], (small_none (sm3 (by decide) (by decide) (by decide))).1⟩
theorem want_lits : ∀ e ∈ ([.tup [], .tup [], .tup [.str "f"], .tup [.str "f", .str "g"]] : List D), ∃ l : List Str, e = encL l ∧ lotOk l = true ∧ ∀ s ∈ l, s.length ≤ 1000 := by
  intro e he
  simp only [List.mem_cons, List.not_mem_nil, or_false] at he
  rcases he with rfl | rfl | rfl | rfl
  · exact ⟨[], rfl, by decide +kernel, by simp⟩
  · exact ⟨[], rfl, by decide +kernel, by simp⟩
  · exact ⟨["f"], rfl, by decide +kernel, by simp; decide⟩
  · exact ⟨["f", "g"], rfl, by decide +kernel, by simp; decide⟩
/-- names that a list holds -/
structure NmL (st : Sto) (h n : Nat) (es : List Str) : Prop where
  at' : st[n]? = some (.lst (es.map .str))
  ne : n ≠ h
  pos : es ≠ []
  big : es.length < 1000
  ok : ∀ s ∈ es, nameS s = true
theorem NmL.gr {h c n : Nat} {es : List Str} {st st' : Sto} (N : NmL st h n es) (g : GrJ h c st st') : NmL st' h n es := ⟨g.get N.at' N.ne, N.ne, N.pos, N.big, N.ok⟩
theorem blw_encWish (n : Nat) (w : Wish) : D.blw n (encWish w) = true := by
  simp only [encWish, D.blw, D.blws, blw_encR, blw_encL, Bool.and_true]
theorem blws_encWish (n : Nat) : ∀ ws : List Wish, D.blws n (ws.map encWish) = true
  | [] => rfl
  | w :: ws => by simp [D.blws, blw_encWish, blws_encWish n ws]
def sp_lwish65 : DSp := fun ds st Q _ => match ds with
  | [.loc h, .loc n] => ∃ c es, HdJ st h c ∧ NmL st h n es ∧ ∀ w st', WishV w → HdJ st' h c → Sm h st st' → Q (encWish w) st'
  | _ => False
theorem anyN_ev {h c n i : Nat} {es : List Str} {ρ : Env'} {st : Sto} {Q : DK} {Z : DZ} (h0 : ρ[0]? = some (some (.loc h))) (hi : ρ[i]? = some (some (.loc n))) (H : HdJ st h c) (N : NmL st h n es)
    (q : ∀ s st', nameS s = true → GrJ h c st st' → Q (.str s) st') : dCall 2 sp_anyJ (dCons (dVar 0) (dCons (dVar i) dNil)) ρ st Q Z := by
  rw [s_call, s_cons]
  refine var_ev h0 ?_
  rw [s_cons]
  refine var_ev hi ?_
  rw [s_nil, e_anyLJ]
  refine ⟨rfl, c, _, H, N.at', N.ne, by rw [List.length_map]; exact List.length_pos_iff.mpr N.pos, by rw [List.length_map]; have := N.big; omega, fun e st' he H' s => ?_⟩
  obtain ⟨x, hx, rfl⟩ := List.mem_map.mp he
  exact q x st' (N.ok x hx) (GrJ.of H H' s)
theorem r__law_wish_k65 : Rd 2 sp_lwish65 (RD.t__law_wishS_k65 sp_anyJ) RD.N__law_wishS_k65 := by
  intro ds st Q Z hl h
  match ds, hl, h with
  | [.loc h, .loc n], _, ⟨c, es, H, N, q⟩ =>
    unfold RD.t__law_wishS_k65
    show dSeq _ _ _ [some (.loc h), some (.loc n), none] st
    rw [s_seq, s_asg]
    refine any_evJ (h := h) (c := c) rfl H (es := [.tup [.tup [.tup [.int 0, .int 0, .int 0], .non]], .tup [.tup [.tup [.int 1, .int 0, .int 0], .tup [.int 2, .int 0, .int 0]]], .tup []]) (fun QA Z qa => ?_) (by simp) (by decide) fun e st1 he g1 => ?_
    · simp only [s_cons, s_dtup, s_c, s_nil, List.length_cons, List.length_nil]
      exact ⟨szk _ (by decide), szk _ (by decide), szk _ (by decide), szk _ (by decide), szk _ (by decide), szk _ (by decide), szk _ (by decide), szk _ (by decide), qa⟩
    obtain ⟨r, rfl, hr⟩ := rng_lits e he
    rw [s_gN]
    dsimp only
    show dRet _ _ [some (.loc h), some (.loc n), some (encR r)] st1
    rw [s_ret, s_dtup, s_cons]
    refine anyN_ev (h := h) (c := c) (n := n) rfl rfl g1.hd (N.gr g1) fun s st2 hs g2 => ?_
    rw [s_cons]
    refine var_ev (d := encR r) rfl ?_
    rw [s_cons]
    refine any_evJ (h := h) (c := c) rfl g2.hd (es := [.tup [], .tup [], .tup [.str "f"], .tup [.str "f", .str "g"]]) (fun QA Z qa => ?_) (by simp) (by decide) fun e st3 he g3 => ?_
    · simp only [s_cons, s_dtup, s_c, s_nil, List.length_cons, List.length_nil]
      exact ⟨szk _ (by decide), szk _ (by decide), szk _ (by decide), szk _ (by decide), qa⟩
    obtain ⟨l, rfl, hl, hs'⟩ := want_lits e he
    rw [s_nil]
    refine ⟨szk _ (by simp), ?_⟩
    exact back_handJ (d := encWish (s, r, l)) ((g1.trans g2).trans g3) (blw_encWish _ _) fun st4 H4 s4 => q (s, r, l) st4 ⟨hs, hr, hl, hs'⟩ H4 s4
end CM
namespace CM
open PySem L2 PySem.Spec DL
open PyProof.Rows hiding St
open TL (tl pre spl par numL joinL)
theorem app_evJ {i f : Nat} {te : DTE} {d : D} {es : List D} {E : DEnds} {ρ : Env'} {st : Sto} (h : ρ[i]? = some (some (.loc f))) (hf : st[f]? = some (.lst es)) (hl : es.length < 1000) (he : ∀ (QE : DK) Z, QE d st → te ρ st QE Z) (q : E.nx ρ (st.set f (.lst (es ++ [d])))) :
    dDrop (dBM "list" dAppend (dVar i) (dCons te dNil)) E ρ st := by
  rw [s_drop, s_bm]
  refine var_ev h ?_
  rw [s_tyD_loc, hf]
  refine ⟨rfl, ?_⟩
  rw [s_cons]
  refine he _ _ ?_
  rw [s_nil, s_append]
  exact ⟨es, hf, sizeLine_big (by omega), q⟩
theorem draw_evJ {h c : Nat} {te : DTE} {m : Int} {ρ : Env'} {st : Sto} {Q : DK} {Z : DZ} (h0 : ρ[0]? = some (some (.loc h))) (H : HdJ st h c) (he : ∀ (QE : DK) Z, QE (.int m) st → te ρ st QE Z) (hm : 0 < m) (hm2 : m < 1000000000)
    (q : ∀ r st', 0 ≤ r → r < m → GrJ h c st st' → Sm h st st' → Q (.int r) st') : dCall 2 sp_drawJ (dCons (dVar 0) (dCons te dNil)) ρ st Q Z := by
  rw [s_call, s_cons]
  refine var_ev h0 ?_
  rw [s_cons]
  refine he _ _ ?_
  rw [s_nil, e_drawJ]
  exact ⟨rfl, c, H, hm, hm2, fun r st' h0 h1 H' s => q r st' h0 h1 (GrJ.of H H' s) s⟩
theorem ixv_ev {i : Nat} {k : Int} {ds : List D} {d : D} {ρ : Env'} {st : Sto} {Q : DK} {Z : DZ} (h : ρ[i]? = some (some (.tup ds))) (hk : atI ds k = some d) (q : Q d st) : dOp dIx (dVar i) (dC (.int k)) ρ st Q Z := by
  rw [s_op]
  refine var_ev h ?_
  rw [s_c]
  exact ⟨d, hk, q⟩
def AllW (ws : List Wish) : Prop := ∀ w ∈ ws, WishV w
theorem AllW.snoc {ws : List Wish} {w : Wish} (h : AllW ws) (hw : WishV w) : AllW (ws ++ [w]) := fun z hz => by
  rcases List.mem_append.mp hz with hz | hz
  · exact h z hz
  · rw [List.mem_singleton.mp hz]; exact hw
def sp_lwishes65 : DSp := fun ds st Q _ => match ds with
  | [.loc h, .loc n, .tup d] => ∃ c es ws, d = ws.map encWish ∧ AllW ws ∧ ws.length ≤ 8 ∧ HdJ st h c ∧ NmL st h n es ∧ ∀ ws' st', AllW ws' → ws'.length ≤ 8 → HdJ st' h c → Sm h st st' → Q (.tup (ws'.map encWish)) st'
  | _ => False
theorem lp_wishes1 {E : DEnds} {h c n f : Nat} {d : D} {st0 : Sto} (hf0 : st0.length ≤ f) (hfh : f ≠ h)
    (hk : ∀ (acc : List Wish) st2 y4 y5, GrJ h c st0 st2 → st2[f]? = some (.lst (acc.map encWish)) → AllW acc → acc.length ≤ 8 → E.nx [some (.loc h), some (.loc n), some d, some (.loc f), y4, y5, none] st2) :
    ∀ (ws acc : List Wish) (st : Sto) (y4 y5 : Option D), GrJ h c st0 st → st[f]? = some (.lst (acc.map encWish)) → AllW ws → AllW acc → acc.length + ws.length ≤ 8 →
      runG (gN 4) (RD.b__law_wishes_1 sp_drawJ sp_anyJ sp_lwish65) E (fun _ => True) (ws.map encWish) [some (.loc h), some (.loc n), some d, some (.loc f), y4, y5, none] st
  | [], acc, st, y4, y5, g, hf, _, ha, hl => ⟨trivial, hk acc st y4 y5 g hf ha (by simpa using hl)⟩
  | w :: ws, acc, st, y4, y5, g, hf, hw, ha, hl => by
    simp only [List.length_cons] at hl
    rw [List.map_cons, runG_cons]
    refine ⟨trivial, ?_⟩
    have ih := lp_wishes1 (E := E) (n := n) (d := d) hf0 hfh hk ws
    have hw0 := hw w List.mem_cons_self
    have hws : AllW ws := fun z hz => hw z (List.mem_cons_of_mem _ hz)
    generalize hR : runG (gN 4) (RD.b__law_wishes_1 sp_drawJ sp_anyJ sp_lwish65) E (fun _ => True) (ws.map encWish) = R at ih ⊢
    rw [s_gN]
    unfold RD.b__law_wishes_1
    show dSeq _ _ _ [some (.loc h), some (.loc n), some d, some (.loc f), some (encWish w), y5, none] st
    rw [s_seq, s_asg]
    refine draw_evJ rfl g.hd (m := 8) (fun QE Z qe => qe) (by decide) (by decide) fun r st1 r0 r1 g1 s1 => ?_
    have hf1 : st1[f]? = some (.lst (acc.map encWish)) := by rw [s1.same _ hfh]; exact hf
    rw [s_gN]
    dsimp only
    show dIfS _ _ _ _ [some (.loc h), some (.loc n), some d, some (.loc f), some (encWish w), some (.int r), none] st1
    rw [s_ifS, s_test, s_op]
    refine var_ev (d := .int r) rfl ?_
    rw [s_c]
    show dEqB id (.int r) (.int 0) _ _
    rw [s_eq_int]
    dsimp only [id]
    obtain ⟨rg, e3, hr3⟩ := rng3
    by_cases hr : r = 0
    · rw [if_pos (by simpa using hr)]
      have hnew : WishV (w.1, rg, w.2.2) := ⟨hw0.1, hr3, hw0.2.2⟩
      refine app_evJ (d := encWish (w.1, rg, w.2.2)) rfl hf1 (by rw [List.length_map]; omega) (fun QE Z qe => ?_) ?_
      · rw [s_dtup, s_cons]
        refine ixv_ev (d := .str w.1) (ds := [.str w.1, encR w.2.1, encL w.2.2]) rfl rfl ?_
        try dsimp only
        rw [s_cons]
        simp only [s_dtup, s_cons, s_c, s_nil, List.length_cons, List.length_nil]
        refine ⟨szk _ (by decide), szk _ (by decide), szk _ (by decide), ?_⟩
        refine ixv_ev (d := encL w.2.2) (ds := [.str w.1, encR w.2.1, encL w.2.2]) rfl rfl ?_
        refine ⟨szk _ (by decide), ?_⟩
        rw [e3]
        exact qe
      · have g2 := (g.trans g1).set (o := .lst (acc.map encWish ++ [encWish (w.1, rg, w.2.2)])) hf0
        exact ih (acc ++ [(w.1, rg, w.2.2)]) _ _ _ g2 (by rw [List.getElem?_set_self (by have := (List.getElem?_eq_some_iff.mp hf1).1; omega), List.map_append]; rfl) hws (ha.snoc hnew) (by simp; omega)
    · rw [if_neg (by simpa using hr), s_ifS, s_test, s_op]
      refine var_ev (d := .int r) rfl ?_
      rw [s_c]
      show dOrd _ _ (.int r) (.int 1) _ _
      rw [s_ord_int]
      dsimp only
      split
      · refine app_evJ (d := encWish w) rfl hf1 (by rw [List.length_map]; omega) (fun QE Z qe => var_ev rfl qe) ?_
        have g2 := (g.trans g1).set (o := .lst (acc.map encWish ++ [encWish w])) hf0
        exact ih (acc ++ [w]) _ _ _ g2 (by rw [List.getElem?_set_self (by have := (List.getElem?_eq_some_iff.mp hf1).1; omega), List.map_append]; rfl) hws (ha.snoc hw0) (by simp; omega)
      · rw [s_next]
        exact ih acc _ _ _ (g.trans g1) hf1 hws ha (by omega)
theorem lp_wishes2 {E : DEnds} {h c n f : Nat} {es : List Str} {d : D} {st0 : Sto} {y4 y5 : Option D} (hf0 : st0.length ≤ f) (hfh : f ≠ h) (N : NmL st0 h n es)
    (hk : ∀ (acc : List Wish) st2 y6, GrJ h c st0 st2 → st2[f]? = some (.lst (acc.map encWish)) → AllW acc → acc.length ≤ 8 → E.nx [some (.loc h), some (.loc n), some d, some (.loc f), y4, y5, y6] st2) :
    ∀ (m j : Nat) (acc : List Wish) (st : Sto) (y6 : Option D), GrJ h c st0 st → st[f]? = some (.lst (acc.map encWish)) → AllW acc → acc.length ≤ 8 →
      runG (gN 6) (RD.b__law_wishes_2 sp_drawJ sp_anyJ sp_lwish65) E (fun _ => True) (upFrom j m) [some (.loc h), some (.loc n), some d, some (.loc f), y4, y5, y6] st
  | 0, j, acc, st, y6, g, hf, ha, hl => ⟨trivial, hk acc st y6 g hf ha hl⟩
  | m + 1, j, acc, st, y6, g, hf, ha, hl => by
    rw [show upFrom j (m + 1) = .int (j : Nat) :: upFrom (j + 1) m from rfl, runG_cons]
    refine ⟨trivial, ?_⟩
    have ih := lp_wishes2 (E := E) (d := d) (y4 := y4) (y5 := y5) hf0 hfh N hk m (j + 1)
    generalize hR : runG (gN 6) (RD.b__law_wishes_2 sp_drawJ sp_anyJ sp_lwish65) E (fun _ => True) (upFrom (j + 1) m) = R at ih ⊢
    rw [s_gN]
    unfold RD.b__law_wishes_2
    show dIfS _ _ _ _ [some (.loc h), some (.loc n), some d, some (.loc f), y4, y5, some (.int (j : Int))] st
    rw [s_ifS, s_test, s_op, s_cb, s_cons]
    refine var_ev (d := .loc f) rfl ?_
    rw [s_nil, s_len_loc, hf]
    dsimp only
    rw [s_c]
    show dOrd _ _ (.int _) (.int 8) _ _
    rw [s_ord_int, List.length_map]
    dsimp only
    by_cases hlt : acc.length < 8
    · rw [if_pos (by simpa using by omega), s_drop, s_bm]
      refine var_ev (d := .loc f) rfl ?_
      rw [s_tyD_loc, hf]
      refine ⟨rfl, ?_⟩
      rw [s_cons]
      refine draw_evJ rfl g.hd (m := (acc.length : Int) + 1) (fun QE Z qe => ?_) (by omega) (by omega) fun r st1 r0 r1 g1 s1 => ?_
      · rw [s_op, s_cb, s_cons]
        refine var_ev (d := .loc f) rfl ?_
        rw [s_nil, s_len_loc, hf]
        dsimp only
        rw [s_c, s_add_int, List.length_map]
        exact qe
      have hf1 : st1[f]? = some (.lst (acc.map encWish)) := by rw [s1.same _ hfh]; exact hf
      rw [s_cons, s_call, s_cons]
      refine var_ev (d := .loc h) rfl ?_
      rw [s_cons]
      refine var_ev (d := .loc n) rfl ?_
      rw [s_nil]
      refine ⟨rfl, c, es, g1.hd, N.gr (g.trans g1), fun w st2 hw H2 s2 => ?_⟩
      have hf2 : st2[f]? = some (.lst (acc.map encWish)) := by rw [s2.same _ hfh]; exact hf1
      have g2 := ((g.trans g1).sm s2 H2)
      obtain ⟨i, rfl⟩ : ∃ i : Nat, r = i := ⟨r.toNat, by omega⟩
      try dsimp only
      rw [s_nil, s_insert]
      refine ⟨_, hf2, by rw [List.length_map]; exact sizeLine_big (by omega), r0, by omega, ?_⟩
      have e1 : (acc.map encWish).take (i : Int).toNat ++ [encWish w] ++ (acc.map encWish).drop (i : Int).toNat = (acc.take i ++ [w] ++ acc.drop i).map encWish := by
        rw [Int.toNat_natCast]; simp [List.map_take, List.map_drop]
      rw [e1]
      have g3 := g2.set (o := .lst ((acc.take i ++ [w] ++ acc.drop i).map encWish)) hf0
      refine ih (acc.take i ++ [w] ++ acc.drop i) _ _ g3 (List.getElem?_set_self (by have := (List.getElem?_eq_some_iff.mp hf2).1; omega)) (fun z hz => ?_) (by simp; omega)
      rcases List.mem_append.mp hz with hz | hz
      · rcases List.mem_append.mp hz with hz | hz
        · exact ha z (List.mem_of_mem_take hz)
        · rw [List.mem_singleton.mp hz]; exact hw
      · exact ha z (List.mem_of_mem_drop hz)
    · rw [if_neg (by simpa using by omega), s_next]
      exact ih acc _ _ g hf ha hl
theorem counts65 : ∀ e ∈ ([.int 0, .int 0, .int 1, .int 2, .int 3, .int 8] : List D), ∃ n : Nat, e = .int (n : Int) ∧ n ≤ 8 := by
  intro e he
  simp only [List.mem_cons, List.not_mem_nil, or_false] at he
  rcases he with rfl | rfl | rfl | rfl | rfl | rfl
  · exact ⟨0, rfl, by decide⟩
  · exact ⟨0, rfl, by decide⟩
  · exact ⟨1, rfl, by decide⟩
  · exact ⟨2, rfl, by decide⟩
  · exact ⟨3, rfl, by decide⟩
  · exact ⟨8, rfl, by decide⟩
theorem r__law_wishes_k65 : Rd 3 sp_lwishes65 (RD.t__law_wishes sp_drawJ sp_anyJ sp_lwish65) RD.N__law_wishes := by
  intro ds st Q Z hl h
  match ds, hl, h with
  | [.loc h, .loc n, .tup d], _, ⟨c, es, ws, hd, hw, hl8, H, N, q⟩ =>
    subst hd
    unfold RD.t__law_wishes
    show dSeq _ _ _ [some (.loc h), some (.loc n), some (.tup (ws.map encWish)), none, none, none, none] st
    have hlt := H.hlt
    rw [s_seq, s_asg, s_dlst, s_nil]
    refine ⟨szk _ (by decide), ?_⟩
    rw [s_gN]
    dsimp only
    have g0 := (GrJ.refl H).app [Ob.lst []]
    have hf0 : (st ++ [Ob.lst []])[st.length]? = some (.lst []) := getElem?_push
    generalize st ++ [Ob.lst []] = st1 at g0 hf0 ⊢
    show dSeq _ _ _ [some (.loc h), some (.loc n), some (.tup (ws.map encWish)), some (.loc st.length), none, none, none] st1
    rw [s_seq, s_for, s_iD]
    refine var_ev (d := .tup (ws.map encWish)) rfl ?_
    rw [s_walk_tup]
    refine lp_wishes1 (n := n) (Nat.le_refl _) (by omega) (fun acc st2 y4 y5 g2 hf2 ha hl2 => ?_) ws [] st1 none none g0 hf0 hw (fun _ z => by simp at z) (by simpa using hl8)
    dsimp only
    rw [s_seq, s_for, s_iR1, s_cons]
    refine any_evJ (h := h) (c := c) rfl g2.hd (es := [.int 0, .int 0, .int 1, .int 2, .int 3, .int 8]) (fun QA Z qa => ?_) (by simp) (by decide) fun e st3 he g3 => ?_
    · simp only [s_cons, s_c, s_nil]
      exact qa
    obtain ⟨m, rfl, hm⟩ := counts65 e he
    rw [s_nil]
    refine ⟨by omega, by omega, ?_⟩
    rw [Int.toNat_natCast, rngItems_up]
    have hf3 : st3[st.length]? = some (.lst (acc.map encWish)) := g3.get hf2 (by omega)
    refine lp_wishes2 (Nat.le_refl _) (by omega) N (fun acc st4 y6 g4 hf4 ha hl4 => ?_) m 0 acc st3 none (g2.trans g3) hf3 ha hl2
    dsimp only
    rw [s_ret, s_cb, s_cons]
    refine var_ev (d := .loc st.length) rfl ?_
    rw [s_nil, s_tupOf, s_items_loc, hf4]
    dsimp only
    refine back_handJ g4 (by rw [D.blw]; exact blws_encWish _ _) fun st5 H5 s5 => q acc st5 ha hl4 H5 s5
end CM
namespace CM
open PySem L2 PySem.Spec DL
open PyProof.Rows hiding St
open TL (tl pre spl par numL joinL)
def mkK (ls : List Lock) : List (Key × D) := ls.map fun k => (.inr k.1, encV k.2)
def putL (ls : List Lock) (n : Str) (v : Nat) : List Lock := if n ∈ ls.map (·.1) then ls.map (fun k => if k.1 = n then (k.1, v) else k) else ls ++ [(n, v)]
theorem any_mkK (n : Str) (ls : List Lock) : ((mkK ls).any fun kv => decide (kv.1 = (.inr n : Key))) = true ↔ n ∈ ls.map (·.1) := by
  simp only [mkK, List.any_map, List.any_eq_true, List.mem_map, Function.comp, decide_eq_true_eq, Sum.inr.injEq]
theorem putD_mkK (ls : List Lock) (n : Str) (v : Nat) : putD (mkK ls) (.inr n) (encV v) = mkK (putL ls n v) := by
  unfold putD putL
  by_cases h : n ∈ ls.map (·.1)
  · rw [if_pos ((any_mkK n ls).mpr h), if_pos h]
    simp only [mkK, List.map_map]
    refine List.map_congr_left fun k _ => ?_
    simp only [Function.comp, Sum.inr.injEq]
    split <;> rfl
  · rw [if_neg (fun z => h ((any_mkK n ls).mp z)), if_neg h]
    simp [mkK]
theorem putL_names (ls : List Lock) (n : Str) (v : Nat) : (putL ls n v).map (·.1) = if n ∈ ls.map (·.1) then ls.map (·.1) else ls.map (·.1) ++ [n] := by
  unfold putL
  split
  · rw [List.map_map]
    refine List.map_congr_left fun k _ => ?_
    simp only [Function.comp]
    split <;> rfl
  · simp
theorem putL_len (ls : List Lock) (n : Str) (v : Nat) : (putL ls n v).length ≤ ls.length + 1 := by
  unfold putL
  split <;> simp
structure LockF (ls : List Lock) : Prop where
  nd : (ls.map (·.1)).Nodup
  ok : ∀ k ∈ ls, nameS k.1 = true ∧ okV k.2
theorem LockF.put {ls : List Lock} {n : Str} {v : Nat} (h : LockF ls) (hn : nameS n = true) (hv : okV v) : LockF (putL ls n v) := by
  refine ⟨?_, fun k hk => ?_⟩
  · rw [putL_names]
    split
    · exact h.nd
    · rename_i hx
      refine List.nodup_append.mpr ⟨h.nd, by simp, fun a ha b hb => ?_⟩
      rw [List.mem_singleton.mp hb]
      intro e
      exact hx (e ▸ ha)
  · unfold putL at hk
    split at hk
    · obtain ⟨z, hz, e⟩ := List.mem_map.mp hk
      have := h.ok z hz
      split at e
      · subst e; exact ⟨this.1, hv⟩
      · subst e; exact this
    · rcases List.mem_append.mp hk with hk | hk
      · exact h.ok k hk
      · rw [List.mem_singleton.mp hk]; exact ⟨hn, hv⟩
theorem LockF.sorted {ls : List Lock} (h : LockF ls) (hl : ls.length ≤ 40) : LocksV (sortL ls) := by
  have hp := sortL_perm ls
  refine ⟨by rw [hp.length_eq]; exact hl, fun k hk => (h.ok k (hp.mem_iff.mp hk)).2, ?_⟩
  rw [namesF_up fun s hs => ?_]
  · exact sortL_up h.nd
  · obtain ⟨k, hk, rfl⟩ := List.mem_map.mp hs
    exact (h.ok k (hp.mem_iff.mp hk)).1
theorem LocksV.names {ls : List Lock} (h : LocksV ls) : ∀ k ∈ ls, nameS k.1 = true := fun k hk => namesF_names h.2.2 k.1 (List.mem_map.mpr ⟨k, hk, rfl⟩)
theorem putv_ev {i j f : Nat} {kvs : List (Key × D)} {k : Key} {x y : D} {ρ : Env'} {st : Sto} {Qn : Env' → Sto → Prop} (hi : ρ[i]? = some (some (.loc f))) (hj : ρ[j]? = some (some y)) (hf : st[f]? = some (.dK kvs)) (hk : keyD y = some k) (hl : kvs.length < 1000) (q : Qn ρ (st.set f (.dK (putD kvs k x)))) : gSub' (dVar i) (dVar j) dSetK x ρ st Qn := by
  rw [s_gSub]
  refine var_ev hi ?_
  refine var_ev hj ?_
  rw [s_setK]
  exact ⟨kvs, k, hf, hk, sizeLine_big (by omega), q⟩
theorem ver9 {r : Int} (h0 : 0 ≤ r) (h1 : r < 2) : ∃ v, (D.tup [.int 9, .int 9, .int r]) = encV v ∧ okV v := by
  obtain ⟨v, e, hv⟩ := small_mk (a := 9) (b := 9) (c := r) (by omega) (by omega) (by omega)
  exact ⟨v, e, hv.ok⟩
theorem ver1 {r : Int} (h0 : 0 ≤ r) (h1 : r < 2) : ∃ v, (D.tup [.int 1, .int r, .int 0]) = encV v ∧ okV v := by
  obtain ⟨v, e, hv⟩ := small_mk (a := 1) (b := r) (c := 0) (by omega) (by omega) (by omega)
  exact ⟨v, e, hv.ok⟩
def sp_llocks65 : DSp := fun ds st Q _ => match ds with
  | [.loc h, .loc n, .tup d, .int m] => ∃ c es el, d = el.map encLock ∧ LocksV el ∧ 0 ≤ m ∧ m ≤ 1000 ∧ HdJ st h c ∧ NmL st h n es ∧ ∀ ls st', LocksV ls → HdJ st' h c → Sm h st st' → Q (.tup (ls.map encLock)) st'
  | _ => False
theorem lp_locks1 {E : DEnds} {h c n f : Nat} {d : D} {m : Int} {st0 : Sto} (hf0 : st0.length ≤ f) (hfh : f ≠ h)
    (hk : ∀ (acc : List Lock) st2 y5 y6 y7, GrJ h c st0 st2 → st2[f]? = some (.dK (mkK acc)) → LockF acc → acc.length ≤ 40 → E.nx [some (.loc h), some (.loc n), some d, some (.int m), some (.loc f), y5, y6, y7, none] st2) :
    ∀ (el acc : List Lock) (st : Sto) (y5 y6 y7 : Option D), GrJ h c st0 st → st[f]? = some (.dK (mkK acc)) → (∀ k ∈ el, nameS k.1 = true ∧ okV k.2) → LockF acc → acc.length + el.length ≤ 40 →
      runG (gTup' 2 (gCons' (gN 5) (gCons' (gN 6) gNil'))) (RD.b__law_locks_1 sp_drawJ sp_anyJ) E (fun _ => True) (el.map encLock) [some (.loc h), some (.loc n), some d, some (.int m), some (.loc f), y5, y6, y7, none] st
  | [], acc, st, y5, y6, y7, g, hf, _, ha, hl => ⟨trivial, hk acc st y5 y6 y7 g hf ha (by simpa using hl)⟩
  | k :: el, acc, st, y5, y6, y7, g, hf, he, ha, hl => by
    simp only [List.length_cons] at hl
    rw [List.map_cons, runG_cons]
    refine ⟨trivial, ?_⟩
    have ih := lp_locks1 (E := E) (n := n) (d := d) (m := m) hf0 hfh hk el
    have he0 := he k List.mem_cons_self
    have hes : ∀ k ∈ el, nameS k.1 = true ∧ okV k.2 := fun z hz => he z (List.mem_cons_of_mem _ hz)
    generalize hR : runG (gTup' 2 (gCons' (gN 5) (gCons' (gN 6) gNil'))) (RD.b__law_locks_1 sp_drawJ sp_anyJ) E (fun _ => True) (el.map encLock) = R at ih ⊢
    unfold encLock
    rw [s_gTup]
    refine ⟨rfl, ?_⟩
    rw [s_gCons, s_gN, s_gCons, s_gN, s_gNil]
    unfold RD.b__law_locks_1
    show dSeq _ _ _ [some (.loc h), some (.loc n), some d, some (.int m), some (.loc f), some (.str k.1), some (encV k.2), y7, none] st
    rw [s_seq, s_asg]
    refine draw_evJ rfl g.hd (m := 10) (fun QE Z qe => qe) (by decide) (by decide) fun r st1 r0 r1 g1 s1 => ?_
    have hf1 : st1[f]? = some (.dK (mkK acc)) := by rw [s1.same _ hfh]; exact hf
    have hml : (mkK acc).length < 1000 := by simp [mkK]; omega
    rw [s_gN]
    dsimp only
    show dIfS _ _ _ _ [some (.loc h), some (.loc n), some d, some (.int m), some (.loc f), some (.str k.1), some (encV k.2), some (.int r), none] st1
    have fin : ∀ (v : Nat) (st2 : Sto), okV v → GrJ h c st0 st2 → st2[f]? = some (.dK (mkK acc)) → R [some (.loc h), some (.loc n), some d, some (.int m), some (.loc f), some (.str k.1), some (encV k.2), some (.int r), none] (st2.set f (.dK (putD (mkK acc) (.inr k.1) (encV v)))) := by
      intro v st2 hv g2 hf2
      have g3 := g2.set (o := .dK (putD (mkK acc) (.inr k.1) (encV v))) hf0
      refine ih (putL acc k.1 v) _ _ _ _ g3 ?_ hes (ha.put he0.1 hv) (by have := putL_len acc k.1 v; omega)
      rw [List.getElem?_set_self (by have := (List.getElem?_eq_some_iff.mp hf2).1; omega), putD_mkK]
    rw [s_ifS, s_test, s_op]
    refine var_ev (d := .int r) rfl ?_
    rw [s_c]
    show dEqB id (.int r) (.int 0) _ _
    rw [s_eq_int]
    dsimp only [id]
    by_cases hr : r = 0
    · rw [if_pos (by simpa using hr), s_asg, s_dtup, s_cons, s_c, s_cons, s_c, s_cons]
      refine draw_evJ rfl g1.hd (m := 2) (fun QE Z qe => qe) (by decide) (by decide) fun t st2 t0 t1 g2 s2 => ?_
      obtain ⟨v, ev, hv⟩ := ver9 t0 t1
      have hf2 : st2[f]? = some (.dK (mkK acc)) := by rw [s2.same _ hfh]; exact hf1
      rw [s_nil]
      refine ⟨szk _ (by simp), ?_⟩
      rw [ev]
      exact putv_ev (k := .inr k.1) (y := .str k.1) rfl rfl hf2 rfl hml (fin v st2 hv ((g.trans g1).trans g2) hf2)
    · rw [if_neg (by simpa using hr), s_ifS, s_or, s_test, s_op]
      refine var_ev (d := .int r) rfl ?_
      rw [s_c]
      show dOrd _ _ (.int r) (.int 1) _ _
      rw [s_ord_int]
      dsimp only
      have keep := ih acc st1 (some (.str k.1)) (some (encV k.2)) (some (.int r)) (g.trans g1) hf1 hes ha (by omega)
      have take : (dAsg (dVar 6) (gSub' (dVar 4) (dVar 5) dSetK)) { nx := R, rt := E.rt, bk := E.nx, ct := R, xs := E.xs } [some (.loc h), some (.loc n), some d, some (.int m), some (.loc f), some (.str k.1), some (encV k.2), some (.int r), none] st1 := by
        rw [s_asg]
        refine var_ev (d := encV k.2) rfl ?_
        exact putv_ev (k := .inr k.1) (y := .str k.1) rfl rfl hf1 rfl hml (fin k.2 st1 he0.2 (g.trans g1) hf1)
      split
      · rw [if_pos rfl]
        exact take
      · rw [s_test, s_op]
        refine var_ev (d := .int m) rfl ?_
        rw [s_c]
        show dOrd _ _ (.int m) (.int 5) _ _
        rw [s_ord_int]
        dsimp only
        split
        · exact take
        · rw [s_next]
          exact keep
theorem lp_locks2 {E : DEnds} {h c n f : Nat} {es : List Str} {d : D} {m : Int} {st0 : Sto} {y5 y6 y7 : Option D} (hf0 : st0.length ≤ f) (hfh : f ≠ h) (N : NmL st0 h n es)
    (hk : ∀ (acc : List Lock) st2 y8, GrJ h c st0 st2 → st2[f]? = some (.dK (mkK acc)) → LockF acc → acc.length ≤ 40 → E.nx [some (.loc h), some (.loc n), some d, some (.int m), some (.loc f), y5, y6, y7, y8] st2) :
    ∀ (q j : Nat) (acc : List Lock) (st : Sto) (y8 : Option D), GrJ h c st0 st → st[f]? = some (.dK (mkK acc)) → LockF acc → acc.length ≤ 40 →
      runG (gN 8) (RD.b__law_locks_2 sp_drawJ sp_anyJ) E (fun _ => True) (upFrom j q) [some (.loc h), some (.loc n), some d, some (.int m), some (.loc f), y5, y6, y7, y8] st
  | 0, j, acc, st, y8, g, hf, ha, hl => ⟨trivial, hk acc st y8 g hf ha hl⟩
  | q + 1, j, acc, st, y8, g, hf, ha, hl => by
    rw [show upFrom j (q + 1) = .int (j : Nat) :: upFrom (j + 1) q from rfl, runG_cons]
    refine ⟨trivial, ?_⟩
    have ih := lp_locks2 (E := E) (d := d) (m := m) (y5 := y5) (y6 := y6) (y7 := y7) hf0 hfh N hk q (j + 1)
    generalize hR : runG (gN 8) (RD.b__law_locks_2 sp_drawJ sp_anyJ) E (fun _ => True) (upFrom (j + 1) q) = R at ih ⊢
    rw [s_gN]
    unfold RD.b__law_locks_2
    show dIfS _ _ _ _ [some (.loc h), some (.loc n), some d, some (.int m), some (.loc f), y5, y6, y7, some (.int (j : Int))] st
    rw [s_ifS, s_test, s_op, s_cb, s_cons]
    refine var_ev (d := .loc f) rfl ?_
    rw [s_nil, s_lenK]
    refine ⟨_, hf, ?_⟩
    rw [s_c]
    show dOrd _ _ (.int _) (.int 40) _ _
    rw [s_ord_int, show (mkK acc).length = acc.length by simp [mkK]]
    dsimp only
    by_cases hlt : acc.length < 40
    · rw [if_pos (by simpa using by omega), s_asg, s_dtup, s_cons, s_c, s_cons]
      refine draw_evJ rfl g.hd (m := 2) (fun QE Z qe => qe) (by decide) (by decide) fun r st1 r0 r1 g1 s1 => ?_
      have hf1 : st1[f]? = some (.dK (mkK acc)) := by rw [s1.same _ hfh]; exact hf
      rw [s_cons, s_c, s_nil]
      refine ⟨szk _ (by simp), ?_⟩
      obtain ⟨v, ev, hv⟩ := ver1 r0 r1
      rw [ev, s_gSub]
      refine var_ev (d := .loc f) rfl ?_
      refine anyN_ev (h := h) (c := c) (n := n) rfl rfl g1.hd (N.gr (g.trans g1)) fun s st2 hs g2 => ?_
      have hf2 : st2[f]? = some (.dK (mkK acc)) := g2.get hf1 hfh
      rw [s_setK]
      refine ⟨_, _, hf2, rfl, sizeLine_big (by simp [mkK]; omega), ?_⟩
      have g3 := ((g.trans g1).trans g2).set (o := .dK (putD (mkK acc) (.inr s) (encV v))) hf0
      refine ih (putL acc s v) _ _ g3 ?_ (ha.put hs hv) (by have := putL_len acc s v; omega)
      rw [List.getElem?_set_self (by have := (List.getElem?_eq_some_iff.mp hf2).1; omega), putD_mkK]
    · rw [if_neg (by simpa using by omega), s_next]
      exact ih acc _ _ g hf ha hl
theorem blws_encLock (n : Nat) : ∀ ls : List Lock, D.blws n (ls.map encLock) = true
  | [] => rfl
  | k :: ls => by simp [D.blws, D.blw, encLock, blw_encV, blws_encLock n ls]
theorem r__law_locks_k65 : Rd 4 sp_llocks65 (RD.t__law_locks sp_drawJ sp_anyJ) RD.N__law_locks := by
  intro ds st Q Z hl h
  match ds, hl, h with
  | [.loc h, .loc n, .tup d, .int m], _, ⟨c, es, el, hd, he, hm0, hm1, H, N, q⟩ =>
    subst hd
    unfold RD.t__law_locks
    show dSeq _ _ _ [some (.loc h), some (.loc n), some (.tup (el.map encLock)), some (.int m), none, none, none, none, none] st
    have hlt := H.hlt
    rw [s_seq, s_asg, s_dict0, s_gN]
    dsimp only
    have g0 := (GrJ.refl H).app [Ob.dK []]
    have hf0 : (st ++ [Ob.dK []])[st.length]? = some (.dK []) := getElem?_push
    generalize st ++ [Ob.dK []] = st1 at g0 hf0 ⊢
    show dSeq _ _ _ [some (.loc h), some (.loc n), some (.tup (el.map encLock)), some (.int m), some (.loc st.length), none, none, none, none] st1
    rw [s_seq, s_for, s_iD]
    refine var_ev (d := .tup (el.map encLock)) rfl ?_
    rw [s_walk_tup]
    refine lp_locks1 (n := n) (Nat.le_refl _) (by omega) (fun acc st2 y5 y6 y7 g2 hf2 ha hl2 => ?_) el [] st1 none none none g0 hf0 (fun k hk => ⟨he.names k hk, he.2.1 k hk⟩) ⟨by simp, by simp⟩ (by simpa using he.1)
    dsimp only
    rw [s_seq, s_for, s_iR1, s_cons]
    refine var_ev (d := .int m) rfl ?_
    rw [s_nil]
    refine ⟨by omega, by omega, ?_⟩
    rw [rngItems_up]
    refine lp_locks2 (Nat.le_refl _) (by omega) N (fun acc st4 y8 g4 hf4 ha hl4 => ?_) m.toNat 0 acc st2 none g2 hf2 ha hl2
    dsimp only
    rw [s_ret, s_cb, s_cons, s_cb, s_cons, s_listItems]
    refine var_ev (d := .loc st.length) rfl ?_
    refine ⟨_, _, rfl, hf4, ?_⟩
    have e1 : ((mkK acc).map fun p => D.tup [dKeyD p.1, p.2]) = acc.map encLock := by
      simp only [mkK, List.map_map]
      rfl
    rw [e1, s_nil]
    have g5 := g4.app [Ob.lst (acc.map encLock)]
    have hf5 : (st4 ++ [Ob.lst (acc.map encLock)])[st4.length]? = some (.lst (acc.map encLock)) := getElem?_push
    generalize st4 ++ [Ob.lst (acc.map encLock)] = st5 at g5 hf5 ⊢
    refine sort_locks hf5 (fun k hk => (ha.ok k hk).1) ?_
    rw [s_nil, s_tupOf, s_items_loc, getElem?_push]
    dsimp only
    refine back_handJ (g5.app _) (by rw [D.blw]; exact blws_encLock _ _) fun st6 H6 s6 => q (sortL acc) st6 (ha.sorted hl4) H6 s6
end CM
namespace CM
open PySem L2 PySem.Spec DL
open PyProof.Rows hiding St
def nmD : D → Str
  | .tup (.str n :: _) => n
  | _ => ""
structure IsRow (d : D) : Prop where
  sh : ∃ n r, d = .tup (.str n :: r)
  pu : pu d = true
  dp : dp d ≤ 10
def Rows (l : List D) : Prop := ∀ d ∈ l, IsRow d
theorem Rows.app {l m : List D} (h : Rows l) (h' : Rows m) : Rows (l ++ m) := fun d hd => by
  rcases List.mem_append.mp hd with hd | hd
  · exact h d hd
  · exact h' d hd
theorem Rows.pus : ∀ {l : List D}, Rows l → pus l = true
  | [], _ => rfl
  | d :: l, h => by simp [CM.pus, (h d List.mem_cons_self).pu, Rows.pus fun z hz => h z (List.mem_cons_of_mem _ hz)]
theorem Rows.dps : ∀ {l : List D}, Rows l → dps l ≤ 10
  | [], _ => by simp [CM.dps]
  | d :: l, h => by
    have h1 := (h d List.mem_cons_self).dp
    have h2 := Rows.dps fun z hz => h z (List.mem_cons_of_mem _ hz)
    simp only [CM.dps]; omega
theorem Rows.filter {l : List D} (h : Rows l) (p : D → Bool) : Rows (l.filter p) := fun d hd => h d (List.mem_filter.mp hd).1
def addAll : List Str → List Str → List Str
  | acc, [] => acc
  | acc, n :: l => addAll (if n ∈ acc then acc else acc ++ [n]) l
def ofD (l : List D) (n : Str) : List D := l.filter fun r => decide (nmD r = n)
def mkD (ns : List Str) (f : Str → D) : List (Key × D) := ns.map fun n => (.inr n, f n)
theorem addAll_app : ∀ (l m acc : List Str), addAll acc (l ++ m) = addAll (addAll acc l) m
  | [], m, acc => rfl
  | n :: l, m, acc => addAll_app l m _
theorem mem_addAll {n : Str} : ∀ (l acc : List Str), n ∈ addAll acc l ↔ n ∈ acc ∨ n ∈ l
  | [], acc => by simp [addAll]
  | k :: l, acc => by
    unfold addAll
    rw [mem_addAll l]
    split
    · rename_i h
      constructor
      · rintro (z | z)
        · exact .inl z
        · exact .inr (List.mem_cons_of_mem _ z)
      · rintro (z | z)
        · exact .inl z
        · rcases List.mem_cons.mp z with rfl | z
          · exact .inl h
          · exact .inr z
    · simp only [List.mem_append, List.mem_cons, List.not_mem_nil, or_false]
      constructor
      · rintro ((z | z) | z)
        · exact .inl z
        · exact .inr (.inl z)
        · exact .inr (.inr z)
      · rintro (z | z | z)
        · exact .inl (.inl z)
        · exact .inl (.inr z)
        · exact .inr z
theorem nodup_addAll : ∀ (l acc : List Str), acc.Nodup → (addAll acc l).Nodup
  | [], acc, h => h
  | k :: l, acc, h => by
    unfold addAll
    refine nodup_addAll l _ ?_
    split
    · exact h
    · rename_i hx
      refine List.nodup_append.mpr ⟨h, by simp, fun a ha b hb => ?_⟩
      rw [List.mem_singleton.mp hb]
      intro e
      exact hx (e ▸ ha)
theorem len_addAll : ∀ (l acc : List Str), (addAll acc l).length ≤ acc.length + l.length
  | [], acc => by simp [addAll]
  | k :: l, acc => by
    unfold addAll
    by_cases h : k ∈ acc
    · rw [if_pos h]
      have := len_addAll l acc
      simp; omega
    · rw [if_neg h]
      have := len_addAll l (acc ++ [k])
      simp at this ⊢; omega
theorem addAll_snoc (l acc : List Str) (n : Str) : addAll acc (l ++ [n]) = if n ∈ addAll acc l then addAll acc l else addAll acc l ++ [n] := by
  rw [addAll_app]; rfl
theorem rev_ind {α : Type} {P : List α → Prop} (h0 : P []) (h1 : ∀ l x, P l → P (l ++ [x])) (l : List α) : P l := by
  have key : ∀ m : List α, P m.reverse := fun m => by
    induction m with
    | nil => exact h0
    | cons x m ih => rw [List.reverse_cons]; exact h1 _ _ ih
  have := key l.reverse
  rwa [List.reverse_reverse] at this
theorem addAll_idem (acc l : List Str) : addAll acc (addAll [] l) = addAll acc l := by
  refine rev_ind (P := fun l => addAll acc (addAll [] l) = addAll acc l) rfl (fun l n ih => ?_) l
  rw [addAll_snoc l acc n, addAll_snoc l [] n]
  by_cases h : n ∈ addAll [] l
  · rw [if_pos h, ih, if_pos]
    exact (mem_addAll _ _).mpr (.inr (((mem_addAll _ _).mp h).resolve_left (by simp)))
  · rw [if_neg h, addAll_snoc, ih]
theorem valD_mkD (ns : List Str) (f : Str → D) (n : Str) : valD (mkD ns f) (.inr n) = if n ∈ ns then some (f n) else none := by
  induction ns with
  | nil => rfl
  | cons k ns ih =>
    unfold valD at ih ⊢
    simp only [mkD, List.map_cons, List.find?_cons] at ih ⊢
    by_cases h : k = n
    · subst h
      simp
    · have e : decide ((Sum.inr k : Key) = Sum.inr n) = false := decide_eq_false fun z => h (Sum.inr.inj z)
      rw [e]
      dsimp only
      rw [ih]
      by_cases h2 : n ∈ ns
      · rw [if_pos h2, if_pos (List.mem_cons_of_mem _ h2)]
      · rw [if_neg h2, if_neg (by simp only [List.mem_cons, not_or]; exact ⟨fun z => h z.symm, h2⟩)]
theorem putD_mkD (ns : List Str) (f : Str → D) (n : Str) (d : D) : putD (mkD ns f) (.inr n) d = mkD (if n ∈ ns then ns else ns ++ [n]) (fun m => if m = n then d else f m) := by
  have ea : ((mkD ns f).any fun kv => decide (kv.1 = (.inr n : Key))) = true ↔ n ∈ ns := by
    simp [mkD, List.any_map, List.any_eq_true, Function.comp]
  unfold putD
  by_cases h : n ∈ ns
  · rw [if_pos (ea.mpr h), if_pos h]
    simp only [mkD, List.map_map]
    refine List.map_congr_left fun k _ => ?_
    simp only [Function.comp, Sum.inr.injEq]
    split <;> rfl
  · rw [if_neg (fun z => h (ea.mp z)), if_neg h]
    simp only [mkD, List.map_append, List.map_cons, List.map_nil, if_true]
    congr 1
    refine List.map_congr_left fun k hk => ?_
    rw [if_neg (fun z : k = n => h (by rw [← z]; exact hk))]
theorem mkD_congr {ns : List Str} {f g : Str → D} (h : ∀ n ∈ ns, f n = g n) : mkD ns f = mkD ns g := List.map_congr_left fun n hn => by rw [h n hn]
theorem ofD_snoc (l : List D) (d : D) (n : Str) : ofD (l ++ [d]) n = if n = nmD d then ofD l n ++ [d] else ofD l n := by
  unfold ofD
  rw [List.filter_append]
  by_cases h : n = nmD d
  · rw [if_pos h]; simp [h]
  · rw [if_neg h]
    have : decide (nmD d = n) = false := decide_eq_false fun z => h z.symm
    simp [List.filter_cons, this]
theorem ofD_none {l : List D} {n : Str} (h : n ∉ l.map nmD) : ofD l n = [] := by
  unfold ofD
  rw [List.filter_eq_nil_iff]
  intro d hd z
  exact h (List.mem_map.mpr ⟨d, hd, by simpa using z⟩)
/-- a side's rows by their names -/
def sideK (l : List D) : List (Key × D) := mkD (addAll [] (l.map nmD)) fun n => .tup (ofD l n)
theorem get_side (l : List D) (n : Str) : (valD (sideK l) (.inr n)).getD (.tup []) = .tup (ofD l n) := by
  unfold sideK
  rw [valD_mkD]
  by_cases h : n ∈ addAll [] (l.map nmD)
  · rw [if_pos h]; rfl
  · rw [if_neg h, ofD_none fun z => h ((mem_addAll _ _).mpr (.inr z))]; rfl
theorem sideK_snoc (p : List D) (d : D) : putD (sideK p) (.inr (nmD d)) (.tup (ofD p (nmD d) ++ [d])) = sideK (p ++ [d]) := by
  unfold sideK
  rw [putD_mkD, List.map_append]
  show _ = mkD (addAll [] (p.map nmD ++ [nmD d])) _
  rw [addAll_snoc]
  refine mkD_congr fun n _ => ?_
  rw [ofD_snoc]
  by_cases h : n = nmD d
  · subst h; rw [if_pos rfl, if_pos rfl]
  · rw [if_neg h, if_neg h]
theorem get2_ev {td ty tx : DTE} {n : Nat} {kvs : List (Key × D)} {k : Key} {y z : D} {ρ : Env'} {st : Sto} {Q : DK} {Z : DZ} (hd : ∀ (QE : DK) Z, QE (.loc n) st → td ρ st QE Z) (hy : ∀ (QE : DK) Z, QE y st → ty ρ st QE Z) (hx : ∀ (QE : DK) Z, QE z st → tx ρ st QE Z)
    (hn : dkAt st n = some kvs) (hk : keyD y = some k) (q : Q ((valD kvs k).getD z) st) : dDGet2A td ty tx ρ st Q Z := by
  unfold dDGet2A
  refine hd _ _ ⟨⟨n, kvs, rfl, hn⟩, ?_⟩
  refine hy _ _ ?_
  refine hx _ _ ?_
  exact ⟨n, kvs, k, rfl, hn, hk, q⟩
theorem set_end (st : Sto) (x y : Ob) : (st ++ [x]).set st.length y = st ++ [y] := by
  rw [List.set_append_right _ _ (Nat.le_refl _)]; simp
def sp_byname : DSp := fun ds st Q _ => match ds with
  | [.tup l] => Rows l ∧ l.length ≤ 100 ∧ Q (.loc st.length) (st ++ [.dK (sideK l)])
  | _ => False
theorem lp_byname {E : DEnds} {d : D} {st0 : Sto} : ∀ (l p : List D) (y2 : Option D), Rows l → p.length + l.length ≤ 100 → (∀ y2, E.nx [some d, some (.loc st0.length), y2] (st0 ++ [.dK (sideK (p ++ l))])) →
    runG (gN 2) RD.b_by_name_1 E (fun _ => True) l [some d, some (.loc st0.length), y2] (st0 ++ [.dK (sideK p)])
  | [], p, y2, _, _, hk => ⟨trivial, by have := hk y2; rwa [List.append_nil] at this⟩
  | r :: l, p, y2, hr, hl, hk => by
    rw [runG_cons]
    refine ⟨trivial, ?_⟩
    simp only [List.length_cons] at hl
    have ih := fun y2 => lp_byname (E := E) (d := d) (st0 := st0) l (p ++ [r]) y2 (fun z hz => hr z (List.mem_cons_of_mem _ hz)) (by simp; omega) (by rw [List.append_assoc]; exact hk)
    generalize hR : runG (gN 2) RD.b_by_name_1 E (fun _ => True) l = R at ih ⊢
    rw [s_gN]
    obtain ⟨⟨n, q, e⟩, _, _⟩ := hr r List.mem_cons_self
    have hat : (st0 ++ [Ob.dK (sideK p)])[st0.length]? = some (.dK (sideK p)) := getElem?_push
    have en : nmD r = n := by rw [e]; rfl
    unfold RD.b_by_name_1
    show dAsg _ _ _ [some d, some (.loc st0.length), some r] _
    rw [s_asg, s_dtup, s_star]
    have hix : ∀ (QE : DK) Z, QE (.str n) (st0 ++ [Ob.dK (sideK p)]) → dOp dIx (dVar 2) (dC (.int 0)) [some d, some (.loc st0.length), some r] (st0 ++ [Ob.dK (sideK p)]) QE Z := fun QE Z qe => ixv_ev (ds := .str n :: q) (d := .str n) (by rw [e]; rfl) atI_nat0 qe
    refine get2_ev (n := st0.length) (kvs := sideK p) (k := .inr n) (y := .str n) (z := .tup []) (fun QE Z qe => var_ev rfl qe) hix (fun QE Z qe => ?_) (dkAt_K hat) rfl ?_
    · rw [s_dtup, s_nil]; exact ⟨szk _ (by decide), qe⟩
    rw [get_side]
    refine ⟨ofD p n, rfl, ?_⟩
    rw [s_cons]
    refine var_ev (d := r) rfl ?_
    rw [s_nil]
    have hpl : (ofD p n).length ≤ p.length := List.length_filter_le _ _
    refine ⟨szk _ (by simp; omega), ?_⟩
    rw [s_gSub]
    refine var_ev (d := .loc st0.length) rfl ?_
    refine hix _ _ ?_
    rw [s_setK]
    have hkl : (sideK p).length < 1000 := by
      have := len_addAll (p.map nmD) []
      simp [sideK, mkD] at *; omega
    refine ⟨_, _, hat, rfl, sizeLine_big (by omega), ?_⟩
    rw [set_end, ← en, sideK_snoc]
    exact ih _
theorem r_by_name : Rd 1 sp_byname RD.t_by_name RD.N_by_name := by
  intro ds st Q Z hl h
  match ds, hl, h with
  | [.tup l], _, ⟨hr, hl, q⟩ =>
    unfold RD.t_by_name
    rw [s_seq, s_asg, s_dict0, s_gN]
    dsimp only
    show dSeq _ _ _ [some (.tup l), some (.loc st.length), none] _
    rw [s_seq, s_for, s_iD]
    refine var_ev (d := .tup l) rfl ?_
    rw [s_walk_tup]
    refine lp_byname (st0 := st) l [] none hr (by simpa using hl) fun y2 => ?_
    dsimp only
    rw [s_ret]
    refine var_ev (d := .loc st.length) rfl ?_
    exact .inl q
open Classical in
noncomputable def dueO (b m t : List D) : Option (List D) := if m = b then some t else if t = b ∨ m = t then some m else none
def encDue : Option (List D) → D
  | some l => .tup l
  | none => .non
theorem eqT_ev {f : Bool → Bool} {a b : List D} {st : Sto} {Q : DK} (ha : pus a = true) (hb : pus b = true) (da : dps a ≤ 50) (db : dps b ≤ 50) (q : ∀ k : Bool, (k = true ↔ a = b) → Q (.bl (f k)) st) : dEqB f (.tup a) (.tup b) st Q := by
  classical
  exact eq_plain (x := .tup a) (y := .tup b) (b := decide (a = b)) (by unfold pu; exact ha) (by unfold pu; exact hb) (by unfold dp; omega) (by unfold dp; omega) (by simp) (q _ (by simp))
def sp_settled : DSp := fun ds st Q _ => match ds with
  | [.tup b, .tup m, .tup t] => Rows b ∧ Rows m ∧ Rows t ∧ Q (encDue (dueO b m t)) st
  | _ => False
theorem r_settled : Rd 3 sp_settled RD.t_settled RD.N_settled := by
  intro ds st Q Z hl h
  match ds, hl, h with
  | [.tup b, .tup m, .tup t], _, ⟨hb, hm, ht, q⟩ =>
    have pb := hb.pus
    have pm := hm.pus
    have pt := ht.pus
    have db := hb.dps
    have dm := hm.dps
    have dt := ht.dps
    unfold RD.t_settled
    show dSeq _ _ _ [some (.tup b), some (.tup m), some (.tup t)] st
    rw [s_seq, s_ifS, s_test, s_op]
    refine var_ev (d := .tup m) rfl ?_
    refine var_ev (d := .tup b) rfl ?_
    refine eqT_ev pm pb (by omega) (by omega) fun k hk => ?_
    try dsimp only [id]
    by_cases e : m = b
    · rw [if_pos (hk.mpr e), s_ret]
      refine var_ev (d := .tup t) rfl ?_
      refine .inl ?_
      unfold dueO at q
      rw [if_pos e] at q
      exact q
    · rw [if_neg (fun z => e (hk.mp z)), s_next]
      try dsimp only
      rw [s_seq, s_ifS, s_or, s_test, s_op]
      refine var_ev (d := .tup t) rfl ?_
      refine var_ev (d := .tup b) rfl ?_
      refine eqT_ev pt pb (by omega) (by omega) fun k2 hk2 => ?_
      try dsimp only [id]
      have fin : t = b ∨ m = t → dRet (dVar 1) { nx := dRet (dC D.non) { nx := fun _ st1 => DL.Back st Q .non st1, rt := DL.Back st Q, xs := fun x _ st1 => BackX st Z x st1 }, rt := DL.Back st Q, xs := fun x _ st1 => BackX st Z x st1 } [some (.tup b), some (.tup m), some (.tup t)] st := fun z => by
        rw [s_ret]
        refine var_ev (d := .tup m) rfl ?_
        refine .inl ?_
        unfold dueO at q
        rw [if_neg e, if_pos z] at q
        exact q
      by_cases e2 : t = b
      · rw [if_pos (hk2.mpr e2), if_pos rfl]
        exact fin (.inl e2)
      · rw [if_neg (fun z => e2 (hk2.mp z)), s_test, s_op]
        refine var_ev (d := .tup m) rfl ?_
        refine var_ev (d := .tup t) rfl ?_
        refine eqT_ev pm pt (by omega) (by omega) fun k3 hk3 => ?_
        try dsimp only [id]
        by_cases e3 : m = t
        · rw [if_pos (hk3.mpr e3)]
          exact fin (.inr e3)
        · rw [if_neg (fun z => e3 (hk3.mp z)), s_next]
          try dsimp only
          rw [s_ret, s_c]
          refine .inl ?_
          unfold dueO at q
          rw [if_neg e, if_neg (by simp [e2, e3])] at q
          exact q
end CM
namespace CM
open PySem L2 PySem.Spec DL
open PyProof.Rows hiding St
def namesD (b m t : List D) : List Str := addAll [] ((b ++ m ++ t).map nmD)
noncomputable def dueN (b m t : List D) (n : Str) : Option (List D) := dueO (ofD b n) (ofD m n) (ofD t n)
noncomputable def dueK (b m t : List D) : List (Key × D) := mkD (namesD b m t) fun n => encDue (dueN b m t n)
structure MR (st0 st : Sto) (s : Nat) (b m t : List D) (fr : Nat) (cur : List Str) : Prop where
  pre : Pre st0 st
  hs : st0.length ≤ s
  s0 : dkAt st s = some (sideK b)
  s1 : dkAt st (s + 1) = some (sideK m)
  s2 : dkAt st (s + 2) = some (sideK t)
  sl : st[s + 3]? = some (.lst [.loc s, .loc (s + 1), .loc (s + 2)])
  sf : st[s + 4]? = some (.dK (mkD cur fun n => encDue (dueN b m t n)))
  un : ∀ j, fr ≤ j → j < 3 → ∃ kvs, st[s + j]? = some (.dK kvs)
theorem dkAt_ne {st : Sto} {n k : Nat} {o : Ob} (h : k ≠ n) : dkAt (st.set k o) n = dkAt st n := by
  unfold dkAt
  rw [List.getElem?_set_ne h]
theorem dkAt_self {st : Sto} {n : Nat} {od : Obj} {kvs : List (Key × D)} (h : n < st.length) : dkAt (st.set n (.dkF od kvs)) n = some kvs := dkAt_F (List.getElem?_set_self h)
theorem MR.put {st0 st : Sto} {s : Nat} {b m t : List D} {fr : Nat} {cur : List Str} (M : MR st0 st s b m t fr cur) {n : Str} (hn : n ∉ cur) :
    MR st0 (st.set (s + 4) (.dK (putD (mkD cur fun n => encDue (dueN b m t n)) (.inr n) (encDue (dueN b m t n))))) s b m t fr (cur ++ [n]) where
  pre := M.pre.set (by have := M.hs; omega) _
  hs := M.hs
  s0 := by rw [dkAt_ne (by omega)]; exact M.s0
  s1 := by rw [dkAt_ne (by omega)]; exact M.s1
  s2 := by rw [dkAt_ne (by omega)]; exact M.s2
  sl := by rw [List.getElem?_set_ne (by omega)]; exact M.sl
  sf := by
    rw [List.getElem?_set_self (by have := (List.getElem?_eq_some_iff.mp M.sf).1; omega), putD_mkD, if_neg hn]
    congr 2
    refine mkD_congr fun k _ => ?_
    split
    · rename_i e; rw [e]
    · rfl
  un j h1 h2 := by rw [List.getElem?_set_ne (by omega)]; exact M.un j h1 h2
theorem MR.frz {st0 st : Sto} {s : Nat} {b m t : List D} {j : Nat} {cur : List Str} {kvs : List (Key × D)} {od : Obj} (M : MR st0 st s b m t j cur) (hj : j < 3) (h : st[s + j]? = some (.dK kvs)) : MR st0 (st.set (s + j) (.dkF od kvs)) s b m t (j + 1) cur := by
  have hlt : s + j < st.length := (List.getElem?_eq_some_iff.mp h).1
  have key : ∀ i l, dkAt st (s + i) = some l → dkAt (st.set (s + j) (.dkF od kvs)) (s + i) = some l := fun i l hl => by
    by_cases e : i = j
    · subst e
      rw [dkAt_self hlt, ← dkAt_K h]; exact hl
    · rw [dkAt_ne (by omega)]; exact hl
  exact { pre := M.pre.set (by have := M.hs; omega) _, hs := M.hs, s0 := key 0 _ M.s0, s1 := key 1 _ M.s1, s2 := key 2 _ M.s2, sl := by rw [List.getElem?_set_ne (by omega)]; exact M.sl, sf := by rw [List.getElem?_set_ne (by omega)]; exact M.sf, un := fun i h1 h2 => by rw [List.getElem?_set_ne (by omega)]; exact M.un i (by omega) h2 }
def sp_mrows : DSp := fun ds st Q _ => match ds with
  | [.tup b, .tup m, .tup t] => Rows b ∧ Rows m ∧ Rows t ∧ b.length ≤ 40 ∧ m.length ≤ 40 ∧ t.length ≤ 40 ∧ ∀ st' k, Pre st st' → st.length ≤ k → st'[k]? = some (.dK (dueK b m t)) → Q (.loc k) st'
  | _ => False
theorem e_settled {b m t : List D} {st : Sto} {Q : DK} {Z : DX → Sto → Prop} : sp_settled [.tup b, .tup m, .tup t] st Q Z = (Rows b ∧ Rows m ∧ Rows t ∧ Q (encDue (dueO b m t)) st) := rfl
section
variable {E : DEnds} {st0 : Sto} {s : Nat} {b m t : List D}
theorem lp_side (hb : Rows b) (hm : Rows m) (ht : Rows t) (hbl : b.length ≤ 40) (hml : m.length ≤ 40) (htl : t.length ≤ 40) {fr : Nat} {x6 : Option D} : ∀ (ns : List Str) (cur : List Str) (st : Sto) (y7 : Option D), MR st0 st s b m t fr cur → cur.length + ns.length ≤ 900 →
    (∀ st' y7, MR st0 st' s b m t fr (addAll cur ns) → E.nx [some (.tup b), some (.tup m), some (.tup t), some (.loc (s + 3)), none, some (.loc (s + 4)), x6, y7] st') →
    runG (gN 7) (RD.b_merged_rows_2 sp_byname sp_settled) E (fun _ => True) (ns.map .str) [some (.tup b), some (.tup m), some (.tup t), some (.loc (s + 3)), none, some (.loc (s + 4)), x6, y7] st
  | [], cur, st, y7, M, _, hk => ⟨trivial, hk st y7 M⟩
  | n :: ns, cur, st, y7, M, hl, hk => by
    rw [List.map_cons, runG_cons]
    refine ⟨trivial, ?_⟩
    simp only [List.length_cons] at hl
    have ih := fun cur st y7 h1 h2 h3 => lp_side hb hm ht hbl hml htl (fr := fr) (x6 := x6) ns cur st y7 h1 h2 h3
    generalize hR : runG (gN 7) (RD.b_merged_rows_2 sp_byname sp_settled) E (fun _ => True) (ns.map .str) = R at ih ⊢
    rw [s_gN]
    unfold RD.b_merged_rows_2
    show dIfS _ _ _ _ [some (.tup b), some (.tup m), some (.tup t), some (.loc (s + 3)), none, some (.loc (s + 4)), x6, some (.str n)] st
    rw [s_ifS, s_test, s_op]
    refine var_ev (d := .str n) rfl ?_
    refine var_ev (d := .loc (s + 4)) rfl ?_
    refine ⟨s + 4, _, .inr n, rfl, dkAt_K M.sf, rfl, ?_⟩
    rw [valD_mkD]
    dsimp only
    by_cases hn : n ∈ cur
    · rw [if_pos hn]
      rw [if_neg (by simp), s_next]
      have := ih cur st (some (.str n)) M (by omega) (fun st' y7 M' => hk st' y7 (by
        have e : addAll cur (n :: ns) = addAll cur ns := by rw [addAll, if_pos hn]
        rw [e]; exact M'))
      exact this
    · rw [if_neg hn]
      rw [if_pos (by simp), s_asg, s_call, s_cons]
      have hix : ∀ (i : Int) (k : Nat), atI ([.loc s, .loc (s + 1), .loc (s + 2)] : List D) i = some (.loc k) → ∀ (QE : DK) Z, QE (.loc k) st → dOp dIx (dVar 3) (dC (.int i)) [some (.tup b), some (.tup m), some (.tup t), some (.loc (s + 3)), none, some (.loc (s + 4)), x6, some (.str n)] st QE Z := fun i k hi QE Z qe => by
        rw [s_op]
        refine var_ev (d := .loc (s + 3)) rfl ?_
        rw [s_c, s_ix_loc]
        exact ⟨_, _, M.sl, hi, qe⟩
      have hz : ∀ (QE : DK) Z, QE (.tup []) st → dTup dNil [some (.tup b), some (.tup m), some (.tup t), some (.loc (s + 3)), none, some (.loc (s + 4)), x6, some (.str n)] st QE Z := fun QE Z qe => by
        rw [s_dtup, s_nil]; exact ⟨szk _ (by decide), qe⟩
      refine get2_ev (n := s) (kvs := sideK b) (k := .inr n) (y := .str n) (z := .tup []) (hix 0 s rfl) (fun QE Z qe => var_ev rfl qe) hz M.s0 rfl ?_
      rw [get_side, s_cons]
      refine get2_ev (n := s + 1) (kvs := sideK m) (k := .inr n) (y := .str n) (z := .tup []) (hix 1 (s + 1) rfl) (fun QE Z qe => var_ev rfl qe) hz M.s1 rfl ?_
      rw [get_side, s_cons]
      refine get2_ev (n := s + 2) (kvs := sideK t) (k := .inr n) (y := .str n) (z := .tup []) (hix 2 (s + 2) rfl) (fun QE Z qe => var_ev rfl qe) hz M.s2 rfl ?_
      rw [get_side, s_nil]
      refine ⟨rfl, ?_⟩
      rw [e_settled]
      refine ⟨hb.filter _, hm.filter _, ht.filter _, ?_⟩
      refine putv_ev (k := .inr n) (y := .str n) (i := 5) (j := 7) rfl rfl M.sf rfl (by simp [mkD]; omega) ?_
      exact ih (cur ++ [n]) _ (some (.str n)) (M.put hn) (by simp; omega) (fun st' y7 M' => hk st' y7 (by
        have e : addAll cur (n :: ns) = addAll (cur ++ [n]) ns := by rw [addAll, if_neg hn]
        rw [e]; exact M'))
/-- one side walked -/
theorem side_turn (hb : Rows b) (hm : Rows m) (ht : Rows t) (hbl : b.length ≤ 40) (hml : m.length ≤ 40) (htl : t.length ≤ 40) {j : Nat} (hj : j < 3) {l : List D} (hll : l.length ≤ 40) {cur : List Str} {st : Sto} {y7 : Option D} (M : MR st0 st s b m t j cur) (hd : dkAt st (s + j) = some (sideK l)) (hc : cur.length ≤ 200)
    (hk : ∀ st' y7, MR st0 st' s b m t (j + 1) (addAll cur (l.map nmD)) → E.nx [some (.tup b), some (.tup m), some (.tup t), some (.loc (s + 3)), none, some (.loc (s + 4)), some (.loc (s + j)), y7] st') :
    RD.b_merged_rows_3 sp_byname sp_settled E [some (.tup b), some (.tup m), some (.tup t), some (.loc (s + 3)), none, some (.loc (s + 4)), some (.loc (s + j)), y7] st := by
  unfold RD.b_merged_rows_3
  rw [s_for, s_iKF, s_frz]
  refine var_ev (d := .loc (s + j)) rfl ?_
  obtain ⟨kvs, hu⟩ := M.un j (Nat.le_refl _) hj
  have ek : kvs = sideK l := by rw [dkAt_K hu] at hd; exact Option.some.inj hd
  subst ek
  refine ⟨_, _, rfl, hu, fun od => ?_⟩
  have hlt : s + j < st.length := (List.getElem?_eq_some_iff.mp hu).1
  refine ⟨_, od, _, rfl, List.getElem?_set_self hlt, ?_⟩
  have e : (sideK l).map (fun p => dKeyD p.1) = (addAll [] (l.map nmD)).map .str := by
    simp only [sideK, mkD, List.map_map]; rfl
  rw [e]
  have hla := len_addAll (l.map nmD) []
  simp only [List.length_nil, List.length_map] at hla
  refine lp_side hb hm ht hbl hml htl _ cur _ y7 (M.frz hj hu) (by omega) fun st' y7 M' => ?_
  rw [addAll_idem] at M'
  exact hk st' y7 M'
end
theorem r_merged_rows : Rd 3 sp_mrows (RD.t_merged_rows sp_byname sp_settled) RD.N_merged_rows := by
  intro ds st Q Z hl h
  match ds, hl, h with
  | [.tup b, .tup m, .tup t], _, ⟨hb, hm, ht, hbl, hml, htl, q⟩ =>
    unfold RD.t_merged_rows
    show dSeq _ _ _ [some (.tup b), some (.tup m), some (.tup t), none, none, none, none, none] st
    rw [s_seq, s_asg, s_lc, s_iD, s_dtup, s_cons]
    refine var_ev (d := .tup b) rfl ?_
    rw [s_cons]
    refine var_ev (d := .tup m) rfl ?_
    rw [s_cons]
    refine var_ev (d := .tup t) rfl ?_
    rw [s_nil]
    refine ⟨szk _ (by simp), ?_⟩
    rw [s_walk_tup]
    have turn : ∀ (l : List D) (st : Sto) (QE : DK), Rows l → l.length ≤ 40 → QE (.loc st.length) (st ++ [.dK (sideK l)]) → RD.e_merged_rows_1 sp_byname sp_settled ((wipeD [some (.tup b), some (.tup m), some (.tup t), none, none, none, none, none] [4]).set 4 (some (.tup l))) st QE Z0 := fun l st QE hr hll qe => by
      unfold RD.e_merged_rows_1
      rw [s_call, s_cons]
      refine var_ev (d := .tup l) rfl ?_
      rw [s_nil]
      exact ⟨rfl, hr, by omega, qe⟩
    rw [runC_cons]
    refine ⟨trivial, ?_⟩
    rw [s_gN, s_yes, if_pos rfl]
    refine turn b st _ hb hbl ⟨sizeLine_big (by simp), ?_⟩
    rw [runC_cons]
    refine ⟨trivial, ?_⟩
    rw [s_gN, s_yes, if_pos rfl]
    refine turn m _ _ hm hml ⟨sizeLine_big (by simp), ?_⟩
    rw [runC_cons]
    refine ⟨trivial, ?_⟩
    rw [s_gN, s_yes, if_pos rfl]
    refine turn t _ _ ht htl ⟨sizeLine_big (by simp), ?_⟩
    rw [runC_nil]
    refine ⟨trivial, ?_⟩
    rw [s_gN]
    dsimp only
    simp only [List.length_append, List.length_cons, List.length_nil, List.append_assoc, List.cons_append, List.nil_append]
    show dSeq _ _ _ [some (.tup b), some (.tup m), some (.tup t), some (.loc (st.length + 3)), none, none, none, none] (st ++ [Ob.dK (sideK b), .dK (sideK m), .dK (sideK t), .lst [.loc st.length, .loc (st.length + 1), .loc (st.length + 2)]])
    rw [s_seq, s_asg, s_dict0, s_gN]
    dsimp only
    have hat : ∀ (i : Nat) (o : Ob), ([Ob.dK (sideK b), .dK (sideK m), .dK (sideK t), .lst [.loc st.length, .loc (st.length + 1), .loc (st.length + 2)], .dK []] : List Ob)[i]? = some o → (st ++ [Ob.dK (sideK b), .dK (sideK m), .dK (sideK t), .lst [.loc st.length, .loc (st.length + 1), .loc (st.length + 2)], .dK []])[st.length + i]? = some o := fun i o hi => by
      rw [List.getElem?_append_right (by omega), show st.length + i - st.length = i by omega]; exact hi
    have M0 : MR st (st ++ [Ob.dK (sideK b), .dK (sideK m), .dK (sideK t), .lst [.loc st.length, .loc (st.length + 1), .loc (st.length + 2)], .dK []]) st.length b m t 0 [] := by
      refine ⟨⟨_, rfl⟩, Nat.le_refl _, dkAt_K (hat 0 _ rfl), dkAt_K (hat 1 _ rfl), dkAt_K (hat 2 _ rfl), hat 3 _ rfl, hat 4 _ rfl, fun j _ hj => ?_⟩
      match j, hj with
      | 0, _ => exact ⟨_, hat 0 _ rfl⟩
      | 1, _ => exact ⟨_, hat 1 _ rfl⟩
      | 2, _ => exact ⟨_, hat 2 _ rfl⟩
    have el : (st ++ [Ob.dK (sideK b), .dK (sideK m), .dK (sideK t), .lst [.loc st.length, .loc (st.length + 1), .loc (st.length + 2)]]).length = st.length + 4 := by simp
    rw [el]
    have es : st ++ [Ob.dK (sideK b), .dK (sideK m), .dK (sideK t), .lst [.loc st.length, .loc (st.length + 1), .loc (st.length + 2)]] ++ [Ob.dK []] = st ++ [Ob.dK (sideK b), .dK (sideK m), .dK (sideK t), .lst [.loc st.length, .loc (st.length + 1), .loc (st.length + 2)], .dK []] := by simp
    rw [es]
    generalize st ++ [Ob.dK (sideK b), .dK (sideK m), .dK (sideK t), .lst [.loc st.length, .loc (st.length + 1), .loc (st.length + 2)], .dK []] = st1 at M0 ⊢
    show dSeq _ _ _ [some (.tup b), some (.tup m), some (.tup t), some (.loc (st.length + 3)), none, some (.loc (st.length + 4)), none, none] st1
    have n1 := len_addAll (b.map nmD) []
    have n2 := len_addAll (m.map nmD) (addAll [] (b.map nmD))
    have n3 := len_addAll (t.map nmD) (addAll (addAll [] (b.map nmD)) (m.map nmD))
    simp only [List.length_nil, List.length_map] at n1 n2 n3
    rw [s_seq, s_for, s_iD]
    refine var_ev (d := .loc (st.length + 3)) rfl ?_
    rw [s_walk_loc]
    refine ⟨_, M0.sl, ?_⟩
    rw [runG_cons]
    refine ⟨M0.sl, ?_⟩
    rw [s_gN]
    refine side_turn hb hm ht hbl hml htl (j := 0) (by omega) hbl M0 M0.s0 (by simp) fun st2 y7 M2 => ?_
    try dsimp only
    rw [runG_cons]
    refine ⟨M2.sl, ?_⟩
    rw [s_gN]
    refine side_turn hb hm ht hbl hml htl (j := 1) (by omega) hml M2 M2.s1 (by omega) fun st3 y7 M3 => ?_
    try dsimp only
    rw [runG_cons]
    refine ⟨M3.sl, ?_⟩
    rw [s_gN]
    refine side_turn hb hm ht hbl hml htl (j := 2) (by omega) htl M3 M3.s2 (by omega) fun st4 y7 M4 => ?_
    try dsimp only
    rw [runG_nil]
    refine ⟨M4.sl, ?_⟩
    dsimp only
    rw [s_ret]
    refine var_ev (d := .loc (st.length + 4)) rfl ?_
    refine .inl (q st4 _ M4.pre (by omega) ?_)
    have := M4.sf
    rw [← addAll_app, ← addAll_app, ← List.map_append, ← List.map_append, ← List.append_assoc] at this
    exact this
end CM
namespace CM
open PySem L2 PySem.Spec DL
open PyProof.Rows hiding St
open TL (tl pre spl par numL joinL)
/-- so many features -/
def TrpF (k : Nat) (t : Trp) : Prop := TrpV t ∧ t.2.2.length ≤ k
def InstF (k : Nat) (l : List Trp) : Prop := l.length ≤ 61 ∧ (∀ t ∈ l, TrpF k t) ∧ up (l.map nmT)
theorem nodup_le : ∀ {M l : List Str}, M.Nodup → (∀ y, y ∈ M → y ∈ l) → M.length ≤ l.length
  | [], l, _, _ => Nat.zero_le _
  | a :: M, l, hn, h => by
    obtain ⟨l1, l2, rfl⟩ := List.append_of_mem (h a List.mem_cons_self)
    obtain ⟨ha, hn⟩ := List.nodup_cons.mp hn
    have := nodup_le (M := M) (l := l1 ++ l2) hn fun y hy => by
      have := h y (List.mem_cons_of_mem _ hy)
      simp only [List.mem_append, List.mem_cons] at this ⊢
      rcases this with h1 | rfl | h1
      · exact .inl h1
      · exact absurd hy ha
      · exact .inr h1
    simp only [List.length_append, List.length_cons] at this ⊢
    omega
end CM
namespace CM
open PySem L2 PySem.Spec DL
open PyProof.Rows hiding St
open TL (tl pre spl par numL joinL)
theorem up_of {l : List Str} (h : namesF "" l = true) : up l := (namesF_up (namesF_names h)).mp h
end CM
namespace CM
open PySem L2 PySem.Spec DL
open PyProof.Rows hiding St
open TL (tl pre spl par numL joinL)
theorem isi_ev {te : DTE} {T a : String} {d : D} {ρ : Env'} {st : Sto} {Q : DK} {Z : DZ} (he : ∀ (QE : DK) Z, QE d st → te ρ st QE Z) (ha : tyN st d = some a) (q : Q (.bl (tySub a T)) st) : dIsi te [T] ρ st Q Z := by
  rw [s_isi]
  refine he _ _ ?_
  rw [ha]
  simpa using q
end CM
namespace CM
open PySem L2 PySem.Spec DL
open PyProof.Rows hiding St
open TL (tl pre spl par numL joinL)
def InstV (l : List Trp) : Prop := InstS l ∧ up (l.map nmT)
theorem InstF.v {k : Nat} (hk : k ≤ 60) {l : List Trp} (h : InstF k l) : InstV l := ⟨⟨by have := h.1; omega, fun t ht => ⟨(h.2.1 t ht).1, by have := (h.2.1 t ht).2; omega⟩⟩, h.2.2⟩
section
variable [EC : ErrCtx]
theorem subs : tySub "str" "str" = true ∧ tySub "tuple" "tuple" = true ∧ tySub "int" "int" = true ∧ tySub "int" "bool" = false := by decide
end
end CM
namespace CM
open PySem L2 PySem.Spec DL
open PyProof.Rows hiding St
open TL (tl pre spl par numL joinL)
theorem runC_filterM {te : DTE} {tt : DTT} {ρ : Env'} {Q : DK} {G : Sto → Prop} {i : Nat} {α : Type} {inj : α → D} {p : α → Bool} {st : Sto} (hG : G st)
    (he : ∀ x (QT : DK), QT (inj x) st → te (ρ.set i (some (inj x))) st QT Z0) : ∀ (xs : List α) (acc : List D), (∀ x ∈ xs, ∀ (QT : Bool → Sto → Prop), QT (p x) st → tt (ρ.set i (some (inj x))) st QT Z0) → acc.length + xs.length < 1048576 →
    Q (.loc st.length) (st ++ [.lst (acc ++ (xs.filter p).map inj)]) → runC (gN i) tt te ρ Q G (xs.map inj) acc st
  | [], acc, _, _, q => by
    rw [List.map_nil, runC_nil]
    exact ⟨hG, by simpa using q⟩
  | x :: xs, acc, ht, hl, q => by
    rw [List.map_cons, runC_cons]
    refine ⟨hG, ?_⟩
    simp only [List.length_cons] at hl
    simp only [s_gN]
    refine ht x List.mem_cons_self _ ?_
    have ht' : ∀ z ∈ xs, ∀ (QT : Bool → Sto → Prop), QT (p z) st → tt (ρ.set i (some (inj z))) st QT Z0 := fun z hz => ht z (List.mem_cons_of_mem _ hz)
    cases hp : p x with
    | true =>
      rw [if_pos rfl]
      refine he x _ ⟨sizeLine_big (by omega), ?_⟩
      exact runC_filterM hG he xs (acc ++ [inj x]) ht' (by simp; omega) (by simpa [hp] using q)
    | false =>
      rw [if_neg (by decide)]
      exact runC_filterM hG he xs acc ht' (by omega) (by simpa [hp] using q)
end CM
namespace CM
open PySem L2 PySem.Spec DL
open PyProof.Rows hiding St
/-- the least name that clashes -/
def LeastC (ns : List Str) (F : Str → Option (List D)) (n : Str) : Prop := n ∈ ns ∧ F n = none ∧ ∀ y ∈ ns, F y = none → ltS y n = false
theorem LeastC.uniq {ns ns' : List Str} {F : Str → Option (List D)} {a b : Str} (hm : ∀ y, y ∈ ns ↔ y ∈ ns') (h : LeastC ns F a) (h' : LeastC ns' F b) : a = b :=
  ltS_tri (h'.2.2 a ((hm a).mp h.1) h.2.1) (h.2.2 b ((hm b).mpr h'.1) h'.2.1)
def sp_clash : DSp := fun ds st Q _ => match ds with
  | [.str k, .loc f] => ∃ (ns : List Str) (F : Str → Option (List D)), st[f]? = some (.dK (mkD ns fun n => encDue (F n))) ∧ ns.length ≤ 1000 ∧ (∀ st', st'.length ≥ st.length → (∀ i, i ≠ f → i < st.length → st'[i]? = st[i]?) → dkAt st' f = some (mkD ns fun n => encDue (F n)) → ((∀ n ∈ ns, F n ≠ none) → Q .non st') ∧ ∀ n, LeastC ns F n → Q (.tup [.str "clash", .str k, .str n]) st')
  | _ => False
theorem isNon_due (o : Option (List D)) : isNonD (encDue o) = o.isNone := by cases o <;> rfl
theorem r_clash_of : Rd 2 sp_clash RD.t_clash_of RD.N_clash_of := by
  intro ds st Q Z hl h
  match ds, hl, h with
  | [.str k, .loc f], _, ⟨ns, F, hf, hnl, q⟩ =>
    unfold RD.t_clash_of
    show dSeq _ _ _ [some (.str k), some (.loc f), none, none] st
    have hlt : f < st.length := (List.getElem?_eq_some_iff.mp hf).1
    rw [s_seq, s_asg, s_lc, s_iKF, s_frz]
    refine var_ev (d := .loc f) rfl ?_
    refine ⟨_, _, rfl, hf, fun od => ?_⟩
    refine ⟨_, od, _, rfl, List.getElem?_set_self hlt, ?_⟩
    have e : (mkD ns fun n => encDue (F n)).map (fun p => dKeyD p.1) = ns.map .str := by
      simp only [mkD, List.map_map]; rfl
    rw [e]
    have hd : dkAt (st.set f (.dkF od (mkD ns fun n => encDue (F n)))) f = some (mkD ns fun n => encDue (F n)) := dkAt_F (List.getElem?_set_self hlt)
    have ho : ∀ i, i ≠ f → i < st.length → (st.set f (.dkF od (mkD ns fun n => encDue (F n))))[i]? = st[i]? := fun i hi _ => List.getElem?_set_ne (Ne.symm hi)
    have hll : (st.set f (.dkF od (mkD ns fun n => encDue (F n)))).length = st.length := List.length_set
    generalize st.set f (.dkF od (mkD ns fun n => encDue (F n))) = st1 at hd ho hll ⊢
    refine runC_filterM (inj := D.str) (p := fun n => (F n).isNone) trivial (fun x QT hq => var_ev rfl hq) ns [] (fun n hn QT hq => ?_) (by simp; omega) ?_
    · unfold RD.i_clash_of_1
      rw [s_test, s_op]
      refine var_ev (d := .loc f) rfl ?_
      refine var_ev (d := .str n) rfl ?_
      refine ⟨f, _, .inr n, encDue (F n), rfl, hd, rfl, by rw [valD_mkD, if_pos hn], ?_⟩
      show dC _ _ _ _ _
      rw [s_c, s_is, isNon_due]
      exact hq
    rw [List.nil_append, s_gN]
    dsimp only
    have hM : ∀ n, n ∈ ns.filter (fun n => (F n).isNone) ↔ n ∈ ns ∧ F n = none := fun n => by simp [List.mem_filter]
    have hML : (ns.filter (fun n => (F n).isNone)).length ≤ 1000 := Nat.le_trans (List.length_filter_le _ _) hnl
    generalize ns.filter (fun n => (F n).isNone) = M at hM hML ⊢
    have hat : (st1 ++ [Ob.lst (M.map D.str)])[st1.length]? = some (.lst (M.map .str)) := getElem?_push
    have hp := q (st1 ++ [Ob.lst (M.map D.str)]) (by simp; omega) (fun i h1 h2 => by rw [List.getElem?_append_left (by omega)]; exact ho i h1 h2) (dkAt_app hd _)
    generalize st1 ++ [Ob.lst (M.map D.str)] = st2 at hat hp ⊢
    show dSeq _ _ _ [some (.str k), some (.loc f), some (.loc st1.length), none] st2
    rw [s_seq, s_ifS, s_not, s_tru]
    refine var_ev (d := .loc st1.length) rfl ?_
    rw [s_tru_loc, hat]
    dsimp only
    by_cases hM0 : M = []
    · rw [if_pos (by rw [hM0]; rfl), s_ret, s_c]
      refine .inl (hp.1 fun n hn z => ?_)
      have := (hM n).mpr ⟨hn, z⟩
      rw [hM0] at this
      cases this
    · rw [if_neg (by cases M with | nil => exact absurd rfl hM0 | cons a l => simp), s_next]
      dsimp only
      rw [s_ret, s_dtup, s_cons, s_c, s_cons]
      refine var_ev (d := .str k) rfl ?_
      rw [s_cons, s_cb, s_cons]
      refine var_ev (d := .loc st1.length) rfl ?_
      rw [s_nil, s_minTx]
      refine ⟨M, hat, List.length_pos_iff.mpr hM0, fun m hm hy => ?_⟩
      rw [s_nil]
      refine ⟨szk _ (by simp), ?_⟩
      exact .inl (hp.2 m ⟨((hM m).mp hm).1, ((hM m).mp hm).2, fun y hy1 hy2 => hy y ((hM y).mpr ⟨hy1, hy2⟩)⟩)
theorem runI_all {i : Nat} {ρ : Env'} {G : Sto → Prop} {K : List D → Sto → Prop} {te : DTE} {st : Sto} (hG : G st) (he : ∀ (d : D) (QE : DK), QE d st → te (ρ.set i (some d)) st QE Z0) : ∀ (ds acc : List D), acc.length + ds.length < 1000000 → K (acc ++ ds) st → runI (gN i) dYes te ρ G K ds acc st
  | [], acc, _, k => ⟨hG, by simpa using k⟩
  | d :: ds, acc, hl, k => by
    simp only [List.length_cons] at hl
    refine ⟨hG, ?_⟩
    rw [s_gN, s_yes, if_pos rfl]
    refine he d _ ⟨sizeLine_big (by omega), ?_⟩
    exact runI_all hG he ds (acc ++ [d]) (by simp; omega) (by simpa using k)
section
variable [EC : ErrCtx]
def sp_rwithin : DSp := fun ds st Q Z => match ds with
  | [.int m, .loc f] => ∃ (ns : List Str) (R : Str → List D), dkAt st f = some (mkD ns fun n => .tup (R n)) ∧ (ns.flatMap R).length < 10000 ∧ ((m < (ns.flatMap R).length) → ∀ st', Pre st st' → Z (errX 8 [("most", .int m)]) st') ∧ ((ns.flatMap R).length ≤ m → ∀ st' k, Pre st st' → st.length ≤ k → st'[k]? = some (.lst (ns.flatMap R)) → Q (.loc k) st')
  | _ => False
theorem lp_rowsW {Q : DK} {G : Sto → Prop} {x0 x1 : Option D} {st : Sto} (hG : G st) : ∀ (ds : List (List D)) (acc : List D), acc.length + (ds.flatMap id).length < 100000 → Q (.loc st.length) (st ++ [.lst (acc ++ ds.flatMap id)]) →
    runC2 (gN 3) dYes (iD (dVar 3)) (gN 4) dYes RD.e_rows_within_1 [x0, x1, none, none, none] [4] Q G (ds.map .tup) acc st
  | [], acc, _, q => ⟨hG, by simpa using q⟩
  | d :: ds, acc, hl, q => by
    simp only [List.flatMap_cons, List.length_append, id] at hl
    refine ⟨hG, ?_⟩
    rw [s_gN, s_yes, if_pos rfl, s_iD]
    refine var_ev (d := .tup d) rfl ?_
    rw [s_walk_tup]
    refine runI_all trivial (fun z QE qe => ?_) d acc (by omega) ?_
    · unfold RD.e_rows_within_1
      exact var_ev rfl qe
    · refine lp_rowsW hG ds (acc ++ d) (by simp only [List.length_append]; omega) ?_
      simpa using q
theorem r_rows_within : Rd 2 sp_rwithin RD.t_rows_within RD.N_rows_within := by
  intro ds st Q Z hl h
  match ds, hl, h with
  | [.int m, .loc f], _, ⟨ns, R, hf, hlen, hz, q⟩ =>
    unfold RD.t_rows_within
    show dSeq _ _ _ [some (.int m), some (.loc f), none, none, none] st
    rw [s_seq, s_asg, s_lc2, s_iD, s_listVals]
    refine var_ev (d := .loc f) rfl ?_
    refine ⟨f, _, rfl, hf, ?_⟩
    have e : (mkD ns fun n => D.tup (R n)).map (·.2) = (ns.map R).map .tup := by
      simp only [mkD, List.map_map]; rfl
    have e2 : (ns.map R).flatMap id = ns.flatMap R := by simp [List.flatMap_map]
    rw [e, s_walk_loc]
    refine ⟨_, getElem?_push, ?_⟩
    have hp1 : Pre st (st ++ [Ob.lst ((ns.map R).map D.tup)]) := ⟨_, rfl⟩
    have hG : (st ++ [Ob.lst ((ns.map R).map D.tup)])[st.length]? = some (.lst ((ns.map R).map .tup)) := getElem?_push
    have hl1 : st.length < (st ++ [Ob.lst ((ns.map R).map D.tup)]).length := by simp
    generalize st ++ [Ob.lst ((ns.map R).map D.tup)] = st1 at hp1 hG hl1 ⊢
    refine lp_rowsW (x0 := some (.int m)) (x1 := some (.loc f)) hG (ns.map R) [] (by rw [e2]; simp only [List.length_nil]; omega) ?_
    rw [e2, List.nil_append, s_gN]
    dsimp only
    have hp2 := hp1.app [Ob.lst (ns.flatMap R)]
    have hat : (st1 ++ [Ob.lst (ns.flatMap R)])[st1.length]? = some (.lst (ns.flatMap R)) := getElem?_push
    generalize st1 ++ [Ob.lst (ns.flatMap R)] = st2 at hp2 hat ⊢
    show dSeq _ _ _ [some (.int m), some (.loc f), some (.loc st1.length), none, none] st2
    rw [s_seq, s_ifS, s_test, s_op, s_cb, s_cons]
    refine var_ev (d := .loc st1.length) rfl ?_
    rw [s_nil, s_len_loc, hat]
    dsimp only
    refine var_ev (d := .int m) rfl ?_
    show dOrd _ _ (.int _) (.int m) _ _
    rw [s_ord_int]
    dsimp only
    by_cases hm : m < ((ns.flatMap R).length : Int)
    · rw [if_pos (by simpa using hm), s_raise1]
      refine var_ev (d := .int m) rfl ?_
      exact .inl (hz hm st2 hp2)
    · rw [if_neg (by simpa using hm), s_next]
      dsimp only
      rw [s_ret]
      refine var_ev (d := .loc st1.length) rfl ?_
      exact .inl (q (by omega) st2 _ hp2 (by omega) hat)
end
end CM
namespace CM
open PySem L2 PySem.Spec DL
open PyProof.Rows hiding St
open PySem.W (AllAlike Sortable dataLe)
noncomputable def dueL (b m t : List D) (n : Str) : List D := (dueN b m t n).getD []
noncomputable def outD (b m t : List D) : List D := (namesD b m t).flatMap (dueL b m t)
def NoClash (b m t : List D) : Prop := ∀ n ∈ namesD b m t, dueN b m t n ≠ none
def srtD (l : List D) : List D := l.mergeSort (dataLe false pd)
theorem dueK_no {b m t : List D} (h : NoClash b m t) : dueK b m t = mkD (namesD b m t) fun n => .tup (dueL b m t n) := by
  unfold dueK
  refine mkD_congr fun n hn => ?_
  have := h n hn
  unfold dueL
  cases e : dueN b m t n with
  | none => exact absurd e this
  | some l => rfl
theorem dueL_sub {b m t : List D} {n : Str} : dueL b m t n = ofD m n ∨ dueL b m t n = ofD t n ∨ dueL b m t n = [] := by
  unfold dueL dueN dueO
  split
  · exact .inr (.inl rfl)
  · split
    · exact .inl rfl
    · exact .inr (.inr rfl)
theorem dueL_mem {b m t : List D} {n : Str} {d : D} (h : d ∈ dueL b m t n) : (d ∈ m ∨ d ∈ t) ∧ nmD d = n := by
  rcases dueL_sub (b := b) (m := m) (t := t) (n := n) with e | e | e
  · rw [e] at h
    have := List.mem_filter.mp h
    exact ⟨.inl this.1, by simpa using this.2⟩
  · rw [e] at h
    have := List.mem_filter.mp h
    exact ⟨.inr this.1, by simpa using this.2⟩
  · rw [e] at h; cases h
theorem outD_mem {b m t : List D} {d : D} (h : d ∈ outD b m t) : d ∈ m ∨ d ∈ t := by
  obtain ⟨n, _, hd⟩ := List.mem_flatMap.mp h
  exact (dueL_mem hd).1
theorem names_len {b m t : List D} (hb : b.length ≤ 40) (hm : m.length ≤ 40) (ht : t.length ≤ 40) : (namesD b m t).length ≤ 120 := by
  have := len_addAll ((b ++ m ++ t).map nmD) []
  unfold namesD
  simp at this ⊢
  omega
theorem flat_lenM {α β : Type} {R : α → List β} {k : Nat} : ∀ (ns : List α), (∀ n ∈ ns, (R n).length ≤ k) → (ns.flatMap R).length ≤ ns.length * k
  | [], _ => by simp
  | n :: ns, h => by
    have h1 := h n List.mem_cons_self
    have h2 := flat_lenM ns fun z hz => h z (List.mem_cons_of_mem _ hz)
    rw [List.flatMap_cons, List.length_append, List.length_cons, Nat.succ_mul]
    omega
theorem out_lenM {b m t : List D} (hb : b.length ≤ 40) (hm : m.length ≤ 40) (ht : t.length ≤ 40) : (outD b m t).length < 10000 := by
  have h1 := names_len hb hm ht
  have h2 := flat_lenM (R := dueL b m t) (k := 40) (namesD b m t) fun n _ => by
    rcases dueL_sub (b := b) (m := m) (t := t) (n := n) with e | e | e
    · rw [e]; exact Nat.le_trans (List.length_filter_le _ _) hm
    · rw [e]; exact Nat.le_trans (List.length_filter_le _ _) ht
    · rw [e]; simp
  unfold outD
  have := Nat.mul_le_mul_right 40 h1
  omega
theorem nodup_flat {R : Str → List D} : ∀ {ns : List Str}, ns.Nodup → (∀ n ∈ ns, ∀ d ∈ R n, nmD d = n) → (∀ n ∈ ns, (R n).length ≤ 1) → ((ns.flatMap R).map nmD).Nodup
  | [], _, _, _ => by simp
  | n :: ns, hn, h1, h2 => by
    obtain ⟨hx, hn⟩ := List.nodup_cons.mp hn
    rw [List.flatMap_cons, List.map_append]
    refine List.nodup_append.mpr ⟨?_, nodup_flat hn (fun k hk => h1 k (List.mem_cons_of_mem _ hk)) (fun k hk => h2 k (List.mem_cons_of_mem _ hk)), fun a ha b hb e => ?_⟩
    · have := h2 n List.mem_cons_self
      match R n, this with
      | [], _ => simp
      | [d], _ => simp
    · obtain ⟨d, hd, rfl⟩ := List.mem_map.mp ha
      obtain ⟨d', hd', rfl⟩ := List.mem_map.mp hb
      obtain ⟨k, hk, hd'⟩ := List.mem_flatMap.mp hd'
      rw [h1 n List.mem_cons_self d hd, h1 k (List.mem_cons_of_mem _ hk) d' hd'] at e
      exact hx (e ▸ hk)
theorem ofD_one : ∀ {l : List D} (n : Str), (l.map nmD).Nodup → (ofD l n).length ≤ 1
  | [], n, _ => by simp [ofD]
  | d :: l, n, h => by
    obtain ⟨hx, h⟩ := List.nodup_cons.mp (by simpa using h : (nmD d :: l.map nmD).Nodup)
    unfold ofD
    rw [List.filter_cons]
    by_cases e : nmD d = n
    · rw [if_pos (by simpa using e)]
      have : ofD l n = [] := ofD_none (e ▸ hx)
      unfold ofD at this
      rw [this]; simp
    · rw [if_neg (by simpa using e)]
      exact ofD_one n h
theorem lift_enc {α : Type} {enc : α → D} {V : α → Prop} : ∀ {l : List D}, (∀ d ∈ l, ∃ w, d = enc w ∧ V w) → ∃ ws : List α, l = ws.map enc ∧ ∀ w ∈ ws, V w
  | [], _ => ⟨[], rfl, fun _ z => by cases z⟩
  | d :: l, h => by
    obtain ⟨w, e, hw⟩ := h d List.mem_cons_self
    obtain ⟨ws, e', hws⟩ := lift_enc fun z hz => h z (List.mem_cons_of_mem _ hz)
    exact ⟨w :: ws, by rw [e, e']; rfl, fun z hz => by
      rcases List.mem_cons.mp hz with rfl | hz
      · exact hw
      · exact hws z hz⟩
def DW (l : List D) : Prop := ∀ d ∈ l, ∃ w, d = encWish w ∧ WishV w
def DK' (l : List D) : Prop := ∀ d ∈ l, ∃ k : Lock, d = encLock k ∧ nameS k.1 = true ∧ okV k.2
theorem encWish_row {w : Wish} (h : WishV w) : IsRow (encWish w) := by
  refine ⟨⟨w.1, _, rfl⟩, ?_, ?_⟩
  · have := pus_wish (ws := [w]) fun z hz => by rw [List.mem_singleton.mp hz]; exact h
    simpa [pus] using this
  · have := dps_wish [w]
    simp [dps] at this; omega
theorem encLock_row {k : Lock} (h : nameS k.1 = true) : IsRow (encLock k) := by
  refine ⟨⟨k.1, _, rfl⟩, ?_, by simp [encLock, encV, dp, dps]⟩
  have := pus_lock (ls := [k]) fun z hz => by rw [List.mem_singleton.mp hz]; exact h
  simpa [pus] using this
theorem DW.rows {l : List D} (h : DW l) : Rows l := fun d hd => by
  obtain ⟨w, rfl, hw⟩ := h d hd
  exact encWish_row hw
theorem DK'.rows {l : List D} (h : DK' l) : Rows l := fun d hd => by
  obtain ⟨w, rfl, hw⟩ := h d hd
  exact encLock_row hw.1
theorem DW.of {ws : List Wish} (h : AllW ws) : DW (ws.map encWish) := fun d hd => by
  obtain ⟨w, hw, rfl⟩ := List.mem_map.mp hd
  exact ⟨w, rfl, h w hw⟩
theorem DK'.of {ls : List Lock} (h : LocksV ls) : DK' (ls.map encLock) := fun d hd => by
  obtain ⟨w, hw, rfl⟩ := List.mem_map.mp hd
  exact ⟨w, rfl, h.names w hw, h.2.1 w hw⟩
theorem lock_names (ls : List Lock) : (ls.map encLock).map nmD = ls.map (·.1) := by
  rw [List.map_map]; rfl
theorem srt_locks (ls : List Lock) : srtD (ls.map encLock) = (sortL ls).map encLock := by
  unfold srtD sortL
  rw [sort_map encLock pd]
  rfl
theorem up_nodup {l : List Str} (h : up l) : l.Nodup := h.imp fun {a b} hab e => by rw [e, ltS_irrefl] at hab; cases hab
theorem locks_nodup {ls : List Lock} (h : LocksV ls) : ((ls.map encLock).map nmD).Nodup := by
  rw [lock_names]
  exact up_nodup (up_of h.2.2)
/-- three sides' rows -/
structure Tri where
  b : List D
  m : List D
  t : List D
namespace Tri
noncomputable def out (T : Tri) : List D := outD T.b T.m T.t
def no (T : Tri) : Prop := NoClash T.b T.m T.t
def least (T : Tri) (n : Str) : Prop := LeastC (namesD T.b T.m T.t) (dueN T.b T.m T.t) n
end Tri
theorem Tri.no_least {T : Tri} {n : Str} (h : T.no) (h' : T.least n) : False := h n h'.1 h'.2.1
inductive Told (W L : Tri) : D → Prop where
  | cw (n : Str) : W.least n → Told W L (.tup [.str "clash", .str "wish", .str n])
  | cl (n : Str) : W.no → L.least n → Told W L (.tup [.str "clash", .str "lock", .str n])
  | t8 : W.no → L.no → 8 < W.out.length → Told W L (.tup [.str "too many", .int 8])
  | t40 : W.no → L.no → W.out.length ≤ 8 → 40 < L.out.length → Told W L (.tup [.str "too many", .int 40])
  | mg : W.no → L.no → W.out.length ≤ 8 → L.out.length ≤ 40 → Told W L (.tup [.str "merged", .tup W.out, .tup (srtD L.out)])
theorem Told.uniq {W L : Tri} {d d' : D} (h : Told W L d) (h' : Told W L d') : d = d' := by
  cases h with
  | cw n h =>
    cases h' with
    | cw n' h' => rw [LeastC.uniq (fun _ => Iff.rfl) h h']
    | cl n' z _ => exact (Tri.no_least z h).elim
    | t8 z _ _ => exact (Tri.no_least z h).elim
    | t40 z _ _ _ => exact (Tri.no_least z h).elim
    | mg z _ _ _ => exact (Tri.no_least z h).elim
  | cl n z h =>
    cases h' with
    | cw n' h' => exact (Tri.no_least z h').elim
    | cl n' _ h' => rw [LeastC.uniq (fun _ => Iff.rfl) h h']
    | t8 _ z _ => exact (Tri.no_least z h).elim
    | t40 _ z _ _ => exact (Tri.no_least z h).elim
    | mg _ z _ _ => exact (Tri.no_least z h).elim
  | t8 z z2 h =>
    cases h' with
    | cw n' h' => exact (Tri.no_least z h').elim
    | cl n' _ h' => exact (Tri.no_least z2 h').elim
    | t8 _ _ _ => rfl
    | t40 _ _ h' _ => omega
    | mg _ _ h' _ => omega
  | t40 z z2 h h2 =>
    cases h' with
    | cw n' h' => exact (Tri.no_least z h').elim
    | cl n' _ h' => exact (Tri.no_least z2 h').elim
    | t8 _ _ _ => omega
    | t40 _ _ h' _ => rfl
    | mg _ _ h' _ => omega
  | mg z z2 h h2 =>
    cases h' with
    | cw n' h' => exact (Tri.no_least z h').elim
    | cl n' _ h' => exact (Tri.no_least z2 h').elim
    | t8 _ _ _ => omega
    | t40 _ _ h' _ => omega
    | mg _ _ h' _ => rfl
theorem pre_of {st0 st : Sto} (hl : st0.length ≤ st.length) (h : ∀ i, i < st0.length → st[i]? = st0[i]?) : Pre st0 st := by
  refine ⟨st.drop st0.length, ?_⟩
  have : st.take st0.length = st0 := by
    refine List.ext_getElem? fun i => ?_
    rw [List.getElem?_take]
    split
    · exact h i ‹_›
    · rw [List.getElem?_eq_none (by omega)]
  conv => lhs; rw [← List.take_append_drop st0.length st, this]
theorem Pre.get {st0 st : Sto} (h : Pre st0 st) {n : Nat} {o : Ob} (hn : st0[n]? = some o) : st[n]? = some o := by
  obtain ⟨g, rfl⟩ := h
  exact gb hn
theorem Pre.trans {a b c : Sto} (h : Pre a b) (h' : Pre b c) : Pre a c := by
  obtain ⟨g, rfl⟩ := h
  obtain ⟨g', rfl⟩ := h'
  exact ⟨g ++ g', by simp⟩
theorem Pre.refl (a : Sto) : Pre a a := ⟨[], by simp⟩
theorem sort_locksG {ls : List Lock} {st : Sto} {Q : DK} {d0 : D} (hn : itemsD st d0 = some (ls.map encLock)) (hnm : ∀ k ∈ ls, nameS k.1 = true) (q : Q (.loc st.length) (st ++ [.lst ((sortL ls).map encLock)])) : dSorted [d0] st Q := by
  refine ⟨ls.map encLock, 10, pd, hn, fun e he => ?_, fun d hd d' hd' => ?_, .inl fun d hd => ?_, fun e he => ?_, ?_⟩
  · obtain ⟨k, hk, rfl⟩ := List.mem_map.mp he
    refine pdF_pd st 10 _ ?_ ?_
    · have := pus_lock (ls := [k]) (fun z hz => by rw [List.mem_singleton.mp hz]; exact hnm k hk)
      simpa [pus] using this
    · simp [encLock, encV, dp, dps]
  · obtain ⟨e, he, rfl⟩ := List.mem_map.mp hd
    obtain ⟨e', he', rfl⟩ := List.mem_map.mp hd'
    obtain ⟨k, _, rfl⟩ := List.mem_map.mp he
    obtain ⟨k', _, rfl⟩ := List.mem_map.mp he'
    show PySem.W.alike (lockKey k) (lockKey k') = true
    rw [lockKey_eq, lockKey_eq]
    have := alike_encV k.2 k'.2
    simp [PySem.W.alike, PySem.W.alikeAll, this]
  · obtain ⟨e, he, rfl⟩ := List.mem_map.mp hd
    obtain ⟨k, _, rfl⟩ := List.mem_map.mp he
    exact ⟨_, _, lockKey_eq k⟩
  · obtain ⟨k, _, rfl⟩ := List.mem_map.mp he
    show (lockKey k).depth ≤ 60
    rw [lockKey_eq, pd_encV]
    simp [PyData.depth, PyData.depthAll, vI]
  · rw [DL.sort_map]
    exact q
end CM
namespace CM
open PySem L2 PySem.Spec DL
open PyProof.Rows hiding St
section
variable [EC : ErrCtx]
theorem fld_ev {i q m : Nat} {f : Str} {fs : List (Str × D)} {v : D} {ρ : Env'} {st : Sto} {Q : DK} {Z : DZ} (hi : ρ[i]? = some (some (.loc q))) (hq : st[q]? = some (.ins (errA m) fs)) (hf : fs.lookup f = some v) (k : Q v st) : dFld f [m] (dVar i) ρ st Q Z := by
  rw [s_fld]
  refine var_ev hi ?_
  exact ⟨q, m, fs, v, rfl, by simp, hq, hf, k⟩
/-- a question of right rows -/
structure QAt (st : Sto) (q : Nat) (W L : List D) : Prop where
  ex : ∃ ws ls, W = ws.map encWish ∧ L = ls.map encLock ∧ AskV ws ls ∧ st[q]? = some (.ins (errA 102) (askF ws ls))
theorem QAt.pre {st st' : Sto} {q : Nat} {W L : List D} (h : QAt st q W L) (p : Pre st st') : QAt st' q W L := by
  obtain ⟨ws, ls, e1, e2, v, hq⟩ := h.ex
  exact ⟨ws, ls, e1, e2, v, p.get hq⟩
theorem QAt.fields {st : Sto} {q : Nat} {W L : List D} (h : QAt st q W L) : ∃ fs, st[q]? = some (.ins (errA 102) fs) ∧ fs.lookup ("wishes" : Str) = some (D.tup W) ∧ fs.lookup ("locks" : Str) = some (D.tup L) := by
  obtain ⟨ws, ls, e1, e2, v, hq⟩ := h.ex
  subst e1 e2
  exact ⟨_, hq, rfl, by simp only [askF, List.lookup]; rw [show (("locks" : Str) == ("wishes" : Str)) = false from by decide]; simp⟩
theorem QAt.rows {st : Sto} {q : Nat} {W L : List D} (h : QAt st q W L) : DW W ∧ DK' L ∧ W.length ≤ 8 ∧ L.length ≤ 40 ∧ (L.map nmD).Nodup := by
  obtain ⟨ws, ls, e1, e2, v, hq⟩ := h.ex
  subst e1 e2
  have hL : LocksV ls := ⟨v.l40, v.lv, v.ln⟩
  exact ⟨DW.of v.wv, DK'.of hL, by rw [List.length_map]; exact v.w8, by rw [List.length_map]; exact v.l40, locks_nodup hL⟩
/-- what a right outcome is made of -/
theorem out_typed {W L : Tri} (hm : DW W.m) (ht : DW W.t) (lm : DK' L.m) (lt : DK' L.t) (nm : (L.m.map nmD).Nodup) (nt : (L.t.map nmD).Nodup) (h8 : W.out.length ≤ 8) (h40 : L.out.length ≤ 40) :
    ∃ ws ls, W.out = ws.map encWish ∧ L.out = ls.map encLock ∧ (∀ k ∈ ls, nameS k.1 = true) ∧ AskV ws (sortL ls) := by
  obtain ⟨ws, e1, hw⟩ := lift_enc (enc := encWish) (V := WishV) (l := W.out) fun d hd => by
    rcases outD_mem hd with z | z
    · exact hm d z
    · exact ht d z
  obtain ⟨ls, e2, hl⟩ := lift_enc (enc := encLock) (V := fun k : Lock => nameS k.1 = true ∧ okV k.2) (l := L.out) fun d hd => by
    rcases outD_mem hd with z | z
    · exact lm d z
    · exact lt d z
  have hnd : (ls.map (·.1)).Nodup := by
    rw [← lock_names, ← e2]
    refine nodup_flat (nodup_addAll _ _ (by simp)) (fun n _ d hd => (dueL_mem hd).2) fun n _ => ?_
    rcases dueL_sub (b := L.b) (m := L.m) (t := L.t) (n := n) with e | e | e
    · rw [e]; exact ofD_one n nm
    · rw [e]; exact ofD_one n nt
    · rw [e]; simp
  have hF : LockF ls := ⟨hnd, hl⟩
  have hV := hF.sorted (by rw [e2] at h40; simpa using h40)
  exact ⟨ws, ls, e1, e2, fun k hk => (hl k hk).1, by rw [e1] at h8; simpa using h8, hw, hV.1, hV.2.1, hV.2.2⟩
def sp_merged : DSp := fun ds st Q Z => match ds with
  | [.loc q0, .loc q1, .loc q2] => ∃ W L : Tri, QAt st q0 W.b L.b ∧ QAt st q1 W.m L.m ∧ QAt st q2 W.t L.t ∧
      (∀ st' d, Pre st st' → (∀ n, W.least n → d = .tup [.str "clash", .str "wish", .str n] → Q d st') ∧ (∀ n, W.no → L.least n → d = .tup [.str "clash", .str "lock", .str n] → Q d st')) ∧
      (∀ st', Pre st st' → (W.no → L.no → 8 < W.out.length → Z (errX 8 [("most", .int 8)]) st') ∧ (W.no → L.no → W.out.length ≤ 8 → 40 < L.out.length → Z (errX 8 [("most", .int 40)]) st')) ∧
      (∀ st' k, Pre st st' → QAt st' k W.out (srtD L.out) → W.no → L.no → W.out.length ≤ 8 → L.out.length ≤ 40 → Q (.tup [.str "merged", .loc k]) st')
  | _ => False
theorem e_mrows {b m t : List D} {st : Sto} {Q : DK} {Z : DX → Sto → Prop} : sp_mrows [.tup b, .tup m, .tup t] st Q Z = (Rows b ∧ Rows m ∧ Rows t ∧ b.length ≤ 40 ∧ m.length ≤ 40 ∧ t.length ≤ 40 ∧ ∀ st' k, Pre st st' → st.length ≤ k → st'[k]? = some (.dK (dueK b m t)) → Q (.loc k) st') := rfl
theorem r_merged : Rd 3 sp_merged (RD.t_merged sp_qinit sp_mrows sp_clash sp_rwithin) RD.N_merged := by
  intro ds st Q Z hl h
  match ds, hl, h with
  | [.loc q0, .loc q1, .loc q2], _, ⟨W, L, A0, A1, A2, qc, qz, qm⟩ =>
    obtain ⟨wb, lb, wb8, lb40, _⟩ := A0.rows
    obtain ⟨wm, lm, wm8, lm40, nm⟩ := A1.rows
    obtain ⟨wt, lt, wt8, lt40, nt⟩ := A2.rows
    unfold RD.t_merged
    show dSeq _ _ _ [some (.loc q0), some (.loc q1), some (.loc q2), none, none, none, none] st
    obtain ⟨f0, a0, b0, c0⟩ := A0.fields
    obtain ⟨f1, a1, b1, c1⟩ := A1.fields
    obtain ⟨f2, a2, b2, c2⟩ := A2.fields
    rw [s_seq, s_asg, s_call, s_cons]
    refine fld_ev (m := 102) rfl a0 b0 ?_
    rw [s_cons]
    refine fld_ev (m := 102) rfl a1 b1 ?_
    rw [s_cons]
    refine fld_ev (m := 102) rfl a2 b2 ?_
    rw [s_nil]
    refine ⟨rfl, ?_⟩
    rw [e_mrows]
    refine ⟨wb.rows, wm.rows, wt.rows, by omega, by omega, by omega, fun st1 fw p1 hw1 hw => ?_⟩
    (try dsimp only); rw [s_gN]
    try dsimp only
    show dSeq _ _ _ [some (.loc q0), some (.loc q1), some (.loc q2), some (.loc fw), none, none, none] st1
    rw [s_seq, s_asg, s_call, s_cons]
    refine fld_ev (m := 102) rfl (p1.get a0) c0 ?_
    rw [s_cons]
    refine fld_ev (m := 102) rfl (p1.get a1) c1 ?_
    rw [s_cons]
    refine fld_ev (m := 102) rfl (p1.get a2) c2 ?_
    rw [s_nil]
    refine ⟨rfl, ?_⟩
    rw [e_mrows]
    refine ⟨lb.rows, lm.rows, lt.rows, by omega, by omega, by omega, fun st2 fl p2 hl1 hl => ?_⟩
    (try dsimp only); rw [s_gN]
    try dsimp only
    have hwl : fw < st1.length := (List.getElem?_eq_some_iff.mp hw).1
    have hll : fl < st2.length := (List.getElem?_eq_some_iff.mp hl).1
    have hw2 := p2.get hw
    have p02 := p1.trans p2
    have l1 := p1.len
    have l2 := p2.len
    show dSeq _ _ _ [some (.loc q0), some (.loc q1), some (.loc q2), some (.loc fw), some (.loc fl), none, none] st2
    rw [s_seq, s_asg, s_call, s_cons, s_c, s_cons]
    refine var_ev (d := .loc fw) rfl ?_
    rw [s_nil]
    refine ⟨rfl, namesD W.b W.m W.t, dueN W.b W.m W.t, hw2, by have := names_len (b := W.b) (m := W.m) (t := W.t) (by omega) (by omega) (by omega); omega, fun st3 hl3 hs3 hd3 => ?_⟩
    have p03 : Pre st st3 := pre_of (by omega) fun i hi => by rw [hs3 i (by omega) (by omega)]; obtain ⟨g, rfl⟩ := p02; rw [List.getElem?_append_left hi]
    have hl3' : st3[fl]? = some (.dK (dueK L.b L.m L.t)) := by rw [hs3 fl (by omega) hll]; exact hl
    refine ⟨fun wno => ?_, fun n hn => ?_⟩
    · (try dsimp only); rw [s_gN]
      try dsimp only
      show dSeq _ _ _ [some (.loc q0), some (.loc q1), some (.loc q2), some (.loc fw), some (.loc fl), some .non, none] st3
      rw [s_seq, s_ifS, s_test, s_op]
      refine var_ev (d := .non) rfl ?_
      rw [s_c, s_is]
      try dsimp only [id]
      rw [if_pos (by rfl), s_asg, s_call, s_cons, s_c, s_cons]
      refine var_ev (d := .loc fl) rfl ?_
      rw [s_nil]
      refine ⟨rfl, namesD L.b L.m L.t, dueN L.b L.m L.t, hl3', by have := names_len lb40 lm40 lt40; omega, fun st4 hl4 hs4 hd4 => ?_⟩
      have p04 : Pre st st4 := pre_of (by omega) fun i hi => by rw [hs4 i (by omega) (by omega)]; obtain ⟨g, rfl⟩ := p03; rw [List.getElem?_append_left hi]
      have hd3' : dkAt st4 fw = some (mkD (namesD W.b W.m W.t) fun n => encDue (dueN W.b W.m W.t n)) := by
        unfold dkAt at hd3 ⊢
        rw [hs4 fw (by omega) (by omega)]; exact hd3
      refine ⟨fun lno => ?_, fun n hn => ?_⟩
      · (try dsimp only); rw [s_gN]
        try dsimp only
        show dSeq _ _ _ [some (.loc q0), some (.loc q1), some (.loc q2), some (.loc fw), some (.loc fl), some .non, none] st4
        rw [s_seq, s_ifS, s_test, s_op]
        refine var_ev (d := .non) rfl ?_
        rw [s_c, s_is]
        try dsimp only
        rw [if_neg (by simp), s_next]
        try dsimp only
        have eW : dkAt st4 fw = some (mkD (namesD W.b W.m W.t) fun n => .tup (dueL W.b W.m W.t n)) := by rw [hd3']; exact congrArg some (dueK_no wno)
        have eL : dkAt st4 fl = some (mkD (namesD L.b L.m L.t) fun n => .tup (dueL L.b L.m L.t n)) := by rw [hd4]; exact congrArg some (dueK_no lno)
        rw [s_seq, s_asg, s_call, s_cons, s_c, s_cons]
        refine var_ev (d := .loc fw) rfl ?_
        rw [s_nil]
        refine ⟨rfl, _, _, eW, out_lenM (by omega) (by omega) (by omega), fun h8 st5 p5 => ?_, fun h8 st5 kw p5 k5 hk5 => ?_⟩
        · exact .inl ((qz st5 (p04.trans p5)).1 wno lno (by have : (8 : Int) < (W.out.length : Int) := h8; omega))
        have hw8 : W.out.length ≤ 8 := by have : (W.out.length : Int) ≤ 8 := h8; omega
        (try dsimp only); rw [s_gN]
        try dsimp only
        show dRet _ _ [some (.loc q0), some (.loc q1), some (.loc q2), some (.loc fw), some (.loc fl), some .non, some (.loc kw)] st5
        rw [s_ret, s_dtup, s_cons, s_c, s_cons, s_makeV, s_cons, s_cb, s_cons]
        refine var_ev (d := .loc kw) rfl ?_
        rw [s_nil, s_tupOf, s_items_loc, hk5]
        dsimp only
        rw [s_cons, s_cb, s_cons, s_cb, s_cons, s_call, s_cons, s_c, s_cons]
        refine var_ev (d := .loc fl) rfl ?_
        rw [s_nil]
        have eL5 : dkAt st5 fl = some (mkD (namesD L.b L.m L.t) fun n => .tup (dueL L.b L.m L.t n)) := by obtain ⟨g, rfl⟩ := p5; exact dkAt_app eL g
        refine ⟨rfl, _, _, eL5, out_lenM lb40 lm40 lt40, fun h40 st6 p6 => ?_, fun h40 st6 kl p6 k6 hk6 => ?_⟩
        · exact .inl ((qz st6 ((p04.trans p5).trans p6)).2 wno lno hw8 (by have : (40 : Int) < (L.out.length : Int) := h40; omega))
        have hl40' : L.out.length ≤ 40 := by have : (L.out.length : Int) ≤ 40 := h40; omega
        obtain ⟨ws, ls, e1, e2, hn, hV⟩ := out_typed (W := W) (L := L) wm wt lm lt nm nt hw8 hl40'
        have p06 := (p04.trans p5).trans p6
        try dsimp only
        rw [s_nil]
        refine sort_locksG (ls := ls) (by simp only [s_items_loc, hk6]; exact congrArg some e2) hn ?_
        have p07 := p06.app [Ob.lst ((sortL ls).map encLock)]
        have hk7 : (st6 ++ [Ob.lst ((sortL ls).map encLock)])[st6.length]? = some (.lst ((sortL ls).map encLock)) := getElem?_push
        generalize st6 ++ [Ob.lst ((sortL ls).map encLock)] = st7 at p07 hk7 ⊢
        try dsimp only
        rw [s_nil, s_tupOf, s_items_loc, hk7]
        dsimp only
        rw [s_nil]
        refine ⟨rfl, ws, sortL ls, congrArg D.tup e1, rfl, hV, getElem?_push, rfl, ?_⟩
        try dsimp only
        rw [s_nil, set_end]
        refine ⟨szk _ (by simp), .inl ?_⟩
        refine qm _ st7.length (p07.app _) ⟨ws, sortL ls, e1, ?_, hV, getElem?_push⟩ wno lno hw8 hl40'
        have : srtD L.out = srtD (ls.map encLock) := congrArg srtD e2
        rw [this, srt_locks]
      · (try dsimp only); rw [s_gN]
        try dsimp only
        show dSeq _ _ _ [some (.loc q0), some (.loc q1), some (.loc q2), some (.loc fw), some (.loc fl), some (.tup [.str "clash", .str "lock", .str n]), none] st4
        rw [s_seq, s_ifS, s_test, s_op]
        refine var_ev (d := .tup [.str "clash", .str "lock", .str n]) rfl ?_
        rw [s_c, s_is]
        try dsimp only
        rw [if_pos (by rfl), s_ret]
        refine var_ev (d := .tup [.str "clash", .str "lock", .str n]) rfl ?_
        exact .inl ((qc st4 _ p04).2 n wno hn rfl)
    · (try dsimp only); rw [s_gN]
      try dsimp only
      show dSeq _ _ _ [some (.loc q0), some (.loc q1), some (.loc q2), some (.loc fw), some (.loc fl), some (.tup [.str "clash", .str "wish", .str n]), none] st3
      rw [s_seq, s_ifS, s_test, s_op]
      refine var_ev (d := .tup [.str "clash", .str "wish", .str n]) rfl ?_
      rw [s_c, s_is]
      try dsimp only [id]
      rw [if_neg (by simp), s_next]
      try dsimp only
      rw [s_seq, s_ifS, s_test, s_op]
      refine var_ev (d := .tup [.str "clash", .str "wish", .str n]) rfl ?_
      rw [s_c, s_is]
      try dsimp only
      rw [if_pos (by rfl), s_ret]
      refine var_ev (d := .tup [.str "clash", .str "wish", .str n]) rfl ?_
      exact .inl ((qc st3 _ p03).1 n hn rfl)
end
end CM
namespace CM
open PySem L2 PySem.Spec DL
open PyProof.Rows hiding St
def sp_lof : DSp := fun ds st Q _ => match ds with
  | [.tup l, .str n] => Rows l ∧ l.length ≤ 40 ∧ ∀ st', Pre st st' → Q (.tup (ofD l n)) st'
  | _ => False
theorem row0_ev {i : Nat} {r : D} {ρ : Env'} {st : Sto} {Q : DK} {Z : DZ} (hr : IsRow r) (h : ρ[i]? = some (some r)) (q : Q (.str (nmD r)) st) : dOp dIx (dVar i) (dC (.int 0)) ρ st Q Z := by
  obtain ⟨⟨n, l, rfl⟩, _, _⟩ := hr
  exact ixv_ev (ds := .str n :: l) (d := .str n) h atI_nat0 q
theorem r__law_of : Rd 2 sp_lof RD.t__law_of RD.N__law_of := by
  intro ds st Q Z hl h
  match ds, hl, h with
  | [.tup l, .str n], _, ⟨hr, hll, q⟩ =>
    unfold RD.t__law_of
    show dRet _ _ [some (.tup l), some (.str n), none] st
    rw [s_ret, s_cb, s_cons, s_lc, s_iD]
    refine var_ev (d := .tup l) rfl ?_
    rw [s_walk_tup]
    have key := fun (Q : DK) (q : Q (.loc st.length) (st ++ [.lst (ofD l n)])) => runC_filterM (ρ := wipeD [some (.tup l), some (.str n), none] [2]) (te := RD.e__law_of_2) (tt := RD.i__law_of_1) (Q := Q) (i := 2) (inj := id) (p := fun r => decide (nmD r = n)) (G := fun _ => True) (st := st) trivial (fun x QT hq => var_ev rfl hq) l [] (fun r hr' QT hq => by
      unfold RD.i__law_of_1
      rw [s_test, s_op]
      refine row0_ev (hr r hr') rfl ?_
      refine var_ev (d := .str n) rfl ?_
      show dEqB id (.str (nmD r)) (.str n) _ _
      rw [s_eq_str]
      exact hq) (by simp; omega) (by
      have e : (l.filter fun r => decide (nmD r = n)).map id = ofD l n := List.map_id _
      rw [e]
      exact q)
    rw [List.map_id] at key
    refine key _ ?_
    rw [s_nil, s_tupOf, s_items_loc, getElem?_push]
    dsimp only
    exact .inl (q _ ⟨_, rfl⟩)
theorem dueN_none {b m t : List D} {n : Str} : dueN b m t n = none ↔ ofD m n ≠ ofD b n ∧ ofD t n ≠ ofD b n ∧ ofD m n ≠ ofD t n := by
  unfold dueN dueO
  by_cases h1 : ofD m n = ofD b n
  · rw [if_pos h1]; simp [h1]
  · rw [if_neg h1]
    by_cases h2 : ofD t n = ofD b n ∨ ofD m n = ofD t n
    · rw [if_pos h2]
      constructor
      · intro z; cases z
      · rintro ⟨_, z1, z2⟩
        rcases h2 with h2 | h2
        · exact absurd h2 z1
        · exact absurd h2 z2
    · rw [if_neg h2]
      simp only [true_iff]
      exact ⟨h1, fun z => h2 (.inl z), fun z => h2 (.inr z)⟩
theorem dueL_eq {b m t : List D} {n : Str} (h : dueN b m t n ≠ none) : (ofD m n = ofD b n → dueL b m t n = ofD t n) ∧ (ofD m n ≠ ofD b n → dueL b m t n = ofD m n) := by
  unfold dueL dueN dueO at *
  constructor
  · intro e; rw [if_pos e]; rfl
  · intro e
    rw [if_neg e] at h ⊢
    by_cases h2 : ofD t n = ofD b n ∨ ofD m n = ofD t n
    · rw [if_pos h2]; rfl
    · rw [if_neg h2] at h; exact absurd rfl h
def threeL (T : Tri) : Ob := .lst [.tup T.b, .tup T.m, .tup T.t]
structure TriV (T : Tri) : Prop where
  b : Rows T.b
  m : Rows T.m
  t : Rows T.t
  lb : T.b.length ≤ 40
  lm : T.m.length ≤ 40
  lt : T.t.length ≤ 40
def namesT (T : Tri) : List Str := (T.b ++ T.m ++ T.t).map nmD
theorem mem_namesD {T : Tri} {y : Str} : y ∈ namesD T.b T.m T.t ↔ y ∈ namesT T := by
  unfold namesD namesT
  rw [mem_addAll]; simp
def sp_ldue65 : DSp := fun ds st Q _ => match ds with
  | [.loc n] => ∃ T : Tri, TriV T ∧ st[n]? = some (threeL T) ∧ (∀ st' f k, Pre st st' → T.least k → Q (.tup [.loc f, .str k]) st') ∧
      (∀ st' f NS, Pre st st' → st.length ≤ f → st'[f]? = some (.dK (mkD NS fun k => .tup (dueL T.b T.m T.t k))) → (∀ y, y ∈ NS ↔ y ∈ namesT T) → T.no → Q (.tup [.loc f, .non]) st')
  | _ => False
theorem ext_evJ {i g : Nat} {te : DTE} {es fs : List D} {m : Nat} {st1 : Sto} {E : DEnds} {ρ : Env'} {st : Sto} (h : ρ[i]? = some (some (.loc g))) (hg : st[g]? = some (.lst es)) (he : ∀ (QE : DK) Z, QE (.loc m) st1 → te ρ st QE Z) (hg1 : st1[g]? = some (.lst es)) (hm : st1[m]? = some (.lst fs)) (hl : es.length + fs.length < 1000) (q : E.nx ρ (st1.set g (.lst (es ++ fs)))) :
    dDrop (dBM "list" dExtendA (dVar i) (dCons te dNil)) E ρ st := by
  rw [s_drop, s_bm]
  refine var_ev h ?_
  rw [s_tyD_loc, hg]
  refine ⟨rfl, ?_⟩
  rw [s_cons]
  refine he _ _ ?_
  rw [s_nil, s_extendA]
  exact ⟨es, fs, hg1, .inr ⟨m, rfl, hm⟩, szk' (by omega), q⟩
/-- one side's names -/
theorem due_turn1 {E : DEnds} {n f g : Nat} {l : List D} {acc : List D} {st : Sto} {y4 : Option D} (hr : Rows l) (hg : st[g]? = some (.lst acc)) (hl : acc.length + l.length < 1000)
    (hk : ∀ st', (∀ i, i ≠ g → i < st.length → st'[i]? = st[i]?) → st.length ≤ st'.length → st'[g]? = some (.lst (acc ++ l.map fun r => .str (nmD r))) → E.nx [some (.loc n), some (.loc f), some (.loc g), some (.tup l), y4, none, none, none, none] st') :
    RD.b__law_due_k65_2 sp_lof E [some (.loc n), some (.loc f), some (.loc g), some (.tup l), y4, none, none, none, none] st := by
  unfold RD.b__law_due_k65_2
  have hgl : g < st.length := (List.getElem?_eq_some_iff.mp hg).1
  refine ext_evJ (g := g) (es := acc) (fs := l.map fun r => .str (nmD r)) (m := st.length) (st1 := st ++ [.lst (l.map fun r => .str (nmD r))]) rfl hg (fun QE Z qe => ?_) (gb hg) getElem?_push (by simpa using hl) ?_
  · rw [s_lc, s_iD]
    refine var_ev (d := .tup l) rfl ?_
    rw [s_walk_tup]
    have key := runC_mem (ρ := wipeD [some (.loc n), some (.loc f), some (.loc g), some (.tup l), y4, none, none, none, none] [4]) (te := RD.e__law_due_k65_1 sp_lof) (Q := QE) (i := 4) (inj := id) (out := fun r => .str (nmD r)) (G := fun _ => True) (st := st) trivial l [] (fun r hr' QT hq => by
      unfold RD.e__law_due_k65_1
      exact row0_ev (hr r hr') rfl hq) (by simp; omega) (by simpa using qe)
    rw [List.map_id] at key
    exact key
  · refine hk _ (fun i h1 h2 => ?_) (by simp) ?_
    · rw [List.getElem?_set_ne (Ne.symm h1), List.getElem?_append_left h2]
    · rw [List.getElem?_set_self (by simp; omega)]
structure DU (st0 st : Sto) (f k n : Nat) (T : Tri) (all : List D) (done : List Str) : Prop where
  pre : Pre st0 st
  fk : f ≠ k
  f0 : st0.length ≤ f
  k0 : st0.length ≤ k
  hf : st[f]? = some (.dK (mkD done fun y => .tup (dueL T.b T.m T.t y)))
  hk : st[k]? = some (.lst all)
  hn : st0[n]? = some (threeL T)
theorem DU.grow {st0 st st' : Sto} {f k n : Nat} {T : Tri} {all : List D} {done : List Str} (U : DU st0 st f k n T all done) (p : Pre st st') : DU st0 st' f k n T all done :=
  ⟨U.pre.trans p, U.fk, U.f0, U.k0, p.get U.hf, p.get U.hk, U.hn⟩
theorem lp_due2 {E : DEnds} {st0 : Sto} {f g k n : Nat} {T : Tri} {all : List D} {y3 y4 : Option D} (hT : TriV T)
    (hkc : ∀ st' y, Pre st0 st' → T.least y → E.rt (.tup [.loc f, .str y]) st')
    (hkn : ∀ st' NS y5 y6 y7 y8, DU st0 st' f k n T all NS → (∀ y, y ∈ NS ↔ y ∈ namesT T) → T.no → E.nx [some (.loc n), some (.loc f), some (.loc g), y3, y4, y5, y6, y7, y8] st') :
    ∀ (todo done : List Str) (st : Sto) (y5 y6 y7 y8 : Option D), DU st0 st f k n T all done → up (done ++ todo) → (∀ y, y ∈ done ++ todo ↔ y ∈ namesT T) → (∀ y ∈ done, dueN T.b T.m T.t y ≠ none) → (done ++ todo).length < 900 →
      runG (gN 5) (RD.b__law_due_k65_4 sp_lof) E (fun st => st[k]? = some (.lst all)) (todo.map .str) [some (.loc n), some (.loc f), some (.loc g), y3, y4, y5, y6, y7, y8] st
  | [], done, st, y5, y6, y7, y8, U, hu, hm, hd, _ => ⟨U.hk, hkn st done y5 y6 y7 y8 U (by simpa using hm) fun y hy => hd y (by simpa using (hm y).mpr (mem_namesD.mp hy))⟩
  | x :: todo, done, st, y5, y6, y7, y8, U, hu, hm, hd, hl => by
    rw [List.map_cons, runG_cons]
    refine ⟨U.hk, ?_⟩
    have ih := fun st y5 y6 y7 y8 h1 h2 => lp_due2 (E := E) (st0 := st0) (g := g) (n := n) (y3 := y3) (y4 := y4) hT hkc hkn todo (done ++ [x]) st y5 y6 y7 y8 h1 (by rw [List.append_assoc]; exact hu) (by rw [List.append_assoc]; exact hm) h2 (by rw [List.append_assoc]; exact hl)
    generalize hR : runG (gN 5) (RD.b__law_due_k65_4 sp_lof) E (fun st => st[k]? = some (.lst all)) (todo.map .str) = R at ih ⊢
    rw [s_gN]
    unfold RD.b__law_due_k65_4
    show dSeq _ _ _ [some (.loc n), some (.loc f), some (.loc g), y3, y4, some (.str x), y6, y7, y8] st
    have turn : ∀ (l : List D) (st : Sto) (QE : DK) (ρ : Env'), ρ[5]? = some (some (.str x)) → ρ[3]? = some (some (.tup l)) → Rows l → l.length ≤ 40 → (∀ st', Pre st st' → QE (.tup (ofD l x)) st') → RD.e__law_due_k65_3 sp_lof ρ st QE Z0 := fun l st QE ρ h5 h3 hr hll qe => by
      unfold RD.e__law_due_k65_3
      rw [s_call, s_cons]
      refine var_ev h3 ?_
      rw [s_cons]
      refine var_ev h5 ?_
      rw [s_nil]
      exact ⟨rfl, hr, hll, qe⟩
    rw [s_seq, s_asg, s_lc, s_iD]
    refine var_ev (d := .loc n) rfl ?_
    rw [s_walk_loc]
    refine ⟨_, U.pre.get U.hn, ?_⟩
    rw [runC_cons]
    refine ⟨U.pre.get U.hn, ?_⟩
    rw [s_gN, s_yes, if_pos rfl]
    refine turn T.b st _ _ rfl rfl hT.b hT.lb fun st1 p1 => ⟨sizeLine_big (by simp), ?_⟩
    have U1 := U.grow p1
    rw [runC_cons]
    refine ⟨U1.pre.get U.hn, ?_⟩
    rw [s_gN, s_yes, if_pos rfl]
    refine turn T.m st1 _ _ rfl rfl hT.m hT.lm fun st2 p2 => ⟨sizeLine_big (by simp), ?_⟩
    have U2 := U1.grow p2
    rw [runC_cons]
    refine ⟨U2.pre.get U.hn, ?_⟩
    rw [s_gN, s_yes, if_pos rfl]
    refine turn T.t st2 _ _ rfl rfl hT.t hT.lt fun st3 p3 => ⟨sizeLine_big (by simp), ?_⟩
    have U3 := U2.grow p3
    rw [runC_nil]
    refine ⟨U3.pre.get U.hn, ?_⟩
    have U4 : DU st0 (st3 ++ [Ob.lst ([] ++ [.tup (ofD T.b x)] ++ [.tup (ofD T.m x)] ++ [.tup (ofD T.t x)])]) f k n T all done := U3.grow ⟨_, rfl⟩
    have h4 : (st3 ++ [Ob.lst ([] ++ [.tup (ofD T.b x)] ++ [.tup (ofD T.m x)] ++ [.tup (ofD T.t x)])])[st3.length]? = some (.lst ([] ++ [.tup (ofD T.b x)] ++ [.tup (ofD T.m x)] ++ [.tup (ofD T.t x)])) := getElem?_push
    generalize st3 ++ [Ob.lst ([] ++ [.tup (ofD T.b x)] ++ [.tup (ofD T.m x)] ++ [.tup (ofD T.t x)])] = st4 at U4 h4 ⊢
    rw [s_gLst]
    refine ⟨_, h4, rfl, ?_⟩
    show gCons' _ _ [.tup (ofD T.b x), .tup (ofD T.m x), .tup (ofD T.t x)] _ _ _
    rw [s_gCons, s_gN, s_gCons, s_gN, s_gCons, s_gN, s_gNil]
    try dsimp only
    show dSeq _ _ _ [some (.loc n), some (.loc f), some (.loc g), y3, y4, some (.str x), some (.tup (ofD T.b x)), some (.tup (ofD T.m x)), some (.tup (ofD T.t x))] st4
    have rb := hT.b.filter fun r => decide (nmD r = x)
    have rm := hT.m.filter fun r => decide (nmD r = x)
    have rt := hT.t.filter fun r => decide (nmD r = x)
    have pb : pus (ofD T.b x) = true := rb.pus
    have pm : pus (ofD T.m x) = true := rm.pus
    have pt : pus (ofD T.t x) = true := rt.pus
    have db : dps (ofD T.b x) ≤ 10 := rb.dps
    have dm : dps (ofD T.m x) ≤ 10 := rm.dps
    have dt : dps (ofD T.t x) ≤ 10 := rt.dps
    have hxd : x ∉ done := fun z => by
      have := (List.pairwise_append.mp hu).2.2 x z x List.mem_cons_self
      rw [ltS_irrefl] at this; cases this
    have hlen : (mkD done fun y => D.tup (dueL T.b T.m T.t y)).length < 1000 := by simp [mkD] at hl ⊢; omega
    -- behind the store
    have next : ∀ v : List D, (dueN T.b T.m T.t x ≠ none → v = dueL T.b T.m T.t x) →
        dIfS (dAnd (dTest (dOp dNe (dVar 7) (dVar 6))) (dAnd (dTest (dOp dNe (dVar 8) (dVar 6))) (dTest (dOp dNe (dVar 7) (dVar 8))))) (dRet (dTup (dCons (dVar 1) (dCons (dVar 5) dNil)))) dNext { nx := R, rt := E.rt, bk := E.nx, ct := R, xs := E.xs }
          [some (.loc n), some (.loc f), some (.loc g), y3, y4, some (.str x), some (.tup (ofD T.b x)), some (.tup (ofD T.m x)), some (.tup (ofD T.t x))] (st4.set f (.dK (putD (mkD done fun y => .tup (dueL T.b T.m T.t y)) (.inr x) (.tup v)))) := fun v hv => by
      have hp5 : Pre st0 (st4.set f (.dK (putD (mkD done fun y => .tup (dueL T.b T.m T.t y)) (.inr x) (.tup v)))) := U4.pre.set U4.f0 _
      have go : dueN T.b T.m T.t x ≠ none → R [some (.loc n), some (.loc f), some (.loc g), y3, y4, some (.str x), some (.tup (ofD T.b x)), some (.tup (ofD T.m x)), some (.tup (ofD T.t x))] (st4.set f (.dK (putD (mkD done fun y => .tup (dueL T.b T.m T.t y)) (.inr x) (.tup v)))) := fun hne => by
        refine ih _ _ _ _ _ ⟨hp5, U4.fk, U4.f0, U4.k0, ?_, by rw [List.getElem?_set_ne U4.fk]; exact U4.hk, U4.hn⟩ fun y hy => ?_
        · rw [List.getElem?_set_self (List.getElem?_eq_some_iff.mp U4.hf).1, putD_mkD, if_neg hxd, hv hne]
          congr 2
          refine mkD_congr fun y _ => ?_
          split
          · rename_i e; rw [e]
          · rfl
        · rcases List.mem_append.mp hy with hy | hy
          · exact hd y hy
          · rw [List.mem_singleton.mp hy]; exact hne
      rw [s_ifS, s_and, s_test, s_op]
      refine var_ev (d := .tup (ofD T.m x)) rfl ?_
      refine var_ev (d := .tup (ofD T.b x)) rfl ?_
      refine eqT_ev (f := not) pm pb (by omega) (by omega) fun k1 e1 => ?_
      try dsimp only
      by_cases h1 : ofD T.m x = ofD T.b x
      · rw [if_neg (by rw [e1.mpr h1]; simp), if_neg (by simp), s_next]
        exact go fun z => (dueN_none.mp z).1 h1
      · rw [if_pos (by cases k1 with | true => exact absurd (e1.mp rfl) h1 | false => rfl), s_and, s_test, s_op]
        refine var_ev (d := .tup (ofD T.t x)) rfl ?_
        refine var_ev (d := .tup (ofD T.b x)) rfl ?_
        refine eqT_ev (f := not) pt pb (by omega) (by omega) fun k2 e2 => ?_
        try dsimp only
        by_cases h2 : ofD T.t x = ofD T.b x
        · rw [if_neg (by rw [e2.mpr h2]; simp), if_neg (by simp), s_next]
          exact go fun z => (dueN_none.mp z).2.1 h2
        · rw [if_pos (by cases k2 with | true => exact absurd (e2.mp rfl) h2 | false => rfl), s_test, s_op]
          refine var_ev (d := .tup (ofD T.m x)) rfl ?_
          refine var_ev (d := .tup (ofD T.t x)) rfl ?_
          refine eqT_ev (f := not) pm pt (by omega) (by omega) fun k3 e3 => ?_
          try dsimp only
          by_cases h3 : ofD T.m x = ofD T.t x
          · rw [if_neg (by rw [e3.mpr h3]; simp), s_next]
            exact go fun z => (dueN_none.mp z).2.2 h3
          · rw [if_pos (by cases k3 with | true => exact absurd (e3.mp rfl) h3 | false => rfl), s_ret, s_dtup, s_cons]
            refine var_ev (d := .loc f) rfl ?_
            rw [s_cons]
            refine var_ev (d := .str x) rfl ?_
            rw [s_nil]
            refine ⟨szk _ (by simp), hkc _ x hp5 ⟨mem_namesD.mpr ((hm x).mp (by simp)), dueN_none.mpr ⟨h1, h2, h3⟩, fun y hy ey => ?_⟩⟩
            have hyl := (hm y).mpr (mem_namesD.mp hy)
            rcases List.mem_append.mp hyl with hyl | hyl
            · exact absurd ey (hd y hyl)
            · rcases List.mem_cons.mp hyl with rfl | hyl
              · exact ltS_irrefl _
              · have h5 := (List.pairwise_cons.mp (List.pairwise_append.mp hu).2.1).1 y hyl
                cases hh : ltS y x with
                | false => rfl
                | true => have := ltS_trans h5 hh; rw [ltS_irrefl] at this; cases this
    try dsimp only
    rw [s_seq, s_asg, s_if, s_test, s_op]
    refine var_ev (d := .tup (ofD T.m x)) rfl ?_
    refine var_ev (d := .tup (ofD T.b x)) rfl ?_
    refine eqT_ev (f := id) pm pb (by omega) (by omega) fun k1 e1 => ?_
    try dsimp only [id]
    by_cases h1 : ofD T.m x = ofD T.b x
    · rw [if_pos (e1.mpr h1)]
      refine var_ev (d := .tup (ofD T.t x)) rfl ?_
      exact putv_ev (k := .inr x) (y := .str x) rfl rfl U4.hf rfl hlen (next _ fun hne => ((dueL_eq hne).1 h1).symm)
    · rw [if_neg (fun z => h1 (e1.mp z))]
      refine var_ev (d := .tup (ofD T.m x)) rfl ?_
      exact putv_ev (k := .inr x) (y := .str x) rfl rfl U4.hf rfl hlen (next _ fun hne => ((dueL_eq hne).2 h1).symm)
theorem r__law_due_k65 : Rd 1 sp_ldue65 (RD.t__law_due_k65 sp_lof) RD.N__law_due_k65 := by
  intro ds st Q Z hl h
  match ds, hl, h with
  | [.loc n], _, ⟨T, hT, hn, qc, qn⟩ =>
    unfold RD.t__law_due_k65
    show dSeq _ _ _ [some (.loc n), none, none, none, none, none, none, none, none] st
    have hnl : n < st.length := (List.getElem?_eq_some_iff.mp hn).1
    rw [s_seq, s_par, s_cons, s_dict0, s_cons, s_dlst, s_nil]
    refine ⟨szk _ (by simp), ?_⟩
    rw [s_nil]
    dsimp only
    have el : (st ++ [Ob.dK []]).length = st.length + 1 := by simp
    rw [el]
    have hp1 : Pre st (st ++ [Ob.dK []] ++ [Ob.lst []]) := ⟨[Ob.dK [], Ob.lst []], by simp⟩
    have hf1 : (st ++ [Ob.dK []] ++ [Ob.lst []])[st.length]? = some (.dK []) := gb getElem?_push
    have hg1 : (st ++ [Ob.dK []] ++ [Ob.lst []])[st.length + 1]? = some (.lst []) := by rw [← el]; exact getElem?_push
    generalize st ++ [Ob.dK []] ++ [Ob.lst []] = st1 at hp1 hf1 hg1 ⊢
    show dSeq _ _ _ [some (.loc n), some (.loc st.length), some (.loc (st.length + 1)), none, none, none, none, none, none] st1
    rw [s_seq, s_for, s_iD]
    refine var_ev (d := .loc n) rfl ?_
    rw [s_walk_loc]
    refine ⟨_, hp1.get hn, ?_⟩
    have keep : ∀ {a b : Sto}, Pre st a → (∀ i, i ≠ st.length + 1 → i < a.length → b[i]? = a[i]?) → a.length ≤ b.length → Pre st b := fun {a b} p h h2 => by
      have := p.len
      exact pre_of (by omega) fun i hi => by rw [h i (by omega) (by omega)]; obtain ⟨g, rfl⟩ := p; rw [List.getElem?_append_left hi]
    rw [runG_cons]
    refine ⟨hp1.get hn, ?_⟩
    rw [s_gN]
    refine due_turn1 hT.b hg1 (by have := hT.lb; simp; omega) fun st2 h2 l2 hg2 => ?_
    have hp2 := keep hp1 h2 l2
    have hf2 : st2[st.length]? = some (.dK []) := by rw [h2 _ (by omega) (List.getElem?_eq_some_iff.mp hf1).1]; exact hf1
    try dsimp only
    rw [runG_cons]
    refine ⟨hp2.get hn, ?_⟩
    rw [s_gN]
    refine due_turn1 hT.m hg2 (by have := hT.lb; have := hT.lm; simp; omega) fun st3 h3 l3 hg3 => ?_
    have hp3 := keep hp2 h3 l3
    have hf3 : st3[st.length]? = some (.dK []) := by rw [h3 _ (by omega) (List.getElem?_eq_some_iff.mp hf2).1]; exact hf2
    try dsimp only
    rw [runG_cons]
    refine ⟨hp3.get hn, ?_⟩
    rw [s_gN]
    refine due_turn1 hT.t hg3 (by have := hT.lb; have := hT.lm; have := hT.lt; simp; omega) fun st4 h4 l4 hg4 => ?_
    have hp4 := keep hp3 h4 l4
    have hf4 : st4[st.length]? = some (.dK []) := by rw [h4 _ (by omega) (List.getElem?_eq_some_iff.mp hf3).1]; exact hf3
    try dsimp only
    rw [runG_nil]
    refine ⟨hp4.get hn, ?_⟩
    try dsimp only
    have ex : ([] ++ T.b.map (fun r => D.str (nmD r)) ++ T.m.map (fun r => D.str (nmD r)) ++ T.t.map (fun r => D.str (nmD r))) = (namesT T).map .str := by simp only [namesT, List.map_append, List.map_map, List.nil_append]; rfl
    rw [ex] at hg4
    have hlen : (namesT T).length ≤ 120 := by have := hT.lb; have := hT.lm; have := hT.lt; simp [namesT]; omega
    rw [s_seq, s_for, s_iD, s_cb, s_cons]
    refine var_ev (d := .loc (st.length + 1)) rfl ?_
    rw [s_nil, s_sortTx]
    refine ⟨namesT T, by simp only [s_items_loc, hg4], by omega, fun M hM hm => ?_⟩
    rw [s_walk_loc]
    refine ⟨_, getElem?_push, ?_⟩
    have hup := asc_up hM
    have hmem : ∀ y, y ∈ TxS.asc M ↔ y ∈ namesT T := fun y => by rw [(asc_perm M).mem_iff]; exact hm y
    have hll : (TxS.asc M).length < 900 := by
      have := nodup_le (M := M) (l := namesT T) hM fun y hy => (hm y).mp hy
      rw [(asc_perm M).length_eq]; omega
    have l5 := hp4.len
    have U : DU st (st4 ++ [Ob.lst ((TxS.asc M).map D.str)]) st.length st4.length n T ((TxS.asc M).map .str) [] :=
      ⟨hp4.app _, by have := (List.getElem?_eq_some_iff.mp hf4).1; omega, Nat.le_refl _, l5, gb hf4, getElem?_push, hn⟩
    refine lp_due2 (st0 := st) (f := st.length) (g := st.length + 1) hT (fun st' y p hy => ?_) (fun st' NS y5 y6 y7 y8 U' h1 h2 => ?_) (TxS.asc M) [] _ none none none none U hup hmem (by simp) hll
    · exact .inl (qc st' _ y p hy)
    try dsimp only
    rw [s_ret, s_dtup, s_cons]
    refine var_ev (d := .loc st.length) rfl ?_
    rw [s_cons, s_c, s_nil]
    exact ⟨szk _ (by simp), .inl (qn st' _ NS U'.pre (Nat.le_refl _) U'.hf h1 h2)⟩
end CM
namespace CM
open PySem L2 PySem.Spec DL
open PyProof.Rows hiding St
def sp_lplaced : DSp := fun ds st Q _ => match ds with
  | [.loc f, .loc n] => ∃ (T : Tri) (NS : List Str) (R : Str → List D), TriV T ∧ st[n]? = some (threeL T) ∧ st[f]? = some (.dK (mkD NS fun k => .tup (R k))) ∧ (∀ y ∈ namesT T, y ∈ NS) ∧ (∀ y, (R y).length ≤ 40) ∧ ∀ st', Pre st st' → Q (.tup ((namesD T.b T.m T.t).flatMap R)) st'
  | _ => False
structure PL (st0 st : Sto) (r d f n : Nat) (T : Tri) (NS : List Str) (R : Str → List D) (done : List Str) : Prop where
  pre : Pre st0 st
  r0 : st0.length ≤ r
  d0 : st0.length ≤ d
  rd : r ≠ d
  hr : st[r]? = some (.lst (done.flatMap R))
  hd : st[d]? = some (.lst (done.map .str))
  hf : st0[f]? = some (.dK (mkD NS fun k => .tup (R k)))
  hn : st0[n]? = some (threeL T)
theorem lp_placed1 {E : DEnds} {st0 : Sto} {r d f n : Nat} {T : Tri} {NS : List Str} {R : Str → List D} {x4 : Option D} (hR : ∀ y, (R y).length ≤ 40) : ∀ (l : List D) (done : List Str) (st : Sto) (y5 : Option D), Rows l → (∀ z ∈ l, nmD z ∈ NS) → PL st0 st r d f n T NS R done → done.length + l.length ≤ 200 →
    (∀ st' y5, PL st0 st' r d f n T NS R (addAll done (l.map nmD)) → E.nx [some (.loc f), some (.loc n), some (.loc r), some (.loc d), x4, y5] st') →
    runG (gN 5) RD.b__law_placed_1 E (fun _ => True) l [some (.loc f), some (.loc n), some (.loc r), some (.loc d), x4, y5] st
  | [], done, st, y5, _, _, P, _, hk => ⟨trivial, hk st y5 P⟩
  | z :: l, done, st, y5, hr, hNS, P, hl, hk => by
    rw [runG_cons]
    refine ⟨trivial, ?_⟩
    simp only [List.length_cons] at hl
    have ih := fun done st y5 h1 h2 h3 => lp_placed1 (E := E) (st0 := st0) (r := r) (d := d) (f := f) (n := n) (T := T) (x4 := x4) hR l done st y5 (fun w hw => hr w (List.mem_cons_of_mem _ hw)) (fun w hw => hNS w (List.mem_cons_of_mem _ hw)) h1 h2 h3
    have hz := hr z List.mem_cons_self
    have hzN := hNS z List.mem_cons_self
    generalize hRR : runG (gN 5) RD.b__law_placed_1 E (fun _ => True) l = RR at ih ⊢
    rw [s_gN]
    unfold RD.b__law_placed_1
    show dIfS _ _ _ _ [some (.loc f), some (.loc n), some (.loc r), some (.loc d), x4, some z] st
    rw [s_ifS, s_test, s_op]
    refine row0_ev hz rfl ?_
    refine var_ev (d := .loc d) rfl ?_
    refine ⟨done.map .str, by simp only [s_items_loc, P.hd], rfl, flat_strs done, ?_⟩
    rw [inD_strs]
    dsimp only
    by_cases hin : nmD z ∈ done
    · rw [if_neg (by simp [hin]), s_next]
      refine ih done st (some z) P (by omega) fun st' y5 P' => hk st' y5 ?_
      have e : addAll done ((z :: l).map nmD) = addAll done (l.map nmD) := by rw [List.map_cons, addAll, if_pos hin]
      rw [e]; exact P'
    · have hdl : d < st.length := (List.getElem?_eq_some_iff.mp P.hd).1
      have hrl : r < st.length := (List.getElem?_eq_some_iff.mp P.hr).1
      rw [if_pos (by simp [hin]), s_seq]
      refine app_evJ (d := .str (nmD z)) rfl P.hd (by simp; omega) (fun QE Z qe => row0_ev hz rfl qe) ?_
      try dsimp only
      have h1r : (st.set d (.lst (done.map .str ++ [.str (nmD z)])))[r]? = some (.lst (done.flatMap R)) := by rw [List.getElem?_set_ne (Ne.symm P.rd)]; exact P.hr
      have h1d : (st.set d (.lst (done.map .str ++ [.str (nmD z)])))[d]? = some (.lst (done.map .str ++ [.str (nmD z)])) := List.getElem?_set_self hdl
      have p1 : Pre st0 (st.set d (.lst (done.map .str ++ [.str (nmD z)]))) := P.pre.set P.d0 _
      generalize st.set d (.lst (done.map .str ++ [.str (nmD z)])) = st1 at h1r h1d p1 ⊢
      have h1rl : r < st1.length := (List.getElem?_eq_some_iff.mp h1r).1
      have hfl := flat_lenM (R := R) (k := 40) done fun y _ => hR y
      rw [s_drop, s_bm]
      refine var_ev (d := .loc r) rfl ?_
      rw [s_tyD_loc, h1r]
      refine ⟨rfl, ?_⟩
      rw [s_cons]
      unfold dDGetA
      refine var_ev (d := .loc f) rfl ?_
      refine row0_ev hz rfl ?_
      refine ⟨f, _, .inr (nmD z), .tup (R (nmD z)), rfl, dkAt_K (p1.get P.hf), rfl, by rw [valD_mkD, if_pos hzN], ?_⟩
      try dsimp only
      rw [s_nil, s_extendA]
      refine ⟨_, R (nmD z), h1r, .inl rfl, Nat.le_of_lt (sizeLine_big (by have := hR (nmD z); omega)), ?_⟩
      refine ih (done ++ [nmD z]) _ (some z) ⟨p1.set P.r0 _, P.r0, P.d0, P.rd, ?_, ?_, P.hf, P.hn⟩ (by simp; omega) fun st' y5 P' => hk st' y5 ?_
      · rw [List.getElem?_set_self h1rl]
        simp
      · rw [List.getElem?_set_ne P.rd, h1d]
        simp
      · have e : addAll done ((z :: l).map nmD) = addAll (done ++ [nmD z]) (l.map nmD) := by rw [List.map_cons, addAll, if_neg hin]
        rw [e]; exact P'
theorem r__law_placed : Rd 2 sp_lplaced RD.t__law_placed RD.N__law_placed := by
  intro ds st Q Z hl h
  match ds, hl, h with
  | [.loc f, .loc n], _, ⟨T, NS, R, hT, hn, hf, hNS, hR, q⟩ =>
    unfold RD.t__law_placed
    show dSeq _ _ _ [some (.loc f), some (.loc n), none, none, none, none] st
    rw [s_seq, s_par, s_cons, s_dlst, s_nil]
    refine ⟨szk _ (by simp), ?_⟩
    rw [s_cons, s_dlst, s_nil]
    refine ⟨szk _ (by simp), ?_⟩
    rw [s_nil]
    dsimp only
    have el : (st ++ [Ob.lst []]).length = st.length + 1 := by simp
    rw [el]
    have hp1 : Pre st (st ++ [Ob.lst []] ++ [Ob.lst []]) := ⟨[Ob.lst [], Ob.lst []], by simp⟩
    have hf1 : (st ++ [Ob.lst []] ++ [Ob.lst []])[st.length]? = some (.lst []) := gb getElem?_push
    have hg1 : (st ++ [Ob.lst []] ++ [Ob.lst []])[st.length + 1]? = some (.lst []) := by rw [← el]; exact getElem?_push
    generalize st ++ [Ob.lst []] ++ [Ob.lst []] = st1 at hp1 hf1 hg1 ⊢
    show dSeq _ _ _ [some (.loc f), some (.loc n), some (.loc st.length), some (.loc (st.length + 1)), none, none] st1
    have P : PL st st1 st.length (st.length + 1) f n T NS R [] := ⟨hp1, Nat.le_refl _, by omega, by omega, hf1, hg1, hf, hn⟩
    have inN : ∀ l : List D, (∀ z ∈ l, z ∈ T.b ++ T.m ++ T.t) → ∀ z ∈ l, nmD z ∈ NS := fun l h z hz => hNS _ (List.mem_map.mpr ⟨z, h z hz, rfl⟩)
    have n1 := len_addAll (T.b.map nmD) []
    have n2 := len_addAll (T.m.map nmD) (addAll [] (T.b.map nmD))
    simp only [List.length_nil, List.length_map] at n1 n2
    have lb := hT.lb
    have lm := hT.lm
    have lt := hT.lt
    rw [s_seq, s_for, s_iD]
    refine var_ev (d := .loc n) rfl ?_
    rw [s_walk_loc]
    refine ⟨_, P.pre.get hn, ?_⟩
    rw [runG_cons]
    refine ⟨P.pre.get hn, ?_⟩
    rw [s_gN]
    unfold RD.b__law_placed_2
    rw [s_for, s_iD]
    refine var_ev (d := .tup T.b) rfl ?_
    rw [s_walk_tup]
    refine lp_placed1 hR T.b [] st1 none hT.b (inN _ (by simp +contextual)) P (by simp; omega) fun st2 y5 P2 => ?_
    try dsimp only
    rw [runG_cons]
    refine ⟨P2.pre.get hn, ?_⟩
    rw [s_gN, s_for, s_iD]
    refine var_ev (d := .tup T.m) rfl ?_
    rw [s_walk_tup]
    refine lp_placed1 hR T.m _ st2 y5 hT.m (inN _ (by simp +contextual)) P2 (by omega) fun st3 y5 P3 => ?_
    try dsimp only
    rw [runG_cons]
    refine ⟨P3.pre.get hn, ?_⟩
    rw [s_gN, s_for, s_iD]
    refine var_ev (d := .tup T.t) rfl ?_
    rw [s_walk_tup]
    refine lp_placed1 hR T.t _ st3 y5 hT.t (inN _ (by simp +contextual)) P3 (by omega) fun st4 y5 P4 => ?_
    try dsimp only
    rw [runG_nil]
    refine ⟨P4.pre.get hn, ?_⟩
    try dsimp only
    rw [s_ret, s_cb, s_cons]
    refine var_ev (d := .loc st.length) rfl ?_
    rw [s_nil, s_tupOf, s_items_loc, P4.hr]
    dsimp only
    have e : addAll (addAll (addAll [] (T.b.map nmD)) (T.m.map nmD)) (T.t.map nmD) = namesD T.b T.m T.t := by
      unfold namesD
      rw [← addAll_app, ← addAll_app, ← List.map_append, ← List.map_append, ← List.append_assoc]
    rw [e]
    exact .inl (q st4 P4.pre)
/-- three sides as they stand in a list -/
def sideD (W L : List D) : D := .tup [.tup W, .tup L]
def sidesL (W L : Tri) : Ob := .lst [sideD W.b L.b, sideD W.m L.m, sideD W.t L.t]
structure SidesV (W L : Tri) : Prop where
  w : TriV W
  l : TriV L
  wm : DW W.m
  wt : DW W.t
  lm : DK' L.m
  lt : DK' L.t
  nm : (L.m.map nmD).Nodup
  nt : (L.t.map nmD).Nodup
def sp_lwanted : DSp := fun ds st Q _ => match ds with
  | [.loc n] => ∃ W L : Tri, SidesV W L ∧ st[n]? = some (sidesL W L) ∧ ∀ d st', Told W L d → Pre st st' → Q d st'
  | _ => False
theorem sides_ev {te : DTE} {i j n : Nat} {W L : Tri} {ρ : Env'} {st : Sto} {Q : DK} {Z : DZ} (hi : ρ[i]? = some (some (.loc n))) (hn : st[n]? = some (sidesL W L)) (g : D → D)
    (he : ∀ (w l : List D) (QE : DK) st, QE (g (sideD w l)) st → te ((wipeD ρ [j]).set j (some (sideD w l))) st QE Z0)
    (q : Q (.loc st.length) (st ++ [.lst [g (sideD W.b L.b), g (sideD W.m L.m), g (sideD W.t L.t)]])) : dLc (iD (dVar i)) (gN j) dYes te [j] ρ st Q Z := by
  rw [s_lc, s_iD]
  refine var_ev hi ?_
  rw [s_walk_loc]
  refine ⟨_, hn, ?_⟩
  rw [runC_cons]
  refine ⟨hn, ?_⟩
  rw [s_gN, s_yes, if_pos rfl]
  refine he W.b L.b _ st ⟨sizeLine_big (by simp), ?_⟩
  rw [runC_cons]
  refine ⟨hn, ?_⟩
  rw [s_gN, s_yes, if_pos rfl]
  refine he W.m L.m _ st ⟨sizeLine_big (by simp), ?_⟩
  rw [runC_cons]
  refine ⟨hn, ?_⟩
  rw [s_gN, s_yes, if_pos rfl]
  refine he W.t L.t _ st ⟨sizeLine_big (by simp), ?_⟩
  rw [runC_nil]
  exact ⟨hn, q⟩
def fstD : D → D
  | .tup (a :: _) => a
  | d => d
def sndD : D → D
  | .tup (_ :: b :: _) => b
  | d => d
end CM
namespace CM
open PySem L2 PySem.Spec DL
open PyProof.Rows hiding St
theorem fst_ev {j : Nat} {ρ : Env'} (w l : List D) (QE : DK) (st : Sto) (Z : DZ) (h : ρ[j]? = some (some (sideD w l))) (q : QE (fstD (sideD w l)) st) : dOp dIx (dVar j) (dC (.int 0)) ρ st QE Z := ixv_ev (ds := [.tup w, .tup l]) (d := .tup w) h rfl q
theorem snd_ev {j : Nat} {ρ : Env'} (w l : List D) (QE : DK) (st : Sto) (Z : DZ) (h : ρ[j]? = some (some (sideD w l))) (q : QE (sndD (sideD w l)) st) : dOp dIx (dVar j) (dC (.int 1)) ρ st QE Z := ixv_ev (ds := [.tup w, .tup l]) (d := .tup l) h rfl q
theorem dueL_len {T : Tri} (h : TriV T) (y : Str) : (dueL T.b T.m T.t y).length ≤ 40 := by
  rcases dueL_sub (b := T.b) (m := T.m) (t := T.t) (n := y) with e | e | e
  · rw [e]; exact Nat.le_trans (List.length_filter_le _ _) h.lm
  · rw [e]; exact Nat.le_trans (List.length_filter_le _ _) h.lt
  · rw [e]; simp
theorem locks_out {L : Tri} (lm : DK' L.m) (lt : DK' L.t) : ∃ ls : List Lock, L.out = ls.map encLock ∧ ∀ k ∈ ls, nameS k.1 = true := by
  obtain ⟨ls, e, h⟩ := lift_enc (enc := encLock) (V := fun k : Lock => nameS k.1 = true ∧ okV k.2) (l := L.out) fun d hd => by
    rcases outD_mem hd with z | z
    · exact lm d z
    · exact lt d z
  exact ⟨ls, e, fun k hk => (h k hk).1⟩
theorem r__law_wanted : Rd 1 sp_lwanted (RD.t__law_wanted sp_ldue65 sp_lplaced) RD.N__law_wanted := by
  intro ds st Q Z hl h
  match ds, hl, h with
  | [.loc n], _, ⟨W, L, V, hn, q⟩ =>
    unfold RD.t__law_wanted
    show dSeq _ _ _ [some (.loc n), none, none, none, none, none, none] st
    rw [s_seq, s_asg, s_call, s_cons]
    refine sides_ev rfl hn fstD (fun w l QE st qe => by unfold RD.e__law_wanted_1; exact fst_ev w l QE st _ rfl qe) ?_
    (try dsimp only); rw [s_nil]
    refine ⟨rfl, W, V.w, getElem?_push, fun st1 f k p1 hk => ?_, fun st1 fw NS p1 f1 hf1 hNS wno => ?_⟩
    · have p01 : Pre st st1 := (Pre.trans ⟨_, rfl⟩ p1)
      (try dsimp only); rw [s_gTup]
      refine ⟨rfl, ?_⟩
      rw [s_gCons, s_gN, s_gCons, s_gN, s_gNil]
      try dsimp only
      show dSeq _ _ _ [some (.loc n), some (.loc f), some (.str k), none, none, none, none] st1
      rw [s_seq, s_ifS, s_test, s_op]
      refine var_ev (d := .str k) rfl ?_
      rw [s_c, s_is]
      try dsimp only
      rw [if_pos (by rfl), s_ret, s_dtup, s_cons, s_c, s_cons, s_c, s_cons]
      refine var_ev (d := .str k) rfl ?_
      (try dsimp only); rw [s_nil]
      exact ⟨szk _ (by simp), .inl (q _ st1 (.cw k hk) p01)⟩
    have p01 : Pre st st1 := (Pre.trans ⟨_, rfl⟩ p1)
    (try dsimp only); rw [s_gTup]
    refine ⟨rfl, ?_⟩
    rw [s_gCons, s_gN, s_gCons, s_gN, s_gNil]
    try dsimp only
    show dSeq _ _ _ [some (.loc n), some (.loc fw), some .non, none, none, none, none] st1
    rw [s_seq, s_ifS, s_test, s_op]
    refine var_ev (d := .non) rfl ?_
    rw [s_c, s_is]
    try dsimp only
    rw [if_neg (by simp), s_next]
    try dsimp only
    rw [s_seq, s_asg, s_call, s_cons]
    refine sides_ev rfl (p01.get hn) sndD (fun w l QE st qe => by unfold RD.e__law_wanted_2; exact snd_ev w l QE st _ rfl qe) ?_
    (try dsimp only); rw [s_nil]
    refine ⟨rfl, L, V.l, getElem?_push, fun st2 f k p2 hk => ?_, fun st2 fl MS p2 f2 hf2 hMS lno => ?_⟩
    · have p02 : Pre st st2 := p01.trans (Pre.trans ⟨_, rfl⟩ p2)
      (try dsimp only); rw [s_gTup]
      refine ⟨rfl, ?_⟩
      rw [s_gCons, s_gN, s_gCons, s_gN, s_gNil]
      try dsimp only
      show dSeq _ _ _ [some (.loc n), some (.loc fw), some (.str k), none, some (.loc f), none, none] st2
      rw [s_seq, s_ifS, s_test, s_op]
      refine var_ev (d := .str k) rfl ?_
      rw [s_c, s_is]
      try dsimp only
      rw [if_pos (by rfl), s_ret, s_dtup, s_cons, s_c, s_cons, s_c, s_cons]
      refine var_ev (d := .str k) rfl ?_
      (try dsimp only); rw [s_nil]
      exact ⟨szk _ (by simp), .inl (q _ st2 (.cl k wno hk) p02)⟩
    have p12 : Pre st1 st2 := (Pre.trans ⟨_, rfl⟩ p2)
    have p02 : Pre st st2 := p01.trans p12
    (try dsimp only); rw [s_gTup]
    refine ⟨rfl, ?_⟩
    rw [s_gCons, s_gN, s_gCons, s_gN, s_gNil]
    try dsimp only
    show dSeq _ _ _ [some (.loc n), some (.loc fw), some .non, none, some (.loc fl), none, none] st2
    rw [s_seq, s_ifS, s_test, s_op]
    refine var_ev (d := .non) rfl ?_
    rw [s_c, s_is]
    try dsimp only
    rw [if_neg (by simp), s_next]
    try dsimp only
    rw [s_seq, s_asg, s_call, s_cons]
    refine var_ev (d := .loc fw) rfl ?_
    rw [s_cons]
    refine sides_ev rfl (p02.get hn) fstD (fun w l QE st qe => by unfold RD.e__law_wanted_3; exact fst_ev w l QE st _ rfl qe) ?_
    (try dsimp only); rw [s_nil]
    refine ⟨rfl, W, NS, dueL W.b W.m W.t, V.w, getElem?_push, gb (p12.get hf1), fun y hy => (hNS y).mpr hy, dueL_len V.w, fun st3 p3 => ?_⟩
    have p23 : Pre st2 st3 := (Pre.trans ⟨_, rfl⟩ p3)
    have p03 : Pre st st3 := p02.trans p23
    (try dsimp only); rw [s_gN]
    try dsimp only
    show dSeq _ _ _ [some (.loc n), some (.loc fw), some .non, none, some (.loc fl), some (.tup W.out), none] st3
    rw [s_seq, s_asg, s_cb, s_cons, s_cb, s_cons, s_call, s_cons]
    refine var_ev (d := .loc fl) rfl ?_
    rw [s_cons]
    refine sides_ev rfl (p03.get hn) sndD (fun w l QE st qe => by unfold RD.e__law_wanted_4; exact snd_ev w l QE st _ rfl qe) ?_
    (try dsimp only); rw [s_nil]
    refine ⟨rfl, L, MS, dueL L.b L.m L.t, V.l, getElem?_push, gb (p23.get hf2), fun y hy => (hMS y).mpr hy, dueL_len V.l, fun st4 p4 => ?_⟩
    have p34 : Pre st3 st4 := (Pre.trans ⟨_, rfl⟩ p4)
    have p04 : Pre st st4 := p03.trans p34
    obtain ⟨ls, els, hls⟩ := locks_out V.lm V.lt
    (try dsimp only); rw [s_nil]
    refine sort_locksG (ls := ls) (by rw [s_items_tup]; exact congrArg some els) hls ?_
    (try dsimp only); rw [s_nil, s_tupOf, s_items_loc, getElem?_push]
    dsimp only
    have p05 := p04.app [Ob.lst ((sortL ls).map encLock)]
    generalize st4 ++ [Ob.lst ((sortL ls).map encLock)] = st5 at p05 ⊢
    have esr : (sortL ls).map encLock = srtD L.out := by rw [els, srt_locks]
    have eln : (srtD L.out).length = L.out.length := by unfold srtD; rw [List.length_mergeSort]
    (try dsimp only); rw [esr, s_gN]
    try dsimp only
    show dSeq _ _ _ [some (.loc n), some (.loc fw), some .non, none, some (.loc fl), some (.tup W.out), some (.tup (srtD L.out))] st5
    rw [s_seq, s_ifS, s_test, s_op, s_cb, s_cons]
    refine var_ev (d := .tup W.out) rfl ?_
    (try dsimp only); rw [s_nil, s_len_tup, s_c]
    show dOrd _ _ (.int _) (.int 8) _ _
    rw [s_ord_int]
    try dsimp only
    by_cases h8 : 8 < W.out.length
    · rw [if_pos (decide_eq_true (by omega)), s_ret, s_dtup, s_cons, s_c, s_cons, s_c, s_nil]
      exact ⟨szk _ (by simp), .inl (q _ st5 (.t8 wno lno h8) p05)⟩
    · rw [if_neg (by rw [decide_eq_true_eq]; omega), s_next]
      try dsimp only
      rw [s_ret, s_if, s_test, s_op, s_cb, s_cons]
      refine var_ev (d := .tup (srtD L.out)) rfl ?_
      (try dsimp only); rw [s_nil, s_len_tup, s_c]
      show dOrd _ _ (.int _) (.int 40) _ _
      rw [s_ord_int, eln]
      try dsimp only
      by_cases h40 : 40 < L.out.length
      · rw [if_pos (decide_eq_true (by omega)), s_dtup, s_cons, s_c, s_cons, s_c, s_nil]
        exact ⟨szk _ (by simp), .inl (q _ st5 (.t40 wno lno (by omega) h40) p05)⟩
      · rw [if_neg (by rw [decide_eq_true_eq]; omega), s_dtup, s_cons, s_c, s_cons]
        refine var_ev (d := .tup W.out) rfl ?_
        rw [s_cons]
        refine var_ev (d := .tup (srtD L.out)) rfl ?_
        (try dsimp only); rw [s_nil]
        exact ⟨szk _ (by simp), .inl (q _ st5 (.mg wno lno (by omega) (by omega)) p05)⟩
end CM
namespace CM
open PySem L2 PySem.Spec DL
open PyProof.Rows hiding St
section
variable [EC : ErrCtx]
def sp_ltold65 : DSp := fun ds st Q _ => match ds with
  | [.loc q0, .loc q1, .loc q2] => ∃ W L : Tri, QAt st q0 W.b L.b ∧ QAt st q1 W.m L.m ∧ QAt st q2 W.t L.t ∧ ∀ d st', Told W L d → Pre st st' → Q d st'
  | _ => False
theorem r__law_told_k65 : Rd 3 sp_ltold65 (RD.t__law_told_k65 sp_merged) RD.N__law_told_k65 := by
  intro ds st Q Z hl h
  match ds, hl, h with
  | [.loc q0, .loc q1, .loc q2], _, ⟨W, L, A0, A1, A2, q⟩ =>
    unfold RD.t__law_told_k65
    show dSeq _ _ _ [some (.loc q0), some (.loc q1), some (.loc q2), none, none] st
    rw [s_seq]
    generalize hR : dSeq (dIfS _ _ _) _ _ = R
    have clash : ∀ (k : Str) (n : Str) (st' : Sto), Told W L (.tup [.str "clash", .str k, .str n]) → Pre st st' → R [some (.loc q0), some (.loc q1), some (.loc q2), some (.tup [.str "clash", .str k, .str n]), none] st' := fun k n st' ht p => by
      subst hR
      rw [s_seq, s_ifS, s_and, s_tru]
      refine isi_ev (d := .tup [.str "clash", .str k, .str n]) (fun QE Z qe => var_ev rfl qe) rfl ?_
      rw [subs.2.1, s_tru_bl, if_pos rfl, s_and, s_test, s_op, s_cb, s_cons]
      refine var_ev (d := .tup [.str "clash", .str k, .str n]) rfl ?_
      rw [s_nil, s_len_tup, s_c]
      show dEqB id (.int _) (.int 2) _ _
      rw [s_eq_int]
      try dsimp only [id]
      rw [if_neg (by simp), if_neg (by simp), s_next]
      try dsimp only
      rw [s_ret]
      refine var_ev (d := .tup [.str "clash", .str k, .str n]) rfl ?_
      exact .inl (q _ st' ht p)
    have many : ∀ (m : Int) (st' : Sto), Told W L (.tup [.str "too many", .int m]) → Pre st st' → Caught [8] (errX 8 [("most", .int m)]) ∧ ∀ a, RD.s__law_told_k65_2 sp_merged a (errX 8 [("most", .int m)]) { nx := fun ρ2 st2 => R (ρ2.set 4 none) st2, rt := DL.Back st Q, bk := fun ρ2 st2 => False, ct := fun ρ2 st2 => False, xs := fun x _ st1 => BackX st Z x st1 } ([some (.loc q0), some (.loc q1), some (.loc q2), none, none].set 4 (some (.adr a))) st' := fun m st' ht p => by
      refine ⟨caught (by simp), fun a => ?_⟩
      unfold RD.s__law_told_k65_2
      rw [s_ret, s_dtup, s_cons, s_c, s_cons, s_xf]
      refine var_ev (d := .adr a) rfl ?_
      refine ⟨rfl, rfl, .int m, by simp [errX, List.lookup], ?_⟩
      rw [s_nil]
      exact ⟨szk _ (by simp), .inl (q _ st' ht p)⟩
    rw [s_tryAs]
    unfold RD.b__law_told_k65_1
    rw [s_asg, s_call, s_cons]
    refine var_ev (d := .loc q0) rfl ?_
    rw [s_cons]
    refine var_ev (d := .loc q1) rfl ?_
    rw [s_cons]
    refine var_ev (d := .loc q2) rfl ?_
    rw [s_nil]
    refine ⟨rfl, W, L, A0, A1, A2, fun st' d p => ⟨fun n hn e => ?_, fun n wno hn e => ?_⟩, fun st' p => ⟨fun wno lno h8 => ?_, fun wno lno h8 h40 => ?_⟩, fun st' k p hk wno lno h8 h40 => ?_⟩
    · subst e
      (try dsimp only); rw [s_gN]
      exact clash "wish" n st' (.cw n hn) p
    · subst e
      (try dsimp only); rw [s_gN]
      exact clash "lock" n st' (.cl n wno hn) p
    · exact many 8 st' (.t8 wno lno h8) p
    · exact many 40 st' (.t40 wno lno h8 h40) p
    · obtain ⟨fs, k1, k2, k3⟩ := hk.fields
      (try dsimp only); rw [s_gN]
      try dsimp only
      subst hR
      show dSeq _ _ _ [some (.loc q0), some (.loc q1), some (.loc q2), some (.tup [.str "merged", .loc k]), none] st'
      rw [s_seq, s_ifS, s_and, s_tru]
      refine isi_ev (d := .tup [.str "merged", .loc k]) (fun QE Z qe => var_ev rfl qe) rfl ?_
      rw [subs.2.1, s_tru_bl, if_pos rfl, s_and, s_test, s_op, s_cb, s_cons]
      refine var_ev (d := .tup [.str "merged", .loc k]) rfl ?_
      rw [s_nil, s_len_tup, s_c]
      show dEqB id (.int _) (.int 2) _ _
      rw [s_eq_int]
      try dsimp only [id]
      rw [if_pos (by simp), s_tru]
      unfold dIsC
      refine ixv_ev (ds := [.str "merged", .loc k]) (d := .loc k) rfl rfl ?_
      refine .inr ⟨k, 102, fs, rfl, by simp, k1, ?_⟩
      show truD st' (.bl (102 == 102)) _
      rw [s_tru_bl, if_pos (by rfl), s_ret, s_dtup, s_cons]
      refine ixv_ev (ds := [.str "merged", .loc k]) (d := .str "merged") rfl rfl ?_
      rw [s_cons, s_fld]
      refine ixv_ev (ds := [.str "merged", .loc k]) (d := .loc k) rfl rfl ?_
      refine ⟨k, 102, fs, .tup W.out, rfl, by simp, k1, k2, ?_⟩
      rw [s_cons, s_fld]
      refine ixv_ev (ds := [.str "merged", .loc k]) (d := .loc k) rfl rfl ?_
      refine ⟨k, 102, fs, .tup (srtD L.out), rfl, by simp, k1, k3, ?_⟩
      rw [s_nil]
      exact ⟨szk _ (by simp), .inl (q _ st' (.mg wno lno h8 h40) p)⟩
end
theorem strOk_nm {d : D} (h : IsRow d) : PyData.strOk (nmD d) = true := by
  obtain ⟨⟨n, r, rfl⟩, hp, _⟩ := h
  simp only [pu, pus, Bool.and_eq_true] at hp
  exact hp.1
theorem TriV.rows_out {T : Tri} (h : TriV T) : Rows T.out := fun d hd => by
  rcases outD_mem hd with z | z
  · exact h.m d z
  · exact h.t d z
theorem TriV.name {T : Tri} (h : TriV T) {n : Str} (hn : n ∈ namesD T.b T.m T.t) : PyData.strOk n = true := by
  rw [mem_namesD (T := T)] at hn
  obtain ⟨d, hd, rfl⟩ := List.mem_map.mp hn
  refine strOk_nm ?_
  rcases List.mem_append.mp hd with hd | hd
  · rcases List.mem_append.mp hd with hd | hd
    · exact h.b d hd
    · exact h.m d hd
  · exact h.t d hd
theorem told_plain {W L : Tri} (hW : TriV W) (hL : TriV L) {d : D} (h : Told W L d) : pu d = true ∧ dp d ≤ 60 := by
  cases h with
  | cw n h =>
    have := hW.name h.1
    exact ⟨by simp [pu, pus, this]; decide +kernel, by simp [dp, dps]⟩
  | cl n _ h =>
    have := hL.name h.1
    exact ⟨by simp [pu, pus, this]; decide +kernel, by simp [dp, dps]⟩
  | t8 => exact ⟨by simp [pu, pus]; decide +kernel, by simp [dp, dps]⟩
  | t40 => exact ⟨by simp [pu, pus]; decide +kernel, by simp [dp, dps]⟩
  | mg =>
    have h1 := hW.rows_out
    have h2 : Rows (srtD L.out) := fun d hd => hL.rows_out d ((List.mergeSort_perm _ _).mem_iff.mp hd)
    have e1 := h1.pus
    have e2 := h2.pus
    have e3 := h1.dps
    have e4 := h2.dps
    exact ⟨by simp [pu, pus, e1, e2]; decide +kernel, by simp [dp, dps]; omega⟩
/-- == of two lists of plain data -/
theorem eqLists_ev {f : Bool → Bool} {k n : Nat} {ds es : List D} {st : Sto} {Q : DK} (hk : st[k]? = some (.lst ds)) (hn : st[n]? = some (.lst es)) (hd : pus ds = true) (he : pus es = true) (dd : dps ds ≤ 50) (de : dps es ≤ 50) (e : ds = es) (q : Q (.bl (f true)) st) : dEqB f (.loc k) (.loc n) st Q := by
  refine ⟨61, .list (pds ds), .list (pds es), ?_, ?_, ?_, ?_, ?_⟩
  · simp only [pdF, hk]
    rw [mapM_pds (fun d h1 h2 => pdF_pd st 60 d h1 h2) ds hd (by omega)]; rfl
  · simp only [pdF, hn]
    rw [mapM_pds (fun d h1 h2 => pdF_pd st 60 d h1 h2) es he (by omega)]; rfl
  · unfold SeqAt.shaped
    simp [PyData.canLay0, pds_lay ds hd, PyData.depth, pds_depth]; omega
  · unfold SeqAt.shaped
    simp [PyData.canLay0, pds_lay es he, PyData.depth, pds_depth]; omega
  · have : PyData.eqv (.list (pds ds)) (.list (pds es)) = true := by
      simp only [PyData.eqv]
      exact (eqv_pds ds es hd he).mpr e
    rw [this]
    exact q
/-- a side: wishes and locks that a question takes -/
structure SideV (W L : List D) : Prop where
  ex : ∃ ws ls, W = ws.map encWish ∧ L = ls.map encLock ∧ AskV ws ls
theorem SideV.rows {W L : List D} (h : SideV W L) : DW W ∧ DK' L ∧ W.length ≤ 8 ∧ L.length ≤ 40 ∧ (L.map nmD).Nodup := by
  obtain ⟨ws, ls, e1, e2, v⟩ := h.ex
  subst e1 e2
  have hL : LocksV ls := ⟨v.l40, v.lv, v.ln⟩
  exact ⟨DW.of v.wv, DK'.of hL, by rw [List.length_map]; exact v.w8, by rw [List.length_map]; exact v.l40, locks_nodup hL⟩
structure Side3 (W L : Tri) : Prop where
  b : SideV W.b L.b
  m : SideV W.m L.m
  t : SideV W.t L.t
theorem Side3.v {W L : Tri} (h : Side3 W L) : SidesV W L := by
  obtain ⟨a1, a2, a3, a4, a5⟩ := h.b.rows
  obtain ⟨b1, b2, b3, b4, b5⟩ := h.m.rows
  obtain ⟨c1, c2, c3, c4, c5⟩ := h.t.rows
  exact ⟨⟨a1.rows, b1.rows, c1.rows, by omega, by omega, by omega⟩, ⟨a2.rows, b2.rows, c2.rows, a4, b4, c4⟩, b1, c1, b2, c2, b5, c5⟩
theorem side_plain {W L : List D} (h : SideV W L) : pu (sideD W L) = true ∧ dp (sideD W L) ≤ 40 := by
  obtain ⟨a1, a2, _⟩ := h.rows
  have e1 := a1.rows.pus
  have e2 := a2.rows.pus
  have e3 := a1.rows.dps
  have e4 := a2.rows.dps
  exact ⟨by simp [sideD, pu, pus, e1, e2], by simp [sideD, dp, dps]; omega⟩
section
variable [EC : ErrCtx]
def sp_lright65 : DSp := fun ds st Q _ => match ds with
  | [.loc n] => ∃ W L : Tri, Side3 W L ∧ st[n]? = some (sidesL W L) ∧ ∀ st', Pre st st' → Q (.bl true) st'
  | _ => False
theorem r__law_is_right_k65 : Rd 1 sp_lright65 (RD.t__law_is_right_k65 sp_qinit sp_ltold65 sp_lwanted) RD.N__law_is_right_k65 := by
  intro ds st Q Z hl h
  match ds, hl, h with
  | [.loc n], _, ⟨W, L, S, hn, q⟩ =>
    unfold RD.t__law_is_right_k65
    show dSeq _ _ _ [some (.loc n), none, none, none] st
    have make : ∀ (w l : List D) (st : Sto) (QE : DK), SideV w l → (∀ k st', Pre st st' → QAt st' k w l → QE (.loc k) st') → RD.e__law_is_right_k65_1 sp_qinit sp_ltold65 sp_lwanted ((wipeD [some (.loc n), none, none, none] [2]).set 2 (some (sideD w l))) st QE Z0 := fun w l st QE hv qe => by
      obtain ⟨ws, ls, e1, e2, v⟩ := hv.ex
      unfold RD.e__law_is_right_k65_1
      rw [s_makeV, s_cons]
      refine fst_ev w l _ st _ rfl ?_
      rw [s_cons]
      refine snd_ev w l _ st _ rfl ?_
      rw [s_nil]
      refine ⟨rfl, ws, ls, congrArg D.tup e1, congrArg D.tup e2, v, getElem?_push, rfl, ?_⟩
      rw [set_end]
      exact qe st.length _ ⟨_, rfl⟩ ⟨ws, ls, e1, e2, v, getElem?_push⟩
    rw [s_seq, s_asg, s_lc, s_iD]
    refine var_ev (d := .loc n) rfl ?_
    rw [s_walk_loc]
    refine ⟨_, hn, ?_⟩
    rw [runC_cons]
    refine ⟨hn, ?_⟩
    rw [s_gN, s_yes, if_pos rfl]
    refine make W.b L.b st _ S.b fun k0 st0 p0 a0 => ⟨sizeLine_big (by simp), ?_⟩
    rw [runC_cons]
    refine ⟨p0.get hn, ?_⟩
    rw [s_gN, s_yes, if_pos rfl]
    refine make W.m L.m st0 _ S.m fun k1 st1 p1 a1 => ⟨sizeLine_big (by simp), ?_⟩
    rw [runC_cons]
    refine ⟨(p0.trans p1).get hn, ?_⟩
    rw [s_gN, s_yes, if_pos rfl]
    refine make W.t L.t st1 _ S.t fun k2 st2 p2 a2 => ⟨sizeLine_big (by simp), ?_⟩
    have p02 := (p0.trans p1).trans p2
    rw [runC_nil]
    refine ⟨p02.get hn, ?_⟩
    have b0 := (a0.pre p1).pre p2
    have b1 := a1.pre p2
    have p3 : Pre st2 (st2 ++ [Ob.lst ([] ++ [.loc k0] ++ [.loc k1] ++ [.loc k2])]) := ⟨_, rfl⟩
    have hq : (st2 ++ [Ob.lst ([] ++ [.loc k0] ++ [.loc k1] ++ [.loc k2])])[st2.length]? = some (.lst [.loc k0, .loc k1, .loc k2]) := getElem?_push
    generalize st2 ++ [Ob.lst ([] ++ [.loc k0] ++ [.loc k1] ++ [.loc k2])] = st3 at p3 hq ⊢
    have p03 := p02.trans p3
    rw [s_gN]
    try dsimp only
    show dSeq _ _ _ [some (.loc n), some (.loc st2.length), none, none] st3
    have hix : ∀ (i : Int) (k : Nat), atI ([.loc k0, .loc k1, .loc k2] : List D) i = some (.loc k) → ∀ (QE : DK) Z, QE (.loc k) st3 → dOp dIx (dVar 1) (dC (.int i)) [some (.loc n), some (.loc st2.length), none, none] st3 QE Z := fun i k hi QE Z qe => by
      rw [s_op]
      refine var_ev (d := .loc st2.length) rfl ?_
      rw [s_c, s_ix_loc]
      exact ⟨_, _, hq, hi, qe⟩
    rw [s_seq, s_ifS, s_test, s_op, s_call, s_cons]
    refine hix 0 k0 rfl _ _ ?_
    rw [s_cons]
    refine hix 1 k1 rfl _ _ ?_
    rw [s_cons]
    refine hix 2 k2 rfl _ _ ?_
    rw [s_nil]
    refine ⟨rfl, W, L, b0.pre p3, b1.pre p3, a2.pre p3, fun d st4 hd p4 => ?_⟩
    have p04 := p03.trans p4
    try dsimp only
    rw [s_call, s_cons]
    refine var_ev (d := .loc n) rfl ?_
    rw [s_nil]
    refine ⟨rfl, W, L, S.v, p04.get hn, fun d' st5 hd' p5 => ?_⟩
    have p05 := p04.trans p5
    have ed := Told.uniq hd hd'
    subst ed
    obtain ⟨hpu, hdp⟩ := told_plain S.v.w S.v.l hd
    refine eq_plain (f := not) (b := true) hpu hpu hdp hdp (by simp) ?_
    try dsimp only
    rw [if_neg (by simp), s_next]
    try dsimp only
    have hq5 : st5[st2.length]? = some (.lst [.loc k0, .loc k1, .loc k2]) := p5.get (p4.get hq)
    have c0 := ((b0.pre p3).pre p4).pre p5
    have c1 := ((b1.pre p3).pre p4).pre p5
    have c2 := ((a2.pre p3).pre p4).pre p5
    have tell : ∀ (w l : List D) (k : Nat) (QE : DK), QAt st5 k w l → QE (sideD w l) st5 → RD.e__law_is_right_k65_2 sp_qinit sp_ltold65 sp_lwanted ((wipeD [some (.loc n), some (.loc st2.length), none, none] [3]).set 3 (some (.loc k))) st5 QE Z0 := fun w l k QE hk qe => by
      obtain ⟨fs, x1, x2, x3⟩ := hk.fields
      unfold RD.e__law_is_right_k65_2
      rw [s_dtup, s_cons]
      refine fld_ev (m := 102) rfl x1 x2 ?_
      rw [s_cons]
      refine fld_ev (m := 102) rfl x1 x3 ?_
      rw [s_nil]
      exact ⟨szk _ (by simp), qe⟩
    rw [s_ret, s_op, s_lc, s_iD]
    refine var_ev (d := .loc st2.length) rfl ?_
    rw [s_walk_loc]
    refine ⟨_, hq5, ?_⟩
    rw [runC_cons]
    refine ⟨hq5, ?_⟩
    rw [s_gN, s_yes, if_pos rfl]
    refine tell W.b L.b k0 _ c0 ⟨sizeLine_big (by simp), ?_⟩
    rw [runC_cons]
    refine ⟨hq5, ?_⟩
    rw [s_gN, s_yes, if_pos rfl]
    refine tell W.m L.m k1 _ c1 ⟨sizeLine_big (by simp), ?_⟩
    rw [runC_cons]
    refine ⟨hq5, ?_⟩
    rw [s_gN, s_yes, if_pos rfl]
    refine tell W.t L.t k2 _ c2 ⟨sizeLine_big (by simp), ?_⟩
    rw [runC_nil]
    refine ⟨hq5, ?_⟩
    refine var_ev (d := .loc n) rfl ?_
    obtain ⟨u0, v0⟩ := side_plain S.b
    obtain ⟨u1, v1⟩ := side_plain S.m
    obtain ⟨u2, v2⟩ := side_plain S.t
    refine eqLists_ev (f := id) (ds := [sideD W.b L.b, sideD W.m L.m, sideD W.t L.t]) (es := [sideD W.b L.b, sideD W.m L.m, sideD W.t L.t]) getElem?_push (gb (p05.get hn)) (by simp [pus, u0, u1, u2]) (by simp [pus, u0, u1, u2]) (by simp [dps]; omega) (by simp [dps]; omega) rfl ?_
    exact .inl (q _ (p05.app _))
end
end CM
namespace CM
open PySem L2 PySem.Spec DL
open PyProof.Rows hiding St
theorem GrJ.pre {h c : Nat} {st st' : Sto} (H : HdJ st h c) (p : Pre st st') : GrJ h c st st' := by
  obtain ⟨g, rfl⟩ := p
  exact (GrJ.refl H).app g
theorem drawI_ev {h c i : Nat} {te : DTE} {m : Int} {ρ : Env'} {st : Sto} {Q : DK} {Z : DZ} (h0 : ρ[i]? = some (some (.loc h))) (H : HdJ st h c) (he : ∀ (QE : DK) Z, QE (.int m) st → te ρ st QE Z) (hm : 0 < m) (hm2 : m < 1000000000)
    (q : ∀ r st', 0 ≤ r → r < m → GrJ h c st st' → Q (.int r) st') : dCall 2 sp_drawJ (dCons (dVar i) (dCons te dNil)) ρ st Q Z := by
  rw [s_call, s_cons]
  refine var_ev h0 ?_
  rw [s_cons]
  refine he _ _ ?_
  rw [s_nil, e_drawJ]
  exact ⟨rfl, c, H, hm, hm2, fun r st' h0 h1 H' s => q r st' h0 h1 (GrJ.of H H' s)⟩
theorem anyI_ev {h c i : Nat} {ρ : Env'} {st : Sto} {Q : DK} {Z : DZ} {t : DTA} {es : List D} (h0 : ρ[i]? = some (some (.loc h))) (H : HdJ st h c) (ht : ∀ (QA : List D → Sto → Prop) Z, QA es st → t ρ st QA Z) (hne : es ≠ []) (hl : es.length < 1000)
    (q : ∀ e st', e ∈ es → GrJ h c st st' → Q e st') : dCall 2 sp_anyJ (dCons (dVar i) (dCons (dLst t) dNil)) ρ st Q Z := by
  have hlt := H.hlt
  rw [s_call, s_cons]
  refine var_ev h0 ?_
  rw [s_cons, s_dlst]
  refine ht _ _ ⟨szk _ hl, ?_⟩
  rw [s_nil, e_anyLJ]
  refine ⟨rfl, c, es, H.app _, getElem?_push, by omega, List.length_pos_iff.mpr hne, by omega, fun e st' he H' s => q e st' he ?_⟩
  exact ((GrJ.refl H).app _).sm s H'
/-- what is drawn turn by turn, the turn's number being used -/
theorem runC_ixJ {α : Type} {enc : α → D} {P : α → Prop} {h c i B : Nat} {ρ : Env'} {te : DTE} {Q : DK} {F : Sto → Prop} (hF : ∀ st st', F st → GrJ h c st st' → F st')
    (d : ∀ (st : Sto) (Q : DK) (j : Nat), j < B → HdJ st h c → F st → (∀ a st', P a → GrJ h c st st' → Q (enc a) st') → te (ρ.set i (some (.int (j : Int)))) st Q Z0) :
    ∀ (k j : Nat) (acc : List α) (st : Sto), HdJ st h c → F st → j + k ≤ B → acc.length + k < 1000 → (∀ a ∈ acc, P a) →
    (∀ st' (as : List α), GrJ h c st st' → as.length = acc.length + k → (∀ a ∈ as, P a) → Q (.loc st'.length) (st' ++ [.lst (as.map enc)])) →
    runC (gN i) dYes te ρ Q (fun _ => True) (upFrom j k) (acc.map enc) st
  | 0, j, acc, st, H, hf, hb, hl, ha, q => ⟨trivial, q st acc (GrJ.refl H) rfl ha⟩
  | k + 1, j, acc, st, H, hf, hb, hl, ha, q => by
    rw [show upFrom j (k + 1) = .int (j : Nat) :: upFrom (j + 1) k from rfl, runC_cons]
    refine ⟨trivial, ?_⟩
    rw [s_gN, s_yes, if_pos rfl]
    refine d st _ j (by omega) H hf fun a st' hp g' => ⟨by rw [List.length_map]; exact sizeLine_big (by omega), ?_⟩
    have ih := runC_ixJ (Q := Q) hF d k (j + 1) (acc ++ [a]) st' g'.hd (hF _ _ hf g') (by omega) (by simp; omega) (fun u hu => by
      rcases List.mem_append.mp hu with hu | hu
      · exact ha u hu
      · rw [List.mem_singleton.mp hu]; exact hp) fun st2 vs g2 hvs hs => q st2 vs (g'.trans g2) (by rw [hvs]; simp; omega) hs
    rw [List.map_append] at ih
    exact ih
theorem name_ev {te : DTE} {n : Int} {ρ : Env'} {st : Sto} {Q : DK} {Z : DZ} (he : ∀ (QE : DK) Z, QE (.int n) st → te ρ st QE Z) (h0 : 0 ≤ n) (h1 : n < 676) (q : ∀ s, nameS s = true → Q (.str s) st) : dCall 1 sp_lname65 (dCons te dNil) ρ st Q Z := by
  rw [s_call, s_cons]
  refine he _ _ ?_
  rw [s_nil]
  exact ⟨rfl, h0, h1, q⟩
theorem last_at {l : List D} (h : 0 < l.length) : ∃ z, atI l (-1) = some z ∧ z ∈ l := by
  have e : atI l (-1) = l[l.length - 1]? := by
    unfold atI ixN
    rw [if_neg (by decide), if_pos (by omega)]
    show l[_]? = _
    congr 1
    omega
  exact ⟨l[l.length - 1], by rw [e]; exact List.getElem?_eq_getElem (by omega), List.getElem_mem _⟩
/-- a right side -/
structure SideOK (d : D) : Prop where
  ex : ∃ ws ls, d = sideD (ws.map encWish) (ls.map encLock) ∧ AllW ws ∧ ws.length ≤ 8 ∧ LocksV ls
theorem SideOK.of {d : D} (h : SideOK d) : ∃ W L, d = sideD W L ∧ SideV W L := by
  obtain ⟨ws, ls, e, hw, h8, hl⟩ := h.ex
  exact ⟨_, _, e, ws, ls, rfl, rfl, h8, hw, hl.1, hl.2.1, hl.2.2⟩
theorem SideOK.mk' {ws : List Wish} {ls : List Lock} (hw : AllW ws) (h8 : ws.length ≤ 8) (hl : LocksV ls) : SideOK (.tup [.tup (ws.map encWish), .tup (ls.map encLock)]) := ⟨ws, ls, rfl, hw, h8, hl⟩
theorem counts4 : ∀ e ∈ ([.int 1, .int 2, .int 4, .int 8] : List D), ∃ n : Nat, e = .int (n : Int) ∧ n ≤ 8 ∧ 0 < n := by
  intro e he
  simp only [List.mem_cons, List.not_mem_nil, or_false] at he
  rcases he with rfl | rfl | rfl | rfl
  · exact ⟨1, rfl, by decide, by decide⟩
  · exact ⟨2, rfl, by decide, by decide⟩
  · exact ⟨4, rfl, by decide, by decide⟩
  · exact ⟨8, rfl, by decide, by decide⟩
section
variable [EC : ErrCtx]
/-- three of the sides, judged -/
theorem right_evJ {te : DTA} {x y z : D} {ρ : Env'} {st : Sto} {Q : Bool → Sto → Prop} {Z : DZ} (hx : SideOK x) (hy : SideOK y) (hz : SideOK z) (he : ∀ (QA : List D → Sto → Prop) Z, QA [x, y, z] st → te ρ st QA Z)
    (q : ∀ st', Pre st st' → Q false st') : dNot (dTru (dCall 1 sp_lright65 (dCons (dLst te) dNil))) ρ st Q Z := by
  obtain ⟨W0, L0, rfl, h0⟩ := hx.of
  obtain ⟨W1, L1, rfl, h1⟩ := hy.of
  obtain ⟨W2, L2, rfl, h2⟩ := hz.of
  rw [s_not, s_tru, s_call, s_cons, s_dlst]
  refine he _ _ ⟨szk _ (by simp), ?_⟩
  rw [s_nil]
  refine ⟨rfl, ⟨W0, W1, W2⟩, ⟨L0, L1, L2⟩, ⟨h0, h1, h2⟩, getElem?_push, fun st' p => ?_⟩
  exact q st' (Pre.trans ⟨_, rfl⟩ p)
theorem right_evV {i n : Nat} {x y z : D} {ρ : Env'} {st : Sto} {Q : Bool → Sto → Prop} {Z : DZ} (hx : SideOK x) (hy : SideOK y) (hz : SideOK z) (hi : ρ[i]? = some (some (.loc n))) (hn : st[n]? = some (.lst [x, y, z]))
    (q : ∀ st', Pre st st' → Q false st') : dNot (dTru (dCall 1 sp_lright65 (dCons (dVar i) dNil))) ρ st Q Z := by
  obtain ⟨W0, L0, rfl, h0⟩ := hx.of
  obtain ⟨W1, L1, rfl, h1⟩ := hy.of
  obtain ⟨W2, L2, rfl, h2⟩ := hz.of
  rw [s_not, s_tru, s_call, s_cons]
  refine var_ev hi ?_
  rw [s_nil]
  exact ⟨rfl, ⟨W0, W1, W2⟩, ⟨L0, L1, L2⟩, ⟨h0, h1, h2⟩, hn, fun st' p => q st' p⟩
/-- what stands while the sides are drawn -/
structure LW (st : Sto) (h c nn nl s : Nat) (es ls : List Str) (sd : List D) : Prop where
  hd : HdJ st h c
  nm : NmL st h nn es
  lk : NmL st h nl ls
  sh : s ≠ h
  sc : s ≠ c
  sn : s ≠ nn
  sl : s ≠ nl
  at' : st[s]? = some (.lst sd)
  ok : ∀ d ∈ sd, SideOK d
theorem LW.gr {st st' : Sto} {h c nn nl s : Nat} {es ls : List Str} {sd : List D} (w : LW st h c nn nl s es ls sd) (g : GrJ h c st st') : LW st' h c nn nl s es ls sd :=
  ⟨g.hd, w.nm.gr g, w.lk.gr g, w.sh, w.sc, w.sn, w.sl, g.get w.at' w.sh, w.ok⟩
theorem LW.add {st : Sto} {h c nn nl s : Nat} {es ls : List Str} {sd : List D} {d : D} (w : LW st h c nn nl s es ls sd) (hd : SideOK d) : LW (st.set s (.lst (sd ++ [d]))) h c nn nl s es ls (sd ++ [d]) := by
  have hs : s < st.length := (List.getElem?_eq_some_iff.mp w.at').1
  refine ⟨?_, ⟨by rw [List.getElem?_set_ne w.sn]; exact w.nm.at', w.nm.ne, w.nm.pos, w.nm.big, w.nm.ok⟩, ⟨by rw [List.getElem?_set_ne w.sl]; exact w.lk.at', w.lk.ne, w.lk.pos, w.lk.big, w.lk.ok⟩, w.sh, w.sc, w.sn, w.sl, List.getElem?_set_self hs, fun z hz => ?_⟩
  · obtain ⟨cells, a, b, e, f, h1, h2, h3⟩ := w.hd.ex
    exact ⟨cells, a, b, e, f, by rw [List.getElem?_set_ne w.sh]; exact h1, by rw [List.getElem?_set_ne w.sc]; exact h2, h3⟩
  · rcases List.mem_append.mp hz with hz | hz
    · exact w.ok z hz
    · rw [List.mem_singleton.mp hz]; exact hd
theorem lp_sides {E : DEnds} {h c nn nl s : Nat} {es ls : List Str} {bs : D} {g pa : Bool} {mm : Int} {s0 y2 y6 y10 : Option D} (hbs : SideOK bs) (hm0 : 0 ≤ mm) (hm1 : mm ≤ 20)
    (hk : ∀ (sd : List D) st y5 y13 y14 y15 y16 y17 y18, LW st h c nn nl s es ls sd → sd.length = 3 → E.nx [s0, some (.loc h), y2, some (.bl g), some (.loc nn), y5, y6, some (.loc nl), some (.int mm), some (.bl pa), y10, some bs, some (.loc s), y13, y14, y15, y16, y17, y18] st) :
    ∀ (q j : Nat) (sd : List D) (st : Sto) (y5 y13 y14 y15 y16 y17 y18 : Option D), LW st h c nn nl s es ls sd → 0 < sd.length → sd.length + q = 3 → j + q = 2 →
      runG (gN 5) (RD.b_law_k65_6 sp_handJ sp_drawJ sp_anyJ sp_lname65 sp_lwish65 sp_lwishes65 sp_llocks65 sp_lright65) E (fun _ => True) (upFrom j q) [s0, some (.loc h), y2, some (.bl g), some (.loc nn), y5, y6, some (.loc nl), some (.int mm), some (.bl pa), y10, some bs, some (.loc s), y13, y14, y15, y16, y17, y18] st
  | 0, j, sd, st, y5, y13, y14, y15, y16, y17, y18, w, hpos, hl, hj => ⟨trivial, hk sd st _ _ _ _ _ _ _ w (by omega)⟩
  | q + 1, j, sd, st, y5, y13, y14, y15, y16, y17, y18, w, hpos, hl, hj => by
    rw [show upFrom j (q + 1) = .int (j : Nat) :: upFrom (j + 1) q from rfl, runG_cons]
    refine ⟨trivial, ?_⟩
    have ih := lp_sides (E := E) (y2 := y2) (y6 := y6) (y10 := y10) (s0 := s0) (g := g) (pa := pa) (mm := mm) hbs hm0 hm1 hk q (j + 1)
    generalize hR : runG (gN 5) (RD.b_law_k65_6 sp_handJ sp_drawJ sp_anyJ sp_lname65 sp_lwish65 sp_lwishes65 sp_llocks65 sp_lright65) E (fun _ => True) (upFrom (j + 1) q) = R at ih ⊢
    rw [s_gN]
    unfold RD.b_law_k65_6
    show dSeq _ _ _ [s0, some (.loc h), y2, some (.bl g), some (.loc nn), some (.int (j : Int)), y6, some (.loc nl), some (.int mm), some (.bl pa), y10, some bs, some (.loc s), y13, y14, y15, y16, y17, y18] st
    rw [s_seq, s_asg]
    refine drawI_ev (m := 6) rfl w.hd (fun QE Z qe => qe) (by decide) (by decide) fun kd st1 k0 k1 g1 => ?_
    have w1 := w.gr g1
    (try dsimp only); rw [s_gN]
    try dsimp only
    show dSeq _ _ _ [s0, some (.loc h), y2, some (.bl g), some (.loc nn), some (.int (j : Int)), y6, some (.loc nl), some (.int mm), some (.bl pa), y10, some bs, some (.loc s), some (.int kd), y14, y15, y16, y17, y18] st1
    rw [s_seq]
    generalize hR1 : dSeq (dAsg (dIf (dTru (dVar 3)) _ _) _) _ _ = R1
    have go1 : ∀ el, SideOK el → R1 [s0, some (.loc h), y2, some (.bl g), some (.loc nn), some (.int (j : Int)), y6, some (.loc nl), some (.int mm), some (.bl pa), y10, some bs, some (.loc s), some (.int kd), some el, y15, y16, y17, y18] st1 := fun el hel => by
      subst hR1
      try dsimp only
      rw [s_seq]
      generalize hR2 : dSeq (dAsg (dTup _) _) _ _ = R2
      have go2 : ∀ ex : Int, 0 ≤ ex → ex ≤ 20 → R2 [s0, some (.loc h), y2, some (.bl g), some (.loc nn), some (.int (j : Int)), y6, some (.loc nl), some (.int mm), some (.bl pa), y10, some bs, some (.loc s), some (.int kd), some el, some (.int ex), y16, y17, y18] st1 := fun ex x0 x1 => by
        subst hR2
        try dsimp only
        obtain ⟨ws, ks, rfl, hw, h8, hks⟩ := hel.ex
        rw [s_seq, s_asg, s_dtup, s_cons, s_call, s_cons]
        refine var_ev (d := .loc h) rfl ?_
        rw [s_cons]
        refine var_ev (d := .loc nn) rfl ?_
        rw [s_cons]
        refine fst_ev _ _ _ _ _ rfl ?_
        rw [s_nil]
        refine ⟨rfl, c, es, ws, rfl, hw, h8, w1.hd, w1.nm, fun ws' st2 hw' h8' H2 s2 => ?_⟩
        have g2 := GrJ.of w1.hd H2 s2
        have w2 := w1.gr g2
        (try dsimp only); rw [s_cons, s_call, s_cons]
        refine var_ev (d := .loc h) rfl ?_
        rw [s_cons]
        refine var_ev (d := .loc nl) rfl ?_
        rw [s_cons]
        refine snd_ev _ _ _ _ _ rfl ?_
        rw [s_cons]
        refine var_ev (d := .int ex) rfl ?_
        rw [s_nil]
        refine ⟨rfl, c, ls, ks, rfl, hks, x0, by omega, w2.hd, w2.lk, fun ks' st3 hks' H3 s3 => ?_⟩
        have g3 := GrJ.of w2.hd H3 s3
        have w3 := w2.gr g3
        (try dsimp only); rw [s_nil]
        refine ⟨szk _ (by simp), ?_⟩
        rw [s_gN]
        try dsimp only
        have hot : SideOK (.tup [.tup (ws'.map encWish), .tup (ks'.map encLock)]) := SideOK.mk' hw' h8' hks'
        show dSeq _ _ _ [s0, some (.loc h), y2, some (.bl g), some (.loc nn), some (.int (j : Int)), y6, some (.loc nl), some (.int mm), some (.bl pa), y10, some bs, some (.loc s), some (.int kd), some (sideD (ws.map encWish) (ks.map encLock)), some (.int ex), some (.tup [.tup (ws'.map encWish), .tup (ks'.map encLock)]), y17, y18] st3
        rw [s_seq]
        generalize hR3 : dSeq (dIfS (dTest (dOp dEq (dVar 13) (dC (.int 2)))) _ _) _ _ = R3
        have go3 : ∀ (ot : D) (st4 : Sto) (y17 y18 : Option D), SideOK ot → LW st4 h c nn nl s es ls sd → R3 [s0, some (.loc h), y2, some (.bl g), some (.loc nn), some (.int (j : Int)), y6, some (.loc nl), some (.int mm), some (.bl pa), y10, some bs, some (.loc s), some (.int kd), some (sideD (ws.map encWish) (ks.map encLock)), some (.int ex), some ot, y17, y18] st4 := fun ot st4 y17 y18 hot w4 => by
          subst hR3
          try dsimp only
          rw [s_seq]
          generalize hR4 : dSeq (dIfS (dTest (dOp dEq (dVar 13) (dC (.int 3)))) _ _) _ _ = R4
          have go4 : ∀ ot : D, SideOK ot → R4 [s0, some (.loc h), y2, some (.bl g), some (.loc nn), some (.int (j : Int)), y6, some (.loc nl), some (.int mm), some (.bl pa), y10, some bs, some (.loc s), some (.int kd), some (sideD (ws.map encWish) (ks.map encLock)), some (.int ex), some ot, y17, y18] st4 := fun ot hot => by
            subst hR4
            try dsimp only
            rw [s_seq]
            generalize hR5 : dDrop _ _ = R5
            have go5 : ∀ ot : D, SideOK ot → R5 [s0, some (.loc h), y2, some (.bl g), some (.loc nn), some (.int (j : Int)), y6, some (.loc nl), some (.int mm), some (.bl pa), y10, some bs, some (.loc s), some (.int kd), some (sideD (ws.map encWish) (ks.map encLock)), some (.int ex), some ot, y17, y18] st4 := fun ot hot => by
              subst hR5
              refine app_evJ (i := 12) (f := s) (d := ot) rfl w4.at' (by omega) (fun QE Z qe => var_ev rfl qe) ?_
              exact ih (sd ++ [ot]) _ _ _ _ _ _ _ _ (w4.add hot) (by simp) (by simp; omega) (by omega)
            rw [s_ifS, s_test, s_op]
            refine var_ev (d := .int kd) rfl ?_
            rw [s_c]
            show dEqB id (.int kd) (.int 3) _ _
            rw [s_eq_int]
            try dsimp only [id]
            obtain ⟨wo, ko, rfl, how, ho8, hok⟩ := hot.ex
            split
            · rw [s_asg, s_dtup, s_cons]
              refine fst_ev _ _ _ _ _ rfl ?_
              rw [s_cons]
              refine snd_ev (w := ws.map encWish) (l := ks.map encLock) (j := 14) _ _ _ rfl ?_
              rw [s_nil]
              refine ⟨szk _ (by simp), ?_⟩
              rw [s_gN]
              exact go5 _ (SideOK.mk' how ho8 hks)
            · rw [s_next]
              exact go5 _ hot
          rw [s_ifS, s_test, s_op]
          refine var_ev (d := .int kd) rfl ?_
          rw [s_c]
          show dEqB id (.int kd) (.int 2) _ _
          rw [s_eq_int]
          try dsimp only [id]
          obtain ⟨wo, ko, rfl, how, ho8, hok⟩ := hot.ex
          split
          · rw [s_asg, s_dtup, s_cons]
            refine fst_ev (w := ws.map encWish) (l := ks.map encLock) (j := 14) _ _ _ rfl ?_
            rw [s_cons]
            refine snd_ev (w := wo.map encWish) (l := ko.map encLock) (j := 16) _ _ _ rfl ?_
            rw [s_nil]
            refine ⟨szk _ (by simp), ?_⟩
            rw [s_gN]
            exact go4 _ (SideOK.mk' hw h8 hok)
          · rw [s_next]
            exact go4 _ hot
        rw [s_ifS, s_tru]
        refine var_ev (d := .bl pa) rfl ?_
        rw [s_tru_bl]
        cases pa with
        | true =>
          rw [if_pos rfl, s_seq, s_asg, s_lc, s_iR1, s_cons, s_c, s_nil]
          refine ⟨by decide, by decide, ?_⟩
          rw [show (4 : Int).toNat = 4 from rfl, rngItems_up]
          refine runC_ixJ (α := Str) (enc := D.str) (P := fun s => nameS s = true) (h := h) (c := c) (B := 4) (F := fun _ => True) (fun _ _ _ _ => trivial) (fun st Q i hi H _ qe => ?_) 4 0 [] st3 w3.hd trivial (by omega) (by simp) (by simp) fun st4 as g4 hlen has => ?_
          · unfold RD.e_law_k65_4
            refine name_ev (n := 2 * (i : Int) + (j : Int)) (fun QE Z qe => ?_) (by omega) (by omega) fun s hs => qe s st hs (GrJ.refl H)
            rw [s_op, s_op, s_c]
            refine var_ev (d := .int (i : Int)) rfl ?_
            rw [s_mul]
            refine ⟨big_mul2 ⟨by omega, by omega⟩, ?_⟩
            refine var_ev (d := .int (j : Int)) rfl ?_
            rw [s_add_int]
            exact qe
          rw [s_gN]
          try dsimp only
          have g5 := g4.app [Ob.lst (as.map D.str)]
          have hat : (st4 ++ [Ob.lst (as.map D.str)])[st4.length]? = some (.lst (as.map .str)) := getElem?_push
          have w5 := w3.gr g5
          have hne : st4.length ≠ h := by have := g4.hd.hlt; omega
          have N5 : NmL (st4 ++ [Ob.lst (as.map D.str)]) h st4.length as := ⟨hat, hne, by rintro rfl; simp at hlen, by simp at hlen; omega, has⟩
          generalize st4 ++ [Ob.lst (as.map D.str)] = st5 at g5 hat w5 N5 ⊢
          show dAsg _ _ _ [s0, some (.loc h), y2, some (.bl g), some (.loc nn), some (.int (j : Int)), y6, some (.loc nl), some (.int mm), some (.bl true), y10, some bs, some (.loc s), some (.int kd), some (sideD (ws.map encWish) (ks.map encLock)), some (.int ex), some (.tup [.tup (ws'.map encWish), .tup (ks'.map encLock)]), some (.loc st4.length), y18] st5
          rw [s_asg, s_dtup, s_cons, s_cb, s_cons, s_lc, s_iR1, s_cons, s_op, s_c]
          refine drawI_ev (m := 4) rfl w5.hd (fun QE Z qe => qe) (by decide) (by decide) fun r st6 r0 r1 g6 => ?_
          (try dsimp only); rw [s_add_int, s_nil]
          refine ⟨by omega, by omega, ?_⟩
          obtain ⟨rn, rfl⟩ : ∃ rn : Nat, r = rn := ⟨r.toNat, by omega⟩
          rw [show ((3 : Int) + (rn : Int)).toNat = 3 + rn by omega, rngItems_up]
          have w6 := w5.gr g6
          refine runC_ixJ (α := Wish) (enc := encWish) (P := WishV) (h := h) (c := c) (B := 100) (F := fun st => NmL st h st4.length as) (fun _ _ N g => N.gr g) (fun st Q i hi H N qe => ?_) (3 + rn) 0 [] st6 w6.hd (N5.gr g6) (by omega) (by simp; omega) (by simp) fun st7 vs g7 hlen7 hvs => ?_
          · unfold RD.e_law_k65_5
            rw [s_call, s_cons]
            refine var_ev (d := .loc h) rfl ?_
            rw [s_cons]
            refine var_ev (d := .loc st4.length) rfl ?_
            rw [s_nil]
            exact ⟨rfl, c, as, H, N, fun v st' hv H' s' => qe v st' hv (GrJ.of H H' s')⟩
          have w8 := (w6.gr g7).gr ((GrJ.refl g7.hd).app [Ob.lst (vs.map encWish)])
          rw [s_nil, s_tupOf, s_items_loc, getElem?_push]
          dsimp only
          generalize st7 ++ [Ob.lst (vs.map encWish)] = st8 at w8 ⊢
          rw [s_cons]
          refine snd_ev (w := ws'.map encWish) (l := ks'.map encLock) (j := 16) _ _ _ rfl ?_
          rw [s_nil]
          refine ⟨szk _ (by simp), ?_⟩
          rw [s_gN]
          exact go3 _ st8 _ _ (SideOK.mk' hvs (by simp at hlen7; omega) hks') w8
        | false =>
          rw [if_neg (by simp), s_ifS, s_test, s_op]
          refine var_ev (d := .int kd) rfl ?_
          rw [s_c]
          show dEqB id (.int kd) (.int 1) _ _
          rw [s_eq_int]
          try dsimp only [id]
          split
          · rw [s_asg]
            refine var_ev (d := sideD (ws.map encWish) (ks.map encLock)) rfl ?_
            rw [s_gN]
            exact go3 _ st3 _ _ (SideOK.mk' hw h8 hks) w3
          · rw [s_next]
            exact go3 _ st3 _ _ hot w3
      rw [s_asg, s_if, s_tru]
      refine var_ev (d := .bl g) rfl ?_
      rw [s_tru_bl]
      cases g with
      | true =>
        rw [if_pos rfl]
        refine var_ev (d := .int mm) rfl ?_
        rw [s_gN]
        exact go2 mm hm0 hm1
      | false =>
        rw [if_neg (by simp), s_op]
        refine var_ev (d := .int kd) rfl ?_
        rw [s_c, s_div]
        refine ⟨⟨by decide, by decide⟩, ?_⟩
        rw [s_gN]
        exact go2 (kd / 3) (by omega) (by omega)
    rw [s_asg, s_if, s_test, s_op]
    refine var_ev (d := .int kd) rfl ?_
    rw [s_c]
    show dEqB id (.int kd) (.int 0) _ _
    rw [s_eq_int]
    try dsimp only [id]
    split
    · obtain ⟨z, hz⟩ : ∃ z, atI sd (-1) = some z ∧ z ∈ sd := by
        exact last_at hpos
      rw [s_op]
      refine var_ev (d := .loc s) rfl ?_
      rw [s_un, s_c, s_neg]
      show dIx (.loc s) (.int (-1)) _ _
      rw [s_ix_loc]
      refine ⟨sd, z, w1.at', hz.1, ?_⟩
      rw [s_gN]
      exact go1 z (w1.ok z hz.2)
    · refine var_ev (d := bs) rfl ?_
      rw [s_gN]
      exact go1 bs hbs
theorem lp_k65 {E : DEnds} {h c : Nat} {s0 : Option D} (hk : ∀ st y2 y3 y4 y5 y6 y7 y8 y9 y10 y11 y12 y13 y14 y15 y16 y17 y18, HdJ st h c → E.nx [s0, some (.loc h), y2, y3, y4, y5, y6, y7, y8, y9, y10, y11, y12, y13, y14, y15, y16, y17, y18] st) : ∀ (n i : Nat) (st : Sto) (y2 y3 y4 y5 y6 y7 y8 y9 y10 y11 y12 y13 y14 y15 y16 y17 y18 : Option D), HdJ st h c →
    runG (gN 2) (RD.b_law_k65_7 sp_handJ sp_drawJ sp_anyJ sp_lname65 sp_lwish65 sp_lwishes65 sp_llocks65 sp_lright65) E (fun _ => True) (upFrom i n) [s0, some (.loc h), y2, y3, y4, y5, y6, y7, y8, y9, y10, y11, y12, y13, y14, y15, y16, y17, y18] st
  | 0, i, st, y2, y3, y4, y5, y6, y7, y8, y9, y10, y11, y12, y13, y14, y15, y16, y17, y18, H => ⟨trivial, hk st y2 y3 y4 y5 y6 y7 y8 y9 y10 y11 y12 y13 y14 y15 y16 y17 y18 H⟩
  | n + 1, i, st, y2, y3, y4, y5, y6, y7, y8, y9, y10, y11, y12, y13, y14, y15, y16, y17, y18, H => by
    rw [show upFrom i (n + 1) = .int (i : Nat) :: upFrom (i + 1) n from rfl, runG_cons]
    refine ⟨trivial, ?_⟩
    have ih := fun st y2 y3 y4 y5 y6 y7 y8 y9 y10 y11 y12 y13 y14 y15 y16 y17 y18 H => lp_k65 (E := E) (h := h) (c := c) (s0 := s0) hk n (i + 1) st y2 y3 y4 y5 y6 y7 y8 y9 y10 y11 y12 y13 y14 y15 y16 y17 y18 H
    generalize hR : runG (gN 2) (RD.b_law_k65_7 sp_handJ sp_drawJ sp_anyJ sp_lname65 sp_lwish65 sp_lwishes65 sp_llocks65 sp_lright65) E (fun _ => True) (upFrom (i + 1) n) = R at ih ⊢
    rw [s_gN]
    unfold RD.b_law_k65_7
    show dSeq _ _ _ [s0, some (.loc h), some (.int (i : Int)), y3, y4, y5, y6, y7, y8, y9, y10, y11, y12, y13, y14, y15, y16, y17, y18] st
    rw [s_seq, s_asg, s_op]
    refine drawI_ev (m := 10) rfl H (fun QE Z qe => qe) (by decide) (by decide) fun r st1 _ _ g1 => ?_
    rw [s_c]
    show dEqB id (.int r) (.int 0) _ _
    rw [s_eq_int]
    generalize id (decide (r = 0)) = g
    rw [s_gN]
    try dsimp only
    show dSeq _ _ _ [s0, some (.loc h), some (.int (i : Int)), some (.bl g), y4, y5, y6, y7, y8, y9, y10, y11, y12, y13, y14, y15, y16, y17, y18] st1
    rw [s_seq, s_asg, s_lc, s_iR1, s_cons]
    refine anyI_ev (h := h) (c := c) rfl g1.hd (es := [.int 1, .int 2, .int 4, .int 8]) (fun QA Z qa => ?_) (by simp) (by decide) fun e st2 he g2 => ?_
    · simp only [s_cons, s_c, s_nil]
      exact qa
    obtain ⟨m, rfl, hm, hm0⟩ := counts4 e he
    rw [s_nil]
    refine ⟨by omega, by omega, ?_⟩
    rw [Int.toNat_natCast, rngItems_up]
    refine runC_ixJ (α := Str) (enc := D.str) (P := fun s => nameS s = true) (h := h) (c := c) (B := 100) (F := fun _ => True) (fun _ _ _ _ => trivial) (fun st Q i hi H _ qe => ?_) m 0 [] st2 g2.hd trivial (by omega) (by simp; omega) (by simp) fun st3 es g3 hes hns => ?_
    · unfold RD.e_law_k65_1
      rw [s_call, s_cons]
      refine drawI_ev (m := 676) rfl H (fun QE Z qe => qe) (by decide) (by decide) fun r st' r0 r1 g' => ?_
      (try dsimp only); rw [s_nil]
      exact ⟨rfl, r0, r1, fun s hs => qe s st' hs g'⟩
    rw [s_gN]
    try dsimp only
    have g4 := g3.app [Ob.lst (es.map D.str)]
    have hat : (st3 ++ [Ob.lst (es.map D.str)])[st3.length]? = some (.lst (es.map .str)) := getElem?_push
    have hne : st3.length ≠ h := by have := g3.hd.hlt; omega
    have N4 : NmL (st3 ++ [Ob.lst (es.map D.str)]) h st3.length es := ⟨hat, hne, by rintro rfl; simp at hes; omega, by simp at hes; omega, hns⟩
    generalize st3 ++ [Ob.lst (es.map D.str)] = st4 at g4 hat N4 ⊢
    show dSeq _ _ _ [s0, some (.loc h), some (.int (i : Int)), some (.bl g), some (.loc st3.length), y5, y6, y7, y8, y9, y10, y11, y12, y13, y14, y15, y16, y17, y18] st4
    rw [s_seq, s_asg, s_op, s_lc, s_iR1, s_cons, s_c, s_nil]
    refine ⟨by decide, by decide, ?_⟩
    rw [show (26 : Int).toNat = 26 from rfl, rngItems_up]
    refine runC_ixJ (α := Str) (enc := D.str) (P := fun s => nameS s = true) (h := h) (c := c) (B := 26) (F := fun _ => True) (fun _ _ _ _ => trivial) (fun st Q i hi H _ qe => ?_) 26 0 [] st4 g4.hd trivial (by omega) (by simp) (by simp) fun st5 as g5 has hna => ?_
    · unfold RD.e_law_k65_2
      rw [s_call, s_cons, s_op]
      refine var_ev (d := .int (i : Int)) rfl ?_
      rw [s_op, s_c]
      refine drawI_ev (m := 26) rfl H (fun QE Z qe => qe) (by decide) (by decide) fun r st' r0 r1 g' => ?_
      (try dsimp only); rw [s_mul]
      refine ⟨big_mul2 ⟨by omega, by omega⟩, ?_⟩
      rw [s_add_int, s_nil]
      exact ⟨rfl, by omega, by omega, fun s hs => qe s st' hs g'⟩
    try dsimp only
    have g6 := g5.app [Ob.lst (as.map D.str)]
    have ha6 : (st5 ++ [Ob.lst (as.map D.str)])[st5.length]? = some (.lst (as.map .str)) := getElem?_push
    have hne5 : st5.length ≠ h := by have := g5.hd.hlt; omega
    generalize st5 ++ [Ob.lst (as.map D.str)] = st6 at g6 ha6 ⊢
    rw [s_lc, s_iR1, s_cons, s_c, s_nil]
    refine ⟨by decide, by decide, ?_⟩
    rw [show (60 : Int).toNat = 60 from rfl, rngItems_up]
    refine runC_ixJ (α := Str) (enc := D.str) (P := fun s => nameS s = true) (h := h) (c := c) (B := 60) (F := fun _ => True) (fun _ _ _ _ => trivial) (fun st Q i hi H _ qe => ?_) 60 0 [] st6 g6.hd trivial (by omega) (by simp) (by simp) fun st7 bs g7 hbs hnb => ?_
    · unfold RD.e_law_k65_3
      exact name_ev (n := (i : Int)) (fun QE Z qe => var_ev rfl qe) (by omega) (by omega) fun s hs => qe s st hs (GrJ.refl H)
    have ha7 := g7.get ha6 hne5
    try dsimp only
    have g8 := g7.app [Ob.lst (bs.map D.str)]
    have hb8 : (st7 ++ [Ob.lst (bs.map D.str)])[st7.length]? = some (.lst (bs.map .str)) := getElem?_push
    have ha8 : (st7 ++ [Ob.lst (bs.map D.str)])[st5.length]? = some (.lst (as.map .str)) := gb ha7
    generalize st7 ++ [Ob.lst (bs.map D.str)] = st8 at g8 hb8 ha8 ⊢
    rw [s_add_loc]
    refine ⟨_, _, ha8, hb8, by simp only [List.length_map]; exact szk _ (by rw [has, hbs]; decide), ?_⟩
    rw [s_gN]
    try dsimp only
    rw [← List.map_append]
    have g9 := g8.app [Ob.lst ((as ++ bs).map D.str)]
    have hat9 : (st8 ++ [Ob.lst ((as ++ bs).map D.str)])[st8.length]? = some (.lst ((as ++ bs).map .str)) := getElem?_push
    have hne8 : st8.length ≠ h := by have := g8.hd.hlt; omega
    have N9 : NmL (st8 ++ [Ob.lst ((as ++ bs).map D.str)]) h st8.length (as ++ bs) := ⟨hat9, hne8, by intro e; have e1 := congrArg List.length e; rw [List.length_append, has, hbs] at e1; simp at e1, by rw [List.length_append, has, hbs]; decide, fun s hs => by
      rcases List.mem_append.mp hs with hs | hs
      · exact hna s hs
      · exact hnb s hs⟩
    generalize st8 ++ [Ob.lst ((as ++ bs).map D.str)] = st9 at g9 hat9 N9 ⊢
    have gA := (g6.trans g9)
    have M9 := N4.gr gA
    show dSeq _ _ _ [s0, some (.loc h), some (.int (i : Int)), some (.bl g), some (.loc st3.length), y5, some (.loc st8.length), y7, y8, y9, y10, y11, y12, y13, y14, y15, y16, y17, y18] st9
    rw [s_seq]
    generalize hR1 : dSeq (dAsg (dIf (dTru (dVar 3)) (dC (.int 20)) _) _) _ _ = R1
    have go1 : ∀ (nl : Nat) (ls : List Str), NmL st9 h nl ls → R1 [s0, some (.loc h), some (.int (i : Int)), some (.bl g), some (.loc st3.length), y5, some (.loc st8.length), some (.loc nl), y8, y9, y10, y11, y12, y13, y14, y15, y16, y17, y18] st9 := fun nl ls Nl => by
      subst hR1
      try dsimp only
      rw [s_seq]
      generalize hR2 : dSeq (dAsg (dOp dEq _ _) (gN 9)) _ _ = R2
      have go2 : ∀ (mm : Int) (sA : Sto), 0 ≤ mm → mm ≤ 20 → GrJ h c st9 sA → R2 [s0, some (.loc h), some (.int (i : Int)), some (.bl g), some (.loc st3.length), y5, some (.loc st8.length), some (.loc nl), some (.int mm), y9, y10, y11, y12, y13, y14, y15, y16, y17, y18] sA := fun mm sA mm0 mm1 gA => by
        subst hR2
        try dsimp only
        have NA := M9.gr gA
        have LA := Nl.gr gA
        rw [s_seq, s_asg, s_op]
        refine drawI_ev (m := 6) rfl gA.hd (fun QE Z qe => qe) (by decide) (by decide) fun r sB _ _ gB => ?_
        (try dsimp only); rw [s_c]
        show dEqB id (.int r) (.int 0) _ _
        rw [s_eq_int]
        generalize id (decide (r = 0)) = pa
        rw [s_gN]
        try dsimp only
        have NB := NA.gr gB
        have LB := LA.gr gB
        show dSeq _ _ _ [s0, some (.loc h), some (.int (i : Int)), some (.bl g), some (.loc st3.length), y5, some (.loc st8.length), some (.loc nl), some (.int mm), some (.bl pa), y10, y11, y12, y13, y14, y15, y16, y17, y18] sB
        rw [s_seq]
        generalize hR3 : dSeq (dAsg (dTup _) (gN 11)) _ _ = R3
        have go3 : ∀ (ws : List Wish) (sC : Sto), AllW ws → ws.length ≤ 8 → GrJ h c sB sC → R3 [s0, some (.loc h), some (.int (i : Int)), some (.bl g), some (.loc st3.length), y5, some (.loc st8.length), some (.loc nl), some (.int mm), some (.bl pa), some (.tup (ws.map encWish)), y11, y12, y13, y14, y15, y16, y17, y18] sC := fun ws sC hws h8 gC => by
          subst hR3
          try dsimp only
          have NC := NB.gr gC
          have LC := LB.gr gC
          rw [s_seq, s_asg, s_dtup, s_cons]
          refine var_ev (d := .tup (ws.map encWish)) rfl ?_
          rw [s_cons, s_call, s_cons]
          refine var_ev (d := .loc h) rfl ?_
          rw [s_cons]
          refine var_ev (d := .loc nl) rfl ?_
          rw [s_cons, s_dtup, s_nil]
          refine ⟨szk _ (by simp), ?_⟩
          rw [s_cons]
          refine var_ev (d := .int mm) rfl ?_
          rw [s_nil]
          refine ⟨rfl, c, ls, [], rfl, ⟨by simp, by simp, rfl⟩, mm0, by omega, gC.hd, LC, fun ks sD hks HD sD' => ?_⟩
          have gD := GrJ.of gC.hd HD sD'
          have ND := NC.gr gD
          have LD := LC.gr gD
          (try dsimp only); rw [s_nil]
          refine ⟨szk _ (by simp), ?_⟩
          rw [s_gN]
          try dsimp only
          have hb : SideOK (.tup [.tup (ws.map encWish), .tup (ks.map encLock)]) := SideOK.mk' hws h8 hks
          show dSeq _ _ _ [s0, some (.loc h), some (.int (i : Int)), some (.bl g), some (.loc st3.length), y5, some (.loc st8.length), some (.loc nl), some (.int mm), some (.bl pa), some (.tup (ws.map encWish)), some (.tup [.tup (ws.map encWish), .tup (ks.map encLock)]), y12, y13, y14, y15, y16, y17, y18] sD
          generalize hbd : D.tup [.tup (ws.map encWish), .tup (ks.map encLock)] = bd at hb
          rw [s_seq, s_asg, s_dlst, s_cons]
          refine var_ev (d := bd) rfl ?_
          rw [s_nil]
          refine ⟨szk _ (by simp), ?_⟩
          rw [s_gN]
          try dsimp only
          have hlD := gD.hd.hlt
          have hcD := gD.hd.clt
          have w0 : LW (sD ++ [Ob.lst [bd]]) h c st3.length nl sD.length es ls [bd] :=
            ⟨gD.hd.app _, ND.gr ((GrJ.refl gD.hd).app _), LD.gr ((GrJ.refl gD.hd).app _), by omega, by omega, by have := (List.getElem?_eq_some_iff.mp ND.at').1; omega, by have := (List.getElem?_eq_some_iff.mp LD.at').1; omega, getElem?_push, fun d hd => by rw [List.mem_singleton.mp hd]; exact hb⟩
          generalize sD ++ [Ob.lst [bd]] = sE at w0 ⊢
          show dSeq _ _ _ [s0, some (.loc h), some (.int (i : Int)), some (.bl g), some (.loc st3.length), y5, some (.loc st8.length), some (.loc nl), some (.int mm), some (.bl pa), some (.tup (ws.map encWish)), some bd, some (.loc sD.length), y13, y14, y15, y16, y17, y18] sE
          rw [s_seq, s_for, s_iR1, s_cons, s_c, s_nil]
          refine ⟨by decide, by decide, ?_⟩
          rw [show (2 : Int).toNat = 2 from rfl, rngItems_up]
          refine lp_sides (bs := bd) (g := g) (pa := pa) hb mm0 mm1 (fun sd sF z5 z13 z14 z15 z16 z17 z18 wF hl3 => ?_) 2 0 [bd] sE _ _ _ _ _ _ _ w0 (by simp) (by simp) (by omega)
          try dsimp only
          obtain ⟨x, y, z, rfl⟩ : ∃ x y z, sd = [x, y, z] := by
            match sd, hl3 with
            | [x, y, z], _ => exact ⟨x, y, z, rfl⟩
          have ox := wF.ok x (by simp)
          have oy := wF.ok y (by simp)
          have oz := wF.ok z (by simp)
          have hix : ∀ (ii : Int) (d : D) (sG : Sto), Pre sF sG → atI [x, y, z] ii = some d → ∀ (QE : DK) Z, QE d sG → dOp dIx (dVar 12) (dC (.int ii)) [s0, some (.loc h), some (.int (i : Int)), some (.bl g), some (.loc st3.length), z5, some (.loc st8.length), some (.loc nl), some (.int mm), some (.bl pa), some (.tup (ws.map encWish)), some bd, some (.loc sD.length), z13, z14, z15, z16, z17, z18] sG QE Z := fun ii d sG p hi QE Z qe => by
            rw [s_op]
            refine var_ev (d := .loc sD.length) rfl ?_
            rw [s_c, s_ix_loc]
            exact ⟨_, d, p.get wF.at', hi, qe⟩
          rw [s_seq, s_ifS, s_or]
          refine right_evV ox oy oz rfl wF.at' fun s1 p1 => ?_
          rw [if_neg (by simp)]
          refine right_evJ ox oz oy (fun QA Z qa => ?_) fun s2 p2 => ?_
          · rw [s_cons]
            refine hix 0 x s1 p1 rfl _ _ ?_
            rw [s_cons]
            refine hix 2 z s1 p1 rfl _ _ ?_
            rw [s_cons]
            refine hix 1 y s1 p1 rfl _ _ ?_
            rw [s_nil]; exact qa
          have q2 := p1.trans p2
          rw [if_neg (by simp), s_next]
          try dsimp only
          rw [s_seq, s_ifS, s_or]
          refine right_evJ ox ox oz (fun QA Z qa => ?_) fun s3 p3 => ?_
          · rw [s_cons]
            refine hix 0 x s2 q2 rfl _ _ ?_
            rw [s_cons]
            refine hix 0 x s2 q2 rfl _ _ ?_
            rw [s_cons]
            refine hix 2 z s2 q2 rfl _ _ ?_
            rw [s_nil]; exact qa
          have q3 := q2.trans p3
          rw [if_neg (by simp)]
          refine right_evJ ox oy ox (fun QA Z qa => ?_) fun s4 p4 => ?_
          · rw [s_cons]
            refine hix 0 x s3 q3 rfl _ _ ?_
            rw [s_cons]
            refine hix 1 y s3 q3 rfl _ _ ?_
            rw [s_cons]
            refine hix 0 x s3 q3 rfl _ _ ?_
            rw [s_nil]; exact qa
          have q4 := q3.trans p4
          rw [if_neg (by simp), s_next]
          try dsimp only
          rw [s_ifS]
          refine right_evJ oy oy oy (fun QA Z qa => ?_) fun s5 p5 => ?_
          · rw [s_cons]
            refine hix 1 y s4 q4 rfl _ _ ?_
            rw [s_cons]
            refine hix 1 y s4 q4 rfl _ _ ?_
            rw [s_cons]
            refine hix 1 y s4 q4 rfl _ _ ?_
            rw [s_nil]; exact qa
          rw [if_neg (by simp), s_next]
          exact ih s5 _ _ _ _ _ _ _ _ _ _ _ _ _ _ _ _ _ (GrJ.pre wF.hd (q4.trans p5)).hd
        rw [s_asg, s_if, s_tru]
        refine var_ev (d := .bl pa) rfl ?_
        rw [s_tru_bl]
        cases pa with
        | true =>
          rw [if_pos rfl, s_dtup, s_nil]
          refine ⟨szk _ (by simp), ?_⟩
          rw [s_gN]
          exact go3 [] sB (fun _ z => by cases z) (by simp) (GrJ.refl gB.hd)
        | false =>
          rw [if_neg (by simp), s_call, s_cons]
          refine var_ev (d := .loc h) rfl ?_
          rw [s_cons]
          refine var_ev (d := .loc st3.length) rfl ?_
          rw [s_cons, s_dtup, s_nil]
          refine ⟨szk _ (by simp), ?_⟩
          rw [s_nil]
          refine ⟨rfl, c, es, [], rfl, (fun _ z => by cases z), by simp, gB.hd, NB, fun ws' sC hw' h8' HC sC' => ?_⟩
          (try dsimp only); rw [s_gN]
          exact go3 ws' sC hw' h8' (GrJ.of gB.hd HC sC')
      rw [s_asg, s_if, s_tru]
      refine var_ev (d := .bl g) rfl ?_
      rw [s_tru_bl]
      cases g with
      | true =>
        rw [if_pos rfl, s_c, s_gN]
        exact go2 20 st9 (by decide) (by decide) (GrJ.refl g9.hd)
      | false =>
        rw [if_neg (by simp)]
        refine drawI_ev (m := 4) rfl g9.hd (fun QE Z qe => qe) (by decide) (by decide) fun r sA r0 r1 gA => ?_
        (try dsimp only); rw [s_gN]
        exact go2 r sA r0 (by omega) gA
    rw [s_asg, s_if, s_tru]
    refine var_ev (d := .bl g) rfl ?_
    rw [s_tru_bl]
    cases g with
    | true =>
      rw [if_pos rfl]
      refine var_ev (d := .loc st8.length) rfl ?_
      rw [s_gN]
      exact go1 _ _ N9
    | false =>
      rw [if_neg (by simp)]
      refine var_ev (d := .loc st3.length) rfl ?_
      rw [s_gN]
      exact go1 _ _ M9
theorem r_law_k65 : Rd 1 sp_law (RD.t_law_k65 sp_handJ sp_drawJ sp_anyJ sp_lname65 sp_lwish65 sp_lwishes65 sp_llocks65 sp_lright65) RD.N_law_k65 := by
  intro ds st Q Z hl h
  match ds, hl, h with
  | [d], _, hx =>
    obtain ⟨ns, hd, hl, _, q⟩ := hx
    unfold RD.t_law_k65
    rw [s_seq]
    try dsimp only
    generalize hR : dSeq _ _ _ = R
    have hh : ∀ (QE : DK) Z', (∀ st' h c, HdJ st' h c → QE (.loc h) st') → sp_handJ [d] st QE Z' := fun QE Z' q' => ⟨ns, hd, hl, fun st' h c _ H _ _ => q' st' h c H⟩
    simp
    refine hh _ _ fun st1 h c H => ?_
    subst hR
    rw [s_seq]
    try dsimp only
    generalize hR : dRet _ _ = R
    simp [rngItems_up]
    refine lp_k65 (fun st' y2 y3 y4 y5 y6 y7 y8 y9 y10 y11 y12 y13 y14 y15 y16 y17 y18 g => ?_) 2 0 st1 _ _ _ _ _ _ _ _ _ _ _ _ _ _ _ _ _ H
    subst hR
    simp
    exact .inl (q st')
end
end CM
set_option maxHeartbeats 0
namespace Lk65
open PySem L2 PySem.Spec DL
open PyProof.Rows hiding St
theorem all_mk {l : PySem.W.OpenLaw} {w : World} {K : PySem.W.Frag} {h : Heap} {mg : Str → Option Value} {fa : Addr} (X : K.In h) (G : h.Ns mainGlobals mg) (hfa : mg "law" = some (.ref fa))
    {f_is_integer : Addr} {oc_is_integer kV_is_integer dc_is_integer pm_is_integer cd_is_integer ct_is_integer : Value} {od_is_integer an_is_integer : Option Addr} {sl_is_integer : Array (Option Value)}
    {f_is_number : Addr} {oc_is_number kV_is_number dc_is_number pm_is_number cd_is_number ct_is_number : Value} {od_is_number an_is_number : Option Addr} {sl_is_number : Array (Option Value)}
    {f_is_name : Addr} {oc_is_name kV_is_name dc_is_name pm_is_name cd_is_name ct_is_name : Value} {od_is_name an_is_name : Option Addr} {sl_is_name : Array (Option Value)}
    {f_is_names : Addr} {oc_is_names kV_is_names dc_is_names pm_is_names cd_is_names ct_is_names : Value} {od_is_names an_is_names : Option Addr} {sl_is_names : Array (Option Value)}
    {f_is_wanted : Addr} {oc_is_wanted kV_is_wanted dc_is_wanted pm_is_wanted cd_is_wanted ct_is_wanted : Value} {od_is_wanted an_is_wanted : Option Addr} {sl_is_wanted : Array (Option Value)}
    {f_is_tuple_of : Addr} {oc_is_tuple_of kV_is_tuple_of dc_is_tuple_of pm_is_tuple_of cd_is_tuple_of ct_is_tuple_of : Value} {od_is_tuple_of an_is_tuple_of : Option Addr} {sl_is_tuple_of : Array (Option Value)}
    {f_is_tuple_within : Addr} {oc_is_tuple_within kV_is_tuple_within dc_is_tuple_within pm_is_tuple_within cd_is_tuple_within ct_is_tuple_within : Value} {od_is_tuple_within an_is_tuple_within : Option Addr} {sl_is_tuple_within : Array (Option Value)}
    {f_is_version : Addr} {oc_is_version kV_is_version dc_is_version pm_is_version cd_is_version ct_is_version : Value} {od_is_version an_is_version : Option Addr} {sl_is_version : Array (Option Value)}
    {f_is_stretch : Addr} {oc_is_stretch kV_is_stretch dc_is_stretch pm_is_stretch cd_is_stretch ct_is_stretch : Value} {od_is_stretch an_is_stretch : Option Addr} {sl_is_stretch : Array (Option Value)}
    {f_is_range : Addr} {oc_is_range kV_is_range dc_is_range pm_is_range cd_is_range ct_is_range : Value} {od_is_range an_is_range : Option Addr} {sl_is_range : Array (Option Value)}
    {f_reaches : Addr} {oc_reaches kV_reaches dc_reaches pm_reaches cd_reaches ct_reaches : Value} {od_reaches an_reaches : Option Addr} {sl_reaches : Array (Option Value)}
    {f_is_wish : Addr} {oc_is_wish kV_is_wish dc_is_wish pm_is_wish cd_is_wish ct_is_wish : Value} {od_is_wish an_is_wish : Option Addr} {sl_is_wish : Array (Option Value)}
    {f_is_locks : Addr} {oc_is_locks kV_is_locks dc_is_locks pm_is_locks cd_is_locks ct_is_locks : Value} {od_is_locks an_is_locks : Option Addr} {sl_is_locks : Array (Option Value)}
    {f_wrong_part : Addr} {oc_wrong_part kV_wrong_part dc_wrong_part pm_wrong_part cd_wrong_part ct_wrong_part : Value} {od_wrong_part an_wrong_part : Option Addr} {sl_wrong_part : Array (Option Value)}
    {f_by_name : Addr} {oc_by_name kV_by_name dc_by_name pm_by_name cd_by_name ct_by_name : Value} {od_by_name an_by_name : Option Addr} {sl_by_name : Array (Option Value)}
    {f_settled : Addr} {oc_settled kV_settled dc_settled pm_settled cd_settled ct_settled : Value} {od_settled an_settled : Option Addr} {sl_settled : Array (Option Value)}
    {f_merged_rows : Addr} {oc_merged_rows kV_merged_rows dc_merged_rows pm_merged_rows cd_merged_rows ct_merged_rows : Value} {od_merged_rows an_merged_rows : Option Addr} {sl_merged_rows : Array (Option Value)}
    {f_clash_of : Addr} {oc_clash_of kV_clash_of dc_clash_of pm_clash_of cd_clash_of ct_clash_of : Value} {od_clash_of an_clash_of : Option Addr} {sl_clash_of : Array (Option Value)}
    {f_rows_within : Addr} {oc_rows_within kV_rows_within dc_rows_within pm_rows_within cd_rows_within ct_rows_within : Value} {od_rows_within an_rows_within : Option Addr} {sl_rows_within : Array (Option Value)}
    {f_merged : Addr} {oc_merged kV_merged dc_merged pm_merged cd_merged ct_merged : Value} {od_merged an_merged : Option Addr} {sl_merged : Array (Option Value)}
    {f__law_hand : Addr} {oc__law_hand kV__law_hand dc__law_hand pm__law_hand cd__law_hand ct__law_hand : Value} {od__law_hand an__law_hand : Option Addr} {sl__law_hand : Array (Option Value)}
    {f__law_draw : Addr} {oc__law_draw kV__law_draw dc__law_draw pm__law_draw cd__law_draw ct__law_draw : Value} {od__law_draw an__law_draw : Option Addr} {sl__law_draw : Array (Option Value)}
    {f__law_any : Addr} {oc__law_any kV__law_any dc__law_any pm__law_any cd__law_any ct__law_any : Value} {od__law_any an__law_any : Option Addr} {sl__law_any : Array (Option Value)}
    {f__law_name : Addr} {oc__law_name kV__law_name dc__law_name pm__law_name cd__law_name ct__law_name : Value} {od__law_name an__law_name : Option Addr} {sl__law_name : Array (Option Value)}
    {f__law_wish : Addr} {oc__law_wish kV__law_wish dc__law_wish pm__law_wish cd__law_wish ct__law_wish : Value} {od__law_wish an__law_wish : Option Addr} {sl__law_wish : Array (Option Value)}
    {f__law_wishes : Addr} {oc__law_wishes kV__law_wishes dc__law_wishes pm__law_wishes cd__law_wishes ct__law_wishes : Value} {od__law_wishes an__law_wishes : Option Addr} {sl__law_wishes : Array (Option Value)}
    {f__law_locks : Addr} {oc__law_locks kV__law_locks dc__law_locks pm__law_locks cd__law_locks ct__law_locks : Value} {od__law_locks an__law_locks : Option Addr} {sl__law_locks : Array (Option Value)}
    {f__law_of : Addr} {oc__law_of kV__law_of dc__law_of pm__law_of cd__law_of ct__law_of : Value} {od__law_of an__law_of : Option Addr} {sl__law_of : Array (Option Value)}
    {f__law_due : Addr} {oc__law_due kV__law_due dc__law_due pm__law_due cd__law_due ct__law_due : Value} {od__law_due an__law_due : Option Addr} {sl__law_due : Array (Option Value)}
    {f__law_placed : Addr} {oc__law_placed kV__law_placed dc__law_placed pm__law_placed cd__law_placed ct__law_placed : Value} {od__law_placed an__law_placed : Option Addr} {sl__law_placed : Array (Option Value)}
    {f__law_told : Addr} {oc__law_told kV__law_told dc__law_told pm__law_told cd__law_told ct__law_told : Value} {od__law_told an__law_told : Option Addr} {sl__law_told : Array (Option Value)}
    {f__law_wanted : Addr} {oc__law_wanted kV__law_wanted dc__law_wanted pm__law_wanted cd__law_wanted ct__law_wanted : Value} {od__law_wanted an__law_wanted : Option Addr} {sl__law_wanted : Array (Option Value)}
    {f__law_is_right : Addr} {oc__law_is_right kV__law_is_right dc__law_is_right pm__law_is_right cd__law_is_right ct__law_is_right : Value} {od__law_is_right an__law_is_right : Option Addr} {sl__law_is_right : Array (Option Value)}
    {f_law : Addr} {oc_law kV_law dc_law pm_law cd_law ct_law : Value} {od_law an_law : Option Addr} {sl_law : Array (Option Value)}
    {c_TooMany : Addr}
    {cl_TooMany : Addr} {nm_TooMany q_TooMany : Str} {N_TooMany : Addr} {bs_TooMany : List Value} {sn_TooMany : List Str} {sb_TooMany : List Value} {ab_TooMany : Bool} {co_TooMany : Option Bool} {dd_TooMany : Option Addr} {m0_TooMany m1_TooMany m2_TooMany m3_TooMany m5_TooMany : Option Value}
    {fi_TooMany : Addr} {oci_TooMany kVi_TooMany dci_TooMany pmi_TooMany cdi_TooMany cti_TooMany : Value} {odi_TooMany ani_TooMany : Option Addr} {sli_TooMany : Array (Option Value)}
    {c_Question : Addr}
    {f_Question___init__ : Addr} {oc_Question___init__ kV_Question___init__ dc_Question___init__ pm_Question___init__ cd_Question___init__ ct_Question___init__ : Value} {od_Question___init__ an_Question___init__ : Option Addr} {sl_Question___init__ : Array (Option Value)}
    {f_Question___eq__ : Addr} {oc_Question___eq__ kV_Question___eq__ dc_Question___eq__ pm_Question___eq__ cd_Question___eq__ ct_Question___eq__ : Value} {od_Question___eq__ an_Question___eq__ : Option Addr} {sl_Question___eq__ : Array (Option Value)}
    {u_NAME_MOST : Value}
    {u_WANTED_MOST : Value}
    {u_NUMBER_MOST : Value}
    {u_WISHES_MOST : Value}
    {u_LOCKS_MOST : Value}
    (a_is_integer : PySem.W.nsIn K mainGlobals "is_integer" = some (some (.ref f_is_integer)))
    (l_is_integer : K.lookup f_is_integer = some ⟨oc_is_integer, od_is_integer, .func (PySem.W.fnOf "is_integer" "is_integer" (defArgs S_is_integer) (defBody S_is_integer) (defScope S_is_integer) .none kV_is_integer dc_is_integer pm_is_integer an_is_integer cd_is_integer ct_is_integer), sl_is_integer⟩)
    (q_is_integer : PySem.W.codeIn K cd_is_integer "is_integer" = true)
    (k_is_integer : PySem.W.keepIn K (.ref f_is_integer) = true)
    (a_is_number : PySem.W.nsIn K mainGlobals "is_number" = some (some (.ref f_is_number)))
    (l_is_number : K.lookup f_is_number = some ⟨oc_is_number, od_is_number, .func (PySem.W.fnOf "is_number" "is_number" (defArgs S_is_number) (defBody S_is_number) (defScope S_is_number) .none kV_is_number dc_is_number pm_is_number an_is_number cd_is_number ct_is_number), sl_is_number⟩)
    (q_is_number : PySem.W.codeIn K cd_is_number "is_number" = true)
    (k_is_number : PySem.W.keepIn K (.ref f_is_number) = true)
    (a_is_name : PySem.W.nsIn K mainGlobals "is_name" = some (some (.ref f_is_name)))
    (l_is_name : K.lookup f_is_name = some ⟨oc_is_name, od_is_name, .func (PySem.W.fnOf "is_name" "is_name" (defArgs S_is_name) (defBody S_is_name) (defScope S_is_name) .none kV_is_name dc_is_name pm_is_name an_is_name cd_is_name ct_is_name), sl_is_name⟩)
    (q_is_name : PySem.W.codeIn K cd_is_name "is_name" = true)
    (k_is_name : PySem.W.keepIn K (.ref f_is_name) = true)
    (a_is_names : PySem.W.nsIn K mainGlobals "is_names" = some (some (.ref f_is_names)))
    (l_is_names : K.lookup f_is_names = some ⟨oc_is_names, od_is_names, .func (PySem.W.fnOf "is_names" "is_names" (defArgs S_is_names) (defBody S_is_names) (defScope S_is_names) .none kV_is_names dc_is_names pm_is_names an_is_names cd_is_names ct_is_names), sl_is_names⟩)
    (q_is_names : PySem.W.codeIn K cd_is_names "is_names" = true)
    (k_is_names : PySem.W.keepIn K (.ref f_is_names) = true)
    (a_is_wanted : PySem.W.nsIn K mainGlobals "is_wanted" = some (some (.ref f_is_wanted)))
    (l_is_wanted : K.lookup f_is_wanted = some ⟨oc_is_wanted, od_is_wanted, .func (PySem.W.fnOf "is_wanted" "is_wanted" (defArgs S_is_wanted) (defBody S_is_wanted) (defScope S_is_wanted) .none kV_is_wanted dc_is_wanted pm_is_wanted an_is_wanted cd_is_wanted ct_is_wanted), sl_is_wanted⟩)
    (q_is_wanted : PySem.W.codeIn K cd_is_wanted "is_wanted" = true)
    (k_is_wanted : PySem.W.keepIn K (.ref f_is_wanted) = true)
    (a_is_tuple_of : PySem.W.nsIn K mainGlobals "is_tuple_of" = some (some (.ref f_is_tuple_of)))
    (l_is_tuple_of : K.lookup f_is_tuple_of = some ⟨oc_is_tuple_of, od_is_tuple_of, .func (PySem.W.fnOf "is_tuple_of" "is_tuple_of" (defArgs S_is_tuple_of) (defBody S_is_tuple_of) (defScope S_is_tuple_of) .none kV_is_tuple_of dc_is_tuple_of pm_is_tuple_of an_is_tuple_of cd_is_tuple_of ct_is_tuple_of), sl_is_tuple_of⟩)
    (q_is_tuple_of : PySem.W.codeIn K cd_is_tuple_of "is_tuple_of" = true)
    (k_is_tuple_of : PySem.W.keepIn K (.ref f_is_tuple_of) = true)
    (a_is_tuple_within : PySem.W.nsIn K mainGlobals "is_tuple_within" = some (some (.ref f_is_tuple_within)))
    (l_is_tuple_within : K.lookup f_is_tuple_within = some ⟨oc_is_tuple_within, od_is_tuple_within, .func (PySem.W.fnOf "is_tuple_within" "is_tuple_within" (defArgs S_is_tuple_within) (defBody S_is_tuple_within) (defScope S_is_tuple_within) .none kV_is_tuple_within dc_is_tuple_within pm_is_tuple_within an_is_tuple_within cd_is_tuple_within ct_is_tuple_within), sl_is_tuple_within⟩)
    (q_is_tuple_within : PySem.W.codeIn K cd_is_tuple_within "is_tuple_within" = true)
    (k_is_tuple_within : PySem.W.keepIn K (.ref f_is_tuple_within) = true)
    (a_is_version : PySem.W.nsIn K mainGlobals "is_version" = some (some (.ref f_is_version)))
    (l_is_version : K.lookup f_is_version = some ⟨oc_is_version, od_is_version, .func (PySem.W.fnOf "is_version" "is_version" (defArgs S_is_version) (defBody S_is_version) (defScope S_is_version) .none kV_is_version dc_is_version pm_is_version an_is_version cd_is_version ct_is_version), sl_is_version⟩)
    (q_is_version : PySem.W.codeIn K cd_is_version "is_version" = true)
    (k_is_version : PySem.W.keepIn K (.ref f_is_version) = true)
    (a_is_stretch : PySem.W.nsIn K mainGlobals "is_stretch" = some (some (.ref f_is_stretch)))
    (l_is_stretch : K.lookup f_is_stretch = some ⟨oc_is_stretch, od_is_stretch, .func (PySem.W.fnOf "is_stretch" "is_stretch" (defArgs S_is_stretch) (defBody S_is_stretch) (defScope S_is_stretch) .none kV_is_stretch dc_is_stretch pm_is_stretch an_is_stretch cd_is_stretch ct_is_stretch), sl_is_stretch⟩)
    (q_is_stretch : PySem.W.codeIn K cd_is_stretch "is_stretch" = true)
    (k_is_stretch : PySem.W.keepIn K (.ref f_is_stretch) = true)
    (a_is_range : PySem.W.nsIn K mainGlobals "is_range" = some (some (.ref f_is_range)))
    (l_is_range : K.lookup f_is_range = some ⟨oc_is_range, od_is_range, .func (PySem.W.fnOf "is_range" "is_range" (defArgs S_is_range) (defBody S_is_range) (defScope S_is_range) .none kV_is_range dc_is_range pm_is_range an_is_range cd_is_range ct_is_range), sl_is_range⟩)
    (q_is_range : PySem.W.codeIn K cd_is_range "is_range" = true)
    (k_is_range : PySem.W.keepIn K (.ref f_is_range) = true)
    (a_reaches : PySem.W.nsIn K mainGlobals "reaches" = some (some (.ref f_reaches)))
    (l_reaches : K.lookup f_reaches = some ⟨oc_reaches, od_reaches, .func (PySem.W.fnOf "reaches" "reaches" (defArgs S_reaches) (defBody S_reaches) (defScope S_reaches) .none kV_reaches dc_reaches pm_reaches an_reaches cd_reaches ct_reaches), sl_reaches⟩)
    (q_reaches : PySem.W.codeIn K cd_reaches "reaches" = true)
    (k_reaches : PySem.W.keepIn K (.ref f_reaches) = true)
    (a_is_wish : PySem.W.nsIn K mainGlobals "is_wish" = some (some (.ref f_is_wish)))
    (l_is_wish : K.lookup f_is_wish = some ⟨oc_is_wish, od_is_wish, .func (PySem.W.fnOf "is_wish" "is_wish" (defArgs S_is_wish) (defBody S_is_wish) (defScope S_is_wish) .none kV_is_wish dc_is_wish pm_is_wish an_is_wish cd_is_wish ct_is_wish), sl_is_wish⟩)
    (q_is_wish : PySem.W.codeIn K cd_is_wish "is_wish" = true)
    (k_is_wish : PySem.W.keepIn K (.ref f_is_wish) = true)
    (a_is_locks : PySem.W.nsIn K mainGlobals "is_locks" = some (some (.ref f_is_locks)))
    (l_is_locks : K.lookup f_is_locks = some ⟨oc_is_locks, od_is_locks, .func (PySem.W.fnOf "is_locks" "is_locks" (defArgs S_is_locks) (defBody S_is_locks) (defScope S_is_locks) .none kV_is_locks dc_is_locks pm_is_locks an_is_locks cd_is_locks ct_is_locks), sl_is_locks⟩)
    (q_is_locks : PySem.W.codeIn K cd_is_locks "is_locks" = true)
    (k_is_locks : PySem.W.keepIn K (.ref f_is_locks) = true)
    (a_wrong_part : PySem.W.nsIn K mainGlobals "wrong_part" = some (some (.ref f_wrong_part)))
    (l_wrong_part : K.lookup f_wrong_part = some ⟨oc_wrong_part, od_wrong_part, .func (PySem.W.fnOf "wrong_part" "wrong_part" (defArgs S_wrong_part) (defBody S_wrong_part) (defScope S_wrong_part) .none kV_wrong_part dc_wrong_part pm_wrong_part an_wrong_part cd_wrong_part ct_wrong_part), sl_wrong_part⟩)
    (q_wrong_part : PySem.W.codeIn K cd_wrong_part "wrong_part" = true)
    (k_wrong_part : PySem.W.keepIn K (.ref f_wrong_part) = true)
    (a_by_name : PySem.W.nsIn K mainGlobals "by_name" = some (some (.ref f_by_name)))
    (l_by_name : K.lookup f_by_name = some ⟨oc_by_name, od_by_name, .func (PySem.W.fnOf "by_name" "by_name" (defArgs S_by_name) (defBody S_by_name) (defScope S_by_name) .none kV_by_name dc_by_name pm_by_name an_by_name cd_by_name ct_by_name), sl_by_name⟩)
    (q_by_name : PySem.W.codeIn K cd_by_name "by_name" = true)
    (k_by_name : PySem.W.keepIn K (.ref f_by_name) = true)
    (a_settled : PySem.W.nsIn K mainGlobals "settled" = some (some (.ref f_settled)))
    (l_settled : K.lookup f_settled = some ⟨oc_settled, od_settled, .func (PySem.W.fnOf "settled" "settled" (defArgs S_settled) (defBody S_settled) (defScope S_settled) .none kV_settled dc_settled pm_settled an_settled cd_settled ct_settled), sl_settled⟩)
    (q_settled : PySem.W.codeIn K cd_settled "settled" = true)
    (k_settled : PySem.W.keepIn K (.ref f_settled) = true)
    (a_merged_rows : PySem.W.nsIn K mainGlobals "merged_rows" = some (some (.ref f_merged_rows)))
    (l_merged_rows : K.lookup f_merged_rows = some ⟨oc_merged_rows, od_merged_rows, .func (PySem.W.fnOf "merged_rows" "merged_rows" (defArgs S_merged_rows) (defBody S_merged_rows) (defScope S_merged_rows) .none kV_merged_rows dc_merged_rows pm_merged_rows an_merged_rows cd_merged_rows ct_merged_rows), sl_merged_rows⟩)
    (q_merged_rows : PySem.W.codeIn K cd_merged_rows "merged_rows" = true)
    (k_merged_rows : PySem.W.keepIn K (.ref f_merged_rows) = true)
    (a_clash_of : PySem.W.nsIn K mainGlobals "clash_of" = some (some (.ref f_clash_of)))
    (l_clash_of : K.lookup f_clash_of = some ⟨oc_clash_of, od_clash_of, .func (PySem.W.fnOf "clash_of" "clash_of" (defArgs S_clash_of) (defBody S_clash_of) (defScope S_clash_of) .none kV_clash_of dc_clash_of pm_clash_of an_clash_of cd_clash_of ct_clash_of), sl_clash_of⟩)
    (q_clash_of : PySem.W.codeIn K cd_clash_of "clash_of" = true)
    (k_clash_of : PySem.W.keepIn K (.ref f_clash_of) = true)
    (a_rows_within : PySem.W.nsIn K mainGlobals "rows_within" = some (some (.ref f_rows_within)))
    (l_rows_within : K.lookup f_rows_within = some ⟨oc_rows_within, od_rows_within, .func (PySem.W.fnOf "rows_within" "rows_within" (defArgs S_rows_within) (defBody S_rows_within) (defScope S_rows_within) .none kV_rows_within dc_rows_within pm_rows_within an_rows_within cd_rows_within ct_rows_within), sl_rows_within⟩)
    (q_rows_within : PySem.W.codeIn K cd_rows_within "rows_within" = true)
    (k_rows_within : PySem.W.keepIn K (.ref f_rows_within) = true)
    (a_merged : PySem.W.nsIn K mainGlobals "merged" = some (some (.ref f_merged)))
    (l_merged : K.lookup f_merged = some ⟨oc_merged, od_merged, .func (PySem.W.fnOf "merged" "merged" (defArgs S_merged) (defBody S_merged) (defScope S_merged) .none kV_merged dc_merged pm_merged an_merged cd_merged ct_merged), sl_merged⟩)
    (q_merged : PySem.W.codeIn K cd_merged "merged" = true)
    (k_merged : PySem.W.keepIn K (.ref f_merged) = true)
    (a__law_hand : PySem.W.nsIn K mainGlobals "_law_hand" = some (some (.ref f__law_hand)))
    (l__law_hand : K.lookup f__law_hand = some ⟨oc__law_hand, od__law_hand, .func (PySem.W.fnOf "_law_hand" "_law_hand" (defArgs S__law_hand) (defBody S__law_hand) (defScope S__law_hand) .none kV__law_hand dc__law_hand pm__law_hand an__law_hand cd__law_hand ct__law_hand), sl__law_hand⟩)
    (q__law_hand : PySem.W.codeIn K cd__law_hand "_law_hand" = true)
    (k__law_hand : PySem.W.keepIn K (.ref f__law_hand) = true)
    (a__law_draw : PySem.W.nsIn K mainGlobals "_law_draw" = some (some (.ref f__law_draw)))
    (l__law_draw : K.lookup f__law_draw = some ⟨oc__law_draw, od__law_draw, .func (PySem.W.fnOf "_law_draw" "_law_draw" (defArgs S__law_draw) (defBody S__law_draw) (defScope S__law_draw) .none kV__law_draw dc__law_draw pm__law_draw an__law_draw cd__law_draw ct__law_draw), sl__law_draw⟩)
    (q__law_draw : PySem.W.codeIn K cd__law_draw "_law_draw" = true)
    (k__law_draw : PySem.W.keepIn K (.ref f__law_draw) = true)
    (a__law_any : PySem.W.nsIn K mainGlobals "_law_any" = some (some (.ref f__law_any)))
    (l__law_any : K.lookup f__law_any = some ⟨oc__law_any, od__law_any, .func (PySem.W.fnOf "_law_any" "_law_any" (defArgs S__law_any) (defBody S__law_any) (defScope S__law_any) .none kV__law_any dc__law_any pm__law_any an__law_any cd__law_any ct__law_any), sl__law_any⟩)
    (q__law_any : PySem.W.codeIn K cd__law_any "_law_any" = true)
    (k__law_any : PySem.W.keepIn K (.ref f__law_any) = true)
    (a__law_name : PySem.W.nsIn K mainGlobals "_law_name" = some (some (.ref f__law_name)))
    (l__law_name : K.lookup f__law_name = some ⟨oc__law_name, od__law_name, .func (PySem.W.fnOf "_law_name" "_law_name" (defArgs S__law_name) (defBody S__law_name) (defScope S__law_name) .none kV__law_name dc__law_name pm__law_name an__law_name cd__law_name ct__law_name), sl__law_name⟩)
    (q__law_name : PySem.W.codeIn K cd__law_name "_law_name" = true)
    (k__law_name : PySem.W.keepIn K (.ref f__law_name) = true)
    (a__law_wish : PySem.W.nsIn K mainGlobals "_law_wish" = some (some (.ref f__law_wish)))
    (l__law_wish : K.lookup f__law_wish = some ⟨oc__law_wish, od__law_wish, .func (PySem.W.fnOf "_law_wish" "_law_wish" (defArgs S__law_wish) (defBody S__law_wish) (defScope S__law_wish) .none kV__law_wish dc__law_wish pm__law_wish an__law_wish cd__law_wish ct__law_wish), sl__law_wish⟩)
    (q__law_wish : PySem.W.codeIn K cd__law_wish "_law_wish" = true)
    (k__law_wish : PySem.W.keepIn K (.ref f__law_wish) = true)
    (a__law_wishes : PySem.W.nsIn K mainGlobals "_law_wishes" = some (some (.ref f__law_wishes)))
    (l__law_wishes : K.lookup f__law_wishes = some ⟨oc__law_wishes, od__law_wishes, .func (PySem.W.fnOf "_law_wishes" "_law_wishes" (defArgs S__law_wishes) (defBody S__law_wishes) (defScope S__law_wishes) .none kV__law_wishes dc__law_wishes pm__law_wishes an__law_wishes cd__law_wishes ct__law_wishes), sl__law_wishes⟩)
    (q__law_wishes : PySem.W.codeIn K cd__law_wishes "_law_wishes" = true)
    (k__law_wishes : PySem.W.keepIn K (.ref f__law_wishes) = true)
    (a__law_locks : PySem.W.nsIn K mainGlobals "_law_locks" = some (some (.ref f__law_locks)))
    (l__law_locks : K.lookup f__law_locks = some ⟨oc__law_locks, od__law_locks, .func (PySem.W.fnOf "_law_locks" "_law_locks" (defArgs S__law_locks) (defBody S__law_locks) (defScope S__law_locks) .none kV__law_locks dc__law_locks pm__law_locks an__law_locks cd__law_locks ct__law_locks), sl__law_locks⟩)
    (q__law_locks : PySem.W.codeIn K cd__law_locks "_law_locks" = true)
    (k__law_locks : PySem.W.keepIn K (.ref f__law_locks) = true)
    (a__law_of : PySem.W.nsIn K mainGlobals "_law_of" = some (some (.ref f__law_of)))
    (l__law_of : K.lookup f__law_of = some ⟨oc__law_of, od__law_of, .func (PySem.W.fnOf "_law_of" "_law_of" (defArgs S__law_of) (defBody S__law_of) (defScope S__law_of) .none kV__law_of dc__law_of pm__law_of an__law_of cd__law_of ct__law_of), sl__law_of⟩)
    (q__law_of : PySem.W.codeIn K cd__law_of "_law_of" = true)
    (k__law_of : PySem.W.keepIn K (.ref f__law_of) = true)
    (a__law_due : PySem.W.nsIn K mainGlobals "_law_due" = some (some (.ref f__law_due)))
    (l__law_due : K.lookup f__law_due = some ⟨oc__law_due, od__law_due, .func (PySem.W.fnOf "_law_due" "_law_due" (defArgs S__law_due) (defBody S__law_due) (defScope S__law_due) .none kV__law_due dc__law_due pm__law_due an__law_due cd__law_due ct__law_due), sl__law_due⟩)
    (q__law_due : PySem.W.codeIn K cd__law_due "_law_due" = true)
    (k__law_due : PySem.W.keepIn K (.ref f__law_due) = true)
    (a__law_placed : PySem.W.nsIn K mainGlobals "_law_placed" = some (some (.ref f__law_placed)))
    (l__law_placed : K.lookup f__law_placed = some ⟨oc__law_placed, od__law_placed, .func (PySem.W.fnOf "_law_placed" "_law_placed" (defArgs S__law_placed) (defBody S__law_placed) (defScope S__law_placed) .none kV__law_placed dc__law_placed pm__law_placed an__law_placed cd__law_placed ct__law_placed), sl__law_placed⟩)
    (q__law_placed : PySem.W.codeIn K cd__law_placed "_law_placed" = true)
    (k__law_placed : PySem.W.keepIn K (.ref f__law_placed) = true)
    (a__law_told : PySem.W.nsIn K mainGlobals "_law_told" = some (some (.ref f__law_told)))
    (l__law_told : K.lookup f__law_told = some ⟨oc__law_told, od__law_told, .func (PySem.W.fnOf "_law_told" "_law_told" (defArgs S__law_told) (defBody S__law_told) (defScope S__law_told) .none kV__law_told dc__law_told pm__law_told an__law_told cd__law_told ct__law_told), sl__law_told⟩)
    (q__law_told : PySem.W.codeIn K cd__law_told "_law_told" = true)
    (k__law_told : PySem.W.keepIn K (.ref f__law_told) = true)
    (a__law_wanted : PySem.W.nsIn K mainGlobals "_law_wanted" = some (some (.ref f__law_wanted)))
    (l__law_wanted : K.lookup f__law_wanted = some ⟨oc__law_wanted, od__law_wanted, .func (PySem.W.fnOf "_law_wanted" "_law_wanted" (defArgs S__law_wanted) (defBody S__law_wanted) (defScope S__law_wanted) .none kV__law_wanted dc__law_wanted pm__law_wanted an__law_wanted cd__law_wanted ct__law_wanted), sl__law_wanted⟩)
    (q__law_wanted : PySem.W.codeIn K cd__law_wanted "_law_wanted" = true)
    (k__law_wanted : PySem.W.keepIn K (.ref f__law_wanted) = true)
    (a__law_is_right : PySem.W.nsIn K mainGlobals "_law_is_right" = some (some (.ref f__law_is_right)))
    (l__law_is_right : K.lookup f__law_is_right = some ⟨oc__law_is_right, od__law_is_right, .func (PySem.W.fnOf "_law_is_right" "_law_is_right" (defArgs S__law_is_right) (defBody S__law_is_right) (defScope S__law_is_right) .none kV__law_is_right dc__law_is_right pm__law_is_right an__law_is_right cd__law_is_right ct__law_is_right), sl__law_is_right⟩)
    (q__law_is_right : PySem.W.codeIn K cd__law_is_right "_law_is_right" = true)
    (k__law_is_right : PySem.W.keepIn K (.ref f__law_is_right) = true)
    (a_law : PySem.W.nsIn K mainGlobals "law" = some (some (.ref f_law)))
    (l_law : K.lookup f_law = some ⟨oc_law, od_law, .func (PySem.W.fnOf "law" "law" (defArgs S_law) (defBody S_law) (defScope S_law) .none kV_law dc_law pm_law an_law cd_law ct_law), sl_law⟩)
    (q_law : PySem.W.codeIn K cd_law "law" = true)
    (k_law : PySem.W.keepIn K (.ref f_law) = true)
    (z_abs : PySem.W.nsIn K mainGlobals "abs" = some none)
    (z_bool : PySem.W.nsIn K mainGlobals "bool" = some none)
    (z_enumerate : PySem.W.nsIn K mainGlobals "enumerate" = some none)
    (z_int : PySem.W.nsIn K mainGlobals "int" = some none)
    (z_isinstance : PySem.W.nsIn K mainGlobals "isinstance" = some none)
    (z_len : PySem.W.nsIn K mainGlobals "len" = some none)
    (z_list : PySem.W.nsIn K mainGlobals "list" = some none)
    (z_min : PySem.W.nsIn K mainGlobals "min" = some none)
    (z_range : PySem.W.nsIn K mainGlobals "range" = some none)
    (z_set : PySem.W.nsIn K mainGlobals "set" = some none)
    (z_sorted : PySem.W.nsIn K mainGlobals "sorted" = some none)
    (z_str : PySem.W.nsIn K mainGlobals "str" = some none)
    (z_tuple : PySem.W.nsIn K mainGlobals "tuple" = some none)
    (ea_TooMany : PySem.W.nsIn K mainGlobals "TooMany" = some (some (.ref c_TooMany)))
    (es_TooMany : PySem.W.subIn K (.ref c_TooMany) (.type "BaseException") = some true)
    (et_TooMany : PySem.W.typeIn K (.ref c_TooMany) = some (.type "type"))
    (eh_TooMany : PySem.W.hasDictIn K c_TooMany = true)
    (ex_TooMany : K.lookup c_TooMany = some (excClassObj nm_TooMany q_TooMany c_TooMany N_TooMany bs_TooMany [.ref cl_TooMany, .type "ValueError", .type "Exception", .type "BaseException", .type "object"] true sn_TooMany sb_TooMany ab_TooMany co_TooMany dd_TooMany m0_TooMany m1_TooMany m2_TooMany m3_TooMany m5_TooMany "ValueError.__new__"))
    (ew_TooMany : PySem.W.findIn K (.ref c_TooMany) "__setattr__" = some (some (.builtin "object.__setattr__")))
    (ek_TooMany : PySem.W.keepIn K (.ref c_TooMany) = true)
    (ei_TooMany : PySem.W.findIn K (.ref c_TooMany) "__init__" = some (some (.ref fi_TooMany)))
    (ej_TooMany : PySem.W.typeIn K (.ref fi_TooMany) = some (.type "function"))
    (el_TooMany : K.lookup fi_TooMany = some ⟨oci_TooMany, odi_TooMany, .func (PySem.W.fnOf "__init__" "TooMany.__init__" (defArgs SI_TooMany) (defBody SI_TooMany) (defScope SI_TooMany) .none kVi_TooMany dci_TooMany pmi_TooMany ani_TooMany cdi_TooMany cti_TooMany), sli_TooMany⟩)
    (eq_TooMany : PySem.W.codeIn K cdi_TooMany "TooMany.__init__" = true)
    (er_TooMany : PySem.W.keepIn K (.ref fi_TooMany) = true)
    (en_TooMany : PySem.W.findIn K (.ref c_TooMany) "most" = some none)
    (eg_TooMany : PySem.W.findIn K (.ref c_TooMany) "__getattribute__" = some (some (.builtin "BaseException.__getattribute__")))
    (eu_TooMany : PySem.W.findIn K (.ref c_TooMany) "__getattr__" = some none)
    (ec_TooMany : PySem.W.findIn K (.ref c_TooMany) "__class__" = some (some (.builtin "object.__class__")))
    (eo_TooMany : PySem.W.mroIn K c_TooMany (.type "object") = some true)
    (e_sp : PySem.W.specialIn K (.builtin "object.__class__") "__get__" = some (some (.builtin "getset_descriptor.__get__")))
    (e_tk : PySem.W.takesIn K (.builtin "object.__class__") = some true)
    (ea_Question : PySem.W.nsIn K mainGlobals "Question" = some (some (.ref c_Question)))
    (bg_Question : PySem.W.plainGet K c_Question Str.empty = true)
    (bh_Question : PySem.W.hasDictIn K c_Question = true)
    (bo_Question : PySem.W.plainOver K c_Question = true)
    (bs_Question : PySem.W.findIn K (.ref c_Question) "__setattr__" = some (some (.builtin "object.__setattr__")))
    (bc_Question : PySem.W.findIn K (.ref c_Question) "__class__" = some (some (.builtin "object.__class__")))
    (bm_Question : PySem.W.mroIn K c_Question (.type "object") = some true)
    (bi_Question : PySem.W.isClsIn K c_Question = true)
    (bt_Question : PySem.W.typeIn K (.ref c_Question) = some (.type "type"))
    (be_Question : PySem.W.subIn K (.ref c_Question) (.ref c_Question) = some true)
    (bk_Question : PySem.W.makesIn K c_Question = true)
    (bp_Question : PySem.W.keepIn K (.ref c_Question) = true)
    (bn_Question_locks : PySem.W.findIn K (.ref c_Question) "locks" = some none)
    (bn_Question_wishes : PySem.W.findIn K (.ref c_Question) "wishes" = some none)
    (a_Question___init__ : PySem.W.findIn K (.ref c_Question) "__init__" = some (some (.ref f_Question___init__)))
    (i_Question___init__ : PySem.W.isFn K (.ref f_Question___init__) = true)
    (l_Question___init__ : K.lookup f_Question___init__ = some ⟨oc_Question___init__, od_Question___init__, .func (PySem.W.fnOf "__init__" "Question.__init__" (defArgs S_Question___init__) (defBody S_Question___init__) (defScope S_Question___init__) .none kV_Question___init__ dc_Question___init__ pm_Question___init__ an_Question___init__ cd_Question___init__ ct_Question___init__), sl_Question___init__⟩)
    (q_Question___init__ : PySem.W.codeIn K cd_Question___init__ "Question.__init__" = true)
    (k_Question___init__ : PySem.W.keepIn K (.ref f_Question___init__) = true)
    (a_Question___eq__ : PySem.W.findIn K (.ref c_Question) "__eq__" = some (some (.ref f_Question___eq__)))
    (i_Question___eq__ : PySem.W.isFn K (.ref f_Question___eq__) = true)
    (l_Question___eq__ : K.lookup f_Question___eq__ = some ⟨oc_Question___eq__, od_Question___eq__, .func (PySem.W.fnOf "__eq__" "Question.__eq__" (defArgs S_Question___eq__) (defBody S_Question___eq__) (defScope S_Question___eq__) .none kV_Question___eq__ dc_Question___eq__ pm_Question___eq__ an_Question___eq__ cd_Question___eq__ ct_Question___eq__), sl_Question___eq__⟩)
    (q_Question___eq__ : PySem.W.codeIn K cd_Question___eq__ "Question.__eq__" = true)
    (k_Question___eq__ : PySem.W.keepIn K (.ref f_Question___eq__) = true)
    (fb_TooMany : PySem.W.subIn K (.ref c_TooMany) (.type "BaseException") = some true)
    (fh_TooMany : PySem.W.hasDictIn K c_TooMany = true)
    (ft_TooMany : PySem.W.typeIn K (.ref c_TooMany) = some (.type "type"))
    (eb_TooMany_TooMany : PySem.W.subIn K (.ref c_TooMany) (.ref c_TooMany) = some true)
    (n_NAME_MOST : PySem.W.nsIn K mainGlobals "NAME_MOST" = some (some u_NAME_MOST))
    (r_NAME_MOST : KRep K (.int 12) u_NAME_MOST)
    (n_WANTED_MOST : PySem.W.nsIn K mainGlobals "WANTED_MOST" = some (some u_WANTED_MOST))
    (r_WANTED_MOST : KRep K (.int 4) u_WANTED_MOST)
    (n_NUMBER_MOST : PySem.W.nsIn K mainGlobals "NUMBER_MOST" = some (some u_NUMBER_MOST))
    (r_NUMBER_MOST : KRep K (.int 1000000) u_NUMBER_MOST)
    (n_WISHES_MOST : PySem.W.nsIn K mainGlobals "WISHES_MOST" = some (some u_WISHES_MOST))
    (r_WISHES_MOST : KRep K (.int 8) u_WISHES_MOST)
    (n_LOCKS_MOST : PySem.W.nsIn K mainGlobals "LOCKS_MOST" = some (some u_LOCKS_MOST))
    (r_LOCKS_MOST : KRep K (.int 40) u_LOCKS_MOST) :
    LamX.LawAtS l w K (L2.CX l.prog w) 13 63 "script" mg fa h := by
  have e := hfa.symm.trans (PySem.W.mg_of X G a_law)
  cases e
  letI : ErrCtx := ⟨fun m => match m with | 8 => c_TooMany | 102 => c_Question | _ => 0⟩
  have To_TooMany : OexC K (errA 8) := ⟨⟨nm_TooMany, q_TooMany, N_TooMany, bs_TooMany, _, sn_TooMany, sb_TooMany, ab_TooMany, co_TooMany, dd_TooMany, m0_TooMany, m1_TooMany, m2_TooMany, m3_TooMany, m5_TooMany, ex_TooMany, rfl⟩, ew_TooMany, es_TooMany, et_TooMany, ek_TooMany⟩
  letI : TabCtx := ⟨[], []⟩
  have GG : Glob K mg := ⟨PySem.W.mg_of X G ea_Question,
    PySem.W.mg_of X G ea_TooMany,
    PySem.W.exm_ref fb_TooMany fh_TooMany ft_TooMany eb_TooMany_TooMany,
    ⟨⟨eg_TooMany, eu_TooMany, es_TooMany, eh_TooMany⟩, ⟨eg_TooMany, eu_TooMany, es_TooMany, eh_TooMany, ec_TooMany, e_sp, e_tk, eo_TooMany⟩⟩,
    en_TooMany,
    kit_ty bh_Question bt_Question,
    kit_own bh_Question bt_Question be_Question be_Question,
    ⟨⟨bg_Question, bh_Question, bo_Question, bs_Question⟩, bc_Question, e_sp, e_tk, bm_Question, bi_Question, bt_Question⟩,
    ⟨⟨bg_Question, bh_Question, bo_Question, bs_Question⟩, bc_Question, e_sp, e_tk, bm_Question, kit_own bh_Question bt_Question be_Question be_Question⟩,
    ⟨PySem.W.mg_of X G ea_Question, bk_Question, bp_Question⟩,
    bn_Question_locks,
    bn_Question_wishes,
    def_mk X G a_is_integer l_is_integer q_is_integer k_is_integer (fun _ _ _ _ _ _ us hl => match us, hl with | [_], _ => rfl),
    def_mk X G a_is_number l_is_number q_is_number k_is_number (fun _ _ _ _ _ _ us hl => match us, hl with | [_], _ => rfl),
    def_mk X G a_is_name l_is_name q_is_name k_is_name (fun _ _ _ _ _ _ us hl => match us, hl with | [_], _ => rfl),
    def_mk X G a_is_names l_is_names q_is_names k_is_names (fun _ _ _ _ _ _ us hl => match us, hl with | [_], _ => rfl),
    def_mk X G a_is_wanted l_is_wanted q_is_wanted k_is_wanted (fun _ _ _ _ _ _ us hl => match us, hl with | [_], _ => rfl),
    def_mk X G a_is_tuple_of l_is_tuple_of q_is_tuple_of k_is_tuple_of (fun _ _ _ _ _ _ us hl => match us, hl with | [_, _], _ => rfl),
    def_mk X G a_is_tuple_within l_is_tuple_within q_is_tuple_within k_is_tuple_within (fun _ _ _ _ _ _ us hl => match us, hl with | [_, _], _ => rfl),
    def_mk X G a_is_version l_is_version q_is_version k_is_version (fun _ _ _ _ _ _ us hl => match us, hl with | [_], _ => rfl),
    def_mk X G a_is_stretch l_is_stretch q_is_stretch k_is_stretch (fun _ _ _ _ _ _ us hl => match us, hl with | [_], _ => rfl),
    def_mk X G a_is_range l_is_range q_is_range k_is_range (fun _ _ _ _ _ _ us hl => match us, hl with | [_], _ => rfl),
    def_mk X G a_reaches l_reaches q_reaches k_reaches (fun _ _ _ _ _ _ us hl => match us, hl with | [_, _], _ => rfl),
    def_mk X G a_is_wish l_is_wish q_is_wish k_is_wish (fun _ _ _ _ _ _ us hl => match us, hl with | [_], _ => rfl),
    def_mk X G a_is_locks l_is_locks q_is_locks k_is_locks (fun _ _ _ _ _ _ us hl => match us, hl with | [_], _ => rfl),
    def_mk X G a_wrong_part l_wrong_part q_wrong_part k_wrong_part (fun _ _ _ _ _ _ us hl => match us, hl with | [_, _], _ => rfl),
    def_mk X G a_by_name l_by_name q_by_name k_by_name (fun _ _ _ _ _ _ us hl => match us, hl with | [_], _ => rfl),
    def_mk X G a_settled l_settled q_settled k_settled (fun _ _ _ _ _ _ us hl => match us, hl with | [_, _, _], _ => rfl),
    def_mk X G a_merged_rows l_merged_rows q_merged_rows k_merged_rows (fun _ _ _ _ _ _ us hl => match us, hl with | [_, _, _], _ => rfl),
    def_mk X G a_clash_of l_clash_of q_clash_of k_clash_of (fun _ _ _ _ _ _ us hl => match us, hl with | [_, _], _ => rfl),
    def_mk X G a_rows_within l_rows_within q_rows_within k_rows_within (fun _ _ _ _ _ _ us hl => match us, hl with | [_, _], _ => rfl),
    def_mk X G a_merged l_merged q_merged k_merged (fun _ _ _ _ _ _ us hl => match us, hl with | [_, _, _], _ => rfl),
    def_mk X G a__law_hand l__law_hand q__law_hand k__law_hand (fun _ _ _ _ _ _ us hl => match us, hl with | [_], _ => rfl),
    def_mk X G a__law_draw l__law_draw q__law_draw k__law_draw (fun _ _ _ _ _ _ us hl => match us, hl with | [_, _], _ => rfl),
    def_mk X G a__law_any l__law_any q__law_any k__law_any (fun _ _ _ _ _ _ us hl => match us, hl with | [_, _], _ => rfl),
    def_mk X G a__law_name l__law_name q__law_name k__law_name (fun _ _ _ _ _ _ us hl => match us, hl with | [_], _ => rfl),
    def_mk X G a__law_wish l__law_wish q__law_wish k__law_wish (fun _ _ _ _ _ _ us hl => match us, hl with | [_, _], _ => rfl),
    def_mk X G a__law_wishes l__law_wishes q__law_wishes k__law_wishes (fun _ _ _ _ _ _ us hl => match us, hl with | [_, _, _], _ => rfl),
    def_mk X G a__law_locks l__law_locks q__law_locks k__law_locks (fun _ _ _ _ _ _ us hl => match us, hl with | [_, _, _, _], _ => rfl),
    def_mk X G a__law_of l__law_of q__law_of k__law_of (fun _ _ _ _ _ _ us hl => match us, hl with | [_, _], _ => rfl),
    def_mk X G a__law_due l__law_due q__law_due k__law_due (fun _ _ _ _ _ _ us hl => match us, hl with | [_], _ => rfl),
    def_mk X G a__law_placed l__law_placed q__law_placed k__law_placed (fun _ _ _ _ _ _ us hl => match us, hl with | [_, _], _ => rfl),
    def_mk X G a__law_told l__law_told q__law_told k__law_told (fun _ _ _ _ _ _ us hl => match us, hl with | [_, _, _], _ => rfl),
    def_mk X G a__law_wanted l__law_wanted q__law_wanted k__law_wanted (fun _ _ _ _ _ _ us hl => match us, hl with | [_], _ => rfl),
    def_mk X G a__law_is_right l__law_is_right q__law_is_right k__law_is_right (fun _ _ _ _ _ _ us hl => match us, hl with | [_], _ => rfl),
    def_mk X G a_law l_law q_law k_law (fun _ _ _ _ _ _ us hl => match us, hl with | [_], _ => rfl),
    ⟨f_Question___init__, _, (fun_mk (st := S_Question___init__) l_Question___init__ q_Question___init__ k_Question___init__), ⟨a_Question___init__, i_Question___init__, k_Question___init__⟩, (fun_mk (st := S_Question___init__) l_Question___init__ q_Question___init__ k_Question___init__).binds (fun _ _ _ _ _ _ us hl => match us, hl with | [_, _, _], _ => rfl)⟩,
    ⟨f_Question___eq__, _, (fun_mk (st := S_Question___eq__) l_Question___eq__ q_Question___eq__ k_Question___eq__), ⟨a_Question___eq__, i_Question___eq__, k_Question___eq__⟩, (fun_mk (st := S_Question___eq__) l_Question___eq__ q_Question___eq__ k_Question___eq__).binds (fun _ _ _ _ _ _ us hl => match us, hl with | [_, _], _ => rfl)⟩,
    PySem.W.mg_none_of X G z_abs,
    PySem.W.mg_none_of X G z_bool,
    PySem.W.mg_none_of X G z_enumerate,
    PySem.W.mg_none_of X G z_int,
    PySem.W.mg_none_of X G z_isinstance,
    PySem.W.mg_none_of X G z_len,
    PySem.W.mg_none_of X G z_list,
    PySem.W.mg_none_of X G z_min,
    PySem.W.mg_none_of X G z_range,
    PySem.W.mg_none_of X G z_set,
    PySem.W.mg_none_of X G z_sorted,
    PySem.W.mg_none_of X G z_str,
    PySem.W.mg_none_of X G z_tuple,
    Cst.of (PySem.W.mg_of X G n_NAME_MOST) r_NAME_MOST,
    Cst.of (PySem.W.mg_of X G n_WANTED_MOST) r_WANTED_MOST,
    Cst.of (PySem.W.mg_of X G n_NUMBER_MOST) r_NUMBER_MOST,
    Cst.of (PySem.W.mg_of X G n_WISHES_MOST) r_WISHES_MOST,
    Cst.of (PySem.W.mg_of X G n_LOCKS_MOST) r_LOCKS_MOST⟩
  have FL := fun_mk (st := S_law) l_law q_law k_law
  refine law_at (fd := PySem.W.fnOf "law" "law" (defArgs S_law) (defBody S_law) (defScope S_law) .none kV_law dc_law pm_law an_law cd_law ct_law) [] [] (fun _ z => nomatch z) (fun _ z => nomatch z) (fun _ z => nomatch z) (fun _ z => nomatch z) (fun s u => .of_eq rfl) fun base _ _ TT => ?_
  have E_TooMany : Er1 l.prog w K mg base 8 "TooMany" "most" := ⟨PySem.W.mg_of X G ea_TooMany, To_TooMany, fi_TooMany, _, ei_TooMany, ej_TooMany, init1_ok (fun_mk (st := SI_TooMany) el_TooMany eq_TooMany er_TooMany) sci_TooMany rfl To_TooMany en_TooMany (by decide) (by decide) (by first | exact Or.inl rfl | exact Or.inr (Or.inl rfl) | exact Or.inr (Or.inr rfl)) (by first | exact Or.inl rfl | exact Or.inr (Or.inl rfl) | exact Or.inr (Or.inr rfl)) (fun _ => rfl), (fun_mk (st := SI_TooMany) el_TooMany eq_TooMany er_TooMany).binds fun _ _ _ _ _ _ us hl => match us, hl with | [_, _], _ => rfl⟩
  have H_is_integer := h_is_integer (P := l.prog) (w := w) (base := base) (k := 0) GG CM.r_is_integer
  have H_is_number := h_is_number (P := l.prog) (w := w) (base := base) (k := 1) GG (H_is_integer.mono (by decide)) CM.r_is_number
  have H_is_name := h_is_name (P := l.prog) (w := w) (base := base) (k := 0) GG CM.r_is_name
  have H_is_names := h_is_names (P := l.prog) (w := w) (base := base) (k := 1) GG (H_is_name.mono (by decide)) CM.r_is_names
  have H_is_wanted := h_is_wanted (P := l.prog) (w := w) (base := base) (k := 2) GG (H_is_names.mono (by decide)) CM.r_is_wanted'
  have H_is_tuple_of := h_is_tuple_of (P := l.prog) (w := w) (base := base) (k := 0) GG CM.r_is_tuple_of
  have H_is_tuple_within := h_is_tuple_within (P := l.prog) (w := w) (base := base) (k := 0) GG CM.r_is_tuple_withinT
  have H_is_version := h_is_version (P := l.prog) (w := w) (base := base) (k := 2) GG (H_is_number.mono (by decide)) (H_is_tuple_of.mono (by decide)) CM.r_is_version
  have H_is_stretch := h_is_stretch (P := l.prog) (w := w) (base := base) (k := 3) GG (H_is_tuple_of.mono (by decide)) (H_is_version.mono (by decide)) CM.r_is_stretch
  have H_reaches := h_reaches (P := l.prog) (w := w) (base := base) (k := 0) GG CM.r_reaches
  have H_is_range := h_is_range (P := l.prog) (w := w) (base := base) (k := 4) GG (H_is_stretch.mono (by decide)) (H_reaches.mono (by decide)) CM.r_is_range
  have H_is_wish := h_is_wish (P := l.prog) (w := w) (base := base) (k := 5) GG (H_is_name.mono (by decide)) (H_is_wanted.mono (by decide)) (H_is_tuple_of.mono (by decide)) (H_is_range.mono (by decide)) CM.r_is_wish
  have H_is_locks := h_is_locks (P := l.prog) (w := w) (base := base) (k := 3) GG (H_is_names.mono (by decide)) (H_is_tuple_of.mono (by decide)) (H_is_tuple_within.mono (by decide)) (H_is_version.mono (by decide)) CM.r_is_locks
  have H_wrong_part := h_wrong_part (P := l.prog) (w := w) (base := base) (k := 6) GG (H_is_tuple_within.mono (by decide)) (H_is_wish.mono (by decide)) (H_is_locks.mono (by decide)) CM.r_wrong_partQ
  have H_by_name := h_by_name (P := l.prog) (w := w) (base := base) (k := 0) GG CM.r_by_name
  have H_settled := h_settled (P := l.prog) (w := w) (base := base) (k := 0) GG CM.r_settled
  have H_merged_rows := h_merged_rows (P := l.prog) (w := w) (base := base) (k := 1) GG (H_by_name.mono (by decide)) (H_settled.mono (by decide)) CM.r_merged_rows
  have H_clash_of := h_clash_of (P := l.prog) (w := w) (base := base) (k := 0) GG CM.r_clash_of
  have H_rows_within := h_rows_within (P := l.prog) (w := w) (base := base) (k := 2) GG E_TooMany (by decide) CM.r_rows_within
  have H_Question___init__ := h_Question___init__ (P := l.prog) (w := w) (base := base) (k := 7) GG (H_wrong_part.mono (by decide)) CM.r_Question_init
  have H_merged := h_merged (P := l.prog) (w := w) (base := base) (k := 9) GG H_Question___init__ (by decide) (H_merged_rows.mono (by decide)) (H_clash_of.mono (by decide)) (H_rows_within.mono (by decide)) CM.r_merged
  have H__law_hand := h__law_hand (P := l.prog) (w := w) (base := base) (k := 0) GG CM.r__law_hand_k65
  have H__law_draw := h__law_draw (P := l.prog) (w := w) (base := base) (k := 0) GG CM.r__law_draw_k65
  have H__law_any := h__law_any (P := l.prog) (w := w) (base := base) (k := 1) GG (H__law_draw.mono (by decide)) CM.r__law_anyJ
  have H__law_name := h__law_name (P := l.prog) (w := w) (base := base) (k := 0) GG CM.r__law_name_k65
  have H__law_wish := h__law_wish (P := l.prog) (w := w) (base := base) (k := 2) GG (H__law_any.mono (by decide)) CM.r__law_wish_k65
  have H__law_wishes := h__law_wishes (P := l.prog) (w := w) (base := base) (k := 3) GG (H__law_draw.mono (by decide)) (H__law_any.mono (by decide)) (H__law_wish.mono (by decide)) CM.r__law_wishes_k65
  have H__law_locks := h__law_locks (P := l.prog) (w := w) (base := base) (k := 2) GG (H__law_draw.mono (by decide)) (H__law_any.mono (by decide)) CM.r__law_locks_k65
  have H__law_of := h__law_of (P := l.prog) (w := w) (base := base) (k := 0) GG CM.r__law_of
  have H__law_due := h__law_due (P := l.prog) (w := w) (base := base) (k := 1) GG (H__law_of.mono (by decide)) CM.r__law_due_k65
  have H__law_placed := h__law_placed (P := l.prog) (w := w) (base := base) (k := 0) GG CM.r__law_placed
  have H__law_told := h__law_told (P := l.prog) (w := w) (base := base) (k := 10) GG (H_merged.mono (by decide)) CM.r__law_told_k65
  have H__law_wanted := h__law_wanted (P := l.prog) (w := w) (base := base) (k := 2) GG (H__law_due.mono (by decide)) (H__law_placed.mono (by decide)) CM.r__law_wanted
  have H__law_is_right := h__law_is_right (P := l.prog) (w := w) (base := base) (k := 11) GG H_Question___init__ (by decide) (H__law_told.mono (by decide)) (H__law_wanted.mono (by decide)) CM.r__law_is_right_k65
  have H_Question___eq__ := h_Question___eq__ (P := l.prog) (w := w) (base := base) (k := 0) GG CM.r_Question_eq
  exact h_law (k := 12) GG FL (H__law_hand.mono (by decide)) (H__law_draw.mono (by decide)) (H__law_any.mono (by decide)) (H__law_name.mono (by decide)) (H__law_wish.mono (by decide)) (H__law_wishes.mono (by decide)) (H__law_locks.mono (by decide)) (H__law_is_right.mono (by decide)) CM.r_law_k65
theorem walk {l : PySem.W.OpenLaw} {q : Program} {loose : List Str} {XP : (Str → Option Value) → Heap → Prop} {YP : World → Heap → Prop} {d : DefRec} {K : Params → PySem.W.Frag} (hn : l.most = some 63) (hdf : d.params.defaults = []) (hY : ∀ (w : World) (h : Heap), YP w h → (K w.params).In h)
    (F : ∀ (w : World) (mg : Str → Option Value) (fa : Addr) (h : Heap), YP w h → (K w.params).In h → h.Ns mainGlobals mg → mg d.name = some (.ref fa) → LamX.LawAtS l w (K w.params) (L2.CX l.prog w) 13 63 "script" mg fa h) :
    PySem.W.WalkO q loose XP YP l.row.toRowW d [] (fun f vs => PySem.call f vs) :=
  LamX.walk_ofTs (n := 63) (k := 13) (x := "script") (CX := fun w => L2.CX l.prog w) hn (by decide) hdf ⟨rfl, by decide, by decide⟩ hY F fun _ _ _ _ _ z => DL.cx_false z
end Lk65
open PySem PySem.W PyProof.Rows
set_option maxRecDepth 100000 in
set_option maxHeartbeats 0 in
theorem PySem.Challenge.cw_lockwright_k65_whole_questions_merged_holds : PySem.Challenge.rw_lockwright_k65_whole_questions_merged.Holds := by
  w_on; o_law; k_head; (case hw => w_witness2)
  k_fill
  refine Lk65.walk (l := PySem.Challenge.rw_lockwright_k65_whole_questions_merged) rfl rfl (fun w h Y => PySem.W.kIn_of Y) ?F
  case F =>
    intro w mg fa h Y KX G hmg
    refine' Lk65.all_mk KX G hmg ?a_is_integer ?l_is_integer ?q_is_integer ?k_is_integer ?a_is_number ?l_is_number ?q_is_number ?k_is_number ?a_is_name ?l_is_name ?q_is_name ?k_is_name ?a_is_names ?l_is_names ?q_is_names ?k_is_names ?a_is_wanted ?l_is_wanted ?q_is_wanted ?k_is_wanted ?a_is_tuple_of ?l_is_tuple_of ?q_is_tuple_of ?k_is_tuple_of ?a_is_tuple_within ?l_is_tuple_within ?q_is_tuple_within ?k_is_tuple_within ?a_is_version ?l_is_version ?q_is_version ?k_is_version ?a_is_stretch ?l_is_stretch ?q_is_stretch ?k_is_stretch ?a_is_range ?l_is_range ?q_is_range ?k_is_range ?a_reaches ?l_reaches ?q_reaches ?k_reaches ?a_is_wish ?l_is_wish ?q_is_wish ?k_is_wish ?a_is_locks ?l_is_locks ?q_is_locks ?k_is_locks ?a_wrong_part ?l_wrong_part ?q_wrong_part ?k_wrong_part ?a_by_name ?l_by_name ?q_by_name ?k_by_name ?a_settled ?l_settled ?q_settled ?k_settled ?a_merged_rows ?l_merged_rows ?q_merged_rows ?k_merged_rows ?a_clash_of ?l_clash_of ?q_clash_of ?k_clash_of ?a_rows_within ?l_rows_within ?q_rows_within ?k_rows_within ?a_merged ?l_merged ?q_merged ?k_merged ?a__law_hand ?l__law_hand ?q__law_hand ?k__law_hand ?a__law_draw ?l__law_draw ?q__law_draw ?k__law_draw ?a__law_any ?l__law_any ?q__law_any ?k__law_any ?a__law_name ?l__law_name ?q__law_name ?k__law_name ?a__law_wish ?l__law_wish ?q__law_wish ?k__law_wish ?a__law_wishes ?l__law_wishes ?q__law_wishes ?k__law_wishes ?a__law_locks ?l__law_locks ?q__law_locks ?k__law_locks ?a__law_of ?l__law_of ?q__law_of ?k__law_of ?a__law_due ?l__law_due ?q__law_due ?k__law_due ?a__law_placed ?l__law_placed ?q__law_placed ?k__law_placed ?a__law_told ?l__law_told ?q__law_told ?k__law_told ?a__law_wanted ?l__law_wanted ?q__law_wanted ?k__law_wanted ?a__law_is_right ?l__law_is_right ?q__law_is_right ?k__law_is_right ?a_law ?l_law ?q_law ?k_law ?z_abs ?z_bool ?z_enumerate ?z_int ?z_isinstance ?z_len ?z_list ?z_min ?z_range ?z_set ?z_sorted ?z_str ?z_tuple ?ea_TooMany ?es_TooMany ?et_TooMany ?eh_TooMany ?ex_TooMany ?ew_TooMany ?ek_TooMany ?ei_TooMany ?ej_TooMany ?el_TooMany ?eq_TooMany ?er_TooMany ?en_TooMany ?eg_TooMany ?eu_TooMany ?ec_TooMany ?eo_TooMany ?e_sp ?e_tk ?ea_Question ?bg_Question ?bh_Question ?bo_Question ?bs_Question ?bc_Question ?bm_Question ?bi_Question ?bt_Question ?be_Question ?bk_Question ?bp_Question ?bn_Question_locks ?bn_Question_wishes ?a_Question___init__ ?i_Question___init__ ?l_Question___init__ ?q_Question___init__ ?k_Question___init__ ?a_Question___eq__ ?i_Question___eq__ ?l_Question___eq__ ?q_Question___eq__ ?k_Question___eq__ ?fb_TooMany ?fh_TooMany ?ft_TooMany ?eb_TooMany_TooMany ?n_NAME_MOST ?r_NAME_MOST ?n_WANTED_MOST ?r_WANTED_MOST ?n_NUMBER_MOST ?r_NUMBER_MOST ?n_WISHES_MOST ?r_WISHES_MOST ?n_LOCKS_MOST ?r_LOCKS_MOST
    (case a_is_integer => k_is)
    (case l_is_integer => k_is)
    (case q_is_integer => k_is)
    (case k_is_integer => k_is)
    (case a_is_number => k_is)
    (case l_is_number => k_is)
    (case q_is_number => k_is)
    (case k_is_number => k_is)
    (case a_is_name => k_is)
    (case l_is_name => k_is)
    (case q_is_name => k_is)
    (case k_is_name => k_is)
    (case a_is_names => k_is)
    (case l_is_names => k_is)
    (case q_is_names => k_is)
    (case k_is_names => k_is)
    (case a_is_wanted => k_is)
    (case l_is_wanted => k_is)
    (case q_is_wanted => k_is)
    (case k_is_wanted => k_is)
    (case a_is_tuple_of => k_is)
    (case l_is_tuple_of => k_is)
    (case q_is_tuple_of => k_is)
    (case k_is_tuple_of => k_is)
    (case a_is_tuple_within => k_is)
    (case l_is_tuple_within => k_is)
    (case q_is_tuple_within => k_is)
    (case k_is_tuple_within => k_is)
    (case a_is_version => k_is)
    (case l_is_version => k_is)
    (case q_is_version => k_is)
    (case k_is_version => k_is)
    (case a_is_stretch => k_is)
    (case l_is_stretch => k_is)
    (case q_is_stretch => k_is)
    (case k_is_stretch => k_is)
    (case a_is_range => k_is)
    (case l_is_range => k_is)
    (case q_is_range => k_is)
    (case k_is_range => k_is)
    (case a_reaches => k_is)
    (case l_reaches => k_is)
    (case q_reaches => k_is)
    (case k_reaches => k_is)
    (case a_is_wish => k_is)
    (case l_is_wish => k_is)
    (case q_is_wish => k_is)
    (case k_is_wish => k_is)
    (case a_is_locks => k_is)
    (case l_is_locks => k_is)
    (case q_is_locks => k_is)
    (case k_is_locks => k_is)
    (case a_wrong_part => k_is)
    (case l_wrong_part => k_is)
    (case q_wrong_part => k_is)
    (case k_wrong_part => k_is)
    (case a_by_name => k_is)
    (case l_by_name => k_is)
    (case q_by_name => k_is)
    (case k_by_name => k_is)
    (case a_settled => k_is)
    (case l_settled => k_is)
    (case q_settled => k_is)
    (case k_settled => k_is)
    (case a_merged_rows => k_is)
    (case l_merged_rows => k_is)
    (case q_merged_rows => k_is)
    (case k_merged_rows => k_is)
    (case a_clash_of => k_is)
    (case l_clash_of => k_is)
    (case q_clash_of => k_is)
    (case k_clash_of => k_is)
    (case a_rows_within => k_is)
    (case l_rows_within => k_is)
    (case q_rows_within => k_is)
    (case k_rows_within => k_is)
    (case a_merged => k_is)
    (case l_merged => k_is)
    (case q_merged => k_is)
    (case k_merged => k_is)
    (case a__law_hand => k_is)
    (case l__law_hand => k_is)
    (case q__law_hand => k_is)
    (case k__law_hand => k_is)
    (case a__law_draw => k_is)
    (case l__law_draw => k_is)
    (case q__law_draw => k_is)
    (case k__law_draw => k_is)
    (case a__law_any => k_is)
    (case l__law_any => k_is)
    (case q__law_any => k_is)
    (case k__law_any => k_is)
    (case a__law_name => k_is)
    (case l__law_name => k_is)
    (case q__law_name => k_is)
    (case k__law_name => k_is)
    (case a__law_wish => k_is)
    (case l__law_wish => k_is)
    (case q__law_wish => k_is)
    (case k__law_wish => k_is)
    (case a__law_wishes => k_is)
    (case l__law_wishes => k_is)
    (case q__law_wishes => k_is)
    (case k__law_wishes => k_is)
    (case a__law_locks => k_is)
    (case l__law_locks => k_is)
    (case q__law_locks => k_is)
    (case k__law_locks => k_is)
    (case a__law_of => k_is)
    (case l__law_of => k_is)
    (case q__law_of => k_is)
    (case k__law_of => k_is)
    (case a__law_due => k_is)
    (case l__law_due => k_is)
    (case q__law_due => k_is)
    (case k__law_due => k_is)
    (case a__law_placed => k_is)
    (case l__law_placed => k_is)
    (case q__law_placed => k_is)
    (case k__law_placed => k_is)
    (case a__law_told => k_is)
    (case l__law_told => k_is)
    (case q__law_told => k_is)
    (case k__law_told => k_is)
    (case a__law_wanted => k_is)
    (case l__law_wanted => k_is)
    (case q__law_wanted => k_is)
    (case k__law_wanted => k_is)
    (case a__law_is_right => k_is)
    (case l__law_is_right => k_is)
    (case q__law_is_right => k_is)
    (case k__law_is_right => k_is)
    (case a_law => k_is)
    (case l_law => k_is)
    (case q_law => k_is)
    (case k_law => k_is)
    (case z_abs => k_is)
    (case z_bool => k_is)
    (case z_enumerate => k_is)
    (case z_int => k_is)
    (case z_isinstance => k_is)
    (case z_len => k_is)
    (case z_list => k_is)
    (case z_min => k_is)
    (case z_range => k_is)
    (case z_set => k_is)
    (case z_sorted => k_is)
    (case z_str => k_is)
    (case z_tuple => k_is)
    (case n_NAME_MOST => k_is)
    (case n_WANTED_MOST => k_is)
    (case n_NUMBER_MOST => k_is)
    (case n_WISHES_MOST => k_is)
    (case n_LOCKS_MOST => k_is)
    (case ea_TooMany => k_is)
    (case es_TooMany => k_is)
    (case et_TooMany => k_is)
    (case eh_TooMany => k_is)
    (case ex_TooMany => k_is)
    (case ew_TooMany => k_is)
    (case ek_TooMany => k_is)
    (case ei_TooMany => k_is)
    (case ej_TooMany => k_is)
    (case el_TooMany => k_is)
    (case eq_TooMany => k_is)
    (case er_TooMany => k_is)
    (case en_TooMany => k_is)
    (case eg_TooMany => k_is)
    (case eu_TooMany => k_is)
    (case ec_TooMany => k_is)
    (case eo_TooMany => k_is)
    (case e_sp => k_is)
    (case e_tk => k_is)
    (case ea_Question => k_is)
    (case bg_Question => k_is)
    (case bh_Question => k_is)
    (case bo_Question => k_is)
    (case bs_Question => k_is)
    (case bc_Question => k_is)
    (case bm_Question => k_is)
    (case bi_Question => k_is)
    (case bt_Question => k_is)
    (case be_Question => k_is)
    (case bk_Question => k_is)
    (case bp_Question => k_is)
    (case bn_Question_locks => k_is)
    (case bn_Question_wishes => k_is)
    (case a_Question___init__ => k_is)
    (case i_Question___init__ => k_is)
    (case l_Question___init__ => k_is)
    (case q_Question___init__ => k_is)
    (case k_Question___init__ => k_is)
    (case a_Question___eq__ => k_is)
    (case i_Question___eq__ => k_is)
    (case l_Question___eq__ => k_is)
    (case q_Question___eq__ => k_is)
    (case k_Question___eq__ => k_is)
    (case fb_TooMany => k_is)
    (case fh_TooMany => k_is)
    (case ft_TooMany => k_is)
    (case eb_TooMany_TooMany => k_is)
    (case r_NAME_MOST => (letI : DL.TabCtx := ⟨[], []⟩; exact ⟨_, rfl⟩))
    (case r_WANTED_MOST => (letI : DL.TabCtx := ⟨[], []⟩; exact ⟨_, rfl⟩))
    (case r_NUMBER_MOST => (letI : DL.TabCtx := ⟨[], []⟩; exact ⟨_, rfl⟩))
    (case r_WISHES_MOST => (letI : DL.TabCtx := ⟨[], []⟩; exact ⟨_, rfl⟩))
    (case r_LOCKS_MOST => (letI : DL.TabCtx := ⟨[], []⟩; exact ⟨_, rfl⟩))
