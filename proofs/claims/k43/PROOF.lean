import PyProof.Rows.All
import Wide.All
import OpenK.AllK
import Wide.FinOn
import HandS.ForMost
import HandS.Flow
import HandS.IsInst
import HandS.TupLe
import HandS.TupAny
import HandS.ForExc
import HandS.ExcInit
import HandS.CallSlots
import HandS.EndTab
import HandS.Zip
import HandS.Walk
import KE.GoesMore
import KE.GoesEnum
import KE.DataCmp
import KE.SortData
import KE.DataMinMax
import HandS.ExcValue
import HandS.SortKw
import KE.SortKeyHeap
import KE.KSortKey
import HandS.TupSets
import PyProof.MinMaxWalk
import PyProof.EnumMake
import PyProof.Draws
import HandS.Style
import HandS.Text
import HandS.StrMore
import HandS.FStr
import HandS.RaiseMore
import HandS.Dict
import KE.KExcIs
import HandS.ExcField
import HandS.ExcIs
import HandS.TryOnly
import HandS.ExcBuiltin
import HandS.More
import HandS.OwnEq
import HandS.Codes
import HandS.Star
import HandS.Set
import HandS.SetFor
import HandS.Strs
import HandS.Small
import PyProof.Rows.StrRev
import KE.LtData
import PyProof.Rows.StrItems
import PyProof.StrLawsChain
import KE.IntTextText
import PyProof.Rows.StrLawsPart
import PySem.Challenge.RW_lockwright_k43_whole_harmed_lock_texts_n
set_option Elab.async false
set_option linter.all false
set_option maxRecDepth 100000
set_option autoImplicit false
namespace DL
open PySem L2 PySem.Spec
open PyProof.Rows hiding St
inductive D where
  | non | bl (b : Bool) | int (i : Int) | str (x : Str) | tup (ds : List D) | fls (ds : List D) | loc (n : Nat) | adr (a : Addr) | ty (n : String)
inductive Ob where
  | lst (ds : List D)
  | ins (C : Addr) (fs : List (Str × D))
  | dK (kvs : List (Key × D))
  /-- an exception made and not raised, its class, its dict's place -/
  | err (e C : Addr) (d : Option Addr)
  /-- that dict -/
  | xdt (dx : Addr) (fs : List (Str × D))
  /-- a dict that nothing writes to -/
  | dkF (o : Obj) (kvs : List (Key × D))
abbrev Sto := List Ob
abbrev Env' := List (Option D)
/-- a list that nothing writes to -/
def FzL (K : PySem.W.Frag) (H : Hp) (a : Addr) (xs : List V) : Prop :=
  (∃ o, H a = some (.frz o (.lst xs))) ∨
    ∃ (o : Obj) (its : Array Value) (n : Nat), K.lookup a = some o ∧ o.cls = .type "list" ∧ o.dict = none ∧ o.data = .seq its n ∧ its.size ≤ sizeLine ∧ Vals xs its.toList
theorem FzL.sq {K : PySem.W.Frag} {H : Hp} {a : Addr} {xs : List V} (h : FzL K H a xs) : SqL K H a xs := by
  rcases h with h | h
  · exact .inl (.inr h)
  · exact .inr h
mutual
def Rep (K : PySem.W.Frag) (H : Hp) (μ : List Addr) : D → V → Prop
  | .non, v => v = .non
  | .bl b, v => v = .bl b
  | .int i, v => v = .int i
  | .str x, v => v = .str x
  | .tup ds, v => ∃ a vs, v = .ref a ∧ SqT K H a vs ∧ Reps K H μ ds vs
  | .fls ds, v => ∃ a vs, v = .ref a ∧ FzL K H a vs ∧ Reps K H μ ds vs
  | .loc n, v => ∃ a, v = .ref a ∧ μ[n]? = some a
  | .adr a, v => v = .ref a
  | .ty n, v => v = .ty n
def Reps (K : PySem.W.Frag) (H : Hp) (μ : List Addr) : List D → List V → Prop
  | [], vs => vs = []
  | d :: ds, vs => ∃ v r, vs = v :: r ∧ Rep K H μ d v ∧ Reps K H μ ds r
end
/-- what may have come behind: nothing tracked is changed but what the store holds -/
structure Ext0 (H H' : Hp) (μ μ' : List Addr) : Prop where
  pre : ∀ (n : Nat) (a : Addr), μ[n]? = some a → μ'[n]? = some a
  tup : ∀ a xs, H a = some (.tup xs) → H' a = some (.tup xs)
  frz : ∀ a o u, H a = some (.frz o u) → H' a = some (.frz o u)
structure Ext (H H' : Hp) (μ μ' : List Addr) : Prop extends Ext0 H H' μ μ' where
  fra : ∀ a o, H a = some o → a ∉ μ → (∀ ps, o ≠ .tbl ps) → H' a = some o
  new : ∀ a, a ∈ μ' → a ∈ μ ∨ ∀ o, H a = some o → ∃ ps, o = .tbl ps
section
variable {K : PySem.W.Frag} {H H1 H2 H' : Hp} {μ μ1 μ2 μ' : List Addr}
theorem Ext.refl (H : Hp) (μ : List Addr) : Ext H H μ μ := ⟨⟨fun _ _ h => h, fun _ _ h => h, fun _ _ _ h => h⟩, fun _ _ h _ _ => h, fun _ h => .inl h⟩
theorem Ext.trans (x : Ext H H1 μ μ1) (y : Ext H1 H2 μ1 μ2) : Ext H H2 μ μ2 where
  pre n a h := y.pre n a (x.pre n a h)
  tup a xs h := y.tup a xs (x.tup a xs h)
  frz a o u h := y.frz a o u (x.frz a o u h)
  fra a o h hm hn := y.fra a o (x.fra a o h hm hn) (fun z => by
    rcases x.new a z with q | q
    · exact hm q
    · obtain ⟨ps, e⟩ := q o h
      exact hn ps e) hn
  new a h := by
    rcases y.new a h with q | q
    · exact x.new a q
    · by_cases hm : a ∈ μ
      · exact .inl hm
      · right
        intro o e
        by_cases ht : ∃ ps, o = .tbl ps
        · exact ht
        · exact q o (x.fra a o e hm fun ps z => ht ⟨ps, z⟩)
theorem Ext0.sqT (x : Ext0 H H' μ μ') {a : Addr} {xs : List V} (h : SqT K H a xs) : SqT K H' a xs := by
  rcases h with (h | ⟨o, h⟩) | h
  · exact .inl (.inl (x.tup _ _ h))
  · exact .inl (.inr ⟨o, x.frz _ _ _ h⟩)
  · exact .inr h
theorem Ext0.fzL (x : Ext0 H H' μ μ') {a : Addr} {xs : List V} (h : FzL K H a xs) : FzL K H' a xs := by
  rcases h with ⟨o, h⟩ | h
  · exact .inl ⟨o, x.frz _ _ _ h⟩
  · exact .inr h
mutual
theorem Rep.mono0 (x : Ext0 H H' μ μ') : ∀ {d : D} {v : V}, Rep K H μ d v → Rep K H' μ' d v
  | .non, _, h => h
  | .bl _, _, h => h
  | .int _, _, h => h
  | .str _, _, h => h
  | .tup ds, _, h => by
    obtain ⟨a, vs, e, s, r⟩ := h
    exact ⟨a, vs, e, x.sqT s, Reps.mono0 x r⟩
  | .fls ds, _, h => by
    obtain ⟨a, vs, e, s, r⟩ := h
    exact ⟨a, vs, e, x.fzL s, Reps.mono0 x r⟩
  | .loc n, _, h => by
    obtain ⟨a, e, q⟩ := h
    exact ⟨a, e, x.pre n a q⟩
  | .adr _, _, h => h
  | .ty _, _, h => h
theorem Reps.mono0 (x : Ext0 H H' μ μ') : ∀ {ds : List D} {vs : List V}, Reps K H μ ds vs → Reps K H' μ' ds vs
  | [], _, h => h
  | d :: ds, _, h => by
    obtain ⟨v, r, e, h1, h2⟩ := h
    exact ⟨v, r, e, Rep.mono0 x h1, Reps.mono0 x h2⟩
end
theorem Rep.mono (x : Ext H H' μ μ') {d : D} {v : V} (h : Rep K H μ d v) : Rep K H' μ' d v := h.mono0 x.toExt0
theorem Reps.mono (x : Ext H H' μ μ') {d : List D} {v : List V} (h : Reps K H μ d v) : Reps K H' μ' d v := h.mono0 x.toExt0
theorem Reps.length : ∀ {ds : List D} {vs : List V}, Reps K H μ ds vs → ds.length = vs.length
  | [], _, h => by subst h; rfl
  | d :: ds, _, h => by
    obtain ⟨v, r, rfl, _, h2⟩ := h
    simp [Reps.length h2]
theorem Reps.get : ∀ {ds : List D} {vs : List V} {i : Nat} {d : D}, Reps K H μ ds vs → ds[i]? = some d → ∃ v, vs[i]? = some v ∧ Rep K H μ d v
  | [], _, i, d, h, e => by simp at e
  | x :: ds, _, 0, d, h, e => by
    obtain ⟨v, r, rfl, h1, _⟩ := h
    simp at e; subst e
    exact ⟨v, rfl, h1⟩
  | x :: ds, _, i + 1, d, h, e => by
    obtain ⟨v, r, rfl, _, h2⟩ := h
    simpa using Reps.get (i := i) h2 (by simpa using e)
theorem Reps.append : ∀ {ds es : List D} {vs us : List V}, Reps K H μ ds vs → Reps K H μ es us → Reps K H μ (ds ++ es) (vs ++ us)
  | [], _, _, _, h, g => by subst h; exact g
  | d :: ds, es, _, us, h, g => by
    obtain ⟨v, r, rfl, h1, h2⟩ := h
    exact ⟨v, r ++ us, rfl, h1, Reps.append h2 g⟩
theorem Reps.one {d : D} {v : V} (h : Rep K H μ d v) : Reps K H μ [d] [v] := ⟨v, [], rfl, h, rfl⟩
theorem Reps.take : ∀ {ds : List D} {vs : List V} (n : Nat), Reps K H μ ds vs → Reps K H μ (ds.take n) (vs.take n)
  | _, _, 0, _ => rfl
  | [], _, n + 1, h => by subst h; rfl
  | d :: ds, _, n + 1, h => by
    obtain ⟨v, r, rfl, h1, h2⟩ := h
    exact ⟨v, r.take n, rfl, h1, Reps.take n h2⟩
theorem Reps.drop : ∀ {ds : List D} {vs : List V} (n : Nat), Reps K H μ ds vs → Reps K H μ (ds.drop n) (vs.drop n)
  | _, _, 0, h => h
  | [], _, n + 1, h => by subst h; rfl
  | d :: ds, _, n + 1, h => by
    obtain ⟨v, r, rfl, h1, h2⟩ := h
    exact Reps.drop n h2
theorem Reps.set : ∀ {ds : List D} {vs : List V} (n : Nat) {d : D} {v : V}, Reps K H μ ds vs → Rep K H μ d v → Reps K H μ (ds.set n d) (vs.set n v)
  | [], _, n, _, _, h, _ => by subst h; rfl
  | d :: ds, _, 0, e, u, h, g => by
    obtain ⟨v, r, rfl, h1, h2⟩ := h
    exact ⟨u, r, rfl, g, h2⟩
  | d :: ds, _, n + 1, e, u, h, g => by
    obtain ⟨v, r, rfl, h1, h2⟩ := h
    exact ⟨v, r.set n u, rfl, h1, Reps.set n h2 g⟩
theorem Reps.reverse : ∀ {ds : List D} {vs : List V}, Reps K H μ ds vs → Reps K H μ ds.reverse vs.reverse
  | [], _, h => by subst h; rfl
  | d :: ds, _, h => by
    obtain ⟨v, r, rfl, h1, h2⟩ := h
    simp only [List.reverse_cons]
    exact (Reps.reverse h2).append (Reps.one h1)
def OFs (K : PySem.W.Frag) (H : Hp) (μ : List Addr) (fs : List (Str × D)) (gs : List (Str × V)) : Prop := fs.map (·.1) = gs.map (·.1) ∧ Reps K H μ (fs.map (·.2)) (gs.map (·.2))
def OKv (K : PySem.W.Frag) (H : Hp) (μ : List Addr) (fs : List (Key × D)) (gs : List (Key × V)) : Prop := fs.map (·.1) = gs.map (·.1) ∧ Reps K H μ (fs.map (·.2)) (gs.map (·.2))
def ORep (K : PySem.W.Frag) (H : Hp) (μ : List Addr) : Ob → HO → Prop
  | .lst ds, o => ∃ vs, o = .lst vs ∧ Reps K H μ ds vs
  | .ins C fs, o => ∃ dx gs, o = .ins C dx gs ∧ OFs K H μ fs gs
  | .dK kvs, o => ∃ gs, o = .dK gs ∧ OKv K H μ kvs gs
  | .err e C d, o => o = exo e C d
  | .xdt dx fs, o => ∃ gs, o = exd dx gs ∧ OFs K H μ fs gs
  | .dkF od kvs, o => ∃ gs, o = .frz od (.dK gs) ∧ OKv K H μ kvs gs
theorem ORep.mono0 (x : Ext0 H H' μ μ') : ∀ {b : Ob} {o : HO}, ORep K H μ b o → ORep K H' μ' b o
  | .lst ds, _, h => by obtain ⟨vs, e, r⟩ := h; exact ⟨vs, e, r.mono0 x⟩
  | .ins C fs, _, h => by obtain ⟨dx, gs, e, r1, r2⟩ := h; exact ⟨dx, gs, e, r1, r2.mono0 x⟩
  | .dK fs, _, h => by obtain ⟨gs, e, r1, r2⟩ := h; exact ⟨gs, e, r1, r2.mono0 x⟩
  | .err _ _ _, _, h => h
  | .xdt dx fs, _, h => by obtain ⟨gs, e, r1, r2⟩ := h; exact ⟨gs, e, r1, r2.mono0 x⟩
  | .dkF od fs, _, h => by obtain ⟨gs, e, r1, r2⟩ := h; exact ⟨gs, e, r1, r2.mono0 x⟩
theorem ORep.mono (x : Ext H H' μ μ') {b : Ob} {o : HO} (h : ORep K H μ b o) : ORep K H' μ' b o := h.mono0 x.toExt0
/-- the tables of code objects that defs with lambdas fill -/
class TabCtx where
  T : List (Addr × Str)
  /-- the dicts of the exceptions that are held, and what stands in them -/
  xs : List (Addr × List (Str × D))
variable [TC : TabCtx]
def ExcAt (K : PySem.W.Frag) (H : Hp) (μ : List Addr) : Prop := ∀ p ∈ TC.xs, p.1 ∉ μ ∧ ∃ gs, H p.1 = some (.xd gs) ∧ OFs K H μ p.2 gs
theorem ExcAt.ext (s : ExcAt K H μ) (x : Ext H H' μ μ') : ExcAt K H' μ' := fun p hp => by
  obtain ⟨hn, gs, e, r1, r2⟩ := s p hp
  refine ⟨fun z => ?_, gs, x.fra _ _ e hn (fun ps z => nomatch z), r1, r2.mono x⟩
  rcases x.new _ z with q | q
  · exact hn q
  · obtain ⟨ps, q⟩ := q _ e
    cases q
theorem ORep.plain : ∀ {b : Ob} {o : HO}, ORep K H μ b o → ∀ ps, o ≠ .tbl ps
  | .lst ds, _, h => by obtain ⟨vs, rfl, r⟩ := h; exact fun _ z => (nomatch z)
  | .ins C fs, _, h => by obtain ⟨dx, gs, rfl, r⟩ := h; exact fun _ z => (nomatch z)
  | .dK fs, _, h => by obtain ⟨gs, rfl, r⟩ := h; exact fun _ z => (nomatch z)
  | .err e C d, o, h => fun ps z => exo_tbl ((show o = exo e C d from h).symm.trans z)
  | .xdt dx fs, _, h => by
    obtain ⟨gs, rfl, r⟩ := h
    intro ps z
    have z' : HO.ext _ = HO.tbl ps := z
    cases z'
  | .dkF od fs, _, h => by obtain ⟨gs, rfl, r⟩ := h; exact fun _ z => (nomatch z)
/-- the tables, where a thing that is none of theirs is written -/
theorem tabs_upd {T : List (Addr × Str)} {p : Addr} {u : HO} (h : LamX.Tabs T H) (hp : ∀ o, H p = some o → (∀ ps, o ≠ .tbl ps) ∧ ∀ f, o ≠ .ext f) : LamX.Tabs T (upd H p u) := fun q hq => by
  obtain ⟨ps, h1, h2, h3⟩ := h q hq
  refine ⟨ps, ?_, h2, fun pos cv hc => ?_⟩
  · rw [upd_ne (fun e => by rw [e] at h1; exact (hp _ h1).1 ps rfl)]; exact h1
  · obtain ⟨c, e1, e2⟩ := h3 pos cv hc
    exact ⟨c, e1, by rw [upd_ne (fun e => by rw [e] at e2; exact (hp _ e2).2 _ rfl)]; exact e2⟩
structure SRep (K : PySem.W.Frag) (st : Sto) (μ : List Addr) (H : Hp) : Prop where
  len : st.length = μ.length
  nd : μ.Nodup
  at' : ∀ (n : Nat) (b : Ob), st[n]? = some b → ∃ a o, μ[n]? = some a ∧ H a = some o ∧ ORep K H μ b o
  tab : LamX.Tabs TC.T H
  exc : ExcAt K H μ
theorem SRep.mem {st : Sto} (s : SRep K st μ H) {a : Addr} (h : a ∈ μ) : ∃ (n : Nat) (b : Ob) (o : HO), μ[n]? = some a ∧ st[n]? = some b ∧ H a = some o ∧ ORep K H μ b o := by
  obtain ⟨n, e⟩ := List.mem_iff_getElem?.mp h
  have hn : n < st.length := by
    rw [s.len]
    exact (List.getElem?_eq_some_iff.mp e).1
  obtain ⟨a', o, e', ho, r⟩ := s.at' n _ (List.getElem?_eq_getElem hn)
  rw [e] at e'; cases e'
  exact ⟨n, _, o, e, List.getElem?_eq_getElem hn, ho, r⟩
theorem SRep.not_mem {st : Sto} (s : SRep K st μ H) {a : Addr} (h : H a = none) : a ∉ μ := fun hm => by
  obtain ⟨n, b, o, _, _, ho, _⟩ := s.mem hm
  rw [h] at ho; cases ho
/-- a new thing that the store does not hold (a tuple) -/
theorem Ext.laid {p : Addr} {o : HO} (h : H p = none) : Ext H (upd H p o) μ μ where
  pre _ _ q := q
  tup a xs q := by rw [upd_ne (ne_of_none q h)]; exact q
  frz a ob u q := by rw [upd_ne (ne_of_none q h)]; exact q
  fra a ob q _ _ := by rw [upd_ne (ne_of_none q h)]; exact q
  new a q := .inl q
theorem SRep.ext {st : Sto} (s : SRep K st μ H) (x : Ext H H' μ μ) (k : ∀ a o, a ∈ μ → H a = some o → H' a = some o) (ht : LamX.Tabs TC.T H') : SRep K st μ H' :=
  ⟨s.len, s.nd, fun n b e => by
    obtain ⟨a, o, e1, e2, r⟩ := s.at' n b e
    exact ⟨a, o, e1, k a o (List.mem_of_getElem? e1) e2, r.mono x⟩, ht, s.exc.ext x⟩
theorem SRep.laid {st : Sto} (s : SRep K st μ H) {p : Addr} {o : HO} (h : H p = none) : SRep K st μ (upd H p o) :=
  s.ext (Ext.laid h) (fun a ob _ q => by rw [upd_ne (ne_of_none q h)]; exact q) (tabs_upd s.tab fun o q => by rw [h] at q; cases q)
/-- a new thing that the store holds -/
theorem Ext.push {p : Addr} {o : HO} (h : H p = none) : Ext H (upd H p o) μ (μ ++ [p]) where
  pre n a q := by rw [List.getElem?_append_left (List.getElem?_eq_some_iff.mp q).1]; exact q
  tup a xs q := by rw [upd_ne (ne_of_none q h)]; exact q
  frz a ob u q := by rw [upd_ne (ne_of_none q h)]; exact q
  fra a ob q _ _ := by rw [upd_ne (ne_of_none q h)]; exact q
  new a q := by
    rcases List.mem_append.mp q with q | q
    · exact .inl q
    · rw [List.mem_singleton.mp q]; exact .inr fun o q => by rw [h] at q; cases q
theorem SRep.push {st : Sto} (s : SRep K st μ H) {p : Addr} {o : HO} {b : Ob} (h : H p = none) (r : ORep K (upd H p o) (μ ++ [p]) b o) : SRep K (st ++ [b]) (μ ++ [p]) (upd H p o) := by
  refine ⟨by simp [s.len], ?_, fun n c e => ?_, tabs_upd s.tab (fun o q => by rw [h] at q; cases q), s.exc.ext (Ext.push h)⟩
  · refine List.nodup_append.mpr ⟨s.nd, by simp, fun a ha b hb => ?_⟩
    rw [List.mem_singleton.mp hb]
    intro e
    exact s.not_mem h (e ▸ ha)
  · by_cases hn : n < st.length
    · rw [List.getElem?_append_left hn] at e
      obtain ⟨a, ob, e1, e2, r2⟩ := s.at' n c e
      refine ⟨a, ob, ?_, ?_, r2.mono (Ext.push h)⟩
      · rw [List.getElem?_append_left (List.getElem?_eq_some_iff.mp e1).1]; exact e1
      · rw [upd_ne (ne_of_none e2 h)]; exact e2
    · have hn' : n = st.length := by
        have := (List.getElem?_eq_some_iff.mp e).1
        simp at this
        omega
      subst hn'
      rw [List.getElem?_append_right (Nat.le_refl _)] at e
      simp at e
      subst e
      refine ⟨p, o, ?_, upd_same, r⟩
      rw [s.len, List.getElem?_append_right (Nat.le_refl _)]
      simp
/-- a thing of the store is written -/
theorem SRep.write {st : Sto} (s : SRep K st μ H) {n : Nat} {p : Addr} {o o' : HO} {b : Ob} (hp : μ[n]? = some p) (ho : H p = some o) (r : ORep K H μ b o') (hx : ∀ f, o ≠ .ext f := by intro f z; cases z) (mu : Mut (some o) := by trivial) : Ext H (upd H p o') μ μ ∧ SRep K (st.set n b) μ (upd H p o') := by
  have hm : p ∈ μ := List.mem_of_getElem? hp
  obtain ⟨_, b0, o0, _, _, h0, r0⟩ := s.mem hm
  rw [ho] at h0; cases h0
  have x : Ext H (upd H p o') μ μ := by
    refine ⟨⟨fun _ _ q => q, fun a xs q => ?_, fun a ob u q => ?_⟩, fun a ob q hn _ => ?_, fun _ q => .inl q⟩
    · rw [upd_ne (fun e => by subst e; rw [ho] at q; cases q; exact mu)]; exact q
    · rw [upd_ne (fun e => by subst e; rw [ho] at q; cases q; exact mu)]; exact q
    · rw [upd_ne (fun (e : a = p) => hn (by rw [e]; exact hm))]; exact q
  refine ⟨x, by simp [s.len], s.nd, fun m c e => ?_, tabs_upd s.tab (fun o1 q => by rw [ho] at q; cases q; exact ⟨r0.plain, hx⟩), s.exc.ext x⟩
  by_cases hmn : m = n
  · subst hmn
    have hl : m < st.length := by
      have := (List.getElem?_eq_some_iff.mp hp).1
      rw [s.len]; exact this
    rw [List.getElem?_set_self hl] at e
    cases e
    exact ⟨p, o', hp, upd_same, r.mono x⟩
  · rw [List.getElem?_set_ne (Ne.symm hmn)] at e
    obtain ⟨a, ob, e1, e2, r2⟩ := s.at' m c e
    refine ⟨a, ob, e1, ?_, r2.mono x⟩
    rw [upd_ne (fun e => hmn ?_)]
    · exact e2
    · subst e
      exact nd_ix s.nd e1 hp
end
end DL
namespace DL
open PySem L2 PySem.Spec
open PyProof.Rows hiding St
variable [TC : TabCtx]
/-- an exception: its class, its fields -/
structure DX where
  cls : Value
  fs : List (Str × D)
abbrev DK := D → Sto → Prop
abbrev DZ := DX → Env' → Sto → Prop
abbrev DTE := Env' → Sto → DK → DZ → Prop
abbrev DTT := Env' → Sto → (Bool → Sto → Prop) → DZ → Prop
abbrev DTA := Env' → Sto → (List D → Sto → Prop) → DZ → Prop
structure DEnds where
  nx : Env' → Sto → Prop
  rt : DK
  bk : Env' → Sto → Prop := fun _ _ => False
  ct : Env' → Sto → Prop := fun _ _ => False
  xs : DZ := fun _ _ _ => False
abbrev DTS := DEnds → Env' → Sto → Prop
abbrev DTG := D → Env' → Sto → (Env' → Sto → Prop) → Prop
structure ERep (K : PySem.W.Frag) (H : Hp) (μ : List Addr) (ρ : Env') (σ : St) : Prop where
  len : ρ.length = σ.length
  at' : ∀ (i : Nat) (d : D), ρ[i]? = some (some d) → ∃ v, σ[i]? = some (some v) ∧ Rep K H μ d v
def XRep (K : PySem.W.Frag) (H : Hp) (μ : List Addr) (x : DX) (c : Value) (dx : Option Addr) : Prop :=
  c = x.cls ∧ ((dx = none ∧ x.fs = []) ∨ ∃ d gs, dx = some d ∧ H d = some (.xd gs) ∧ OFs K H μ x.fs gs)
structure Stt (K : PySem.W.Frag) (ρ : Env') (st : Sto) (μ : List Addr) (σ : St) (H : Hp) : Prop where
  e : ERep K H μ ρ σ
  s : SRep K st μ H
section
variable {K : PySem.W.Frag} {H H1 H2 H' : Hp} {μ μ1 μ2 μ' : List Addr} {ρ : Env'} {st st' : Sto} {σ : St}
theorem ERep.mono (x : Ext H H' μ μ') (h : ERep K H μ ρ σ) : ERep K H' μ' ρ σ := ⟨h.len, fun i d e => by
  obtain ⟨v, e1, r⟩ := h.at' i d e
  exact ⟨v, e1, r.mono x⟩⟩
theorem ERep.set (h : ERep K H μ ρ σ) (i : Nat) {d : D} {v : V} (r : Rep K H μ d v) : ERep K H μ (ρ.set i (some d)) (σ.set i (some v)) := ⟨by simp [h.len], fun j e q => by
  by_cases hj : j = i
  · subst hj
    have hl : j < ρ.length := by
      have := (List.getElem?_eq_some_iff.mp q).1
      simpa using this
    rw [List.getElem?_set_self hl] at q
    cases q
    exact ⟨v, by rw [List.getElem?_set_self (by rw [← h.len]; exact hl)], r⟩
  · rw [List.getElem?_set_ne (Ne.symm hj)] at q
    obtain ⟨u, e1, r1⟩ := h.at' j e q
    exact ⟨u, by rw [List.getElem?_set_ne (Ne.symm hj)]; exact e1, r1⟩⟩
theorem ERep.unset (h : ERep K H μ ρ σ) (i : Nat) : ERep K H μ (ρ.set i none) (σ.set i none) := ⟨by simp [h.len], fun j e q => by
  by_cases hj : j = i
  · subst hj
    have hl : j < ρ.length := by
      have := (List.getElem?_eq_some_iff.mp q).1
      simpa using this
    rw [List.getElem?_set_self hl] at q
    cases q
  · rw [List.getElem?_set_ne (Ne.symm hj)] at q
    obtain ⟨u, e1, r1⟩ := h.at' j e q
    exact ⟨u, by rw [List.getElem?_set_ne (Ne.symm hj)]; exact e1, r1⟩⟩
def wipeD (ρ : Env') : List Nat → Env'
  | [] => ρ
  | v :: vs => (wipeD ρ vs).set v none
theorem ERep.wipe (h : ERep K H μ ρ σ) : ∀ vs : List Nat, ERep K H μ (wipeD ρ vs) (wipe σ vs)
  | [] => h
  | v :: vs => (ERep.wipe h vs).unset v
theorem Stt.mono (x : Ext H H' μ μ') (h : Stt K ρ st μ σ H) (s' : SRep K st' μ' H') : Stt K ρ st' μ' σ H' := ⟨h.e.mono x, s'⟩
/-- the wish about exceptions is served -/
def ZOk (K : PySem.W.Frag) (W : WX) (Z : DZ) (H : Hp) (μ : List Addr) : Prop :=
  ∀ x ρ' st' σ' H' μ' c dx, Z x ρ' st' → Ext H H' μ μ' → Stt K ρ' st' μ' σ' H' → XRep K H' μ' x c dx → W c dx σ' H'
theorem ZOk.mono {W : WX} {Z : DZ} (z : ZOk K W Z H μ) (x : Ext H H' μ μ') : ZOk K W Z H' μ' := fun _ _ _ _ _ _ _ _ h e => z _ _ _ _ _ _ _ _ h (x.trans e)
def EOk (K : PySem.W.Frag) (Qd : DK) (Q : VK) (H : Hp) (μ : List Addr) : Prop :=
  ∀ d st' H' μ' v, Qd d st' → Ext H H' μ μ' → SRep K st' μ' H' → Rep K H' μ' d v → Q v H'
theorem EOk.mono {Qd : DK} {Q : VK} (z : EOk K Qd Q H μ) (x : Ext H H' μ μ') : EOk K Qd Q H' μ' := fun _ _ _ _ _ h e => z _ _ _ _ _ h (x.trans e)
def TOk (K : PySem.W.Frag) (Qd : Bool → Sto → Prop) (Q : Bool → Hp → Prop) (H : Hp) (μ : List Addr) : Prop :=
  ∀ b st' H' μ', Qd b st' → Ext H H' μ μ' → SRep K st' μ' H' → Q b H'
theorem TOk.mono {Qd : Bool → Sto → Prop} {Q : Bool → Hp → Prop} (z : TOk K Qd Q H μ) (x : Ext H H' μ μ') : TOk K Qd Q H' μ' := fun _ _ _ _ h e => z _ _ _ _ h (x.trans e)
def AOk (K : PySem.W.Frag) (Qd : List D → Sto → Prop) (Q : List V → Hp → Prop) (H : Hp) (μ : List Addr) : Prop :=
  ∀ ds st' H' μ' vs, Qd ds st' → Ext H H' μ μ' → SRep K st' μ' H' → Reps K H' μ' ds vs → Q vs H'
def NOk (K : PySem.W.Frag) (Qd : Env' → Sto → Prop) (Q : St → Hp → Prop) (H : Hp) (μ : List Addr) : Prop :=
  ∀ ρ' st' σ' H' μ', Qd ρ' st' → Ext H H' μ μ' → Stt K ρ' st' μ' σ' H' → Q σ' H'
theorem NOk.mono {Qd : Env' → Sto → Prop} {Q : St → Hp → Prop} (z : NOk K Qd Q H μ) (x : Ext H H' μ μ') : NOk K Qd Q H' μ' := fun _ _ _ _ _ h e => z _ _ _ _ _ h (x.trans e)
structure SOk (K : PySem.W.Frag) (W : WX) (DD : DEnds) (D : Ends) (H : Hp) (μ : List Addr) : Prop where
  nx : NOk K DD.nx D.nx H μ
  rt : EOk K DD.rt D.rt H μ
  bk : NOk K DD.bk D.bk H μ
  ct : NOk K DD.ct D.ct H μ
  xs : ZOk K W DD.xs H μ
theorem SOk.mono {W : WX} {DD : DEnds} {D : Ends} (z : SOk K W DD D H μ) (x : Ext H H' μ μ') : SOk K W DD D H' μ' := ⟨z.nx.mono x, z.rt.mono x, z.bk.mono x, z.ct.mono x, z.xs.mono x⟩
def liftE (K : PySem.W.Frag) (W : WX) (t : DTE) : TE := fun σ H Q => ∃ ρ st μ Qd Z, Stt K ρ st μ σ H ∧ t ρ st Qd Z ∧ EOk K Qd Q H μ ∧ ZOk K W Z H μ
def liftT (K : PySem.W.Frag) (W : WX) (t : DTT) : TT := fun σ H Q => ∃ ρ st μ Qd Z, Stt K ρ st μ σ H ∧ t ρ st Qd Z ∧ TOk K Qd Q H μ ∧ ZOk K W Z H μ
def liftA (K : PySem.W.Frag) (W : WX) (t : DTA) : TA := fun σ H Q => ∃ ρ st μ Qd Z, Stt K ρ st μ σ H ∧ t ρ st Qd Z ∧ AOk K Qd Q H μ ∧ ZOk K W Z H μ
def liftS (K : PySem.W.Frag) (W : WX) (t : DTS) : TS := fun D σ H => ∃ ρ st μ DD, Stt K ρ st μ σ H ∧ t DD ρ st ∧ SOk K W DD D H μ
/-- a target; ws: the slots that it may store -/
def liftG (K : PySem.W.Frag) (ws : List Nat) (t : DTG) : TG := fun v σ H Q => ∃ d ρ st μ Qd, Stt K ρ st μ σ H ∧ Rep K H μ d v ∧ t d ρ st Qd ∧
  ∀ ρ' st' σ' H' μ', Qd ρ' st' → Ext H H' μ μ' → Stt K ρ' st' μ' σ' H' → (∀ vs, (∀ w ∈ ws, w ∈ vs) → wipe σ' vs = wipe σ vs) → Q σ' H'
end
abbrev DE (X : Cx) (W : WX) (e : Expr) (t : DTE) : Prop := PE X e (liftE X.K W t)
abbrev DT (X : Cx) (W : WX) (e : Expr) (t : DTT) : Prop := PT X e (liftT X.K W t)
abbrev DW (X : Cx) (W : WX) (e : Expr) (t : DTT) : Prop := PW X e (liftT X.K W t)
abbrev DA (X : Cx) (W : WX) (es : List Expr) (t : DTA) : Prop := PA X es (liftA X.K W t)
abbrev DS (X : Cx) (W : WX) (s : Stmt) (t : DTS) : Prop := PS X s (liftS X.K W t)
abbrev DSs (X : Cx) (W : WX) (s : List Stmt) (t : DTS) : Prop := PSs X s (liftS X.K W t)
abbrev DG (X : Cx) (ws : List Nat) (e : Expr) (t : DTG) : Prop := PG X e (liftG X.K ws t)
section
variable {X : Cx} {W : WX}
theorem pe_weak {e : Expr} {t u : TE} (h : PE X e t) (w : ∀ σ H Q, u σ H Q → t σ H Q) : PE X e u := ⟨fun pins s σ H Q I q => h.run pins s σ H Q I (w σ H Q q)⟩
theorem pt_weak {e : Expr} {t u : TT} (h : PT X e t) (w : ∀ σ H Q, u σ H Q → t σ H Q) : PT X e u := ⟨fun pins s σ H Q I q => h.run pins s σ H Q I (w σ H Q q)⟩
theorem pw_weak {e : Expr} {t u : TT} (h : PW X e t) (w : ∀ σ H Q, u σ H Q → t σ H Q) : PW X e u := ⟨fun wh pins s σ H Q I q => h.run wh pins s σ H Q I (w σ H Q q)⟩
theorem pa_weak {e : List Expr} {t u : TA} (h : PA X e t) (w : ∀ σ H Q, u σ H Q → t σ H Q) : PA X e u := ⟨fun pos pins s σ H Q I q => h.run pos pins s σ H Q I (w σ H Q q)⟩
theorem ps_weak {e : Stmt} {t u : TS} (h : PS X e t) (w : ∀ D σ H, u D σ H → t D σ H) : PS X e u := ⟨fun pins s σ H D I q => h.run pins s σ H D I (w D σ H q)⟩
theorem pss_weak {e : List Stmt} {t u : TS} (h : PSs X e t) (w : ∀ D σ H, u D σ H → t D σ H) : PSs X e u := ⟨fun pins s σ H D I q => h.run pins s σ H D I (w D σ H q)⟩
theorem pg_weak {e : Expr} {t u : TG} (h : PG X e t) (w : ∀ v σ H Q, u v σ H Q → t v σ H Q) : PG X e u := ⟨fun pins s σ H v u Q I r q => h.run pins s σ H v u Q I r (w v σ H Q q)⟩
def dVar (i : Nat) : DTE := fun ρ st Q _ => match ρ[i]? with | some (some d) => Q d st | _ => False
def dC (d : D) : DTE := fun _ st Q _ => Q d st
theorem de_var {i : Nat} {x : Str} {pos : Pos} (h : PE X (.Name x pos) (tVar i)) : DE X W (.Name x pos) (dVar i) := pe_weak h fun σ H Q ⟨ρ, st, μ, Qd, Z, hS, ht, hQ, _⟩ => by
  unfold dVar at ht
  split at ht
  · rename_i d e
    obtain ⟨v, e1, r⟩ := hS.e.at' i d e
    exact ⟨v, e1, hQ d st H μ v ht (Ext.refl _ _) hS.s r⟩
  · exact ht.elim
theorem dv (i : Nat) {x : Str} {pos : Pos} (hN : X.N[i]? = some x := by rfl) (hv : Vis X.env.scope x := by first | exact Or.inl rfl | exact Or.inr (Or.inl rfl) | exact Or.inr (Or.inr rfl)) (hd : (x == ("__debug__" : Str)) = false := by decide)
    (hcd : (x == ("__classdict__" : Str)) = false := by decide) : DE X W (.Name x pos) (dVar i) := de_var (pe_var hN hv hd hcd)
theorem de_c {e : Expr} {d : D} {v : V} (h : PE X e (tC v)) (r : ∀ H μ, Rep X.K H μ d v) : DE X W e (dC d) := pe_weak h fun σ H Q ⟨ρ, st, μ, Qd, Z, hS, ht, hQ, _⟩ => hQ d st H μ v ht (Ext.refl _ _) hS.s (r H μ)
theorem de_int {i : Int} {j : Nat} {pos : Pos} : DE X W (.Constant (.int i) j pos) (dC (.int i)) := de_c pe_int fun _ _ => rfl
theorem de_bl {i : Bool} {j : Nat} {pos : Pos} : DE X W (.Constant (.bool i) j pos) (dC (.bl i)) := de_c pe_bl fun _ _ => rfl
theorem de_non {j : Nat} {pos : Pos} : DE X W (.Constant .none j pos) (dC .non) := de_c pe_non fun _ _ => rfl
theorem de_str {x : Str} {j : Nat} {pos : Pos} : DE X W (.Constant (.str x) j pos) (dC (.str x)) := de_c pe_str fun _ _ => rfl
abbrev D2 := D → D → Sto → DK → Prop
def DOp (K : PySem.W.Frag) (r : R2) (dr : D2) : Prop :=
  ∀ {H : Hp} {μ : List Addr} {st : Sto} {x y : D} {v u : V} {Qd : DK} {Q : VK}, SRep K st μ H → Rep K H μ x v → Rep K H μ y u → dr x y st Qd → EOk K Qd Q H μ → r v u H Q
def dOp (dr : D2) (ta tb : DTE) : DTE := fun ρ st Q Z => ta ρ st (fun x st1 => tb ρ st1 (fun y st2 => dr x y st2 Q) Z) Z
/-- two in a row, by values -/
theorem lift2 {K : PySem.W.Frag} {r : R2} {dr : D2} {ta tb : DTE} (hr : DOp K r dr) (σ : St) (H : Hp) (Q : VK) (h : liftE K W (dOp dr ta tb) σ H Q) : tOp r (liftE K W ta) (liftE K W tb) σ H Q := by
  obtain ⟨ρ, st, μ, Qd, Z, hS, ht, hQ, hZ⟩ := h
  refine ⟨ρ, st, μ, _, Z, hS, ht, fun x st1 H1 μ1 v hx e1 s1 rv => ?_, hZ⟩
  refine ⟨ρ, st1, μ1, _, Z, hS.mono e1 s1, hx, fun y st2 H2 μ2 u hy e2 s2 ru => ?_, hZ.mono e1⟩
  exact hr s2 (rv.mono e2) ru hy (hQ.mono (e1.trans e2))
variable {a b c : Expr} {ta tb tc : DTE} {pos : Pos}
theorem de_op {op : Operator} {r : R2} {dr : D2} (ho : OpR X (binaryOp op) r) (hr : DOp X.K r dr) (ha : DE X W a ta) (hb : DE X W b tb) : DE X W (.BinOp a op b pos) (dOp dr ta tb) := pe_weak (pe_op ho ha hb) fun σ H Q h => lift2 hr σ H Q h
theorem de_cmp {op : CmpOp} {r : R2} {dr : D2} (ho : OpR X (compareOp op) r) (hr : DOp X.K r dr) (hm : behindInMarks op b = false) (ha : DE X W a ta) (hb : DE X W b tb) : DE X W (.Compare a [op] [b] pos) (dOp dr ta tb) := pe_weak (pe_cmpR ho ha hb hm) fun σ H Q h => lift2 hr σ H Q h
/-- a value as a test: it is a bool -/
def dTest (t : DTE) : DTT := fun ρ st Q Z => t ρ st (fun x st1 => match x with | .bl b => Q b st1 | _ => False) Z
theorem dt_cmp {op : CmpOp} {r : R2} {dr : D2} (ho : OpR X (compareOp op) r) (hr : DOp X.K r dr) (hm : behindInMarks op b = false) (ha : DE X W a ta) (hb : DE X W b tb) : DT X W (.Compare a [op] [b] pos) (dTest (dOp dr ta tb)) := pt_weak (pt_cmpR ho ha hb hm) fun σ H Q h => by
  obtain ⟨ρ, st, μ, Qd, Z, hS, ht, hQ, hZ⟩ := h
  refine lift2 (dr := dr) hr σ H _ ⟨ρ, st, μ, _, Z, hS, ht, fun x st1 H1 μ1 v hx e1 s1 rv => ?_, hZ⟩
  cases x with
  | bl b => exact ⟨b, rv, hQ b st1 H1 μ1 hx e1 s1⟩
  | _ => exact hx.elim
/-- a op b op' c -/
def dChain (r r' : D2) (ta tb tc : DTE) : DTE := fun ρ st Q Z => ta ρ st (fun x st1 => tb ρ st1 (fun y st2 => r x y st2 fun z st3 => match z with
  | .bl k => if k = true then tc ρ st3 (fun w st4 => r' y w st4 Q) Z else Q (.bl false) st3
  | _ => False) Z) Z
theorem liftChain {K : PySem.W.Frag} {r r' : R2} {dr dr' : D2} (hr : DOp K r dr) (hr' : DOp K r' dr') (σ : St) (H : Hp) (Q : VK) (h : liftE K W (dChain dr dr' ta tb tc) σ H Q) : tChain r r' (liftE K W ta) (liftE K W tb) (liftE K W tc) σ H Q := by
  obtain ⟨ρ, st, μ, Qd, Z, hS, ht, hQ, hZ⟩ := h
  refine ⟨ρ, st, μ, _, Z, hS, ht, fun x st1 H1 μ1 v hx e1 s1 rv => ?_, hZ⟩
  refine ⟨ρ, st1, μ1, _, Z, hS.mono e1 s1, hx, fun y st2 H2 μ2 u hy e2 s2 ru => ?_, hZ.mono e1⟩
  refine hr s2 (rv.mono e2) ru hy fun z st3 H3 μ3 w hz e3 s3 rw' => ?_
  cases z with
  | bl k =>
    refine ⟨k, rw', ?_⟩
    cases k with
    | true =>
      refine iteT ?_
      exact ⟨ρ, st3, μ3, _, Z, hS.mono ((e1.trans e2).trans e3) s3, hz, fun q st4 H4 μ4 w4 hq e4 s4 r4 => hr' s4 ((ru.mono e3).mono e4) r4 hq (hQ.mono (((e1.trans e2).trans e3).trans e4)), hZ.mono ((e1.trans e2).trans e3)⟩
    | false =>
      refine iteF ?_
      exact hQ _ _ _ _ _ hz ((e1.trans e2).trans e3) s3 rfl
  | _ => exact hz.elim
theorem de_chain {op op' : CmpOp} {r r' : R2} {dr dr' : D2} (ho : OpR X (compareOp op) r) (hr : DOp X.K r dr) (ho' : OpR X (compareOp op') r') (hr' : DOp X.K r' dr') (ha : DE X W a ta) (hb : DE X W b tb) (hc : DE X W c tc)
    (hm : lastMarks [op, op'] [b, c] = false := by with_unfolding_all rfl) : DE X W (.Compare a [op, op'] [b, c] pos) (dChain dr dr' ta tb tc) := pe_weak (pe_chain ho ho' ha hb hc hm) fun σ H Q h => liftChain hr hr' σ H Q h
theorem dt_chain {op op' : CmpOp} {r r' : R2} {dr dr' : D2} (ho : OpR X (compareOp op) r) (hr : DOp X.K r dr) (ho' : OpR X (compareOp op') r') (hr' : DOp X.K r' dr') (ha : DE X W a ta) (hb : DE X W b tb) (hc : DE X W c tc)
    (hm : lastMarks [op, op'] [b, c] = false := by with_unfolding_all rfl) : DT X W (.Compare a [op, op'] [b, c] pos) (dTest (dChain dr dr' ta tb tc)) := pt_weak (pt_chain ho ho' ha hb hc hm) fun σ H Q h => by
  obtain ⟨ρ, st, μ, Qd, Z, hS, ht, hQ, hZ⟩ := h
  refine liftChain hr hr' σ H _ ⟨ρ, st, μ, _, Z, hS, ht, fun x st1 H1 μ1 v hx e1 s1 rv => ?_, hZ⟩
  cases x with
  | bl b => exact ⟨b, rv, hQ b st1 H1 μ1 hx e1 s1⟩
  | _ => exact hx.elim
def dUn (f : D → Sto → DK → Prop) (ta : DTE) : DTE := fun ρ st Q Z => ta ρ st (fun x st1 => f x st1 Q) Z
theorem de_un {op : UnaryOp} {r : V → Hp → VK → Prop} {dr : D → Sto → DK → Prop} (ho : UnR X (unaryOp op) r) (hr : ∀ {H : Hp} {μ : List Addr} {st : Sto} {x : D} {v : V} {Qd : DK} {Q : VK}, SRep X.K st μ H → Rep X.K H μ x v → dr x st Qd → EOk X.K Qd Q H μ → r v H Q)
    (ha : DE X W a ta) : DE X W (.UnaryOp op a pos) (dUn dr ta) := pe_weak (pe_un ho ha) fun σ H Q ⟨ρ, st, μ, Qd, Z, hS, ht, hQ, hZ⟩ =>
  ⟨ρ, st, μ, _, Z, hS, ht, fun x st1 H1 μ1 v hx e1 s1 rv => hr s1 rv hx (hQ.mono e1), hZ⟩
/-- a value's truth -/
def truD (st : Sto) : D → (Bool → Prop) → Prop
  | .non, Q => Q false
  | .bl b, Q => Q b
  | .int i, Q => Q (i != 0)
  | .str y, Q => y.length ≤ sizeLine ∧ Q ((y.length : Int) != 0)
  | .tup ds, Q => Q (!ds.isEmpty)
  | .fls ds, Q => Q (!ds.isEmpty)
  | .loc n, Q => match st[n]? with
    | some (.lst ds) => Q (!ds.isEmpty)
    | some (.dK kvs) => Q (!kvs.isEmpty)
    | _ => False
  | _, _ => False
theorem Reps.isEmpty {K : PySem.W.Frag} {H : Hp} {μ : List Addr} {ds : List D} {vs : List V} (h : Reps K H μ ds vs) : ds.isEmpty = vs.isEmpty := by
  have := h.length
  cases ds <;> cases vs <;> simp_all
theorem truD_ok {K : PySem.W.Frag} {H : Hp} {μ : List Addr} {st : Sto} {d : D} {v : V} {Q : Bool → Prop} (s : SRep K st μ H) (r : Rep K H μ d v) (h : truD st d Q) : ∃ k, TruV K v H k ∧ Q k := by
  cases d with
  | non => rw [show v = _ from r]; exact ⟨false, rfl, h⟩
  | bl b => rw [show v = _ from r]; exact ⟨b, rfl, h⟩
  | int i => rw [show v = _ from r]; exact ⟨i != 0, rfl, h⟩
  | str y => rw [show v = _ from r]; exact ⟨_, ⟨h.1, rfl⟩, h.2⟩
  | tup ds =>
    obtain ⟨a, vs, rfl, hs, hr⟩ := r
    exact ⟨_, .inr (.inl ⟨vs, hs, rfl⟩), by rw [← hr.isEmpty]; exact h⟩
  | fls ds =>
    obtain ⟨a, vs, rfl, hs, hr⟩ := r
    exact ⟨_, .inl ⟨vs, hs.sq, rfl⟩, by rw [← hr.isEmpty]; exact h⟩
  | loc n =>
    obtain ⟨a, rfl, hn⟩ := r
    simp only [truD] at h
    split at h
    · rename_i ds e
      obtain ⟨a', o, e1, e2, vs, rfl, hr⟩ := s.at' _ _ e
      rw [hn] at e1; cases e1
      exact ⟨_, .inl ⟨vs, .inl (.inl e2), rfl⟩, by rw [← hr.isEmpty]; exact h⟩
    · rename_i kvs e
      obtain ⟨a', o, e1, e2, gs, rfl, hk, hr⟩ := s.at' _ _ e
      rw [hn] at e1; cases e1
      refine ⟨_, .inr (.inr ⟨gs, e2, rfl⟩), ?_⟩
      have := congrArg List.length hk
      simp at this
      have e : kvs.isEmpty = gs.isEmpty := by
        cases kvs <;> cases gs <;> simp_all
      rw [← e]; exact h
    · exact h.elim
  | _ => exact (show False from h).elim
/-- a value as a test, by its truth -/
def dTru (t : DTE) : DTT := fun ρ st Q Z => t ρ st (fun x st1 => truD st1 x fun b => Q b st1) Z
theorem dt_tru (ha : DE X W a ta) (he : ∀ whole, isTrue a X.env whole = (do let v ← whole; standAt a.pos; holding [v] (truthy v)) := by intro _; rfl) : DT X W a (dTru ta) := pt_weak (pt_truth ha he) fun σ H Q ⟨ρ, st, μ, Qd, Z, hS, ht, hQ, hZ⟩ =>
  ⟨ρ, st, μ, _, Z, hS, ht, fun x st1 H1 μ1 v hx e1 s1 rv => by
    obtain ⟨k, hk, q⟩ := truD_ok s1 rv hx
    exact ⟨k, hk, hQ k st1 H1 μ1 q e1 s1⟩, hZ⟩
def dNot (t : DTT) : DTT := fun ρ st Q Z => t ρ st (fun b st1 => Q (!b) st1) Z
def dAnd (t u : DTT) : DTT := fun ρ st Q Z => t ρ st (fun b st1 => if b = true then u ρ st1 Q Z else Q false st1) Z
def dOr (t u : DTT) : DTT := fun ρ st Q Z => t ρ st (fun b st1 => if b = true then Q true st1 else u ρ st1 Q Z) Z
variable {t u : DTT} {rest : List Expr}
theorem dt_not (ha : DT X W a t) : DT X W (.UnaryOp .Not a pos) (dNot t) := pt_weak (pt_not ha) fun σ H Q ⟨ρ, st, μ, Qd, Z, hS, ht, hQ, hZ⟩ =>
  ⟨ρ, st, μ, _, Z, hS, ht, fun b st1 H1 μ1 hx e1 s1 => hQ _ _ _ _ hx e1 s1, hZ⟩
theorem dw_and1 (ha : DT X W a t) : DW X W (.BoolOp .And [a] pos) t := pw_and1 ha
theorem dw_or1 (ha : DT X W a t) : DW X W (.BoolOp .Or [a] pos) t := pw_or1 ha
theorem dw_and (ha : DT X W a t) (hb : DW X W (.BoolOp .And (b :: rest) pos) u) : DW X W (.BoolOp .And (a :: b :: rest) pos) (dAnd t u) := pw_weak (pw_and ha hb) fun σ H Q ⟨ρ, st, μ, Qd, Z, hS, ht, hQ, hZ⟩ =>
  ⟨ρ, st, μ, _, Z, hS, ht, fun k st1 H1 μ1 hx e1 s1 => by
    cases k with
    | true =>
      refine iteT ?_
      exact ⟨ρ, st1, μ1, Qd, Z, hS.mono e1 s1, hx, hQ.mono e1, hZ.mono e1⟩
    | false =>
      refine iteF ?_
      exact hQ _ _ _ _ hx e1 s1, hZ⟩
theorem dw_or (ha : DT X W a t) (hb : DW X W (.BoolOp .Or (b :: rest) pos) u) : DW X W (.BoolOp .Or (a :: b :: rest) pos) (dOr t u) := pw_weak (pw_or ha hb) fun σ H Q ⟨ρ, st, μ, Qd, Z, hS, ht, hQ, hZ⟩ =>
  ⟨ρ, st, μ, _, Z, hS, ht, fun k st1 H1 μ1 hx e1 s1 => by
    cases k with
    | true =>
      refine iteT ?_
      exact hQ _ _ _ _ hx e1 s1
    | false =>
      refine iteF ?_
      exact ⟨ρ, st1, μ1, Qd, Z, hS.mono e1 s1, hx, hQ.mono e1, hZ.mono e1⟩, hZ⟩
theorem dw_pt {e : Expr} (h : DW X W e t) : DT X W e t := h.pt
/-- a if t else b -/
def dIf (t : DTT) (ta tb : DTE) : DTE := fun ρ st Q Z => t ρ st (fun k st1 => if k = true then ta ρ st1 Q Z else tb ρ st1 Q Z) Z
theorem de_if (hc : DT X W c t) (ha : DE X W a ta) (hb : DE X W b tb) : DE X W (.IfExp c a b pos) (dIf t ta tb) := pe_weak (pe_ifExp hc ha hb) fun σ H Q ⟨ρ, st, μ, Qd, Z, hS, ht, hQ, hZ⟩ =>
  ⟨ρ, st, μ, _, Z, hS, ht, fun k st1 H1 μ1 hx e1 s1 => by
    cases k with
    | true =>
      refine iteT ?_
      exact ⟨ρ, st1, μ1, Qd, Z, hS.mono e1 s1, hx, hQ.mono e1, hZ.mono e1⟩
    | false =>
      refine iteF ?_
      exact ⟨ρ, st1, μ1, Qd, Z, hS.mono e1 s1, hx, hQ.mono e1, hZ.mono e1⟩, hZ⟩
end
end DL
namespace DL
open PySem L2 PySem.Spec
open PyProof.Rows hiding St
variable [TC : TabCtx]
section
variable {X : Cx} {W : WX} {a b c e : Expr} {ta tb tc te : DTE} {pos : Pos} {es rest : List Expr} {t : DTA}
def dAndV (ta tb : DTE) : DTE := fun ρ st Q Z => ta ρ st (fun x st1 => truD st1 x fun k => if k = true then tb ρ st1 Q Z else Q x st1) Z
def dOrV (ta tb : DTE) : DTE := fun ρ st Q Z => ta ρ st (fun x st1 => truD st1 x fun k => if k = true then Q x st1 else tb ρ st1 Q Z) Z
def dNotV (ta : DTE) : DTE := fun ρ st Q Z => ta ρ st (fun x st1 => truD st1 x fun k => Q (.bl (!k)) st1) Z
theorem de_one (ha : DE X W a ta) {op : BoolOp} : DE X W (.BoolOp op [a] pos) ta := pe_one ha
theorem de_and (ha : DE X W a ta) (hb : DE X W (.BoolOp .And (b :: rest) pos) tb) : DE X W (.BoolOp .And (a :: b :: rest) pos) (dAndV ta tb) := pe_weak (pe_andT ha hb) fun σ H Q ⟨ρ, st, μ, Qd, Z, hS, ht, hQ, hZ⟩ =>
  ⟨ρ, st, μ, _, Z, hS, ht, fun x st1 H1 μ1 v hx e1 s1 rv => by
    obtain ⟨k, hk, q⟩ := truD_ok s1 rv hx
    refine ⟨k, hk, ?_⟩
    cases k with
    | true => exact iteT ⟨ρ, st1, μ1, Qd, Z, hS.mono e1 s1, q, hQ.mono e1, hZ.mono e1⟩
    | false => exact iteF (hQ _ _ _ _ _ q e1 s1 rv), hZ⟩
theorem de_not (ha : DE X W a ta) : DE X W (.UnaryOp .Not a pos) (dNotV ta) := pe_weak (pe_notT ha) fun σ H Q ⟨ρ, st, μ, Qd, Z, hS, ht, hQ, hZ⟩ =>
  ⟨ρ, st, μ, _, Z, hS, ht, fun x st1 H1 μ1 v hx e1 s1 rv => by
    obtain ⟨k, hk, q⟩ := truD_ok s1 rv hx
    exact ⟨k, hk, hQ _ _ _ _ _ q e1 s1 rfl⟩, hZ⟩
def dNil : DTA := fun _ st Q _ => Q [] st
def dCons (ta : DTE) (tr : DTA) : DTA := fun ρ st Q Z => ta ρ st (fun x st1 => tr ρ st1 (fun xs st2 => Q (x :: xs) st2) Z) Z
theorem da_nil : DA X W [] dNil := pa_weak pa_nil fun σ H Q ⟨ρ, st, μ, Qd, Z, hS, ht, hQ, hZ⟩ => hQ [] st H μ [] ht (Ext.refl _ _) hS.s rfl
theorem da_cons (ha : DE X W a ta) (hr : DA X W es t) (hs : starEach (a :: es) X.env = (false, eval a X.env) :: starEach es X.env := by rfl) : DA X W (a :: es) (dCons ta t) :=
  pa_weak (pa_cons ha hr hs) fun σ H Q ⟨ρ, st, μ, Qd, Z, hS, ht, hQ, hZ⟩ => ⟨ρ, st, μ, _, Z, hS, ht, fun x st1 H1 μ1 v hx e1 s1 rv =>
    ⟨ρ, st1, μ1, _, Z, hS.mono e1 s1, hx, fun xs st2 H2 μ2 vs hxs e2 s2 rvs => hQ _ _ _ _ _ hxs (e1.trans e2) s2 ⟨v, vs, rfl, rv.mono e2, rvs⟩, hZ.mono e1⟩, hZ⟩
def dTup (t : DTA) : DTE := fun ρ st Q Z => t ρ st (fun xs st1 => xs.length ≤ sizeLine ∧ Q (.tup xs) st1) Z
def dLst (t : DTA) : DTE := fun ρ st Q Z => t ρ st (fun xs st1 => xs.length ≤ sizeLine ∧ Q (.loc st1.length) (st1 ++ [.lst xs])) Z
/-- a new tuple's address -/
theorem EOk.tup {K : PySem.W.Frag} {Qd : DK} {Q : VK} {H H1 : Hp} {μ μ1 : List Addr} {ds : List D} {vs : List V} {st1 : Sto} (hQ : EOk K Qd Q H μ) (e1 : Ext H H1 μ μ1) (s1 : SRep K st1 μ1 H1) (r : Reps K H1 μ1 ds vs) (q : Qd (.tup ds) st1) {p : Addr} (hp : H1 p = none) :
    Q (.ref p) (upd H1 p (.tup vs)) :=
  hQ _ _ _ _ _ q (e1.trans (Ext.laid hp)) (s1.laid hp) ⟨p, vs, rfl, .inl (.inl upd_same), r.mono (Ext.laid hp)⟩
theorem getElem?_end {α : Type} (l : List α) (x : α) : (l ++ [x])[l.length]? = some x := by simp
/-- a new list's address -/
theorem EOk.lst {K : PySem.W.Frag} {Qd : DK} {Q : VK} {H H1 : Hp} {μ μ1 : List Addr} {ds : List D} {vs : List V} {st1 : Sto} (hQ : EOk K Qd Q H μ) (e1 : Ext H H1 μ μ1) (s1 : SRep K st1 μ1 H1) (r : Reps K H1 μ1 ds vs) (q : Qd (.loc st1.length) (st1 ++ [.lst ds])) {p : Addr} (hp : H1 p = none) :
    Q (.ref p) (upd H1 p (.lst vs)) :=
  hQ _ _ _ _ _ q (e1.trans (Ext.push hp)) (s1.push hp ⟨vs, rfl, r.mono (Ext.push hp)⟩) ⟨p, rfl, by rw [s1.len]; exact getElem?_end _ _⟩
theorem de_tup {x1 : Nat} (h : DA X W es t) : DE X W (.Tuple es x1 pos) (dTup t) := pe_weak (pe_tup h) fun σ H Q ⟨ρ, st, μ, Qd, Z, hS, ht, hQ, hZ⟩ =>
  ⟨ρ, st, μ, _, Z, hS, ht, fun xs st1 H1 μ1 vs hx e1 s1 rv => ⟨by rw [← rv.length]; exact hx.1, fun p hp => hQ.tup e1 s1 rv hx.2 hp⟩, hZ⟩
theorem de_lst (h : DA X W es t) : DE X W (.List es pos) (dLst t) := pe_weak (pe_lst h) fun σ H Q ⟨ρ, st, μ, Qd, Z, hS, ht, hQ, hZ⟩ =>
  ⟨ρ, st, μ, _, Z, hS, ht, fun xs st1 H1 μ1 vs hx e1 s1 rv => ⟨by rw [← rv.length]; exact hx.1, fun p hp => hQ.lst e1 s1 rv hx.2 hp⟩, hZ⟩
abbrev DN := List D → Sto → DK → Prop
def DCl (K : PySem.W.Frag) (r : List V → Hp → VK → Prop) (dr : DN) : Prop :=
  ∀ {H : Hp} {μ : List Addr} {st : Sto} {ds : List D} {vs : List V} {Qd : DK} {Q : VK}, SRep K st μ H → Reps K H μ ds vs → dr ds st Qd → EOk K Qd Q H μ → r vs H Q
def dCB (dr : DN) (t : DTA) : DTE := fun ρ st Q Z => t ρ st (fun xs st1 => dr xs st1 Q) Z
variable {id T : String} {x : Str} {p : Pos} {r : List V → Hp → VK → Prop} {dr : DN}
theorem de_callB (hc : CallR X (.builtin id) r) (hr : DCl X.K r dr) (hg : Gl X x) (hm : X.mg x = none) (hv : bootBuiltins x = some (.builtin id)) (ha : DA X W (e :: es) t) (hn : x ≠ "__name__" := by decide) (hdb : (x == ("__debug__" : Str)) = false := by decide)
    (he : starEach (e :: es) X.env = (false, eval e X.env) :: starEach es X.env := by rfl) (hpl : (backTo pos (starEach es X.env)).any (·.1) = false := by rfl) : DE X W (.Call (.Name x p) (e :: es) [] pos) (dCB dr t) :=
  pe_weak (pe_callB hc hg hm hv ha hn hdb he hpl) fun σ H Q ⟨ρ, st, μ, Qd, Z, hS, ht, hQ, hZ⟩ => ⟨ρ, st, μ, _, Z, hS, ht, fun xs st1 H1 μ1 vs hx e1 s1 rv => hr s1 rv hx (hQ.mono e1), hZ⟩
theorem de_callTy (hc : CallR X (.type T) r) (hr : DCl X.K r dr) (hg : Gl X x) (hm : X.mg x = none) (hv : bootBuiltins x = some (.type T)) (ha : DA X W (e :: es) t) (hn : x ≠ "__name__" := by decide) (hdb : (x == ("__debug__" : Str)) = false := by decide)
    (he : starEach (e :: es) X.env = (false, eval e X.env) :: starEach es X.env := by rfl) (hpl : (backTo pos (starEach es X.env)).any (·.1) = false := by rfl) : DE X W (.Call (.Name x p) (e :: es) [] pos) (dCB dr t) :=
  pe_weak (pe_callTy hc hg hm hv ha hn hdb he hpl) fun σ H Q ⟨ρ, st, μ, Qd, Z, hS, ht, hQ, hZ⟩ => ⟨ρ, st, μ, _, Z, hS, ht, fun xs st1 H1 μ1 vs hx e1 s1 rv => hr s1 rv hx (hQ.mono e1), hZ⟩
/-- methods of built-in types -/
def tyD (st : Sto) (T : String) : D → Prop
  | .str _ => T = "str"
  | .fls _ => T = "list"
  | .loc n => match st[n]? with
    | some (.lst _) => T = "list"
    | some (.dK _) => T = "dict"
    | _ => False
  | _ => False
theorem tyD_ok {K : PySem.W.Frag} {st : Sto} {μ : List Addr} {H : Hp} {d : D} {v : V} (s : SRep K st μ H) (r : Rep K H μ d v) (h : tyD st T d) : tyV K T v H := by
  cases d with
  | str y => rw [show v = _ from r]; exact h
  | fls ds => obtain ⟨a, vs, rfl, hf, _⟩ := r; exact .inl ⟨h, vs, hf.sq⟩
  | loc n =>
    obtain ⟨a, rfl, hn⟩ := r
    simp only [tyD] at h
    split at h
    · rename_i ds e
      obtain ⟨a', o, e1, e2, vs, rfl, hr⟩ := s.at' _ _ e
      rw [hn] at e1; cases e1
      exact .inl ⟨h, vs, .inl (.inl e2)⟩
    · rename_i kvs e
      obtain ⟨a', o, e1, e2, gs, rfl, hk, hr⟩ := s.at' _ _ e
      rw [hn] at e1; cases e1
      exact .inr (.inr (.inl ⟨h, .inl ⟨gs, e2⟩⟩))
    · exact h.elim
  | _ => exact (show False from h).elim
abbrev DM := D → List D → Sto → DK → Prop
def DMt (K : PySem.W.Frag) (r : V → List V → Hp → VK → Prop) (dr : DM) : Prop :=
  ∀ {H : Hp} {μ : List Addr} {st : Sto} {x : D} {v : V} {ds : List D} {vs : List V} {Qd : DK} {Q : VK}, SRep K st μ H → Rep K H μ x v → Reps K H μ ds vs → dr x ds st Qd → EOk K Qd Q H μ → r v vs H Q
def dBM (T : String) (dr : DM) (to : DTE) (t : DTA) : DTE := fun ρ st Q Z => to ρ st (fun x st1 => tyD st1 T x ∧ t ρ st1 (fun xs st2 => dr x xs st2 Q) Z) Z
variable {o : Expr} {to : DTE} {name : Str} {apos cpos : Pos} {rm : V → List V → Hp → VK → Prop} {dm : DM}
theorem de_bm (pa : PlainAttrs T) (slot : Slot T name id) (hty : typeOf (.builtin id) = pure (.type "method_descriptor")) (hm : MtR X id rm) (hr : DMt X.K rm dm) (ho : DE X W o to) (ha : DA X W (e :: es) t)
    (hbase : attributeBase o name X.env (eval o X.env) = eval o X.env := by rfl)
    (hfew : ((backTo cpos (starEach (e :: es) X.env)).all (fun x => !x.1) && (backToKw cpos (keywordEach [] X.env)).all (fun x => x.1.isSome)
      && decide ((e :: es).length + ([] : List Keyword).length + (if ([] : List Keyword).isEmpty then 0 else 1) < 30)) = true := by rfl)
    (hline : (apos.endLine == cpos.line) = true := by rfl) (hs : starEach (e :: es) X.env = (false, eval e X.env) :: starEach es X.env := by rfl) (hplain : (backTo cpos (starEach es X.env)).any (·.1) = false := by rfl) :
    DE X W (.Call (.Attribute o name apos) (e :: es) [] cpos) (dBM T dm to t) := pe_weak (pe_bm pa slot hty hm ho ha hbase hfew hline hs hplain) fun σ H Q ⟨ρ, st, μ, Qd, Z, hS, ht, hQ, hZ⟩ =>
  ⟨ρ, st, μ, _, Z, hS, ht, fun x st1 H1 μ1 v hx e1 s1 rv => ⟨tyD_ok s1 rv hx.1, ρ, st1, μ1, _, Z, hS.mono e1 s1, hx.2, fun xs st2 H2 μ2 vs hxs e2 s2 rvs => hr s2 (rv.mono e2) rvs hxs (hQ.mono (e1.trans e2)), hZ.mono e1⟩, hZ⟩
theorem de_bm0 (pa : PlainAttrs T) (slot : Slot T name id) (hty : typeOf (.builtin id) = pure (.type "method_descriptor")) (hm : MtR X id rm) (hr : DMt X.K rm dm) (ho : DE X W o to)
    (hbase : attributeBase o name X.env (eval o X.env) = eval o X.env := by rfl) (hline : (apos.endLine == cpos.line) = true := by rfl) : DE X W (.Call (.Attribute o name apos) [] [] cpos) (dBM T dm to dNil) := pe_weak (pe_bm0 pa slot hty hm ho hbase hline) fun σ H Q ⟨ρ, st, μ, Qd, Z, hS, ht, hQ, hZ⟩ =>
  ⟨ρ, st, μ, _, Z, hS, ht, fun x st1 H1 μ1 v hx e1 s1 rv => ⟨tyD_ok s1 rv hx.1, hr (ds := []) s1 rv (show Reps X.K H1 μ1 [] [] from rfl) hx.2 (hQ.mono e1)⟩, hZ⟩
def dIx : D2 := fun x y st Q => match y with
  | .int i => match x with
    | .tup ds => ∃ d, atI ds i = some d ∧ Q d st
    | .fls ds => ∃ d, atI ds i = some d ∧ Q d st
    | .loc n => ∃ ds d, st[n]? = some (.lst ds) ∧ atI ds i = some d ∧ Q d st
    | .str z => ∃ c, z.length ≤ sizeLine ∧ atI z.cps.toList i = some c ∧ Q (.str ⟨#[c]⟩) st
    | _ => False
  | _ => False
theorem atI_rep {K : PySem.W.Frag} {H : Hp} {μ : List Addr} {ds : List D} {vs : List V} {i : Int} {d : D} (r : Reps K H μ ds vs) (h : atI ds i = some d) : ∃ v, atI vs i = some v ∧ Rep K H μ d v := by
  unfold atI at h ⊢
  rw [← r.length]
  cases e : ixN ds.length i with
  | none => rw [e] at h; cases h
  | some j =>
    rw [e] at h
    exact r.get h
theorem ix_ok {K : PySem.W.Frag} : DOp K (rIx K) dIx := by
  intro H μ st x y v u Qd Q s rx ry h hQ
  cases y with
  | int i =>
    rw [show u = _ from ry]
    cases x with
    | tup ds =>
      obtain ⟨a, vs, rfl, ht, hr⟩ := rx
      obtain ⟨d, hd, q⟩ := h
      obtain ⟨w, hw, rw'⟩ := atI_rep hr hd
      exact .inr (.inl ⟨a, vs, i, w, rfl, rfl, ht, hw, hQ _ _ _ _ _ q (Ext.refl _ _) s rw'⟩)
    | fls ds =>
      obtain ⟨a, vs, rfl, ht, hr⟩ := rx
      obtain ⟨d, hd, q⟩ := h
      obtain ⟨w, hw, rw'⟩ := atI_rep hr hd
      exact .inl ⟨a, vs, i, w, rfl, rfl, ht.sq, hw, hQ _ _ _ _ _ q (Ext.refl _ _) s rw'⟩
    | loc n =>
      obtain ⟨a, rfl, hn⟩ := rx
      obtain ⟨ds, d, hds, hd, q⟩ := h
      obtain ⟨a', o, e1, e2, vs, rfl, hr⟩ := s.at' _ _ hds
      rw [hn] at e1; cases e1
      obtain ⟨w, hw, rw'⟩ := atI_rep hr hd
      exact .inl ⟨a, vs, i, w, rfl, rfl, .inl (.inl e2), hw, hQ _ _ _ _ _ q (Ext.refl _ _) s rw'⟩
    | str z =>
      rw [show v = _ from rx]
      obtain ⟨c, hz, hc, q⟩ := h
      exact .inr (.inr ⟨z, i, c, rfl, rfl, hz, hc, hQ _ _ _ _ _ q (Ext.refl _ _) s rfl⟩)
    | _ => exact h.elim
  | _ => exact (show False from h).elim
theorem de_ix (ha : DE X W a ta) (hb : DE X W b tb) (hs : PlainIx b := by intro _ _; rfl) : DE X W (.Subscript a b pos) (dOp dIx ta tb) := pe_weak (pe_ix ix_seq ha hb hs) fun σ H Q h => lift2 ix_ok σ H Q h
abbrev DTO := Env' → Sto → (Option Int → Sto → Prop) → DZ → Prop
def liftO (K : PySem.W.Frag) (W : WX) (t : DTO) : TO := fun σ H Q => ∃ ρ st μ Qd Z, Stt K ρ st μ σ H ∧ t ρ st Qd Z ∧ (∀ o st' H' μ', Qd o st' → Ext H H' μ μ' → SRep K st' μ' H' → Q o H') ∧ ZOk K W Z H μ
abbrev DO (X : Cx) (W : WX) (e : Option Expr) (t : DTO) : Prop := PO X e (liftO X.K W t)
theorem po_weak {e : Option Expr} {t u : TO} (h : PO X e t) (w : ∀ σ H Q, u σ H Q → t σ H Q) : PO X e u := ⟨fun pins s σ H Q I q => h.run pins s σ H Q I (w σ H Q q)⟩
def dNoPart : DTO := fun _ st Q _ => Q none st
def dPart (t : DTE) : DTO := fun ρ st Q Z => t ρ st (fun x st1 => match x with | .int i => Q (some i) st1 | _ => False) Z
theorem do_none : DO X W none dNoPart := po_weak po_none fun σ H Q ⟨ρ, st, μ, Qd, Z, hS, ht, hQ, hZ⟩ => hQ none st H μ ht (Ext.refl _ _) hS.s
theorem do_some (ha : DE X W a ta) : DO X W (some a) (dPart ta) := po_weak (po_some ha) fun σ H Q ⟨ρ, st, μ, Qd, Z, hS, ht, hQ, hZ⟩ =>
  ⟨ρ, st, μ, _, Z, hS, ht, fun x st1 H1 μ1 v hx e1 s1 rv => by
    cases x with
    | int i => exact ⟨i, rv, hQ _ _ _ _ hx e1 s1⟩
    | _ => exact hx.elim, hZ⟩
def cutL {α : Type} (xs : List α) (lo hi : Option Int) : List α := (xs.drop (HT.sIx xs.length 0 lo)).take (HT.sIx xs.length xs.length hi - HT.sIx xs.length 0 lo)
theorem cutL_rep {K : PySem.W.Frag} {H : Hp} {μ : List Addr} {ds : List D} {vs : List V} (lo hi : Option Int) (r : Reps K H μ ds vs) : Reps K H μ (cutL ds lo hi) (cutV vs lo hi) := by
  unfold cutL cutV
  rw [← r.length]
  exact (r.drop _).take _
def dSlV : D → Option Int → Option Int → Sto → DK → Prop := fun x lo hi st Q => match x with
  | .tup ds => Q (.tup (cutL ds lo hi)) st
  | .fls ds => Q (.loc st.length) (st ++ [.lst (cutL ds lo hi)])
  | .loc n => ∃ ds, st[n]? = some (.lst ds) ∧ Q (.loc st.length) (st ++ [.lst (cutL ds lo hi)])
  | .str z => z.length ≤ sizeLine ∧ Q (.str (cutS z lo hi)) st
  | _ => False
def dSl (te : DTE) (tl th : DTO) : DTE := fun ρ st Q Z => te ρ st (fun x st1 => tl ρ st1 (fun l st2 => th ρ st2 (fun u st3 => dSlV x l u st3 Q) Z) Z) Z
theorem HT.whole {α : Type} {xs : List α} {lo hi : Option Int} (h : HT.sIx xs.length 0 lo = 0 ∧ HT.sIx xs.length xs.length hi = xs.length) : cutL xs lo hi = xs := by
  unfold cutL
  rw [h.1, h.2]
  simp
theorem de_slice {lo hi : Option Expr} {tl th : DTO} {p2 : Pos} (ha : DE X W a ta) (hl : DO X W lo tl) (hh : DO X W hi th) : DE X W (.Subscript a (.Slice lo hi none p2) pos) (dSl ta tl th) :=
  pe_weak (pe_slice (sl_list.or (sl_tupA.or sl_str)) ha hl hh) fun σ H Q ⟨ρ, st, μ, Qd, Z, hS, ht, hQ, hZ⟩ =>
  ⟨ρ, st, μ, _, Z, hS, ht, fun x st1 H1 μ1 v hx e1 s1 rv => ⟨ρ, st1, μ1, _, Z, hS.mono e1 s1, hx, fun l st2 H2 μ2 hy e2 s2 => ⟨ρ, st2, μ2, _, Z, hS.mono (e1.trans e2) s2, hy, fun u st3 H3 μ3 hz e3 s3 => by
    have rv3 := rv.mono (e2.trans e3)
    have e := (e1.trans e2).trans e3
    cases x with
    | tup ds =>
      obtain ⟨a, vs, rfl, ht, hr⟩ := rv3
      refine .inr (.inl ⟨a, vs, rfl, ht, fun h => ?_, fun _ p hp => ?_⟩)
      · have hz' : Qd (.tup (cutL ds l u)) st3 := hz
        rw [HT.whole (by rw [hr.length]; exact h)] at hz'
        exact hQ _ _ _ _ _ hz' e s3 ⟨a, vs, rfl, ht, hr⟩
      · exact hQ.tup e s3 (cutL_rep l u hr) hz hp
    | fls ds =>
      obtain ⟨a, vs, rfl, ht, hr⟩ := rv3
      exact .inl ⟨a, vs, rfl, ht.sq, fun p hp => hQ.lst e s3 (cutL_rep l u hr) hz hp⟩
    | loc n =>
      obtain ⟨a, rfl, hn⟩ := rv3
      obtain ⟨ds, hds, hz⟩ := hz
      obtain ⟨a', o, q1, q2, vs, rfl, hr⟩ := s3.at' _ _ hds
      rw [hn] at q1; cases q1
      exact .inl ⟨a, vs, rfl, .inl (.inl q2), fun p hp => hQ.lst e s3 (cutL_rep l u hr) hz hp⟩
    | str z =>
      rw [show v = _ from rv3]
      exact .inr (.inr ⟨z, rfl, hz.1, hQ _ _ _ _ _ hz.2 e s3 rfl⟩)
    | _ => exact hz.elim, hZ.mono (e1.trans e2)⟩, hZ.mono e1⟩, hZ⟩
end
end DL
namespace DL
open PySem L2 PySem.Spec
open PyProof.Rows hiding St
variable [TC : TabCtx]
section
variable {X : Cx} {W : WX} {a b c e : Expr} {ta tb tc te : DTE} {pos : Pos} {s : Stmt} {rest : List Stmt} {t u : DTS}
def dNext : DTS := fun E ρ st => E.nx ρ st
def dSeq (t u : DTS) : DTS := fun E ρ st => t { E with nx := u E } ρ st
theorem SOk.with_nx {K : PySem.W.Frag} {DD : DEnds} {D : Ends} {H : Hp} {μ : List Addr} {qd : Env' → Sto → Prop} {q : St → Hp → Prop} (z : SOk K W DD D H μ) (n : NOk K qd q H μ) : SOk K W { DD with nx := qd } { D with nx := q } H μ := ⟨n, z.rt, z.bk, z.ct, z.xs⟩
theorem dss_nil : DSs X W [] dNext := pss_weak pss_nil fun D σ H ⟨ρ, st, μ, DD, hS, ht, hO⟩ => hO.nx _ _ _ _ _ ht (Ext.refl _ _) hS
theorem dss_cons (h1 : DS X W s t) (h2 : DSs X W rest u) : DSs X W (s :: rest) (dSeq t u) := pss_weak (pss_cons h1 h2) fun D σ H ⟨ρ, st, μ, DD, hS, ht, hO⟩ =>
  ⟨ρ, st, μ, _, hS, ht, hO.with_nx fun ρ' st' σ' H' μ' q e s' => ⟨ρ', st', μ', DD, s', q, hO.mono e⟩⟩
theorem dss_one (h1 : DS X W s t) : DSs X W [s] t := pss_one h1
def dBreak : DTS := fun E ρ st => E.bk ρ st
theorem ds_break : DS X W (.Break pos) dBreak := ps_weak ps_break fun D σ H ⟨ρ, st, μ, DD, hS, ht, hO⟩ => hO.bk _ _ _ _ _ ht (Ext.refl _ _) hS
def dDrop (te : DTE) : DTS := fun E ρ st => te ρ st (fun _ st1 => E.nx ρ st1) E.xs
theorem ds_expr (he : DE X W e te) (hs : swapsWith e none pos.line X.env = pure false := by rfl) : DS X W (.Expr e pos) (dDrop te) := ps_weak (ps_expr he hs) fun D σ H ⟨ρ, st, μ, DD, hS, ht, hO⟩ =>
  ⟨ρ, st, μ, _, _, hS, ht, fun d st1 H1 μ1 v q e1 s1 _ => hO.nx _ _ _ _ _ q e1 (hS.mono e1 s1), hO.xs⟩
def dRet (te : DTE) : DTS := fun E ρ st => te ρ st E.rt E.xs
theorem ds_ret (he : DE X W e te) : DS X W (.Return (some e) pos) (dRet te) := ps_weak (ps_ret he) fun D σ H ⟨ρ, st, μ, DD, hS, ht, hO⟩ => ⟨ρ, st, μ, _, _, hS, ht, hO.rt, hO.xs⟩
def dIfS (c : DTT) (t u : DTS) : DTS := fun E ρ st => c ρ st (fun b st1 => if b = true then t E ρ st1 else u E ρ st1) E.xs
theorem ds_if {tc : DTT} {x y : List Stmt} (hc : DT X W c tc) (ha : DSs X W x t) (hb : DSs X W y u) : DS X W (.If c x y pos) (dIfS tc t u) := ps_weak (ps_if hc ha hb) fun D σ H ⟨ρ, st, μ, DD, hS, ht, hO⟩ =>
  ⟨ρ, st, μ, _, _, hS, ht, fun k st1 H1 μ1 hx e1 s1 => by
    cases k with
    | true => exact iteT ⟨ρ, st1, μ1, DD, hS.mono e1 s1, hx, hO.mono e1⟩
    | false => exact iteF ⟨ρ, st1, μ1, DD, hS.mono e1 s1, hx, hO.mono e1⟩, hO.xs⟩
def gN (i : Nat) : DTG := fun d ρ st Q => Q (ρ.set i (some d)) st
theorem wipe_set (σ : St) (i : Nat) (v : Option V) : ∀ vs : List Nat, i ∈ vs → wipe (σ.set i v) vs = wipe σ vs
  | x :: vs, h => by
    unfold wipe
    rcases List.mem_cons.mp h with h | h
    · subst h
      by_cases hm : i ∈ vs
      · rw [wipe_set σ i v vs hm]
      · have : ∀ (vs : List Nat) (σ : St), i ∉ vs → wipe (σ.set i v) vs = (wipe σ vs).set i v := by
          intro vs
          induction vs with
          | nil => intro σ _; rfl
          | cons y ys ih =>
            intro σ hn
            unfold wipe
            rw [ih σ (fun z => hn (List.mem_cons_of_mem _ z)), List.set_comm]
            intro e
            exact hn (e ▸ List.mem_cons_self)
        rw [this vs σ hm, List.set_set]
    · rw [wipe_set σ i v vs h]
theorem dg_name {i : Nat} {x : Str} (hN : X.N.Nodup) (hi : X.N[i]? = some x) (hx : Loc X.env.scope x) (hf : X.fn x = true ∨ X.env.scope.names.lookup x = some .local := by first | exact .inl rfl | exact .inr rfl | assumption) : DG X [i] (.Name x pos) (gN i) :=
  pg_weak (pg_name hN hi hx hf) fun v σ H Q ⟨d, ρ, st, μ, Qd, hS, rv, ht, hk⟩ => hk _ _ _ _ _ ht (Ext.refl _ _) ⟨hS.e.set i rv, hS.s⟩ fun vs hv => wipe_set _ _ _ _ (hv i List.mem_cons_self)
abbrev DTGs := List D → Env' → Sto → (Env' → Sto → Prop) → Prop
def liftGs (K : PySem.W.Frag) (ws : List Nat) (t : DTGs) : TGs := fun vs σ H Q => ∃ ds ρ st μ Qd, Stt K ρ st μ σ H ∧ Reps K H μ ds vs ∧ t ds ρ st Qd ∧
  ∀ ρ' st' σ' H' μ', Qd ρ' st' → Ext H H' μ μ' → Stt K ρ' st' μ' σ' H' → (∀ vs, (∀ w ∈ ws, w ∈ vs) → wipe σ' vs = wipe σ vs) → Q σ' H'
theorem pgs_weak {es : List Expr} {t u : TGs} (h : PGs X es t) (w : ∀ v σ H Q, u v σ H Q → t v σ H Q) : PGs X es u := ⟨fun pins s σ H v u Q I r q => h.run pins s σ H v u Q I r (w v σ H Q q)⟩
def gNil' : DTGs := fun ds ρ st Q => match ds with | [] => Q ρ st | _ => False
def gCons' (t : DTG) (u : DTGs) : DTGs := fun ds ρ st Q => match ds with | d :: r => t d ρ st fun ρ' st' => u r ρ' st' Q | _ => False
theorem dgs_nil : PGs X [] (liftGs X.K [] gNil') := pgs_weak pgs_nil fun vs σ H Q ⟨ds, ρ, st, μ, Qd, hS, rv, ht, hk⟩ => by
  cases ds with
  | nil => exact ⟨rv, hk _ _ _ _ _ ht (Ext.refl _ _) hS fun _ _ => rfl⟩
  | cons d r => exact ht.elim
theorem dgs_cons {es : List Expr} {w1 w2 : List Nat} {t : DTG} {u : DTGs} (h1 : DG X w1 e t) (h2 : PGs X es (liftGs X.K w2 u)) (hs : (assignEach (e :: es) X.env).map (·.2) = assign e X.env :: (assignEach es X.env).map (·.2) := by rfl) :
    PGs X (e :: es) (liftGs X.K (w1 ++ w2) (gCons' t u)) := pgs_weak (pgs_cons h1 h2 hs) fun vs σ H Q ⟨ds, ρ, st, μ, Qd, hS, rv, ht, hk⟩ => by
  cases ds with
  | nil => exact ht.elim
  | cons d r =>
    obtain ⟨v, vr, rfl, r1, r2⟩ := rv
    refine ⟨v, vr, rfl, d, ρ, st, μ, _, hS, r1, ht, fun ρ' st' σ' H' μ' q e1 s1 hw => ⟨r, ρ', st', μ', _, s1, r2.mono e1, q, fun ρ2 st2 σ2 H2 μ2 q2 e2 s2 hw2 => ?_⟩⟩
    exact hk _ _ _ _ _ q2 (e1.trans e2) s2 fun vs hv => (hw2 vs fun w m => hv w (List.mem_append_right _ m)).trans (hw vs fun w m => hv w (List.mem_append_left _ m))
def gTup' (n : Nat) (t : DTGs) : DTG := fun d ρ st Q => match d with | .tup ds => ds.length = n ∧ t ds ρ st Q | _ => False
theorem dg_tup {es : List Expr} {k n : Nat} {ws : List Nat} {t : DTGs} (hc : X.calm = true) (h : PGs X es (liftGs X.K ws t))
    (hn : (assignEach es X.env).length = n := by rfl) (hst : (assignEach es X.env).findIdx? (·.1) = none := by rfl) : DG X ws (.Tuple es k pos) (gTup' n t) :=
  pg_weak (pg_tup hc h hn hst) fun v σ H Q ⟨d, ρ, st, μ, Qd, hS, rv, ht, hk⟩ => by
    cases d with
    | tup ds =>
      obtain ⟨a, vs, rfl, hs, hr⟩ := rv
      exact ⟨a, vs, rfl, hs, by rw [← hr.length]; exact ht.1, ds, ρ, st, μ, Qd, hS, hr, ht.2, hk⟩
    | _ => exact ht.elim
/-- target = value -/
def dAsg (te : DTE) (g : DTG) : DTS := fun E ρ st => te ρ st (fun x st1 => g x ρ st1 E.nx) E.xs
theorem ds_asg {tg : Expr} {g : DTG} {ws : List Nat} (he : DE X W e te) (hg : DG X ws tg g) (hs : swapsWithSole [tg] e pos.line X.env = pure false := by rfl) (hw : swappedStores [tg] e X.env = pure none := by rfl)
    (h1 : (assignEach [tg] X.env).map (·.2) = [assign tg X.env] := by rfl) : DS X W (.Assign [tg] e pos) (dAsg te g) := ps_weak (ps_asg he hg hs hw h1) fun D σ H ⟨ρ, st, μ, DD, hS, ht, hO⟩ =>
  ⟨ρ, st, μ, _, _, hS, ht, fun x st1 H1 μ1 v hx e1 s1 rv => ⟨x, ρ, st1, μ1, _, hS.mono e1 s1, rv, hx, fun ρ' st' σ' H' μ' q e2 s2 _ => hO.nx _ _ _ _ _ q (e1.trans e2) s2⟩, hO.xs⟩
theorem ds_set {i : Nat} {x : Str} {pos' : Pos} (hN : X.N.Nodup) (hi : X.N[i]? = some x) (hx : Loc X.env.scope x) (he : DE X W e te) (hs : swapsWith e (some (.Name x pos')) pos.line X.env = pure false := by rfl) (hf : X.fn x = true ∨ X.env.scope.names.lookup x = some .local := by first | exact .inl rfl | exact .inr rfl | assumption) :
    DS X W (.Assign [.Name x pos'] e pos) (dAsg te (gN i)) := ps_weak (ps_set hN hi hx he hs hf) fun D σ H ⟨ρ, st, μ, DD, hS, ht, hO⟩ =>
  ⟨ρ, st, μ, _, _, hS, ht, fun x st1 H1 μ1 v hx e1 s1 rv => hO.nx _ _ _ _ _ hx e1 ⟨(hS.e.mono e1).set i rv, s1⟩, hO.xs⟩
/-- a, b = x, y by the right sides' values -/
def dPar (i j : Nat) (ta : DTA) : DTS := fun E ρ st => ta ρ st (fun vs st1 => match vs with | [v, w] => E.nx ((ρ.set i (some v)).set j (some w)) st1 | _ => False) E.xs
theorem ds_par {i j : Nat} {x y : Str} {ta : DTA} {px py pt : Pos} {kt k2 : Nat} {pt2 : Pos} (hc : X.calm = true) (hN : X.N.Nodup) (hi : X.N[i]? = some x) (hj : X.N[j]? = some y) (hij : i ≠ j)
    (hx : X.env.scope.names.lookup x = some .local) (hy : X.env.scope.names.lookup y = some .local) (ha : DA X W [a, b] ta)
    (hw : swappedStores [.Tuple [.Name x px, .Name y py] kt pt] (.Tuple [a, b] k2 pt2) X.env = pure (some [x, y]))
    (hs : swapsWithSole [.Tuple [.Name x px, .Name y py] kt pt] (.Tuple [a, b] k2 pt2) pos.line X.env = pure false := by rfl) :
    DS X W (.Assign [.Tuple [.Name x px, .Name y py] kt pt] (.Tuple [a, b] k2 pt2) pos) (dPar i j ta) := ps_weak (ps_par hc hN hi hj hij hx hy ha hw hs) fun D σ H ⟨ρ, st, μ, DD, hS, ht, hO⟩ =>
  ⟨ρ, st, μ, _, _, hS, ht, fun ds st1 H1 μ1 vs hx e1 s1 rv => by
    match ds, hx, rv with
    | [d1, d2], hx, rv =>
      obtain ⟨v, r, rfl, r1, w, r', rfl, r2, rfl⟩ := rv
      exact ⟨v, w, rfl, hO.nx _ _ _ _ _ hx e1 ⟨((hS.e.mono e1).set i r1).set j r2, s1⟩⟩, hO.xs⟩
def dAug (i : Nat) (te : DTE) (dr : D2) : DTS := fun E ρ st => match ρ[i]? with
  | some (some x) => te ρ st (fun y st1 => dr x y st1 fun z st2 => E.nx (ρ.set i (some z)) st2) E.xs
  | _ => False
/-- o[i] = v -/
abbrev D3 := D → D → D → Sto → (Sto → Prop) → Prop
def DSet (K : PySem.W.Frag) (r : TSet) (dr : D3) : Prop :=
  ∀ {H : Hp} {μ : List Addr} {st : Sto} {o i x : D} {vo vi v : V} {Qd : Sto → Prop} {Q : Hp → Prop}, SRep K st μ H → Rep K H μ o vo → Rep K H μ i vi → Rep K H μ x v → dr o i x st Qd →
    (∀ st' H' μ', Qd st' → Ext H H' μ μ' → SRep K st' μ' H' → Q H') → r vo vi v H Q
def gSub' (to ti : DTE) (dr : D3) : DTG := fun d ρ st Q => to ρ st (fun o st1 => ti ρ st1 (fun i st2 => dr o i d st2 fun st3 => Q ρ st3) fun _ _ _ => False) fun _ _ _ => False
def W0 : WX := fun _ _ _ _ => False
theorem ZOk.no {K : PySem.W.Frag} {W : WX} {H : Hp} {μ : List Addr} : ZOk K W (fun _ _ _ => False) H μ := fun _ _ _ _ _ _ _ _ h => h.elim
theorem dg_sub {o i : Expr} {to ti : DTE} {r : TSet} {dr : D3} (ho : DE X W0 o to) (hi : DE X W0 i ti) (hs : PSet X r) (hr : DSet X.K r dr)
    (ha : ∀ v, assign (.Subscript o i pos) X.env v = (do
      let ov ← holding [v] (eval o X.env)
      let iv ← holding [v, ov] (eval i X.env)
      standAt pos
      holding [v, ov, iv] (setItem ov iv v)
      release [v, ov, iv] []) := by intro _; rfl) : DG X [] (.Subscript o i pos) (gSub' to ti dr) := pg_weak (pg_sub ho hi hs ha) fun v σ H Q ⟨d, ρ, st, μ, Qd, hS, rv, ht, hk⟩ =>
  ⟨ρ, st, μ, _, _, hS, ht, fun x st1 H1 μ1 vo hx e1 s1 ro => ⟨ρ, st1, μ1, _, _, hS.mono e1 s1, hx, fun y st2 H2 μ2 vi hy e2 s2 ri =>
    hr s2 (ro.mono e2) ri (rv.mono (e1.trans e2)) hy fun st3 H3 μ3 q e3 s3 => hk _ _ _ _ _ q ((e1.trans e2).trans e3) ⟨hS.e.mono ((e1.trans e2).trans e3), s3⟩ fun _ _ => rfl, ZOk.no⟩, ZOk.no⟩
def dSetL : D3 := fun o i x st Q => match o, i with
  | .loc n, .int k => ∃ ds j, st[n]? = some (.lst ds) ∧ ixN ds.length k = some j ∧ Q (st.set n (.lst (ds.set j x)))
  | _, _ => False
end
end DL
namespace DL
open PySem L2 PySem.Spec
open PyProof.Rows hiding St
variable [TC : TabCtx]
section
variable {X : Cx} {W : WX} {a b c e tg : Expr} {ta tb tc te : DTE} {pos : Pos} {s : Stmt} {rest : List Stmt} {t u : DTS}
structure ItRep (K : PySem.W.Frag) (J : It) (items : List D) (G : Sto → Prop) (H0 : Hp) (μ0 : List Addr) : Prop where
  go : ∀ i H μ st d, Ext H0 H μ0 μ → SRep K st μ H → G st → items[i]? = some d → J.go i H ∧ ∀ x H', J.yld i H x H' → Ext H H' μ μ ∧ SRep K st μ H' ∧ Rep K H' μ d x ∧ (∀ b o, H b = some o → H' b = some o)
  stop : ∀ H μ st, Ext H0 H μ0 μ → SRep K st μ H → G st → J.stop items.length H
abbrev DTI := Env' → Sto → (List D → (Sto → Prop) → Sto → Prop) → DZ → Prop
def liftI (K : PySem.W.Frag) (W : WX) (t : DTI) : TI := fun σ H R => ∃ ρ st μ Qd Z, Stt K ρ st μ σ H ∧ t ρ st Qd Z ∧ ZOk K W Z H μ ∧
  ∀ items G st' H' μ' J, Qd items G st' → Ext H H' μ μ' → SRep K st' μ' H' → ItRep K J items G H' μ' → R J H'
abbrev DI (X : Cx) (W : WX) (tg e : Expr) (t : DTI) : Prop := PI X tg e (liftI X.K W t)
theorem pi_weak {e : Expr} {t u : TI} (h : PI X tg e t) (w : ∀ σ H R, u σ H R → t σ H R) : PI X tg e u := ⟨fun pins s σ H R I q => h.run pins s σ H R I (w σ H R q)⟩
theorem ItRep.tup {K : PySem.W.Frag} {H : Hp} {μ : List Addr} {a : Addr} {ds : List D} {vs : List V} (hs : SqT K H a vs) (hr : Reps K H μ ds vs) : ItRep K (Itt K a) ds (fun _ => True) H μ where
  go i H1 μ1 st d x s _ e := by
    obtain ⟨v, hv, rv⟩ := (hr.mono x).get e
    refine ⟨⟨vs, v, x.sqT hs, hv⟩, fun y H' hy => ?_⟩
    obtain ⟨rfl, hy⟩ := hy
    have := hy vs (x.sqT hs)
    rw [hv] at this; cases this
    exact ⟨Ext.refl _ _, s, rv, fun _ _ h => h⟩
  stop H1 μ1 st x s _ := ⟨vs, x.sqT hs, by rw [hr.length]; exact Nat.le_refl _⟩
theorem ItRep.fls {K : PySem.W.Frag} {H : Hp} {μ : List Addr} {a : Addr} {ds : List D} {vs : List V} (hs : FzL K H a vs) (hr : Reps K H μ ds vs) : ItRep K (Itl K a) ds (fun _ => True) H μ where
  go i H1 μ1 st d x s _ e := by
    obtain ⟨v, hv, rv⟩ := (hr.mono x).get e
    refine ⟨⟨vs, v, (x.fzL hs).sq, hv⟩, fun y H' hy => ?_⟩
    obtain ⟨rfl, hy⟩ := hy
    have := hy vs (x.fzL hs).sq
    rw [hv] at this; cases this
    exact ⟨Ext.refl _ _, s, rv, fun _ _ h => h⟩
  stop H1 μ1 st x s _ := ⟨vs, (x.fzL hs).sq, by rw [hr.length]; exact Nat.le_refl _⟩
theorem ItRep.lst {K : PySem.W.Frag} {H : Hp} {μ : List Addr} {a : Addr} {n : Nat} {ds : List D} (hn : μ[n]? = some a) : ItRep K (Itl K a) ds (fun st => st[n]? = some (.lst ds)) H μ where
  go i H1 μ1 st d x s g e := by
    obtain ⟨a', o, e1, e2, vs, rfl, hr⟩ := s.at' _ _ g
    rw [x.pre n a hn] at e1; cases e1
    obtain ⟨v, hv, rv⟩ := hr.get e
    refine ⟨⟨vs, v, .inl (.inl e2), hv⟩, fun y H' hy => ?_⟩
    obtain ⟨rfl, hy⟩ := hy
    have := hy vs (.inl (.inl e2))
    rw [hv] at this; cases this
    exact ⟨Ext.refl _ _, s, rv, fun _ _ h => h⟩
  stop H1 μ1 st x s g := by
    obtain ⟨a', o, e1, e2, vs, rfl, hr⟩ := s.at' _ _ g
    rw [x.pre n a hn] at e1; cases e1
    exact ⟨vs, .inl (.inl e2), by rw [hr.length]; exact Nat.le_refl _⟩
def strItems (z : Str) : List D := z.cps.toList.map fun c => .str ⟨#[c]⟩
theorem ItRep.str {K : PySem.W.Frag} {H : Hp} {μ : List Addr} {z : Str} : ItRep K (Its z) (strItems z) (fun _ => True) H μ where
  go i H1 μ1 st d x s _ e := by
    have hi : i < z.cps.size := by
      have := (List.getElem?_eq_some_iff.mp e).1
      simpa [strItems] using this
    refine ⟨hi, fun y H' hy => ?_⟩
    obtain ⟨rfl, c, hc, rfl⟩ := hy
    refine ⟨Ext.refl _ _, s, ?_, fun _ _ h => h⟩
    have : z.cps.toList[i]? = some c := by rw [Array.getElem?_toList]; exact hc
    simp [strItems, this] at e
    subst e
    rfl
  stop H1 μ1 st x s _ := by
    show z.cps.size ≤ (strItems z).length
    simp [strItems]
/-- a list, a tuple, a text: by what it is -/
def iSeq (K : PySem.W.Frag) (tl : TE) : TI := fun σ H R => tl σ H fun x H1 => (∃ a, x = .ref a ∧ (∃ xs, SqL K H1 a xs) ∧ R (Itl K a) H1) ∨ (∃ a, x = .ref a ∧ (∃ xs, SqT K H1 a xs) ∧ R (Itt K a) H1) ∨ ∃ z, x = .str z ∧ R (Its z) H1
theorem pi_seq {l : Expr} {tl : TE} (hl : PE X l tl) : PI X tg l (iSeq X.K tl) := by
  refine ⟨fun pins s σ H R I h => ?_⟩
  refine thn (hl.run pins s σ H _ I h) fun v s1 ⟨x, H1, I1, r1, q1⟩ => ?_
  rcases q1 with ⟨a, rfl, ⟨xs, hq⟩, q⟩ | ⟨a, rfl, ⟨xs, hq⟩, q⟩ | ⟨z, rfl, q⟩
  · cases r1
    obtain ⟨its, rv, p, hz⟩ := I1.list hq
    exact wpAny_pyIter_list p.isList (pi_one (tk := s1.toks) I1 _ (turn_list a _) ⟨_, Heap.get?_push_size _ rfl, rfl, rfl⟩ q)
  · cases r1
    obtain ⟨its, rv, p, hz⟩ := I1.tuple hq
    exact wpAny_pyIter_tuple (show s1.heap.IsTuple a its.toArray from p) (pi_one (tk := s1.toks) I1 _ (turn_tuple a _) ⟨_, Heap.get?_push_size _ rfl, rfl, rfl⟩ q)
  · obtain ⟨t, rfl⟩ := r1
    cases ha : z.cps.all (· < 128)
    · exact wpAny_pyIter_wide ha (pi_one (tk := s1.toks) I1 _ (turn_str _ z t "str_iterator" (.inr rfl)) ⟨_, Heap.get?_push_size _ rfl, rfl, rfl⟩ q)
    · exact wpAny_pyIter_ascii ha (pi_one (tk := s1.toks) I1 _ (turn_str _ z t "str_ascii_iterator" (.inl rfl)) ⟨_, Heap.get?_push_size _ rfl, rfl, rfl⟩ q)
/-- what is walked of a value -/
def walkD (st : Sto) : D → (List D → (Sto → Prop) → Prop) → Prop
  | .tup ds, Q => Q ds fun _ => True
  | .fls ds, Q => Q ds fun _ => True
  | .loc n, Q => ∃ ds, st[n]? = some (.lst ds) ∧ Q ds fun st => st[n]? = some (.lst ds)
  | .str z, Q => Q (strItems z) fun _ => True
  | _, _ => False
def iD (te : DTE) : DTI := fun ρ st Q Z => te ρ st (fun x st1 => walkD st1 x fun items G => Q items G st1) Z
theorem di_seq (h : DE X W e te) : DI X W tg e (iD te) := pi_weak (pi_seq h) fun σ H R ⟨ρ, st, μ, Qd, Z, hS, ht, hZ, hk⟩ =>
  ⟨ρ, st, μ, _, Z, hS, ht, fun x st1 H1 μ1 v hx e1 s1 rv => by
    cases x with
    | tup ds =>
      obtain ⟨a, vs, rfl, hs, hr⟩ := rv
      exact .inr (.inl ⟨a, rfl, ⟨vs, hs⟩, hk _ _ _ _ _ _ hx e1 s1 (ItRep.tup hs hr)⟩)
    | fls ds =>
      obtain ⟨a, vs, rfl, hs, hr⟩ := rv
      exact .inl ⟨a, rfl, ⟨vs, hs.sq⟩, hk _ _ _ _ _ _ hx e1 s1 (ItRep.fls hs hr)⟩
    | loc n =>
      obtain ⟨a, rfl, hn⟩ := rv
      obtain ⟨ds, hds, q⟩ := hx
      obtain ⟨a', o, q1, q2, vs, rfl, hr⟩ := s1.at' _ _ hds
      rw [hn] at q1; cases q1
      exact .inl ⟨a, rfl, ⟨vs, .inl (.inl q2)⟩, hk _ _ _ _ _ _ q e1 s1 (ItRep.lst hn)⟩
    | str z =>
      rw [show v = _ from rv]
      exact .inr (.inr ⟨z, rfl, hk _ _ _ _ _ _ hx e1 s1 ItRep.str⟩)
    | _ => exact hx.elim, hZ⟩
/-- range -/
def rngItems (lo : Int) (n : Nat) : List D := (List.range n).map fun (i : Nat) => .int (lo + (i : Int))
theorem ItRep.range {K : PySem.W.Frag} {H : Hp} {μ : List Addr} {lo : Int} {n : Nat} : ItRep K (Itr lo n) (rngItems lo n) (fun _ => True) H μ where
  go i H1 μ1 st d x s _ e := by
    have hi : i < n := by
      have := (List.getElem?_eq_some_iff.mp e).1
      simpa [rngItems] using this
    refine ⟨hi, fun y H' hy => ?_⟩
    obtain ⟨rfl, rfl⟩ := hy
    refine ⟨Ext.refl _ _, s, ?_, fun _ _ h => h⟩
    simp [rngItems, hi] at e
    subst e
    rfl
  stop H1 μ1 st x s _ := by
    show n ≤ (rngItems lo n).length
    simp [rngItems]
def iR1 (ta : DTA) : DTI := fun ρ st Q Z => ta ρ st (fun xs st1 => match xs with | [.int j] => -(2 ^ 62) ≤ j ∧ j < 2 ^ 62 ∧ Q (rngItems 0 j.toNat) (fun _ => True) st1 | _ => False) Z
def iR2 (ta : DTA) : DTI := fun ρ st Q Z => ta ρ st (fun xs st1 => match xs with | [.int i, .int j] => (-(2 ^ 62) ≤ i ∧ i < 2 ^ 62 ∧ -(2 ^ 62) ≤ j ∧ j < 2 ^ 62) ∧ Q (rngItems i (j - i).toNat) (fun _ => True) st1 | _ => False) Z
theorem Reps.ints1 {K : PySem.W.Frag} {H : Hp} {μ : List Addr} {i : Int} {vs : List V} (h : Reps K H μ [.int i] vs) : vs = [.int i] := by
  obtain ⟨v, r, rfl, r1, r2⟩ := h
  rw [show v = _ from r1, show r = _ from r2]
theorem di_range1 {x : Expr} {tx : DTA} {p : Pos} (hg : Gl X "range") (hm : X.mg "range" = none) (ha : DA X W [x] tx) (hs : starEach [x] X.env = [(false, eval x X.env)] := by rfl) : DI X W tg (.Call (.Name "range" p) [x] [] pos) (iR1 tx) :=
  pi_weak (pi_range1 hg hm ha hs) fun σ H R ⟨ρ, st, μ, Qd, Z, hS, ht, hZ, hk⟩ => ⟨ρ, st, μ, _, Z, hS, ht, fun ds st1 H1 μ1 vs hx e1 s1 rv => by
    dsimp only at hx
    split at hx
    · rename_i j
      exact ⟨j, rv.ints1, hx.1, hx.2.1, hk _ _ _ _ _ _ hx.2.2 e1 s1 ItRep.range⟩
    · exact hx.elim, hZ⟩
theorem di_range2 {x y : Expr} {tx : DTA} {p : Pos} (hg : Gl X "range") (hm : X.mg "range" = none) (ha : DA X W [x, y] tx) (hs : starEach [x, y] X.env = [(false, eval x X.env), (false, eval y X.env)] := by rfl) (hs2 : starEach [y] X.env = [(false, eval y X.env)] := by rfl) :
    DI X W tg (.Call (.Name "range" p) [x, y] [] pos) (iR2 tx) :=
  pi_weak (pi_range2 hg hm ha hs hs2) fun σ H R ⟨ρ, st, μ, Qd, Z, hS, ht, hZ, hk⟩ => ⟨ρ, st, μ, _, Z, hS, ht, fun ds st1 H1 μ1 vs hx e1 s1 rv => by
    dsimp only at hx
    split at hx
    · rename_i i j
      obtain ⟨v, r, rfl, r1, w, r', rfl, r2, rfl⟩ := rv
      exact ⟨i, j, by rw [show v = _ from r1, show w = _ from r2], hx.1, hk _ _ _ _ _ _ hx.2 e1 s1 ItRep.range⟩
    · exact hx.elim, hZ⟩
def runG (g : DTG) (body : DTS) (E : DEnds) (G : Sto → Prop) : List D → Env' → Sto → Prop
  | [], ρ, st => G st ∧ E.nx ρ st
  | d :: ds, ρ, st => G st ∧ g d ρ st fun ρ2 st2 => body { E with nx := runG g body E G ds, ct := runG g body E G ds, bk := E.nx } ρ2 st2
theorem drop_at {α : Type} {l : List α} {i : Nat} {x : α} (h : l[i]? = some x) : l.drop i = x :: l.drop (i + 1) := by
  obtain ⟨hi, e⟩ := List.getElem?_eq_some_iff.mp h
  rw [List.drop_eq_getElem_cons hi, e]
theorem for_ex {g : DTG} {body : DTS} {E : DEnds} {G : Sto → Prop} {items : List D} {ρ : Env'} {st : Sto} (h : runG g body E G items ρ st) : ∃ I : Nat → Env' → Sto → Prop, I 0 ρ st ∧ (∀ i ρ st, i ≤ items.length → I i ρ st → G st) ∧
    (∀ i d ρ st, items[i]? = some d → I i ρ st → g d ρ st fun ρ2 st2 => body { E with nx := I (i + 1), ct := I (i + 1), bk := E.nx } ρ2 st2) ∧ ∀ ρ st, I items.length ρ st → E.nx ρ st := by
  refine ⟨fun i => runG g body E G (items.drop i), h, fun i ρ st _ hi => ?_, fun i d ρ st hd hi => ?_, fun ρ st hi => ?_⟩
  · dsimp only at hi
    cases e : items.drop i <;> (rw [e] at hi; exact hi.1)
  · dsimp only at hi
    rw [drop_at hd] at hi
    exact hi.2
  · dsimp only at hi
    rw [List.drop_length] at hi
    exact hi.2
def dFor (it : DTI) (g : DTG) (body : DTS) : DTS := fun E ρ st => it ρ st (fun items G st1 => runG g body E G items ρ st1) E.xs
theorem ds_for {body : List Stmt} {it : DTI} {g : DTG} {ws : List Nat} {tb : DTS} (hp : PassesOwn (model X.prog X.w) X.A X.env X.xe) (hc : X.calm = true) (hi : DI X W tg e it) (hg : DG X ws tg g) (hb : DSs X W body tb)
    (hs : ∀ x, foldedSetIterable e X.env x = pure x := by intro _; rfl) : DS X W (.For tg e body [] pos) (dFor it g tb) := ps_weak (ps_for hp hc hi hg hb hs) fun D σ H ⟨ρ, st, μ, DD, hS, ht, hO⟩ =>
  ⟨ρ, st, μ, _, _, hS, ht, hO.xs, fun items G st1 H1 μ1 J hx e1 s1 hJ => by
    obtain ⟨I, h0, hG, hstep, hend⟩ := for_ex hx
    refine ⟨fun i m σ' H' => m = items.length - i ∧ i ≤ items.length ∧ ∃ ρ' st' μ', I i ρ' st' ∧ Ext H1 H' μ1 μ' ∧ Stt X.K ρ' st' μ' σ' H', ⟨_, rfl, Nat.zero_le _, ρ, st1, μ1, h0, Ext.refl _ _, hS.mono e1 s1⟩, ?_⟩
    rintro i m σ' H' ⟨rfl, hil, ρ', st', μ', hI, e2, s2⟩
    by_cases hlt : i < items.length
    · have hd : items[i]? = some items[i] := List.getElem?_eq_getElem hlt
      obtain ⟨hgo, hy⟩ := hJ.go i H' μ' st' _ e2 s2.s (hG i ρ' st' hil hI) hd
      refine .inr ⟨hgo, fun σ3 H3 => ∃ ρ3 st3 μ3, I (i + 1) ρ3 st3 ∧ Ext H1 H3 μ1 μ3 ∧ Stt X.K ρ3 st3 μ3 σ3 H3, fun σ3 H3 ⟨ρ3, st3, μ3, q1, q2, q3⟩ => ⟨_, by omega, rfl, hlt, ρ3, st3, μ3, q1, q2, q3⟩, fun x H3 hx => ?_⟩
      obtain ⟨e3, s3, r3, _⟩ := hy x H3 hx
      refine ⟨_, ρ', st', μ', _, s2.mono e3 s3, r3, hstep i _ ρ' st' hd hI, fun ρ4 st4 σ4 H4 μ4 q e4 s4 _ => ?_⟩
      refine ⟨ρ4, st4, μ4, _, s4, q, ?_, ?_, ?_, ?_, ?_⟩
      · exact fun ρ5 st5 σ5 H5 μ5 q5 e5 s5 => ⟨ρ5, st5, μ5, q5, ((e2.trans e3).trans e4).trans e5, s5⟩
      · exact hO.rt.mono (((e1.trans e2).trans e3).trans e4)
      · exact hO.nx.mono (((e1.trans e2).trans e3).trans e4)
      · exact fun ρ5 st5 σ5 H5 μ5 q5 e5 s5 => ⟨ρ5, st5, μ5, q5, ((e2.trans e3).trans e4).trans e5, s5⟩
      · exact hO.xs.mono (((e1.trans e2).trans e3).trans e4)
    · have he : i = items.length := by omega
      subst he
      exact .inl ⟨hJ.stop H' μ' st' e2 s2.s (hG _ ρ' st' hil hI), hO.nx _ _ _ _ _ (hend _ _ hI) (e1.trans e2) s2⟩⟩
end
end DL
namespace DL
open PySem L2 PySem.Spec
open PyProof.Rows hiding St
variable [TC : TabCtx]
section
variable {X : Cx} {W : WX} {a b c e tg : Expr} {ta tb tc te : DTE} {pos : Pos} {s : Stmt} {rest : List Stmt} {t u : DTS}
abbrev Z0 : DZ := fun _ _ _ => False
theorem pts_weak {ifs : List Expr} {t u : TT} (h : PTs X ifs t) (w : ∀ σ H Q, u σ H Q → t σ H Q) : PTs X ifs u := ⟨fun pins s σ H Q I q => h.run pins s σ H Q I (w σ H Q q)⟩
def dYes : DTT := fun _ st Q _ => Q true st
theorem dts_nil : PTs X [] (liftT X.K W0 dYes) := pts_weak pts_nil fun σ H Q ⟨ρ, st, μ, Qd, Z, hS, ht, hQ, hZ⟩ => hQ _ _ _ _ ht (Ext.refl _ _) hS.s
theorem dts_one {c : Expr} {t : DTT} (h : DT X W0 c t) : PTs X [c] (liftT X.K W0 t) := pts_one h
def runC (g : DTG) (tt : DTT) (te : DTE) (ρ : Env') (Q : DK) (G : Sto → Prop) : List D → List D → Sto → Prop
  | [], acc, st => G st ∧ Q (.loc st.length) (st ++ [.lst acc])
  | d :: ds, acc, st => G st ∧ g d ρ st fun ρ2 st2 => tt ρ2 st2 (fun b st3 => if b = true then te ρ2 st3 (fun y st4 => acc.length < sizeLine ∧ runC g tt te ρ Q G ds (acc ++ [y]) st4) Z0 else runC g tt te ρ Q G ds acc st3) Z0
theorem lc_ex {g : DTG} {tt : DTT} {te : DTE} {Q : DK} {G : Sto → Prop} {items : List D} {ρ : Env'} {st : Sto} (h : runC g tt te ρ Q G items [] st) : ∃ I : Nat → List D → Sto → Prop, I 0 [] st ∧ (∀ i acc st, i ≤ items.length → I i acc st → G st) ∧
    (∀ i d acc st, items[i]? = some d → I i acc st → g d ρ st fun ρ2 st2 => tt ρ2 st2 (fun b st3 => if b = true then te ρ2 st3 (fun y st4 => acc.length < sizeLine ∧ I (i + 1) (acc ++ [y]) st4) Z0 else I (i + 1) acc st3) Z0) ∧
    ∀ acc st, I items.length acc st → Q (.loc st.length) (st ++ [.lst acc]) := by
  refine ⟨fun i => runC g tt te ρ Q G (items.drop i), h, fun i acc st _ hi => ?_, fun i d acc st hd hi => ?_, fun acc st hi => ?_⟩
  · dsimp only at hi
    cases e : items.drop i <;> (rw [e] at hi; exact hi.1)
  · dsimp only at hi
    rw [drop_at hd] at hi
    exact hi.2
  · dsimp only at hi
    rw [List.drop_length] at hi
    exact hi.2
def dLc (it : DTI) (g : DTG) (tt : DTT) (te : DTE) (own : List Nat) : DTE := fun ρ st Q Z => it ρ st (fun items G st1 => runC g tt te (wipeD ρ own) Q G items [] st1) Z
theorem Ext.keep {H H' : Hp} {μ μ' : List Addr} (x : Ext H H' μ μ') {a : Addr} {xs : List V} (h : H a = some (.lst xs)) (hm : a ∉ μ) : H' a = some (.lst xs) ∧ a ∉ μ' := ⟨x.fra a _ h hm (fun _ z => nomatch z), fun z => by
  rcases x.new a z with q | q
  · exact hm q
  · obtain ⟨ps, e⟩ := q _ h
    cases e⟩
/-- the list D outside the store is written -/
theorem Ext.out {H0 H : Hp} {μ0 μ : List Addr} {D : Addr} (x : Ext H0 H μ0 μ) (h0 : H0 D = none) (u : HO) : Ext H0 (upd H D u) μ0 μ where
  pre := x.pre
  tup a zs q := by
    rw [upd_ne (ne_of_none q h0)]
    exact x.tup a zs q
  frz a o zs q := by
    rw [upd_ne (ne_of_none q h0)]
    exact x.frz a o zs q
  fra a o q hn hp := by
    rw [upd_ne (ne_of_none q h0)]
    exact x.fra a o q hn hp
  new := x.new
theorem Ext0.out {H : Hp} {μ : List Addr} {D : Addr} {xs : List V} (h : H D = some (.lst xs)) (u : HO) : Ext0 H (upd H D u) μ μ := ⟨fun _ _ q => q, fun a zs q => by
  rw [upd_ne (fun z => by rw [z, h] at q; cases q)]; exact q, fun a o zs q => by
  rw [upd_ne (fun z => by rw [z, h] at q; cases q)]; exact q⟩
theorem SRep.out {K : PySem.W.Frag} {st : Sto} {μ : List Addr} {H : Hp} (s : SRep K st μ H) {D : Addr} (hm : D ∉ μ) {xs : List V} (h : H D = some (.lst xs)) (u : HO) : SRep K st μ (upd H D u) := by
  refine ⟨s.len, s.nd, fun n b e => ?_, tabs_upd s.tab (fun o q => by rw [h] at q; cases q; exact ⟨fun _ z => (nomatch z), fun _ z => (nomatch z)⟩), fun q hq => ?_⟩
  case refine_2 =>
    obtain ⟨hn, gs, e, r1, r2⟩ := s.exc q hq
    exact ⟨hn, gs, by rw [upd_ne (fun z => by rw [z, h] at e; cases e)]; exact e, r1, r2.mono0 (Ext0.out h u)⟩
  obtain ⟨a, o, e1, e2, r⟩ := s.at' n b e
  have hne : a ≠ D := fun z => hm (z ▸ List.mem_of_getElem? e1)
  exact ⟨a, o, e1, by rw [upd_ne hne]; exact e2, r.mono0 (Ext0.out h u)⟩
/-- a thing that stood apart is taken into the store -/
theorem SRep.adopt {K : PySem.W.Frag} {st : Sto} {μ : List Addr} {H : Hp} (s : SRep K st μ H) {p : Addr} {o : HO} {b : Ob} (hm : p ∉ μ) (h : H p = some o) (r : ORep K H μ b o) : SRep K (st ++ [b]) (μ ++ [p]) H := by
  have x0 : Ext0 H H μ (μ ++ [p]) := ⟨fun n a q => by rw [List.getElem?_append_left (List.getElem?_eq_some_iff.mp q).1]; exact q, fun _ _ q => q, fun _ _ _ q => q⟩
  refine ⟨by simp [s.len], ?_, fun n c e => ?_, s.tab, fun q hq => ?_⟩
  case refine_3 =>
    obtain ⟨hn, gs, e, r1, r2⟩ := s.exc q hq
    refine ⟨fun z => ?_, gs, e, r1, r2.mono0 x0⟩
    rcases List.mem_append.mp z with z | z
    · exact hn z
    · rw [List.mem_singleton.mp z, h] at e
      cases e
      cases b with
      | lst ds => obtain ⟨vs, z, _⟩ := r; cases z
      | ins C fs => obtain ⟨dx, gs, z, _⟩ := r; cases z
      | dK fs => obtain ⟨gs, z, _⟩ := r; cases z
      | err e C d => have z : HO.xd _ = HO.ext _ := r; cases z
      | xdt dx fs => obtain ⟨gs, z, _⟩ := r; have z' : HO.xd _ = HO.ext _ := z; cases z'
      | dkF od fs => obtain ⟨gs, z, _⟩ := r; cases z
  · refine List.nodup_append.mpr ⟨s.nd, by simp, fun a ha b hb => ?_⟩
    rw [List.mem_singleton.mp hb]
    intro e
    exact hm (e ▸ ha)
  · by_cases hn : n < st.length
    · rw [List.getElem?_append_left hn] at e
      obtain ⟨a, ob, e1, e2, r2⟩ := s.at' n c e
      exact ⟨a, ob, x0.pre n a e1, e2, r2.mono0 x0⟩
    · have hn' : n = st.length := by
        have := (List.getElem?_eq_some_iff.mp e).1
        simp at this
        omega
      subst hn'
      rw [List.getElem?_append_right (Nat.le_refl _)] at e
      simp at e
      subst e
      refine ⟨p, o, ?_, h, r.mono0 x0⟩
      rw [s.len, List.getElem?_append_right (Nat.le_refl _)]
      simp
theorem wipe_at (σ : St) (i : Nat) : ∀ vs : List Nat, (wipe σ vs)[i]? = if i ∈ vs then (if i < σ.length then some none else none) else σ[i]?
  | [] => by simp [wipe]
  | v :: vs => by
    unfold wipe
    by_cases h : v = i
    · subst h
      rw [List.getElem?_set]
      simp [wipe_length]
    · rw [List.getElem?_set_ne h, wipe_at σ i vs]
      have : (i ∈ v :: vs) ↔ i ∈ vs := by
        simp [Ne.symm h]
      simp [this]
theorem wipe_idem (σ : St) (vs : List Nat) : wipe (wipe σ vs) vs = wipe σ vs := by
  refine List.ext_getElem? fun i => ?_
  rw [wipe_at, wipe_at, wipe_length]
  by_cases h : i ∈ vs <;> simp [h]
section
variable {ifs : List Expr} {scope : Scope} {own : List (Str × Nat)} {it : DTI} {g : DTG} {ws : List Nat} {tt : DTT}
theorem lc_lift {K : PySem.W.Frag} {elt : Expr} (hw : ∀ w ∈ ws, w ∈ own.map (·.2)) (σ : St) (H : Hp) (Q : VK) (h : liftE K W (dLc it g tt te (own.map (·.2))) σ H Q) :
    tLc (liftI K W it) (liftG K ws g) (liftT K W0 tt) (liftE K W0 te) (own.map (·.2)) σ H Q := by
  obtain ⟨ρ, st, μ, Qd, Z, hS, ht, hQ, hZ⟩ := h
  refine ⟨ρ, st, μ, _, Z, hS, ht, hZ, fun items G st1 H1 μ1 J hx e1 s1 hJ D hD => ?_⟩
  obtain ⟨I, h0, hG, hstep, hend⟩ := lc_ex hx
  refine ⟨fun i m H' => m = items.length - i ∧ i ≤ items.length ∧ ∃ acc va st' μ', I i acc st' ∧ Ext H1 H' μ1 μ' ∧ SRep K st' μ' H' ∧ Reps K H' μ' acc va ∧ H' D = some (.lst va) ∧ D ∉ μ',
    ⟨_, rfl, Nat.zero_le _, [], [], st1, μ1, h0, Ext.laid hD, s1.laid hD, rfl, upd_same, s1.not_mem hD⟩, ?_⟩
  rintro i m H' ⟨rfl, hil, acc, va, st', μ', hI, e2, s2, r2, d2, n2⟩
  by_cases hlt : i < items.length
  · have hd : items[i]? = some items[i] := List.getElem?_eq_getElem hlt
    obtain ⟨hgo, hy⟩ := hJ.go i H' μ' st' _ e2 s2 (hG i acc st' hil hI) hd
    refine .inr ⟨hgo, fun H3 => ∃ acc va st' μ', I (i + 1) acc st' ∧ Ext H1 H3 μ1 μ' ∧ SRep K st' μ' H3 ∧ Reps K H3 μ' acc va ∧ H3 D = some (.lst va) ∧ D ∉ μ', fun H3 q => ⟨_, by omega, rfl, hlt, q⟩, fun x H3 hx => ?_⟩
    obtain ⟨e3, s3, r3, _⟩ := hy x H3 hx
    obtain ⟨d3, n3⟩ := e3.keep d2 n2
    refine ⟨_, wipeD ρ (own.map (·.2)), st', μ', _, ⟨(hS.e.mono ((e1.trans e2).trans e3)).wipe _, s3⟩, r3, hstep i _ acc st' hd hI, fun ρ4 st4 σ4 H4 μ4 q e4 s4 hw4 => ?_⟩
    obtain ⟨d4, n4⟩ := e4.keep d3 n3
    refine ⟨(hw4 _ hw).trans (wipe_idem _ _), ρ4, st4, μ4, _, Z0, s4, q, fun k st5 H5 μ5 q5 e5 s5 => ?_, ZOk.no⟩
    obtain ⟨d5, n5⟩ := e5.keep d4 n4
    cases k with
    | true =>
      refine iteT ⟨ρ4, st5, μ5, _, Z0, s4.mono e5 s5, q5, fun y st6 H6 μ6 v q6 e6 s6 r6 => ?_, ZOk.no⟩
      obtain ⟨d6, n6⟩ := e6.keep d5 n5
      have ex : Ext H' H6 μ' μ6 := ((e3.trans e4).trans e5).trans e6
      have ra := r2.mono ex
      have x0 : Ext0 H6 (upd H6 D (.lst (va ++ [v]))) μ6 μ6 := Ext0.out d6 _
      exact ⟨va, d6, by rw [← r2.length]; exact q6.1, acc ++ [y], va ++ [v], st6, μ6, q6.2, (e2.trans ex).out hD _, s6.out n6 d6 _, (ra.append (Reps.one r6)).mono0 x0, upd_same, n6⟩
    | false =>
      have ex : Ext H' H5 μ' μ5 := (e3.trans e4).trans e5
      exact iteF ⟨acc, va, st5, μ5, q5, e2.trans ex, s5, r2.mono ex, d5, n5⟩
  · have he : i = items.length := by omega
    subst he
    refine .inl ⟨hJ.stop H' μ' st' e2 s2 (hG _ acc st' hil hI), ?_⟩
    refine hQ _ _ _ _ _ (hend _ _ hI) (e1.trans ⟨⟨fun n a q => ?_, e2.tup, e2.frz⟩, e2.fra, fun a q => ?_⟩) (s2.adopt n2 d2 ⟨va, rfl, r2⟩) ⟨D, rfl, by rw [s2.len]; exact getElem?_end _ _⟩
    · have := e2.pre n a q
      rw [List.getElem?_append_left (List.getElem?_eq_some_iff.mp this).1]; exact this
    · rcases List.mem_append.mp q with q | q
      · exact e2.new a q
      · rw [List.mem_singleton.mp q]; exact .inr fun o q => by rw [hD] at q; cases q
theorem de_lc {elt : Expr} (hc : X.calm = true) (hN : X.N.Nodup) (hi : DI X W tg e it) (ok : BlkOk X.N X.env.scope scope own) (hw : ∀ w ∈ ws, w ∈ own.map (·.2))
    (hg : ∀ (s : Shared) (H : Hp) (C : Addr) (cl : List (Str × Addr)) (fp : List Addr), DG (X.blk s H scope (compEnvC scope cl C X.env) fp) ws tg g) (ht : ∀ (s : Shared) (H : Hp) (C : Addr) (cl : List (Str × Addr)) (fp : List Addr), PTs (X.blk s H scope (compEnvC scope cl C X.env) fp) ifs (liftT X.K W0 tt))
    (he : ∀ (s : Shared) (H : Hp) (C : Addr) (cl : List (Str × Addr)) (fp : List Addr), DE (X.blk s H scope (compEnvC scope cl C X.env) fp) W0 elt te) (hs : ∀ x, foldedSetIterable e X.env x = pure x := by intro _; rfl) :
    DE X W (.ListComp elt [⟨tg, e, ifs, 0⟩] scope pos) (dLc it g tt te (own.map (·.2))) := pe_weak (pe_lc hc hN hi ok hg ht he hs) fun σ H Q h => lc_lift (elt := elt) hw σ H Q h
theorem ds_setLc {elt : Expr} {i : Nat} {y : Str} {py spos : Pos} (hc : X.calm = true) (hN : X.N.Nodup) (hy : X.N[i]? = some y) (hyl : X.env.scope.names.lookup y = some .local)
    (hsw : swapsWith (.ListComp elt [⟨tg, e, ifs, 0⟩] scope pos) (some (.Name y py)) spos.line X.env = pure true) (hi : DI X W tg e it) (ok : BlkOk X.N X.env.scope scope own) (hw : ∀ w ∈ ws, w ∈ own.map (·.2))
    (hg : ∀ (s : Shared) (H : Hp) (C : Addr) (cl : List (Str × Addr)) (fp : List Addr), DG (X.blk s H scope (compEnvC scope cl C X.env) fp) ws tg g) (ht : ∀ (s : Shared) (H : Hp) (C : Addr) (cl : List (Str × Addr)) (fp : List Addr), PTs (X.blk s H scope (compEnvC scope cl C X.env) fp) ifs (liftT X.K W0 tt))
    (he : ∀ (s : Shared) (H : Hp) (C : Addr) (cl : List (Str × Addr)) (fp : List Addr), DE (X.blk s H scope (compEnvC scope cl C X.env) fp) W0 elt te) (hs : ∀ x, foldedSetIterable e X.env x = pure x := by intro _; rfl) :
    DS X W (.Assign [.Name y py] (.ListComp elt [⟨tg, e, ifs, 0⟩] scope pos) spos) (dAsg (dLc it g tt te (own.map (·.2))) (gN i)) := ps_weak (ps_setLc hc hN hy hyl hsw hi ok hg ht he hs) fun D σ H ⟨ρ, st, μ, DD, hS, ht, hO⟩ =>
  lc_lift (elt := elt) (W := W) hw σ H _ ⟨ρ, st, μ, _, _, hS, ht, fun x st1 H1 μ1 v hx e1 s1 rv => hO.nx _ _ _ _ _ hx e1 ⟨(hS.e.mono e1).set i rv, s1⟩, hO.xs⟩
end
end
end DL
namespace DL
open PySem L2 PySem.Spec
open PyProof.Rows hiding St
variable [TC : TabCtx]
mutual
def D.blw (n : Nat) : D → Bool
  | .loc m => m < n
  | .tup ds => D.blws n ds
  | .fls ds => D.blws n ds
  | _ => true
def D.blws (n : Nat) : List D → Bool
  | [] => true
  | d :: ds => D.blw n d && D.blws n ds
end
def Ob.below (n : Nat) : Ob → Bool
  | .lst ds => D.blws n ds
  | .ins _ fs => D.blws n (fs.map (·.2))
  | .dK kvs => D.blws n (kvs.map (·.2))
  | .err _ _ _ => true
  | .xdt _ fs => D.blws n (fs.map (·.2))
  | .dkF _ fs => D.blws n (fs.map (·.2))
section
variable {K : PySem.W.Frag} {H H' : Hp} {μ : List Addr}
mutual
theorem Rep.cut {n : Nat} {ν : List Addr} (h : ∀ m, m < n → ν[m]? = μ[m]?) : ∀ {d : D} {v : V}, D.blw n d = true → Rep K H μ d v → Rep K H ν d v
  | .non, _, _, r => r
  | .bl _, _, _, r => r
  | .int _, _, _, r => r
  | .str _, _, _, r => r
  | .tup ds, _, b, r => by
    obtain ⟨a, vs, e, s, q⟩ := r
    exact ⟨a, vs, e, s, Reps.cut h b q⟩
  | .fls ds, _, b, r => by
    obtain ⟨a, vs, e, s, q⟩ := r
    exact ⟨a, vs, e, s, Reps.cut h b q⟩
  | .loc m, _, b, r => by
    obtain ⟨a, e, q⟩ := r
    exact ⟨a, e, by rw [h m (by simpa [D.blw] using b)]; exact q⟩
  | .adr _, _, _, r => r
  | .ty _, _, _, r => r
theorem Reps.cut {n : Nat} {ν : List Addr} (h : ∀ m, m < n → ν[m]? = μ[m]?) : ∀ {ds : List D} {vs : List V}, D.blws n ds = true → Reps K H μ ds vs → Reps K H ν ds vs
  | [], _, _, r => r
  | d :: ds, _, b, r => by
    obtain ⟨v, r', e, h1, h2⟩ := r
    simp only [D.blws, Bool.and_eq_true] at b
    exact ⟨v, r', e, Rep.cut h b.1 h1, Reps.cut h b.2 h2⟩
end
mutual
/-- what is told in μ names places of μ alone -/
theorem Rep.below : ∀ {d : D} {v : V}, Rep K H μ d v → D.blw μ.length d = true
  | .non, _, _ => rfl
  | .bl _, _, _ => rfl
  | .int _, _, _ => rfl
  | .str _, _, _ => rfl
  | .tup ds, _, r => by
    obtain ⟨a, vs, e, s, q⟩ := r
    exact Reps.below q
  | .fls ds, _, r => by
    obtain ⟨a, vs, e, s, q⟩ := r
    exact Reps.below q
  | .loc m, _, r => by
    obtain ⟨a, e, q⟩ := r
    simpa [D.blw] using (List.getElem?_eq_some_iff.mp q).1
  | .adr _, _, _ => rfl
  | .ty _, _, _ => rfl
theorem Reps.below : ∀ {ds : List D} {vs : List V}, Reps K H μ ds vs → D.blws μ.length ds = true
  | [], _, _ => rfl
  | d :: ds, _, r => by
    obtain ⟨v, r', e, h1, h2⟩ := r
    simp only [D.blws, Bool.and_eq_true]
    exact ⟨Rep.below h1, Reps.below h2⟩
end
theorem ORep.cut {n : Nat} {ν : List Addr} (h : ∀ m, m < n → ν[m]? = μ[m]?) : ∀ {b : Ob} {o : HO}, Ob.below n b = true → ORep K H μ b o → ORep K H ν b o
  | .lst ds, _, b, r => by obtain ⟨vs, e, q⟩ := r; exact ⟨vs, e, q.cut h b⟩
  | .ins C fs, _, b, r => by obtain ⟨dx, gs, e, q1, q2⟩ := r; exact ⟨dx, gs, e, q1, q2.cut h b⟩
  | .dK fs, _, b, r => by obtain ⟨gs, e, q1, q2⟩ := r; exact ⟨gs, e, q1, q2.cut h b⟩
  | .err _ _ _, _, b, r => r
  | .xdt dx fs, _, b, r => by obtain ⟨gs, e, q1, q2⟩ := r; exact ⟨gs, e, q1, q2.cut h b⟩
  | .dkF od fs, _, b, r => by obtain ⟨gs, e, q1, q2⟩ := r; exact ⟨gs, e, q1, q2.cut h b⟩
theorem ORep.below : ∀ {b : Ob} {o : HO}, ORep K H μ b o → Ob.below μ.length b = true
  | .lst ds, _, r => by obtain ⟨vs, e, q⟩ := r; exact q.below
  | .ins C fs, _, r => by obtain ⟨dx, gs, e, q1, q2⟩ := r; exact q2.below
  | .dK fs, _, r => by obtain ⟨gs, e, q1, q2⟩ := r; exact q2.below
  | .err _ _ _, _, r => rfl
  | .xdt dx fs, _, r => by obtain ⟨gs, e, q1, q2⟩ := r; exact q2.below
  | .dkF od fs, _, r => by obtain ⟨gs, e, q1, q2⟩ := r; exact q2.below
/-- the store's things hang on the store alone -/
theorem SRep.below {st : Sto} (s : SRep K st μ H) {b : Ob} (h : b ∈ st) : Ob.below st.length b = true := by
  obtain ⟨n, e⟩ := List.mem_iff_getElem?.mp h
  obtain ⟨a, o, _, _, r⟩ := s.at' n b e
  rw [s.len]
  exact r.below
abbrev DSp := List D → Sto → DK → (DX → Sto → Prop) → Prop
def XOk (K : PySem.W.Frag) (Z : DX → Sto → Prop) (E : XK) (H : Hp) (μ : List Addr) : Prop :=
  ∀ x st' H' μ' c dx, Z x st' → Ext H H' μ μ' → SRep K st' μ' H' → XRep K H' μ' x c dx → E c dx H'
def liftSp (K : PySem.W.Frag) (n : Nat) (dsp : DSp) : Sp := fun vs H Q E => vs.length = n ∧ ∃ ds st μ Qd Z, Reps K H μ ds vs ∧ SRep K st μ H ∧ dsp ds st Qd Z ∧ EOk K Qd Q H μ ∧ XOk K Z E H μ
/-- the def of that name keeps its promise, at most k levels deep -/
def Has (P : Program) (w : World) (K : PySem.W.Frag) (mg : Str → Option Value) (base : Heap) (k : Nat) (x : Str) (n : Nat) (dsp : DSp) : Prop :=
  ∃ f fd ps, FnOk P w K mg base (L2.CX P w) k f fd ps (liftSp K n dsp) ∧ mg x = some (.ref f) ∧ PySem.W.keepIn K (.ref f) = true ∧ Binds K fd ps []
theorem Has.mono {P : Program} {w : World} {mg : Str → Option Value} {base : Heap} {j k : Nat} {x : Str} {n : Nat} {dsp : DSp} (h : Has P w K mg base j x n dsp) (hk : j ≤ k) : Has P w K mg base k x n dsp := by
  obtain ⟨f, fd, ps, F, r⟩ := h
  exact ⟨f, fd, ps, F.mono hk, r⟩
/-- a weaker promise -/
theorem Has.imp {P : Program} {w : World} {mg : Str → Option Value} {base : Heap} {k : Nat} {x : Str} {n : Nat} {dsp dsp' : DSp} (h : Has P w K mg base k x n dsp) (hi : ∀ ds st Q Z, dsp' ds st Q Z → dsp ds st Q Z) : Has P w K mg base k x n dsp' := by
  obtain ⟨f, fd, ps, F, r⟩ := h
  refine ⟨f, fd, ps, F.imp fun vs H Q E q => ?_, r⟩
  obtain ⟨q0, ds, st, μ, Qd, Z, q1, q2, q3, q4, q5⟩ := q
  exact ⟨q0, ds, st, μ, Qd, Z, q1, q2, hi _ _ _ _ q3, q4, q5⟩
end
section
variable {X : Cx} {W : WX} {e : Expr} {es : List Expr} {pos p : Pos} {x : Str} {k n : Nat} {dsp : DSp} {t : DTA}
def dCall (n : Nat) (dsp : DSp) (t : DTA) : DTE := fun ρ st Q Z => t ρ st (fun ds st1 => ds.length = n ∧ dsp ds st1 Q fun x st2 => Z x ρ st2) Z
def Pas (X : Cx) (W : WX) : Prop := ∀ σ, PassesAt (L2.CX X.prog X.w) X σ (WE W σ)
theorem pas0 {X : Cx} : Pas X W0 := fun σ _ _ _ _ _ _ h => by
  obtain ⟨_, _, _, _, _, _, _, _, _, _, _, _, z⟩ := h
  exact z.elim
theorem pasT {X : Cx} {W : WX} (tk : Takes X W) : Pas X W := fun σ => passAt tk σ
theorem XOk.of {K : PySem.W.Frag} {W : WX} {Z : DZ} {H H1 : Hp} {μ μ1 : List Addr} {ρ : Env'} {st : Sto} {σ : St} (hS : Stt K ρ st μ σ H) (z : ZOk K W Z H μ) (e1 : Ext H H1 μ μ1) : XOk K (fun x st2 => Z x ρ st2) (WE W σ) H1 μ1 :=
  fun x st' H' μ' c dx q e s r => z _ _ _ _ _ _ _ _ q (e1.trans e) (hS.mono (e1.trans e) s) r
theorem de_call (F : Has X.prog X.w X.K X.mg X.base k x n dsp) (hr : Room k X.A) (hg : Gl X x) (hx : Pas X W) (ha : DA X W (e :: es) t)
    (hdb : (x == ("__debug__" : Str)) = false := by decide) (he : starEach (e :: es) X.env = (false, eval e X.env) :: starEach es X.env := by rfl) (hpl : (backTo pos (starEach es X.env)).any (·.1) = false := by rfl) :
    DE X W (.Call (.Name x p) (e :: es) [] pos) (dCall n dsp t) := by
  obtain ⟨f, fd, ps, F, hm, hk, hb⟩ := F
  refine pe_weak (pe_callS F hr hg hm hk hb hx ha hdb he hpl) fun σ H Q ⟨ρ, st, μ, Qd, Z, hS, ht, hQ, hZ⟩ => ?_
  exact ⟨ρ, st, μ, _, Z, hS, ht, fun ds st1 H1 μ1 vs hx e1 s1 rv => ⟨by rw [← rv.length]; exact hx.1, ds, st1, μ1, Qd, _, rv, s1, hx.2, hQ.mono e1, XOk.of hS hZ e1⟩, hZ⟩
end
/-- what is given back, what else the body made being forgotten -/
def Back (st : Sto) (Q : DK) : DK := fun d st' => Q d st' ∨ ∃ st1 g, st' = st1 ++ g ∧ st1.length = st.length ∧ (∀ b ∈ st1, b ∈ st ∨ Ob.below st.length b = true) ∧
  ((D.blw st.length d = true ∧ Q d st1) ∨ ∃ m ds, d = .loc m ∧ st'[m]? = some (.lst ds) ∧ st.length ≤ m ∧ D.blws st.length ds = true ∧ Q (.loc st.length) (st1 ++ [.lst ds]))
def BackX (st : Sto) (Z : DX → Sto → Prop) : DX → Sto → Prop := fun x st' => Z x st' ∨ ∃ st1 g, st' = st1 ++ g ∧ st1.length = st.length ∧ (∀ b ∈ st1, b ∈ st ∨ Ob.below st.length b = true) ∧ D.blws st.length (x.fs.map (·.2)) = true ∧ Z x st1
section
variable {K : PySem.W.Frag} {H H' : Hp} {μ μ' : List Addr} {st st' st1 g : Sto}
theorem Back.store (s0 : SRep K st μ H) (e : Ext H H' μ μ') (s : SRep K (st1 ++ g) μ' H') (hl : st1.length = st.length) (hb : ∀ b ∈ st1, b ∈ st ∨ Ob.below st.length b = true) : SRep K st1 μ H' ∧ Ext H H' μ μ := by
  have hpre : ∀ m, m < st.length → μ[m]? = μ'[m]? := fun m hm => by
    have h1 : m < μ.length := by rw [← s0.len]; exact hm
    rw [List.getElem?_eq_getElem h1]
    exact (e.pre m _ (List.getElem?_eq_getElem h1)).symm
  have e1 : Ext H H' μ μ := ⟨⟨fun _ _ q => q, e.tup, e.frz⟩, e.fra, fun a q => .inl q⟩
  refine ⟨⟨by rw [hl, s0.len], s0.nd, fun n b q => ?_, s.tab, s0.exc.ext e1⟩, e1⟩
  have hn : n < st1.length := (List.getElem?_eq_some_iff.mp q).1
  obtain ⟨a, o, e1, e2, r⟩ := s.at' n b (by rw [List.getElem?_append_left hn]; exact q)
  have hbl : Ob.below st.length b = true := by
    rcases hb b (List.mem_of_getElem? q) with z | z
    · exact s0.below z
    · exact z
  exact ⟨a, o, by rw [hpre n (by omega)]; exact e1, e2, r.cut hpre hbl⟩
theorem Back.ok {Qd : DK} {Q : VK} (s0 : SRep K st μ H) (hQ : EOk K Qd Q H μ) : EOk K (Back st Qd) Q H μ := fun d st' H' μ' v h e s r => by
  rcases h with h | ⟨st1, g, rfl, hl, hb, h⟩
  · exact hQ _ _ _ _ _ h e s r
  · obtain ⟨s1, e1⟩ := Back.store s0 e s hl hb
    have hpre : ∀ m, m < st.length → μ[m]? = μ'[m]? := fun m hm => by
      have h1 : m < μ.length := by rw [← s0.len]; exact hm
      rw [List.getElem?_eq_getElem h1]
      exact (e.pre m _ (List.getElem?_eq_getElem h1)).symm
    rcases h with ⟨hd, h⟩ | ⟨m, ds, rfl, hm, hge, hds, h⟩
    · exact hQ _ _ _ _ _ h e1 s1 (r.cut hpre hd)
    · obtain ⟨a, rfl, ha⟩ := r
      obtain ⟨a', o, q1, q2, vs, rfl, hr⟩ := s.at' m _ hm
      rw [ha] at q1; cases q1
      have hna : a ∉ μ := fun z => by
        obtain ⟨i, hi⟩ := List.mem_iff_getElem?.mp z
        have hi' : i < μ.length := (List.getElem?_eq_some_iff.mp hi).1
        have := nd_ix s.nd (e.pre i a hi) ha
        rw [← s0.len] at hi'
        omega
      have hn : ∀ o, H a = some o → ∃ ps, o = .tbl ps := by
        rcases e.new a (List.mem_of_getElem? ha) with z | z
        · exact absurd z hna
        · exact z
      have x0 : Ext0 H' H' μ (μ ++ [a]) := ⟨fun n b q => by rw [List.getElem?_append_left (List.getElem?_eq_some_iff.mp q).1]; exact q, fun _ _ q => q, fun _ _ _ q => q⟩
      refine hQ _ _ H' (μ ++ [a]) _ h ⟨⟨fun n b q => x0.pre n b q, e.tup, e.frz⟩, e.fra, fun b q => ?_⟩ (s1.adopt hna q2 ⟨vs, rfl, hr.cut hpre hds⟩) ⟨a, rfl, by rw [s0.len]; exact getElem?_end _ _⟩
      rcases List.mem_append.mp q with q | q
      · exact .inl q
      · rw [List.mem_singleton.mp q]; exact .inr hn
theorem BackX.ok {Z : DX → Sto → Prop} {E : XK} (s0 : SRep K st μ H) (hZ : XOk K Z E H μ) : XOk K (BackX st Z) E H μ := fun x st' H' μ' c dx h e s r => by
  rcases h with h | ⟨st1, g, rfl, hl, hb, hx, h⟩
  · exact hZ _ _ _ _ _ _ h e s r
  · obtain ⟨s1, e1⟩ := Back.store s0 e s hl hb
    have hpre : ∀ m, m < st.length → μ[m]? = μ'[m]? := fun m hm => by
      have h1 : m < μ.length := by rw [← s0.len]; exact hm
      rw [List.getElem?_eq_getElem h1]
      exact (e.pre m _ (List.getElem?_eq_getElem h1)).symm
    refine hZ _ _ _ _ _ _ h e1 s1 ⟨r.1, ?_⟩
    rcases r.2 with r2 | ⟨d, gs, r2, r3, r4, r5⟩
    · exact .inl r2
    · exact .inr ⟨d, gs, r2, r3, r4, r5.cut hpre hx⟩
end
/-- where a def of the text stands -/
def DefIn (K : PySem.W.Frag) (mg : Str → Option Value) (x : Str) (s : Stmt) (ps : List Str) : Prop := ∃ f fd, Fun K x x s f fd ∧ mg x = some (.ref f) ∧ Binds K fd ps []
def startD (N : List Str) (ds : List D) : Env' := ds.map some ++ List.replicate (N.length - ds.length) none
theorem start_rep {K : PySem.W.Frag} {H : Hp} {μ : List Addr} {ds : List D} {vs : List V} (N : List Str) (r : Reps K H μ ds vs) : ERep K H μ (startD N ds) (L2.start N vs) := by
  have hl := r.length
  refine ⟨by simp [startD, L2.start, hl], fun i d e => ?_⟩
  unfold startD at e
  by_cases hi : i < ds.length
  · rw [List.getElem?_append_left (by simpa using hi), List.getElem?_map] at e
    cases q : ds[i]? with
    | none => rw [q] at e; cases e
    | some d' =>
      rw [q] at e
      cases e
      obtain ⟨v, hv, rv⟩ := r.get q
      refine ⟨v, ?_, rv⟩
      unfold L2.start
      rw [List.getElem?_append_left (by simp; omega), List.getElem?_map, hv]
      rfl
  · rw [List.getElem?_append_right (by simpa using hi), List.getElem?_replicate] at e
    split at e <;> cases e
section
variable {P : Program} {w : World} {K : PySem.W.Frag} {mg : Str → Option Value} {base : Heap} {k n : Nat} {x : Str} {s : Stmt} {N ps : List Str} {dsp : DSp}
abbrev XDef (P : Program) (w : World) (K : PySem.W.Frag) (mg : Str → Option Value) (base : Heap) (N : List Str) (x : Str) (s : Stmt) (f : Addr) (cdv : Value) (A : Around) (outer : List Env) (s0 : Shared) (H : Hp) (E : XK) : Cx :=
  cxOf (L2.CX P w) P w K mg base N x (defScope s) f cdv A outer s0 H E
abbrev WDef (E : XK) : WX := fun cls d _ H => E cls d H
theorem has_mk (F : DefIn K mg x s ps) (S : FnScope N ps (defScope s)) (hn : ps.length = n)
    (body : ∀ (f : Addr) (cdv : Value) (A : Around) (outer : List Env) (s0 : Shared) (H : Hp) (E : XK), Room k (A.deeper (envOfC x (defScope s) s0.heap.objs.size f cdv)) →
      ∃ t, DSs (XDef P w K mg base N x s f cdv A outer s0 H E) (WDef E) (defBody s) t ∧ ∀ ds st Q Z, ds.length = n → dsp ds st Q Z → t { nx := fun _ st' => Back st Q .non st', rt := Back st Q, xs := fun x _ st' => BackX st Z x st' } (startD N ds) st) :
    Has P w K mg base (k + 1) x n dsp := by
  obtain ⟨f, fd, F, hm, hb⟩ := F
  refine ⟨f, fd, ps, F.okX S (fun vs H Q E h => by rw [hn]; exact h.1) (fun cdv A outer s0 H vs Q E hr h => ?_), hm, F.kp, hb⟩
  obtain ⟨t, ht, hd⟩ := body f cdv A outer s0 H E hr
  obtain ⟨hl, ds, st, μ, Qd, Z, r, sr, hsp, hQ, hZ⟩ := h
  refine ⟨_, ht, startD N ds, st, μ, _, ⟨start_rep N r, sr⟩, hd ds st Qd Z (by rw [r.length]; exact hl) hsp, ?_, Back.ok sr hQ, ?_, ?_, ?_⟩
  · exact fun ρ' st' σ' H' μ' q e s' => Back.ok sr hQ _ _ _ _ _ q e s'.s rfl
  · exact fun ρ' st' σ' H' μ' q e s' => q.elim
  · exact fun ρ' st' σ' H' μ' q e s' => q.elim
  · exact fun x' ρ' st' σ' H' μ' c dx q e s' r' => BackX.ok sr hZ _ _ _ _ _ _ q e s'.s r'
end
end DL
namespace DL
open PySem L2 PySem.Spec
open PyProof.Rows hiding St
variable [TC : TabCtx]
section
variable {K : PySem.W.Frag}
theorem DOp.or {r r' : R2} {d d' : D2} (h : DOp K r d) (h' : DOp K r' d') : DOp K (fun x y H Q => r x y H Q ∨ r' x y H Q) (fun x y st Q => d x y st Q ∨ d' x y st Q) := by
  intro H μ st x y v u Qd Q s rx ry q hQ
  rcases q with q | q
  · exact .inl (h s rx ry q hQ)
  · exact .inr (h' s rx ry q hQ)
theorem DOp.i0 {g : Int → Int → V} {f : Int → Int → D} (hf : ∀ i j H μ, Rep K H μ (f i j) (g i j)) : DOp K (rI0 g) (fun x y st Q => match x, y with | .int i, .int j => Q (f i j) st | _, _ => False) := by
  intro H μ st x y v u Qd Q s rx ry h hQ
  cases x <;> cases y <;> first | exact (show False from h).elim | skip
  exact ⟨_, _, rx, ry, hQ _ _ _ _ _ h (Ext.refl _ _) s (hf _ _ _ _)⟩
theorem DOp.ic {C : Int → Int → Prop} {g : Int → Int → V} {f : Int → Int → D} (hf : ∀ i j H μ, Rep K H μ (f i j) (g i j)) : DOp K (rI C g) (fun x y st Q => match x, y with | .int i, .int j => C i j ∧ Q (f i j) st | _, _ => False) := by
  intro H μ st x y v u Qd Q s rx ry h hQ
  cases x <;> cases y <;> first | exact (show False from h).elim | skip
  exact ⟨_, _, rx, ry, h.1, hQ _ _ _ _ _ h.2 (Ext.refl _ _) s (hf _ _ _ _)⟩
/-- +: ints, texts, tuples, lists -/
def dAdd : D2 := fun x y st Q => match x, y with
  | .int i, .int j => Q (.int (i + j)) st
  | .str a, .str b => a.length + b.length ≤ sizeLine ∧ Q (.str (a ++ b)) st
  | .tup a, .tup b => a.length + b.length ≤ sizeLine ∧ Q (.tup (a ++ b)) st
  | .loc m, .loc n => ∃ a b, st[m]? = some (.lst a) ∧ st[n]? = some (.lst b) ∧ a.length + b.length ≤ sizeLine ∧ Q (.loc st.length) (st ++ [.lst (a ++ b)])
  | _, _ => False
def rAddV (K : PySem.W.Frag) : R2 := fun x y H Q => rI0 (fun i j => .int (i + j)) x y H Q ∨ (∃ i j, x = .str i ∧ y = .str j ∧ i.length + j.length ≤ sizeLine ∧ Q (.str (i ++ j)) H) ∨ rCatA K x y H Q ∨ rCat x y H Q
theorem add_ok : DOp K (rAddV K) dAdd := by
  intro H μ st x y v u Qd Q s rx ry h hQ
  cases x with
  | int i =>
    cases y <;> first | exact (show False from h).elim | skip
    exact .inl ⟨_, _, rx, ry, hQ _ _ _ _ _ h (Ext.refl _ _) s rfl⟩
  | str a =>
    cases y <;> first | exact (show False from h).elim | skip
    exact .inr (.inl ⟨_, _, rx, ry, h.1, hQ _ _ _ _ _ h.2 (Ext.refl _ _) s rfl⟩)
  | tup a =>
    cases y <;> first | exact (show False from h).elim | skip
    rename_i b
    obtain ⟨p, vs, rfl, hs, hr⟩ := rx
    obtain ⟨q, us, rfl, hs', hr'⟩ := ry
    refine .inr (.inr (.inl ⟨p, q, vs, us, rfl, rfl, hs, hs', by rw [← hr.length, ← hr'.length]; exact h.1, fun e => ?_, fun _ e => ?_, fun _ _ o ho => ?_⟩))
    · subst e
      have : a = [] := List.eq_nil_of_length_eq_zero hr.length
      subst this
      exact hQ _ _ _ _ _ h.2 (Ext.refl _ _) s ⟨q, us, rfl, hs', hr'⟩
    · subst e
      have : b = [] := List.eq_nil_of_length_eq_zero hr'.length
      subst this
      refine hQ _ _ _ _ _ h.2 (Ext.refl _ _) s ⟨p, vs, rfl, hs, ?_⟩
      rw [List.append_nil]; exact hr
    · exact hQ.tup (Ext.refl _ _) s (hr.append hr') h.2 ho
  | loc m =>
    cases y <;> first | exact (show False from h).elim | skip
    rename_i n
    obtain ⟨a, b, ha, hb, hz, q⟩ := h
    obtain ⟨p, rfl, hp⟩ := rx
    obtain ⟨p', rfl, hp'⟩ := ry
    obtain ⟨_, o, e1, e2, vs, rfl, hr⟩ := s.at' _ _ ha
    rw [hp] at e1; cases e1
    obtain ⟨_, o, e1, e3, us, rfl, hr'⟩ := s.at' _ _ hb
    rw [hp'] at e1; cases e1
    exact .inr (.inr (.inr ⟨p, p', vs, us, rfl, rfl, e2, e3, by rw [← hr.length, ← hr'.length]; exact hz, fun o ho => hQ.lst (Ext.refl _ _) s (hr.append hr') q ho⟩))
  | _ => exact (show False from h).elim
def dSub : D2 := fun x y st Q => match x, y with | .int i, .int j => Q (.int (i - j)) st | _, _ => False
def dMul : D2 := fun x y st Q => match x, y with | .int i, .int j => CMul i j ∧ Q (.int (i * j)) st | _, _ => False
def dDiv : D2 := fun x y st Q => match x, y with | .int i, .int j => CDiv i j ∧ Q (.int (i / j)) st | _, _ => False
def dMod : D2 := fun x y st Q => match x, y with | .int i, .int j => 0 < j ∧ Q (.int (i % j)) st | _, _ => False
def dPow : D2 := fun x y st Q => match x, y with | .int i, .int j => CPow i j ∧ Q (.int (i ^ j.toNat)) st | _, _ => False
theorem sub_ok : DOp K (rI0 fun i j => .int (i - j)) dSub := DOp.i0 (f := fun i j => .int (i - j)) fun i j _ _ => rfl
theorem mul_ok : DOp K (rI CMul fun i j => .int (i * j)) dMul := DOp.ic (f := fun i j => .int (i * j)) fun i j _ _ => rfl
theorem div_ok : DOp K (rI CDiv fun i j => .int (i / j)) dDiv := DOp.ic (f := fun i j => .int (i / j)) fun i j _ _ => rfl
theorem mod_ok : DOp K (rI (fun _ j => 0 < j) fun i j => .int (i % j)) dMod := DOp.ic (f := fun i j => .int (i % j)) fun i j _ _ => rfl
theorem pow_ok : DOp K (rI CPow fun i j => .int (i ^ j.toNat)) dPow := DOp.ic (f := fun i j => .int (i ^ j.toNat)) fun i j _ _ => rfl
end
section
variable {X : Cx} {W : WX} {a b e : Expr} {ta tb te : DTE} {pos : Pos}
theorem de_add (ha : DE X W a ta) (hb : DE X W b tb) : DE X W (.BinOp a .Add b pos) (dOp dAdd ta tb) := de_op (op_add.or (op_add_str.or (op_catA.or op_cat))) add_ok ha hb
theorem de_sub (ha : DE X W a ta) (hb : DE X W b tb) : DE X W (.BinOp a .Sub b pos) (dOp dSub ta tb) := de_op op_sub sub_ok ha hb
theorem de_mul (ha : DE X W a ta) (hb : DE X W b tb) : DE X W (.BinOp a .Mult b pos) (dOp dMul ta tb) := de_op op_mul mul_ok ha hb
theorem de_div (ha : DE X W a ta) (hb : DE X W b tb) : DE X W (.BinOp a .FloorDiv b pos) (dOp dDiv ta tb) := de_op op_fdiv div_ok ha hb
theorem de_mod (ha : DE X W a ta) (hb : DE X W b tb) : DE X W (.BinOp a .Mod b pos) (dOp dMod ta tb) := de_op op_mod mod_ok ha hb
theorem de_pow (ha : DE X W a ta) (hb : DE X W b tb) : DE X W (.BinOp a .Pow b pos) (dOp dPow ta tb) := de_op op_pow pow_ok ha hb
end
end DL
namespace DL
open PySem L2 PySem.Spec
open PyProof.Rows hiding St
variable [TC : TabCtx]
def pdF (st : Sto) : Nat → D → Option PyData
  | _, .non => some .none
  | _, .bl b => some (.bool b)
  | _, .int i => some (.int i)
  | _, .str x => some (.str x)
  | n + 1, .tup ds => (ds.mapM (pdF st n)).map .tuple
  | n + 1, .fls ds => (ds.mapM (pdF st n)).map .list
  | n + 1, .loc m => match st[m]? with
    | some (.lst ds) => (ds.mapM (pdF st n)).map .list
    | _ => none
  | _, _ => none
section
variable {K : PySem.W.Frag} {H : Hp} {μ : List Addr} {st : Sto}
theorem mapM_cons_some {α β : Type} {f : α → Option β} {x : α} {xs : List α} {ps : List β} (h : (x :: xs).mapM f = some ps) : ∃ p qs, ps = p :: qs ∧ f x = some p ∧ xs.mapM f = some qs := by
  rw [List.mapM_cons] at h
  cases e1 : f x with
  | none => rw [e1] at h; cases h
  | some p =>
    cases e2 : xs.mapM f with
    | none => rw [e1, e2] at h; cases h
    | some qs =>
      rw [e1, e2] at h
      cases h
      exact ⟨p, qs, rfl, rfl, rfl⟩
theorem dpAll_of (s : SRep K st μ H) {n : Nat} (ih : ∀ d v p, Rep K H μ d v → pdF st n d = some p → Dp K H v p) : ∀ {ds : List D} {vs : List V} {ps : List PyData}, Reps K H μ ds vs → ds.mapM (pdF st n) = some ps → DpAll K H vs ps
  | [], _, _, r, h => by
    subst r
    cases h
    exact .nil
  | d :: ds, _, _, r, h => by
    obtain ⟨v, rs, rfl, r1, r2⟩ := r
    obtain ⟨p, qs, rfl, h1, h2⟩ := mapM_cons_some h
    exact .cons (ih d v p r1 h1) (dpAll_of s ih r2 h2)
theorem dp_of (s : SRep K st μ H) : ∀ (n : Nat) (d : D) (v : V) (p : PyData), Rep K H μ d v → pdF st n d = some p → Dp K H v p := by
  intro n
  induction n with
  | zero =>
    intro d v p r h
    cases d <;> simp only [pdF] at h <;> first | (cases h; rw [show v = _ from r]; constructor) | cases h
  | succ n ih =>
    intro d v p r h
    cases d with
    | non => cases h; rw [show v = _ from r]; constructor
    | bl b => cases h; rw [show v = _ from r]; constructor
    | int i => cases h; rw [show v = _ from r]; constructor
    | str x => cases h; rw [show v = _ from r]; constructor
    | tup ds =>
      obtain ⟨a, vs, rfl, hs, hr⟩ := r
      simp only [pdF, Option.map_eq_some_iff] at h
      obtain ⟨ps, h1, rfl⟩ := h
      exact .tup hs (dpAll_of s ih hr h1)
    | fls ds =>
      obtain ⟨a, vs, rfl, hs, hr⟩ := r
      simp only [pdF, Option.map_eq_some_iff] at h
      obtain ⟨ps, h1, rfl⟩ := h
      exact .lst hs.sq (dpAll_of s ih hr h1)
    | loc m =>
      obtain ⟨a, rfl, hm⟩ := r
      simp only [pdF] at h
      split at h
      · rename_i ds e
        obtain ⟨a', o, e1, e2, vs, rfl, hr⟩ := s.at' _ _ e
        rw [hm] at e1; cases e1
        simp only [Option.map_eq_some_iff] at h
        obtain ⟨ps, h1, rfl⟩ := h
        exact .lst (.inl (.inl e2)) (dpAll_of s ih hr h1)
      · cases h
    | adr a => cases h
    | ty t => cases h
def atomEq : D → D → Option Bool
  | .int i, .int j => some (decide (i = j))
  | .str x, .str y => some (decide (x = y))
  | .bl a, .bl b => some (decide (a = b))
  | .non, .non => some true
  | .non, .int _ => some false
  | .int _, .non => some false
  | .non, .str _ => some false
  | .str _, .non => some false
  | .non, .bl _ => some false
  | .bl _, .non => some false
  | .int _, .str _ => some false
  | .str _, .int _ => some false
  | _, _ => none
def dEqB (f : Bool → Bool) : D2 := fun x y st Q => match atomEq x y with
  | some b => Q (.bl (f b)) st
  | none => ∃ n d e, pdF st n x = some d ∧ pdF st n y = some e ∧ SeqAt.shaped d = true ∧ SeqAt.shaped e = true ∧ Q (.bl (f (PyData.eqv d e))) st
abbrev dEq : D2 := dEqB id
abbrev dNe : D2 := dEqB not
theorem atomEq_ok {x y : D} {v u : V} {b : Bool} (h : atomEq x y = some b) (rx : Rep K H μ x v) (ry : Rep K H μ y u) : scal v u = true ∧ decide (v = u) = b := by
  cases x <;> cases y <;> simp only [atomEq] at h <;> first | (cases h; done) | skip
  all_goals
    cases h
    rw [show v = _ from rx, show u = _ from ry]
    refine ⟨rfl, ?_⟩
    simp
theorem eq_ok : DOp K (fun x y H Q => rEq x y H Q ∨ rEqD K x y H Q) dEq := by
  intro H μ st x y v u Qd Q s rx ry h hQ
  unfold dEq dEqB at h
  split at h
  · rename_i b e
    obtain ⟨h1, h2⟩ := atomEq_ok e rx ry
    exact .inl ⟨h1, by rw [h2]; exact hQ _ _ _ _ _ h (Ext.refl _ _) s rfl⟩
  · obtain ⟨n, d, e, h1, h2, h3, h4, q⟩ := h
    exact .inr ⟨d, e, dp_of s n x v d rx h1, dp_of s n y u e ry h2, h3, h4, hQ _ _ _ _ _ q (Ext.refl _ _) s rfl⟩
theorem ne_ok : DOp K (fun x y H Q => rNe x y H Q ∨ rNeD K x y H Q) dNe := by
  intro H μ st x y v u Qd Q s rx ry h hQ
  unfold dNe dEqB at h
  split at h
  · rename_i b e
    obtain ⟨h1, h2⟩ := atomEq_ok e rx ry
    exact .inl ⟨h1, by rw [h2]; exact hQ _ _ _ _ _ h (Ext.refl _ _) s rfl⟩
  · obtain ⟨n, d, e, h1, h2, h3, h4, q⟩ := h
    exact .inr ⟨d, e, dp_of s n x v d rx h1, dp_of s n y u e ry h2, h3, h4, hQ _ _ _ _ _ q (Ext.refl _ _) s rfl⟩
/-- an order of ints; of texts, tuples, lists by dataLt -/
def dOrd (f : Int → Int → Bool) (g : PyData → PyData → Bool) : D2 := fun x y st Q => match x, y with
  | .int i, .int j => Q (.bl (f i j)) st
  | x, y => ∃ n d e, pdF st n x = some d ∧ pdF st n y = some e ∧ PySem.W.alike d e = true ∧ d ≠ .none ∧ d.depth ≤ 64 ∧ Q (.bl (g d e)) st
abbrev dLt : D2 := dOrd (fun i j => decide (i < j)) PySem.W.dataLt
abbrev dGt : D2 := dOrd (fun i j => decide (j < i)) fun d e => PySem.W.dataLt e d
abbrev dLe : D2 := dOrd (fun i j => decide (i ≤ j)) fun d e => !PySem.W.dataLt e d
abbrev dGe : D2 := dOrd (fun i j => decide (j ≤ i)) fun d e => !PySem.W.dataLt d e
def rOrdD (K : PySem.W.Frag) (g : PyData → PyData → Bool) : R2 := fun x y H Q => ∃ d e, Dp K H x d ∧ Dp K H y e ∧ PySem.W.alike d e = true ∧ d ≠ .none ∧ d.depth ≤ 64 ∧ Q (.bl (g d e)) H
theorem ord_ok {f : Int → Int → Bool} {g : PyData → PyData → Bool} : DOp K (fun x y H Q => rI0 (fun i j => .bl (f i j)) x y H Q ∨ rOrdD K g x y H Q) (dOrd f g) := by
  intro H μ st x y v u Qd Q s rx ry h hQ
  unfold dOrd at h
  split at h
  · exact .inl ⟨_, _, rx, ry, hQ _ _ _ _ _ h (Ext.refl _ _) s rfl⟩
  · obtain ⟨n, d, e, h1, h2, h3, h4, h5, q⟩ := h
    exact .inr ⟨d, e, dp_of s n _ v d rx h1, dp_of s n _ u e ry h2, h3, h4, h5, hQ _ _ _ _ _ q (Ext.refl _ _) s rfl⟩
end
section
variable {X : Cx}
theorem op_ordD {op : CmpOp} {g : PyData → PyData → Bool} (hu : X.A.units + 64 < cLine)
    (rule : ∀ (s : Shared) (E : Value → Shared → Prop) (a b : Value) (da db : PyData) (as bs : List Addr) (Q : Value → Shared → Prop), Reads s.heap a da as → Reads s.heap b db bs → PySem.W.alike da db = true → da ≠ .none → X.A.units + min da.depth db.depth < cLine → Q (.bool (g da db)) s → wpAny (model X.prog X.w) X.A (compareOp op a b) Q E s) :
    OpR X (compareOp op) (rOrdD X.K g) := by
  intro pins s σ H x y v u Q I rx ry h
  obtain ⟨d, e, hd, he, ha, hn, hdp, q⟩ := h
  obtain ⟨as, r1⟩ := Dp.reads I d x v hd rx
  obtain ⟨bs, r2⟩ := Dp.reads I e y u he ry
  have hm : min d.depth e.depth ≤ d.depth := Nat.min_le_left _ _
  exact rule s _ v u d e as bs _ r1 r2 ha hn (by omega) ⟨.bl _, H, I, rfl, q⟩
theorem op_ltA (hu : X.A.units + 64 < cLine) : OpR X (compareOp .Lt) (rOrdD X.K PySem.W.dataLt) := op_ordD hu fun _ _ _ _ _ _ _ _ _ h1 h2 h3 h4 h5 q => PySem.W.lt_data h1 h2 h3 h4 h5 q
theorem op_gtA (hu : X.A.units + 64 < cLine) : OpR X (compareOp .Gt) (rOrdD X.K fun d e => PySem.W.dataLt e d) := op_ordD hu fun _ _ _ _ _ _ _ _ _ h1 h2 h3 h4 h5 q => PySem.W.gt_data h1 h2 h3 h4 h5 q
theorem op_leA (hu : X.A.units + 64 < cLine) : OpR X (compareOp .LtE) (rOrdD X.K fun d e => !PySem.W.dataLt e d) := op_ordD hu fun _ _ _ _ _ _ _ _ _ h1 h2 h3 h4 h5 q => PySem.W.le_data h1 h2 h3 h4 h5 q
theorem op_geA (hu : X.A.units + 64 < cLine) : OpR X (compareOp .GtE) (rOrdD X.K fun d e => !PySem.W.dataLt d e) := op_ordD hu fun _ _ _ _ _ _ _ _ _ h1 h2 h3 h4 h5 q => PySem.W.ge_data h1 h2 h3 h4 h5 q
/-- a comparison, by values: the operator's rule and its data form -/
structure Cm (X : Cx) (op : CmpOp) (dr : D2) : Prop where
  ex : ∃ r, OpR X (compareOp op) r ∧ DOp X.K r dr
theorem cm_eq (hu : X.A.units + 64 < cLine) : Cm X .Eq dEq := ⟨_, op_eq.or (op_eqD hu), eq_ok⟩
theorem cm_ne (hu : X.A.units + 64 < cLine) : Cm X .NotEq dNe := ⟨_, op_ne.or (op_neD hu), ne_ok⟩
theorem cm_lt (hu : X.A.units + 64 < cLine) : Cm X .Lt dLt := ⟨_, op_lt.or (op_ltA hu), ord_ok⟩
theorem cm_gt (hu : X.A.units + 64 < cLine) : Cm X .Gt dGt := ⟨_, op_gt.or (op_gtA hu), ord_ok⟩
theorem cm_le (hu : X.A.units + 64 < cLine) : Cm X .LtE dLe := ⟨_, op_le.or (op_leA hu), ord_ok⟩
theorem cm_ge (hu : X.A.units + 64 < cLine) : Cm X .GtE dGe := ⟨_, op_ge.or (op_geA hu), ord_ok⟩
/-- is None, is not None -/
def isNonD : D → Bool
  | .non => true
  | _ => false
def dIsN (f : Bool → Bool) : D2 := fun x y st Q => match y with | .non => Q (.bl (f (isNonD x))) st | _ => False
theorem isNon_ok {K : PySem.W.Frag} {H : Hp} {μ : List Addr} {x : D} {v : V} (r : Rep K H μ x v) : decide (v = .non) = isNonD x := by
  cases x with
  | non => rw [show v = _ from r]; rfl
  | bl _ => rw [show v = _ from r]; rfl
  | int _ => rw [show v = _ from r]; rfl
  | str _ => rw [show v = _ from r]; rfl
  | adr _ => rw [show v = _ from r]; rfl
  | ty _ => rw [show v = _ from r]; rfl
  | tup _ => obtain ⟨a, vs, rfl, _⟩ := r; rfl
  | fls _ => obtain ⟨a, vs, rfl, _⟩ := r; rfl
  | loc _ => obtain ⟨a, rfl, _⟩ := r; rfl
theorem cm_is : Cm X .Is (dIsN id) := ⟨_, op_isN, fun {H μ st x y v u Qd Q} s rx ry h hQ => by
  cases y <;> first | exact (show False from h).elim | skip
  exact ⟨ry, by rw [isNon_ok rx]; exact hQ _ _ _ _ _ h (Ext.refl _ _) s rfl⟩⟩
theorem cm_isnot : Cm X .IsNot (dIsN not) := ⟨_, op_notN, fun {H μ st x y v u Qd Q} s rx ry h hQ => by
  cases y <;> first | exact (show False from h).elim | skip
  exact ⟨ry, by rw [isNon_ok rx]; exact hQ _ _ _ _ _ h (Ext.refl _ _) s rfl⟩⟩
/-- x in (a, b, ..), [a, b, ..]: flat items -/
def flatD : D → Bool
  | .non => true
  | .bl _ => true
  | .int _ => true
  | .str _ => true
  | _ => false
/-- a flat datum as a value -/
def flatVal : D → V
  | .bl b => .bl b
  | .int i => .int i
  | .str x => .str x
  | _ => .non
def inD (x : D) (ds : List D) : Bool := inV (flatVal x) (ds.map flatVal)
def itemsD (st : Sto) : D → Option (List D)
  | .tup ds => some ds
  | .fls ds => some ds
  | .loc n => match st[n]? with | some (.lst ds) => some ds | _ => none
  | _ => none
def dIn (neg : Bool) : D2 := fun x y st Q => ∃ ds, itemsD st y = some ds ∧ flatD x = true ∧ ds.all flatD = true ∧ Q (.bl (if neg then !inD x ds else inD x ds)) st
theorem flat_rep {K : PySem.W.Frag} {H : Hp} {μ : List Addr} {x : D} {v : V} (r : Rep K H μ x v) (h : flatD x = true) : v = flatVal x ∧ flatV v = true := by
  cases x <;> first | (cases h; done) | skip
  all_goals
    rw [show v = _ from r]
    exact ⟨rfl, rfl⟩
theorem flats_rep {K : PySem.W.Frag} {H : Hp} {μ : List Addr} : ∀ {ds : List D} {vs : List V}, Reps K H μ ds vs → ds.all flatD = true → vs = ds.map flatVal ∧ vs.all flatV = true
  | [], _, r, _ => by subst r; exact ⟨rfl, rfl⟩
  | d :: ds, _, r, h => by
    obtain ⟨v, rs, rfl, r1, r2⟩ := r
    simp only [List.all_cons, Bool.and_eq_true] at h
    obtain ⟨e1, e2⟩ := flat_rep r1 h.1
    obtain ⟨e3, e4⟩ := flats_rep r2 h.2
    subst e1 e3
    exact ⟨rfl, by simp only [List.all_cons, Bool.and_eq_true]; exact ⟨e2, e4⟩⟩
theorem items_ok {K : PySem.W.Frag} {H : Hp} {μ : List Addr} {st : Sto} {y : D} {u : V} {ds : List D} (s : SRep K st μ H) (r : Rep K H μ y u) (h : itemsD st y = some ds) : ∃ p vs, u = .ref p ∧ (SqL K H p vs ∨ SqT K H p vs) ∧ Reps K H μ ds vs := by
  cases y <;> simp only [itemsD] at h <;> first | (cases h; done) | skip
  · cases h
    obtain ⟨a, vs, rfl, hs, hr⟩ := r
    exact ⟨a, vs, rfl, .inr hs, hr⟩
  · cases h
    obtain ⟨a, vs, rfl, hs, hr⟩ := r
    exact ⟨a, vs, rfl, .inl hs.sq, hr⟩
  · obtain ⟨a, rfl, hn⟩ := r
    split at h
    · rename_i ds' e
      cases h
      obtain ⟨a', o, e1, e2, vs, rfl, hr⟩ := s.at' _ _ e
      rw [hn] at e1; cases e1
      exact ⟨a, vs, rfl, .inl (.inl (.inl e2)), hr⟩
    · cases h
theorem in_ok {K : PySem.W.Frag} {neg : Bool} : DOp K (rIn K neg) (dIn neg) := by
  intro H μ st x y v u Qd Q s rx ry h hQ
  obtain ⟨ds, h1, h2, h3, q⟩ := h
  obtain ⟨p, vs, rfl, hs, hr⟩ := items_ok s ry h1
  obtain ⟨e1, f1⟩ := flat_rep rx h2
  obtain ⟨e2, f2⟩ := flats_rep hr h3
  refine ⟨p, vs, rfl, hs, f1, f2, ?_⟩
  subst e1 e2
  exact hQ _ _ _ _ _ q (Ext.refl _ _) s rfl
theorem cm_in : Cm X .In (dIn false) := ⟨_, op_in_seq, in_ok⟩
end
section
variable {X : Cx} {W : WX} {a b c e : Expr} {ta tb tc : DTE} {pos : Pos} {op op' : CmpOp} {dr dr' : D2}
theorem de_cm (C : Cm X op dr) (hm : behindInMarks op b = false) (ha : DE X W a ta) (hb : DE X W b tb) : DE X W (.Compare a [op] [b] pos) (dOp dr ta tb) := by
  obtain ⟨r, ho, hr⟩ := C.ex
  exact de_cmp ho hr hm ha hb
theorem dt_cm (C : Cm X op dr) (hm : behindInMarks op b = false) (ha : DE X W a ta) (hb : DE X W b tb) : DT X W (.Compare a [op] [b] pos) (dTest (dOp dr ta tb)) := by
  obtain ⟨r, ho, hr⟩ := C.ex
  exact dt_cmp ho hr hm ha hb
theorem de_cm2 (C : Cm X op dr) (C' : Cm X op' dr') (ha : DE X W a ta) (hb : DE X W b tb) (hc : DE X W c tc) (hm : lastMarks [op, op'] [b, c] = false := by with_unfolding_all rfl) : DE X W (.Compare a [op, op'] [b, c] pos) (dChain dr dr' ta tb tc) := by
  obtain ⟨r, ho, hr⟩ := C.ex
  obtain ⟨r', ho', hr'⟩ := C'.ex
  exact de_chain ho hr ho' hr' ha hb hc hm
theorem dt_cm2 (C : Cm X op dr) (C' : Cm X op' dr') (ha : DE X W a ta) (hb : DE X W b tb) (hc : DE X W c tc) (hm : lastMarks [op, op'] [b, c] = false := by with_unfolding_all rfl) : DT X W (.Compare a [op, op'] [b, c] pos) (dTest (dChain dr dr' ta tb tc)) := by
  obtain ⟨r, ho, hr⟩ := C.ex
  obtain ⟨r', ho', hr'⟩ := C'.ex
  exact dt_chain ho hr ho' hr' ha hb hc hm
end
end DL
namespace DL
open PySem L2 PySem.Spec
open PyProof.Rows hiding St
variable [TC : TabCtx]
section
variable {K : PySem.W.Frag} {H : Hp} {μ : List Addr} {st : Sto}
theorem CallR.or {X : Cx} {f : Value} {r r' : List V → Hp → VK → Prop} (h : CallR X f r) (h' : CallR X f r') : CallR X f (fun xs H Q => r xs H Q ∨ r' xs H Q) := by
  intro pins s σ H xs us Q I r q
  rcases q with q | q
  · exact h pins s σ H xs us Q I r q
  · exact h' pins s σ H xs us Q I r q
theorem reps1 {d : D} {vs : List V} (h : Reps K H μ [d] vs) : ∃ v, vs = [v] ∧ Rep K H μ d v := by
  obtain ⟨v, r, rfl, h1, h2⟩ := h
  exact ⟨v, by rw [show r = [] from h2], h1⟩
/-- len -/
def lenD (st : Sto) : D → (Nat → Prop) → Prop
  | .str z, Q => z.length ≤ sizeLine ∧ Q z.length
  | .tup ds, Q => Q ds.length
  | .fls ds, Q => Q ds.length
  | .loc n, Q => match st[n]? with | some (.lst ds) => Q ds.length | _ => False
  | _, _ => False
def dLen : DN := fun ds st Q => match ds with | [d] => lenD st d fun n => Q (.int n) st | _ => False
theorem len_ok : DCl K (fun xs H Q => (∃ p ys, xs = [.ref p] ∧ (SqL K H p ys ∨ SqT K H p ys) ∧ Q (.int ys.length) H) ∨ ∃ z, xs = [.str z] ∧ z.length ≤ sizeLine ∧ Q (.int z.length) H) dLen := by
  intro H μ st ds vs Qd Q s r h hQ
  match ds, r, h with
  | [d], r, h =>
    obtain ⟨v, rfl, r1⟩ := reps1 r
    cases d with
    | str z => rw [show v = _ from r1]; exact .inr ⟨z, rfl, h.1, hQ _ _ _ _ _ h.2 (Ext.refl _ _) s rfl⟩
    | tup ds =>
      obtain ⟨a, vs, rfl, hs, hr⟩ := r1
      exact .inl ⟨a, vs, rfl, .inr hs, by rw [← hr.length]; exact hQ _ _ _ _ _ h (Ext.refl _ _) s rfl⟩
    | fls ds =>
      obtain ⟨a, vs, rfl, hs, hr⟩ := r1
      exact .inl ⟨a, vs, rfl, .inl hs.sq, by rw [← hr.length]; exact hQ _ _ _ _ _ h (Ext.refl _ _) s rfl⟩
    | loc n =>
      obtain ⟨a, rfl, hn⟩ := r1
      simp only [dLen, lenD] at h
      split at h
      · rename_i ds e
        obtain ⟨a', o, e1, e2, vs, rfl, hr⟩ := s.at' _ _ e
        rw [hn] at e1; cases e1
        exact .inl ⟨a, vs, rfl, .inl (.inl (.inl e2)), by rw [← hr.length]; exact hQ _ _ _ _ _ h (Ext.refl _ _) s rfl⟩
      · exact h.elim
    | _ => exact (show False from h).elim
/-- abs, int -/
def dAbs : DN := fun ds st Q => match ds with | [.int i] => Q (.int (if i < 0 then -i else i)) st | _ => False
theorem abs_ok : DCl K (fun xs H Q => ∃ i, xs = [.int i] ∧ Q (.int (if i < 0 then -i else i)) H) dAbs := by
  intro H μ st ds vs Qd Q s r h hQ
  unfold dAbs at h
  split at h
  · exact ⟨_, r.ints1, hQ _ _ _ _ _ h (Ext.refl _ _) s rfl⟩
  · exact h.elim
def dInt : DN := fun ds st Q => match ds with
  | [.int i] => Q (.int i) st
  | [.bl k] => Q (.int (if k then 1 else 0)) st
  | [.str a] => ∃ n, PySem.intText? a = some n ∧ a.length ≤ 640 ∧ Q (.int n) st
  | _ => False
theorem int_ok : DCl K (fun xs H Q => ((∃ i, xs = [.int i] ∧ Q (.int i) H) ∨ ∃ k, xs = [.bl k] ∧ Q (.int (if k then 1 else 0)) H) ∨ ∃ a n, xs = [.str a] ∧ PySem.intText? a = some n ∧ a.length ≤ 640 ∧ Q (.int n) H) dInt := by
  intro H μ st ds vs Qd Q s r h hQ
  unfold dInt at h
  split at h
  · exact .inl (.inl ⟨_, r.ints1, hQ _ _ _ _ _ h (Ext.refl _ _) s rfl⟩)
  · obtain ⟨v, rfl, r1⟩ := reps1 r
    exact .inl (.inr ⟨_, by rw [show v = _ from r1], hQ _ _ _ _ _ h (Ext.refl _ _) s rfl⟩)
  · obtain ⟨v, rfl, r1⟩ := reps1 r
    obtain ⟨n, h1, h2, q⟩ := h
    exact .inr ⟨_, n, by rw [show v = _ from r1], h1, h2, hQ _ _ _ _ _ q (Ext.refl _ _) s rfl⟩
  · exact h.elim
/-- tuple(..), list(..) -/
def dTupOf : DN := fun ds st Q => match ds with | [d] => (match itemsD st d with | some es => Q (.tup es) st | none => False) | _ => False
theorem tupOf_ok : DCl K (fun xs H Q => ∃ p ys, xs = [.ref p] ∧ ((SqL K H p ys ∧ ∀ l, H l = none → Q (.ref l) (upd H l (.tup ys))) ∨ (SqT K H p ys ∧ Q (.ref p) H))) dTupOf := by
  intro H μ st ds vs Qd Q s r h hQ
  match ds, r, h with
  | [d], r, h =>
    obtain ⟨v, rfl, r1⟩ := reps1 r
    simp only [dTupOf] at h
    split at h
    · rename_i es e
      obtain ⟨p, vs, rfl, hs, hr⟩ := items_ok s r1 e
      refine ⟨p, vs, rfl, ?_⟩
      rcases hs with hs | hs
      · exact .inl ⟨hs, fun l hl => hQ.tup (Ext.refl _ _) s hr h hl⟩
      · exact .inr ⟨hs, hQ _ _ _ _ _ h (Ext.refl _ _) s ⟨p, vs, rfl, hs, hr⟩⟩
    · exact h.elim
def dLstOf : DN := fun ds st Q => match ds with | [d] => (match itemsD st d with | some es => Q (.loc st.length) (st ++ [.lst es]) | none => False) | _ => False
/-- all, any of bools -/
theorem reps_bools : ∀ {bs : List Bool} {vs : List V}, Reps K H μ (bs.map D.bl) vs → vs = bs.map V.bl
  | [], _, r => r
  | b :: bs, _, r => by
    obtain ⟨v, rs, rfl, r1, r2⟩ := r
    rw [show v = _ from r1, reps_bools r2]
    rfl
def dAll : DN := fun ds st Q => match ds with | [.loc n] => ∃ bs : List Bool, st[n]? = some (.lst (bs.map .bl)) ∧ Q (.bl (bs.all id)) st | _ => False
def dAny : DN := fun ds st Q => match ds with | [.loc n] => ∃ bs : List Bool, st[n]? = some (.lst (bs.map .bl)) ∧ Q (.bl (bs.any id)) st | _ => False
theorem all_ok : DCl K (rAll K) dAll := by
  intro H μ st ds vs Qd Q s r h hQ
  unfold dAll at h
  split at h
  · obtain ⟨v, rfl, a, rfl, hn⟩ := reps1 r
    obtain ⟨bs, hb, q⟩ := h
    obtain ⟨a', o, e1, e2, vs, rfl, hr⟩ := s.at' _ _ hb
    rw [hn] at e1; cases e1
    rw [reps_bools hr] at e2
    exact ⟨a, bs, rfl, .inl (.inl e2), hQ _ _ _ _ _ q (Ext.refl _ _) s rfl⟩
  · exact h.elim
/-- append, extend, pop, clear, reverse of a list of the store -/
def dAppend : DM := fun x ds st Q => match x, ds with | .loc n, [d] => ∃ es, st[n]? = some (.lst es) ∧ es.length < sizeLine ∧ Q .non (st.set n (.lst (es ++ [d]))) | _, _ => False
theorem append_ok : DMt K rAppend dAppend := by
  intro H μ st x v ds vs Qd Q s rx rs h hQ
  unfold dAppend at h
  split at h
  · obtain ⟨u, rfl, ru⟩ := reps1 rs
    obtain ⟨a, rfl, hn⟩ := rx
    obtain ⟨es, he, hz, q⟩ := h
    obtain ⟨a', o, e1, e2, vs, rfl, hr⟩ := s.at' _ _ he
    rw [hn] at e1; cases e1
    have w := s.write (o' := .lst (vs ++ [u])) (b := .lst (es ++ [_])) hn e2 ⟨_, rfl, hr.append (Reps.one ru)⟩
    exact ⟨a, vs, u, rfl, rfl, e2, by rw [← hr.length]; exact hz, hQ _ _ _ _ _ q w.1 w.2 rfl⟩
  · exact h.elim
def dExtend : DM := fun x ds st Q => match x, ds with | .loc n, [.loc m] => ∃ es fs, st[n]? = some (.lst es) ∧ st[m]? = some (.lst fs) ∧ es.length + fs.length ≤ sizeLine ∧ Q .non (st.set n (.lst (es ++ fs))) | _, _ => False
def dPop : DM := fun x ds st Q => match x, ds with | .loc n, [] => ∃ es d, st[n]? = some (.lst es) ∧ es[es.length - 1]? = some d ∧ Q d (st.set n (.lst es.dropLast)) | _, _ => False
theorem reps_dropLast {ds : List D} {vs : List V} (h : Reps K H μ ds vs) : Reps K H μ ds.dropLast vs.dropLast := by
  rw [List.dropLast_eq_take, List.dropLast_eq_take, h.length]
  exact h.take _
theorem pop_ok : DMt K rPop dPop := by
  intro H μ st x v ds vs Qd Q s rx rs h hQ
  unfold dPop at h
  split at h
  · obtain ⟨a, rfl, hn⟩ := rx
    obtain ⟨es, d, he, hd, q⟩ := h
    obtain ⟨a', o, e1, e2, vs', rfl, hr⟩ := s.at' _ _ he
    rw [hn] at e1; cases e1
    obtain ⟨u, hu, ru⟩ := hr.get hd
    have w := s.write (o' := .lst vs'.dropLast) (b := .lst es.dropLast) hn e2 ⟨_, rfl, reps_dropLast hr⟩
    exact ⟨a, vs', u, rfl, show vs = [] from rs, e2, by rw [← hr.length]; exact hu, hQ _ _ _ _ _ q w.1 w.2 (ru.mono w.1)⟩
  · exact h.elim
end
section
variable {X : Cx} {W : WX} {e : Expr} {es : List Expr} {t : DTA} {pos p apos : Pos} {o : Expr} {to : DTE}
/-- the calls; each x is a built-in's name that the module does not take -/
theorem de_len (hg : Gl X "len") (hm : X.mg "len" = none) (ha : DA X W (e :: es) t) (he : starEach (e :: es) X.env = (false, eval e X.env) :: starEach es X.env := by rfl) (hpl : (backTo pos (starEach es X.env)).any (·.1) = false := by rfl) :
    DE X W (.Call (.Name "len" p) (e :: es) [] pos) (dCB dLen t) := de_callB (CallR.or call_len_seq call_len_str) len_ok hg hm PySem.boot_len ha (by decide) (by decide) he hpl
theorem de_abs (hg : Gl X "abs") (hm : X.mg "abs" = none) (ha : DA X W (e :: es) t) (he : starEach (e :: es) X.env = (false, eval e X.env) :: starEach es X.env := by rfl) (hpl : (backTo pos (starEach es X.env)).any (·.1) = false := by rfl) :
    DE X W (.Call (.Name "abs" p) (e :: es) [] pos) (dCB dAbs t) := de_callB call_abs abs_ok hg hm PyProof.Rows.boot_abs ha (by decide) (by decide) he hpl
theorem de_int' (hg : Gl X "int") (hm : X.mg "int" = none) (ha : DA X W (e :: es) t) (he : starEach (e :: es) X.env = (false, eval e X.env) :: starEach es X.env := by rfl) (hpl : (backTo pos (starEach es X.env)).any (·.1) = false := by rfl) :
    DE X W (.Call (.Name "int" p) (e :: es) [] pos) (dCB dInt t) := de_callTy (CallR.or call_int1 call_int_str) int_ok hg hm PyProof.Rows.boot_int ha (by decide) (by decide) he hpl
theorem de_tuple (hg : Gl X "tuple") (hm : X.mg "tuple" = none) (ha : DA X W (e :: es) t) (he : starEach (e :: es) X.env = (false, eval e X.env) :: starEach es X.env := by rfl) (hpl : (backTo pos (starEach es X.env)).any (·.1) = false := by rfl) :
    DE X W (.Call (.Name "tuple" p) (e :: es) [] pos) (dCB dTupOf t) := de_callTy call_tuple_of tupOf_ok hg hm PyProof.Rows.boot_tuple ha (by decide) (by decide) he hpl
theorem de_all (hc : X.calm = true) (hg : Gl X "all") (hm : X.mg "all" = none) (ha : DA X W (e :: es) t) (he : starEach (e :: es) X.env = (false, eval e X.env) :: starEach es X.env := by rfl) (hpl : (backTo pos (starEach es X.env)).any (·.1) = false := by rfl) :
    DE X W (.Call (.Name "all" p) (e :: es) [] pos) (dCB dAll t) := de_callB (cr_all hc) all_ok hg hm PyProof.Rows.boot_all ha (by decide) (by decide) he hpl
theorem de_append (ho : DE X W o to) (ha : DA X W [e] t) (hbase : attributeBase o "append" X.env (eval o X.env) = eval o X.env := by rfl)
    (hfew : ((backTo pos (starEach [e] X.env)).all (fun x => !x.1) && (backToKw pos (keywordEach [] X.env)).all (fun x => x.1.isSome) && decide ([e].length + ([] : List Keyword).length + (if ([] : List Keyword).isEmpty then 0 else 1) < 30)) = true := by rfl)
    (hline : (apos.endLine == pos.line) = true := by rfl) (hs : starEach [e] X.env = (false, eval e X.env) :: starEach [] X.env := by rfl) (hplain : (backTo pos (starEach [] X.env)).any (·.1) = false := by rfl) :
    DE X W (.Call (.Attribute o "append" apos) [e] [] pos) (dBM "list" dAppend to t) := de_bm PySem.F.plainAttrs_list PySem.F.slot_list_append PySem.F.type_list_append mt_append append_ok ho ha hbase hfew hline hs hplain
end
end DL
namespace DL
open PySem L2 PySem.Spec
open PyProof.Rows hiding St
variable [TC : TabCtx]
/-- a datum's type, where it is a built-in one -/
def tyN (st : Sto) : D → Option String
  | .non => some "NoneType"
  | .bl _ => some "bool"
  | .int _ => some "int"
  | .str _ => some "str"
  | .tup _ => some "tuple"
  | .fls _ => some "list"
  | .loc n => match st[n]? with
    | some (.lst _) => some "list"
    | some (.dK _) => some "dict"
    | some (.dkF _ _) => some "dict"
    | _ => none
  | _ => none
def tySub (a b : String) : Bool := a == b || (a == "bool" && b == "int")
theorem kitB_ok : ∀ a ∈ ["NoneType", "bool", "int", "str", "tuple", "list", "dict"], ∀ b ∈ ["bool", "int", "str", "tuple", "list", "dict"], kitB a b = some (tySub a b) := by decide +kernel
section
variable {K : PySem.W.Frag} {H : Hp} {μ : List Addr} {st : Sto}
theorem tyN_mem {d : D} {a : String} (h : tyN st d = some a) : a ∈ ["NoneType", "bool", "int", "str", "tuple", "list", "dict"] := by
  cases d <;> simp only [tyN] at h <;> first | (cases h; done) | (cases h; simp; done) | skip
  split at h <;> first | (cases h; simp; done) | cases h
theorem tyN_ok {d : D} {v : V} {a : String} (s : SRep K st μ H) (r : Rep K H μ d v) (h : tyN st d = some a) : TyX K H v (.type a) := by
  cases d with
  | non => cases h; rw [show v = _ from r]; exact .base .non
  | bl b => cases h; rw [show v = _ from r]; exact .base (.bl b)
  | int b => cases h; rw [show v = _ from r]; exact .base (.int b)
  | str b => cases h; rw [show v = _ from r]; exact .base (.str b)
  | tup ds =>
    cases h
    obtain ⟨a, vs, rfl, hs, hr⟩ := r
    rcases hs with (hs | ⟨o, hs⟩) | ⟨o, its, n, hk, hc, _⟩
    · exact .base (.tup hs)
    · exact .fTuple hs
    · exact .kTuple hk hc
  | fls ds =>
    cases h
    obtain ⟨a, vs, rfl, hs, hr⟩ := r
    rcases hs with ⟨o, hs⟩ | ⟨o, its, n, hk, hc, _⟩
    · exact .base (.frz hs)
    · exact .kList hk hc
  | loc n =>
    obtain ⟨a, rfl, hn⟩ := r
    simp only [tyN] at h
    split at h
    · rename_i ds e
      cases h
      obtain ⟨a', o, e1, e2, vs, rfl, hr⟩ := s.at' _ _ e
      rw [hn] at e1; cases e1
      exact .base (.lst e2)
    · rename_i kvs e
      cases h
      obtain ⟨a', o, e1, e2, gs, rfl, hk, hr⟩ := s.at' _ _ e
      rw [hn] at e1; cases e1
      exact .base (.dK e2)
    · rename_i od kvs e
      cases h
      obtain ⟨a', o, e1, e2, gs, rfl, hk, hr⟩ := s.at' _ _ e
      rw [hn] at e1; cases e1
      exact .fDict e2
    · cases h
  | _ => cases h
end
/-- the classes as written: built-in types' names -/
def dIsi (ta : DTE) (Ts : List String) : DTE := fun ρ st Q Z => ta ρ st (fun x st1 => match tyN st1 x with | some a => Q (.bl (Ts.any (tySub a))) st1 | none => False) Z
section
variable {X : Cx} {W : WX} {e c c1 c2 : Expr} {es : List Expr} {ta : DTE} {pos p tpos : Pos} {T T1 T2 : String}
theorem de_isi (hg : Gl X "isinstance") (hm : X.mg "isinstance" = none) (ha : DE X W e ta) (hc : PE X c (tC (.ty T))) (hT : T ∈ ["bool", "int", "str", "tuple", "list", "dict"] := by decide)
    (hs1 : starEach [e, c] X.env = (false, eval e X.env) :: starEach [c] X.env := by rfl) (hs2 : starEach [c] X.env = (false, eval c X.env) :: starEach [] X.env := by rfl) (hpl : (backTo pos (starEach [c] X.env)).any (·.1) = false := by rfl) :
    DE X W (.Call (.Name "isinstance" p) [e, c] [] pos) (dIsi ta [T]) :=
  pe_weak (pe_callB call_isi hg hm PyProof.Rows.boot_isinstance (pa_cons ha (pa_cons hc pa_nil hs2) hs1) (by decide) (by decide) hs1 hpl) fun σ H Q ⟨ρ, st, μ, Qd, Z, hS, ht, hQ, hZ⟩ =>
    ⟨ρ, st, μ, _, Z, hS, ht, fun x st1 H1 μ1 v hx e1 s1 rv => by
      dsimp only at hx
      split at hx
      · rename_i a ea
        have h1 := kitB_ok a (tyN_mem ea) T hT
        have h2 : ([T].any (tySub a)) = tySub a T := by simp
        rw [h2] at hx
        exact ⟨v, .ty T, .type a, .type T, tySub a T, rfl, .ty T, tyN_ok s1 rv ea, kit_ty h1, hQ _ _ _ _ _ hx e1 s1 rfl⟩
      · exact hx.elim, hZ⟩
/-- a built-in type's name, a built-in as a value -/
theorem pe_ty {x : Str} (hg : Gl X x) (hm : X.mg x = none) (hv : bootBuiltins x = some (.type T)) (hn : x ≠ "__name__" := by decide) (hd : (x == ("__debug__" : Str)) = false := by decide) : PE X (.Name x pos) (tC (.ty T)) := pe_bltn hg hm hv rfl hn hd
end
end DL
namespace DL
open PySem L2 PySem.Spec
open PyProof.Rows hiding St
open PySem.W (AllAlike Sortable dataLe EachIs)
variable [TC : TabCtx]
section
variable {K : PySem.W.Frag} {H : Hp} {μ : List Addr} {st : Sto}
omit TC in
theorem sort_map {α β : Type} (f : α → β) (k : β → PyData) (ts : List α) : (ts.map f).mergeSort (dataLe false k) = (ts.mergeSort (dataLe false fun t => k (f t))).map f :=
  by
  refine (List.map_mergeSort (f := f) (l := ts) (fun _ _ _ _ => ?_)).symm
  rfl
end
end DL
namespace DL
open PySem L2 PySem.Spec
open PyProof.Rows hiding St
open PySem.W (AllAlike Sortable dataLe EachIs)
end DL
namespace DL
open PySem L2 PySem.Spec
open PyProof.Rows hiding St
end DL
namespace DL
open PySem L2 PySem.Spec
open PyProof.Rows hiding St
variable [TC : TabCtx]
def alike2 (d e : PyData) : Prop := PySem.W.alike d d = true ∧ PySem.W.alike d e = true ∧ PySem.W.alike e d = true ∧ PySem.W.alike e e = true
def dMax2 : DN := fun ds st Q => match ds with
  | [x, y] => ∃ n d e, pdF st n x = some d ∧ pdF st n y = some e ∧ alike2 d e ∧ d ≠ .none ∧ e ≠ .none ∧ d.depth ≤ 60 ∧ e.depth ≤ 60 ∧ Q (if PySem.W.dataLt d e = true then y else x) st
  | _ => False
end DL
namespace DL
open PySem L2 PySem.Spec
open PyProof.Rows hiding St
variable [TC : TabCtx]
def enumItems (ds : List D) : List D := ds.mapIdx fun i d => .tup [.int (i : Nat), d]
theorem enumItems_get {ds : List D} {i : Nat} {y : D} (h : (enumItems ds)[i]? = some y) : ∃ d, ds[i]? = some d ∧ y = .tup [.int (i : Nat), d] := by
  unfold enumItems at h
  rw [List.getElem?_mapIdx, Option.map_eq_some_iff] at h
  obtain ⟨d, h1, h2⟩ := h
  exact ⟨d, h1, h2.symm⟩
section
variable {K : PySem.W.Frag} {H : Hp} {μ : List Addr} {st : Sto}
theorem pair_laid {i : Int} {d : D} {x : V} {T : Addr} (s : SRep K st μ H) (r : Rep K H μ d x) (hT : H T = none) :
    Ext H (upd H T (.tup [.int i, x])) μ μ ∧ SRep K st μ (upd H T (.tup [.int i, x])) ∧ Rep K (upd H T (.tup [.int i, x])) μ (.tup [.int i, d]) (.ref T) ∧ (∀ b o, H b = some o → upd H T (.tup [.int i, x]) b = some o) :=
  ⟨Ext.laid hT, s.laid hT, ⟨T, [.int i, x], rfl, .inl (.inl upd_same), ⟨_, _, rfl, rfl, ⟨_, _, rfl, r.mono (Ext.laid hT), rfl⟩⟩⟩, fun b o q => by rw [upd_ne (ne_of_none q hT)]; exact q⟩
end
/-- enumerate(x) -/
def enumD (st : Sto) : D → (List D → (Sto → Prop) → Prop) → Prop
  | .tup ds, Q => Q (enumItems ds) fun _ => True
  | .fls ds, Q => Q (enumItems ds) fun _ => True
  | .loc n, Q => ∃ ds, st[n]? = some (.lst ds) ∧ Q (enumItems ds) fun st => st[n]? = some (.lst ds)
  | _, _ => False
def iEn (ta : DTA) : DTI := fun ρ st Q Z => ta ρ st (fun xs st1 => match xs with | [x] => enumD st1 x fun items G => Q items G st1 | _ => False) Z
end DL
namespace DL
open PySem L2 PySem.Spec
open PyProof.Rows hiding St
variable [TC : TabCtx]
def dRev (te : DTE) : DTE := fun ρ st Q Z => te ρ st (fun x st1 => match x with
  | .tup ds => Q (.tup ds.reverse) st1
  | x => ∃ ds, itemsD st1 x = some ds ∧ Q (.loc st1.length) (st1 ++ [.lst ds.reverse])) Z
def zipItems (ds es : List D) : List D := List.zipWith (fun a b => .tup [a, b]) ds es
def iZp (ta : DTA) : DTI := fun ρ st Q Z => ta ρ st (fun xs st1 => match xs with | [.tup ds, .tup es] => Q (zipItems ds es) (fun _ => True) st1 | _ => False) Z
end DL
namespace DL
open PySem L2 PySem.Spec
open PyProof.Rows hiding St
variable [TC : TabCtx]
section
variable {X : Cx} {W : WX} {a e : Expr} {ta : DTE} {pos p : Pos} {x : Str}
/-- -a -/
def dNegV : D → Sto → DK → Prop := fun x st Q => match x with | .int i => Q (.int (-i)) st | _ => False
theorem de_neg (ha : DE X W a ta) : DE X W (.UnaryOp .USub a pos) (dUn dNegV ta) := de_un un_neg (fun {H μ st x v Qd Q} s r h hQ => by
  cases x <;> first | exact (show False from h).elim | skip
  exact ⟨_, r, hQ _ _ _ _ _ h (Ext.refl _ _) s rfl⟩) ha
/-- {} -/
def dDict0 : DTE := fun _ st Q _ => Q (.loc st.length) (st ++ [.dK []])
/-- a constant of the module -/
def Cst (K : PySem.W.Frag) (mg : Str → Option Value) (x : Str) (d : D) : Prop := ∃ v u, mg x = some u ∧ RelV v u ∧ ∀ H μ, Rep K H μ d v
theorem de_cst {d : D} (hg : Gl X x) (h : Cst X.K X.mg x d) (hd : (x == ("__debug__" : Str)) = false := by decide) : DE X W (.Name x pos) (dC d) := by
  obtain ⟨v, u, hm, r, hr⟩ := h
  exact de_c (pe_glob hg hm r hd) hr
end
mutual
/-- a datum of the written part -/
def KRep (K : PySem.W.Frag) : D → Value → Prop
  | .non, u => u = .none
  | .bl b, u => u = .bool b
  | .int i, u => ∃ t, u = .int i t
  | .str x, u => ∃ t, u = .str x t
  | .tup ds, u => ∃ (a : Addr) (o : Obj) (us : Array Value) (n : Nat), u = .ref a ∧ K.lookup a = some o ∧ o.cls = .type "tuple" ∧ o.data = .seq us n ∧ us.size ≤ sizeLine ∧ KReps K ds us.toList
  | _, _ => False
def KReps (K : PySem.W.Frag) : List D → List Value → Prop
  | [], us => us = []
  | d :: ds, us => ∃ u r, us = u :: r ∧ KRep K d u ∧ KReps K ds r
end
mutual
theorem KRep.rep {K : PySem.W.Frag} : ∀ {d : D} {u : Value}, KRep K d u → ∃ v, RelV v u ∧ ∀ H μ, Rep K H μ d v
  | .non, _, h => by subst h; exact ⟨.non, rfl, fun _ _ => rfl⟩
  | .bl b, _, h => by subst h; exact ⟨.bl b, rfl, fun _ _ => rfl⟩
  | .int i, _, h => by obtain ⟨t, rfl⟩ := h; exact ⟨.int i, ⟨t, rfl⟩, fun _ _ => rfl⟩
  | .str x, _, h => by obtain ⟨t, rfl⟩ := h; exact ⟨.str x, ⟨t, rfl⟩, fun _ _ => rfl⟩
  | .tup ds, _, h => by
    obtain ⟨a, o, us, n, rfl, h1, h2, h3, h4, h5⟩ := h
    obtain ⟨vs, r1, r2⟩ := KReps.reps h5
    exact ⟨.ref a, rfl, fun H μ => ⟨a, vs, rfl, .inr ⟨o, us, n, h1, h2, h3, h4, r1⟩, r2 H μ⟩⟩
  | .fls _, _, h => h.elim
  | .loc _, _, h => h.elim
  | .adr _, _, h => h.elim
  | .ty _, _, h => h.elim
theorem KReps.reps {K : PySem.W.Frag} : ∀ {ds : List D} {us : List Value}, KReps K ds us → ∃ vs, Vals vs us ∧ ∀ H μ, Reps K H μ ds vs
  | [], _, h => by subst h; exact ⟨[], .nil, fun _ _ => rfl⟩
  | d :: ds, _, h => by
    obtain ⟨u, r, rfl, h1, h2⟩ := h
    obtain ⟨v, r1, r2⟩ := KRep.rep h1
    obtain ⟨vs, q1, q2⟩ := KReps.reps h2
    exact ⟨v :: vs, .cons r1 q1, fun H μ => ⟨v, vs, rfl, r2 H μ, q2 H μ⟩⟩
end
theorem Cst.of {K : PySem.W.Frag} {mg : Str → Option Value} {x : Str} {d : D} {u : Value} (h : mg x = some u) (r : KRep K d u) : Cst K mg x d := by
  obtain ⟨v, r1, r2⟩ := r.rep
  exact ⟨v, u, h, r1, r2⟩
end DL
namespace DL
open PySem L2 PySem.Spec
open PyProof.Rows hiding St
variable [TC : TabCtx]
/-- a reading serves a promise -/
def Rd (n : Nat) (dsp : DSp) (t : DTS) (N : List Str) : Prop :=
  ∀ ds st Q Z, ds.length = n → dsp ds st Q Z → t { nx := fun _ st1 => Back st Q .non st1, rt := Back st Q, xs := fun x _ st1 => BackX st Z x st1 } (startD N ds) st
section
variable {P : Program} {w : World} {K : PySem.W.Frag} {mg : Str → Option Value} {base : Heap} {k n : Nat} {x : Str} {s : Stmt} {N ps : List Str} {dsp : DSp} {c : Addr}
variable {h : Heap}
theorem def_mk {f : Addr} {oc : Value} {od an : Option Addr} {osl : Array (Option Value)} {kV doc pm cdv ct : Value} (KX : K.In h) (G : h.Ns mainGlobals mg) (a : PySem.W.nsIn K mainGlobals x = some (some (.ref f)))
    (l : K.lookup f = some ⟨oc, od, .func (PySem.W.fnOf x x (defArgs s) (defBody s) (defScope s) .none kV doc pm an cdv ct), osl⟩) (cd : PySem.W.codeIn K cdv x = true) (kp : PySem.W.keepIn K (.ref f) = true)
    (hb : ∀ (kV doc pm : Value) (an : Option Addr) (cdv ct : Value) (us : List Value), us.length = ps.length → bindArgs (PySem.W.fnOf x x (defArgs s) (defBody s) (defScope s) .none kV doc pm an cdv ct) ⟨us, []⟩ = pure (ps.zip us)) : DefIn K mg x s ps := by
  have F := fun_mk (st := s) l cd kp
  exact ⟨f, _, F, PySem.W.mg_of KX G a, F.binds hb⟩
end
end DL
namespace DL
open PySem L2 PySem.Spec
open PyProof.Rows hiding St
section
variable {i j : Nat} {ρ : Env'} {st : Sto} {Q : DK} {Z : DZ} {d x y z : D} {ds es : List D} {te ta tb tc : DTE} {t u : DTA} {c c' : DTT} {QT : Bool → Sto → Prop} {QA : List D → Sto → Prop} {E : DEnds} {s r : DTS}
@[simp] theorem s_var : dVar i ρ st Q Z = (match ρ[i]? with | some (some d) => Q d st | _ => False) := rfl
@[simp] theorem s_c : dC d ρ st Q Z = Q d st := rfl
@[simp] theorem s_op {dr : D2} : dOp dr ta tb ρ st Q Z = ta ρ st (fun x st1 => tb ρ st1 (fun y st2 => dr x y st2 Q) Z) Z := rfl
@[simp] theorem s_un {f : D → Sto → DK → Prop} : dUn f ta ρ st Q Z = ta ρ st (fun x st1 => f x st1 Q) Z := rfl
@[simp] theorem s_test : dTest ta ρ st QT Z = ta ρ st (fun x st1 => match x with | .bl b => QT b st1 | _ => False) Z := rfl
@[simp] theorem s_chain {r r' : D2} : dChain r r' ta tb tc ρ st Q Z = ta ρ st (fun x st1 => tb ρ st1 (fun y st2 => r x y st2 fun z st3 => match z with
  | .bl k => if k = true then tc ρ st3 (fun w st4 => r' y w st4 Q) Z else Q (.bl false) st3
  | _ => False) Z) Z := rfl
@[simp] theorem s_tru_non {Qb : Bool → Prop} : truD st .non Qb = Qb false := rfl
@[simp] theorem s_tru_bl {b : Bool} {Qb : Bool → Prop} : truD st (.bl b) Qb = Qb b := rfl
@[simp] theorem s_tru_int {b : Int} {Qb : Bool → Prop} : truD st (.int b) Qb = Qb (b != 0) := rfl
@[simp] theorem s_tru_tup {Qb : Bool → Prop} : truD st (.tup ds) Qb = Qb (!ds.isEmpty) := rfl
@[simp] theorem s_tru_fls {Qb : Bool → Prop} : truD st (.fls ds) Qb = Qb (!ds.isEmpty) := rfl
@[simp] theorem s_tru_loc {n : Nat} {Qb : Bool → Prop} : truD st (.loc n) Qb = (match st[n]? with | some (.lst ds) => Qb (!ds.isEmpty) | some (.dK kvs) => Qb (!kvs.isEmpty) | _ => False) := rfl
@[simp] theorem s_tru : dTru ta ρ st QT Z = ta ρ st (fun x st1 => truD st1 x fun b => QT b st1) Z := rfl
@[simp] theorem s_not : dNot c ρ st QT Z = c ρ st (fun b st1 => QT (!b) st1) Z := rfl
@[simp] theorem s_and : dAnd c c' ρ st QT Z = c ρ st (fun b st1 => if b = true then c' ρ st1 QT Z else QT false st1) Z := rfl
@[simp] theorem s_or : dOr c c' ρ st QT Z = c ρ st (fun b st1 => if b = true then QT true st1 else c' ρ st1 QT Z) Z := rfl
@[simp] theorem s_if : dIf c ta tb ρ st Q Z = c ρ st (fun k st1 => if k = true then ta ρ st1 Q Z else tb ρ st1 Q Z) Z := rfl
@[simp] theorem s_andV : dAndV ta tb ρ st Q Z = ta ρ st (fun x st1 => truD st1 x fun k => if k = true then tb ρ st1 Q Z else Q x st1) Z := rfl
@[simp] theorem s_orV : dOrV ta tb ρ st Q Z = ta ρ st (fun x st1 => truD st1 x fun k => if k = true then Q x st1 else tb ρ st1 Q Z) Z := rfl
@[simp] theorem s_notV : dNotV ta ρ st Q Z = ta ρ st (fun x st1 => truD st1 x fun k => Q (.bl (!k)) st1) Z := rfl
@[simp] theorem s_nil : dNil ρ st QA Z = QA [] st := rfl
@[simp] theorem s_cons : dCons ta t ρ st QA Z = ta ρ st (fun x st1 => t ρ st1 (fun xs st2 => QA (x :: xs) st2) Z) Z := rfl
@[simp] theorem s_dtup : dTup t ρ st Q Z = t ρ st (fun xs st1 => xs.length ≤ sizeLine ∧ Q (.tup xs) st1) Z := rfl
@[simp] theorem s_dlst : dLst t ρ st Q Z = t ρ st (fun xs st1 => xs.length ≤ sizeLine ∧ Q (.loc st1.length) (st1 ++ [.lst xs])) Z := rfl
@[simp] theorem s_dict0 : dDict0 ρ st Q Z = Q (.loc st.length) (st ++ [.dK []]) := rfl
@[simp] theorem s_cb {dr : DN} : dCB dr t ρ st Q Z = t ρ st (fun xs st1 => dr xs st1 Q) Z := rfl
@[simp] theorem s_bm {T : String} {dm : DM} : dBM T dm ta t ρ st Q Z = ta ρ st (fun x st1 => tyD st1 T x ∧ t ρ st1 (fun xs st2 => dm x xs st2 Q) Z) Z := rfl
@[simp] theorem s_call {n : Nat} {dsp : DSp} : dCall n dsp t ρ st Q Z = t ρ st (fun ds st1 => ds.length = n ∧ dsp ds st1 Q fun x st2 => Z x ρ st2) Z := rfl
@[simp] theorem s_isi {Ts : List String} : dIsi ta Ts ρ st Q Z = ta ρ st (fun x st1 => match tyN st1 x with | some a => Q (.bl (Ts.any (tySub a))) st1 | none => False) Z := rfl
@[simp] theorem s_sl {tl th : DTO} : dSl ta tl th ρ st Q Z = ta ρ st (fun x st1 => tl ρ st1 (fun l st2 => th ρ st2 (fun u st3 => dSlV x l u st3 Q) Z) Z) Z := rfl
@[simp] theorem s_noPart {QO : Option Int → Sto → Prop} : dNoPart ρ st QO Z = QO none st := rfl
@[simp] theorem s_part {QO : Option Int → Sto → Prop} : dPart ta ρ st QO Z = ta ρ st (fun x st1 => match x with | .int i => QO (some i) st1 | _ => False) Z := rfl
@[simp] theorem s_slv_tup {l u : Option Int} : dSlV (.tup ds) l u st Q = Q (.tup (cutL ds l u)) st := rfl
@[simp] theorem s_slv_fls {l u : Option Int} : dSlV (.fls ds) l u st Q = Q (.loc st.length) (st ++ [.lst (cutL ds l u)]) := rfl
@[simp] theorem s_slv_loc {n : Nat} {l u : Option Int} : dSlV (.loc n) l u st Q = ∃ ds, st[n]? = some (.lst ds) ∧ Q (.loc st.length) (st ++ [.lst (cutL ds l u)]) := rfl
@[simp] theorem s_rev : dRev ta ρ st Q Z = ta ρ st (fun x st1 => match x with
  | .tup ds => Q (.tup ds.reverse) st1
  | x => ∃ ds, itemsD st1 x = some ds ∧ Q (.loc st1.length) (st1 ++ [.lst ds.reverse])) Z := rfl
@[simp] theorem s_neg {i : Int} : dNegV (.int i) st Q = Q (.int (-i)) st := rfl
@[simp] theorem s_add_int {i j : Int} : dAdd (.int i) (.int j) st Q = Q (.int (i + j)) st := rfl
@[simp] theorem s_add_str {a b : Str} : dAdd (.str a) (.str b) st Q = (a.length + b.length ≤ sizeLine ∧ Q (.str (a ++ b)) st) := rfl
@[simp] theorem s_add_tup {a b : List D} : dAdd (.tup a) (.tup b) st Q = (a.length + b.length ≤ sizeLine ∧ Q (.tup (a ++ b)) st) := rfl
@[simp] theorem s_add_loc {m n : Nat} : dAdd (.loc m) (.loc n) st Q = ∃ a b, st[m]? = some (.lst a) ∧ st[n]? = some (.lst b) ∧ a.length + b.length ≤ sizeLine ∧ Q (.loc st.length) (st ++ [.lst (a ++ b)]) := rfl
@[simp] theorem s_sub {i j : Int} : dSub (.int i) (.int j) st Q = Q (.int (i - j)) st := rfl
@[simp] theorem s_mul {i j : Int} : dMul (.int i) (.int j) st Q = (CMul i j ∧ Q (.int (i * j)) st) := rfl
@[simp] theorem s_div {i j : Int} : dDiv (.int i) (.int j) st Q = (CDiv i j ∧ Q (.int (i / j)) st) := rfl
@[simp] theorem s_mod {i j : Int} : dMod (.int i) (.int j) st Q = (0 < j ∧ Q (.int (i % j)) st) := rfl
@[simp] theorem s_pow {i j : Int} : dPow (.int i) (.int j) st Q = (CPow i j ∧ Q (.int (i ^ j.toNat)) st) := rfl
@[simp] theorem s_eq_int {f : Bool → Bool} {i j : Int} : dEqB f (.int i) (.int j) st Q = Q (.bl (f (decide (i = j)))) st := rfl
@[simp] theorem s_eq_str {f : Bool → Bool} {i j : Str} : dEqB f (.str i) (.str j) st Q = Q (.bl (f (decide (i = j)))) st := rfl
@[simp] theorem s_eq_bl {f : Bool → Bool} {i j : Bool} : dEqB f (.bl i) (.bl j) st Q = Q (.bl (f (decide (i = j)))) st := rfl
@[simp] theorem s_ord_int {f : Int → Int → Bool} {g : PyData → PyData → Bool} {i j : Int} : dOrd f g (.int i) (.int j) st Q = Q (.bl (f i j)) st := rfl
@[simp] theorem s_is {f : Bool → Bool} : dIsN f x .non st Q = Q (.bl (f (isNonD x))) st := rfl
@[simp] theorem isNon_non : isNonD .non = true := rfl
@[simp] theorem isNon_int {i : Int} : isNonD (.int i) = false := rfl
@[simp] theorem isNon_str {i : Str} : isNonD (.str i) = false := rfl
@[simp] theorem isNon_bl {i : Bool} : isNonD (.bl i) = false := rfl
@[simp] theorem isNon_tup : isNonD (.tup ds) = false := rfl
@[simp] theorem isNon_loc {n : Nat} : isNonD (.loc n) = false := rfl
@[simp] theorem isNon_fls : isNonD (.fls ds) = false := rfl
@[simp] theorem s_ix_tup {i : Int} : dIx (.tup ds) (.int i) st Q = ∃ d, atI ds i = some d ∧ Q d st := rfl
@[simp] theorem s_ix_fls {i : Int} : dIx (.fls ds) (.int i) st Q = ∃ d, atI ds i = some d ∧ Q d st := rfl
@[simp] theorem s_ix_loc {n : Nat} {i : Int} : dIx (.loc n) (.int i) st Q = ∃ ds d, st[n]? = some (.lst ds) ∧ atI ds i = some d ∧ Q d st := rfl
@[simp] theorem s_ix_str {z : Str} {i : Int} : dIx (.str z) (.int i) st Q = ∃ c, z.length ≤ sizeLine ∧ atI z.cps.toList i = some c ∧ Q (.str ⟨#[c]⟩) st := rfl
@[simp] theorem s_len_tup : dLen [.tup ds] st Q = Q (.int ds.length) st := rfl
@[simp] theorem s_len_fls : dLen [.fls ds] st Q = Q (.int ds.length) st := rfl
@[simp] theorem s_len_loc {n : Nat} : dLen [.loc n] st Q = (match st[n]? with | some (.lst ds) => Q (.int ds.length) st | _ => False) := by
  first
    | (simp only [dLen, lenD]; done)
    | (simp only [dLen, lenD]
       cases st[n]? with
       | none => rfl
       | some b => cases b <;> rfl)
@[simp] theorem s_len_str {a : Str} : dLen [.str a] st Q = (a.length ≤ sizeLine ∧ Q (.int a.length) st) := rfl
@[simp] theorem s_abs {i : Int} : dAbs [.int i] st Q = Q (.int (if i < 0 then -i else i)) st := rfl
@[simp] theorem s_int {i : Int} : dInt [.int i] st Q = Q (.int i) st := rfl
@[simp] theorem s_int_bl {b : Bool} : dInt [.bl b] st Q = Q (.int (if b then 1 else 0)) st := rfl
@[simp] theorem s_tupOf : dTupOf [d] st Q = (match itemsD st d with | some es => Q (.tup es) st | none => False) := rfl
@[simp] theorem s_lstOf : dLstOf [d] st Q = (match itemsD st d with | some es => Q (.loc st.length) (st ++ [.lst es]) | none => False) := rfl
@[simp] theorem s_items_tup : itemsD st (.tup ds) = some ds := rfl
@[simp] theorem s_items_fls : itemsD st (.fls ds) = some ds := rfl
@[simp] theorem s_items_loc {n : Nat} : itemsD st (.loc n) = (match st[n]? with | some (.lst ds) => some ds | _ => none) := rfl
@[simp] theorem s_all {n : Nat} : dAll [.loc n] st Q = ∃ bs : List Bool, st[n]? = some (.lst (bs.map .bl)) ∧ Q (.bl (bs.all id)) st := rfl
@[simp] theorem s_any {n : Nat} : dAny [.loc n] st Q = ∃ bs : List Bool, st[n]? = some (.lst (bs.map .bl)) ∧ Q (.bl (bs.any id)) st := rfl
@[simp] theorem s_append {n : Nat} : dAppend (.loc n) [d] st Q = ∃ es, st[n]? = some (.lst es) ∧ es.length < sizeLine ∧ Q .non (st.set n (.lst (es ++ [d]))) := rfl
@[simp] theorem s_extend {n m : Nat} : dExtend (.loc n) [.loc m] st Q = ∃ es fs, st[n]? = some (.lst es) ∧ st[m]? = some (.lst fs) ∧ es.length + fs.length ≤ sizeLine ∧ Q .non (st.set n (.lst (es ++ fs))) := rfl
@[simp] theorem s_tyD_loc {T : String} {n : Nat} : tyD st T (.loc n) = (match st[n]? with | some (.lst _) => T = "list" | some (.dK _) => T = "dict" | _ => False) := rfl
@[simp] theorem tyN_non : tyN st .non = some "NoneType" := rfl
@[simp] theorem tyN_bl {b : Bool} : tyN st (.bl b) = some "bool" := rfl
@[simp] theorem tyN_int {b : Int} : tyN st (.int b) = some "int" := rfl
@[simp] theorem tyN_str {b : Str} : tyN st (.str b) = some "str" := rfl
@[simp] theorem tyN_tup : tyN st (.tup ds) = some "tuple" := rfl
@[simp] theorem tyN_fls : tyN st (.fls ds) = some "list" := rfl
@[simp] theorem s_next : dNext E ρ st = E.nx ρ st := rfl
@[simp] theorem s_seq : dSeq s r E ρ st = s { E with nx := r E } ρ st := rfl
@[simp] theorem s_break : dBreak E ρ st = E.bk ρ st := rfl
@[simp] theorem s_drop : dDrop te E ρ st = te ρ st (fun _ st1 => E.nx ρ st1) E.xs := rfl
@[simp] theorem s_ret : dRet te E ρ st = te ρ st E.rt E.xs := rfl
@[simp] theorem s_ifS : dIfS c s r E ρ st = c ρ st (fun b st1 => if b = true then s E ρ st1 else r E ρ st1) E.xs := rfl
@[simp] theorem s_gN {i : Nat} {Qn : Env' → Sto → Prop} : gN i d ρ st Qn = Qn (ρ.set i (some d)) st := rfl
@[simp] theorem s_gNil {Qn : Env' → Sto → Prop} : gNil' [] ρ st Qn = Qn ρ st := rfl
@[simp] theorem s_gCons {g : DTG} {h : DTGs} {Qn : Env' → Sto → Prop} : gCons' g h (d :: ds) ρ st Qn = g d ρ st fun ρ' st' => h ds ρ' st' Qn := rfl
@[simp] theorem s_gTup {n : Nat} {h : DTGs} {Qn : Env' → Sto → Prop} : gTup' n h (.tup ds) ρ st Qn = (ds.length = n ∧ h ds ρ st Qn) := rfl
@[simp] theorem s_asg {g : DTG} : dAsg te g E ρ st = te ρ st (fun x st1 => g x ρ st1 E.nx) E.xs := rfl
@[simp] theorem s_par {i j : Nat} : dPar i j t E ρ st = t ρ st (fun vs st1 => match vs with | [v, w] => E.nx ((ρ.set i (some v)).set j (some w)) st1 | _ => False) E.xs := rfl
@[simp] theorem s_gSub {to ti : DTE} {dr : D3} {Qn : Env' → Sto → Prop} : gSub' to ti dr d ρ st Qn = to ρ st (fun o st1 => ti ρ st1 (fun i st2 => dr o i d st2 fun st3 => Qn ρ st3) fun _ _ _ => False) fun _ _ _ => False := rfl
@[simp] theorem s_setL {n : Nat} {k : Int} {Qs : Sto → Prop} : dSetL (.loc n) (.int k) x st Qs = ∃ ds j, st[n]? = some (.lst ds) ∧ ixN ds.length k = some j ∧ Qs (st.set n (.lst (ds.set j x))) := rfl
@[simp] theorem s_start {N : List Str} : startD N ds = ds.map some ++ List.replicate (N.length - ds.length) none := rfl
@[simp] theorem s_for {it : DTI} {g : DTG} {body : DTS} : dFor it g body E ρ st = it ρ st (fun items G st1 => runG g body E G items ρ st1) E.xs := rfl
theorem runG_nil {g : DTG} {body : DTS} {G : Sto → Prop} : runG g body E G [] ρ st = (G st ∧ E.nx ρ st) := rfl
theorem runG_cons {g : DTG} {body : DTS} {G : Sto → Prop} : runG g body E G (d :: ds) ρ st = (G st ∧ g d ρ st fun ρ2 st2 => body { E with nx := runG g body E G ds, ct := runG g body E G ds, bk := E.nx } ρ2 st2) := rfl
@[simp] theorem s_iD {QI : List D → (Sto → Prop) → Sto → Prop} : iD te ρ st QI Z = te ρ st (fun x st1 => walkD st1 x fun items G => QI items G st1) Z := rfl
@[simp] theorem s_walk_tup {QI : List D → (Sto → Prop) → Prop} : walkD st (.tup ds) QI = QI ds fun _ => True := rfl
@[simp] theorem s_walk_fls {QI : List D → (Sto → Prop) → Prop} : walkD st (.fls ds) QI = QI ds fun _ => True := rfl
@[simp] theorem s_walk_loc {n : Nat} {QI : List D → (Sto → Prop) → Prop} : walkD st (.loc n) QI = ∃ ds, st[n]? = some (.lst ds) ∧ QI ds fun st => st[n]? = some (.lst ds) := rfl
@[simp] theorem s_iR1 {QI : List D → (Sto → Prop) → Sto → Prop} : iR1 t ρ st QI Z = t ρ st (fun xs st1 => match xs with | [.int j] => -(2 ^ 62) ≤ j ∧ j < 2 ^ 62 ∧ QI (rngItems 0 j.toNat) (fun _ => True) st1 | _ => False) Z := rfl
@[simp] theorem s_iR2 {QI : List D → (Sto → Prop) → Sto → Prop} : iR2 t ρ st QI Z = t ρ st (fun xs st1 => match xs with | [.int i, .int j] => (-(2 ^ 62) ≤ i ∧ i < 2 ^ 62 ∧ -(2 ^ 62) ≤ j ∧ j < 2 ^ 62) ∧ QI (rngItems i (j - i).toNat) (fun _ => True) st1 | _ => False) Z := rfl
@[simp] theorem s_iEn {QI : List D → (Sto → Prop) → Sto → Prop} : iEn t ρ st QI Z = t ρ st (fun xs st1 => match xs with | [x] => enumD st1 x fun items G => QI items G st1 | _ => False) Z := rfl
@[simp] theorem s_iZp {QI : List D → (Sto → Prop) → Sto → Prop} : iZp t ρ st QI Z = t ρ st (fun xs st1 => match xs with | [.tup ds, .tup es] => QI (zipItems ds es) (fun _ => True) st1 | _ => False) Z := rfl
@[simp] theorem s_en_tup {QI : List D → (Sto → Prop) → Prop} : enumD st (.tup ds) QI = QI (enumItems ds) fun _ => True := rfl
@[simp] theorem s_en_fls {QI : List D → (Sto → Prop) → Prop} : enumD st (.fls ds) QI = QI (enumItems ds) fun _ => True := rfl
@[simp] theorem s_en_loc {n : Nat} {QI : List D → (Sto → Prop) → Prop} : enumD st (.loc n) QI = ∃ ds, st[n]? = some (.lst ds) ∧ QI (enumItems ds) fun st => st[n]? = some (.lst ds) := rfl
@[simp] theorem s_lc {it : DTI} {g : DTG} {tt : DTT} {own : List Nat} : dLc it g tt te own ρ st Q Z = it ρ st (fun items G st1 => runC g tt te (wipeD ρ own) Q G items [] st1) Z := rfl
theorem runC_nil {g : DTG} {tt : DTT} {G : Sto → Prop} : runC g tt te ρ Q G [] es st = (G st ∧ Q (.loc st.length) (st ++ [.lst es])) := rfl
theorem runC_cons {g : DTG} {tt : DTT} {G : Sto → Prop} : runC g tt te ρ Q G (d :: ds) es st = (G st ∧ g d ρ st fun ρ2 st2 => tt ρ2 st2 (fun b st3 => if b = true then te ρ2 st3 (fun y st4 => es.length < sizeLine ∧ runC g tt te ρ Q G ds (es ++ [y]) st4) Z0 else runC g tt te ρ Q G ds es st3) Z0) := rfl
@[simp] theorem s_wipe0 : wipeD ρ [] = ρ := rfl
@[simp] theorem s_wipe {v : Nat} {vs : List Nat} : wipeD ρ (v :: vs) = (wipeD ρ vs).set v none := rfl
@[simp] theorem s_yes : dYes ρ st QT Z = QT true st := rfl
end
end DL
namespace DL
open PySem L2 PySem.Spec
open PyProof.Rows hiding St
section
variable [TC : TabCtx] {P : Program} {w : World} {K : PySem.W.Frag} {mg : Str → Option Value} {base : Heap} {k n : Nat} {x : Str} {s : Stmt} {N ps : List Str} {dsp : DSp} {f : Addr} {fd : FuncData}
theorem fn_mk (F : Fun K x x s f fd) (S : FnScope N ps (defScope s)) (hn : ps.length = n)
    (body : ∀ (f : Addr) (cdv : Value) (A : Around) (outer : List Env) (s0 : Shared) (H : Hp) (E : XK), Room k (A.deeper (envOfC x (defScope s) s0.heap.objs.size f cdv)) →
      ∃ t, DSs (XDef P w K mg base N x s f cdv A outer s0 H E) (WDef E) (defBody s) t ∧ ∀ ds st Q Z, ds.length = n → dsp ds st Q Z → t { nx := fun _ st' => Back st Q .non st', rt := Back st Q, xs := fun x _ st' => BackX st Z x st' } (startD N ds) st) :
    FnOk P w K mg base (L2.CX P w) (k + 1) f fd ps (liftSp K n dsp) := by
  refine F.okX S (fun vs H Q E h => by rw [hn]; exact h.1) (fun cdv A outer s0 H vs Q E hr h => ?_)
  obtain ⟨t, ht, hd⟩ := body f cdv A outer s0 H E hr
  obtain ⟨hl, ds, st, μ, Qd, Z, r, sr, hsp, hQ, hZ⟩ := h
  refine ⟨_, ht, startD N ds, st, μ, _, ⟨start_rep N r, sr⟩, hd ds st Qd Z (by rw [r.length]; exact hl) hsp, ?_, Back.ok sr hQ, ?_, ?_, ?_⟩
  · exact fun ρ' st' σ' H' μ' q e s' => Back.ok sr hQ _ _ _ _ _ q e s'.s rfl
  · exact fun ρ' st' σ' H' μ' q e s' => q.elim
  · exact fun ρ' st' σ' H' μ' q e s' => q.elim
  · exact fun x' ρ' st' σ' H' μ' c dx q e s' r' => BackX.ok sr hZ _ _ _ _ _ _ q e s'.s r'
end
/-- what a law's own def promises: of a script it tells True -/
def IsL (st : Sto) (d : D) (ns : List Int) : Prop := d = .fls (ns.map .int) ∨ ∃ n, d = .loc n ∧ st[n]? = some (.lst (ns.map .int))
def sp_law : DSp := fun ds st Q _ => match ds with
  | [d] => ∃ ns : List Int, IsL st d ns ∧ ns.length ≤ 63 ∧ (∀ z ∈ ns, Builtin.Int.intBits z ≤ 1048576) ∧ ∀ st', Q (.bl true) st'
  | _ => False
theorem reps_ints0 {K : PySem.W.Frag} {H : Hp} {μ : List Addr} : ∀ ns : List Int, Reps K H μ (ns.map .int) (ns.map V.int)
  | [] => rfl
  | n :: ns => ⟨.int n, ns.map V.int, rfl, rfl, reps_ints0 ns⟩
theorem law_at {l : PySem.W.OpenLaw} {w : World} {K : PySem.W.Frag} {k : Nat} {mg : Str → Option Value} {fa : Addr} {fd : FuncData} {h : Heap} (T : List (Addr × Str)) (cs : List (Addr × Addr))
    (hT : ∀ p ∈ T, p.1 ∈ cs.map (·.2)) (ht : ∀ p ∈ cs, h.get? p.2 = some { cls := .none, data := .fields #[] }) (nk : ∀ p ∈ cs, K.lookup p.2 = none) (cd : ∀ p ∈ cs, PySem.W.CodeHd h p.1 p.2)
    (hb : ∀ (s : Shared) (u : Value), BindsTo s fd ⟨[u], []⟩ [("script", u)])
    (F : ∀ base : Heap, K.In base → base.Ns mainGlobals mg → (∀ p ∈ cs, LamX.TabB base mg p.1 p.2) → FnOk l.prog w K mg base (L2.CX l.prog w) k fa fd ["script"] (@liftSp ⟨T, []⟩ K 1 sp_law)) :
    LamX.LawAtS l w K (L2.CX l.prog w) k 63 "script" mg fa h := by
  letI : TabCtx := ⟨T, []⟩
  refine ⟨fd, cs, liftSp K 1 sp_law, ht, nk, cd, hb, fun H a ns hl hbits hts hS => ⟨rfl, ?_⟩, F⟩
  have tabs : LamX.Tabs T H := fun p hp => by
    obtain ⟨q, hq, e⟩ := List.mem_map.mp (hT p hp)
    rw [show p.1 = q.2 from e.symm]
    exact LamX.TabS.nil (hts q hq)
  have eok : ∀ {μ : List Addr}, EOk K (fun d _ => d = .bl true) (fun v _ => v = .bl true) H μ := fun d st' H' μ' v q _ _ r => by
    subst q
    exact r
  have xok : ∀ {μ : List Addr}, XOk K (fun _ _ => False) (fun _ _ _ => False) H μ := fun x st' H' μ' c dx q _ _ _ => q.elim
  have fz : FzL K H a (ns.map V.int) → ∃ ds st μ Qd Z, Reps K H μ ds [V.ref a] ∧ SRep K st μ H ∧ sp_law ds st Qd Z ∧ EOk K Qd (fun v _ => v = .bl true) H μ ∧ XOk K Z (fun _ _ _ => False) H μ := fun z =>
    ⟨[.fls (ns.map .int)], [], [], fun d _ => d = .bl true, fun _ _ => False, Reps.one ⟨a, _, rfl, z, reps_ints0 ns⟩,
      ⟨rfl, List.nodup_nil, fun n b e => by simp at e, tabs, fun _ h => nomatch h⟩, ⟨ns, .inl rfl, hl, hbits, fun _ => rfl⟩, eok, xok⟩
  rcases hS with (hS | hS) | hS
  · refine ⟨[.loc 0], [.lst (ns.map .int)], [a], fun d _ => d = .bl true, fun _ _ => False, Reps.one ⟨a, rfl, rfl⟩, ⟨rfl, by simp, fun n b e => ?_, tabs, fun _ h => nomatch h⟩, ⟨ns, .inr ⟨0, rfl, rfl⟩, hl, hbits, fun _ => rfl⟩, eok, xok⟩
    cases n with
    | zero =>
      cases e
      exact ⟨a, _, rfl, hS, _, rfl, reps_ints0 ns⟩
    | succ n => simp at e
  · exact fz (.inl hS)
  · exact fz (.inr hS)
theorem cx_false {P : Program} {w : World} {outer : List Env} {H : Hp} {s s' : Shared} {u : Value} (h : L2.CX P w outer H s (fun _ _ _ => False) u s') : False := by
  obtain ⟨a, B, H', cls, d, _, _, _, _, _, _, _, z⟩ := h
  exact z
end DL
namespace RD
open PySem L2 PySem.Spec DL
open PyProof.Rows hiding St
abbrev N_is_integer : List Str := ["thing"]
def t_is_integer : DTS := (dRet (dAndV (dIsi (dVar 0) ["int"]) (dNotV (dIsi (dVar 0) ["bool"]))))
abbrev N_is_number : List Str := ["thing"]
def t_is_number (s_is_integer : DSp) : DTS := (dRet (dAndV (dCall 1 s_is_integer (dCons (dVar 0) dNil)) (dOp dGe (dVar 0) (dC (.int 0)))))
abbrev N_is_names : List Str := ["thing", "ahead", "name"]
def b_is_names_1 (s_is_name : DSp) : DTS := (dSeq (dIfS (dOr (dNot (dTru (dCall 1 s_is_name (dCons (dVar 2) dNil)))) (dTest (dOp dLe (dVar 2) (dVar 1)))) (dRet (dC (.bl false))) dNext)
    (dAsg (dVar 2) (gN 1)))
def t_is_names (s_is_name : DSp) : DTS := (dSeq (dIfS (dNot (dTru (dIsi (dVar 0) ["tuple"]))) (dRet (dC (.bl false))) dNext)
    (dSeq (dAsg (dC (.str "")) (gN 1))
    (dSeq (dFor (iD (dVar 0)) (gN 2) (b_is_names_1 s_is_name))
    (dRet (dC (.bl true))))))
abbrev N_is_tuple_of : List Str := ["many", "thing"]
def t_is_tuple_of : DTS := (dRet (dAndV (dIsi (dVar 1) ["tuple"]) (dOp dEq (dCB dLen (dCons (dVar 1) dNil)) (dVar 0))))
abbrev N_is_version : List Str := ["thing", "number"]
def b_is_version_1 (s_is_number : DSp) (s_is_tuple_of : DSp) : DTS := (dIfS (dOr (dNot (dTru (dCall 1 s_is_number (dCons (dVar 1) dNil)))) (dTest (dOp dGt (dVar 1) (dC (.int 1000000))))) (dRet (dC (.bl false))) dNext)
def t_is_version (s_is_number : DSp) (s_is_tuple_of : DSp) : DTS := (dSeq (dIfS (dNot (dTru (dCall 2 s_is_tuple_of (dCons (dC (.int 3)) (dCons (dVar 0) dNil))))) (dRet (dC (.bl false))) dNext)
    (dSeq (dFor (iD (dVar 0)) (gN 1) (b_is_version_1 s_is_number s_is_tuple_of))
    (dRet (dC (.bl true)))))
abbrev N_is_triple : List Str := ["thing"]
def t_is_triple (s_is_name : DSp) (s_is_names : DSp) (s_is_tuple_of : DSp) (s_is_version : DSp) : DTS := (dRet (dAndV (dCall 2 s_is_tuple_of (dCons (dC (.int 3)) (dCons (dVar 0) dNil))) (dAndV (dCall 1 s_is_name (dCons (dOp dIx (dVar 0) (dC (.int 0))) dNil)) (dAndV (dCall 1 s_is_version (dCons (dOp dIx (dVar 0) (dC (.int 1))) dNil)) (dCall 1 s_is_names (dCons (dOp dIx (dVar 0) (dC (.int 2))) dNil))))))
end RD
namespace DL
open PySem L2 PySem.Spec
open PyProof.Rows hiding St
variable [TC : TabCtx]
section
variable {K : PySem.W.Frag}
def dStr0 (f : Str → Bool) : DM := fun x ds st Q => match x, ds with | .str a, [] => Q (.bl (f a)) st | _, _ => False
theorem str0_ok {f : Str → Bool} : DMt K (fun x xs H Q => ∃ a, x = .str a ∧ xs = [] ∧ True ∧ Q (.bl (f a)) H) (dStr0 f) := by
  intro H μ st x v ds vs Qd Q s rx rs h hQ
  unfold dStr0 at h
  split at h
  · exact ⟨_, rx, rs, trivial, hQ _ _ _ _ _ h (Ext.refl _ _) s rfl⟩
  · exact h.elim
def dStr1 (f : Str → Str → Bool) : DM := fun x ds st Q => match x, ds with | .str a, [.str b] => Q (.bl (f a b)) st | _, _ => False
theorem str1_ok {f : Str → Str → Bool} : DMt K (fun x xs H Q => ∃ a b, x = .str a ∧ xs = [.str b] ∧ Q (.bl (f a b)) H) (dStr1 f) := by
  intro H μ st x v ds vs Qd Q s rx rs h hQ
  unfold dStr1 at h
  split at h
  · obtain ⟨u, rfl, ru⟩ := reps1 rs
    rw [show u = _ from ru]
    exact ⟨_, _, rx, rfl, hQ _ _ _ _ _ h (Ext.refl _ _) s rfl⟩
  · exact h.elim
theorem reps_strs0 {H : Hp} {μ : List Addr} : ∀ ys : List Str, Reps K H μ (ys.map D.str) (ys.map V.str)
  | [] => rfl
  | y :: ys => ⟨.str y, ys.map V.str, rfl, rfl, reps_strs0 ys⟩
theorem reps_strs {H : Hp} {μ : List Addr} : ∀ {ys : List Str} {vs : List V}, Reps K H μ (ys.map D.str) vs → vs = ys.map V.str
  | [], _, h => h
  | y :: ys, _, h => by
    obtain ⟨v, r, rfl, h1, h2⟩ := h
    rw [reps_strs h2, show v = _ from h1]
    rfl
def dSplit : DM := fun x ds st Q => match x, ds with | .str a, [.str b] => (b.length == 0) = false ∧ a.length + 2 ≤ sizeLine ∧ Q (.loc st.length) (st ++ [.lst ((Txt.split a b).map .str)]) | _, _ => False
theorem split_ok : DMt K (fun x xs H Q => ∃ a b, x = .str a ∧ xs = [.str b] ∧ (b.length == 0) = false ∧ a.length + 2 ≤ sizeLine ∧ rNewStrs (Txt.split a b) H Q) dSplit := by
  intro H μ st x v ds vs Qd Q s rx rs h hQ
  unfold dSplit at h
  split at h
  · obtain ⟨u, rfl, ru⟩ := reps1 rs
    rw [show u = _ from ru]
    exact ⟨_, _, rx, rfl, h.1, h.2.1, fun p hp => hQ.lst (Ext.refl _ _) s (reps_strs0 _) h.2.2 hp⟩
  · exact h.elim
def dJoin : DM := fun x ds st Q => match x, ds with
  | .str a, [d] => ∃ ys : List Str, itemsD st d = some (ys.map .str) ∧ (ys.map (·.length)).sum + ys.length * a.length ≤ 16777216 ∧ Q (.str (Txt.join a ys)) st
  | _, _ => False
theorem join_ok : DMt K (fun x xs H Q => ∃ a p, ∃ ys : List Str, x = .str a ∧ xs = [.ref p] ∧ (SqL K H p (ys.map V.str) ∨ SqT K H p (ys.map V.str)) ∧ (ys.map (·.length)).sum + ys.length * a.length ≤ 16777216 ∧ Q (.str (Txt.join a ys)) H) dJoin := by
  intro H μ st x v ds vs Qd Q s rx rs h hQ
  unfold dJoin at h
  split at h
  · obtain ⟨u, rfl, ru⟩ := reps1 rs
    obtain ⟨ys, h1, h2, q⟩ := h
    obtain ⟨p, vs, rfl, hs, hr⟩ := items_ok s ru h1
    rw [reps_strs hr] at hs
    exact ⟨_, p, ys, rx, rfl, hs, h2, hQ _ _ _ _ _ q (Ext.refl _ _) s rfl⟩
  · exact h.elim
def dPartition : DM := fun x ds st Q => match x, ds with
  | .str a, [.str b] => (b.length == 0) = false ∧ a.length ≤ sizeLine ∧ Q (.tup [.str (Txt.partition a b).1, .str (Txt.partition a b).2.1, .str (Txt.partition a b).2.2]) st
  | _, _ => False
theorem partition_ok : DMt K (fun x xs H Q => ∃ a b, x = .str a ∧ xs = [.str b] ∧ (b.length == 0) = false ∧ a.length ≤ sizeLine ∧ ∀ p, H p = none → Q (.ref p) (upd H p (.tup [.str (Txt.partition a b).1, .str (Txt.partition a b).2.1, .str (Txt.partition a b).2.2]))) dPartition := by
  intro H μ st x v ds vs Qd Q s rx rs h hQ
  unfold dPartition at h
  split at h
  · obtain ⟨u, rfl, ru⟩ := reps1 rs
    rw [show u = _ from ru]
    exact ⟨_, _, rx, rfl, h.1, h.2.1, fun p hp => hQ.tup (Ext.refl _ _) s (reps_strs0 [_, _, _]) h.2.2 hp⟩
  · exact h.elim
end
section
variable {K : PySem.W.Frag}
/-- extend by a list or a tuple -/
def dExtendA : DM := fun x ds st Q => match x, ds with
  | .loc n, [d] => ∃ es fs, st[n]? = some (.lst es) ∧ (d = .tup fs ∨ ∃ m, d = .loc m ∧ st[m]? = some (.lst fs)) ∧ es.length + fs.length ≤ sizeLine ∧ Q .non (st.set n (.lst (es ++ fs)))
  | _, _ => False
/-- int(text), str(number) -/
def dIntS : DN := fun ds st Q => match ds with | [.str a] => ∃ n, PySem.intText? a = some n ∧ a.length ≤ 640 ∧ Q (.int n) st | _ => False
theorem intS_ok : DCl K (fun xs H Q => ∃ a n, xs = [.str a] ∧ PySem.intText? a = some n ∧ a.length ≤ 640 ∧ Q (.int n) H) dIntS := by
  intro H μ st ds vs Qd Q s r h hQ
  unfold dIntS at h
  split at h
  · obtain ⟨v, rfl, rv⟩ := reps1 r
    obtain ⟨n, h1, h2, q⟩ := h
    exact ⟨_, n, by rw [show v = _ from rv], h1, h2, hQ _ _ _ _ _ q (Ext.refl _ _) s rfl⟩
  · exact h.elim
def dStrI : DN := fun ds st Q => match ds with | [.int i] => i.natAbs.log2 < 1920 ∧ Q (.str (toString i)) st | _ => False
theorem strI_ok : DCl K (fun xs H Q => ∃ i, xs = [.int i] ∧ i.natAbs.log2 < 1920 ∧ Q (.str (toString i)) H) dStrI := by
  intro H μ st ds vs Qd Q s r h hQ
  unfold dStrI at h
  split at h
  · obtain ⟨v, rfl, rv⟩ := reps1 r
    exact ⟨_, by rw [show v = _ from rv], h.1, hQ _ _ _ _ _ h.2 (Ext.refl _ _) s rfl⟩
  · exact h.elim
def dMaxT : DN := fun ds st Q => match ds with | [.tup es] => ∃ ns : List Int, es = ns.map .int ∧ 0 < ns.length ∧ ∀ m, m ∈ ns → (∀ y ∈ ns, y ≤ m) → Q (.int m) st | _ => False
end
section
variable {X : Cx} {W : WX} {e : Expr} {es : List Expr} {t : DTA} {pos p : Pos}
theorem de_intS (hg : Gl X "int") (hm : X.mg "int" = none) (ha : DA X W (e :: es) t) (he : starEach (e :: es) X.env = (false, eval e X.env) :: starEach es X.env := by rfl) (hpl : (backTo pos (starEach es X.env)).any (·.1) = false := by rfl) :
    DE X W (.Call (.Name "int" p) (e :: es) [] pos) (dCB dIntS t) := de_callTy call_int_str intS_ok hg hm PyProof.Rows.boot_int ha (by decide) (by decide) he hpl
theorem de_strI (hg : Gl X "str") (hm : X.mg "str" = none) (ha : DA X W (e :: es) t) (he : starEach (e :: es) X.env = (false, eval e X.env) :: starEach es X.env := by rfl) (hpl : (backTo pos (starEach es X.env)).any (·.1) = false := by rfl) :
    DE X W (.Call (.Name "str" p) (e :: es) [] pos) (dCB dStrI t) := de_callTy call_str_int strI_ok hg hm PyProof.Rows.boot_str ha (by decide) (by decide) he hpl
end
end DL
namespace DL
open PySem L2 PySem.Spec
open PyProof.Rows hiding St
variable [TC : TabCtx]
section
variable {X : Cx} {W : WX} {e e1 e2 : Expr} {es : List Expr} {t te : DTE} {pos : Pos}
def dFmt (te : DTE) : DTE := fun ρ st Q Z => te ρ st (fun x st1 => match x with
  | .str y => y.length ≤ sizeLine ∧ Q (.str y) st1
  | .int i => i.natAbs.log2 < 1920 ∧ Q (.str (toString i)) st1
  | _ => False) Z
theorem de_fmt (h : DE X W e te) : DE X W (.FormattedValue e (-1) none pos) (dFmt te) := pe_weak (pe_fmt h) fun σ H Q ⟨ρ, st, μ, Qd, Z, hS, ht, hQ, hZ⟩ =>
  ⟨ρ, st, μ, _, Z, hS, ht, fun x st1 H1 μ1 v hx e1 s1 rv => by
    cases x <;> first | exact (show False from hx).elim | skip
    · exact .inr ⟨_, rv, hx.1, hQ _ _ _ _ _ hx.2 e1 s1 rfl⟩
    · exact .inl ⟨_, rv, hx.1, hQ _ _ _ _ _ hx.2 e1 s1 rfl⟩, hZ⟩
def dJs : List DTE → Str → Env' → Sto → (Str → Sto → Prop) → DZ → Prop
  | [], acc, _, st, Q, _ => Q acc st
  | t :: ts, acc, ρ, st, Q, Z => t ρ st (fun x st1 => match x with | .str y => (acc ++ y).length ≤ sizeLine ∧ dJs ts (acc ++ y) ρ st1 Q Z | _ => False) Z
inductive DJ (X : Cx) (W : WX) : List Expr → List DTE → Prop where
  | nil : DJ X W [] []
  | cons {e : Expr} {t : DTE} {es : List Expr} {ts : List DTE} (h : DE X W e t) (r : DJ X W es ts) : DJ X W (e :: es) (t :: ts)
theorem DJ.pj {ts : List DTE} (h : DJ X W es ts) : PJ X es (ts.map (liftE X.K W)) := by
  induction h with
  | nil => exact .nil
  | cons h r ih => exact .cons h ih
theorem js_lift {K : PySem.W.Frag} {ρ : Env'} {Z : DZ} {Qd : Str → Sto → Prop} {σ : St} {Q : Str → Hp → Prop} : ∀ {ts : List DTE} {acc : Str} {st : Sto} {H : Hp} {μ : List Addr}, Stt K ρ st μ σ H → dJs ts acc ρ st Qd Z →
    (∀ out st' H' μ', Qd out st' → Ext H H' μ μ' → SRep K st' μ' H' → Q out H') → ZOk K W Z H μ → tJs (ts.map (liftE K W)) acc σ H Q
  | [], acc, st, H, μ, hS, h, hQ, hZ => hQ _ _ _ _ h (Ext.refl _ _) hS.s
  | t :: ts, acc, st, H, μ, hS, h, hQ, hZ => ⟨ρ, st, μ, _, Z, hS, h, fun x st1 H1 μ1 v hx e1 s1 rv => by
    cases x <;> first | exact (show False from hx).elim | skip
    rename_i y
    exact ⟨y, rv, hx.1, js_lift (hS.mono e1 s1) hx.2 (fun out st' H' μ' q e2 s2 => hQ out st' H' μ' q (e1.trans e2) s2) (hZ.mono e1)⟩, hZ⟩
def dJoined (ts : List DTE) : DTE := fun ρ st Q Z => dJs ts Str.empty ρ st (fun out st1 => Q (.str out) st1) Z
theorem de_joined {ts : List DTE} (h : DJ X W (e1 :: e2 :: es) ts) : DE X W (.JoinedStr (e1 :: e2 :: es) pos) (dJoined ts) := pe_weak (pe_joined h.pj) fun σ H Q ⟨ρ, st, μ, Qd, Z, hS, ht, hQ, hZ⟩ =>
  js_lift hS ht (fun out st' H' μ' q e1 s1 => hQ _ _ _ _ _ q e1 s1 rfl) hZ
end
def keyD : D → Option Key
  | .int i => some (.inl i)
  | .str x => some (.inr x)
  | _ => none
def valD (kvs : List (Key × D)) (k : Key) : Option D := (kvs.find? fun kv => decide (kv.1 = k)).map (·.2)
def putD (kvs : List (Key × D)) (k : Key) (v : D) : List (Key × D) :=
  if (kvs.any fun kv => decide (kv.1 = k)) = true then kvs.map (fun kv => if kv.1 = k then (kv.1, v) else kv) else kvs ++ [(k, v)]
def mergeD (kvs more : List (Key × D)) : List (Key × D) := more.foldl (fun acc kv => putD acc kv.1 kv.2) kvs
section
variable {K : PySem.W.Frag} {H : Hp} {μ : List Addr}
theorem key_rep {d : D} {k : Key} {v : V} (h : keyD d = some k) (r : Rep K H μ d v) : v = kV k := by
  cases d <;> simp [keyD] at h <;> subst h <;> exact r
theorem okv_nil {gs : List (Key × V)} (h : OKv K H μ [] gs) : gs = [] := by
  have := h.1
  cases gs with
  | nil => rfl
  | cons g gs => simp at this
theorem okv_cons {p : Key × D} {kvs : List (Key × D)} {gs : List (Key × V)} (h : OKv K H μ (p :: kvs) gs) : ∃ v gs', gs = (p.1, v) :: gs' ∧ Rep K H μ p.2 v ∧ OKv K H μ kvs gs' := by
  obtain ⟨h1, v, r, h2, h3, h4⟩ := h
  cases gs with
  | nil => simp at h1
  | cons g gs =>
    simp only [List.map_cons, List.cons.injEq] at h1 h2
    obtain ⟨gk, gv⟩ := g
    obtain ⟨e1, e2⟩ := h1
    obtain ⟨e3, e4⟩ := h2
    dsimp only at e1 e3
    subst e1 e3
    exact ⟨gv, gs, rfl, h3, e2, by rw [e4]; exact h4⟩
theorem okv_mk {p : Key × D} {kvs : List (Key × D)} {gs : List (Key × V)} {v : V} (r : Rep K H μ p.2 v) (h : OKv K H μ kvs gs) : OKv K H μ (p :: kvs) ((p.1, v) :: gs) :=
  ⟨by simp [h.1], v, gs.map (·.2), rfl, r, h.2⟩
theorem okv_app {kvs kvs' : List (Key × D)} {gs gs' : List (Key × V)} (h : OKv K H μ kvs gs) (h' : OKv K H μ kvs' gs') : OKv K H μ (kvs ++ kvs') (gs ++ gs') := by
  refine ⟨by simp [h.1, h'.1], ?_⟩
  simp only [List.map_append]
  exact h.2.append h'.2
theorem okv_val {k : Key} : ∀ {kvs : List (Key × D)} {gs : List (Key × V)}, OKv K H μ kvs gs → (valD kvs k = none ∧ valV gs k = none) ∨ ∃ d v, valD kvs k = some d ∧ valV gs k = some v ∧ Rep K H μ d v
  | [], gs, h => by rw [okv_nil h]; exact .inl ⟨rfl, rfl⟩
  | p :: kvs, gs, h => by
    obtain ⟨v, gs', rfl, r, h'⟩ := okv_cons h
    by_cases e : p.1 = k
    · exact .inr ⟨p.2, v, by simp [valD, e], by simp [valV, e], r⟩
    · rcases okv_val (k := k) h' with ⟨h1, h2⟩ | ⟨d, u, h1, h2, h3⟩
      · exact .inl ⟨by simpa [valD, e] using h1, by simpa [valV, e] using h2⟩
      · exact .inr ⟨d, u, by simpa [valD, e] using h1, by simpa [valV, e] using h2, h3⟩
theorem okv_any {k : Key} : ∀ {kvs : List (Key × D)} {gs : List (Key × V)}, OKv K H μ kvs gs → (kvs.any fun kv => decide (kv.1 = k)) = gs.any fun kv => decide (kv.1 = k)
  | [], gs, h => by rw [okv_nil h]; rfl
  | p :: kvs, gs, h => by
    obtain ⟨v, gs', rfl, r, h'⟩ := okv_cons h
    simp only [List.any_cons, okv_any (k := k) h']
theorem okv_upd {k : Key} {d : D} {v : V} (r : Rep K H μ d v) : ∀ {kvs : List (Key × D)} {gs : List (Key × V)}, OKv K H μ kvs gs → OKv K H μ (kvs.map fun kv => if kv.1 = k then (kv.1, d) else kv) (gs.map fun kv => if kv.1 = k then (kv.1, v) else kv)
  | [], gs, h => by rw [okv_nil h]; exact ⟨rfl, rfl⟩
  | p :: kvs, gs, h => by
    obtain ⟨u, gs', rfl, ru, h'⟩ := okv_cons h
    have ih := okv_upd (k := k) r h'
    simp only [List.map_cons]
    by_cases e : p.1 = k
    · rw [if_pos e, if_pos e]
      exact okv_mk (p := (p.1, d)) r ih
    · rw [if_neg e, if_neg e]
      exact okv_mk ru ih
theorem okv_put {k : Key} {d : D} {v : V} (r : Rep K H μ d v) {kvs : List (Key × D)} {gs : List (Key × V)} (h : OKv K H μ kvs gs) : OKv K H μ (putD kvs k d) (putK gs k v) := by
  unfold putD putK
  rw [okv_any h]
  split
  · exact okv_upd r h
  · exact okv_app h (okv_mk (p := (k, d)) r ⟨rfl, rfl⟩)
theorem okv_merge : ∀ {more : List (Key × D)} {ms : List (Key × V)} {kvs : List (Key × D)} {gs : List (Key × V)}, OKv K H μ more ms → OKv K H μ kvs gs → OKv K H μ (mergeD kvs more) (mergeK gs ms)
  | [], ms, kvs, gs, h, g => by rw [okv_nil h]; exact g
  | p :: more, ms, kvs, gs, h, g => by
    obtain ⟨v, ms', rfl, r, h'⟩ := okv_cons h
    show OKv K H μ (mergeD (putD kvs p.1 p.2) more) (mergeK (putK gs p.1 v) ms')
    exact okv_merge (more := more) h' (okv_put r g)
theorem okv_len {kvs : List (Key × D)} {gs : List (Key × V)} (h : OKv K H μ kvs gs) : kvs.length = gs.length := by
  have := congrArg List.length h.1
  simpa using this
end
section
variable {X : Cx} {W : WX} {a b o i e : Expr} {keys : List (Option Expr)} {values : List Expr} {ta tb td ti : DTE} {pos : Pos}
/-- d[k] -/
def dDGet (td ti : DTE) : DTE := fun ρ st Q Z => td ρ st (fun x st1 => ti ρ st1 (fun y st2 => ∃ n kvs k v, x = .loc n ∧ st2[n]? = some (.dK kvs) ∧ keyD y = some k ∧ valD kvs k = some v ∧ Q v st2) Z) Z
theorem de_dget (hu : X.A.units + 1 < cLine) (ho : DE X W o td) (hi : DE X W i ti) (hs : NoSl i := by intro _ _; rfl) : DE X W (.Subscript o i pos) (dDGet td ti) := pe_weak (pe_dget hu ho hi hs) fun σ H Q ⟨ρ, st, μ, Qd, Z, hS, ht, hQ, hZ⟩ =>
  ⟨ρ, st, μ, _, Z, hS, ht, fun x st1 H1 μ1 v hx e1 s1 rv => ⟨ρ, st1, μ1, _, Z, hS.mono e1 s1, hx, fun y st2 H2 μ2 u hy e2 s2 ru => by
    obtain ⟨n, kvs, k, d, rfl, hn, hk, hv, q⟩ := hy
    obtain ⟨a, rfl, ha⟩ := rv.mono e2
    obtain ⟨a', ob, q1, q2, gs, rfl, okv⟩ := s2.at' _ _ hn
    rw [ha] at q1; cases q1
    rcases okv_val (k := k) okv with ⟨h1, _⟩ | ⟨d', w, h1, h2, r⟩
    · rw [h1] at hv; cases hv
    · rw [h1] at hv; cases hv
      refine ⟨a, w, rfl, ?_, hQ _ _ _ _ _ q (e1.trans e2) s2 r⟩
      have := DGet.k (k := k) q2
      rw [h2] at this
      rw [key_rep hk ru]
      exact this, hZ.mono e1⟩, hZ⟩
/-- {k: v, ..} -/
def dPairs : List (DTE × DTE) → Env' → Sto → (List (D × D) → Sto → Prop) → DZ → Prop
  | [], _, st, Q, _ => Q [] st
  | (tk, tv) :: r, ρ, st, Q, Z => tk ρ st (fun x st1 => tv ρ st1 (fun y st2 => dPairs r ρ st2 (fun ps st3 => Q ((x, y) :: ps) st3) Z) Z) Z
inductive DPs (X : Cx) (W : WX) : List (Option Expr) → List Expr → List (DTE × DTE) → Prop where
  | nil : DPs X W [] [] []
  | cons {k v : Expr} {ks : List (Option Expr)} {vs : List Expr} {tk tv : DTE} {ts : List (DTE × DTE)} (hk : DE X W k tk) (hv : DE X W v tv) (r : DPs X W ks vs ts) : DPs X W (some k :: ks) (v :: vs) ((tk, tv) :: ts)
theorem DPs.pps {ts : List (DTE × DTE)} (h : DPs X W keys values ts) : PPs X pos keys values (ts.map fun p => (liftE X.K W p.1, liftE X.K W p.2)) := by
  induction h with
  | nil => exact pps_nil
  | cons hk hv r ih => exact pps_cons hk hv ih
/-- pairs as they are told -/
def Pairs (K : PySem.W.Frag) (H : Hp) (μ : List Addr) : List (D × D) → List (V × V) → Prop
  | [], ps => ps = []
  | p :: ds, ps => ∃ q r, ps = q :: r ∧ Rep K H μ p.1 q.1 ∧ Rep K H μ p.2 q.2 ∧ Pairs K H μ ds r
theorem pairs_lift {K : PySem.W.Frag} {ρ : Env'} {Z : DZ} {σ : St} : ∀ {ts : List (DTE × DTE)} {Qd : List (D × D) → Sto → Prop} {Q : List (V × V) → Hp → Prop} {st : Sto} {H : Hp} {μ : List Addr}, Stt K ρ st μ σ H → dPairs ts ρ st Qd Z →
    (∀ ps st' H' μ' vs, Qd ps st' → Ext H H' μ μ' → SRep K st' μ' H' → Pairs K H' μ' ps vs → Q vs H') → ZOk K W Z H μ → tPairs (ts.map fun p => (liftE K W p.1, liftE K W p.2)) σ H Q
  | [], Qd, Q, st, H, μ, hS, h, hQ, hZ => hQ _ _ _ _ _ h (Ext.refl _ _) hS.s rfl
  | (tk, tv) :: ts, Qd, Q, st, H, μ, hS, h, hQ, hZ => ⟨ρ, st, μ, _, Z, hS, h, fun x st1 H1 μ1 v hx e1 s1 rv => ⟨ρ, st1, μ1, _, Z, hS.mono e1 s1, hx, fun y st2 H2 μ2 u hy e2 s2 ru =>
    pairs_lift (hS.mono (e1.trans e2) s2) hy (fun ps st' H' μ' vs q e3 s3 rp => hQ _ _ _ _ _ q ((e1.trans e2).trans e3) s3 ⟨(v, u), vs, rfl, (rv.mono e2).mono e3, ru.mono e3, rp⟩) (hZ.mono (e1.trans e2)), hZ.mono e1⟩, hZ⟩
theorem pairs_kv {K : PySem.W.Frag} {H : Hp} {μ : List Addr} : ∀ {ps : List (D × D)} {vs : List (V × V)} {kvs : List (Key × D)}, Pairs K H μ ps vs → ps.map (fun p => (keyD p.1, p.2)) = kvs.map (fun p => (some p.1, p.2)) →
    ∃ gs : List (Key × V), vs = gs.map (fun kv => (kV kv.1, kv.2)) ∧ OKv K H μ kvs gs
  | [], vs, kvs, h, e => by
    cases kvs with
    | nil => rw [show vs = [] from h]; exact ⟨[], rfl, rfl, rfl⟩
    | cons p kvs => simp at e
  | p :: ps, vs, kvs, h, e => by
    obtain ⟨q, r, rfl, h1, h2, h3⟩ := h
    cases kvs with
    | nil => simp at e
    | cons g kvs =>
      obtain ⟨gk, gv⟩ := g
      simp only [List.map_cons, List.cons.injEq, Prod.mk.injEq] at e
      obtain ⟨⟨e1, e2⟩, e3⟩ := e
      obtain ⟨gs, rfl, hg⟩ := pairs_kv h3 e3
      obtain ⟨qk, qv⟩ := q
      refine ⟨(gk, qv) :: gs, ?_, okv_mk (p := (gk, gv)) (by rw [← e2]; exact h2) hg⟩
      dsimp only at h1
      rw [key_rep e1 h1]
      rfl
def dDisp (ts : List (DTE × DTE)) : DTE := fun ρ st Q Z => dPairs ts ρ (st ++ [.dK []]) (fun ps st1 => st1[st.length]? = some (.dK []) ∧ ∃ kvs : List (Key × D), ps.map (fun p => (keyD p.1, p.2)) = kvs.map (fun p => (some p.1, p.2)) ∧ kvs.length ≤ 15 ∧
  Q (.loc st.length) (st1.set st.length (.dK (mergeD [] kvs)))) Z
theorem de_disp {ts : List (DTE × DTE)} (h : DPs X W keys values ts) (hall : keys.all (·.isSome) = true := by rfl) (hl : keys.length = values.length := by rfl) (h0 : keys ≠ [] := by exact fun z => nomatch z) (h15 : keys.length ≤ 15 := by decide) :
    DE X W (.Dict keys values pos) (dDisp ts) := pe_weak (pe_disp h.pps hall hl h0 h15) fun σ H Q ⟨ρ, st, μ, Qd, Z, hS, ht, hQ, hZ⟩ p hp => by
  have x0 := Ext.push (μ := μ) (o := .dK []) hp
  have s0 := hS.s.push (o := .dK []) (b := .dK []) hp ⟨[], rfl, rfl, rfl⟩
  refine pairs_lift (hS.mono x0 s0) ht (fun ps st1 H1 μ1 vs hq e1 s1 rp => ?_) (hZ.mono x0)
  obtain ⟨hat, kvs, hk, h15', q⟩ := hq
  have hp1 : μ1[st.length]? = some p := e1.pre _ _ (by rw [hS.s.len]; exact getElem?_end _ _)
  obtain ⟨a, ob, q1, q2, gs0, rfl, okv⟩ := s1.at' _ _ hat
  rw [hp1] at q1; cases q1
  rw [okv_nil okv] at q2
  obtain ⟨gs, rfl, hg⟩ := pairs_kv rp hk
  refine ⟨q2, gs, rfl, by rw [← okv_len hg]; exact h15', ?_⟩
  have w := s1.write (o' := .dK (mergeK [] gs)) (b := .dK (mergeD [] kvs)) hp1 q2 ⟨_, rfl, okv_merge hg ⟨rfl, rfl⟩⟩
  exact hQ _ _ _ _ _ q ((x0.trans e1).trans w.1) w.2 ⟨p, rfl, hp1⟩
end
end DL
namespace DL
open PySem L2 PySem.Spec
open PyProof.Rows hiding St
section
variable {ρ : Env'} {st : Sto} {Q : DK} {Z : DZ} {d x y z : D} {ds es : List D} {te ta tb tc td ti : DTE}
@[simp] theorem s_str0 {f : Str → Bool} {a : Str} : dStr0 f (.str a) [] st Q = Q (.bl (f a)) st := rfl
@[simp] theorem s_str1 {f : Str → Str → Bool} {a b : Str} : dStr1 f (.str a) [.str b] st Q = Q (.bl (f a b)) st := rfl
@[simp] theorem s_split {a b : Str} : dSplit (.str a) [.str b] st Q = ((b.length == 0) = false ∧ a.length + 2 ≤ sizeLine ∧ Q (.loc st.length) (st ++ [.lst ((Txt.split a b).map .str)])) := rfl
@[simp] theorem s_join {a : Str} : dJoin (.str a) [d] st Q = ∃ ys : List Str, itemsD st d = some (ys.map .str) ∧ (ys.map (·.length)).sum + ys.length * a.length ≤ 16777216 ∧ Q (.str (Txt.join a ys)) st := rfl
@[simp] theorem s_extendA {n : Nat} : dExtendA (.loc n) [d] st Q = ∃ es fs, st[n]? = some (.lst es) ∧ (d = .tup fs ∨ ∃ m, d = .loc m ∧ st[m]? = some (.lst fs)) ∧ es.length + fs.length ≤ sizeLine ∧ Q .non (st.set n (.lst (es ++ fs))) := rfl
@[simp] theorem s_tyD_str {T : String} {a : Str} : tyD st T (.str a) = (T = "str") := rfl
@[simp] theorem s_intS {a : Str} : dIntS [.str a] st Q = ∃ n, PySem.intText? a = some n ∧ a.length ≤ 640 ∧ Q (.int n) st := rfl
@[simp] theorem s_strI {i : Int} : dStrI [.int i] st Q = (i.natAbs.log2 < 1920 ∧ Q (.str (toString i)) st) := rfl
@[simp] theorem s_maxT : dMaxT [.tup es] st Q = ∃ ns : List Int, es = ns.map .int ∧ 0 < ns.length ∧ ∀ m, m ∈ ns → (∀ y ∈ ns, y ≤ m) → Q (.int m) st := rfl
@[simp] theorem s_fmt : dFmt te ρ st Q Z = te ρ st (fun x st1 => match x with
  | .str y => y.length ≤ sizeLine ∧ Q (.str y) st1
  | .int i => i.natAbs.log2 < 1920 ∧ Q (.str (toString i)) st1
  | _ => False) Z := rfl
@[simp] theorem s_joined {ts : List DTE} : dJoined ts ρ st Q Z = dJs ts Str.empty ρ st (fun out st1 => Q (.str out) st1) Z := rfl
@[simp] theorem s_js0 {acc : Str} {QS : Str → Sto → Prop} : dJs [] acc ρ st QS Z = QS acc st := rfl
@[simp] theorem s_js {t : DTE} {ts : List DTE} {acc : Str} {QS : Str → Sto → Prop} : dJs (t :: ts) acc ρ st QS Z = t ρ st (fun x st1 => match x with | .str y => (acc ++ y).length ≤ sizeLine ∧ dJs ts (acc ++ y) ρ st1 QS Z | _ => False) Z := rfl
@[simp] theorem s_aug {i : Nat} {dr : D2} {E : DEnds} : dAug i te dr E ρ st = (match ρ[i]? with
  | some (some x) => te ρ st (fun y st1 => dr x y st1 fun z st2 => E.nx (ρ.set i (some z)) st2) E.xs
  | _ => False) := rfl
@[simp] theorem s_walk_str {z : Str} {QI : List D → (Sto → Prop) → Prop} : walkD st (.str z) QI = QI (strItems z) fun _ => True := rfl
@[simp] theorem s_slv_str {z : Str} {l u : Option Int} : dSlV (.str z) l u st Q = (z.length ≤ sizeLine ∧ Q (.str (cutS z l u)) st) := rfl
@[simp] theorem s_tru_str {z : Str} {Qb : Bool → Prop} : truD st (.str z) Qb = (z.length ≤ sizeLine ∧ Qb ((z.length : Int) != 0)) := rfl
end
end DL
namespace RD
open PySem L2 PySem.Spec DL
open PyProof.Rows hiding St
abbrev N_is_name : List Str := ["thing"]
def t_is_name : DTS := (dSeq (dIfS (dOr (dNot (dTru (dIsi (dVar 0) ["str"]))) (dTest (dOp dGt (dCB dLen (dCons (dVar 0) dNil)) (dC (.int 12))))) (dRet (dC (.bl false))) dNext)
    (dRet (dAndV (dBM "str" (dStr0 Txt.isascii) (dVar 0) dNil) (dAndV (dBM "str" (dStr0 Txt.isalpha) (dVar 0) dNil) (dBM "str" (dStr0 Txt.islower) (dVar 0) dNil)))))
abbrev N_version_text : List Str := ["version", "major", "minor", "patch"]
def t_version_text : DTS := (dSeq (dAsg (dVar 0) (gTup' 3 (gCons' (gN 1) (gCons' (gN 2) (gCons' (gN 3) gNil')))))
    (dRet (dJoined [(dFmt (dVar 1)), (dC (.str ".")), (dFmt (dVar 2)), (dC (.str ".")), (dFmt (dVar 3))])))
abbrev N_told_number : List Str := ["digits", "text"]
def t_told_number : DTS := (dSeq (dIfS (dOr (dTest (dOp dGt (dCB dLen (dCons (dVar 1) dNil)) (dVar 0))) (dOr (dNot (dTru (dBM "str" (dStr0 Txt.isascii) (dVar 1) dNil))) (dNot (dTru (dBM "str" (dStr0 Txt.isdigit) (dVar 1) dNil))))) (dRet (dC (.non))) dNext)
    (dSeq (dIfS (dAnd (dTest (dOp dNe (dVar 1) (dC (.str "0")))) (dTru (dBM "str" (dStr1 Txt.startswith) (dVar 1) (dCons (dC (.str "0")) dNil)))) (dRet (dC (.non))) dNext)
    (dRet (dCB dIntS (dCons (dVar 1) dNil)))))
abbrev N_told_version : List Str := ["text", "numbers", "word"]
def e_told_version_1 (s_is_version : DSp) (s_told_number : DSp) : DTE := (dCall 2 s_told_number (dCons (dC (.int 7)) (dCons (dVar 2) dNil)))
def t_told_version (s_is_version : DSp) (s_told_number : DSp) : DTS := (dSeq (dAsg (dCB dTupOf (dCons (dLc (iD (dBM "str" dSplit (dVar 0) (dCons (dC (.str ".")) dNil))) (gN 2) dYes (e_told_version_1 s_is_version s_told_number) [2]) dNil)) (gN 1))
    (dSeq (dIfS (dNot (dTru (dCall 1 s_is_version (dCons (dVar 1) dNil)))) (dRet (dC (.non))) dNext)
    (dRet (dVar 1))))
abbrev N_text_of : List Str := ["lines", "line"]
def e_text_of_1 : DTE := (dJoined [(dFmt (dVar 1)), (dC (.str "\n"))])
def t_text_of : DTS := (dRet (dBM "str" dJoin (dC (.str "")) (dCons (dLc (iD (dVar 0)) (gN 1) dYes (e_text_of_1) [1]) dNil)))
abbrev N_place_text : List Str := ["name", "version"]
def t_place_text (s_version_text : DSp) : DTS := (dRet (dJoined [(dFmt (dVar 0)), (dC (.str " ")), (dFmt (dCall 1 s_version_text (dCons (dVar 1) dNil)))]))
end RD
set_option maxHeartbeats 4000000
namespace L2
open PySem PySem.Spec PyProof.Rows
end L2
namespace DL
open PySem L2 PySem.Spec
open PyProof.Rows hiding St
class ErrCtx where
  A : Nat → Addr
def errA [EC : ErrCtx] (m : Nat) : Addr := EC.A m
def errX [EC : ErrCtx] (m : Nat) (fs : List (Str × D)) : DX := ⟨.ref (errA m), fs⟩
def spI1 (C : Addr) (f : Str) : Sp := fun vs H Q _ => ∃ (a : Addr) (y : V), vs = [.ref a, y] ∧ H a = some (exo a C none) ∧ ∀ dx, H dx = none → dx ≠ a → Q .non (upd (upd H dx (exd dx [(f, y)])) a (exo a C (some dx)))
/-- a statement within a class -/
def mthS (s : Stmt) (j : Nat) : Stmt := match s with
  | .ClassDef _ _ _ b _ _ _ _ _ _ _ => b.getD j (.Pass ⟨0, 0, 0, 0⟩)
  | _ => .Pass ⟨0, 0, 0, 0⟩
section
variable {P : Program} {w : World} {K : PySem.W.Frag} {mg : Str → Option Value} {base : Heap} {k : Nat} {s : Stmt} {f : Addr} {fd : FuncData} {qual fld : Str} {C : Addr}
theorem init1_ok {p1 p2 p3 p4 : Pos} (F : Fun K "__init__" qual s f fd) (S : FnScope ["self", fld] ["self", fld] (defScope s)) (hb : defBody s = [.Assign [.Attribute (.Name "self" p1) fld p2] (.Name fld p3) p4]) (T : OexC K C) (hno : PySem.W.findIn K (.ref C) fld = some none)
    (hd : (fld == ("__debug__" : Str)) = false) (hcd : (fld == ("__classdict__" : Str)) = false)
    (hv0 : Vis (defScope s) "self") (hv1 : Vis (defScope s) fld)
    (hs : ∀ env : Env, swapsWith (.Name fld p3) (some (.Attribute (.Name "self" p1) fld p2)) p4.line env = pure false) :
    FnOk P w K mg base (L2.CX P w) (k + 1) f fd ["self", fld] (spI1 C fld) := by
  refine F.okX S (fun vs H Q E h => by obtain ⟨a, y, rfl, _⟩ := h; rfl) (fun cdv A outer s0 H vs Q E hr h => ⟨tOst K fld (tVar 0) (tVar 1), ?_, ?_⟩)
  · rw [hb]
    exact pss_one (ps_ost (pe_var rfl hv0 (by decide) (by decide)) (pe_var rfl hv1 hd hcd) (hs _))
  · obtain ⟨a, y, rfl, ha, q⟩ := h
    refine ⟨y, rfl, .ref a, rfl, a, C, rfl, T, hno, .inl ⟨ha, q⟩⟩
end
/-- an error's class, made with one thing -/
structure Er1 [EC : ErrCtx] (P : Program) (w : World) (K : PySem.W.Frag) (mg : Str → Option Value) (base : Heap) (m : Nat) (x f : Str) : Prop where
  g : mg x = some (.ref (errA m))
  T : OexC K (errA m)
  i : ∃ fI fd, PySem.W.findIn K (.ref (errA m)) "__init__" = some (some (.ref fI)) ∧ PySem.W.typeIn K (.ref fI) = some (.type "function") ∧ FnOk P w K mg base (L2.CX P w) 1 fI fd ["self", f] (spI1 (errA m) f) ∧ Binds K fd ["self", f] []
section
variable [TC : TabCtx] [EC : ErrCtx] {X : Cx} {W : WX} {e : Expr} {es : List Expr} {te : DTE} {pos p pos2 : Pos} {x f : Str} {m k : Nat}
theorem passes0 {X : Cx} : Passes (L2.CX X.prog X.w) X (fun _ _ _ => False) := fun _ _ _ _ _ _ _ h => by
  obtain ⟨_, _, _, _, _, _, _, _, _, _, _, _, z⟩ := h
  exact z.elim
/-- raise X(e) -/
def dRaise1 (m : Nat) (f : Str) (te : DTE) : DTS := fun E ρ st => te ρ st (fun y st1 => E.xs (errX m [(f, y)]) ρ st1) E.xs
def dRaise0 (m : Nat) : DTS := fun E ρ st => E.xs (errX m []) ρ st
theorem ds_raise1 (hc : X.calm = true) (tk : Takes X W) (R : Er1 X.prog X.w X.K X.mg X.base m x f) (hr : Room k X.A) (hk : 2 ≤ k) (hg : Gl X x) (ha : DE X W e te)
    (hdb : (x == ("__debug__" : Str)) = false := by decide) (hs : starEach [e] X.env = (false, eval e X.env) :: starEach [] X.env := by rfl) (hpl : (backTo pos (starEach [] X.env)).any (·.1) = false := by rfl) :
    DS X W (.Raise (some (.Call (.Name x p) [e] [] pos)) none pos2) (dRaise1 m f te) := by
  obtain ⟨g, T, fI, fd, i1, i2, F, hb⟩ := R
  refine ps_weak (ps_raise hc tk (pmk_oex (ds := []) (dvs := []) T i1 i2 F (hr.mono hk) hb .nil passes0 hg g (da_cons ha da_nil hs) hdb hs hpl)) fun D σ H ⟨ρ, st, μ, DD, hS, ht, hO⟩ => ?_
  refine ⟨ρ, st, μ, fun ds st1 => ∃ y, ds = [y] ∧ DD.xs (errX m [(f, y)]) ρ st1, _, hS, ?_, fun ds st1 H1 μ1 vs hx e1 s1 rv => ?_, hO.xs⟩
  · show te ρ st _ _
    have : (fun x st1 => dNil ρ st1 (fun xs st2 => ∃ y, x :: xs = [y] ∧ DD.xs (errX m [(f, y)]) ρ st2) DD.xs) = fun y st1 => DD.xs (errX m [(f, y)]) ρ st1 := by
      funext y st1
      apply propext
      constructor
      · rintro ⟨z, e, h⟩
        cases e
        exact h
      · intro h
        exact ⟨y, rfl, h⟩
    rw [this]
    exact ht
  · obtain ⟨y, rfl, hx⟩ := hx
    obtain ⟨v, r, rfl, rv1, rfl⟩ := rv
    refine ⟨by show 1 ≤ 1000; decide, fun a ha => ⟨a, v, rfl, upd_same, fun dx hdx hne => ⟨rfl, dx, [(f, v)], upd_same, ?_, ?_, ?_⟩⟩⟩
    · rw [upd_ne hne, upd_same]
    · rw [upd_ne hne] at hdx
      exact hdx
    · rw [upd_ne hne] at hdx
      have eH : upd (del (upd (upd (upd H1 a (exo a (errA m) none)) dx (exd dx [(f, v)])) a (exo a (errA m) (some dx))) a) dx (.xd [(f, v)]) = upd H1 dx (.xd [(f, v)]) := by
        funext b
        by_cases hb : b = dx
        · rw [hb, upd_same, upd_same]
        · rw [upd_ne hb, upd_ne hb]
          by_cases hba : b = a
          · rw [hba, del_same, ha]
          · rw [del_ne hba, upd_ne hba, upd_ne hb, upd_ne hba]
      rw [eH]
      have e2 := Ext.laid (μ := μ1) (o := .xd [(f, v)]) hdx
      exact hO.xs _ _ _ σ _ μ1 _ _ hx (e1.trans e2) ⟨(hS.e.mono e1).mono e2, s1.laid hdx⟩ ⟨rfl, .inr ⟨dx, [(f, v)], rfl, upd_same, rfl, (Reps.one rv1).mono e2⟩⟩
end
/-- what a suite knows beside -/
abbrev tcx (TC : TabCtx) (d : Option Addr) (fs : List (Str × D)) : TabCtx := ⟨TC.T, match d with | some dd => (dd, fs) :: TC.xs | none => TC.xs⟩
def Caught [EC : ErrCtx] (ms : List Nat) (x : DX) : Prop := ∃ m ∈ ms, x.cls = .ref (errA m)
section
variable {TC : TabCtx} {K : PySem.W.Frag} {H : Hp} {μ : List Addr} {st : Sto} {d : Option Addr} {fs : List (Str × D)}
theorem SRep.drop (s : @SRep (tcx TC d fs) K st μ H) : @SRep TC K st μ H := by
  obtain ⟨h1, h2, h3, h4, h5⟩ := s
  refine @SRep.mk TC K st μ H h1 h2 h3 h4 fun p hp => h5 p ?_
  cases d with
  | none => exact hp
  | some dd => exact List.mem_cons_of_mem _ hp
theorem SRep.no_xd (s : @SRep TC K st μ H) {a : Addr} {gs : List (Str × V)} (h : H a = some (.xd gs)) : a ∉ μ := fun hm => by
  obtain ⟨n, b, o, _, _, ho, r⟩ := s.mem hm
  rw [h] at ho
  cases ho
  cases b with
  | lst ds => obtain ⟨vs, z, _⟩ := r; cases z
  | ins C fs => obtain ⟨dx, gs, z, _⟩ := r; cases z
  | dK fs => obtain ⟨gs, z, _⟩ := r; cases z
  | err e C d => have z : HO.xd _ = HO.ext _ := r; cases z
  | xdt dx fs => obtain ⟨gs, z, _⟩ := r; have z' : HO.xd _ = HO.ext _ := z; cases z'
  | dkF od fs => obtain ⟨gs, z, _⟩ := r; cases z
theorem SRep.hold (s : @SRep TC K st μ H) (h : ∀ dd, d = some dd → ∃ gs, H dd = some (.xd gs) ∧ OFs K H μ fs gs) : @SRep (tcx TC d fs) K st μ H := by
  have hno := fun (a : Addr) gs h => SRep.no_xd (a := a) (gs := gs) s h
  obtain ⟨h1, h2, h3, h4, h5⟩ := s
  refine @SRep.mk (tcx TC d fs) K st μ H h1 h2 h3 h4 fun p hp => ?_
  cases d with
  | none => exact h5 p hp
  | some dd =>
    rcases List.mem_cons.mp (show p ∈ (dd, fs) :: TC.xs from hp) with e | hp
    · obtain ⟨gs, e1, e2⟩ := h dd rfl
      rw [e]
      exact ⟨hno _ _ e1, gs, e1, e2⟩
    · exact h5 p hp
theorem OFs.lookup {fs : List (Str × D)} {gs : List (Str × V)} {n : Str} {y : D} : OFs K H μ fs gs → fs.lookup n = some y → ∃ v, gs.lookup n = some v ∧ Rep K H μ y v := by
  induction fs generalizing gs with
  | nil => intro _ h; cases h
  | cons p fs ih =>
    rintro ⟨h1, h2⟩ hl
    cases gs with
    | nil => cases h1
    | cons q gs =>
      obtain ⟨pn, pd⟩ := p
      obtain ⟨qn, qv⟩ := q
      simp only [List.map_cons, List.cons.injEq] at h1
      obtain ⟨v, r, e, r1, r2⟩ := h2
      simp only [List.map_cons, List.cons.injEq] at e
      obtain ⟨rfl, rfl⟩ := e
      obtain ⟨rfl, h1⟩ := h1
      by_cases e : n = pn
      · subst e
        simp [List.lookup] at hl ⊢
        subst hl
        exact r1
      · have e' : (n == pn) = false := by simpa using e
        simp only [List.lookup, e'] at hl ⊢
        exact ih ⟨h1, r2⟩ hl
end
section
variable [TC : TabCtx] [EC : ErrCtx] {X : Cx} {W : WX} {body suite : List Stmt} {b₀ : Stmt} {np pos pos' : Pos} {x n : Str} {i m : Nat} {ms : List Nat} {tb : DTS} {ts : Addr → DX → DTS}
/-- try: body, except C as n: suite -/
def dTryAs (ms : List Nat) (i : Nat) (tb : DTS) (ts : Addr → DX → DTS) : DTS := fun E ρ st => tb { E with xs := fun x ρ1 st1 => Caught ms x ∧ ∀ a, ts a x { nx := fun ρ2 st2 => E.nx (ρ2.set i none) st2, rt := E.rt, bk := fun ρ2 st2 => E.bk (ρ2.set i none) st2, ct := fun ρ2 st2 => E.ct (ρ2.set i none) st2 } (ρ1.set i (some (.adr a))) st1 } ρ st
/-- try: body, except C: suite -/
def dTryOnly (ms : List Nat) (tb : DTS) (ts : Addr → DX → DTS) : DTS := fun E ρ st => tb { E with xs := fun x ρ1 st1 => Caught ms x ∧ ∀ a, ts a x { nx := E.nx, rt := E.rt, bk := E.bk, ct := E.ct } ρ1 st1 } ρ st
theorem ds_try_as (hs : X.stack = X.env :: X.outer) (hf : X.env.frame = some X.env.locals) (hN : X.N.Nodup) (hi : X.N[i]? = some n) (hln : X.env.kindOf n = some .local) (hc : Names X x (.ref (errA m))) (tk : Takes X W)
    (hm : ∀ q ∈ ms, PySem.W.exmOne X.K (.ref (errA q)) (.ref (errA m)) = some true)
    (hb : ∀ (W : WX) (pn : List (Addr × Obj)) (xe : Value → Shared → Prop), Takes (X.tr pn xe) W → PassesOwn (model X.prog X.w) X.A X.env xe → DSs (X.tr pn xe) W body tb)
    (hsu : ∀ (TC' : TabCtx) (a : Addr) (oe : Obj) (x : DX) (d : Option Addr) (pn : List (Addr × Obj)), (∀ dd, d = some dd → (dd, x.fs) ∈ TC'.xs) → Zc x.cls d oe → (∃ vs, oe.data = .fields vs) → (d = none → x.fs = []) → @DSs TC' (X.suite a ((a, oe) :: pn)) W0 (b₀ :: suite) (ts a x)) :
    DS X W (.Try body [.ExceptHandler (some (.Name x np)) (some n) (b₀ :: suite) pos'] [] [] pos) (dTryAs ms i tb ts) := by
  refine ps_weak (ps_try_as (tb := fun W => liftS X.K W tb) (ts := fun a cls d D σ H => ∃ x : DX, cls = x.cls ∧ (d = none → x.fs = []) ∧ @liftS (tcx TC d x.fs) X.K W0 (ts a x) D σ H) (Wout := W) hs hf hN hi hln hc tk (fun W pn xe tk pw => hb W pn xe tk pw) fun a oe cls d pn hz hv => ?_) fun D σ H ⟨ρ, st, μ, DD, hS, ht, hO⟩ => ?_
  · exact ⟨fun pins s σ H D I ⟨x, ec, hd, h⟩ => (hsu (tcx TC d x.fs) a oe x d pn (fun dd e => by subst e; exact List.mem_cons_self) (ec ▸ hz) hv hd).run pins s σ H D I h⟩
  · refine ⟨ρ, st, μ, _, hS, ht, hO.nx, hO.rt, hO.bk, hO.ct, ?_⟩
    rintro x ρ1 st1 σ1 H1 μ1 c dx ⟨⟨q, hq, ec⟩, hx⟩ e1 hS1 ⟨rc, rx⟩
    refine ⟨true, by rw [rc, ec]; exact hm q hq, fun _ a ha => ⟨x, rc, ?_, ?_⟩, fun z => nomatch z⟩
    · intro hd
      rcases rx with ⟨_, h⟩ | ⟨dd, gs, h, _⟩
      · exact h
      · rw [hd] at h; cases h
    · have sh : @SRep (tcx TC dx x.fs) X.K st1 μ1 H1 := hS1.s.hold fun dd hd => by
        rcases rx with ⟨h, _⟩ | ⟨d2, gs, h, h1, h2⟩
        · rw [hd] at h; cases h
        · rw [hd] at h; cases h
          exact ⟨gs, h1, h2⟩
      have back : ∀ {st' : Sto} {H' : Hp} {μ' : List Addr} {ρ' : Env'} {σ' : St}, @Stt (tcx TC dx x.fs) X.K ρ' st' μ' σ' H' → Stt X.K (ρ'.set i none) st' μ' (σ'.set i none) H' := fun z => by
        obtain ⟨z1, z2⟩ := z
        exact ⟨z1.unset i, z2.drop⟩
      have hS2 : @Stt (tcx TC dx x.fs) X.K (ρ1.set i (some (.adr a))) st1 μ1 (σ1.set i (some (.ref a))) H1 := @Stt.mk (tcx TC dx x.fs) _ _ _ _ _ _ (hS1.e.set i (show Rep X.K H1 μ1 (.adr a) (.ref a) from rfl)) sh
      refine ⟨ρ1.set i (some (.adr a)), st1, μ1, _, hS2, hx a, @SOk.mk (tcx TC dx x.fs) _ _ _ _ _ _ ?_ ?_ ?_ ?_ (fun _ _ _ _ _ _ _ _ (z : False) => z.elim)⟩
      · exact fun ρ2 st2 σ2 H2 μ2 q e2 s2 => hO.nx _ _ _ _ _ q (e1.trans e2) (back s2)
      · exact fun y st2 H2 μ2 v q e2 s2 r => hO.rt _ _ _ _ _ q (e1.trans e2) s2.drop r
      · exact fun ρ2 st2 σ2 H2 μ2 q e2 s2 => hO.bk _ _ _ _ _ q (e1.trans e2) (back s2)
      · exact fun ρ2 st2 σ2 H2 μ2 q e2 s2 => hO.ct _ _ _ _ _ q (e1.trans e2) (back s2)
end
end DL
namespace L2
open PySem PySem.Spec PyProof.Rows
/-- isinstance(e, c), e the exception that the suite holds, its dict told -/
theorem call_isEd {X : Cx} {a D : Addr} {oe : Obj} {pn : List (Addr × Obj)} {d : Option Addr} (C : ExcC X.K D) (hz : Zc (.ref D) d oe) (hf : ∃ vs, oe.data = .fields vs) : CallR (X.suite a ((a, oe) :: pn)) (.builtin "isinstance")
    (fun xs H Q => (∀ dd, d = some dd → ∃ gs, H dd = some (.xd gs)) ∧ rIsE X.K D a xs H Q) := by
  intro pins s σ H xs us Q I r h
  obtain ⟨hdd, c, cv, b, rfl, hcv, e, q⟩ := h
  cases r with
  | cons rx rr =>
    cases rr with
    | cons rt rr =>
      cases rr
      cases rx
      have ec := hcv _ rt
      subst ec
      obtain ⟨hget, _⟩ := I.pin (a, oe) (List.mem_append.mpr (.inl List.mem_cons_self))
      obtain ⟨vs, hv⟩ := hf
      have hcl : (PySem.W.clsIn X.K D).isSome = true := by
        obtain ⟨cd, hc, _⟩ := PySem.W.any_some C.hd
        rw [hc]; rfl
      have J : ∃ od, PySem.W.InstAt s.heap a oe D od := by
        cases d with
        | none =>
          refine ⟨none, hget, hz.1, ?_, ?_⟩
          · unfold PySem.W.notCls; rw [hv] <;> rfl
          · rw [hz.2]; trivial
        | some dd =>
          obtain ⟨gs, ea⟩ := hdd dd rfl
          have hx : ObjOk X.prog X.w H s.heap dd (.xd gs) := I.hok dd _ ea
          obtain ⟨mA, hns, hr⟩ := hx
          obtain ⟨od, ho, hl⟩ := lookIn_ns hns
          exact ⟨some od, hget, hz.1, by unfold PySem.W.notCls; rw [hv] <;> rfl, by rw [hz.2]; exact ho⟩
      obtain ⟨od, J⟩ := J
      exact PySem.W.kia_one (PySem.W.kitx_exc hcl C.hg C.hk C.hs C.ha C.hn C.ht C.hm) I.kIn J e (fun z => nomatch z) fun tk => ⟨.bl b, H, I.kept (t' := tk) fun _ _ z => z, rfl, q⟩
end L2
namespace DL
open PySem L2 PySem.Spec
open PyProof.Rows hiding St
theorem kit_own {K : PySem.W.Frag} {q x : Addr} {b : Bool} (hd : PySem.W.hasDictIn K x = true) (ht : PySem.W.typeIn K (.ref x) = some (.type "type")) (h0 : PySem.W.subIn K (.ref q) (.ref q) = some true) (hs : PySem.W.subIn K (.ref q) (.ref x) = some b) : PySem.W.kitOne K (.ref q) (.ref x) = some b := by
  obtain ⟨cd, hc, _⟩ := PySem.W.any_some hd
  unfold PySem.W.kitOne
  by_cases e : (Value.ref q == Value.ref x) = true
  · rw [if_pos e]
    have : q = x := Value.ref.inj (beq_iff_eq.mp e)
    subst this
    exact h0.symm.trans hs
  · rw [if_neg e]
    unfold PySem.W.kitCls
    dsimp only
    rw [if_pos (by rw [hc, ht]; rfl)]
    exact hs
theorem kit_ve {K : PySem.W.Frag} {q : Addr} (hs : PySem.W.subIn K (.ref q) (.type "ValueError") = some true) : PySem.W.kitOne K (.ref q) (.type "ValueError") = some true := by
  unfold PySem.W.kitOne
  rw [if_neg (by simp)]
  unfold PySem.W.kitCls
  dsimp only
  rw [if_pos (by decide +kernel)]
  exact hs
/-- a sign in a text -/
def dInC : D2 := fun x y st Q => ∃ (c : Nat) (z : Str), x = .str ⟨#[c]⟩ ∧ y = .str z ∧ Q (.bl (decide (c ∈ z.cps.toList))) st
theorem cm_inC [TC : TabCtx] {X : Cx} : Cm X .In dInC := ⟨_, op_in_sign, fun {H μ st x y v u Qd Q} s rx ry h hQ => by
  obtain ⟨c, z, rfl, rfl, q⟩ := h
  exact ⟨c, z, rx, ry, hQ _ _ _ _ _ q (Ext.refl _ _) s rfl⟩⟩
/-- what is read of a held error -/
structure ErF [EC : ErrCtx] (K : PySem.W.Frag) (m : Nat) : Prop where
  xf : XfC K (errA m)
  ex : ExcC K (errA m)
section
variable [TC : TabCtx] [EC : ErrCtx] {X : Cx} {W : WX} {e c : Expr} {te : DTE} {pos p : Pos} {x n : Str} {m : Nat} {a : Addr} {oe : Obj} {xx : DX} {d : Option Addr} {pn : List (Addr × Obj)}
/-- e.f, e the exception held -/
def dXf (a : Addr) (x : DX) (m : Nat) (n : Str) (te : DTE) : DTE := fun ρ st Q Z => te ρ st (fun y st1 => y = .adr a ∧ x.cls = .ref (errA m) ∧ ∃ v, x.fs.lookup n = some v ∧ Q v st1) Z
theorem de_xf (hT : ∀ dd, d = some dd → (dd, xx.fs) ∈ TC.xs) (T : XfC X.K (errA m)) (hno : PySem.W.findIn X.K (.ref (errA m)) n = some none) (hz : Zc xx.cls d oe) (hf : ∃ vs, oe.data = .fields vs) (hd : d = none → xx.fs = []) (he : DE (X.suite a ((a, oe) :: pn)) W e te)
    (hb : attributeBase e n X.env (eval e X.env) = eval e X.env := by rfl) : DE (X.suite a ((a, oe) :: pn)) W (.Attribute e n pos) (dXf a xx m n te) :=
  pe_weak (pe_xf T hno hz hf he hb) fun σ H Q ⟨ρ, st, μ, Qd, Z, hS, ht, hQ, hZ⟩ => ⟨ρ, st, μ, _, Z, hS, ht, fun y st1 H1 μ1 v hx e1 s1 rv => by
    obtain ⟨rfl, ec, dv, hl, q⟩ := hx
    refine ⟨rv, ec, ?_⟩
    cases d with
    | none => rw [hd rfl] at hl; cases hl
    | some dd =>
      obtain ⟨h1, h2, h3, h4, h5⟩ := s1
      obtain ⟨hn, gs, eg, r⟩ := h5 (dd, xx.fs) (hT dd rfl)
      obtain ⟨w, hw, rw'⟩ := OFs.lookup r hl
      exact ⟨dd, gs, w, rfl, eg, hw, hQ _ _ _ _ _ q e1 ⟨h1, h2, h3, h4, h5⟩ rw'⟩, hZ⟩
/-- isinstance(e, c), e the exception held; tbl: its class, the answer -/
def dXi (a : Addr) (x : DX) (tbl : List (Nat × Bool)) (te : DTE) : DTE := fun ρ st Q Z => ∃ p ∈ tbl, x.cls = .ref (errA p.1) ∧ te ρ st (fun y st1 => y = .adr a ∧ Q (.bl p.2) st1) Z
theorem de_xi {tbl : List (Nat × Bool)} {cv : V} {cu : Value} (hT : ∀ dd, d = some dd → (dd, xx.fs) ∈ TC.xs) (hg : Gl X "isinstance") (hm : X.mg "isinstance" = none) (ht : ∀ p ∈ tbl, ErF X.K p.1 ∧ PySem.W.kitOne X.K (.ref (errA p.1)) cu = some p.2) (hcv : ∀ u, RelV cv u → u = cu)
    (hz : Zc xx.cls d oe) (hf : ∃ vs, oe.data = .fields vs) (he : DE (X.suite a ((a, oe) :: pn)) W e te) (hc : PE (X.suite a ((a, oe) :: pn)) c (tC cv))
    (hs1 : starEach [e, c] X.env = (false, eval e X.env) :: starEach [c] X.env := by rfl) (hs2 : starEach [c] X.env = (false, eval c X.env) :: starEach [] X.env := by rfl) (hpl : (backTo pos (starEach [c] X.env)).any (·.1) = false := by rfl) :
    DE (X.suite a ((a, oe) :: pn)) W (.Call (.Name "isinstance" p) [e, c] [] pos) (dXi a xx tbl te) := by
  refine ⟨fun pins s σ H Q I ⟨ρ, st, μ, Qd, Z, hS, ⟨q, hq, ec, hx⟩, hQ, hZ⟩ => ?_⟩
  have hz' : Zc (.ref (errA q.1)) d oe := ec ▸ hz
  have R := pe_callB (call_isEd (X := X) (pn := pn) (ht q hq).1.ex hz' hf) hg hm PyProof.Rows.boot_isinstance (pa_cons he (pa_cons hc pa_nil hs2) hs1) (by decide) (by decide) hs1 hpl (p := p) (pos := pos)
  refine R.run pins s σ H Q I ⟨ρ, st, μ, _, Z, hS, hx, fun y st1 H1 μ1 v hy e1 s1 rv => ?_, hZ⟩
  obtain ⟨rfl, qq⟩ := hy
  have qq' := hQ _ _ _ _ _ qq e1 s1 rfl
  refine ⟨fun dd hdd => ?_, cv, cu, q.2, ?_, hcv, (ht q hq).2, qq'⟩
  · obtain ⟨h1, h2, h3, h4, h5⟩ := s1
    subst hdd
    obtain ⟨hn, gs, eg, r⟩ := h5 (dd, xx.fs) (hT dd rfl)
    exact ⟨gs, eg⟩
  · rw [show v = _ from rv]
end
section
variable [EC : ErrCtx] {st : Sto} {ρ : Env'} {Q : DK} {Z : DZ} {E : DEnds} {te : DTE} {tb : DTS} {ts : Addr → DX → DTS} {m i : Nat} {ms : List Nat} {f : Str} {a : Addr} {x : DX}
@[simp] theorem s_raise1 : dRaise1 m f te E ρ st = te ρ st (fun y st1 => E.xs (errX m [(f, y)]) ρ st1) E.xs := rfl
@[simp] theorem s_raise0 : dRaise0 m E ρ st = E.xs (errX m []) ρ st := rfl
@[simp] theorem s_tryAs : dTryAs ms i tb ts E ρ st = tb { E with xs := fun x ρ1 st1 => Caught ms x ∧ ∀ a, ts a x { nx := fun ρ2 st2 => E.nx (ρ2.set i none) st2, rt := E.rt, bk := fun ρ2 st2 => E.bk (ρ2.set i none) st2, ct := fun ρ2 st2 => E.ct (ρ2.set i none) st2 } (ρ1.set i (some (.adr a))) st1 } ρ st := rfl
@[simp] theorem s_tryOnly : dTryOnly ms tb ts E ρ st = tb { E with xs := fun x ρ1 st1 => Caught ms x ∧ ∀ a, ts a x { nx := E.nx, rt := E.rt, bk := E.bk, ct := E.ct } ρ1 st1 } ρ st := rfl
@[simp] theorem s_xf {n : Str} : dXf a x m n te ρ st Q Z = te ρ st (fun y st1 => y = .adr a ∧ x.cls = .ref (errA m) ∧ ∃ v, x.fs.lookup n = some v ∧ Q v st1) Z := rfl
@[simp] theorem s_xi {tbl : List (Nat × Bool)} : dXi a x tbl te ρ st Q Z = ∃ p ∈ tbl, x.cls = .ref (errA p.1) ∧ te ρ st (fun y st1 => y = .adr a ∧ Q (.bl p.2) st1) Z := rfl
@[simp] theorem errX_cls {fs : List (Str × D)} : (errX m fs).cls = .ref (errA m) := rfl
@[simp] theorem errX_fs {fs : List (Str × D)} : (errX m fs).fs = fs := rfl
theorem all_cons {α : Type} {P : α → Prop} {a : α} {as : List α} (h : P a) (hs : ∀ q ∈ as, P q) : ∀ q ∈ a :: as, P q := fun q hq => by
  rcases List.mem_cons.mp hq with e | hq
  · rw [e]; exact h
  · exact hs q hq
theorem caught {fs : List (Str × D)} (h : m ∈ ms) : Caught ms (errX m fs) := ⟨m, h, rfl⟩
end
end DL
namespace DL
open PySem L2 PySem.Spec
open PyProof.Rows hiding St
/-- a method keeps its promise -/
def HasM [TC : TabCtx] [EC : ErrCtx] (P : Program) (w : World) (K : PySem.W.Frag) (mg : Str → Option Value) (base : Heap) (k : Nat) (m : Nat) (x : Str) (n : Nat) (dsp : DSp) : Prop :=
  ∃ f fd ps, FnOk P w K mg base (L2.CX P w) k f fd ps (liftSp K n dsp) ∧ Meth K (errA m) x f ∧ Binds K fd ps []
theorem HasM.mono [TC : TabCtx] [EC : ErrCtx] {P : Program} {w : World} {K : PySem.W.Frag} {mg : Str → Option Value} {base : Heap} {j k m : Nat} {x : Str} {n : Nat} {dsp : DSp} (h : HasM P w K mg base j m x n dsp) (hk : j ≤ k) : HasM P w K mg base k m x n dsp := by
  obtain ⟨f, fd, ps, F, r⟩ := h
  exact ⟨f, fd, ps, F.mono hk, r⟩
section
variable [TC : TabCtx] [EC : ErrCtx] {X : Cx} {W : WX} {e o : Expr} {es : List Expr} {te to : DTE} {t : DTA} {pos p pos2 : Pos} {x f : Str} {m k n : Nat} {dsp : DSp}
/-- o.f -/
def dFld (f : Str) (ms : List Nat) (te : DTE) : DTE := fun ρ st Q Z => te ρ st (fun y st1 => ∃ n m fs v, y = .loc n ∧ m ∈ ms ∧ st1[n]? = some (.ins (errA m) fs) ∧ fs.lookup f = some v ∧ Q v st1) Z
theorem PassesAt.all {E : XK} (h : ∀ σ, PassesAt (L2.CX X.prog X.w) X σ E) : Passes (L2.CX X.prog X.w) X E := fun pins σ H s e s' I c => h σ pins H s e s' I c
end
end DL
set_option maxHeartbeats 4000000
namespace L2
open PySem PySem.Spec PyProof.Rows
end L2
set_option maxHeartbeats 4000000
namespace L2
open PySem PySem.Spec PyProof.Rows
end L2
namespace DL
open PySem L2 PySem.Spec
open PyProof.Rows hiding St
/-- an exception in the store: at a, of class q, its fields -/
def ErrAt [EC : ErrCtx] (st : Sto) (a : Addr) (q : Nat) (fs : List (Str × D)) : Prop := ∃ (n : Nat) (d : Option Addr), st[n]? = some (.err a (errA q) d) ∧ ((d = none ∧ fs = []) ∨ ∃ (dd : Addr) (k : Nat), d = some dd ∧ st[k]? = some (.xdt dd fs))
section
variable [TC : TabCtx] [EC : ErrCtx] {X : Cx} {W : WX} {e c : Expr} {es : List Expr} {te ta tb : DTE} {tA : DTA} {pos p : Pos} {x f : Str} {m k : Nat}
/-- X(e), kept -/
def dMkE1 (m : Nat) (f : Str) (te : DTE) : DTE := fun ρ st Q Z => te ρ st (fun y st1 => ∀ a dx, Q (.adr a) (st1 ++ [.xdt dx [(f, y)], .err a (errA m) (some dx)])) Z
def dMkE0 (m : Nat) : DTE := fun _ st Q _ => ∀ a, Q (.adr a) (st ++ [.err a (errA m) none])
theorem ErrAt.get {K : PySem.W.Frag} {st : Sto} {μ : List Addr} {H : Hp} {a : Addr} {q : Nat} {fs : List (Str × D)} (h : ErrAt st a q fs) (s : SRep K st μ H) :
    ∃ b d, H b = some (exo a (errA q) d) ∧ ((d = none ∧ fs = []) ∨ ∃ dd qq gs, d = some dd ∧ H qq = some (exd dd gs) ∧ OFs K H μ fs gs) := by
  obtain ⟨n, d, h1, h2⟩ := h
  obtain ⟨b, o, e1, e2, r⟩ := s.at' _ _ h1
  rw [show o = exo a (errA q) d from r] at e2
  refine ⟨b, d, e2, ?_⟩
  rcases h2 with h2 | ⟨dd, k, e, h2⟩
  · exact .inl h2
  · obtain ⟨qq, o, e3, e4, gs, rfl, r⟩ := s.at' _ _ h2
    exact .inr ⟨dd, qq, gs, e, e4, r⟩
/-- isinstance(e, c), e an exception of the store -/
def dIsE (ms : List Nat) (g : Nat → Bool) (te : DTE) : DTE := fun ρ st Q Z => te ρ st (fun y st1 => ∃ a q fs, y = .adr a ∧ q ∈ ms ∧ ErrAt st1 a q fs ∧ Q (.bl (g q)) st1) Z
/-- e.f, e an exception of the store -/
def dErF (f : Str) (ms : List Nat) (te : DTE) : DTE := fun ρ st Q Z => te ρ st (fun y st1 => ∃ a q fs v, y = .adr a ∧ q ∈ ms ∧ ErrAt st1 a q fs ∧ fs.lookup f = some v ∧ Q v st1) Z
/-- a dict that is written once -/
def dFrz (te : DTE) : DTE := fun ρ st Q Z => te ρ st (fun y st1 => ∃ n kvs, y = .loc n ∧ st1[n]? = some (.dK kvs) ∧ ∀ od, Q (.loc n) (st1.set n (.dkF od kvs))) Z
/-- d[k] of it -/
def dDGetF (td ti : DTE) : DTE := fun ρ st Q Z => td ρ st (fun x st1 => ti ρ st1 (fun y st2 => ∃ n od kvs k v, x = .loc n ∧ st2[n]? = some (.dkF od kvs) ∧ keyD y = some k ∧ valD kvs k = some v ∧ Q v st2) Z) Z
/-- its keys -/
def dKeyD : Key → D
  | .inl i => .int i
  | .inr x => .str x
def iKF (te : DTE) : DTI := fun ρ st Q Z => te ρ st (fun x st1 => ∃ n od kvs, x = .loc n ∧ st1[n]? = some (.dkF od kvs) ∧ Q (kvs.map fun p => dKeyD p.1) (fun _ => True) st1) Z
/-- isinstance(e, C), e an instance of C -/
def dIsC1 (m : Nat) (te : DTE) : DTE := fun ρ st Q Z => te ρ st (fun y st1 => ∃ n fs, y = .loc n ∧ st1[n]? = some (.ins (errA m) fs) ∧ Q (.bl true) st1) Z
end
section
variable [EC : ErrCtx] {st : Sto} {ρ : Env'} {Q : DK} {Z : DZ} {E : DEnds} {te td ti : DTE} {m n : Nat} {ms : List Nat} {f : Str} {x y : D} {g : Nat → Bool}
@[simp] theorem s_mkE1 : dMkE1 m f te ρ st Q Z = te ρ st (fun y st1 => ∀ a dx, Q (.adr a) (st1 ++ [.xdt dx [(f, y)], .err a (errA m) (some dx)])) Z := rfl
@[simp] theorem s_mkE0 : dMkE0 m ρ st Q Z = ∀ a, Q (.adr a) (st ++ [.err a (errA m) none]) := rfl
@[simp] theorem s_isE : dIsE ms g te ρ st Q Z = te ρ st (fun y st1 => ∃ a q fs, y = .adr a ∧ q ∈ ms ∧ ErrAt st1 a q fs ∧ Q (.bl (g q)) st1) Z := rfl
@[simp] theorem s_erF : dErF f ms te ρ st Q Z = te ρ st (fun y st1 => ∃ a q fs v, y = .adr a ∧ q ∈ ms ∧ ErrAt st1 a q fs ∧ fs.lookup f = some v ∧ Q v st1) Z := rfl
omit [EC : ErrCtx] in
@[simp] theorem s_frz : dFrz te ρ st Q Z = te ρ st (fun y st1 => ∃ n kvs, y = .loc n ∧ st1[n]? = some (.dK kvs) ∧ ∀ od, Q (.loc n) (st1.set n (.dkF od kvs))) Z := rfl
omit [EC : ErrCtx] in
@[simp] theorem s_dgetF : dDGetF td ti ρ st Q Z = td ρ st (fun x st1 => ti ρ st1 (fun y st2 => ∃ n od kvs k v, x = .loc n ∧ st2[n]? = some (.dkF od kvs) ∧ keyD y = some k ∧ valD kvs k = some v ∧ Q v st2) Z) Z := rfl
omit [EC : ErrCtx] in
@[simp] theorem s_iKF {QI : List D → (Sto → Prop) → Sto → Prop} : iKF te ρ st QI Z = te ρ st (fun x st1 => ∃ n od kvs, x = .loc n ∧ st1[n]? = some (.dkF od kvs) ∧ QI (kvs.map fun p => dKeyD p.1) (fun _ => True) st1) Z := rfl
@[simp] theorem s_isC1 : dIsC1 m te ρ st Q Z = te ρ st (fun y st1 => ∃ n fs, y = .loc n ∧ st1[n]? = some (.ins (errA m) fs) ∧ Q (.bl true) st1) Z := rfl
@[simp] theorem s_fld {ms : List Nat} : dFld f ms te ρ st Q Z = te ρ st (fun y st1 => ∃ n m fs v, y = .loc n ∧ m ∈ ms ∧ st1[n]? = some (.ins (errA m) fs) ∧ fs.lookup f = some v ∧ Q v st1) Z := rfl
end
end DL
namespace DL
open PySem L2 PySem.Spec
open PyProof.Rows hiding St
end DL
set_option maxHeartbeats 4000000
namespace DL
open PySem L2 PySem.Spec
open PyProof.Rows hiding St
end DL
set_option maxHeartbeats 4000000
namespace L2
open PySem PySem.Spec PyProof.Rows
end L2
namespace DL
open PySem L2 PySem.Spec
open PyProof.Rows hiding St
variable [TC : TabCtx]
def dRemP : DM := fun x ds st Q => match x, ds with
  | .str a, [.str b] => a.length ≤ sizeLine ∧ Q (.str (Txt.removeprefix a b)) st
  | _, _ => False
def dFind : DM := fun x ds st Q => match x, ds with
  | .str a, [.str b] => Q (.int (Txt.find a b)) st
  | _, _ => False
theorem find_ok {K : PySem.W.Frag} : DMt K (fun x xs H Q => ∃ a b, x = .str a ∧ xs = [.str b] ∧ Q (.int (Txt.find a b)) H) dFind := by
  intro H μ st x v ds vs Qd Q s rx rs h hQ
  unfold dFind at h
  split at h
  · obtain ⟨u, rfl, ru⟩ := reps1 rs
    rw [show u = _ from ru]
    exact ⟨_, _, rx, rfl, hQ _ _ _ _ _ h (Ext.refl _ _) s rfl⟩
  · exact h.elim
def dStar (te : DTE) (t : DTA) : DTA := fun ρ st Q Z => te ρ st (fun x st1 => ∃ xs, itemsD st1 x = some xs ∧ t ρ st1 (fun ys st2 => Q (xs ++ ys) st2) Z) Z
theorem da_star {X : Cx} {W : WX} {e : Expr} {es : List Expr} {te : DTE} {t : DTA} {p : Pos} (he : DE X W e te) (hr : DA X W es t) (hs : starEach (.Starred e p :: es) X.env = (true, eval e X.env) :: starEach es X.env := by rfl) : DA X W (.Starred e p :: es) (dStar te t) :=
  pa_weak (StX.pa_star he hr hs) fun σ H Q ⟨ρ, st, μ, Qd, Z, hS, ht, hQ, hZ⟩ => by
    refine ⟨ρ, st, μ, _, Z, hS, ht, fun x st1 H1 μ1 v hx e1 s1 rv => ?_, hZ⟩
    obtain ⟨xs, hi, q⟩ := hx
    obtain ⟨a, vs, rfl, hsq, hv⟩ := items_ok s1 rv hi
    exact ⟨a, vs, rfl, hsq.symm, ρ, st1, μ1, _, Z, hS.mono e1 s1, q, fun ys st2 H2 μ2 us hy e2 s2 ru => hQ _ _ _ _ _ hy (e1.trans e2) s2 ((hv.mono e2).append ru), hZ.mono e1⟩
end DL
namespace DL
open PySem L2 PySem.Spec
open PyProof.Rows hiding St
section
variable {st : Sto} {ρ : Env'} {Q : DK} {Z : DZ} {te : DTE} {t : DTA} {QA : List D → Sto → Prop} {a b : Str} {n : Nat}
@[simp] theorem s_star : dStar te t ρ st QA Z = te ρ st (fun x st1 => ∃ xs, itemsD st1 x = some xs ∧ t ρ st1 (fun ys st2 => QA (xs ++ ys) st2) Z) Z := rfl
@[simp] theorem s_remP : dRemP (.str a) [.str b] st Q = (a.length ≤ sizeLine ∧ Q (.str (Txt.removeprefix a b)) st) := rfl
@[simp] theorem s_find : dFind (.str a) [.str b] st Q = Q (.int (Txt.find a b)) st := rfl
@[simp] theorem s_pop : dPop (.loc n) [] st Q = ∃ es d, st[n]? = some (.lst es) ∧ es[es.length - 1]? = some d ∧ Q d (st.set n (.lst es.dropLast)) := rfl
end
end DL
namespace DL
open PySem L2 PySem.Spec
/-- a thing of a built-in type is no instance of an own class -/
theorem kit_ty {K : PySem.W.Frag} {x : Addr} (hd : PySem.W.hasDictIn K x = true) (ht : PySem.W.typeIn K (.ref x) = some (.type "type")) : ∀ a ∈ ["NoneType", "bool", "int", "str", "tuple", "list", "dict"], PySem.W.kitOne K (.type a) (.ref x) = some false := by
  intro a ha
  obtain ⟨cd, hc, _⟩ := PySem.W.any_some hd
  unfold PySem.W.kitOne
  rw [if_neg (by simp)]
  unfold PySem.W.kitCls
  dsimp only
  rw [if_pos (by rw [hc, ht]; rfl)]
  have e : ∀ a ∈ ["NoneType", "bool", "int", "str", "tuple", "list", "dict"], ∃ l, fastBuiltinMro a = some l ∧ ∀ z ∈ l, ∃ n, z = .type n := by
    intro a ha
    simp only [List.mem_cons, List.not_mem_nil, or_false] at ha
    rcases ha with rfl | rfl | rfl | rfl | rfl | rfl | rfl
    · exact ⟨[.type "NoneType", .type "object"], by decide +kernel, by simp⟩
    · exact ⟨[.type "bool", .type "int", .type "object"], by decide +kernel, by simp⟩
    · exact ⟨[.type "int", .type "object"], by decide +kernel, by simp⟩
    · exact ⟨[.type "str", .type "object"], by decide +kernel, by simp⟩
    · exact ⟨[.type "tuple", .type "object"], by decide +kernel, by simp⟩
    · exact ⟨[.type "list", .type "object"], by decide +kernel, by simp⟩
    · exact ⟨[.type "dict", .type "object"], by decide +kernel, by simp⟩
  obtain ⟨l, h1, h2⟩ := e a ha
  have h3 : PySem.W.subIn K (.type a) (.ref x) = some false := by
    show (fastBuiltinMro a).map (·.contains (.ref x)) = some false
    rw [h1]
    simp only [Option.map_some, Option.some.injEq]
    rw [Bool.eq_false_iff]
    intro hc
    obtain ⟨n, e⟩ := h2 _ (List.contains_iff_mem.mp hc)
    cases e
  exact h3
end DL
set_option maxHeartbeats 4000000
namespace TxS
open PySem PySem.Spec PyProof.Rows L2
/-- the text of a row -/
def txt (e : Int × Value) : Str := match e.2 with
  | .str x _ => x
  | _ => Str.empty
def Row (P : Program) (w : World) (e : Int × Value) : Prop := ∃ x tk, e.2 = Value.str x tk ∧ e.1 = (PySem.strKind P w).hash x
/-- the set at a holds the texts L -/
structure Tx (P : Program) (w : World) (h : Heap) (a : Addr) (L : List Str) : Prop where
  ex : ∃ (o : Obj) (rows : Array (Int × Value)) (ep : Nat) (tab : SetTable), h.get? a = some o ∧ o.ExactSet ∧ o.data = .set rows ep tab ∧ (∀ e ∈ rows.toList, Row P w e) ∧ (rows.toList.map txt).Perm L ∧ L.Nodup ∧
    rows.size < scanBound ∧ tab.fits rows.size = true ∧ Ris tab.place.toList ∧ (w.params.followText "set-order" = true ∨ tab.led = true)
section
variable {P : Program} {w : World} {h h' : Heap} {a : Addr} {L : List Str}
theorem Tx.at (R : Tx P w h a L) (k : ∀ o, h.get? a = some o → h'.get? a = some o) : Tx P w h' a L := by
  obtain ⟨o, rows, ep, tab, ho, r⟩ := R.ex
  exact ⟨o, rows, ep, tab, k o ho, r⟩
theorem row_is {e : Int × Value} (g : Row P w e) (x : Str) : (PySem.strKind P w).is x e.2 = true ↔ txt e = x := by
  obtain ⟨y, tk, h1, _⟩ := g
  unfold txt
  rw [h1]
  show Value.isStrOf x (.str y tk) = true ↔ y = x
  simp [Value.isStrOf]
theorem rows_of {l : List (Int × Value)} (g : ∀ e ∈ l, Row P w e) : ElemsOf (PySem.strKind P w) l := fun e he => by
  obtain ⟨y, tk, h1, h2⟩ := g e he
  exact ⟨⟨y, by rw [h1]; exact strKind_is P w y tk, h2⟩, by rw [h1]; rfl⟩
theorem rows_mem {l : List (Int × Value)} (g : ∀ e ∈ l, Row P w e) (x : Str) : x ∈ l.map txt ↔ ∃ e ∈ l, (PySem.strKind P w).is x e.2 = true := by
  rw [List.mem_map]
  exact ⟨fun ⟨e, he, q⟩ => ⟨e, he, (row_is (g e he) x).2 q⟩, fun ⟨e, he, q⟩ => ⟨e, he, (row_is (g e he) x).1 q⟩⟩
theorem Tx.none {o : Obj} (ho : h.get? a = some o) (hx : o.ExactSet) (hd : o.data = .set #[] 0 (.fresh 0 0 (!w.params.followText "set-order"))) : Tx P w h a [] :=
  ⟨o, #[], 0, _, ho, hx, hd, fun e he => by simp at he, by simp, List.nodup_nil, by unfold scanBound; simp, by generalize (!w.params.followText "set-order") = b; cases b <;> rfl, by simp [SetTable.fresh, Ris], by
    cases hq : w.params.followText "set-order"
    · exact .inr rfl
    · exact .inl rfl⟩
end
section
variable {P : Program} {w : World} {A : Around} {E : Value → Shared → Prop} {s : Shared} {a : Addr} {L : List Str}
/-- what a text leaves: the rows with it, laid, perhaps all laid anew -/
theorem stored {say : Bool → Sem Unit} (hsay : ∀ (b : Bool) (s₁ : Shared) (Q' : Unit → Shared → Prop), Q' () s₁ → wpAny (model P w) A (say b) Q' E s₁)
    {o : Obj} {rows : Array (Int × Value)} {ep : Nat} {tab : SetTable} (ho : s.heap.get? a = some o) (hex : o.ExactSet) (hd : o.data = .set rows ep tab)
    {rows1 : Array (Int × Value)} {tab2 : SetTable} {M : List Str} (g1 : ∀ e ∈ rows1.toList, Row P w e) (p1 : (rows1.toList.map txt).Perm M) (nd : M.Nodup)
    (hb1 : rows1.size < scanBound) (hf2 : tab2.fits rows1.size = true) (hr2 : Ris tab2.place.toList) (hl2 : w.params.followText "set-order" = true ∨ tab2.led = true) {wasDummy : Bool} {R : Option Bool → Shared → Prop}
    (hR : ∀ h', Heap.SameBut a s.heap h' → Tx P w h' a M → R (some true) { s with heap := h' }) :
    wpAny (model P w) A (do
        storeSet a rows1 tab2
        if (!wasDummy && tab2.tooFull) = true then do
            say (relayAll tab2 rows1 (SetTable.grown rows1.size)).2.2
            storeSet a (relayAll tab2 rows1 (SetTable.grown rows1.size)).1 (relayAll tab2 rows1 (SetTable.grown rows1.size)).2.1
            pure (some true)
          else pure (some true)) R E s := by
  refine wpAny_bind (wpAny_storeSet_of ho hd ?_ (fits_of_scanBound hb1))
  have at1 := store_at (es' := rows1) (t' := tab2) ho hd
  have same1 := Heap.SameBut.update s.heap a (Obj.putSet rows1 tab2)
  split
  · have z1 := relayAll_perm tab2 rows1 (SetTable.grown rows1.size)
    have z2 := relayAll_fits tab2 rows1 (SetTable.grown rows1.size)
    have z3 := relayAll_ris tab2 rows1 (SetTable.grown rows1.size)
    have z4 := relayAll_led tab2 rows1 (SetTable.grown rows1.size)
    generalize relayAll tab2 rows1 (SetTable.grown rows1.size) = Y at z1 z2 z3 z4 ⊢
    obtain ⟨rows2, tab3, gave⟩ := Y
    dsimp only at z1 z2 z3 z4 ⊢
    have hsz : rows2.size = rows1.size := by rw [← Array.length_toList, z1.length_eq, Array.length_toList]
    refine wpAny_bind (hsay _ _ _ (wpAny_bind (wpAny_storeSet_of at1 rfl ?_ (fits_of_scanBound (by rw [hsz]; exact hb1)))))
    refine wpAny_pure (hR _ (same1.trans (Heap.SameBut.update _ a _)) ⟨_, rows2, _, tab3, store_at (es' := rows2) (t' := tab3) at1 rfl, hex, rfl, fun e he => g1 e (z1.mem_iff.mp he), (z1.map txt).trans p1, nd, by rw [hsz]; exact hb1, z2, z3, hl2.imp id fun z => by rw [z4]; exact z⟩)
  · exact wpAny_pure (hR _ same1 ⟨_, rows1, _, tab2, at1, hex, rfl, g1, p1, nd, hb1, hf2, hr2, hl2⟩)
/-- one more text -/
theorem added {x : Str} {tk : Tok} {Q : Bool → Shared → Prop} (R : Tx P w s.heap a L) (room : L.length + 1 < scanBound)
    (hQ : ∀ h' b, Heap.SameBut a s.heap h' → Tx P w h' a (if x ∈ L then L else x :: L) → Q b { s with heap := h' }) :
    wpAny (model P w) A (setAddHashed a (.str x tk) ((PySem.strKind P w).hash x)) Q E s := by
  obtain ⟨o, rows, ep, tab, ho, hex, hd, g, pm, nd, hb, hf, hr, hl⟩ := R.ex
  have hkey : (PySem.strKind P w).is x (.str x tk) = true := strKind_is P w x tk
  have hscan : (Value.str x tk).scannable = true := rfl
  have hel : ElemsOf (PySem.strKind P w) rows.toList := rows_of g
  unfold setAddHashed setAddHashedIn
  refine wpAny_holding (wpAny_bind (wpAny_setState_of ho hd hf ?_))
  dsimp only
  rw [byScan_of hscan hb hel]
  simp only [↓reduceIte]
  unfold setAddByScan
  refine wpAny_bind (wpAny_bind (wpAny_rule (wpAny_bind (wpAny_setScan_of hkey ho hd hf hel ?_))))
  cases hfi : List.findIdx? (fun e => (PySem.strKind P w).is x e.2) rows.toList with
  | some j =>
    dsimp only
    obtain ⟨hj, pj, _⟩ := List.findIdx?_eq_some_iff_getElem.mp hfi
    have hin : x ∈ L := pm.mem_iff.mp ((rows_mem g x).2 ⟨rows.toList[j], List.getElem_mem hj, pj⟩)
    exact wpAny_pure (wpAny_pure (hQ s.heap false (Heap.SameBut.refl a s.heap) (by rw [if_pos hin]; exact R)))
  | none =>
    dsimp only
    have hno : x ∉ L := fun z => by
      obtain ⟨e, he, q⟩ := (rows_mem g x).1 (pm.mem_iff.mpr z)
      have := List.findIdx?_eq_none_iff.mp hfi e he
      rw [q] at this
      cases this
    have told : ∀ (b : Bool) {s₁ : Shared} {Q' : Unit → Shared → Prop}, Q' () s₁ → wpAny (model P w) A (match b with | true => rule "set.scan.the-table-gave-way" | false => pure ()) Q' E s₁ :=
      fun b s₁ Q' q => match b with
        | true => wpAny_rule q
        | false => wpAny_pure q
    have z1 := layNew_perm tab rows ((PySem.strKind P w).hash x) (.str x tk)
    have z2 := layNew_fits tab rows ((PySem.strKind P w).hash x) (.str x tk)
    have z3 := layNew_ris tab rows ((PySem.strKind P w).hash x) (.str x tk) hr
    have z4 := layNew_led tab rows ((PySem.strKind P w).hash x) (.str x tk)
    generalize layNew tab rows ((PySem.strKind P w).hash x) (.str x tk) = Y at z1 z2 z3 z4 ⊢
    obtain ⟨rows1, tab1, wasDummy, gave⟩ := Y
    dsimp only at z1 z2 z3 z4 ⊢
    rw [Array.toList_push] at z1
    have pc : rows1.toList.Perm (((PySem.strKind P w).hash x, Value.str x tk) :: rows.toList) := z1.trans (List.perm_append_singleton _ _)
    have p1 : (rows1.toList.map txt).Perm (x :: L) := (pc.map txt).trans (pm.cons x)
    have g1 : ∀ e ∈ rows1.toList, Row P w e := fun e he => by
      rcases List.mem_cons.mp (pc.mem_iff.mp he) with z | z
      · rw [z]; exact ⟨x, tk, rfl, rfl⟩
      · exact g e z
    have nd1 : (x :: L).Nodup := List.nodup_cons.mpr ⟨hno, nd⟩
    have hsz : rows1.size = L.length + 1 := by
      have e1 := p1.length_eq
      rw [List.length_map, Array.length_toList] at e1
      exact e1
    have hb1 : rows1.size < scanBound := by rw [hsz]; exact room
    have led1 : w.params.followText "set-order" = true ∨ tab1.led = true := hl.imp id fun z => by rw [z4]; exact z
    have fin : ∀ h', Heap.SameBut a s.heap h' → Tx P w h' a (x :: L) → Q true { s with heap := h' } := fun h' sb r => hQ h' true sb (by rw [if_neg hno]; exact r)
    refine wpAny_bind (told _ ?_)
    split
    · refine wpAny_bind ?_
      rw [hashByValue_scannable 8 hscan]
      refine wpAny_pure (stored ?_ ho hex hd g1 p1 nd1 hb1 ?_ ?_ ?_ ?_)
      · exact fun b s₁ Q' q => told b q
      · first | (split <;> first | exact z2 | exact SetTable.fits_plain_off z2) | exact z2
      · first | (split <;> exact z3) | exact z3
      · first | (split <;> exact led1) | exact led1
      · exact fun h' sb r => wpAny_pure (fin h' sb r)
    · refine wpAny_bind (wpAny_pure ?_)
      simp only [↓reduceIte]
      exact stored (fun b s₁ Q' q => told b q) ho hex hd g1 p1 nd1 hb1 z2 z3 led1 fun h' sb r => wpAny_pure (fin h' sb r)
end
section
variable {prog : Program} {w : World} {A : Around} {R : Result → Shared → Prop} {I : Addr} {fp wr : List Addr} {G : Array GenState → Array GenState → Prop} {n : Nat} {P : Nat → Value → Prop} {St : Nat → Shared → Prop}
/-- all texts of a walk are put in -/
theorem putAll (W : WalksS prog w A.in1 I fp wr G n P St) (D : Addr) (hD : D ∉ fp) (xs : List Str) (hsz : xs.length = n) (hval : ∀ i v, P i v → ∃ t, v = .str (xs.getD i Str.empty) t) (room : n + 1 < scanBound) :
    ∀ (todo i : Nat) (s : Shared) (L : List Str), n - i = todo → i ≤ n → St i s → L.length ≤ i → (∀ x, x ∈ L ↔ x ∈ xs.take i) → Tx prog w s.heap D L →
      (∀ s' L', Moved (D :: wr) G s s' → (∀ x, x ∈ L' ↔ x ∈ xs) → L'.length ≤ n → Tx prog w s'.heap D L' → R (.ok (.ret .none)) s') →
      codeAny (model prog w) A (.builtin "set.update.loop" ⟨[.ref D, .ref I], []⟩) R s := by
  have hDw : D ∉ wr := fun z => hD (W.sub _ z)
  have hsub : ∀ b ∈ wr, b ∈ D :: wr := fun b hb => List.mem_cons_of_mem _ hb
  intro todo
  induction todo with
  | zero =>
    intro i s L hk hi hst hll hmem hL hR
    obtain rfl : i = n := by omega
    refine codeAny_builtin PyProof.Rows.F.entry_set_update_loop ?_
    rw [Around.under_plainId PyProof.Rows.F.plain_set_update_loop _]
    show wpAny _ A.in1 (pyNext (.ref I) >>= _) _ _ s
    refine wpAny_bind (W.done s _ _ hst fun s' hm => ?_)
    show wpAny _ A.in1 (ret Value.none) _ _ s'
    exact wpAny_pure (hR s' L (hm.mono hsub) (fun x => by rw [hmem x, ← hsz, List.take_length]) hll (hL.at fun u hu => hm.heap D _ hDw hu))
  | succ todo ih =>
    intro i s L hk hi hst hll hmem hL hR
    have hlt : i < n := by omega
    refine codeAny_builtin PyProof.Rows.F.entry_set_update_loop ?_
    rw [Around.under_plainId PyProof.Rows.F.plain_set_update_loop _]
    show wpAny _ A.in1 (pyNext (.ref I) >>= _) _ _ s
    refine wpAny_bind (W.item i s _ _ hlt hst fun v s' hP hst' hm => ?_)
    obtain ⟨t, rfl⟩ := hval i v hP
    have hx : xs[i]? = some (xs.getD i Str.empty) := by
      rw [List.getD_eq_getElem?_getD, List.getElem?_eq_getElem (by omega)]
      rfl
    generalize xs.getD i Str.empty = x at hx ⊢
    have hL' : Tx prog w s'.heap D L := hL.at fun u hu => hm.heap D _ hDw hu
    show wpAny _ A.in1 (holding [Value.str x t] (setAdd D (.str x t)) >>= _) _ _ s'
    refine wpAny_bind (wpAny_holding ?_)
    unfold setAdd
    refine wpAny_holding (wpAny_bind ((PySem.strKind prog w).pyHash (k := x) (strKind_is _ _ _ _) ?_))
    refine added (s := { s' with toks := s'.toks + 1 }) hL' (by omega) fun h' b same hnew => ?_
    have hmem' : ∀ y, y ∈ (if x ∈ L then L else x :: L) ↔ y ∈ xs.take (i + 1) := fun y => by
      have e1 : xs.take (i + 1) = xs.take i ++ [x] := by rw [List.take_add_one, hx]; rfl
      rw [e1, List.mem_append, List.mem_singleton, ← hmem y]
      split
      · rename_i hin
        exact ⟨.inl, fun z => z.elim id fun e => e ▸ hin⟩
      · rw [List.mem_cons]
        exact Or.comm
    have hlen' : (if x ∈ L then L else x :: L).length ≤ i + 1 := by
      split
      · omega
      · simp only [List.length_cons]; omega
    refine wpAny_pure ⟨plainId_quiet PyProof.Rows.F.plain_set_update_loop _, ih (i + 1) _ _ (by omega) hlt (W.frame _ s' _ _ hst' (Nat.le_succ _) fun c hc u e => ?_) hlen' hmem' hnew fun s2 L2 m2 h2 l2 t2 => ?_⟩
    · rw [same.2 c fun z : c = D => hD (by rw [← z]; exact hc)]
      exact e
    · refine hR s2 L2 (Moved.trans W.gtrans ((hm.mono hsub).then_heap (Nat.le_succ _) fun c u hc e => ?_) m2) h2 l2 t2
      rw [same.2 c fun z : c = D => hc (by rw [z]; exact List.mem_cons_self)]
      exact e
end
end TxS
set_option maxHeartbeats 4000000
namespace TxS
open PySem PySem.Spec PyProof.Rows L2
section
variable {prog : Program} {w : World} {A : Around} {E : Value → Shared → Prop} {s : Shared}
theorem made_list {l : Addr} {items : Array Value} {xs : List Str} {Q : Value → Shared → Prop} (free : A.handled = none) (hl : s.heap.IsList l items) (hi : PyProof.Rows.StrsAre items.toList xs) (room : xs.length + 1 < scanBound)
    (h : ∀ (h' : Heap) (tk : Nat) (L : List Str), Tx prog w h' s.heap.objs.size L → (∀ x, x ∈ L ↔ x ∈ xs) → L.length ≤ xs.length → (∀ b o, b < s.heap.objs.size → s.heap.get? b = some o → h'.get? b = some o) → Q (.ref s.heap.objs.size) { s with heap := h', toks := tk }) :
    wpAny (model prog w) A (call (.type "set") [.ref l]) Q E s := by
  obtain ⟨c, tl, k1⟩ := PySem.F.called_set.mro
  have k2 := PySem.F.called_set.made
  have k3 := PySem.F.called_set.sub
  refine wpAny_call (codeAny_of_tree (?_ : wpAny _ _ (callAny (.type "set") _) _ _ _))
  refine wpAny_pure ⟨Code.quiet_builtin _ (by decide +kernel), codeAny_builtin PySem.F.entry_type_call ?_⟩
  rw [Around.under_plain (weight_type_call_type "set" [.ref l] []) rfl]
  have k4 := PySem.F.called_set.notType
  have k5 := PySem.F.called_set.canCreate
  have k6 := PySem.F.typeCall_set_1 (.ref l)
  repeat (any_goals (first | assumption | wp_step))
  let fresh : Obj := { cls := .type "set", dict := none, data := .set #[] 0 (.fresh 0 0 (!w.params.followText "set-order")) }
  refine codeAny_mono (code_set_led1 (.ref l) (E := E) (Q₁ := fun u s₁ => u = .ref s.heap.objs.size ∧ s₁ = { s with heap := s.heap.push fresh }) ⟨rfl, rfl⟩) fun r s₁ hr => ?_
  cases r
  case error => exact hr
  rename_i fl
  cases fl
  case next => exact hr.elim
  case brk => exact hr.elim
  case cont => exact hr.elim
  case ret =>
    obtain ⟨rfl, rfl⟩ := hr
    have hat : (s.heap.push fresh).get? s.heap.objs.size = some fresh := Heap.get?_push_size _ rfl
    have hty : Shared.TypeIs { s with heap := s.heap.push fresh } (.ref s.heap.objs.size) "set" := ⟨_, hat, rfl⟩
    have k7 := PySem.F.called_set.init.lookup
    have k8 := PySem.F.called_set.init.bind (.ref s.heap.objs.size)
    repeat (any_goals (first | assumption | wp_step))
    refine codeAny_mono (codeAny_call_builtin (R := wants (fun u s₂ => u = .none ∧ ∃ h' tk L, s₂ = { s with heap := h', toks := tk } ∧ Tx prog w h' s.heap.objs.size L ∧ (∀ x, x ∈ L ↔ x ∈ xs) ∧ L.length ≤ xs.length ∧ (∀ b o, b < s.heap.objs.size → s.heap.get? b = some o → h'.get? b = some o)) E)
      PySem.F.called_set.init.plain PySem.F.entry_set_init (check_set_init_1 hty ?_)) fun r₂ s₂ hr₂ => ?_
    · obtain ⟨⟨_, od, _, osl⟩, hol, hcl, nl, hdl⟩ := hl
      simp only at hcl hdl
      subst hcl hdl
      have hol' : (s.heap.push fresh).get? l = some { cls := .type "list", dict := od, data := .seq items nl, slots := osl } := Heap.get?_push_of_some _ hol
      have k9 := PySem.F.sub_list_set
      have k10 := PySem.F.sub_list_frozenset
      have k11 : (Value.type "list" == Value.type "dict") = false := by decide
      have hl1 : (s.heap.push fresh).IsList l items := ⟨_, hol', rfl, nl, rfl⟩
      unfold Builtin.«set.__init__» noKeywords Builtin.Frozenset.updateFrom
      generalize hPI : pyIter = PI
      wp_walk
      subst hPI
      refine wpAny_pyIter_list hl1 (wpAny_bind (wpAny_runValue ?_))
      have lsz : l < s.heap.objs.size := Heap.lt_size hol
      have free3 : A.in1.in1.in1.handled = none := by simp [free]
      have psz : (s.heap.push fresh).objs.size = s.heap.objs.size + 1 := Heap.size_push ..
      have far : l ≠ (s.heap.push fresh).objs.size := by rw [psz]; exact Nat.ne_of_lt (Nat.lt_succ_of_lt lsz)
      have out : s.heap.objs.size ∉ [(s.heap.push fresh).objs.size, l] := by
        rw [psz]
        simp only [List.mem_cons, List.not_mem_nil, or_false, not_or]
        exact ⟨Nat.ne_of_lt (Nat.lt_succ_self _), Nat.ne_of_gt lsz⟩
      have cnt : xs.length = items.size := by rw [← StrsAre.len_eq hi, Array.length_toList]
      refine putAll ((Walks.list free3 _ l far items).toS) s.heap.objs.size out xs cnt (fun i v hv => SS.strs_at hi i v (by rw [Array.getElem?_toList]; exact hv)) (by omega) (items.size - 0) 0 _ [] (by omega) (Nat.zero_le _)
        ⟨⟨_, Heap.get?_push_size _ rfl, rfl, rfl⟩, (hl1.push _)⟩ (Nat.le_refl _) (fun x => by simp) ?one ?two
      case one =>
        have at2 : ((s.heap.push fresh).push { cls := .type "list_iterator", data := .fields #[.ref l, .int 0 0] }).get? s.heap.objs.size = some fresh := Heap.get?_push_of_some _ hat
        exact Tx.none at2 ⟨rfl, rfl, rfl⟩ rfl
      case two =>
        rintro ⟨h2, g2, d2, tk2, os2⟩ L2 hm hmem hlen hTx
        obtain rfl : g2 = s.gens := hm.gens
        obtain rfl : d2 = s.drawn := hm.drawn
        obtain rfl : os2 = s.os := hm.os
        refine wpAny_pure (show wpAny _ _ (ret Value.none) _ _ _ from wpAny_pure ⟨rfl, h2, tk2, L2, rfl, hTx, hmem, by omega, fun b u hb e => ?_⟩)
        exact hm.heap b u (by
          rw [psz]
          simp only [List.mem_cons, List.not_mem_nil, or_false, not_or]
          exact ⟨Nat.ne_of_lt hb, Nat.ne_of_lt (Nat.lt_succ_of_lt hb)⟩) (Heap.get?_push_of_some _ (Heap.get?_push_of_some _ e))
    · cases r₂
      case error => exact hr₂
      rename_i fl₂
      cases fl₂
      case next => exact hr₂.elim
      case brk => exact hr₂.elim
      case cont => exact hr₂.elim
      case ret =>
        obtain ⟨rfl, h2, tk2, L2, rfl, t1, t2, t3, t4⟩ := hr₂
        repeat (any_goals (first | assumption | wp_step))
        exact h _ _ _ t1 t2 t3 t4
end
end TxS
set_option maxHeartbeats 4000000
namespace TxS
open PySem PySem.Spec PyProof.Rows L2
section
variable {prog : Program} {w : World} {A : Around} {E : Value → Shared → Prop} {s : Shared}
theorem made_tuple {l : Addr} {items : Array Value} {xs : List Str} {Q : Value → Shared → Prop} (free : A.handled = none) (hl : s.heap.IsTuple l items) (hi : PyProof.Rows.StrsAre items.toList xs) (room : xs.length + 1 < scanBound)
    (h : ∀ (h' : Heap) (tk : Nat) (L : List Str), Tx prog w h' s.heap.objs.size L → (∀ x, x ∈ L ↔ x ∈ xs) → L.length ≤ xs.length → (∀ b o, b < s.heap.objs.size → s.heap.get? b = some o → h'.get? b = some o) → Q (.ref s.heap.objs.size) { s with heap := h', toks := tk }) :
    wpAny (model prog w) A (call (.type "set") [.ref l]) Q E s := by
  obtain ⟨c, tl, k1⟩ := PySem.F.called_set.mro
  have k2 := PySem.F.called_set.made
  have k3 := PySem.F.called_set.sub
  refine wpAny_call (codeAny_of_tree (?_ : wpAny _ _ (callAny (.type "set") _) _ _ _))
  refine wpAny_pure ⟨Code.quiet_builtin _ (by decide +kernel), codeAny_builtin PySem.F.entry_type_call ?_⟩
  rw [Around.under_plain (weight_type_call_type "set" [.ref l] []) rfl]
  have k4 := PySem.F.called_set.notType
  have k5 := PySem.F.called_set.canCreate
  have k6 := PySem.F.typeCall_set_1 (.ref l)
  repeat (any_goals (first | assumption | wp_step))
  let fresh : Obj := { cls := .type "set", dict := none, data := .set #[] 0 (.fresh 0 0 (!w.params.followText "set-order")) }
  refine codeAny_mono (code_set_led1 (.ref l) (E := E) (Q₁ := fun u s₁ => u = .ref s.heap.objs.size ∧ s₁ = { s with heap := s.heap.push fresh }) ⟨rfl, rfl⟩) fun r s₁ hr => ?_
  cases r
  case error => exact hr
  rename_i fl
  cases fl
  case next => exact hr.elim
  case brk => exact hr.elim
  case cont => exact hr.elim
  case ret =>
    obtain ⟨rfl, rfl⟩ := hr
    have hat : (s.heap.push fresh).get? s.heap.objs.size = some fresh := Heap.get?_push_size _ rfl
    have hty : Shared.TypeIs { s with heap := s.heap.push fresh } (.ref s.heap.objs.size) "set" := ⟨_, hat, rfl⟩
    have k7 := PySem.F.called_set.init.lookup
    have k8 := PySem.F.called_set.init.bind (.ref s.heap.objs.size)
    repeat (any_goals (first | assumption | wp_step))
    refine codeAny_mono (codeAny_call_builtin (R := wants (fun u s₂ => u = .none ∧ ∃ h' tk L, s₂ = { s with heap := h', toks := tk } ∧ Tx prog w h' s.heap.objs.size L ∧ (∀ x, x ∈ L ↔ x ∈ xs) ∧ L.length ≤ xs.length ∧ (∀ b o, b < s.heap.objs.size → s.heap.get? b = some o → h'.get? b = some o)) E)
      PySem.F.called_set.init.plain PySem.F.entry_set_init (check_set_init_1 hty ?_)) fun r₂ s₂ hr₂ => ?_
    · obtain ⟨⟨_, od, _, osl⟩, hol, hcl, nl, hdl⟩ := hl
      simp only at hcl hdl
      subst hcl hdl
      have hol' : (s.heap.push fresh).get? l = some { cls := .type "tuple", dict := od, data := .seq items nl, slots := osl } := Heap.get?_push_of_some _ hol
      have k9 := PySem.F.sub_tuple_set
      have k10 := PySem.F.sub_tuple_frozenset
      have k11 : (Value.type "tuple" == Value.type "dict") = false := by decide
      have hl1 : (s.heap.push fresh).IsTuple l items := ⟨_, hol', rfl, nl, rfl⟩
      unfold Builtin.«set.__init__» noKeywords Builtin.Frozenset.updateFrom
      generalize hPI : pyIter = PI
      wp_walk
      subst hPI
      refine wpAny_pyIter_tuple hl1 (wpAny_bind (wpAny_runValue ?_))
      have lsz : l < s.heap.objs.size := Heap.lt_size hol
      have free3 : A.in1.in1.in1.handled = none := by simp [free]
      have psz : (s.heap.push fresh).objs.size = s.heap.objs.size + 1 := Heap.size_push ..
      have far : l ≠ (s.heap.push fresh).objs.size := by rw [psz]; exact Nat.ne_of_lt (Nat.lt_succ_of_lt lsz)
      have out : s.heap.objs.size ∉ [(s.heap.push fresh).objs.size, l] := by
        rw [psz]
        simp only [List.mem_cons, List.not_mem_nil, or_false, not_or]
        exact ⟨Nat.ne_of_lt (Nat.lt_succ_self _), Nat.ne_of_gt lsz⟩
      have cnt : xs.length = items.size := by rw [← StrsAre.len_eq hi, Array.length_toList]
      refine putAll ((Walks.tuple free3 _ l far items).toS) s.heap.objs.size out xs cnt (fun i v hv => SS.strs_at hi i v (by rw [Array.getElem?_toList]; exact hv)) (by omega) (items.size - 0) 0 _ [] (by omega) (Nat.zero_le _)
        ⟨⟨_, Heap.get?_push_size _ rfl, rfl, rfl⟩, (hl1.push _)⟩ (Nat.le_refl _) (fun x => by simp) ?one ?two
      case one =>
        have at2 : ((s.heap.push fresh).push { cls := .type "tuple_iterator", data := .fields #[.ref l, .int 0 0] }).get? s.heap.objs.size = some fresh := Heap.get?_push_of_some _ hat
        exact Tx.none at2 ⟨rfl, rfl, rfl⟩ rfl
      case two =>
        rintro ⟨h2, g2, d2, tk2, os2⟩ L2 hm hmem hlen hTx
        obtain rfl : g2 = s.gens := hm.gens
        obtain rfl : d2 = s.drawn := hm.drawn
        obtain rfl : os2 = s.os := hm.os
        refine wpAny_pure (show wpAny _ _ (ret Value.none) _ _ _ from wpAny_pure ⟨rfl, h2, tk2, L2, rfl, hTx, hmem, by omega, fun b u hb e => ?_⟩)
        exact hm.heap b u (by
          rw [psz]
          simp only [List.mem_cons, List.not_mem_nil, or_false, not_or]
          exact ⟨Nat.ne_of_lt hb, Nat.ne_of_lt (Nat.lt_succ_of_lt hb)⟩) (Heap.get?_push_of_some _ (Heap.get?_push_of_some _ e))
    · cases r₂
      case error => exact hr₂
      rename_i fl₂
      cases fl₂
      case next => exact hr₂.elim
      case brk => exact hr₂.elim
      case cont => exact hr₂.elim
      case ret =>
        obtain ⟨rfl, h2, tk2, L2, rfl, t1, t2, t3, t4⟩ := hr₂
        repeat (any_goals (first | assumption | wp_step))
        exact h _ _ _ t1 t2 t3 t4
end
end TxS
set_option maxHeartbeats 4000000
namespace TxS
open PySem PySem.Spec PyProof.Rows L2
open PySem.W (AllAlike Sortable dataLe EachIs)
/-- a text and its datum -/
def said (v : Value) : PyData × V := match v with
  | .str x _ => (.str x, .str x)
  | _ => (.none, .non)
def word (v : Value) : Str := match v with
  | .str x _ => x
  | _ => Str.empty
theorem vals_said : ∀ {ps : List (PyData × V)} {us : List Value}, EachIs (fun u p => RelV p.2 u) us ps → Vals (ps.map (·.2)) us
  | [], _, .nil => .nil
  | p :: ps, _, .cons r t => .cons r (vals_said t)
def asc (xs : List Str) : List Str := xs.mergeSort (dataLe false PyData.str)
section
variable {prog : Program} {w : World} {A : Around} {E : Value → Shared → Prop} {s : Shared} {a : Addr} {L : List Str}
theorem told_up (R : Tx prog w s.heap a L) (free : A.handled = none) (hu : A.units + 64 < cLine) {Q : Value → Shared → Prop}
    (hQ : ∀ s' p (out : Array Value) (c : Nat) (M : List Str), (∀ b o, s.heap.get? b = some o → s'.heap.get? b = some o) → s'.gens = s.gens → s'.os = s.os → s.heap.objs.size ≤ p → s'.heap.get? p = some (seqObj "list" out c) →
      Vals ((asc M).map V.str) out.toList → M.Perm L → Q (.ref p) s') :
    wpAny (model prog w) A (call (.builtin "sorted") [.ref a]) Q E s := by
  obtain ⟨o, rows, ep, tab, ho, hex, hd, g, pm, nd, hb, hf, hr, hl⟩ := R.ex
  refine Calls.call_function_entry kind_sorted plain_sorted entry_sorted (args_sorted1 _) ?_
  unfold Builtin.«sorted»
  refine wpAny_bind (m := checkCount "sorted" 1 1 _) (wpAny_pure ?_)
  refine wpAny_bind (collect_set (A := A.in1) free ⟨o, ho, hex.1, hd⟩ hf hb hr hl fun s1 vs k1 hz g1 o1 pv => ?_)
  have isStr : ∀ v ∈ vs, ∃ x tk, v = Value.str x tk := fun v hv => by
    obtain ⟨e, he, q⟩ := List.mem_map.mp (pv.mem_iff.mp hv)
    obtain ⟨x, tk, h1, _⟩ := g e he
    exact ⟨x, tk, by rw [← q]; exact h1⟩
  have hwords : (vs.map word).Perm L := by
    have q := pv.map word
    rw [List.map_map] at q
    exact q.trans pm
  have hvl : vs.length ≤ sizeLine := by
    have e0 : vs.length = rows.size := by rw [pv.length_eq, List.length_map, Array.length_toList]
    rw [e0, sizeLine_eq]
    unfold scanBound at hb
    omega
  refine wpAny_bind (wpAny_newList ?_ hvl)
  have hat : (s1.heap.push (seqObj "list" vs.toArray 0)).get? s1.heap.objs.size = some (seqObj "list" vs.toArray 0) := Heap.get?_push_size _ rfl
  have rd : ∀ (h : Heap) (us : List Value), (∀ v ∈ us, ∃ x tk, v = Value.str x tk) → EachIs (fun u (p : PyData × V) => ∃ as, Reads h u p.1 as) us (us.map said) := fun h us => by
    induction us with
    | nil => exact fun _ => .nil
    | cons u us ih =>
      intro hs
      obtain ⟨x, tk, rfl⟩ := hs u List.mem_cons_self
      exact .cons ⟨[], .str x tk⟩ (ih fun v hv => hs v (List.mem_cons_of_mem _ hv))
  have rl : ∀ (us : List Value), (∀ v ∈ us, ∃ x tk, v = Value.str x tk) → EachIs (fun u (p : PyData × V) => RelV p.2 u) us (us.map said) := fun us => by
    induction us with
    | nil => exact fun _ => .nil
    | cons u us ih =>
      intro hs
      obtain ⟨x, tk, rfl⟩ := hs u List.mem_cons_self
      exact .cons ⟨tk, rfl⟩ (ih fun v hv => hs v (List.mem_cons_of_mem _ hv))
  have sd : ∀ p ∈ vs.map said, ∃ x, p = (PyData.str x, V.str x) := fun p hp => by
    obtain ⟨v, hv, rfl⟩ := List.mem_map.mp hp
    obtain ⟨x, tk, rfl⟩ := isStr v hv
    exact ⟨x, rfl⟩
  have hal : AllAlike ((vs.map said).map (·.1)) := fun d hd d' hd' => by
    obtain ⟨p, hp, rfl⟩ := List.mem_map.mp hd
    obtain ⟨p', hp', rfl⟩ := List.mem_map.mp hd'
    obtain ⟨x, rfl⟩ := sd p hp
    obtain ⟨x', rfl⟩ := sd p' hp'
    rfl
  have hso : Sortable ((vs.map said).map (·.1)) := .inr fun d hd => by
    obtain ⟨p, hp, rfl⟩ := List.mem_map.mp hd
    obtain ⟨x, rfl⟩ := sd p hp
    exact ⟨nofun, nofun⟩
  have er := rd (PySem.W.sortingHeap (s1.heap.push (seqObj "list" vs.toArray 0)) s1.heap.objs.size vs) vs isStr
  have el := rl vs isStr
  refine wpAny_bind (wpAny_holding (wpAny_call_entry_kw slot_list_sort ⟨_, hat, rfl⟩ entry_list_sort ?_ (args_list_sort _)))
  suffices body : wpAny (model prog w) A.in1.in1 (Builtin.«list.sort» ⟨[.ref s1.heap.objs.size], []⟩) (fun f s' => f = .done (.ret .none) ∧ Q (.ref s1.heap.objs.size) s') _ { s1 with heap := s1.heap.push (seqObj "list" vs.toArray 0) } by
    refine wpAny_mono body (fun f s' hf => ?_) fun _ _ e => e
    obtain ⟨rfl, hq⟩ := hf
    exact ⟨_, rfl, wpAny_pure ⟨_, rfl, hq⟩⟩
  refine PySem.W.list_sort_vals (s := { s1 with heap := s1.heap.push (seqObj "list" vs.toArray 0) }) hat
    (PySem.W.SortsAt.data (s := { s1 with heap := PySem.W.sortingHeap (s1.heap.push (seqObj "list" vs.toArray 0)) s1.heap.objs.size vs }) (PySem.W.each_map (β := PyData × V) (R := fun v d => ∃ as, Reads (PySem.W.sortingHeap (s1.heap.push (seqObj "list" vs.toArray 0)) s1.heap.objs.size vs) v d as) (·.1) er) hal hso
      (PySem.W.bound_map fun b hb => by
        obtain ⟨x, rfl⟩ := sd b hb
        show A.units + 1 + 1 + _ < _
        simp only [PyData.depth]
        omega)) hvl ⟨rfl, ?_⟩
  · have eo : EachIs (fun u (p : PyData × V) => RelV p.2 u) _ ((vs.map said).mergeSort (dataLe false (·.1))) := PySem.W.sortVals_data false el er hal
    obtain ⟨c, hcc⟩ := sortedHeap_at (h := s1.heap.push (seqObj "list" vs.toArray 0)) (vs := vs) (out := (PySem.W.sortVals (PySem.W.dataKind (PySem.W.sortingHeap (s1.heap.push (seqObj "list" vs.toArray 0)) s1.heap.objs.size vs) ((vs.map said).map (·.1))) false vs vs).toArray) (n := 0) hat
    have kept : ∀ b ob, s.heap.get? b = some ob → (sortedHeap (s1.heap.push (seqObj "list" vs.toArray 0)) s1.heap.objs.size vs (PySem.W.sortVals (PySem.W.dataKind (PySem.W.sortingHeap (s1.heap.push (seqObj "list" vs.toArray 0)) s1.heap.objs.size vs) ((vs.map said).map (·.1))) false vs vs).toArray).get? b = some ob := fun b ob eb => by
      have hb' := k1 b ob eb
      rw [sortedHeap_old (Nat.ne_of_lt (Heap.lt_size hb')) (by rw [size_push']; exact Nat.lt_succ_of_lt (Heap.lt_size hb'))]
      exact Heap.get?_push_of_some _ hb'
    refine hQ _ s1.heap.objs.size _ c (vs.map word) kept g1 o1 hz hcc ?_ hwords
    have e1 : (vs.map said).mergeSort (dataLe false (·.1)) = (asc (vs.map word)).map fun x => (PyData.str x, V.str x) := by
      have e2 : vs.map said = (vs.map word).map fun x => (PyData.str x, V.str x) := by
        rw [List.map_map]
        refine List.map_congr_left fun v hv => ?_
        obtain ⟨x, tk, rfl⟩ := isStr v hv
        rfl
      rw [e2, DL.sort_map]
      rfl
    rw [e1] at eo
    have := vals_said eo
    rw [List.map_map] at this
    exact this
end
end TxS
namespace L2
open PySem PySem.Spec PyProof.Rows
/-- sorted(set(e)), e a list or a tuple of texts -/
def tSortTx (K : PySem.W.Frag) (ta : TE) : TE := fun σ H Q => ta σ H fun x H1 => ∃ (l : Addr) (xs : List Str), x = .ref l ∧ (SqL K H1 l (xs.map V.str) ∨ SqT K H1 l (xs.map V.str)) ∧ xs.length < 4000 ∧
  ∀ (M : List Str) (p : Addr), M.Nodup → (∀ y, y ∈ M ↔ y ∈ xs) → H1 p = none → Q (.ref p) (upd H1 p (.lst ((TxS.asc M).map V.str)))
theorem pe_sortTx {X : Cx} {a : Expr} {ta : TE} {p p2 q pos : Pos} (hc : X.calm = true) (hu : X.A.units + 64 < cLine) (hg : Gl X "sorted") (hm : X.mg "sorted" = none) (hg2 : Gl X "set") (hm2 : X.mg "set" = none) (ha : PE X a ta)
    (na : starEach [a] X.env = (false, eval a X.env) :: starEach [] X.env := by rfl) : PE X (.Call (.Name "sorted" p) [.Call (.Name "set" p2) [a] [] q] [] pos) (tSortTx X.K ta) := by
  refine ⟨fun pins s σ H Q I h => ?_⟩
  refine Call_ (ld_blt I hg hm boot_sorted ?_)
  refine PyProof.Rows.callWith_builtin1 (PyProof.Rows.args_cons ?_ rfl) rfl rfl
  refine Call_ (ld_blt I hg2 hm2 boot_set ?_)
  refine PyProof.Rows.callWith_type1 (PyProof.Rows.args_cons (thn (ha.run pins s σ H _ I h) fun v s1 ⟨x, H1, I1, r1, q1⟩ => PyProof.Rows.args_nil ?_) na) na rfl
  obtain ⟨l, xs, rfl, hq, few, q1⟩ := q1
  cases r1
  have fin : ∀ (h' : Heap) (tk : Nat) (L : List Str), TxS.Tx X.prog X.w h' s1.heap.objs.size L → (∀ x, x ∈ L ↔ x ∈ xs) → L.length ≤ xs.length → (∀ b o, b < s1.heap.objs.size → s1.heap.get? b = some o → h'.get? b = some o) →
      wpAny (model X.prog X.w) X.A (spliced (backTo pos (starEach [] X.env))) (fun vs s₂ => wpAny (model X.prog X.w) X.A (call (.builtin "sorted") (Value.ref s1.heap.objs.size :: vs)) (EP X pins σ Q) X.xe s₂) X.xe { s1 with heap := h', toks := tk } := fun h' tk L hT hmem hlen hk => by
    refine PyProof.Rows.args_nil ?_
    have kp : ∀ b o, s1.heap.get? b = some o → h'.get? b = some o := fun b o e => hk b o (Heap.lt_size e) e
    have ndL : L.Nodup := by
      obtain ⟨_, _, _, _, _, _, _, _, _, nd, _⟩ := hT.ex
      exact nd
    refine TxS.told_up (s := { s1 with heap := h', toks := tk }) hT (I1.ok.hd hc) hu fun s' p out c M k g o hp hgt hv pm => ?_
    have kept : ∀ b ob, s1.heap.get? b = some ob → s'.heap.get? b = some ob := fun b ob e => k b ob (kp b ob e)
    have hp0 : s1.heap.get? p = none := by
      cases eb : s1.heap.get? p with
      | none => rfl
      | some ob =>
        have z1 := Heap.lt_size eb
        have z2 : s1.heap.objs.size < h'.objs.size := by
          obtain ⟨_, _, _, _, ho, _⟩ := hT.ex
          exact Heap.lt_size ho
        exact absurd (Nat.lt_of_lt_of_le (Nat.lt_trans z1 z2) hp) (Nat.lt_irrefl _)
    have hn : H1 p = none := I1.hok.gone hp0
    have hlen' : ((TxS.asc M).map V.str).length ≤ sizeLine := by
      rw [List.length_map]
      unfold TxS.asc
      rw [List.length_mergeSort, pm.length_eq, sizeLine_eq]
      omega
    have eg : s'.gens = s1.gens := g
    have J : Inv X pins σ (upd H1 p (.lst ((TxS.asc M).map V.str))) { s1 with heap := s'.heap, toks := s'.toks, gens := s'.gens, drawn := s'.drawn } :=
      I1.call (ch := []) (Un.laidN kept hp0 hn) (I1.hok.laidN kept hn ⟨hlen', out.toList, c, hv, hgt⟩) (by rw [eg]; exact I1.bare) (fun _ z => nomatch z)
    have e : s' = { s1 with heap := s'.heap, toks := s'.toks, gens := s'.gens, drawn := s'.drawn } := by
      cases s'
      cases s1
      cases o
      rfl
    refine ⟨.ref p, _, ?_, rfl, q1 M p (pm.nodup_iff.mpr ndL) (fun y => (pm.mem_iff).trans (hmem y)) hn⟩
    rw [e]
    exact J
  rcases hq with hq | hq
  · obtain ⟨its, r, pl, hz⟩ := I1.list hq
    exact TxS.made_list (I1.ok.hd hc) pl.isList (by simpa using strsAre_of r) (by unfold scanBound; omega) fin
  · obtain ⟨its, r, pl, hz⟩ := I1.tuple hq
    exact TxS.made_tuple (I1.ok.hd hc) pl (by simpa using strsAre_of r) (by unfold scanBound; omega) fin
end L2
namespace DL
open PySem L2 PySem.Spec
open PyProof.Rows hiding St
variable [TC : TabCtx]
def dSortTx : DN := fun ds st Q => match ds with
  | [x] => ∃ xs : List Str, itemsD st x = some (xs.map .str) ∧ xs.length < 4000 ∧ ∀ M : List Str, M.Nodup → (∀ y, y ∈ M ↔ y ∈ xs) → Q (.loc st.length) (st ++ [.lst ((TxS.asc M).map .str)])
  | _ => False
section
variable {X : Cx} {W : WX} {e : Expr} {te : DTE} {p p2 q pos : Pos}
theorem de_sortTx (hc : X.calm = true) (hu : X.A.units + 64 < cLine) (hg : Gl X "sorted") (hm : X.mg "sorted" = none) (hg2 : Gl X "set") (hm2 : X.mg "set" = none) (ha : DE X W e te)
    (na : starEach [e] X.env = (false, eval e X.env) :: starEach [] X.env := by rfl) : DE X W (.Call (.Name "sorted" p) [.Call (.Name "set" p2) [e] [] q] [] pos) (dCB dSortTx (dCons te dNil)) :=
  pe_weak (pe_sortTx hc hu hg hm hg2 hm2 ha na) fun σ H Q ⟨ρ, st, μ, Qd, Z, hS, ht, hQ, hZ⟩ =>
    ⟨ρ, st, μ, _, Z, hS, ht, fun x st1 H1 μ1 v hx e1 s1 rv => by
      obtain ⟨xs, hi, few, q⟩ := hx
      obtain ⟨a, vs, rfl, hsq, hv⟩ := items_ok s1 rv hi
      rw [reps_strs hv] at hsq
      exact ⟨a, xs, rfl, hsq, few, fun M l nd hmem hl => hQ.lst e1 s1 (reps_strs0 _) (q M nd hmem) hl⟩, hZ⟩
end
end DL
namespace DL
open PySem L2 PySem.Spec
open PyProof.Rows hiding St
@[simp] theorem s_sortTx {x : D} {st : Sto} {Q : DK} : dSortTx [x] st Q = ∃ xs : List Str, itemsD st x = some (xs.map .str) ∧ xs.length < 4000 ∧ ∀ M : List Str, M.Nodup → (∀ y, y ∈ M ↔ y ∈ xs) → Q (.loc st.length) (st ++ [.lst ((TxS.asc M).map .str)]) := rfl
end DL
namespace RD
open PySem L2 PySem.Spec DL
open PyProof.Rows hiding St
abbrev N_lines_of : List Str := ["text", "lines", "rest"]
def t_lines_of [ErrCtx] : DTS := (dSeq (dIfS (dNot (dTru (dIsi (dVar 0) ["str"]))) (dRaise1 4 "number" (dC (.int 0))) dNext)
    (dSeq (dAsg (dBM "str" dSplit (dVar 0) (dCons (dC (.str "\n")) dNil)) (gN 1))
    (dSeq (dAsg (dBM "list" dPop (dVar 1) dNil) (gN 2))
    (dRet (dTup (dCons (dVar 1) (dCons (dVar 2) dNil)))))))
end RD
namespace DL
open PySem L2 PySem.Spec
open PyProof.Rows hiding St
section
variable {K : PySem.W.Frag} {H : Hp} {μ : List Addr}
theorem reps_intsS : ∀ {bs : List Int} {vs : List V}, Reps K H μ (bs.map D.int) vs → vs = bs.map V.int
  | [], _, r => r
  | b :: bs, _, r => by
    obtain ⟨v, rs, rfl, r1, r2⟩ := r
    rw [show v = _ from r1, reps_intsS r2]
    rfl
end
def dSum : DN := fun ds st Q => match ds with | [.loc n] => ∃ ns : List Int, st[n]? = some (.lst (ns.map .int)) ∧ Q (.int ns.sum) st | _ => False
def dOrdS : DN := fun ds st Q => match ds with | [.str x] => x.length = 1 ∧ Q (.int (x.cps.getD 0 0 : Nat)) st | _ => False
def dMin2 : DN := fun ds st Q => match ds with | [.int i, .int j] => Q (.int (if j < i then j else i)) st | _ => False
def dMaxI : DN := fun ds st Q => match ds with | [.int i, .int j] => Q (.int (if i < j then j else i)) st | _ => False
def dUpper : DM := fun x ds st Q => match x, ds with | .str a, [] => a.length ≤ 5592405 ∧ Q (.str (Txt.upper a)) st | _, _ => False
def dSetK : D3 := fun o i x st Q => match o with | .loc n => ∃ kvs k, st[n]? = some (.dK kvs) ∧ keyD i = some k ∧ kvs.length < sizeLine ∧ Q (st.set n (.dK (putD kvs k x))) | _ => False
section
variable {st : Sto} {Q : DK} {a : Str} {i j : Int} {n : Nat} {x d : D} {Qs : Sto → Prop}
@[simp] theorem s_sum : dSum [.loc n] st Q = ∃ ns : List Int, st[n]? = some (.lst (ns.map .int)) ∧ Q (.int ns.sum) st := rfl
@[simp] theorem s_ordS : dOrdS [.str a] st Q = (a.length = 1 ∧ Q (.int (a.cps.getD 0 0 : Nat)) st) := rfl
@[simp] theorem s_min2 : dMin2 [.int i, .int j] st Q = Q (.int (if j < i then j else i)) st := rfl
@[simp] theorem s_maxI : dMaxI [.int i, .int j] st Q = Q (.int (if i < j then j else i)) st := rfl
@[simp] theorem s_upper : dUpper (.str a) [] st Q = (a.length ≤ 5592405 ∧ Q (.str (Txt.upper a)) st) := rfl
@[simp] theorem s_setK : dSetK (.loc n) d x st Qs = ∃ kvs k, st[n]? = some (.dK kvs) ∧ keyD d = some k ∧ kvs.length < sizeLine ∧ Qs (st.set n (.dK (putD kvs k x))) := rfl
end
variable [TC : TabCtx]
section
variable {K : PySem.W.Frag}
theorem sum_ok : DCl K (rSum K) dSum := by
  intro H μ st ds vs Qd Q s r h hQ
  unfold dSum at h
  split at h
  · obtain ⟨v, rfl, a, rfl, hn⟩ := reps1 r
    obtain ⟨bs, hb, q⟩ := h
    obtain ⟨a', o, e1, e2, vs, rfl, hr⟩ := s.at' _ _ hb
    rw [hn] at e1; cases e1
    rw [reps_intsS hr] at e2
    exact ⟨a, bs, rfl, .inl (.inl e2), hQ _ _ _ _ _ q (Ext.refl _ _) s rfl⟩
  · exact h.elim
theorem ordS_ok : DCl K (fun xs H Q => ∃ x, xs = [.str x] ∧ x.length = 1 ∧ Q (.int (x.cps.getD 0 0 : Nat)) H) dOrdS := by
  intro H μ st ds vs Qd Q s r h hQ
  unfold dOrdS at h
  split at h
  · obtain ⟨v, rfl, rv⟩ := reps1 r
    rw [show v = _ from rv]
    exact ⟨_, rfl, h.1, hQ _ _ _ _ _ h.2 (Ext.refl _ _) s rfl⟩
  · exact h.elim
theorem min2_ok : DCl K (fun xs H Q => ∃ i j, xs = [.int i, .int j] ∧ Q (.int (if j < i then j else i)) H) dMin2 := by
  intro H μ st ds vs Qd Q s r h hQ
  unfold dMin2 at h
  split at h
  · obtain ⟨v, r1, rfl, rv, w, r2, rfl, rw', rfl⟩ := r
    rw [show v = _ from rv, show w = _ from rw']
    exact ⟨_, _, rfl, hQ _ _ _ _ _ h (Ext.refl _ _) s rfl⟩
  · exact h.elim
theorem maxI_ok : DCl K (fun xs H Q => ∃ i j, xs = [.int i, .int j] ∧ Q (.int (if i < j then j else i)) H) dMaxI := by
  intro H μ st ds vs Qd Q s r h hQ
  unfold dMaxI at h
  split at h
  · obtain ⟨v, r1, rfl, rv, w, r2, rfl, rw', rfl⟩ := r
    rw [show v = _ from rv, show w = _ from rw']
    exact ⟨_, _, rfl, hQ _ _ _ _ _ h (Ext.refl _ _) s rfl⟩
  · exact h.elim
theorem setK_ok : DSet K rSetD dSetK := by
  intro H μ st o i x vo vi v Qd Q s ro ri rv h hQ
  cases o <;> try exact (show False from h).elim
  rename_i n
  obtain ⟨a, rfl, hn⟩ := ro
  obtain ⟨kvs, k, hk, hi, hl, q⟩ := h
  obtain ⟨a', o, e1, e2, gs, rfl, okv⟩ := s.at' _ _ hk
  rw [hn] at e1; cases e1
  have w := s.write (o' := .dK (putK gs k v)) (b := .dK (putD kvs k x)) hn e2 ⟨_, rfl, okv_put rv okv⟩
  refine ⟨a, _, rfl, ?_, hQ _ _ _ q w.1 w.2⟩
  rw [key_rep hi ri]
  exact DPut.k e2 (by rw [← okv_len okv]; exact hl)
end
section
variable {X : Cx} {W : WX} {e : Expr} {es : List Expr} {t : DTA} {pos p apos : Pos}
theorem de_sum (hc : X.calm = true) (hg : Gl X "sum") (hm : X.mg "sum" = none) (ha : DA X W (e :: es) t) (he : starEach (e :: es) X.env = (false, eval e X.env) :: starEach es X.env := by rfl) (hpl : (backTo pos (starEach es X.env)).any (·.1) = false := by rfl) :
    DE X W (.Call (.Name "sum" p) (e :: es) [] pos) (dCB dSum t) := de_callB (cr_sum hc) sum_ok hg hm PyProof.Rows.boot_sum ha (by decide) (by decide) he hpl
theorem de_ordS (hg : Gl X "ord") (hm : X.mg "ord" = none) (ha : DA X W (e :: es) t) (he : starEach (e :: es) X.env = (false, eval e X.env) :: starEach es X.env := by rfl) (hpl : (backTo pos (starEach es X.env)).any (·.1) = false := by rfl) :
    DE X W (.Call (.Name "ord" p) (e :: es) [] pos) (dCB dOrdS t) := de_callB call_ord ordS_ok hg hm PyProof.Rows.boot_ord ha (by decide) (by decide) he hpl
theorem de_min2 (hc : X.calm = true) (hg : Gl X "min") (hm : X.mg "min" = none) (ha : DA X W (e :: es) t) (he : starEach (e :: es) X.env = (false, eval e X.env) :: starEach es X.env := by rfl) (hpl : (backTo pos (starEach es X.env)).any (·.1) = false := by rfl) :
    DE X W (.Call (.Name "min" p) (e :: es) [] pos) (dCB dMin2 t) := de_callB (call_min2 hc) min2_ok hg hm PyProof.Rows.boot_min ha (by decide) (by decide) he hpl
theorem de_maxI (hc : X.calm = true) (hg : Gl X "max") (hm : X.mg "max" = none) (ha : DA X W (e :: es) t) (he : starEach (e :: es) X.env = (false, eval e X.env) :: starEach es X.env := by rfl) (hpl : (backTo pos (starEach es X.env)).any (·.1) = false := by rfl) :
    DE X W (.Call (.Name "max" p) (e :: es) [] pos) (dCB dMaxI t) := de_callB (call_max2 hc) maxI_ok hg hm PyProof.Rows.boot_max ha (by decide) (by decide) he hpl
end
end DL
namespace DL
open PySem L2 PySem.Spec
open PyProof.Rows hiding St
def revS (z : Str) : Str := ⟨z.cps.toList.reverse.toArray⟩
theorem rev_by (z : Str) (u : Tok) : Txt.sliceBy z none none (-1, u) = revS z := by
  have h := step_rev_list z u
  generalize Txt.sliceBy z none none (-1, u) = y at h ⊢
  obtain ⟨⟨y⟩⟩ := y
  obtain ⟨⟨c⟩⟩ := z
  unfold revS
  congr 2
  dsimp only at h ⊢
  rw [h]
  refine List.ext_getElem (by simp [Str.length]) fun k h1 h2 => ?_
  simp only [List.length_map, List.length_range, Str.length, List.size_toArray] at h1
  simp only [List.getElem_map, List.getElem_range, Str.length, List.size_toArray, List.getElem_reverse]
  simp [Array.getD, h1]
  have : c.length - 1 - k < c.length := by omega
  simp [this]
def tRevS (te : TE) : TE := fun σ H Q => te σ H fun x H1 => ∃ z, x = .str z ∧ z.length ≤ sizeLine ∧ Q (.str (revS z)) H1
def dRevS (te : DTE) : DTE := fun ρ st Q Z => te ρ st (fun x st1 => match x with
  | .str z => z.length ≤ sizeLine ∧ Q (.str (revS z)) st1
  | _ => False) Z
section
variable {ρ : Env'} {st : Sto} {Q : DK} {Z : DZ} {te : DTE}
@[simp] theorem s_revS : dRevS te ρ st Q Z = te ρ st (fun x st1 => match x with
  | .str z => z.length ≤ sizeLine ∧ Q (.str (revS z)) st1
  | _ => False) Z := rfl
end
variable [TC : TabCtx]
section
variable {X : Cx} {W : WX} {e : Expr} {k : Nat} {p1 p2 p3 pos : Pos}
theorem pe_revS {te : TE} (he : PE X e te) : PE X (.Subscript e (.Slice none none (some (.UnaryOp .USub (.Constant (.int 1) k p1) p2)) p3) pos) (tRevS te) := by
  refine ⟨fun pins s σ H Q I h => ?_⟩
  refine Subscript_ (thn (he.run pins s σ H _ I h) fun v s1 ⟨x, H1, I1, r1, q1⟩ => ?_)
  obtain ⟨z, rfl, hz, q1⟩ := q1
  obtain ⟨t, rfl⟩ := r1
  have hst : PO X (some (.UnaryOp .USub (.Constant (.int 1) k p1) p2)) (tPart (tUn (rU fun i => .int (-i)) (tC (.int 1)))) := po_some (pe_un un_neg pe_int)
  refine wpAny_Slice (thn (po_none.run pins s1 σ H1 (fun o H2 => o = none ∧ H2 = H1) I1 ⟨rfl, rfl⟩) fun vl s2 ⟨l, H2, I2, pl, el, e2⟩ => ?_)
  subst el e2
  refine thn (po_none.run pins s2 σ H2 (fun o H3 => o = none ∧ H3 = H2) I2 ⟨rfl, rfl⟩) fun vu s3 ⟨u, H3, I3, pu, eu, e3⟩ => ?_
  subst eu e3
  refine thn (hst.run pins s3 σ H3 (fun o H4 => o = some (-1) ∧ H4 = H3) I3 ⟨1, rfl, -1, rfl, rfl, rfl⟩) fun vs s4 ⟨o, H4, I4, ps, eo, e4⟩ => ?_
  subst eo e4
  cases pl
  cases pu
  cases ps with
  | int _ uk =>
    have I5 : Inv X pins σ H4 { s4 with heap := s4.heap.push { cls := .type "slice", data := .fields #[.none, .none, .int (-1) uk] } } := I4.kept (t' := s4.toks) fun b ob q => Heap.get?_push_of_some _ q
    show wpAny (model X.prog X.w) X.A (subscriptTail e (.Slice none none (some (.UnaryOp .USub (.Constant (.int 1) k p1) p2)) p3) (.str z t) (.ref s4.heap.objs.size)) (EP X pins σ Q) X.xe { s4 with heap := s4.heap.push { cls := .type "slice", data := .fields #[.none, .none, .int (-1) uk] } }
    refine tail_any (ops := [.ref s4.heap.objs.size, .str z t]) (typeIs_str _ _ _) F.slot_str_getitem.lookup ?_ (by with_unfolding_all rfl)
    refine wpAny_getItem_str_slice (l := none) (u := none) (st := some (-1, uk)) ⟨_, Heap.get?_push_size _ rfl, rfl, rfl⟩ rfl ?_
    refine post_val_or_str ⟨Nat.le_trans (Txt.sliceBy_le z _ _ (-1, uk) (by simp)) hz, fun t' c => ?_⟩
    have e := rev_by z uk
    unfold Txt.sliceBy at e
    show EP X pins σ Q (Value.str (Txt.sliceBy z none none (-1, uk)) t') _
    rw [rev_by]
    exact ⟨.str (revS z), H4, I5.tok _, ⟨_, rfl⟩, q1⟩
theorem de_revS {te : DTE} (he : DE X W e te) : DE X W (.Subscript e (.Slice none none (some (.UnaryOp .USub (.Constant (.int 1) k p1) p2)) p3) pos) (dRevS te) := pe_weak (pe_revS he) fun σ H Q ⟨ρ, st, μ, Qd, Z, hS, ht, hQ, hZ⟩ =>
  ⟨ρ, st, μ, _, Z, hS, ht, fun x st1 H1 μ1 v hx e1 s1 rv => (by
    dsimp only at hx
    cases x <;> first | exact hx.elim | skip
    rw [show v = _ from rv]
    exact ⟨_, rfl, hx.1, hQ _ _ _ _ _ hx.2 e1 s1 rfl⟩), hZ⟩
end
end DL
namespace DL
open PySem L2 PySem.Spec
open PyProof.Rows hiding St
def IteS (z : Str) : It :=
  ⟨fun i _ => i < z.cps.size, fun i H v H' => ∃ T c, v = .ref T ∧ H T = none ∧ H' = upd H T (.tup [.int (i : Nat), .str ⟨#[c]⟩]) ∧ z.cps[i]? = some c, fun i _ => z.cps.size = i⟩
def iEnS (te : DTE) : DTI := fun ρ st Q Z => te ρ st (fun x st1 => match x with | .str z => Q (enumItems (strItems z)) (fun _ => True) st1 | _ => False) Z
section
variable {ρ : Env'} {st : Sto} {Z : DZ} {te : DTE}
@[simp] theorem s_iEnS {QI : List D → (Sto → Prop) → Sto → Prop} : iEnS te ρ st QI Z = te ρ st (fun x st1 => match x with | .str z => QI (enumItems (strItems z)) (fun _ => True) st1 | _ => False) Z := rfl
end
variable [TC : TabCtx]
theorem turn_enumS {P : Program} {w : World} {K : PySem.W.Frag} {elts : List Expr} {kk : Nat} {tpos : Pos} (z : Str) (tz : Tok) (e it : Addr) :
    Turn P w K (.Tuple elts kk tpos) (IteS z) [e, it] e (fun i h => (∃ old, IsEnum h e it ((i : Nat) : Int) old) ∧ h.IsStrIter it (strIterType z) z tz i ∧ e ≠ it) where
  mem := by simp
  obj := fun i h st b hb => by
    obtain ⟨⟨old, he⟩, ⟨o, ho, hc, hd⟩, _⟩ := st
    have e' : b = e ∨ b = it := by simpa using hb
    rcases e' with z | z
    · rw [z]; exact ⟨_, he, fun v q => nomatch q⟩
    · rw [z]; exact ⟨o, ho, fun v q => by rw [hd] at q; cases q⟩
  keep := fun i h h' st k => let ⟨⟨old, he⟩, ⟨o, ho, r⟩, hne⟩ := st; ⟨⟨old, k e (by simp) _ he⟩, ⟨o, k it (by simp) o ho, r⟩, hne⟩
  item := by
    intro X hP hw hK hc i pins s σ H E I hf st hg
    subst hP hw hK
    obtain ⟨⟨old, he⟩, hit, hne⟩ := st
    have hlt : i < z.cps.size := hg
    have hel : e < s.heap.objs.size := Heap.lt_size he
    have hil : it < s.heap.objs.size := by obtain ⟨_, q, _⟩ := hit; exact Heap.lt_size q
    refine wpAny_pyNext_enum_itemD (Draws.text (A := X.A.in1) (I.ok.hd hc) it z tz) he hit hlt hne (by simp [hne]) fun y h' tk hy ho hst hT hsz hk => ?_
    obtain ⟨c, u, hcx, rfl⟩ := hy
    refine ⟨_, rfl, wpAny_letOwnedTupleGo_enum (s := { s with heap := h', toks := tk + 1 }) ho fun h'' he' sb => ?_⟩
    have hT2 : h''.get? s.heap.objs.size = some { cls := .type "tuple", data := .seq #[.int i tk, .str ⟨#[c]⟩ u] } := (sb.2 _ (Nat.ne_of_gt hel)).trans hT
    have new : ObjOk X.prog X.w (upd H s.heap.objs.size (.tup [.int (i : Nat), .str ⟨#[c]⟩])) h'' s.heap.objs.size (.tup [.int (i : Nat), .str ⟨#[c]⟩]) :=
      ⟨by show 2 ≤ sizeLine; decide, [.int i tk, .str ⟨#[c]⟩ u], .cons ⟨_, rfl⟩ (.cons ⟨_, rfl⟩ .nil), ⟨_, hT2, rfl, _, rfl⟩⟩
    have I1 : Inv X pins σ (upd H s.heap.objs.size (.tup [.int (i : Nat), .str ⟨#[c]⟩])) { s with heap := h'', toks := tk + 1 } :=
      I.turnedNew (t' := tk + 1) (ch := [e, it]) (fun b ob hb q => (sb.2 b (fun z => hb (by simp [z]))).trans (hk b ob (fun z => hb (by simp [z])) (fun z => hb (by simp [z])) q)) hf (Nat.le_refl _) new
    obtain ⟨oi, hoi, hci, hdi⟩ := hst
    refine ⟨.ref s.heap.objs.size, _, I1, rfl, ⟨_, c, rfl, I.hok.fresh (Nat.le_refl _), rfl, hcx⟩, ⟨⟨.str ⟨#[c]⟩ u, ?_⟩, ⟨oi, (sb.2 it (Ne.symm hne)).trans hoi, hci, hdi⟩, hne⟩, fun b hb => ?_⟩
    · have e1 : ((i + 1 : Nat) : Int) = (i : Int) + 1 := by omega
      rw [e1]; exact he'
    · have hb' : b < s.heap.objs.size := by
        have e' : b = e ∨ b = it := by simpa using hb
        rcases e' with z | z
        · rw [z]; exact hel
        · rw [z]; exact hil
      rw [upd_ne (Nat.ne_of_lt hb')]
      exact (hf b hb).1
  done := by
    intro X hP hw hK hc i pins s σ H E I hf st hg
    subst hP hw hK
    obtain ⟨⟨old, he⟩, hit, hne⟩ := st
    obtain ⟨f0, f1, f2, f3, f4, f5⟩ := hf it (by simp)
    have hn : z.cps.size = i := hg
    exact wpAny_pyNext_enum_endD (Draws.text (A := X.A.in1) (I.ok.hd hc) it z tz) he (by rw [hn]; exact hit) fun h' eb => ⟨rfl, I.turned (t' := s.toks) (fun b o hb q => eb b o hb q) f0 f1 f3 f4 f5⟩
  self := fun A i s Q E st h => let ⟨⟨_, he⟩, _⟩ := st; wpAny_pyIter_enum he h
def iEnumS (ta : TA) : TI := fun σ H R => ta σ H fun vs H1 => ∃ z, vs = [.str z] ∧ R (IteS z) H1
section
variable {X : Cx} {W : WX} {e : Expr} {p pos tpos : Pos} {elts : List Expr} {kk : Nat}
theorem pi_enumS {ta : TA} (hg : Gl X "enumerate") (hm : X.mg "enumerate" = none) (ha : PA X [e] ta) (hs : starEach [e] X.env = [(false, eval e X.env)] := by rfl) :
    PI X (.Tuple elts kk tpos) (.Call (.Name "enumerate" p) [e] [] pos) (iEnumS ta) := by
  refine ⟨fun pins s σ H R I h => ?_⟩
  refine Call_ (ld_blt I hg hm boot_enumerate (PyProof.Rows.callWith_type1 (thn (ha.run pos pins s σ H _ I h) fun us s1 ⟨vs, H1, I1, r1, q1⟩ => ?_) hs rfl))
  obtain ⟨z, rfl, q⟩ := q1
  obtain ⟨u, rfl, t, rfl⟩ := vals1 r1
  have fresh2 : ∀ b, b ∈ [s1.heap.objs.size + 1, s1.heap.objs.size] → FpOk X pins H1 b := fun b hb => by
    have e' : b = s1.heap.objs.size + 1 ∨ b = s1.heap.objs.size := by simpa using hb
    have hle : s1.heap.objs.size ≤ b := by
      rcases e' with z | z
      · rw [z]; exact Nat.le_add_right _ _
      · rw [z]; exact Nat.le_refl _
    exact I1.fpOk hle (I1.hok.fresh hle)
  refine call_enumerate_str fun h' he hit hsz hk => wpAny_pyIter_enum he ?_
  exact ⟨s1.heap.objs.size + 1, [s1.heap.objs.size + 1, s1.heap.objs.size], _, _, H1, rfl, (I1.kept (t' := s1.toks) hk : Inv X pins σ H1 { s1 with heap := h' }), turn_enumS z t (s1.heap.objs.size + 1) s1.heap.objs.size, ⟨⟨.none, he⟩, hit, Nat.succ_ne_self _⟩, fresh2, q⟩
end
section
variable {K : PySem.W.Frag} {H : Hp} {μ : List Addr} {st : Sto}
theorem ItRep.enumS {z : Str} : ItRep K (IteS z) (enumItems (strItems z)) (fun _ => True) H μ where
  go i H1 μ1 st y x s _ e := by
    obtain ⟨d, hd, rfl⟩ := enumItems_get e
    have hi : i < z.cps.size := by
      have := (List.getElem?_eq_some_iff.mp hd).1
      simpa [strItems] using this
    refine ⟨hi, fun y H' hy => ?_⟩
    obtain ⟨T, c, rfl, hT, rfl, hc⟩ := hy
    have hc' : z.cps.toList[i]? = some c := by rw [Array.getElem?_toList]; exact hc
    have : d = .str ⟨#[c]⟩ := by
      simp [strItems, hc'] at hd
      exact hd.symm
    subst this
    exact pair_laid s rfl hT
  stop H1 μ1 st x s _ := by
    show z.cps.size = (enumItems (strItems z)).length
    simp [enumItems, strItems]
end
section
variable {X : Cx} {W : WX} {e : Expr} {te : DTE} {p pos tpos : Pos} {elts : List Expr} {kk : Nat}
theorem di_enumS (hg : Gl X "enumerate") (hm : X.mg "enumerate" = none) (ha : DE X W e te) (hs : starEach [e] X.env = [(false, eval e X.env)] := by rfl) : DI X W (.Tuple elts kk tpos) (.Call (.Name "enumerate" p) [e] [] pos) (iEnS te) :=
  pi_weak (pi_enumS hg hm (pa_cons ha pa_nil hs) hs) fun σ H R ⟨ρ, st, μ, Qd, Z, hS, ht, hZ, hk⟩ => ⟨ρ, st, μ, _, Z, hS, ht, fun x st1 H1 μ1 v hx e1 s1 rv => by
    cases x with
    | str z =>
      rw [show v = _ from rv]
      exact ⟨z, rfl, hk _ _ _ _ _ _ hx e1 s1 ItRep.enumS⟩
    | _ => exact (show False from hx).elim, hZ⟩
end
end DL
namespace RD
open PySem L2 PySem.Spec DL
open PyProof.Rows hiding St
abbrev N_check_line : List Str := ["text", "total", "at", "sign"]
def e_check_line_1 : DTE := (dOp dMul (dCB dOrdS (dCons (dVar 3) dNil)) (dOp dAdd (dVar 2) (dC (.int 1))))
def t_check_line : DTS := (dSeq (dAsg (dCB dSum (dCons (dLc (iEnS (dVar 0)) (gTup' 2 (gCons' (gN 2) (gCons' (gN 3) gNil'))) dYes (e_check_line_1) [2, 3]) dNil)) (gN 1))
    (dRet (dJoined [(dC (.str "check ")), (dFmt (dOp dMod (dVar 1) (dC (.int 99991))))])))
abbrev N_triple_line : List Str := ["triple", "name", "version", "features"]
def t_triple_line (s_place_text : DSp) : DTS := (dSeq (dAsg (dVar 0) (gTup' 3 (gCons' (gN 1) (gCons' (gN 2) (gCons' (gN 3) gNil')))))
    (dRet (dBM "str" dJoin (dC (.str " ")) (dCons (dLst (dCons (dCall 2 s_place_text (dCons (dVar 1) (dCons (dVar 2) dNil))) (dStar (dVar 3) dNil))) dNil))))
abbrev N_lock_text : List Str := ["installation", "text", "triple"]
def e_lock_text_1 (s_text_of : DSp) (s_check_line : DSp) (s_triple_line : DSp) : DTE := (dCall 1 s_triple_line (dCons (dVar 2) dNil))
def t_lock_text (s_text_of : DSp) (s_check_line : DSp) (s_triple_line : DSp) : DTS := (dSeq (dAsg (dCall 1 s_text_of (dCons (dLc (iD (dVar 0)) (gN 2) dYes (e_lock_text_1 s_text_of s_check_line s_triple_line) [2]) dNil)) (gN 1))
    (dRet (dOp dAdd (dVar 1) (dCall 1 s_text_of (dCons (dLst (dCons (dCall 1 s_check_line (dCons (dVar 1) dNil)) dNil)) dNil)))))
abbrev N_told_triple : List Str := ["line", "name", "_", "behind", "words", "triple"]
def t_told_triple (s_told_version : DSp) (s_is_triple : DSp) : DTS := (dSeq (dAsg (dBM "str" dPartition (dVar 0) (dCons (dC (.str " ")) dNil)) (gTup' 3 (gCons' (gN 1) (gCons' (gN 2) (gCons' (gN 3) gNil')))))
    (dSeq (dAsg (dBM "str" dSplit (dVar 3) (dCons (dC (.str " ")) dNil)) (gN 4))
    (dSeq (dAsg (dTup (dCons (dVar 1) (dCons (dCall 1 s_told_version (dCons (dOp dIx (dVar 4) (dC (.int 0))) dNil)) (dCons (dCB dTupOf (dCons (dSl (dVar 4) (dPart (dC (.int 1))) dNoPart) dNil)) dNil)))) (gN 5))
    (dSeq (dIfS (dNot (dTru (dCall 1 s_is_triple (dCons (dVar 5) dNil)))) (dRet (dC (.non))) dNext)
    (dRet (dVar 5))))))
abbrev N_read_lock : List Str := ["text", "lines", "rest", "found", "line", "triple", "many"]
def b_read_lock_1 [ErrCtx] (s_lines_of : DSp) (s_text_of : DSp) (s_check_line : DSp) (s_told_triple : DSp) : DTS := (dSeq (dAsg (dCall 1 s_told_triple (dCons (dVar 4) dNil)) (gN 5))
    (dSeq (dIfS (dOr (dTest (dOp (dIsN id) (dVar 5) (dC (.non)))) (dAnd (dTru (dVar 3)) (dTest (dOp dLe (dOp dIx (dVar 5) (dC (.int 0))) (dOp dIx (dOp dIx (dVar 3) (dUn dNegV (dC (.int 1)))) (dC (.int 0))))))) dBreak dNext)
    (dDrop (dBM "list" dAppend (dVar 3) (dCons (dVar 5) dNil)))))
def t_read_lock [ErrCtx] (s_lines_of : DSp) (s_text_of : DSp) (s_check_line : DSp) (s_told_triple : DSp) : DTS := (dSeq (dAsg (dCall 1 s_lines_of (dCons (dVar 0) dNil)) (gTup' 2 (gCons' (gN 1) (gCons' (gN 2) gNil'))))
    (dSeq (dAsg (dLst dNil) (gN 3))
    (dSeq (dFor (iD (dVar 1)) (gN 4) (b_read_lock_1 s_lines_of s_text_of s_check_line s_told_triple))
    (dSeq (dAsg (dCB dLen (dCons (dVar 3) dNil)) (gN 6))
    (dSeq (dIfS (dOr (dTest (dOp dEq (dVar 6) (dCB dLen (dCons (dVar 1) dNil)))) (dTest (dOp dNe (dOp dIx (dVar 1) (dVar 6)) (dCall 1 s_check_line (dCons (dCall 1 s_text_of (dCons (dSl (dVar 1) dNoPart (dPart (dVar 6))) dNil)) dNil))))) (dRaise1 4 "number" (dOp dAdd (dVar 6) (dC (.int 1)))) dNext)
    (dSeq (dIfS (dOr (dTest (dOp dLt (dOp dAdd (dVar 6) (dC (.int 1))) (dCB dLen (dCons (dVar 1) dNil)))) (dTest (dOp dNe (dVar 2) (dC (.str ""))))) (dRaise1 4 "number" (dOp dAdd (dVar 6) (dC (.int 2)))) dNext)
    (dRet (dCB dTupOf (dCons (dVar 3) dNil)))))))))
abbrev N__law_hand_k41 : List Str := ["script", "cells", "cell"]
def e__law_hand_k41_1 : DTE := (dCB dAbs (dCons (dCB dInt (dCons (dVar 2) dNil)) dNil))
def t__law_hand_k41 : DTS := (dSeq (dAsg (dLc (iD (dSl (dVar 0) dNoPart (dPart (dC (.int 63))))) (gN 2) dYes (e__law_hand_k41_1) [2]) (gN 1))
    (dRet (dDisp [((dC (.str "cells")), (dVar 1)), ((dC (.str "at")), (dC (.int 0))), ((dC (.str "left")), (dC (.int 0))), ((dC (.str "seed")), (dOp dAdd (dC (.int 40961)) (dCB dLen (dCons (dVar 1) dNil)))), ((dC (.str "turn")), (dC (.int 0)))])))
abbrev N__law_draw_k41 : List Str := ["hand", "many", "cell", "digit", "number"]
def t__law_draw_k41 : DTS := (dSeq (dIfS (dAnd (dTest (dOp dEq (dDGet (dVar 0) (dC (.str "left"))) (dC (.int 0)))) (dTest (dOp dLt (dDGet (dVar 0) (dC (.str "at"))) (dCB dLen (dCons (dDGet (dVar 0) (dC (.str "cells"))) dNil))))) (dSeq (dAsg (dOp dIx (dDGet (dVar 0) (dC (.str "cells"))) (dDGet (dVar 0) (dC (.str "at")))) (gN 2))
    (dSeq (dAsg (dOp dAdd (dDGet (dVar 0) (dC (.str "at"))) (dC (.int 1))) (gSub' (dVar 0) (dC (.str "at")) dSetK))
    (dSeq (dAsg (dOp dMod (dCB dInt (dCons (dOp dAdd (dOp dAdd (dOp dMul (dDGet (dVar 0) (dC (.str "seed"))) (dC (.int 69621))) (dVar 2)) (dC (.int 11))) dNil)) (dC (.int 2147483629))) (gSub' (dVar 0) (dC (.str "seed")) dSetK))
    (dAsg (dIf (dTest (dOp dGe (dVar 2) (dOp dPow (dC (.int 10)) (dC (.int 18))))) (dVar 2) (dC (.int 0))) (gSub' (dVar 0) (dC (.str "left")) dSetK))))) dNext)
    (dSeq (dIfS (dTest (dOp dGt (dDGet (dVar 0) (dC (.str "left"))) (dC (.int 0)))) (dSeq (dAsg (dOp dMod (dCB dInt (dCons (dDGet (dVar 0) (dC (.str "left"))) dNil)) (dVar 1)) (gN 3))
    (dSeq (dAsg (dOp dDiv (dDGet (dVar 0) (dC (.str "left"))) (dVar 1)) (gSub' (dVar 0) (dC (.str "left")) dSetK))
    (dRet (dVar 3)))) dNext)
    (dSeq (dAsg (dOp dAdd (dDGet (dVar 0) (dC (.str "turn"))) (dC (.int 1))) (gSub' (dVar 0) (dC (.str "turn")) dSetK))
    (dSeq (dAsg (dOp dMod (dCB dInt (dCons (dOp dMul (dCB dInt (dCons (dOp dAdd (dDGet (dVar 0) (dC (.str "seed"))) (dOp dMul (dC (.int 7927)) (dDGet (dVar 0) (dC (.str "turn"))))) dNil)) (dC (.int 48271))) dNil)) (dC (.int 2147483647))) (gN 4))
    (dSeq (dAsg (dOp dMod (dCB dInt (dCons (dOp dMul (dVar 4) (dOp dAdd (dOp dDiv (dVar 4) (dC (.int 1013))) (dC (.int 69623)))) dNil)) (dC (.int 2147483587))) (gN 4))
    (dSeq (dAsg (dOp dMod (dCB dInt (dCons (dOp dAdd (dOp dMul (dVar 4) (dOp dAdd (dOp dDiv (dVar 4) (dC (.int 2011))) (dC (.int 40693)))) (dDGet (dVar 0) (dC (.str "turn")))) dNil)) (dC (.int 2147483399))) (gN 4))
    (dRet (dOp dMod (dCB dInt (dCons (dOp dDiv (dVar 4) (dC (.int 32))) dNil)) (dVar 1)))))))))
abbrev N__law_any : List Str := ["hand", "things"]
def t__law_any (s__law_draw : DSp) : DTS := (dRet (dOp dIx (dVar 1) (dCall 2 s__law_draw (dCons (dVar 0) (dCons (dCB dLen (dCons (dVar 1) dNil)) dNil)))))
abbrev N__law_name : List Str := ["hand", "letters", "k"]
def e__law_name_1 (s__law_draw : DSp) (s__law_any : DSp) : DTE := (dOp dIx (dVar 1) (dCall 2 s__law_draw (dCons (dVar 0) (dCons (dC (.int 26)) dNil))))
def t__law_name (s__law_draw : DSp) (s__law_any : DSp) : DTS := (dSeq (dAsg (dC (.str "abcdefghijklmnopqrstuvwxyz")) (gN 1))
    (dSeq (dIfS (dTest (dOp dEq (dCall 2 s__law_draw (dCons (dVar 0) (dCons (dC (.int 9)) dNil))) (dC (.int 0)))) (dRet (dCall 2 s__law_any (dCons (dVar 0) (dCons (dLst (dCons (dC (.str "check")) (dCons (dC (.str "edition")) (dCons (dC (.str "done")) (dCons (dC (.str "a")) (dCons (dC (.str "zz")) (dCons (dC (.str "checkcheckab")) dNil))))))) dNil)))) dNext)
    (dRet (dBM "str" dJoin (dC (.str "")) (dCons (dLc (iR1 (dCons (dOp dAdd (dC (.int 1)) (dCall 2 s__law_any (dCons (dVar 0) (dCons (dLst (dCons (dC (.int 0)) (dCons (dC (.int 0)) (dCons (dC (.int 1)) (dCons (dC (.int 2)) (dCons (dC (.int 4)) (dCons (dC (.int 11)) dNil))))))) dNil)))) dNil)) (gN 2) dYes (e__law_name_1 s__law_draw s__law_any) [2]) dNil)))))
abbrev N__law_installation : List Str := ["hand", "found", "name", "k", "numbers", "features"]
def e__law_installation_1 (s__law_draw : DSp) (s__law_any : DSp) (s__law_name : DSp) : DTE := (dCall 1 s__law_name (dCons (dVar 0) dNil))
def e__law_installation_2 (s__law_draw : DSp) (s__law_any : DSp) (s__law_name : DSp) : DTE := (dCall 2 s__law_any (dCons (dVar 0) (dCons (dLst (dCons (dC (.int 0)) (dCons (dC (.int 1)) (dCons (dC (.int 9)) (dCons (dC (.int 10)) (dCons (dC (.int 1000000)) (dCons (dCall 2 s__law_draw (dCons (dVar 0) (dCons (dC (.int 1000001)) dNil))) dNil))))))) dNil)))
def e__law_installation_3 (s__law_draw : DSp) (s__law_any : DSp) (s__law_name : DSp) : DTE := (dCall 1 s__law_name (dCons (dVar 0) dNil))
def b__law_installation_4 (s__law_draw : DSp) (s__law_any : DSp) (s__law_name : DSp) : DTS := (dSeq (dAsg (dLc (iR1 (dCons (dC (.int 3)) dNil)) (gN 3) dYes (e__law_installation_2 s__law_draw s__law_any s__law_name) [3]) (gN 4))
    (dSeq (dAsg (dCB dSortTx (dCons (dLc (iR1 (dCons (dCall 2 s__law_any (dCons (dVar 0) (dCons (dLst (dCons (dC (.int 0)) (dCons (dC (.int 0)) (dCons (dC (.int 0)) (dCons (dC (.int 0)) (dCons (dC (.int 1)) (dCons (dC (.int 2)) (dCons (dC (.int 3)) (dCons (dC (.int 9)) dNil))))))))) dNil))) dNil)) (gN 3) dYes (e__law_installation_3 s__law_draw s__law_any s__law_name) [3]) dNil)) (gN 5))
    (dDrop (dBM "list" dAppend (dVar 1) (dCons (dTup (dCons (dVar 2) (dCons (dCB dTupOf (dCons (dVar 4) dNil)) (dCons (dCB dTupOf (dCons (dVar 5) dNil)) dNil)))) dNil)))))
def t__law_installation (s__law_draw : DSp) (s__law_any : DSp) (s__law_name : DSp) : DTS := (dSeq (dAsg (dLst dNil) (gN 1))
    (dSeq (dFor (iD (dCB dSortTx (dCons (dLc (iR1 (dCons (dCall 2 s__law_any (dCons (dVar 0) (dCons (dLst (dCons (dC (.int 0)) (dCons (dC (.int 1)) (dCons (dC (.int 1)) (dCons (dC (.int 2)) (dCons (dC (.int 2)) (dCons (dC (.int 3)) (dCons (dC (.int 3)) (dCons (dC (.int 4)) (dCons (dC (.int 4)) (dCons (dC (.int 5)) (dCons (dC (.int 6)) (dCons (dC (.int 60)) dNil))))))))))))) dNil))) dNil)) (gN 3) dYes (e__law_installation_1 s__law_draw s__law_any s__law_name) [3]) dNil))) (gN 2) (b__law_installation_4 s__law_draw s__law_any s__law_name))
    (dRet (dCB dTupOf (dCons (dVar 1) dNil)))))
abbrev N__law_check : List Str := ["text", "tail", "total", "sign"]
def b__law_check_1 : DTS := (dSeq (dAsg (dOp dAdd (dVar 1) (dCB dOrdS (dCons (dVar 3) dNil))) (gN 1))
    (dAsg (dOp dAdd (dVar 2) (dVar 1)) (gN 2)))
def t__law_check : DTS := (dSeq (dAsg (dTup (dCons (dC (.int 0)) (dCons (dC (.int 0)) dNil))) (gTup' 2 (gCons' (gN 1) (gCons' (gN 2) gNil'))))
    (dSeq (dFor (iD (dRevS (dVar 0))) (gN 3) (b__law_check_1))
    (dRet (dOp dMod (dCB dInt (dCons (dVar 2) dNil)) (dC (.int 99991))))))
abbrev N__law_line : List Str := ["triple", "name", "version", "features", "line", "feature"]
def e__law_line_1 : DTE := (dOp dAdd (dC (.str " ")) (dVar 5))
def t__law_line : DTS := (dSeq (dAsg (dVar 0) (gTup' 3 (gCons' (gN 1) (gCons' (gN 2) (gCons' (gN 3) gNil')))))
    (dSeq (dAsg (dOp dAdd (dOp dAdd (dOp dAdd (dOp dAdd (dOp dAdd (dOp dAdd (dVar 1) (dC (.str " "))) (dCB dStrI (dCons (dOp dIx (dVar 2) (dC (.int 0))) dNil))) (dC (.str "."))) (dCB dStrI (dCons (dOp dIx (dVar 2) (dC (.int 1))) dNil))) (dC (.str "."))) (dCB dStrI (dCons (dOp dIx (dVar 2) (dC (.int 2))) dNil))) (gN 4))
    (dRet (dOp dAdd (dOp dAdd (dVar 4) (dBM "str" dJoin (dC (.str "")) (dCons (dLc (iD (dVar 3)) (gN 5) dYes (e__law_line_1) [5]) dNil))) (dC (.str "\n"))))))
abbrev N__law_text : List Str := ["installation", "body", "triple"]
def e__law_text_1 (s__law_check : DSp) (s__law_line : DSp) : DTE := (dCall 1 s__law_line (dCons (dVar 2) dNil))
def t__law_text (s__law_check : DSp) (s__law_line : DSp) : DTS := (dSeq (dAsg (dBM "str" dJoin (dC (.str "")) (dCons (dLc (iD (dVar 0)) (gN 2) dYes (e__law_text_1 s__law_check s__law_line) [2]) dNil)) (gN 1))
    (dRet (dOp dAdd (dOp dAdd (dOp dAdd (dVar 1) (dC (.str "check "))) (dCB dStrI (dCons (dCall 1 s__law_check (dCons (dVar 1) dNil)) dNil))) (dC (.str "\n")))))
end RD
namespace RD
open PySem L2 PySem.Spec DL
open PyProof.Rows hiding St
abbrev N__law_is_name_k42 : List Str := ["word", "sign"]
def e__law_is_name_k42_1 : DTE := (dOp dInC (dVar 1) (dC (.str "abcdefghijklmnopqrstuvwxyz")))
def t__law_is_name_k42 : DTS := (dRet (dAndV (dChain dLe dLe (dC (.int 1)) (dCB dLen (dCons (dVar 0) dNil)) (dC (.int 12))) (dCB dAll (dCons (dLc (iD (dVar 0)) (gN 1) dYes (e__law_is_name_k42_1) [1]) dNil))))
abbrev N__law_number : List Str := ["word", "most", "sign"]
def e__law_number_1 : DTE := (dOp dInC (dVar 2) (dC (.str "0123456789")))
def t__law_number : DTS := (dSeq (dIfS (dOr (dNot (dTest (dChain dLe dLe (dC (.int 1)) (dCB dLen (dCons (dVar 0) dNil)) (dC (.int 12))))) (dOr (dNot (dTru (dCB dAll (dCons (dLc (iD (dVar 0)) (gN 2) dYes (e__law_number_1) [2]) dNil)))) (dTest (dOp dNe (dVar 0) (dCB dStrI (dCons (dCB dIntS (dCons (dVar 0) dNil)) dNil)))))) (dRet (dC (.non))) dNext)
    (dRet (dIf (dTest (dOp dLe (dCB dIntS (dCons (dVar 0) dNil)) (dVar 1))) (dCB dIntS (dCons (dVar 0) dNil)) (dC (.non)))))
abbrev N__law_triple : List Str := ["line", "words", "word", "numbers", "features"]
def e__law_triple_1 (s__law_is_name : DSp) (s__law_number : DSp) : DTE := (dCall 1 s__law_is_name (dCons (dVar 2) dNil))
def e__law_triple_2 (s__law_is_name : DSp) (s__law_number : DSp) : DTE := (dCall 2 s__law_number (dCons (dVar 2) (dCons (dC (.int 1000000)) dNil)))
def t__law_triple (s__law_is_name : DSp) (s__law_number : DSp) : DTS := (dSeq (dAsg (dBM "str" dSplit (dVar 0) (dCons (dC (.str " ")) dNil)) (gN 1))
    (dSeq (dIfS (dOr (dTest (dOp dLt (dCB dLen (dCons (dVar 1) dNil)) (dC (.int 2)))) (dNot (dTru (dCB dAll (dCons (dLc (iD (dOp dAdd (dSl (dVar 1) dNoPart (dPart (dC (.int 1)))) (dSl (dVar 1) (dPart (dC (.int 2))) dNoPart))) (gN 2) dYes (e__law_triple_1 s__law_is_name s__law_number) [2]) dNil))))) (dRet (dC (.non))) dNext)
    (dSeq (dPar 3 4 (dCons (dLc (iD (dBM "str" dSplit (dOp dIx (dVar 1) (dC (.int 1))) (dCons (dC (.str ".")) dNil))) (gN 2) dYes (e__law_triple_2 s__law_is_name s__law_number) [2]) (dCons (dSl (dVar 1) (dPart (dC (.int 2))) dNoPart) dNil)))
    (dSeq (dIfS (dOr (dTest (dOp dNe (dCB dLen (dCons (dVar 3) dNil)) (dC (.int 3)))) (dOr (dTest (dOp (dIn false) (dC (.non)) (dVar 3))) (dTest (dOp dNe (dVar 4) (dCB dSortTx (dCons (dVar 4) dNil)))))) (dRet (dC (.non))) dNext)
    (dRet (dTup (dCons (dOp dIx (dVar 1) (dC (.int 0))) (dCons (dCB dTupOf (dCons (dVar 3) dNil)) (dCons (dCB dTupOf (dCons (dVar 4) dNil)) dNil)))))))))
abbrev N__law_due_k42 : List Str := ["text", "rows", "found", "body", "number", "line", "triple"]
def b__law_due_k42_1 (s__law_check : DSp) (s__law_number : DSp) (s__law_triple : DSp) : DTS := (dSeq (dAsg (dOp dIx (dVar 1) (dOp dSub (dVar 4) (dC (.int 1)))) (gN 5))
    (dSeq (dAsg (dCall 1 s__law_triple (dCons (dVar 5) dNil)) (gN 6))
    (dIfS (dTest (dOp (dIsN not) (dVar 6) (dC (.non)))) (dSeq (dIfS (dAnd (dTest (dOp dGt (dCB dLen (dCons (dVar 2) dNil)) (dC (.int 0)))) (dTest (dOp dGe (dOp dIx (dOp dIx (dVar 2) (dUn dNegV (dC (.int 1)))) (dC (.int 0))) (dOp dIx (dVar 6) (dC (.int 0)))))) (dRet (dTup (dCons (dC (.str "refused")) (dCons (dVar 4) dNil)))) dNext)
    (dSeq (dDrop (dBM "list" dAppend (dVar 2) (dCons (dVar 6) dNil)))
    (dAsg (dOp dAdd (dOp dAdd (dVar 3) (dVar 5)) (dC (.str "\n"))) (gN 3)))) (dIfS (dOr (dTest (dOp dNe (dSl (dVar 5) dNoPart (dPart (dC (.int 6)))) (dC (.str "check ")))) (dTest (dOp dNe (dCall 2 s__law_number (dCons (dSl (dVar 5) (dPart (dC (.int 6))) dNoPart) (dCons (dC (.int 99990)) dNil))) (dCall 1 s__law_check (dCons (dVar 3) dNil))))) (dRet (dTup (dCons (dC (.str "refused")) (dCons (dVar 4) dNil)))) (dIfS (dTest (dOp dNe (dVar 0) (dOp dAdd (dOp dAdd (dVar 3) (dVar 5)) (dC (.str "\n"))))) (dRet (dTup (dCons (dC (.str "refused")) (dCons (dOp dAdd (dVar 4) (dC (.int 1))) dNil)))) (dRet (dTup (dCons (dC (.str "told")) (dCons (dCB dTupOf (dCons (dVar 2) dNil)) dNil)))))))))
def t__law_due_k42 (s__law_check : DSp) (s__law_number : DSp) (s__law_triple : DSp) : DTS := (dSeq (dAsg (dBM "str" dSplit (dVar 0) (dCons (dC (.str "\n")) dNil)) (gN 1))
    (dSeq (dPar 2 3 (dCons (dLst dNil) (dCons (dC (.str "")) dNil)))
    (dSeq (dFor (iR2 (dCons (dC (.int 1)) (dCons (dCB dLen (dCons (dVar 1) dNil)) dNil))) (gN 4) (b__law_due_k42_1 s__law_check s__law_number s__law_triple))
    (dRet (dTup (dCons (dC (.str "refused")) (dCons (dCB dLen (dCons (dVar 1) dNil)) dNil)))))))
abbrev N__law_read : List Str := ["text", "answer", "e"]
def b__law_read_1 [ErrCtx] (s_read_lock : DSp) : DTS := (dAsg (dTup (dCons (dC (.str "told")) (dCons (dCall 1 s_read_lock (dCons (dVar 0) dNil)) dNil))) (gN 1))
def s__law_read_2 [ErrCtx] (s_read_lock : DSp) : Addr → DX → DTS := fun a x => (dIfS (dAnd (dTru (dXi a x [(4, true)] (dVar 2))) (dAnd (dTru (dXi a x [(4, true)] (dVar 2))) (dNot (dTru (dXi a x [(4, false)] (dVar 2)))))) (dAsg (dTup (dCons (dC (.str "refused")) (dCons (dXf a x 4 "number" (dVar 2)) dNil))) (gN 1)) dNext)
def t__law_read [ErrCtx] (s_read_lock : DSp) : DTS := (dSeq (dAsg (dTup (dCons (dC (.non)) (dCons (dC (.non)) dNil))) (gN 1))
    (dSeq (dTryAs [4] 2 (b__law_read_1 s_read_lock) ((s__law_read_2 s_read_lock)))
    (dSeq (dIfS (dAnd (dTest (dOp dEq (dOp dIx (dVar 1) (dC (.int 0))) (dC (.str "refused")))) (dOr (dNot (dTru (dIsi (dOp dIx (dVar 1) (dC (.int 1))) ["int"]))) (dTru (dIsi (dOp dIx (dVar 1) (dC (.int 1))) ["bool"])))) (dRet (dTup (dCons (dC (.non)) (dCons (dC (.non)) dNil)))) dNext)
    (dRet (dVar 1)))))
abbrev N__law_changed : List Str := ["hand", "text", "signs", "at", "near", "others", "sign"]
def i__law_changed_1 (s__law_draw : DSp) (s__law_any : DSp) : DTT := (dTest (dOp dNe (dVar 6) (dOp dIx (dVar 1) (dVar 3))))
def e__law_changed_2 (s__law_draw : DSp) (s__law_any : DSp) : DTE := (dVar 6)
def t__law_changed (s__law_draw : DSp) (s__law_any : DSp) : DTS := (dSeq (dAsg (dC (.str " !\"#$&'()*+,-./0123456789:;<=>?@ABCDEFGHIJKLMNOPQRSTUVWXYZ[\\]^_`abcdefghijklmnopqrstuvwxyz{|}~\n")) (gN 2))
    (dSeq (dAsg (dCall 2 s__law_draw (dCons (dVar 0) (dCons (dCB dLen (dCons (dVar 1) dNil)) dNil))) (gN 3))
    (dSeq (dAsg (dCall 2 s__law_any (dCons (dVar 0) (dCons (dLst (dCons (dVar 2) (dCons (dVar 2) (dCons (dC (.str "0123456789")) (dCons (dC (.str "abcdefghijklmnopqrstuvwxyz")) (dCons (dC (.str " \n.")) dNil)))))) dNil))) (gN 4))
    (dSeq (dAsg (dLc (iD (dVar 4)) (gN 6) (i__law_changed_1 s__law_draw s__law_any) (e__law_changed_2 s__law_draw s__law_any) [6]) (gN 5))
    (dRet (dOp dAdd (dOp dAdd (dSl (dVar 1) dNoPart (dPart (dVar 3))) (dCall 2 s__law_any (dCons (dVar 0) (dCons (dVar 5) dNil)))) (dSl (dVar 1) (dPart (dOp dAdd (dVar 3) (dC (.int 1)))) dNoPart)))))))
abbrev N__law_exchanged : List Str := ["hand", "text", "one", "others", "k", "late", "other", "low", "high"]
def i__law_exchanged_1 (s__law_draw : DSp) (s__law_any : DSp) : DTT := (dTest (dOp dNe (dOp dIx (dVar 1) (dVar 4)) (dOp dIx (dVar 1) (dVar 2))))
def e__law_exchanged_2 (s__law_draw : DSp) (s__law_any : DSp) : DTE := (dVar 4)
def i__law_exchanged_3 (s__law_draw : DSp) (s__law_any : DSp) : DTT := (dTest (dOp dGt (dVar 4) (dOp dSub (dCB dLen (dCons (dVar 1) dNil)) (dC (.int 8)))))
def e__law_exchanged_4 (s__law_draw : DSp) (s__law_any : DSp) : DTE := (dVar 4)
def t__law_exchanged (s__law_draw : DSp) (s__law_any : DSp) : DTS := (dSeq (dAsg (dCall 2 s__law_draw (dCons (dVar 0) (dCons (dCB dLen (dCons (dVar 1) dNil)) dNil))) (gN 2))
    (dSeq (dAsg (dLc (iR1 (dCons (dCB dLen (dCons (dVar 1) dNil)) dNil)) (gN 4) (i__law_exchanged_1 s__law_draw s__law_any) (e__law_exchanged_2 s__law_draw s__law_any) [4]) (gN 3))
    (dSeq (dAsg (dLc (iD (dVar 3)) (gN 4) (i__law_exchanged_3 s__law_draw s__law_any) (e__law_exchanged_4 s__law_draw s__law_any) [4]) (gN 5))
    (dSeq (dAsg (dCall 2 s__law_any (dCons (dVar 0) (dCons (dIf (dAnd (dTest (dOp dGt (dCB dLen (dCons (dVar 5) dNil)) (dC (.int 0)))) (dTest (dOp dEq (dCall 2 s__law_draw (dCons (dVar 0) (dCons (dC (.int 3)) dNil))) (dC (.int 0))))) (dVar 5) (dVar 3)) dNil))) (gN 6))
    (dSeq (dPar 7 8 (dCons (dCB dMin2 (dCons (dVar 2) (dCons (dVar 6) dNil))) (dCons (dCB dMaxI (dCons (dVar 2) (dCons (dVar 6) dNil))) dNil)))
    (dRet (dOp dAdd (dOp dAdd (dOp dAdd (dOp dAdd (dSl (dVar 1) dNoPart (dPart (dVar 7))) (dOp dIx (dVar 1) (dVar 8))) (dSl (dVar 1) (dPart (dOp dAdd (dVar 7) (dC (.int 1)))) (dPart (dVar 8)))) (dOp dIx (dVar 1) (dVar 7))) (dSl (dVar 1) (dPart (dOp dAdd (dVar 8) (dC (.int 1)))) dNoPart))))))))
abbrev N__law_harmed : List Str := ["hand", "text", "kind"]
def t__law_harmed (s__law_draw : DSp) (s__law_any : DSp) (s__law_changed : DSp) (s__law_exchanged : DSp) : DTS := (dSeq (dAsg (dCall 2 s__law_draw (dCons (dVar 0) (dCons (dC (.int 8)) dNil))) (gN 2))
    (dSeq (dIfS (dTest (dOp dLt (dVar 2) (dC (.int 3)))) (dRet (dCall 2 s__law_changed (dCons (dVar 0) (dCons (dVar 1) dNil)))) dNext)
    (dSeq (dIfS (dTest (dOp dLt (dVar 2) (dC (.int 6)))) (dRet (dCall 2 s__law_exchanged (dCons (dVar 0) (dCons (dVar 1) dNil)))) dNext)
    (dSeq (dIfS (dTest (dOp dEq (dVar 2) (dC (.int 6)))) (dRet (dSl (dVar 1) dNoPart (dPart (dCall 2 s__law_any (dCons (dVar 0) (dCons (dLst (dCons (dCall 2 s__law_draw (dCons (dVar 0) (dCons (dCB dLen (dCons (dVar 1) dNil)) dNil))) (dCons (dOp dSub (dCB dLen (dCons (dVar 1) dNil)) (dC (.int 1))) (dCons (dBM "str" dFind (dVar 1) (dCons (dC (.str "check ")) dNil)) dNil)))) dNil)))))) dNext)
    (dRet (dOp dAdd (dVar 1) (dCall 2 s__law_any (dCons (dVar 0) (dCons (dLst (dCons (dC (.str "\n")) (dCons (dC (.str " ")) (dCons (dC (.str "x")) (dCons (dC (.str "check 0\n")) (dCons (dC (.str "a 1.0.0\n")) (dCons (dVar 1) (dCons (dSl (dVar 1) (dPart (dUn dNegV (dC (.int 8)))) dNoPart) dNil)))))))) dNil)))))))))
abbrev N_law_k43 : List Str := ["script", "hand", "installation", "text", "turn", "harmed", "due", "answer"]
def b_law_k43_1 (s_lock_text : DSp) (s__law_hand : DSp) (s__law_installation : DSp) (s__law_text : DSp) (s__law_due : DSp) (s__law_read : DSp) (s__law_harmed : DSp) : DTS := (dSeq (dAsg (dCall 2 s__law_harmed (dCons (dVar 1) (dCons (dVar 3) dNil))) (gN 5))
    (dSeq (dPar 6 7 (dCons (dCall 1 s__law_due (dCons (dVar 5) dNil)) (dCons (dCall 1 s__law_read (dCons (dVar 5) dNil)) dNil)))
    (dIfS (dOr (dTest (dOp dNe (dOp dIx (dVar 7) (dC (.int 0))) (dC (.str "refused")))) (dTest (dOp dNe (dVar 7) (dVar 6)))) (dRet (dC (.bl false))) dNext)))
def t_law_k43 (s_lock_text : DSp) (s__law_hand : DSp) (s__law_installation : DSp) (s__law_text : DSp) (s__law_due : DSp) (s__law_read : DSp) (s__law_harmed : DSp) : DTS := (dSeq (dAsg (dCall 1 s__law_hand (dCons (dVar 0) dNil)) (gN 1))
    (dSeq (dAsg (dCall 1 s__law_installation (dCons (dVar 1) dNil)) (gN 2))
    (dSeq (dAsg (dCall 1 s_lock_text (dCons (dVar 2) dNil)) (gN 3))
    (dSeq (dIfS (dOr (dTest (dOp dNe (dVar 3) (dCall 1 s__law_text (dCons (dVar 2) dNil)))) (dTest (dOp dNe (dCall 1 s__law_read (dCons (dVar 3) dNil)) (dTup (dCons (dC (.str "told")) (dCons (dVar 2) dNil)))))) (dRet (dC (.bl false))) dNext)
    (dSeq (dFor (iR1 (dCons (dC (.int 8)) dNil)) (gN 4) (b_law_k43_1 s_lock_text s__law_hand s__law_installation s__law_text s__law_due s__law_read s__law_harmed))
    (dRet (dOp dEq (dCall 1 s__law_read (dCons (dVar 3) dNil)) (dTup (dCons (dC (.str "told")) (dCons (dVar 2) dNil))))))))))
end RD
namespace Lk43
open PySem L2 PySem.Spec DL
open PyProof.Rows hiding St
def topS (i : Nat) : Stmt := PySem.Challenge.pw_lockwright_k43_whole_harmed_lock_texts_n.main.body.getD i (.Pass ⟨0, 0, 0, 0⟩)
abbrev S_is_integer : Stmt := topS 6
abbrev N_is_integer : List Str := RD.N_is_integer
theorem sc_is_integer : FnScope N_is_integer ["thing"] (defScope S_is_integer) := ⟨rfl, rfl, rfl, by decide +kernel, rfl, by decide +kernel, by decide +kernel⟩
abbrev S_is_number : Stmt := topS 7
abbrev N_is_number : List Str := RD.N_is_number
theorem sc_is_number : FnScope N_is_number ["thing"] (defScope S_is_number) := ⟨rfl, rfl, rfl, by decide +kernel, rfl, by decide +kernel, by decide +kernel⟩
abbrev S_is_name : Stmt := topS 8
abbrev N_is_name : List Str := RD.N_is_name
theorem sc_is_name : FnScope N_is_name ["thing"] (defScope S_is_name) := ⟨rfl, rfl, rfl, by decide +kernel, rfl, by decide +kernel, by decide +kernel⟩
abbrev S_is_names : Stmt := topS 9
abbrev N_is_names : List Str := RD.N_is_names
theorem sc_is_names : FnScope N_is_names ["thing"] (defScope S_is_names) := ⟨rfl, rfl, rfl, by decide +kernel, rfl, by decide +kernel, by decide +kernel⟩
abbrev S_is_tuple_of : Stmt := topS 10
abbrev N_is_tuple_of : List Str := RD.N_is_tuple_of
theorem sc_is_tuple_of : FnScope N_is_tuple_of ["many", "thing"] (defScope S_is_tuple_of) := ⟨rfl, rfl, rfl, by decide +kernel, rfl, by decide +kernel, by decide +kernel⟩
abbrev S_is_version : Stmt := topS 14
abbrev N_is_version : List Str := RD.N_is_version
theorem sc_is_version : FnScope N_is_version ["thing"] (defScope S_is_version) := ⟨rfl, rfl, rfl, by decide +kernel, rfl, by decide +kernel, by decide +kernel⟩
abbrev S_version_text : Stmt := topS 15
abbrev N_version_text : List Str := RD.N_version_text
theorem sc_version_text : FnScope N_version_text ["version"] (defScope S_version_text) := ⟨rfl, rfl, rfl, by decide +kernel, rfl, by decide +kernel, by decide +kernel⟩
abbrev S_told_number : Stmt := topS 16
abbrev N_told_number : List Str := RD.N_told_number
theorem sc_told_number : FnScope N_told_number ["digits", "text"] (defScope S_told_number) := ⟨rfl, rfl, rfl, by decide +kernel, rfl, by decide +kernel, by decide +kernel⟩
abbrev S_told_version : Stmt := topS 17
abbrev N_told_version : List Str := RD.N_told_version
theorem sc_told_version : FnScope N_told_version ["text"] (defScope S_told_version) := ⟨rfl, rfl, rfl, by decide +kernel, rfl, by decide +kernel, by decide +kernel⟩
abbrev S_is_triple : Stmt := topS 19
abbrev N_is_triple : List Str := RD.N_is_triple
theorem sc_is_triple : FnScope N_is_triple ["thing"] (defScope S_is_triple) := ⟨rfl, rfl, rfl, by decide +kernel, rfl, by decide +kernel, by decide +kernel⟩
abbrev S_lines_of : Stmt := topS 21
abbrev N_lines_of : List Str := RD.N_lines_of
theorem sc_lines_of : FnScope N_lines_of ["text"] (defScope S_lines_of) := ⟨rfl, rfl, rfl, by decide +kernel, rfl, by decide +kernel, by decide +kernel⟩
abbrev S_text_of : Stmt := topS 22
abbrev N_text_of : List Str := RD.N_text_of
theorem sc_text_of : FnScope N_text_of ["lines"] (defScope S_text_of) := ⟨rfl, rfl, rfl, by decide +kernel, rfl, by decide +kernel, by decide +kernel⟩
abbrev S_place_text : Stmt := topS 23
abbrev N_place_text : List Str := RD.N_place_text
theorem sc_place_text : FnScope N_place_text ["name", "version"] (defScope S_place_text) := ⟨rfl, rfl, rfl, by decide +kernel, rfl, by decide +kernel, by decide +kernel⟩
abbrev S_check_line : Stmt := topS 26
abbrev N_check_line : List Str := RD.N_check_line
theorem sc_check_line : FnScope N_check_line ["text"] (defScope S_check_line) := ⟨rfl, rfl, rfl, by decide +kernel, rfl, by decide +kernel, by decide +kernel⟩
abbrev S_triple_line : Stmt := topS 27
abbrev N_triple_line : List Str := RD.N_triple_line
theorem sc_triple_line : FnScope N_triple_line ["triple"] (defScope S_triple_line) := ⟨rfl, rfl, rfl, by decide +kernel, rfl, by decide +kernel, by decide +kernel⟩
abbrev S_lock_text : Stmt := topS 28
abbrev N_lock_text : List Str := RD.N_lock_text
theorem sc_lock_text : FnScope N_lock_text ["installation"] (defScope S_lock_text) := ⟨rfl, rfl, rfl, by decide +kernel, rfl, by decide +kernel, by decide +kernel⟩
abbrev S_told_triple : Stmt := topS 29
abbrev N_told_triple : List Str := RD.N_told_triple
theorem sc_told_triple : FnScope N_told_triple ["line"] (defScope S_told_triple) := ⟨rfl, rfl, rfl, by decide +kernel, rfl, by decide +kernel, by decide +kernel⟩
abbrev S_read_lock : Stmt := topS 30
abbrev N_read_lock : List Str := RD.N_read_lock
theorem sc_read_lock : FnScope N_read_lock ["text"] (defScope S_read_lock) := ⟨rfl, rfl, rfl, by decide +kernel, rfl, by decide +kernel, by decide +kernel⟩
abbrev S__law_hand : Stmt := topS 32
abbrev N__law_hand : List Str := RD.N__law_hand_k41
theorem sc__law_hand : FnScope N__law_hand ["script"] (defScope S__law_hand) := ⟨rfl, rfl, rfl, by decide +kernel, rfl, by decide +kernel, by decide +kernel⟩
abbrev S__law_draw : Stmt := topS 33
abbrev N__law_draw : List Str := RD.N__law_draw_k41
theorem sc__law_draw : FnScope N__law_draw ["hand", "many"] (defScope S__law_draw) := ⟨rfl, rfl, rfl, by decide +kernel, rfl, by decide +kernel, by decide +kernel⟩
abbrev S__law_any : Stmt := topS 34
abbrev N__law_any : List Str := RD.N__law_any
theorem sc__law_any : FnScope N__law_any ["hand", "things"] (defScope S__law_any) := ⟨rfl, rfl, rfl, by decide +kernel, rfl, by decide +kernel, by decide +kernel⟩
abbrev S__law_name : Stmt := topS 35
abbrev N__law_name : List Str := RD.N__law_name
theorem sc__law_name : FnScope N__law_name ["hand"] (defScope S__law_name) := ⟨rfl, rfl, rfl, by decide +kernel, rfl, by decide +kernel, by decide +kernel⟩
abbrev S__law_installation : Stmt := topS 36
abbrev N__law_installation : List Str := RD.N__law_installation
theorem sc__law_installation : FnScope N__law_installation ["hand"] (defScope S__law_installation) := ⟨rfl, rfl, rfl, by decide +kernel, rfl, by decide +kernel, by decide +kernel⟩
abbrev S__law_check : Stmt := topS 37
abbrev N__law_check : List Str := RD.N__law_check
theorem sc__law_check : FnScope N__law_check ["text"] (defScope S__law_check) := ⟨rfl, rfl, rfl, by decide +kernel, rfl, by decide +kernel, by decide +kernel⟩
abbrev S__law_line : Stmt := topS 38
abbrev N__law_line : List Str := RD.N__law_line
theorem sc__law_line : FnScope N__law_line ["triple"] (defScope S__law_line) := ⟨rfl, rfl, rfl, by decide +kernel, rfl, by decide +kernel, by decide +kernel⟩
abbrev S__law_text : Stmt := topS 39
abbrev N__law_text : List Str := RD.N__law_text
theorem sc__law_text : FnScope N__law_text ["installation"] (defScope S__law_text) := ⟨rfl, rfl, rfl, by decide +kernel, rfl, by decide +kernel, by decide +kernel⟩
abbrev S__law_is_name : Stmt := topS 40
abbrev N__law_is_name : List Str := RD.N__law_is_name_k42
theorem sc__law_is_name : FnScope N__law_is_name ["word"] (defScope S__law_is_name) := ⟨rfl, rfl, rfl, by decide +kernel, rfl, by decide +kernel, by decide +kernel⟩
abbrev S__law_number : Stmt := topS 41
abbrev N__law_number : List Str := RD.N__law_number
theorem sc__law_number : FnScope N__law_number ["word", "most"] (defScope S__law_number) := ⟨rfl, rfl, rfl, by decide +kernel, rfl, by decide +kernel, by decide +kernel⟩
abbrev S__law_triple : Stmt := topS 42
abbrev N__law_triple : List Str := RD.N__law_triple
theorem sc__law_triple : FnScope N__law_triple ["line"] (defScope S__law_triple) := ⟨rfl, rfl, rfl, by decide +kernel, rfl, by decide +kernel, by decide +kernel⟩
abbrev S__law_due : Stmt := topS 43
abbrev N__law_due : List Str := RD.N__law_due_k42
theorem sc__law_due : FnScope N__law_due ["text"] (defScope S__law_due) := ⟨rfl, rfl, rfl, by decide +kernel, rfl, by decide +kernel, by decide +kernel⟩
abbrev S__law_read : Stmt := topS 44
abbrev N__law_read : List Str := RD.N__law_read
theorem sc__law_read : FnScope N__law_read ["text"] (defScope S__law_read) := ⟨rfl, rfl, rfl, by decide +kernel, rfl, by decide +kernel, by decide +kernel⟩
abbrev S__law_changed : Stmt := topS 45
abbrev N__law_changed : List Str := RD.N__law_changed
theorem sc__law_changed : FnScope N__law_changed ["hand", "text"] (defScope S__law_changed) := ⟨rfl, rfl, rfl, by decide +kernel, rfl, by decide +kernel, by decide +kernel⟩
abbrev S__law_exchanged : Stmt := topS 46
abbrev N__law_exchanged : List Str := RD.N__law_exchanged
theorem sc__law_exchanged : FnScope N__law_exchanged ["hand", "text"] (defScope S__law_exchanged) := ⟨rfl, rfl, rfl, by decide +kernel, rfl, by decide +kernel, by decide +kernel⟩
abbrev S__law_harmed : Stmt := topS 47
abbrev N__law_harmed : List Str := RD.N__law_harmed
theorem sc__law_harmed : FnScope N__law_harmed ["hand", "text"] (defScope S__law_harmed) := ⟨rfl, rfl, rfl, by decide +kernel, rfl, by decide +kernel, by decide +kernel⟩
abbrev S_law : Stmt := topS 48
abbrev N_law : List Str := RD.N_law_k43
theorem sc_law : FnScope N_law ["script"] (defScope S_law) := ⟨rfl, rfl, rfl, by decide +kernel, rfl, by decide +kernel, by decide +kernel⟩
abbrev SI_BadLine : Stmt := mthS (topS 3) 0
theorem sci_BadLine : FnScope ["self", "number"] ["self", "number"] (defScope SI_BadLine) := ⟨rfl, rfl, rfl, by decide +kernel, rfl, by decide +kernel, by decide +kernel⟩
structure Glob [ErrCtx] (K : PySem.W.Frag) (mg : Str → Option Value) : Prop where
  g_BadLine : mg "BadLine" = some (.ref (errA 4))
  g_BadText : mg "BadText" = some (.ref (errA 1))
  g_LockError : mg "LockError" = some (.ref (errA 0))
  xm_BadLine_BadLine : PySem.W.exmOne K (.ref (errA 4)) (.ref (errA 4)) = some true
  ef_BadLine : ErF K 4
  no_BadLine : PySem.W.findIn K (.ref (errA 4)) "number" = some none
  kt_BadLine_BadText : PySem.W.kitOne K (.ref (errA 4)) (.ref (errA 1)) = some false
  kt_BadLine_LockError : PySem.W.kitOne K (.ref (errA 4)) (.ref (errA 0)) = some true
  kt_BadLine_ValueError : PySem.W.kitOne K (.ref (errA 4)) (.type "ValueError") = some true
  d_is_integer : DefIn K mg "is_integer" S_is_integer ["thing"]
  d_is_number : DefIn K mg "is_number" S_is_number ["thing"]
  d_is_name : DefIn K mg "is_name" S_is_name ["thing"]
  d_is_names : DefIn K mg "is_names" S_is_names ["thing"]
  d_is_tuple_of : DefIn K mg "is_tuple_of" S_is_tuple_of ["many", "thing"]
  d_is_version : DefIn K mg "is_version" S_is_version ["thing"]
  d_version_text : DefIn K mg "version_text" S_version_text ["version"]
  d_told_number : DefIn K mg "told_number" S_told_number ["digits", "text"]
  d_told_version : DefIn K mg "told_version" S_told_version ["text"]
  d_is_triple : DefIn K mg "is_triple" S_is_triple ["thing"]
  d_lines_of : DefIn K mg "lines_of" S_lines_of ["text"]
  d_text_of : DefIn K mg "text_of" S_text_of ["lines"]
  d_place_text : DefIn K mg "place_text" S_place_text ["name", "version"]
  d_check_line : DefIn K mg "check_line" S_check_line ["text"]
  d_triple_line : DefIn K mg "triple_line" S_triple_line ["triple"]
  d_lock_text : DefIn K mg "lock_text" S_lock_text ["installation"]
  d_told_triple : DefIn K mg "told_triple" S_told_triple ["line"]
  d_read_lock : DefIn K mg "read_lock" S_read_lock ["text"]
  d__law_hand : DefIn K mg "_law_hand" S__law_hand ["script"]
  d__law_draw : DefIn K mg "_law_draw" S__law_draw ["hand", "many"]
  d__law_any : DefIn K mg "_law_any" S__law_any ["hand", "things"]
  d__law_name : DefIn K mg "_law_name" S__law_name ["hand"]
  d__law_installation : DefIn K mg "_law_installation" S__law_installation ["hand"]
  d__law_check : DefIn K mg "_law_check" S__law_check ["text"]
  d__law_line : DefIn K mg "_law_line" S__law_line ["triple"]
  d__law_text : DefIn K mg "_law_text" S__law_text ["installation"]
  d__law_is_name : DefIn K mg "_law_is_name" S__law_is_name ["word"]
  d__law_number : DefIn K mg "_law_number" S__law_number ["word", "most"]
  d__law_triple : DefIn K mg "_law_triple" S__law_triple ["line"]
  d__law_due : DefIn K mg "_law_due" S__law_due ["text"]
  d__law_read : DefIn K mg "_law_read" S__law_read ["text"]
  d__law_changed : DefIn K mg "_law_changed" S__law_changed ["hand", "text"]
  d__law_exchanged : DefIn K mg "_law_exchanged" S__law_exchanged ["hand", "text"]
  d__law_harmed : DefIn K mg "_law_harmed" S__law_harmed ["hand", "text"]
  d_law : DefIn K mg "law" S_law ["script"]
  z_ValueError : mg "ValueError" = none
  z_abs : mg "abs" = none
  z_all : mg "all" = none
  z_bool : mg "bool" = none
  z_enumerate : mg "enumerate" = none
  z_int : mg "int" = none
  z_isinstance : mg "isinstance" = none
  z_len : mg "len" = none
  z_max : mg "max" = none
  z_min : mg "min" = none
  z_ord : mg "ord" = none
  z_range : mg "range" = none
  z_set : mg "set" = none
  z_sorted : mg "sorted" = none
  z_str : mg "str" = none
  z_sum : mg "sum" = none
  z_tuple : mg "tuple" = none
  c_NAME_MOST : Cst K mg "NAME_MOST" (.int 12)
  c_NUMBER_MOST : Cst K mg "NUMBER_MOST" (.int 1000000)
  c_NUMBER_DIGITS : Cst K mg "NUMBER_DIGITS" (.int 7)
  c_CHECK_MODULUS : Cst K mg "CHECK_MODULUS" (.int 99991)
section
variable [TC : TabCtx] [EC : ErrCtx] {P : Program} {w : World} {K : PySem.W.Frag} {mg : Str → Option Value} {base : Heap} {k : Nat}
theorem h_is_integer {dsp : DSp} (G : Glob K mg) (hd : Rd 1 dsp (RD.t_is_integer) N_is_integer) : Has P w K mg base (k + 1) "is_integer" 1 dsp :=
  has_mk G.d_is_integer sc_is_integer rfl fun f cdv A outer s0 H E hr => by
    have hu := hr.units
    have hu1 : _ + 1 < cLine := Nat.lt_of_le_of_lt (Nat.add_le_add_left (by decide : 1 ≤ 64) _) hu
    exact ⟨RD.t_is_integer, (dss_one (ds_ret (de_and (de_isi (by rfl) G.z_isinstance (dv 0) (pe_ty (by rfl) G.z_int PyProof.Rows.boot_int)) (de_one (de_not (de_isi (by rfl) G.z_isinstance (dv 0) (pe_ty (by rfl) G.z_bool PyProof.Rows.boot_bool))))))), hd⟩
theorem h_is_number {dsp : DSp} {s_is_integer : DSp} (G : Glob K mg) (H_is_integer : Has P w K mg base k "is_integer" 1 s_is_integer) (hd : Rd 1 dsp (RD.t_is_number s_is_integer) N_is_number) : Has P w K mg base (k + 1) "is_number" 1 dsp :=
  has_mk G.d_is_number sc_is_number rfl fun f cdv A outer s0 H E hr => by
    have hu := hr.units
    have hu1 : _ + 1 < cLine := Nat.lt_of_le_of_lt (Nat.add_le_add_left (by decide : 1 ≤ 64) _) hu
    exact ⟨RD.t_is_number s_is_integer, (dss_one (ds_ret (de_and (de_call H_is_integer hr (by rfl) (pasT (takes_of rfl rfl rfl rfl)) (da_cons (dv 0) da_nil)) (de_one (de_cm (cm_ge hu) (nomark _) (dv 0) de_int))))), hd⟩
theorem h_is_name {dsp : DSp} (G : Glob K mg) (hd : Rd 1 dsp (RD.t_is_name) N_is_name) : Has P w K mg base (k + 1) "is_name" 1 dsp :=
  has_mk G.d_is_name sc_is_name rfl fun f cdv A outer s0 H E hr => by
    have hu := hr.units
    have hu1 : _ + 1 < cLine := Nat.lt_of_le_of_lt (Nat.add_le_add_left (by decide : 1 ≤ 64) _) hu
    exact ⟨RD.t_is_name, (dss_cons (ds_if (dw_pt (dw_or (dt_not (dt_tru (de_isi (by rfl) G.z_isinstance (dv 0) (pe_ty (by rfl) G.z_str PyProof.Rows.boot_str)))) (dw_or1 (dt_cm (cm_gt hu) (nomark _) (de_len (by rfl) G.z_len (da_cons (dv 0) da_nil)) (de_cst (by rfl) G.c_NAME_MOST))))) (dss_one (ds_ret de_bl)) dss_nil)
      (dss_one (ds_ret (de_and (de_bm0 PySem.F.plainAttrs_str PySem.F.slot_str_isascii PySem.F.type_str_isascii mt_isascii str0_ok (dv 0)) (de_and (de_bm0 PySem.F.plainAttrs_str PySem.F.slot_str_isalpha PySem.F.type_str_isalpha mt_isalpha str0_ok (dv 0)) (de_one (de_bm0 PySem.F.plainAttrs_str PySem.F.slot_str_islower PySem.F.type_str_islower mt_islower str0_ok (dv 0)))))))), hd⟩
theorem h_is_names {dsp : DSp} {s_is_name : DSp} (G : Glob K mg) (H_is_name : Has P w K mg base k "is_name" 1 s_is_name) (hd : Rd 1 dsp (RD.t_is_names s_is_name) N_is_names) : Has P w K mg base (k + 1) "is_names" 1 dsp :=
  has_mk G.d_is_names sc_is_names rfl fun f cdv A outer s0 H E hr => by
    have hu := hr.units
    have hu1 : _ + 1 < cLine := Nat.lt_of_le_of_lt (Nat.add_le_add_left (by decide : 1 ≤ 64) _) hu
    exact ⟨RD.t_is_names s_is_name, (dss_cons (ds_if (dt_not (dt_tru (de_isi (by rfl) G.z_isinstance (dv 0) (pe_ty (by rfl) G.z_tuple PyProof.Rows.boot_tuple)))) (dss_one (ds_ret de_bl)) dss_nil)
      (dss_cons (ds_set (i := 1) sc_is_names.nd rfl (by first | exact .inl rfl | exact .inr rfl) de_str)
      (dss_cons (ds_for (passes_of rfl) rfl (di_seq (dv 0)) (dg_name (i := 2) sc_is_names.nd rfl (by first | exact .inl rfl | exact .inr rfl)) (dss_cons (ds_if (dw_pt (dw_or (dt_not (dt_tru (de_call H_is_name hr (by rfl) (pasT (takes_of rfl rfl rfl rfl)) (da_cons (dv 2) da_nil)))) (dw_or1 (dt_cm (cm_le hu) (nomark _) (dv 2) (dv 1))))) (dss_one (ds_ret de_bl)) dss_nil)
      (dss_one (ds_set (i := 1) sc_is_names.nd rfl (by first | exact .inl rfl | exact .inr rfl) (dv 2)))))
      (dss_one (ds_ret de_bl))))), hd⟩
theorem h_is_tuple_of {dsp : DSp} (G : Glob K mg) (hd : Rd 2 dsp (RD.t_is_tuple_of) N_is_tuple_of) : Has P w K mg base (k + 1) "is_tuple_of" 2 dsp :=
  has_mk G.d_is_tuple_of sc_is_tuple_of rfl fun f cdv A outer s0 H E hr => by
    have hu := hr.units
    have hu1 : _ + 1 < cLine := Nat.lt_of_le_of_lt (Nat.add_le_add_left (by decide : 1 ≤ 64) _) hu
    exact ⟨RD.t_is_tuple_of, (dss_one (ds_ret (de_and (de_isi (by rfl) G.z_isinstance (dv 1) (pe_ty (by rfl) G.z_tuple PyProof.Rows.boot_tuple)) (de_one (de_cm (cm_eq hu) (nomark _) (de_len (by rfl) G.z_len (da_cons (dv 1) da_nil)) (dv 0)))))), hd⟩
theorem h_is_version {dsp : DSp} {s_is_number : DSp} {s_is_tuple_of : DSp} (G : Glob K mg) (H_is_number : Has P w K mg base k "is_number" 1 s_is_number) (H_is_tuple_of : Has P w K mg base k "is_tuple_of" 2 s_is_tuple_of) (hd : Rd 1 dsp (RD.t_is_version s_is_number s_is_tuple_of) N_is_version) : Has P w K mg base (k + 1) "is_version" 1 dsp :=
  has_mk G.d_is_version sc_is_version rfl fun f cdv A outer s0 H E hr => by
    have hu := hr.units
    have hu1 : _ + 1 < cLine := Nat.lt_of_le_of_lt (Nat.add_le_add_left (by decide : 1 ≤ 64) _) hu
    exact ⟨RD.t_is_version s_is_number s_is_tuple_of, (dss_cons (ds_if (dt_not (dt_tru (de_call H_is_tuple_of hr (by rfl) (pasT (takes_of rfl rfl rfl rfl)) (da_cons de_int (da_cons (dv 0) da_nil))))) (dss_one (ds_ret de_bl)) dss_nil)
      (dss_cons (ds_for (passes_of rfl) rfl (di_seq (dv 0)) (dg_name (i := 1) sc_is_version.nd rfl (by first | exact .inl rfl | exact .inr rfl)) (dss_one (ds_if (dw_pt (dw_or (dt_not (dt_tru (de_call H_is_number hr (by rfl) (pasT (takes_of rfl rfl rfl rfl)) (da_cons (dv 1) da_nil)))) (dw_or1 (dt_cm (cm_gt hu) (nomark _) (dv 1) (de_cst (by rfl) G.c_NUMBER_MOST))))) (dss_one (ds_ret de_bl)) dss_nil)))
      (dss_one (ds_ret de_bl)))), hd⟩
theorem h_version_text {dsp : DSp} (G : Glob K mg) (hd : Rd 1 dsp (RD.t_version_text) N_version_text) : Has P w K mg base (k + 1) "version_text" 1 dsp :=
  has_mk G.d_version_text sc_version_text rfl fun f cdv A outer s0 H E hr => by
    have hu := hr.units
    have hu1 : _ + 1 < cLine := Nat.lt_of_le_of_lt (Nat.add_le_add_left (by decide : 1 ≤ 64) _) hu
    exact ⟨RD.t_version_text, (dss_cons (ds_asg (dv 0) (dg_tup (n := 3) rfl (dgs_cons (dg_name (i := 1) sc_version_text.nd rfl (by first | exact .inl rfl | exact .inr rfl)) (dgs_cons (dg_name (i := 2) sc_version_text.nd rfl (by first | exact .inl rfl | exact .inr rfl)) (dgs_cons (dg_name (i := 3) sc_version_text.nd rfl (by first | exact .inl rfl | exact .inr rfl)) dgs_nil)))))
      (dss_one (ds_ret (de_joined (DJ.cons (de_fmt (dv 1)) (DJ.cons de_str (DJ.cons (de_fmt (dv 2)) (DJ.cons de_str (DJ.cons (de_fmt (dv 3)) DJ.nil))))))))), hd⟩
theorem h_told_number {dsp : DSp} (G : Glob K mg) (hd : Rd 2 dsp (RD.t_told_number) N_told_number) : Has P w K mg base (k + 1) "told_number" 2 dsp :=
  has_mk G.d_told_number sc_told_number rfl fun f cdv A outer s0 H E hr => by
    have hu := hr.units
    have hu1 : _ + 1 < cLine := Nat.lt_of_le_of_lt (Nat.add_le_add_left (by decide : 1 ≤ 64) _) hu
    exact ⟨RD.t_told_number, (dss_cons (ds_if (dw_pt (dw_or (dt_cm (cm_gt hu) (nomark _) (de_len (by rfl) G.z_len (da_cons (dv 1) da_nil)) (dv 0)) (dw_or (dt_not (dt_tru (de_bm0 PySem.F.plainAttrs_str PySem.F.slot_str_isascii PySem.F.type_str_isascii mt_isascii str0_ok (dv 1)))) (dw_or1 (dt_not (dt_tru (de_bm0 PySem.F.plainAttrs_str PySem.F.slot_str_isdigit PySem.F.type_str_isdigit mt_isdigit str0_ok (dv 1)))))))) (dss_one (ds_ret de_non)) dss_nil)
      (dss_cons (ds_if (dw_pt (dw_and (dt_cm (cm_ne hu) (nomark _) (dv 1) de_str) (dw_and1 (dt_tru (de_bm PySem.F.plainAttrs_str PySem.F.slot_str_startswith PySem.F.type_str_startswith mt_startswith str1_ok (dv 1) (da_cons de_str da_nil)))))) (dss_one (ds_ret de_non)) dss_nil)
      (dss_one (ds_ret (de_intS (by rfl) G.z_int (da_cons (dv 1) da_nil)))))), hd⟩
theorem h_told_version {dsp : DSp} {s_is_version : DSp} {s_told_number : DSp} (G : Glob K mg) (H_is_version : Has P w K mg base k "is_version" 1 s_is_version) (H_told_number : Has P w K mg base k "told_number" 2 s_told_number) (hd : Rd 1 dsp (RD.t_told_version s_is_version s_told_number) N_told_version) : Has P w K mg base (k + 1) "told_version" 1 dsp :=
  has_mk G.d_told_version sc_told_version rfl fun f cdv A outer s0 H E hr => by
    have hu := hr.units
    have hu1 : _ + 1 < cLine := Nat.lt_of_le_of_lt (Nat.add_le_add_left (by decide : 1 ≤ 64) _) hu
    exact ⟨RD.t_told_version s_is_version s_told_number, (dss_cons (ds_set (i := 1) sc_told_version.nd rfl (by first | exact .inl rfl | exact .inr rfl) (de_tuple (by rfl) G.z_tuple (da_cons (de_lc (own := [("word", 2)]) rfl sc_told_version.nd (di_seq (de_bm PySem.F.plainAttrs_str PySem.F.slot_str_split PySem.F.type_str_split mt_split split_ok (dv 0) (da_cons de_str da_nil))) (blkOk_by (N := N_told_version) (sc := defScope S_told_version) (own := [("word", 2)]) (by decide +kernel)) (by decide) (fun _ _ _ _ _ => (dg_name (i := 2) sc_told_version.nd rfl (by first | exact .inl rfl | exact .inr rfl))) (fun _ _ _ _ _ => dts_nil) (fun _ _ _ _ _ => (de_call H_told_number hr (by rfl) pas0 (da_cons (de_cst (by rfl) G.c_NUMBER_DIGITS) (da_cons (dv 2) da_nil))))) da_nil)))
      (dss_cons (ds_if (dt_not (dt_tru (de_call H_is_version hr (by rfl) (pasT (takes_of rfl rfl rfl rfl)) (da_cons (dv 1) da_nil)))) (dss_one (ds_ret de_non)) dss_nil)
      (dss_one (ds_ret (dv 1))))), hd⟩
theorem h_is_triple {dsp : DSp} {s_is_name : DSp} {s_is_names : DSp} {s_is_tuple_of : DSp} {s_is_version : DSp} (G : Glob K mg) (H_is_name : Has P w K mg base k "is_name" 1 s_is_name) (H_is_names : Has P w K mg base k "is_names" 1 s_is_names) (H_is_tuple_of : Has P w K mg base k "is_tuple_of" 2 s_is_tuple_of) (H_is_version : Has P w K mg base k "is_version" 1 s_is_version) (hd : Rd 1 dsp (RD.t_is_triple s_is_name s_is_names s_is_tuple_of s_is_version) N_is_triple) : Has P w K mg base (k + 1) "is_triple" 1 dsp :=
  has_mk G.d_is_triple sc_is_triple rfl fun f cdv A outer s0 H E hr => by
    have hu := hr.units
    have hu1 : _ + 1 < cLine := Nat.lt_of_le_of_lt (Nat.add_le_add_left (by decide : 1 ≤ 64) _) hu
    exact ⟨RD.t_is_triple s_is_name s_is_names s_is_tuple_of s_is_version, (dss_one (ds_ret (de_and (de_call H_is_tuple_of hr (by rfl) (pasT (takes_of rfl rfl rfl rfl)) (da_cons de_int (da_cons (dv 0) da_nil))) (de_and (de_call H_is_name hr (by rfl) (pasT (takes_of rfl rfl rfl rfl)) (da_cons (de_ix (dv 0) de_int) da_nil)) (de_and (de_call H_is_version hr (by rfl) (pasT (takes_of rfl rfl rfl rfl)) (da_cons (de_ix (dv 0) de_int) da_nil)) (de_one (de_call H_is_names hr (by rfl) (pasT (takes_of rfl rfl rfl rfl)) (da_cons (de_ix (dv 0) de_int) da_nil)))))))), hd⟩
theorem h_lines_of {dsp : DSp} (G : Glob K mg) (E_BadLine : Er1 P w K mg base 4 "BadLine" "number") (hk : 2 ≤ k) (hd : Rd 1 dsp (RD.t_lines_of) N_lines_of) : Has P w K mg base (k + 1) "lines_of" 1 dsp :=
  has_mk G.d_lines_of sc_lines_of rfl fun f cdv A outer s0 H E hr => by
    have hu := hr.units
    have hu1 : _ + 1 < cLine := Nat.lt_of_le_of_lt (Nat.add_le_add_left (by decide : 1 ≤ 64) _) hu
    exact ⟨RD.t_lines_of, (dss_cons (ds_if (dt_not (dt_tru (de_isi (by rfl) G.z_isinstance (dv 0) (pe_ty (by rfl) G.z_str PyProof.Rows.boot_str)))) (dss_one (ds_raise1 rfl (takes_of rfl rfl rfl rfl) E_BadLine hr hk (by rfl) de_int)) dss_nil)
      (dss_cons (ds_set (i := 1) sc_lines_of.nd rfl (by first | exact .inl rfl | exact .inr rfl) (de_bm PySem.F.plainAttrs_str PySem.F.slot_str_split PySem.F.type_str_split mt_split split_ok (dv 0) (da_cons de_str da_nil)))
      (dss_cons (ds_set (i := 2) sc_lines_of.nd rfl (by first | exact .inl rfl | exact .inr rfl) (de_bm0 PySem.F.plainAttrs_list PySem.F.slot_list_pop PySem.F.type_list_pop mt_pop pop_ok (dv 1)))
      (dss_one (ds_ret (de_tup (da_cons (dv 1) (da_cons (dv 2) da_nil)))))))), hd⟩
theorem h_text_of {dsp : DSp} (G : Glob K mg) (hd : Rd 1 dsp (RD.t_text_of) N_text_of) : Has P w K mg base (k + 1) "text_of" 1 dsp :=
  has_mk G.d_text_of sc_text_of rfl fun f cdv A outer s0 H E hr => by
    have hu := hr.units
    have hu1 : _ + 1 < cLine := Nat.lt_of_le_of_lt (Nat.add_le_add_left (by decide : 1 ≤ 64) _) hu
    exact ⟨RD.t_text_of, (dss_one (ds_ret (de_bm PySem.F.plainAttrs_str PySem.F.slot_str_join PySem.F.type_str_join mt_join join_ok de_str (da_cons (de_lc (own := [("line", 1)]) rfl sc_text_of.nd (di_seq (dv 0)) (blkOk_by (N := N_text_of) (sc := defScope S_text_of) (own := [("line", 1)]) (by decide +kernel)) (by decide) (fun _ _ _ _ _ => (dg_name (i := 1) sc_text_of.nd rfl (by first | exact .inl rfl | exact .inr rfl))) (fun _ _ _ _ _ => dts_nil) (fun _ _ _ _ _ => (de_joined (DJ.cons (de_fmt (dv 1)) (DJ.cons de_str DJ.nil))))) da_nil)))), hd⟩
theorem h_place_text {dsp : DSp} {s_version_text : DSp} (G : Glob K mg) (H_version_text : Has P w K mg base k "version_text" 1 s_version_text) (hd : Rd 2 dsp (RD.t_place_text s_version_text) N_place_text) : Has P w K mg base (k + 1) "place_text" 2 dsp :=
  has_mk G.d_place_text sc_place_text rfl fun f cdv A outer s0 H E hr => by
    have hu := hr.units
    have hu1 : _ + 1 < cLine := Nat.lt_of_le_of_lt (Nat.add_le_add_left (by decide : 1 ≤ 64) _) hu
    exact ⟨RD.t_place_text s_version_text, (dss_one (ds_ret (de_joined (DJ.cons (de_fmt (dv 0)) (DJ.cons de_str (DJ.cons (de_fmt (de_call H_version_text hr (by rfl) (pasT (takes_of rfl rfl rfl rfl)) (da_cons (dv 1) da_nil))) DJ.nil)))))), hd⟩
theorem h_check_line {dsp : DSp} (G : Glob K mg) (hd : Rd 1 dsp (RD.t_check_line) N_check_line) : Has P w K mg base (k + 1) "check_line" 1 dsp :=
  has_mk G.d_check_line sc_check_line rfl fun f cdv A outer s0 H E hr => by
    have hu := hr.units
    have hu1 : _ + 1 < cLine := Nat.lt_of_le_of_lt (Nat.add_le_add_left (by decide : 1 ≤ 64) _) hu
    exact ⟨RD.t_check_line, (dss_cons (ds_set (i := 1) sc_check_line.nd rfl (by first | exact .inl rfl | exact .inr rfl) (de_sum rfl (by rfl) G.z_sum (da_cons (de_lc (own := [("at", 2), ("sign", 3)]) rfl sc_check_line.nd (di_enumS (by rfl) G.z_enumerate (dv 0)) (blkOk_by (N := N_check_line) (sc := defScope S_check_line) (own := [("at", 2), ("sign", 3)]) (by decide +kernel)) (by decide) (fun _ _ _ _ _ => (dg_tup (n := 2) rfl (dgs_cons (dg_name (i := 2) sc_check_line.nd rfl (by first | exact .inl rfl | exact .inr rfl)) (dgs_cons (dg_name (i := 3) sc_check_line.nd rfl (by first | exact .inl rfl | exact .inr rfl)) dgs_nil)))) (fun _ _ _ _ _ => dts_nil) (fun _ _ _ _ _ => (de_mul (de_ordS (by rfl) G.z_ord (da_cons (dv 3) da_nil)) (de_add (dv 2) de_int)))) da_nil)))
      (dss_one (ds_ret (de_joined (DJ.cons de_str (DJ.cons (de_fmt (de_mod (dv 1) (de_cst (by rfl) G.c_CHECK_MODULUS))) DJ.nil)))))), hd⟩
theorem h_triple_line {dsp : DSp} {s_place_text : DSp} (G : Glob K mg) (H_place_text : Has P w K mg base k "place_text" 2 s_place_text) (hd : Rd 1 dsp (RD.t_triple_line s_place_text) N_triple_line) : Has P w K mg base (k + 1) "triple_line" 1 dsp :=
  has_mk G.d_triple_line sc_triple_line rfl fun f cdv A outer s0 H E hr => by
    have hu := hr.units
    have hu1 : _ + 1 < cLine := Nat.lt_of_le_of_lt (Nat.add_le_add_left (by decide : 1 ≤ 64) _) hu
    exact ⟨RD.t_triple_line s_place_text, (dss_cons (ds_asg (dv 0) (dg_tup (n := 3) rfl (dgs_cons (dg_name (i := 1) sc_triple_line.nd rfl (by first | exact .inl rfl | exact .inr rfl)) (dgs_cons (dg_name (i := 2) sc_triple_line.nd rfl (by first | exact .inl rfl | exact .inr rfl)) (dgs_cons (dg_name (i := 3) sc_triple_line.nd rfl (by first | exact .inl rfl | exact .inr rfl)) dgs_nil)))))
      (dss_one (ds_ret (de_bm PySem.F.plainAttrs_str PySem.F.slot_str_join PySem.F.type_str_join mt_join join_ok de_str (da_cons (de_lst (da_cons (de_call H_place_text hr (by rfl) (pasT (takes_of rfl rfl rfl rfl)) (da_cons (dv 1) (da_cons (dv 2) da_nil))) (da_star (dv 3) da_nil))) da_nil))))), hd⟩
theorem h_lock_text {dsp : DSp} {s_text_of : DSp} {s_check_line : DSp} {s_triple_line : DSp} (G : Glob K mg) (H_text_of : Has P w K mg base k "text_of" 1 s_text_of) (H_check_line : Has P w K mg base k "check_line" 1 s_check_line) (H_triple_line : Has P w K mg base k "triple_line" 1 s_triple_line) (hd : Rd 1 dsp (RD.t_lock_text s_text_of s_check_line s_triple_line) N_lock_text) : Has P w K mg base (k + 1) "lock_text" 1 dsp :=
  has_mk G.d_lock_text sc_lock_text rfl fun f cdv A outer s0 H E hr => by
    have hu := hr.units
    have hu1 : _ + 1 < cLine := Nat.lt_of_le_of_lt (Nat.add_le_add_left (by decide : 1 ≤ 64) _) hu
    exact ⟨RD.t_lock_text s_text_of s_check_line s_triple_line, (dss_cons (ds_set (i := 1) sc_lock_text.nd rfl (by first | exact .inl rfl | exact .inr rfl) (de_call H_text_of hr (by rfl) (pasT (takes_of rfl rfl rfl rfl)) (da_cons (de_lc (own := [("triple", 2)]) rfl sc_lock_text.nd (di_seq (dv 0)) (blkOk_by (N := N_lock_text) (sc := defScope S_lock_text) (own := [("triple", 2)]) (by decide +kernel)) (by decide) (fun _ _ _ _ _ => (dg_name (i := 2) sc_lock_text.nd rfl (by first | exact .inl rfl | exact .inr rfl))) (fun _ _ _ _ _ => dts_nil) (fun _ _ _ _ _ => (de_call H_triple_line hr (by rfl) pas0 (da_cons (dv 2) da_nil)))) da_nil)))
      (dss_one (ds_ret (de_add (dv 1) (de_call H_text_of hr (by rfl) (pasT (takes_of rfl rfl rfl rfl)) (da_cons (de_lst (da_cons (de_call H_check_line hr (by rfl) (pasT (takes_of rfl rfl rfl rfl)) (da_cons (dv 1) da_nil)) da_nil)) da_nil)))))), hd⟩
theorem h_told_triple {dsp : DSp} {s_told_version : DSp} {s_is_triple : DSp} (G : Glob K mg) (H_told_version : Has P w K mg base k "told_version" 1 s_told_version) (H_is_triple : Has P w K mg base k "is_triple" 1 s_is_triple) (hd : Rd 1 dsp (RD.t_told_triple s_told_version s_is_triple) N_told_triple) : Has P w K mg base (k + 1) "told_triple" 1 dsp :=
  has_mk G.d_told_triple sc_told_triple rfl fun f cdv A outer s0 H E hr => by
    have hu := hr.units
    have hu1 : _ + 1 < cLine := Nat.lt_of_le_of_lt (Nat.add_le_add_left (by decide : 1 ≤ 64) _) hu
    exact ⟨RD.t_told_triple s_told_version s_is_triple, (dss_cons (ds_asg (de_bm PySem.F.plainAttrs_str PySem.F.slot_str_partition PySem.F.type_str_partition mt_partition partition_ok (dv 0) (da_cons de_str da_nil)) (dg_tup (n := 3) rfl (dgs_cons (dg_name (i := 1) sc_told_triple.nd rfl (by first | exact .inl rfl | exact .inr rfl)) (dgs_cons (dg_name (i := 2) sc_told_triple.nd rfl (by first | exact .inl rfl | exact .inr rfl)) (dgs_cons (dg_name (i := 3) sc_told_triple.nd rfl (by first | exact .inl rfl | exact .inr rfl)) dgs_nil)))))
      (dss_cons (ds_set (i := 4) sc_told_triple.nd rfl (by first | exact .inl rfl | exact .inr rfl) (de_bm PySem.F.plainAttrs_str PySem.F.slot_str_split PySem.F.type_str_split mt_split split_ok (dv 3) (da_cons de_str da_nil)))
      (dss_cons (ds_set (i := 5) sc_told_triple.nd rfl (by first | exact .inl rfl | exact .inr rfl) (de_tup (da_cons (dv 1) (da_cons (de_call H_told_version hr (by rfl) (pasT (takes_of rfl rfl rfl rfl)) (da_cons (de_ix (dv 4) de_int) da_nil)) (da_cons (de_tuple (by rfl) G.z_tuple (da_cons (de_slice (dv 4) (do_some de_int) do_none) da_nil)) da_nil)))))
      (dss_cons (ds_if (dt_not (dt_tru (de_call H_is_triple hr (by rfl) (pasT (takes_of rfl rfl rfl rfl)) (da_cons (dv 5) da_nil)))) (dss_one (ds_ret de_non)) dss_nil)
      (dss_one (ds_ret (dv 5))))))), hd⟩
theorem h_read_lock {dsp : DSp} {s_lines_of : DSp} {s_text_of : DSp} {s_check_line : DSp} {s_told_triple : DSp} (G : Glob K mg) (H_lines_of : Has P w K mg base k "lines_of" 1 s_lines_of) (H_text_of : Has P w K mg base k "text_of" 1 s_text_of) (H_check_line : Has P w K mg base k "check_line" 1 s_check_line) (H_told_triple : Has P w K mg base k "told_triple" 1 s_told_triple) (E_BadLine : Er1 P w K mg base 4 "BadLine" "number") (hk : 2 ≤ k) (hd : Rd 1 dsp (RD.t_read_lock s_lines_of s_text_of s_check_line s_told_triple) N_read_lock) : Has P w K mg base (k + 1) "read_lock" 1 dsp :=
  has_mk G.d_read_lock sc_read_lock rfl fun f cdv A outer s0 H E hr => by
    have hu := hr.units
    have hu1 : _ + 1 < cLine := Nat.lt_of_le_of_lt (Nat.add_le_add_left (by decide : 1 ≤ 64) _) hu
    exact ⟨RD.t_read_lock s_lines_of s_text_of s_check_line s_told_triple, (dss_cons (ds_asg (de_call H_lines_of hr (by rfl) (pasT (takes_of rfl rfl rfl rfl)) (da_cons (dv 0) da_nil)) (dg_tup (n := 2) rfl (dgs_cons (dg_name (i := 1) sc_read_lock.nd rfl (by first | exact .inl rfl | exact .inr rfl)) (dgs_cons (dg_name (i := 2) sc_read_lock.nd rfl (by first | exact .inl rfl | exact .inr rfl)) dgs_nil))))
      (dss_cons (ds_set (i := 3) sc_read_lock.nd rfl (by first | exact .inl rfl | exact .inr rfl) (de_lst da_nil))
      (dss_cons (ds_for (passes_of rfl) rfl (di_seq (dv 1)) (dg_name (i := 4) sc_read_lock.nd rfl (by first | exact .inl rfl | exact .inr rfl)) (dss_cons (ds_set (i := 5) sc_read_lock.nd rfl (by first | exact .inl rfl | exact .inr rfl) (de_call H_told_triple hr (by rfl) (pasT (takes_of rfl rfl rfl rfl)) (da_cons (dv 4) da_nil)))
      (dss_cons (ds_if (dw_pt (dw_or (dt_cm cm_is (nomark _) (dv 5) de_non) (dw_or1 (dw_pt (dw_and (dt_tru (dv 3)) (dw_and1 (dt_cm (cm_le hu) (nomark _) (de_ix (dv 5) de_int) (de_ix (de_ix (dv 3) (de_neg de_int)) de_int)))))))) (dss_one ds_break) dss_nil)
      (dss_one (ds_expr (de_append (dv 3) (da_cons (dv 5) da_nil)))))))
      (dss_cons (ds_set (i := 6) sc_read_lock.nd rfl (by first | exact .inl rfl | exact .inr rfl) (de_len (by rfl) G.z_len (da_cons (dv 3) da_nil)))
      (dss_cons (ds_if (dw_pt (dw_or (dt_cm (cm_eq hu) (nomark _) (dv 6) (de_len (by rfl) G.z_len (da_cons (dv 1) da_nil))) (dw_or1 (dt_cm (cm_ne hu) (nomark _) (de_ix (dv 1) (dv 6)) (de_call H_check_line hr (by rfl) (pasT (takes_of rfl rfl rfl rfl)) (da_cons (de_call H_text_of hr (by rfl) (pasT (takes_of rfl rfl rfl rfl)) (da_cons (de_slice (dv 1) do_none (do_some (dv 6))) da_nil)) da_nil)))))) (dss_one (ds_raise1 rfl (takes_of rfl rfl rfl rfl) E_BadLine hr hk (by rfl) (de_add (dv 6) de_int))) dss_nil)
      (dss_cons (ds_if (dw_pt (dw_or (dt_cm (cm_lt hu) (nomark _) (de_add (dv 6) de_int) (de_len (by rfl) G.z_len (da_cons (dv 1) da_nil))) (dw_or1 (dt_cm (cm_ne hu) (nomark _) (dv 2) de_str)))) (dss_one (ds_raise1 rfl (takes_of rfl rfl rfl rfl) E_BadLine hr hk (by rfl) (de_add (dv 6) de_int))) dss_nil)
      (dss_one (ds_ret (de_tuple (by rfl) G.z_tuple (da_cons (dv 3) da_nil)))))))))), hd⟩
theorem h__law_hand {dsp : DSp} (G : Glob K mg) (hd : Rd 1 dsp (RD.t__law_hand_k41) N__law_hand) : Has P w K mg base (k + 1) "_law_hand" 1 dsp :=
  has_mk G.d__law_hand sc__law_hand rfl fun f cdv A outer s0 H E hr => by
    have hu := hr.units
    have hu1 : _ + 1 < cLine := Nat.lt_of_le_of_lt (Nat.add_le_add_left (by decide : 1 ≤ 64) _) hu
    exact ⟨RD.t__law_hand_k41, (dss_cons (ds_setLc (i := 1) (own := [("cell", 2)]) rfl sc__law_hand.nd rfl rfl (sw_true rfl rfl rfl (by decide +kernel)) (di_seq (de_slice (dv 0) do_none (do_some de_int))) (blkOk_by (N := N__law_hand) (sc := defScope S__law_hand) (own := [("cell", 2)]) (by decide +kernel)) (by decide) (fun _ _ _ _ _ => (dg_name (i := 2) sc__law_hand.nd rfl (by first | exact .inl rfl | exact .inr rfl))) (fun _ _ _ _ _ => dts_nil) (fun _ _ _ _ _ => (de_abs (by rfl) G.z_abs (da_cons (de_int' (by rfl) G.z_int (da_cons (dv 2) da_nil)) da_nil))))
      (dss_one (ds_ret (de_disp (DPs.cons de_str (dv 1) (DPs.cons de_str de_int (DPs.cons de_str de_int (DPs.cons de_str (de_add de_int (de_len (by rfl) G.z_len (da_cons (dv 1) da_nil))) (DPs.cons de_str de_int DPs.nil))))))))), hd⟩
theorem h__law_draw {dsp : DSp} (G : Glob K mg) (hd : Rd 2 dsp (RD.t__law_draw_k41) N__law_draw) : Has P w K mg base (k + 1) "_law_draw" 2 dsp :=
  has_mk G.d__law_draw sc__law_draw rfl fun f cdv A outer s0 H E hr => by
    have hu := hr.units
    have hu1 : _ + 1 < cLine := Nat.lt_of_le_of_lt (Nat.add_le_add_left (by decide : 1 ≤ 64) _) hu
    exact ⟨RD.t__law_draw_k41, (dss_cons (ds_if (dw_pt (dw_and (dt_cm (cm_eq hu) (nomark _) (de_dget hu1 (dv 0) de_str) de_int) (dw_and1 (dt_cm (cm_lt hu) (nomark _) (de_dget hu1 (dv 0) de_str) (de_len (by rfl) G.z_len (da_cons (de_dget hu1 (dv 0) de_str) da_nil)))))) (dss_cons (ds_set (i := 2) sc__law_draw.nd rfl (by first | exact .inl rfl | exact .inr rfl) (de_ix (de_dget hu1 (dv 0) de_str) (de_dget hu1 (dv 0) de_str)))
      (dss_cons (ds_asg (de_add (de_dget hu1 (dv 0) de_str) de_int) (dg_sub (dv 0) de_str (set_dict hu1) setK_ok))
      (dss_cons (ds_asg (de_mod (de_int' (by rfl) G.z_int (da_cons (de_add (de_add (de_mul (de_dget hu1 (dv 0) de_str) de_int) (dv 2)) de_int) da_nil)) de_int) (dg_sub (dv 0) de_str (set_dict hu1) setK_ok))
      (dss_one (ds_asg (de_if (dt_cm (cm_ge hu) (nomark _) (dv 2) (de_pow de_int de_int)) (dv 2) de_int) (dg_sub (dv 0) de_str (set_dict hu1) setK_ok)))))) dss_nil)
      (dss_cons (ds_if (dt_cm (cm_gt hu) (nomark _) (de_dget hu1 (dv 0) de_str) de_int) (dss_cons (ds_set (i := 3) sc__law_draw.nd rfl (by first | exact .inl rfl | exact .inr rfl) (de_mod (de_int' (by rfl) G.z_int (da_cons (de_dget hu1 (dv 0) de_str) da_nil)) (dv 1)))
      (dss_cons (ds_asg (de_div (de_dget hu1 (dv 0) de_str) (dv 1)) (dg_sub (dv 0) de_str (set_dict hu1) setK_ok))
      (dss_one (ds_ret (dv 3))))) dss_nil)
      (dss_cons (ds_asg (de_add (de_dget hu1 (dv 0) de_str) de_int) (dg_sub (dv 0) de_str (set_dict hu1) setK_ok))
      (dss_cons (ds_set (i := 4) sc__law_draw.nd rfl (by first | exact .inl rfl | exact .inr rfl) (de_mod (de_int' (by rfl) G.z_int (da_cons (de_mul (de_int' (by rfl) G.z_int (da_cons (de_add (de_dget hu1 (dv 0) de_str) (de_mul de_int (de_dget hu1 (dv 0) de_str))) da_nil)) de_int) da_nil)) de_int))
      (dss_cons (ds_set (i := 4) sc__law_draw.nd rfl (by first | exact .inl rfl | exact .inr rfl) (de_mod (de_int' (by rfl) G.z_int (da_cons (de_mul (dv 4) (de_add (de_div (dv 4) de_int) de_int)) da_nil)) de_int))
      (dss_cons (ds_set (i := 4) sc__law_draw.nd rfl (by first | exact .inl rfl | exact .inr rfl) (de_mod (de_int' (by rfl) G.z_int (da_cons (de_add (de_mul (dv 4) (de_add (de_div (dv 4) de_int) de_int)) (de_dget hu1 (dv 0) de_str)) da_nil)) de_int))
      (dss_one (ds_ret (de_mod (de_int' (by rfl) G.z_int (da_cons (de_div (dv 4) de_int) da_nil)) (dv 1)))))))))), hd⟩
theorem h__law_any {dsp : DSp} {s__law_draw : DSp} (G : Glob K mg) (H__law_draw : Has P w K mg base k "_law_draw" 2 s__law_draw) (hd : Rd 2 dsp (RD.t__law_any s__law_draw) N__law_any) : Has P w K mg base (k + 1) "_law_any" 2 dsp :=
  has_mk G.d__law_any sc__law_any rfl fun f cdv A outer s0 H E hr => by
    have hu := hr.units
    have hu1 : _ + 1 < cLine := Nat.lt_of_le_of_lt (Nat.add_le_add_left (by decide : 1 ≤ 64) _) hu
    exact ⟨RD.t__law_any s__law_draw, (dss_one (ds_ret (de_ix (dv 1) (de_call H__law_draw hr (by rfl) (pasT (takes_of rfl rfl rfl rfl)) (da_cons (dv 0) (da_cons (de_len (by rfl) G.z_len (da_cons (dv 1) da_nil)) da_nil)))))), hd⟩
theorem h__law_name {dsp : DSp} {s__law_draw : DSp} {s__law_any : DSp} (G : Glob K mg) (H__law_draw : Has P w K mg base k "_law_draw" 2 s__law_draw) (H__law_any : Has P w K mg base k "_law_any" 2 s__law_any) (hd : Rd 1 dsp (RD.t__law_name s__law_draw s__law_any) N__law_name) : Has P w K mg base (k + 1) "_law_name" 1 dsp :=
  has_mk G.d__law_name sc__law_name rfl fun f cdv A outer s0 H E hr => by
    have hu := hr.units
    have hu1 : _ + 1 < cLine := Nat.lt_of_le_of_lt (Nat.add_le_add_left (by decide : 1 ≤ 64) _) hu
    exact ⟨RD.t__law_name s__law_draw s__law_any, (dss_cons (ds_set (i := 1) sc__law_name.nd rfl (by first | exact .inl rfl | exact .inr rfl) de_str)
      (dss_cons (ds_if (dt_cm (cm_eq hu) (nomark _) (de_call H__law_draw hr (by rfl) (pasT (takes_of rfl rfl rfl rfl)) (da_cons (dv 0) (da_cons de_int da_nil))) de_int) (dss_one (ds_ret (de_call H__law_any hr (by rfl) (pasT (takes_of rfl rfl rfl rfl)) (da_cons (dv 0) (da_cons (de_lst (da_cons de_str (da_cons de_str (da_cons de_str (da_cons de_str (da_cons de_str (da_cons de_str da_nil))))))) da_nil))))) dss_nil)
      (dss_one (ds_ret (de_bm PySem.F.plainAttrs_str PySem.F.slot_str_join PySem.F.type_str_join mt_join join_ok de_str (da_cons (de_lc (own := [("k", 2)]) rfl sc__law_name.nd (di_range1 (by rfl) G.z_range (da_cons (de_add de_int (de_call H__law_any hr (by rfl) (pasT (takes_of rfl rfl rfl rfl)) (da_cons (dv 0) (da_cons (de_lst (da_cons de_int (da_cons de_int (da_cons de_int (da_cons de_int (da_cons de_int (da_cons de_int da_nil))))))) da_nil)))) da_nil)) (blkOk_by (N := N__law_name) (sc := defScope S__law_name) (own := [("k", 2)]) (by decide +kernel)) (by decide) (fun _ _ _ _ _ => (dg_name (i := 2) sc__law_name.nd rfl (by first | exact .inl rfl | exact .inr rfl))) (fun _ _ _ _ _ => dts_nil) (fun _ _ _ _ _ => (de_ix (dv 1) (de_call H__law_draw hr (by rfl) pas0 (da_cons (dv 0) (da_cons de_int da_nil)))))) da_nil)))))), hd⟩
theorem h__law_installation {dsp : DSp} {s__law_draw : DSp} {s__law_any : DSp} {s__law_name : DSp} (G : Glob K mg) (H__law_draw : Has P w K mg base k "_law_draw" 2 s__law_draw) (H__law_any : Has P w K mg base k "_law_any" 2 s__law_any) (H__law_name : Has P w K mg base k "_law_name" 1 s__law_name) (hd : Rd 1 dsp (RD.t__law_installation s__law_draw s__law_any s__law_name) N__law_installation) : Has P w K mg base (k + 1) "_law_installation" 1 dsp :=
  has_mk G.d__law_installation sc__law_installation rfl fun f cdv A outer s0 H E hr => by
    have hu := hr.units
    have hu1 : _ + 1 < cLine := Nat.lt_of_le_of_lt (Nat.add_le_add_left (by decide : 1 ≤ 64) _) hu
    exact ⟨RD.t__law_installation s__law_draw s__law_any s__law_name, (dss_cons (ds_set (i := 1) sc__law_installation.nd rfl (by first | exact .inl rfl | exact .inr rfl) (de_lst da_nil))
      (dss_cons (ds_for (passes_of rfl) rfl (di_seq (de_sortTx rfl hu (by rfl) G.z_sorted (by rfl) G.z_set (de_lc (own := [("k", 3)]) rfl sc__law_installation.nd (di_range1 (by rfl) G.z_range (da_cons (de_call H__law_any hr (by rfl) (pasT (takes_of rfl rfl rfl rfl)) (da_cons (dv 0) (da_cons (de_lst (da_cons de_int (da_cons de_int (da_cons de_int (da_cons de_int (da_cons de_int (da_cons de_int (da_cons de_int (da_cons de_int (da_cons de_int (da_cons de_int (da_cons de_int (da_cons de_int da_nil))))))))))))) da_nil))) da_nil)) (blkOk_by (N := N__law_installation) (sc := defScope S__law_installation) (own := [("k", 3)]) (by decide +kernel)) (by decide) (fun _ _ _ _ _ => (dg_name (i := 3) sc__law_installation.nd rfl (by first | exact .inl rfl | exact .inr rfl))) (fun _ _ _ _ _ => dts_nil) (fun _ _ _ _ _ => (de_call H__law_name hr (by rfl) pas0 (da_cons (dv 0) da_nil)))))) (dg_name (i := 2) sc__law_installation.nd rfl (by first | exact .inl rfl | exact .inr rfl)) (dss_cons (ds_setLc (i := 4) (own := [("k", 3)]) rfl sc__law_installation.nd rfl rfl (sw_true rfl rfl rfl (by decide +kernel)) (di_range1 (by rfl) G.z_range (da_cons de_int da_nil)) (blkOk_by (N := N__law_installation) (sc := defScope S__law_installation) (own := [("k", 3)]) (by decide +kernel)) (by decide) (fun _ _ _ _ _ => (dg_name (i := 3) sc__law_installation.nd rfl (by first | exact .inl rfl | exact .inr rfl))) (fun _ _ _ _ _ => dts_nil) (fun _ _ _ _ _ => (de_call H__law_any hr (by rfl) pas0 (da_cons (dv 0) (da_cons (de_lst (da_cons de_int (da_cons de_int (da_cons de_int (da_cons de_int (da_cons de_int (da_cons (de_call H__law_draw hr (by rfl) pas0 (da_cons (dv 0) (da_cons de_int da_nil))) da_nil))))))) da_nil)))))
      (dss_cons (ds_set (i := 5) sc__law_installation.nd rfl (by first | exact .inl rfl | exact .inr rfl) (de_sortTx rfl hu (by rfl) G.z_sorted (by rfl) G.z_set (de_lc (own := [("k", 3)]) rfl sc__law_installation.nd (di_range1 (by rfl) G.z_range (da_cons (de_call H__law_any hr (by rfl) (pasT (takes_of rfl rfl rfl rfl)) (da_cons (dv 0) (da_cons (de_lst (da_cons de_int (da_cons de_int (da_cons de_int (da_cons de_int (da_cons de_int (da_cons de_int (da_cons de_int (da_cons de_int da_nil))))))))) da_nil))) da_nil)) (blkOk_by (N := N__law_installation) (sc := defScope S__law_installation) (own := [("k", 3)]) (by decide +kernel)) (by decide) (fun _ _ _ _ _ => (dg_name (i := 3) sc__law_installation.nd rfl (by first | exact .inl rfl | exact .inr rfl))) (fun _ _ _ _ _ => dts_nil) (fun _ _ _ _ _ => (de_call H__law_name hr (by rfl) pas0 (da_cons (dv 0) da_nil))))))
      (dss_one (ds_expr (de_append (dv 1) (da_cons (de_tup (da_cons (dv 2) (da_cons (de_tuple (by rfl) G.z_tuple (da_cons (dv 4) da_nil)) (da_cons (de_tuple (by rfl) G.z_tuple (da_cons (dv 5) da_nil)) da_nil)))) da_nil)))))))
      (dss_one (ds_ret (de_tuple (by rfl) G.z_tuple (da_cons (dv 1) da_nil)))))), hd⟩
theorem h__law_check {dsp : DSp} (G : Glob K mg) (hd : Rd 1 dsp (RD.t__law_check) N__law_check) : Has P w K mg base (k + 1) "_law_check" 1 dsp :=
  has_mk G.d__law_check sc__law_check rfl fun f cdv A outer s0 H E hr => by
    have hu := hr.units
    have hu1 : _ + 1 < cLine := Nat.lt_of_le_of_lt (Nat.add_le_add_left (by decide : 1 ≤ 64) _) hu
    exact ⟨RD.t__law_check, (dss_cons (ds_asg (de_tup (da_cons de_int (da_cons de_int da_nil))) (dg_tup (n := 2) rfl (dgs_cons (dg_name (i := 1) sc__law_check.nd rfl (by first | exact .inl rfl | exact .inr rfl)) (dgs_cons (dg_name (i := 2) sc__law_check.nd rfl (by first | exact .inl rfl | exact .inr rfl)) dgs_nil))))
      (dss_cons (ds_for (passes_of rfl) rfl (di_seq (de_revS (dv 0))) (dg_name (i := 3) sc__law_check.nd rfl (by first | exact .inl rfl | exact .inr rfl)) (dss_cons (ds_set (i := 1) sc__law_check.nd rfl (by first | exact .inl rfl | exact .inr rfl) (de_add (dv 1) (de_ordS (by rfl) G.z_ord (da_cons (dv 3) da_nil))))
      (dss_one (ds_set (i := 2) sc__law_check.nd rfl (by first | exact .inl rfl | exact .inr rfl) (de_add (dv 2) (dv 1))))))
      (dss_one (ds_ret (de_mod (de_int' (by rfl) G.z_int (da_cons (dv 2) da_nil)) de_int))))), hd⟩
theorem h__law_line {dsp : DSp} (G : Glob K mg) (hd : Rd 1 dsp (RD.t__law_line) N__law_line) : Has P w K mg base (k + 1) "_law_line" 1 dsp :=
  has_mk G.d__law_line sc__law_line rfl fun f cdv A outer s0 H E hr => by
    have hu := hr.units
    have hu1 : _ + 1 < cLine := Nat.lt_of_le_of_lt (Nat.add_le_add_left (by decide : 1 ≤ 64) _) hu
    exact ⟨RD.t__law_line, (dss_cons (ds_asg (dv 0) (dg_tup (n := 3) rfl (dgs_cons (dg_name (i := 1) sc__law_line.nd rfl (by first | exact .inl rfl | exact .inr rfl)) (dgs_cons (dg_name (i := 2) sc__law_line.nd rfl (by first | exact .inl rfl | exact .inr rfl)) (dgs_cons (dg_name (i := 3) sc__law_line.nd rfl (by first | exact .inl rfl | exact .inr rfl)) dgs_nil)))))
      (dss_cons (ds_set (i := 4) sc__law_line.nd rfl (by first | exact .inl rfl | exact .inr rfl) (de_add (de_add (de_add (de_add (de_add (de_add (dv 1) de_str) (de_strI (by rfl) G.z_str (da_cons (de_ix (dv 2) de_int) da_nil))) de_str) (de_strI (by rfl) G.z_str (da_cons (de_ix (dv 2) de_int) da_nil))) de_str) (de_strI (by rfl) G.z_str (da_cons (de_ix (dv 2) de_int) da_nil))))
      (dss_one (ds_ret (de_add (de_add (dv 4) (de_bm PySem.F.plainAttrs_str PySem.F.slot_str_join PySem.F.type_str_join mt_join join_ok de_str (da_cons (de_lc (own := [("feature", 5)]) rfl sc__law_line.nd (di_seq (dv 3)) (blkOk_by (N := N__law_line) (sc := defScope S__law_line) (own := [("feature", 5)]) (by decide +kernel)) (by decide) (fun _ _ _ _ _ => (dg_name (i := 5) sc__law_line.nd rfl (by first | exact .inl rfl | exact .inr rfl))) (fun _ _ _ _ _ => dts_nil) (fun _ _ _ _ _ => (de_add de_str (dv 5)))) da_nil))) de_str))))), hd⟩
theorem h__law_text {dsp : DSp} {s__law_check : DSp} {s__law_line : DSp} (G : Glob K mg) (H__law_check : Has P w K mg base k "_law_check" 1 s__law_check) (H__law_line : Has P w K mg base k "_law_line" 1 s__law_line) (hd : Rd 1 dsp (RD.t__law_text s__law_check s__law_line) N__law_text) : Has P w K mg base (k + 1) "_law_text" 1 dsp :=
  has_mk G.d__law_text sc__law_text rfl fun f cdv A outer s0 H E hr => by
    have hu := hr.units
    have hu1 : _ + 1 < cLine := Nat.lt_of_le_of_lt (Nat.add_le_add_left (by decide : 1 ≤ 64) _) hu
    exact ⟨RD.t__law_text s__law_check s__law_line, (dss_cons (ds_set (i := 1) sc__law_text.nd rfl (by first | exact .inl rfl | exact .inr rfl) (de_bm PySem.F.plainAttrs_str PySem.F.slot_str_join PySem.F.type_str_join mt_join join_ok de_str (da_cons (de_lc (own := [("triple", 2)]) rfl sc__law_text.nd (di_seq (dv 0)) (blkOk_by (N := N__law_text) (sc := defScope S__law_text) (own := [("triple", 2)]) (by decide +kernel)) (by decide) (fun _ _ _ _ _ => (dg_name (i := 2) sc__law_text.nd rfl (by first | exact .inl rfl | exact .inr rfl))) (fun _ _ _ _ _ => dts_nil) (fun _ _ _ _ _ => (de_call H__law_line hr (by rfl) pas0 (da_cons (dv 2) da_nil)))) da_nil)))
      (dss_one (ds_ret (de_add (de_add (de_add (dv 1) de_str) (de_strI (by rfl) G.z_str (da_cons (de_call H__law_check hr (by rfl) (pasT (takes_of rfl rfl rfl rfl)) (da_cons (dv 1) da_nil)) da_nil))) de_str)))), hd⟩
theorem h__law_is_name {dsp : DSp} (G : Glob K mg) (hd : Rd 1 dsp (RD.t__law_is_name_k42) N__law_is_name) : Has P w K mg base (k + 1) "_law_is_name" 1 dsp :=
  has_mk G.d__law_is_name sc__law_is_name rfl fun f cdv A outer s0 H E hr => by
    have hu := hr.units
    have hu1 : _ + 1 < cLine := Nat.lt_of_le_of_lt (Nat.add_le_add_left (by decide : 1 ≤ 64) _) hu
    exact ⟨RD.t__law_is_name_k42, (dss_one (ds_ret (de_and (de_cm2 (cm_le hu) (cm_le hu) de_int (de_len (by rfl) G.z_len (da_cons (dv 0) da_nil)) de_int) (de_one (de_all rfl (by rfl) G.z_all (da_cons (de_lc (own := [("sign", 1)]) rfl sc__law_is_name.nd (di_seq (dv 0)) (blkOk_by (N := N__law_is_name) (sc := defScope S__law_is_name) (own := [("sign", 1)]) (by decide +kernel)) (by decide) (fun _ _ _ _ _ => (dg_name (i := 1) sc__law_is_name.nd rfl (by first | exact .inl rfl | exact .inr rfl))) (fun _ _ _ _ _ => dts_nil) (fun _ _ _ _ _ => (de_cm cm_inC (by rfl) (dv 1) de_str))) da_nil)))))), hd⟩
theorem h__law_number {dsp : DSp} (G : Glob K mg) (hd : Rd 2 dsp (RD.t__law_number) N__law_number) : Has P w K mg base (k + 1) "_law_number" 2 dsp :=
  has_mk G.d__law_number sc__law_number rfl fun f cdv A outer s0 H E hr => by
    have hu := hr.units
    have hu1 : _ + 1 < cLine := Nat.lt_of_le_of_lt (Nat.add_le_add_left (by decide : 1 ≤ 64) _) hu
    exact ⟨RD.t__law_number, (dss_cons (ds_if (dw_pt (dw_or (dt_not (dt_cm2 (cm_le hu) (cm_le hu) de_int (de_len (by rfl) G.z_len (da_cons (dv 0) da_nil)) de_int)) (dw_or (dt_not (dt_tru (de_all rfl (by rfl) G.z_all (da_cons (de_lc (own := [("sign", 2)]) rfl sc__law_number.nd (di_seq (dv 0)) (blkOk_by (N := N__law_number) (sc := defScope S__law_number) (own := [("sign", 2)]) (by decide +kernel)) (by decide) (fun _ _ _ _ _ => (dg_name (i := 2) sc__law_number.nd rfl (by first | exact .inl rfl | exact .inr rfl))) (fun _ _ _ _ _ => dts_nil) (fun _ _ _ _ _ => (de_cm cm_inC (by rfl) (dv 2) de_str))) da_nil)))) (dw_or1 (dt_cm (cm_ne hu) (nomark _) (dv 0) (de_strI (by rfl) G.z_str (da_cons (de_intS (by rfl) G.z_int (da_cons (dv 0) da_nil)) da_nil))))))) (dss_one (ds_ret de_non)) dss_nil)
      (dss_one (ds_ret (de_if (dt_cm (cm_le hu) (nomark _) (de_intS (by rfl) G.z_int (da_cons (dv 0) da_nil)) (dv 1)) (de_intS (by rfl) G.z_int (da_cons (dv 0) da_nil)) de_non)))), hd⟩
theorem h__law_triple {dsp : DSp} {s__law_is_name : DSp} {s__law_number : DSp} (G : Glob K mg) (H__law_is_name : Has P w K mg base k "_law_is_name" 1 s__law_is_name) (H__law_number : Has P w K mg base k "_law_number" 2 s__law_number) (hd : Rd 1 dsp (RD.t__law_triple s__law_is_name s__law_number) N__law_triple) : Has P w K mg base (k + 1) "_law_triple" 1 dsp :=
  has_mk G.d__law_triple sc__law_triple rfl fun f cdv A outer s0 H E hr => by
    have hu := hr.units
    have hu1 : _ + 1 < cLine := Nat.lt_of_le_of_lt (Nat.add_le_add_left (by decide : 1 ≤ 64) _) hu
    exact ⟨RD.t__law_triple s__law_is_name s__law_number, (dss_cons (ds_set (i := 1) sc__law_triple.nd rfl (by first | exact .inl rfl | exact .inr rfl) (de_bm PySem.F.plainAttrs_str PySem.F.slot_str_split PySem.F.type_str_split mt_split split_ok (dv 0) (da_cons de_str da_nil)))
      (dss_cons (ds_if (dw_pt (dw_or (dt_cm (cm_lt hu) (nomark _) (de_len (by rfl) G.z_len (da_cons (dv 1) da_nil)) de_int) (dw_or1 (dt_not (dt_tru (de_all rfl (by rfl) G.z_all (da_cons (de_lc (own := [("word", 2)]) rfl sc__law_triple.nd (di_seq (de_add (de_slice (dv 1) do_none (do_some de_int)) (de_slice (dv 1) (do_some de_int) do_none))) (blkOk_by (N := N__law_triple) (sc := defScope S__law_triple) (own := [("word", 2)]) (by decide +kernel)) (by decide) (fun _ _ _ _ _ => (dg_name (i := 2) sc__law_triple.nd rfl (by first | exact .inl rfl | exact .inr rfl))) (fun _ _ _ _ _ => dts_nil) (fun _ _ _ _ _ => (de_call H__law_is_name hr (by rfl) pas0 (da_cons (dv 2) da_nil)))) da_nil))))))) (dss_one (ds_ret de_non)) dss_nil)
      (dss_cons (ds_par (i := 3) (j := 4) rfl sc__law_triple.nd rfl rfl (by decide) rfl rfl (da_cons (de_lc (own := [("word", 2)]) rfl sc__law_triple.nd (di_seq (de_bm PySem.F.plainAttrs_str PySem.F.slot_str_split PySem.F.type_str_split mt_split split_ok (de_ix (dv 1) de_int) (da_cons de_str da_nil))) (blkOk_by (N := N__law_triple) (sc := defScope S__law_triple) (own := [("word", 2)]) (by decide +kernel)) (by decide) (fun _ _ _ _ _ => (dg_name (i := 2) sc__law_triple.nd rfl (by first | exact .inl rfl | exact .inr rfl))) (fun _ _ _ _ _ => dts_nil) (fun _ _ _ _ _ => (de_call H__law_number hr (by rfl) pas0 (da_cons (dv 2) (da_cons de_int da_nil))))) (da_cons (de_slice (dv 1) (do_some de_int) do_none) da_nil)) (by rfl))
      (dss_cons (ds_if (dw_pt (dw_or (dt_cm (cm_ne hu) (nomark _) (de_len (by rfl) G.z_len (da_cons (dv 3) da_nil)) de_int) (dw_or (dt_cm cm_in (by rfl) de_non (dv 3)) (dw_or1 (dt_cm (cm_ne hu) (nomark _) (dv 4) (de_sortTx rfl hu (by rfl) G.z_sorted (by rfl) G.z_set (dv 4))))))) (dss_one (ds_ret de_non)) dss_nil)
      (dss_one (ds_ret (de_tup (da_cons (de_ix (dv 1) de_int) (da_cons (de_tuple (by rfl) G.z_tuple (da_cons (dv 3) da_nil)) (da_cons (de_tuple (by rfl) G.z_tuple (da_cons (dv 4) da_nil)) da_nil)))))))))), hd⟩
theorem h__law_due {dsp : DSp} {s__law_check : DSp} {s__law_number : DSp} {s__law_triple : DSp} (G : Glob K mg) (H__law_check : Has P w K mg base k "_law_check" 1 s__law_check) (H__law_number : Has P w K mg base k "_law_number" 2 s__law_number) (H__law_triple : Has P w K mg base k "_law_triple" 1 s__law_triple) (hd : Rd 1 dsp (RD.t__law_due_k42 s__law_check s__law_number s__law_triple) N__law_due) : Has P w K mg base (k + 1) "_law_due" 1 dsp :=
  has_mk G.d__law_due sc__law_due rfl fun f cdv A outer s0 H E hr => by
    have hu := hr.units
    have hu1 : _ + 1 < cLine := Nat.lt_of_le_of_lt (Nat.add_le_add_left (by decide : 1 ≤ 64) _) hu
    exact ⟨RD.t__law_due_k42 s__law_check s__law_number s__law_triple, (dss_cons (ds_set (i := 1) sc__law_due.nd rfl (by first | exact .inl rfl | exact .inr rfl) (de_bm PySem.F.plainAttrs_str PySem.F.slot_str_split PySem.F.type_str_split mt_split split_ok (dv 0) (da_cons de_str da_nil)))
      (dss_cons (ds_par (i := 2) (j := 3) rfl sc__law_due.nd rfl rfl (by decide) rfl rfl (da_cons (de_lst da_nil) (da_cons de_str da_nil)) (by rfl))
      (dss_cons (ds_for (passes_of rfl) rfl (di_range2 (by rfl) G.z_range (da_cons de_int (da_cons (de_len (by rfl) G.z_len (da_cons (dv 1) da_nil)) da_nil))) (dg_name (i := 4) sc__law_due.nd rfl (by first | exact .inl rfl | exact .inr rfl)) (dss_cons (ds_set (i := 5) sc__law_due.nd rfl (by first | exact .inl rfl | exact .inr rfl) (de_ix (dv 1) (de_sub (dv 4) de_int)))
      (dss_cons (ds_set (i := 6) sc__law_due.nd rfl (by first | exact .inl rfl | exact .inr rfl) (de_call H__law_triple hr (by rfl) (pasT (takes_of rfl rfl rfl rfl)) (da_cons (dv 5) da_nil)))
      (dss_one (ds_if (dt_cm cm_isnot (nomark _) (dv 6) de_non) (dss_cons (ds_if (dw_pt (dw_and (dt_cm (cm_gt hu) (nomark _) (de_len (by rfl) G.z_len (da_cons (dv 2) da_nil)) de_int) (dw_and1 (dt_cm (cm_ge hu) (nomark _) (de_ix (de_ix (dv 2) (de_neg de_int)) de_int) (de_ix (dv 6) de_int))))) (dss_one (ds_ret (de_tup (da_cons de_str (da_cons (dv 4) da_nil))))) dss_nil)
      (dss_cons (ds_expr (de_append (dv 2) (da_cons (dv 6) da_nil)))
      (dss_one (ds_set (i := 3) sc__law_due.nd rfl (by first | exact .inl rfl | exact .inr rfl) (de_add (de_add (dv 3) (dv 5)) de_str))))) (dss_one (ds_if (dw_pt (dw_or (dt_cm (cm_ne hu) (nomark _) (de_slice (dv 5) do_none (do_some de_int)) de_str) (dw_or1 (dt_cm (cm_ne hu) (nomark _) (de_call H__law_number hr (by rfl) (pasT (takes_of rfl rfl rfl rfl)) (da_cons (de_slice (dv 5) (do_some de_int) do_none) (da_cons de_int da_nil))) (de_call H__law_check hr (by rfl) (pasT (takes_of rfl rfl rfl rfl)) (da_cons (dv 3) da_nil)))))) (dss_one (ds_ret (de_tup (da_cons de_str (da_cons (dv 4) da_nil))))) (dss_one (ds_if (dt_cm (cm_ne hu) (nomark _) (dv 0) (de_add (de_add (dv 3) (dv 5)) de_str)) (dss_one (ds_ret (de_tup (da_cons de_str (da_cons (de_add (dv 4) de_int) da_nil))))) (dss_one (ds_ret (de_tup (da_cons de_str (da_cons (de_tuple (by rfl) G.z_tuple (da_cons (dv 2) da_nil)) da_nil))))))))))))))
      (dss_one (ds_ret (de_tup (da_cons de_str (da_cons (de_len (by rfl) G.z_len (da_cons (dv 1) da_nil)) da_nil)))))))), hd⟩
theorem h__law_read {dsp : DSp} {s_read_lock : DSp} (G : Glob K mg) (H_read_lock : Has P w K mg base k "read_lock" 1 s_read_lock) (hd : Rd 1 dsp (RD.t__law_read s_read_lock) N__law_read) : Has P w K mg base (k + 1) "_law_read" 1 dsp :=
  has_mk G.d__law_read sc__law_read rfl fun f cdv A outer s0 H E hr => by
    have hu := hr.units
    have hu1 : _ + 1 < cLine := Nat.lt_of_le_of_lt (Nat.add_le_add_left (by decide : 1 ≤ 64) _) hu
    exact ⟨RD.t__law_read s_read_lock, (dss_cons (ds_set (i := 1) sc__law_read.nd rfl (by first | exact .inl rfl | exact .inr rfl) (de_tup (da_cons de_non (da_cons de_non da_nil))))
      (dss_cons (ds_try_as (ms := [4]) (i := 2) rfl rfl sc__law_read.nd rfl rfl ⟨by rfl, by decide, .inl G.g_BadLine⟩ (takes_of rfl rfl rfl rfl) (all_cons G.xm_BadLine_BadLine (fun _ h => nomatch h)) (fun W pn xe tk po => (dss_one (ds_set (i := 1) sc__law_read.nd rfl (by first | exact .inl rfl | exact .inr rfl) (de_tup (da_cons de_str (da_cons (de_call H_read_lock hr (by rfl) (pasT tk) (da_cons (dv 0) da_nil)) da_nil)))))) (fun TC' a oe x d pn hT hz hv hd => by exact ((dss_one (ds_if (dw_pt (dw_and (dt_tru (de_xi (X := XDef P w K mg base N__law_read "_law_read" S__law_read f cdv A outer s0 H E) (a := a) (oe := oe) (pn := pn) (xx := x) (d := d) (tbl := [(4, true)]) (cv := .ref (errA 0)) (cu := .ref (errA 0)) hT (by rfl) G.z_isinstance (all_cons ⟨G.ef_BadLine, G.kt_BadLine_LockError⟩ (fun _ h => nomatch h)) (fun u r => r) hz hv (dv 2) (pe_glob (by rfl) G.g_LockError (show RelV (.ref (errA 0)) (.ref (errA 0)) from rfl)))) (dw_and (dt_tru (de_xi (X := XDef P w K mg base N__law_read "_law_read" S__law_read f cdv A outer s0 H E) (a := a) (oe := oe) (pn := pn) (xx := x) (d := d) (tbl := [(4, true)]) (cv := .ty "ValueError") (cu := .type "ValueError") hT (by rfl) G.z_isinstance (all_cons ⟨G.ef_BadLine, G.kt_BadLine_ValueError⟩ (fun _ h => nomatch h)) (fun u r => r) hz hv (dv 2) (pe_bltn (by rfl) G.z_ValueError boot_ValueError (show RelV (.ty "ValueError") (.type "ValueError") from rfl)))) (dw_and1 (dt_not (dt_tru (de_xi (X := XDef P w K mg base N__law_read "_law_read" S__law_read f cdv A outer s0 H E) (a := a) (oe := oe) (pn := pn) (xx := x) (d := d) (tbl := [(4, false)]) (cv := .ref (errA 1)) (cu := .ref (errA 1)) hT (by rfl) G.z_isinstance (all_cons ⟨G.ef_BadLine, G.kt_BadLine_BadText⟩ (fun _ h => nomatch h)) (fun u r => r) hz hv (dv 2) (pe_glob (by rfl) G.g_BadText (show RelV (.ref (errA 1)) (.ref (errA 1)) from rfl))))))))) (dss_one (ds_set (i := 1) sc__law_read.nd rfl (by first | exact .inl rfl | exact .inr rfl) (de_tup (da_cons de_str (da_cons (de_xf (X := XDef P w K mg base N__law_read "_law_read" S__law_read f cdv A outer s0 H E) (a := a) (oe := oe) (pn := pn) (xx := x) (d := d) (m := 4) hT G.ef_BadLine.xf G.no_BadLine hz hv hd (dv 2)) da_nil))))) dss_nil)))))
      (dss_cons (ds_if (dw_pt (dw_and (dt_cm (cm_eq hu) (nomark _) (de_ix (dv 1) de_int) de_str) (dw_and1 (dw_pt (dw_or (dt_not (dt_tru (de_isi (by rfl) G.z_isinstance (de_ix (dv 1) de_int) (pe_ty (by rfl) G.z_int PyProof.Rows.boot_int)))) (dw_or1 (dt_tru (de_isi (by rfl) G.z_isinstance (de_ix (dv 1) de_int) (pe_ty (by rfl) G.z_bool PyProof.Rows.boot_bool))))))))) (dss_one (ds_ret (de_tup (da_cons de_non (da_cons de_non da_nil))))) dss_nil)
      (dss_one (ds_ret (dv 1)))))), hd⟩
theorem h__law_changed {dsp : DSp} {s__law_draw : DSp} {s__law_any : DSp} (G : Glob K mg) (H__law_draw : Has P w K mg base k "_law_draw" 2 s__law_draw) (H__law_any : Has P w K mg base k "_law_any" 2 s__law_any) (hd : Rd 2 dsp (RD.t__law_changed s__law_draw s__law_any) N__law_changed) : Has P w K mg base (k + 1) "_law_changed" 2 dsp :=
  has_mk G.d__law_changed sc__law_changed rfl fun f cdv A outer s0 H E hr => by
    have hu := hr.units
    have hu1 : _ + 1 < cLine := Nat.lt_of_le_of_lt (Nat.add_le_add_left (by decide : 1 ≤ 64) _) hu
    exact ⟨RD.t__law_changed s__law_draw s__law_any, (dss_cons (ds_set (i := 2) sc__law_changed.nd rfl (by first | exact .inl rfl | exact .inr rfl) de_str)
      (dss_cons (ds_set (i := 3) sc__law_changed.nd rfl (by first | exact .inl rfl | exact .inr rfl) (de_call H__law_draw hr (by rfl) (pasT (takes_of rfl rfl rfl rfl)) (da_cons (dv 0) (da_cons (de_len (by rfl) G.z_len (da_cons (dv 1) da_nil)) da_nil))))
      (dss_cons (ds_set (i := 4) sc__law_changed.nd rfl (by first | exact .inl rfl | exact .inr rfl) (de_call H__law_any hr (by rfl) (pasT (takes_of rfl rfl rfl rfl)) (da_cons (dv 0) (da_cons (de_lst (da_cons (dv 2) (da_cons (dv 2) (da_cons de_str (da_cons de_str (da_cons de_str da_nil)))))) da_nil))))
      (dss_cons (ds_setLc (i := 5) (own := [("sign", 6)]) rfl sc__law_changed.nd rfl rfl (sw_true rfl rfl rfl (by decide +kernel)) (di_seq (dv 4)) (blkOk_by (N := N__law_changed) (sc := defScope S__law_changed) (own := [("sign", 6)]) (by decide +kernel)) (by decide) (fun _ _ _ _ _ => (dg_name (i := 6) sc__law_changed.nd rfl (by first | exact .inl rfl | exact .inr rfl))) (fun _ _ _ _ _ => (dts_one (dt_cm (cm_ne hu) (nomark _) (dv 6) (de_ix (dv 1) (dv 3))))) (fun _ _ _ _ _ => (dv 6)))
      (dss_one (ds_ret (de_add (de_add (de_slice (dv 1) do_none (do_some (dv 3))) (de_call H__law_any hr (by rfl) (pasT (takes_of rfl rfl rfl rfl)) (da_cons (dv 0) (da_cons (dv 5) da_nil)))) (de_slice (dv 1) (do_some (de_add (dv 3) de_int)) do_none)))))))), hd⟩
theorem h__law_exchanged {dsp : DSp} {s__law_draw : DSp} {s__law_any : DSp} (G : Glob K mg) (H__law_draw : Has P w K mg base k "_law_draw" 2 s__law_draw) (H__law_any : Has P w K mg base k "_law_any" 2 s__law_any) (hd : Rd 2 dsp (RD.t__law_exchanged s__law_draw s__law_any) N__law_exchanged) : Has P w K mg base (k + 1) "_law_exchanged" 2 dsp :=
  has_mk G.d__law_exchanged sc__law_exchanged rfl fun f cdv A outer s0 H E hr => by
    have hu := hr.units
    have hu1 : _ + 1 < cLine := Nat.lt_of_le_of_lt (Nat.add_le_add_left (by decide : 1 ≤ 64) _) hu
    exact ⟨RD.t__law_exchanged s__law_draw s__law_any, (dss_cons (ds_set (i := 2) sc__law_exchanged.nd rfl (by first | exact .inl rfl | exact .inr rfl) (de_call H__law_draw hr (by rfl) (pasT (takes_of rfl rfl rfl rfl)) (da_cons (dv 0) (da_cons (de_len (by rfl) G.z_len (da_cons (dv 1) da_nil)) da_nil))))
      (dss_cons (ds_setLc (i := 3) (own := [("k", 4)]) rfl sc__law_exchanged.nd rfl rfl (sw_true rfl rfl rfl (by decide +kernel)) (di_range1 (by rfl) G.z_range (da_cons (de_len (by rfl) G.z_len (da_cons (dv 1) da_nil)) da_nil)) (blkOk_by (N := N__law_exchanged) (sc := defScope S__law_exchanged) (own := [("k", 4)]) (by decide +kernel)) (by decide) (fun _ _ _ _ _ => (dg_name (i := 4) sc__law_exchanged.nd rfl (by first | exact .inl rfl | exact .inr rfl))) (fun _ _ _ _ _ => (dts_one (dt_cm (cm_ne hu) (nomark _) (de_ix (dv 1) (dv 4)) (de_ix (dv 1) (dv 2))))) (fun _ _ _ _ _ => (dv 4)))
      (dss_cons (ds_setLc (i := 5) (own := [("k", 4)]) rfl sc__law_exchanged.nd rfl rfl (sw_true rfl rfl rfl (by decide +kernel)) (di_seq (dv 3)) (blkOk_by (N := N__law_exchanged) (sc := defScope S__law_exchanged) (own := [("k", 4)]) (by decide +kernel)) (by decide) (fun _ _ _ _ _ => (dg_name (i := 4) sc__law_exchanged.nd rfl (by first | exact .inl rfl | exact .inr rfl))) (fun _ _ _ _ _ => (dts_one (dt_cm (cm_gt hu) (nomark _) (dv 4) (de_sub (de_len (by rfl) G.z_len (da_cons (dv 1) da_nil)) de_int)))) (fun _ _ _ _ _ => (dv 4)))
      (dss_cons (ds_set (i := 6) sc__law_exchanged.nd rfl (by first | exact .inl rfl | exact .inr rfl) (de_call H__law_any hr (by rfl) (pasT (takes_of rfl rfl rfl rfl)) (da_cons (dv 0) (da_cons (de_if (dw_pt (dw_and (dt_cm (cm_gt hu) (nomark _) (de_len (by rfl) G.z_len (da_cons (dv 5) da_nil)) de_int) (dw_and1 (dt_cm (cm_eq hu) (nomark _) (de_call H__law_draw hr (by rfl) (pasT (takes_of rfl rfl rfl rfl)) (da_cons (dv 0) (da_cons de_int da_nil))) de_int)))) (dv 5) (dv 3)) da_nil))))
      (dss_cons (ds_par (i := 7) (j := 8) rfl sc__law_exchanged.nd rfl rfl (by decide) rfl rfl (da_cons (de_min2 rfl (by rfl) G.z_min (da_cons (dv 2) (da_cons (dv 6) da_nil))) (da_cons (de_maxI rfl (by rfl) G.z_max (da_cons (dv 2) (da_cons (dv 6) da_nil))) da_nil)) (by rfl))
      (dss_one (ds_ret (de_add (de_add (de_add (de_add (de_slice (dv 1) do_none (do_some (dv 7))) (de_ix (dv 1) (dv 8))) (de_slice (dv 1) (do_some (de_add (dv 7) de_int)) (do_some (dv 8)))) (de_ix (dv 1) (dv 7))) (de_slice (dv 1) (do_some (de_add (dv 8) de_int)) do_none))))))))), hd⟩
theorem h__law_harmed {dsp : DSp} {s__law_draw : DSp} {s__law_any : DSp} {s__law_changed : DSp} {s__law_exchanged : DSp} (G : Glob K mg) (H__law_draw : Has P w K mg base k "_law_draw" 2 s__law_draw) (H__law_any : Has P w K mg base k "_law_any" 2 s__law_any) (H__law_changed : Has P w K mg base k "_law_changed" 2 s__law_changed) (H__law_exchanged : Has P w K mg base k "_law_exchanged" 2 s__law_exchanged) (hd : Rd 2 dsp (RD.t__law_harmed s__law_draw s__law_any s__law_changed s__law_exchanged) N__law_harmed) : Has P w K mg base (k + 1) "_law_harmed" 2 dsp :=
  has_mk G.d__law_harmed sc__law_harmed rfl fun f cdv A outer s0 H E hr => by
    have hu := hr.units
    have hu1 : _ + 1 < cLine := Nat.lt_of_le_of_lt (Nat.add_le_add_left (by decide : 1 ≤ 64) _) hu
    exact ⟨RD.t__law_harmed s__law_draw s__law_any s__law_changed s__law_exchanged, (dss_cons (ds_set (i := 2) sc__law_harmed.nd rfl (by first | exact .inl rfl | exact .inr rfl) (de_call H__law_draw hr (by rfl) (pasT (takes_of rfl rfl rfl rfl)) (da_cons (dv 0) (da_cons de_int da_nil))))
      (dss_cons (ds_if (dt_cm (cm_lt hu) (nomark _) (dv 2) de_int) (dss_one (ds_ret (de_call H__law_changed hr (by rfl) (pasT (takes_of rfl rfl rfl rfl)) (da_cons (dv 0) (da_cons (dv 1) da_nil))))) dss_nil)
      (dss_cons (ds_if (dt_cm (cm_lt hu) (nomark _) (dv 2) de_int) (dss_one (ds_ret (de_call H__law_exchanged hr (by rfl) (pasT (takes_of rfl rfl rfl rfl)) (da_cons (dv 0) (da_cons (dv 1) da_nil))))) dss_nil)
      (dss_cons (ds_if (dt_cm (cm_eq hu) (nomark _) (dv 2) de_int) (dss_one (ds_ret (de_slice (dv 1) do_none (do_some (de_call H__law_any hr (by rfl) (pasT (takes_of rfl rfl rfl rfl)) (da_cons (dv 0) (da_cons (de_lst (da_cons (de_call H__law_draw hr (by rfl) (pasT (takes_of rfl rfl rfl rfl)) (da_cons (dv 0) (da_cons (de_len (by rfl) G.z_len (da_cons (dv 1) da_nil)) da_nil))) (da_cons (de_sub (de_len (by rfl) G.z_len (da_cons (dv 1) da_nil)) de_int) (da_cons (de_bm PySem.F.plainAttrs_str PySem.F.slot_str_find PySem.F.type_str_find mt_find find_ok (dv 1) (da_cons de_str da_nil)) da_nil)))) da_nil))))))) dss_nil)
      (dss_one (ds_ret (de_add (dv 1) (de_call H__law_any hr (by rfl) (pasT (takes_of rfl rfl rfl rfl)) (da_cons (dv 0) (da_cons (de_lst (da_cons de_str (da_cons de_str (da_cons de_str (da_cons de_str (da_cons de_str (da_cons (dv 1) (da_cons (de_slice (dv 1) (do_some (de_neg de_int)) do_none) da_nil)))))))) da_nil)))))))))), hd⟩
theorem h_law {dsp : DSp} {s_lock_text : DSp} {s__law_hand : DSp} {s__law_installation : DSp} {s__law_text : DSp} {s__law_due : DSp} {s__law_read : DSp} {s__law_harmed : DSp} {f : Addr} {fd : FuncData} (G : Glob K mg) (F : Fun K "law" "law" S_law f fd) (H_lock_text : Has P w K mg base k "lock_text" 1 s_lock_text) (H__law_hand : Has P w K mg base k "_law_hand" 1 s__law_hand) (H__law_installation : Has P w K mg base k "_law_installation" 1 s__law_installation) (H__law_text : Has P w K mg base k "_law_text" 1 s__law_text) (H__law_due : Has P w K mg base k "_law_due" 1 s__law_due) (H__law_read : Has P w K mg base k "_law_read" 1 s__law_read) (H__law_harmed : Has P w K mg base k "_law_harmed" 2 s__law_harmed) (hd : Rd 1 dsp (RD.t_law_k43 s_lock_text s__law_hand s__law_installation s__law_text s__law_due s__law_read s__law_harmed) N_law) : FnOk P w K mg base (L2.CX P w) (k + 1) f fd ["script"] (liftSp K 1 dsp) :=
  fn_mk F sc_law rfl fun f cdv A outer s0 H E hr => by
    have hu := hr.units
    have hu1 : _ + 1 < cLine := Nat.lt_of_le_of_lt (Nat.add_le_add_left (by decide : 1 ≤ 64) _) hu
    exact ⟨RD.t_law_k43 s_lock_text s__law_hand s__law_installation s__law_text s__law_due s__law_read s__law_harmed, (dss_cons (ds_set (i := 1) sc_law.nd rfl (by first | exact .inl rfl | exact .inr rfl) (de_call H__law_hand hr (by rfl) (pasT (takes_of rfl rfl rfl rfl)) (da_cons (dv 0) da_nil)))
      (dss_cons (ds_set (i := 2) sc_law.nd rfl (by first | exact .inl rfl | exact .inr rfl) (de_call H__law_installation hr (by rfl) (pasT (takes_of rfl rfl rfl rfl)) (da_cons (dv 1) da_nil)))
      (dss_cons (ds_set (i := 3) sc_law.nd rfl (by first | exact .inl rfl | exact .inr rfl) (de_call H_lock_text hr (by rfl) (pasT (takes_of rfl rfl rfl rfl)) (da_cons (dv 2) da_nil)))
      (dss_cons (ds_if (dw_pt (dw_or (dt_cm (cm_ne hu) (nomark _) (dv 3) (de_call H__law_text hr (by rfl) (pasT (takes_of rfl rfl rfl rfl)) (da_cons (dv 2) da_nil))) (dw_or1 (dt_cm (cm_ne hu) (nomark _) (de_call H__law_read hr (by rfl) (pasT (takes_of rfl rfl rfl rfl)) (da_cons (dv 3) da_nil)) (de_tup (da_cons de_str (da_cons (dv 2) da_nil))))))) (dss_one (ds_ret de_bl)) dss_nil)
      (dss_cons (ds_for (passes_of rfl) rfl (di_range1 (by rfl) G.z_range (da_cons de_int da_nil)) (dg_name (i := 4) sc_law.nd rfl (by first | exact .inl rfl | exact .inr rfl)) (dss_cons (ds_set (i := 5) sc_law.nd rfl (by first | exact .inl rfl | exact .inr rfl) (de_call H__law_harmed hr (by rfl) (pasT (takes_of rfl rfl rfl rfl)) (da_cons (dv 1) (da_cons (dv 3) da_nil))))
      (dss_cons (ds_par (i := 6) (j := 7) rfl sc_law.nd rfl rfl (by decide) rfl rfl (da_cons (de_call H__law_due hr (by rfl) (pasT (takes_of rfl rfl rfl rfl)) (da_cons (dv 5) da_nil)) (da_cons (de_call H__law_read hr (by rfl) (pasT (takes_of rfl rfl rfl rfl)) (da_cons (dv 5) da_nil)) da_nil)) (by rfl))
      (dss_one (ds_if (dw_pt (dw_or (dt_cm (cm_ne hu) (nomark _) (de_ix (dv 7) de_int) de_str) (dw_or1 (dt_cm (cm_ne hu) (nomark _) (dv 7) (dv 6))))) (dss_one (ds_ret de_bl)) dss_nil)))))
      (dss_one (ds_ret (de_cm (cm_eq hu) (nomark _) (de_call H__law_read hr (by rfl) (pasT (takes_of rfl rfl rfl rfl)) (da_cons (dv 3) da_nil)) (de_tup (da_cons de_str (da_cons (dv 2) da_nil))))))))))), hd⟩
end
end Lk43
namespace CM
open PySem L2 PySem.Spec DL
open PyProof.Rows hiding St
mutual
def pu : D → Bool
  | .non => true
  | .int _ => true
  | .str x => PyData.strOk x
  | .tup ds => pus ds
  | _ => false
def pus : List D → Bool
  | [] => true
  | d :: ds => pu d && pus ds
end
mutual
def dp : D → Nat
  | .tup ds => dps ds + 1
  | _ => 0
def dps : List D → Nat
  | [] => 0
  | d :: ds => max (dp d) (dps ds)
end
mutual
def pd : D → PyData
  | .int i => .int i
  | .str x => .str x
  | .bl b => .bool b
  | .tup ds => .tuple (pds ds)
  | _ => .none
def pds : List D → List PyData
  | [] => []
  | d :: ds => pd d :: pds ds
end
mutual
theorem pd_depth : ∀ d, (pd d).depth = dp d
  | .non => by simp [pd, dp, PyData.depth]
  | .bl _ => by simp [pd, dp, PyData.depth]
  | .int _ => by simp [pd, dp, PyData.depth]
  | .str _ => by simp [pd, dp, PyData.depth]
  | .fls _ => by simp [pd, dp, PyData.depth]
  | .loc _ => by simp [pd, dp, PyData.depth]
  | .adr _ => by simp [pd, dp, PyData.depth]
  | .ty _ => by simp [pd, dp, PyData.depth]
  | .tup ds => by simp [pd, dp, PyData.depth, pds_depth ds]
theorem pds_depth : ∀ ds, PyData.depthAll (pds ds) = dps ds
  | [] => by simp [pds, dps, PyData.depthAll]
  | d :: ds => by simp [pds, dps, PyData.depthAll, pd_depth d, pds_depth ds]
end
mutual
theorem pd_lay : ∀ d, pu d = true → (pd d).canLay0 = true
  | .non, _ => by simp [pd, PyData.canLay0]
  | .int _, _ => by simp [pd, PyData.canLay0]
  | .str x, h => by simpa [pd, PyData.canLay0, pu] using h
  | .tup ds, h => by simpa [pd, PyData.canLay0] using pds_lay ds (by simpa [pu] using h)
  | .bl _, h => by simp [pu] at h
  | .fls _, h => by simp [pu] at h
  | .loc _, h => by simp [pu] at h
  | .adr _, h => by simp [pu] at h
  | .ty _, h => by simp [pu] at h
theorem pds_lay : ∀ ds, pus ds = true → PyData.canLayAll0 (pds ds) = true
  | [], _ => by simp [pds, PyData.canLayAll0]
  | d :: ds, h => by
    simp only [pus, Bool.and_eq_true] at h
    simp [pds, PyData.canLayAll0, pd_lay d h.1, pds_lay ds h.2]
end
theorem shaped_pd {d : D} (h : pu d = true) (hd : dp d ≤ 60) : SeqAt.shaped (pd d) = true := by
  unfold SeqAt.shaped
  rw [pd_lay d h, pd_depth d]
  simp
  omega
theorem mapM_pds {st : Sto} {n : Nat} (ih : ∀ d, pu d = true → dp d ≤ n → pdF st n d = some (pd d)) : ∀ ds : List D, pus ds = true → dps ds ≤ n → ds.mapM (pdF st n) = some (pds ds)
  | [], _, _ => rfl
  | d :: ds, h, hd => by
    simp only [pus, Bool.and_eq_true] at h
    simp only [dps] at hd
    rw [List.mapM_cons, ih d h.1 (by omega), mapM_pds ih ds h.2 (by omega)]
    rfl
theorem pdF_pd (st : Sto) : ∀ (n : Nat) (d : D), pu d = true → dp d ≤ n → pdF st n d = some (pd d) := by
  intro n
  induction n with
  | zero =>
    intro d h hd
    cases d <;> simp [pu, dp] at h hd <;> simp [pdF, pd]
  | succ n ih =>
    intro d h hd
    cases d <;> simp [pu, dp] at h hd <;> try simp [pdF, pd]
    rename_i ds
    rw [mapM_pds ih ds h (by omega)]
mutual
theorem eqv_pd : ∀ x y : D, pu x = true → pu y = true → (PyData.eqv (pd x) (pd y) = true ↔ x = y)
  | .non, y, _, hy => by cases y <;> simp [pu] at hy <;> simp [pd, PyData.eqv]
  | .int i, y, _, hy => by cases y <;> simp [pu] at hy <;> simp [pd, PyData.eqv]
  | .str x, y, _, hy => by cases y <;> simp [pu] at hy <;> simp [pd, PyData.eqv]
  | .tup ds, y, hx, hy => by
    cases y <;> simp [pu] at hx hy <;> simp [pd, PyData.eqv]
    exact eqv_pds ds _ hx hy
  | .bl _, _, h, _ => by simp [pu] at h
  | .fls _, _, h, _ => by simp [pu] at h
  | .loc _, _, h, _ => by simp [pu] at h
  | .adr _, _, h, _ => by simp [pu] at h
  | .ty _, _, h, _ => by simp [pu] at h
theorem eqv_pds : ∀ xs ys : List D, pus xs = true → pus ys = true → (PyData.eqvAll (pds xs) (pds ys) = true ↔ xs = ys)
  | [], [], _, _ => by simp [pds, PyData.eqvAll]
  | [], y :: ys, _, _ => by simp [pds, PyData.eqvAll]
  | x :: xs, [], _, _ => by simp [pds, PyData.eqvAll]
  | x :: xs, y :: ys, hx, hy => by
    simp only [pus, Bool.and_eq_true] at hx hy
    simp only [pds, PyData.eqvAll, Bool.and_eq_true, eqv_pd x y hx.1 hy.1, eqv_pds xs ys hx.2 hy.2, List.cons.injEq]
end
/-- == of plain data -/
theorem eq_plain {f : Bool → Bool} {x y : D} {st : Sto} {Q : DK} {b : Bool} (hx : pu x = true) (hy : pu y = true) (dx : dp x ≤ 60) (dy : dp y ≤ 60) (hb : b = true ↔ x = y) (q : Q (.bl (f b)) st) : dEqB f x y st Q := by
  unfold dEqB
  split
  · rename_i b' e
    have : b' = b := by
      cases x <;> cases y <;> simp [atomEq] at e <;> cases b <;> simp_all
    rw [this]; exact q
  · refine ⟨60, pd x, pd y, pdF_pd st 60 x hx dx, pdF_pd st 60 y hy dy, shaped_pd hx dx, shaped_pd hy dy, ?_⟩
    have : PyData.eqv (pd x) (pd y) = b := by
      have h := eqv_pd x y hx hy
      cases b <;> cases e : PyData.eqv (pd x) (pd y) <;> simp_all
    rw [this]; exact q
def vA (n : Nat) : Nat := n / 1000001 / 1000001
def vB (n : Nat) : Nat := n / 1000001 % 1000001
def vC (n : Nat) : Nat := n % 1000001
def mkV (a b c : Nat) : Nat := (a * 1000001 + b) * 1000001 + c
def vI (n : Nat) : List Int := [(vA n : Int), (vB n : Int), (vC n : Int)]
def encV (n : Nat) : D := .tup [.int (vA n), .int (vB n), .int (vC n)]
theorem mkV_eq (n : Nat) : mkV (vA n) (vB n) (vC n) = n := by unfold mkV vA vB vC; omega
theorem vA_mk {a b c : Nat} (hb : b < 1000001) (hc : c < 1000001) : vA (mkV a b c) = a := by unfold mkV vA; omega
theorem vB_mk {a b c : Nat} (hb : b < 1000001) (hc : c < 1000001) : vB (mkV a b c) = b := by unfold mkV vB; omega
theorem vC_mk {a b c : Nat} (hc : c < 1000001) : vC (mkV a b c) = c := by unfold mkV vC; omega
theorem vI_lt (m n : Nat) : vI m < vI n ↔ m < n := by
  unfold vI
  simp only [List.cons_lt_cons_iff, List.not_lt_nil, and_false, or_false]
  unfold vA vB vC
  omega
theorem vI_inj {m n : Nat} : vI m = vI n ↔ m = n := by
  constructor
  · intro h
    unfold vI at h
    simp only [List.cons.injEq, and_true] at h
    obtain ⟨h1, h2, h3⟩ := h
    rw [← mkV_eq m, ← mkV_eq n, Int.ofNat_inj.mp h1, Int.ofNat_inj.mp h2, Int.ofNat_inj.mp h3]
  · intro h; rw [h]
theorem encV_inj {m n : Nat} : encV m = encV n ↔ m = n := by
  rw [← vI_inj]
  unfold encV vI
  simp
theorem pu_encV (n : Nat) : pu (encV n) = true := by simp [encV, pu, pus]
theorem dp_encV (n : Nat) : dp (encV n) = 1 := by simp [encV, dp, dps]
theorem pd_encV (n : Nat) : pd (encV n) = .tuple ((vI n).map .int) := by simp [encV, pd, pds, vI]
theorem dataLt_encV (m n : Nat) : PySem.W.dataLt (pd (encV m)) (pd (encV n)) = decide (m < n) := by
  rw [pd_encV, pd_encV, PySem.W.dataLt_tuple]
  refine (PySem.W.dataLt_ints (vI m) (vI n)).trans ?_
  simp only [vI_lt]
theorem alike_encV (m n : Nat) : PySem.W.alike (pd (encV m)) (pd (encV n)) = true := by
  rw [pd_encV, pd_encV]
  simp [vI, PySem.W.alike, PySem.W.alikeAll]
section
variable {st : Sto} {Q : DK} {m n : Nat}
theorem pdF_encV (k : Nat) : pdF st k (encV n) = if k = 0 then none else some (pd (encV n)) := by
  cases k with
  | zero => rfl
  | succ k => rw [if_neg (Nat.succ_ne_zero k)]; exact pdF_pd st (k + 1) _ (pu_encV n) (by rw [dp_encV]; omega)
theorem ord_encV {f : Int → Int → Bool} {g : PyData → PyData → Bool} : dOrd f g (encV m) (encV n) st Q = Q (.bl (g (pd (encV m)) (pd (encV n)))) st := by
  show (∃ k d e, pdF st k (encV m) = some d ∧ pdF st k (encV n) = some e ∧ PySem.W.alike d e = true ∧ d ≠ .none ∧ d.depth ≤ 64 ∧ Q (.bl (g d e)) st) = _
  apply propext
  constructor
  · rintro ⟨k, d, e, h1, h2, _, _, _, q⟩
    rw [pdF_encV] at h1 h2
    split at h1
    · cases h1
    · rename_i hk
      rw [if_neg hk] at h2
      cases h1
      cases h2
      exact q
  · intro q
    refine ⟨1, _, _, pdF_encV 1, pdF_encV 1, alike_encV m n, ?_, ?_, q⟩
    · rw [pd_encV]; simp
    · rw [pd_depth, dp_encV]; decide
@[simp] theorem lt_encV : dLt (encV m) (encV n) st Q = Q (.bl (decide (m < n))) st := by rw [dLt, ord_encV, dataLt_encV]
@[simp] theorem gt_encV : dGt (encV m) (encV n) st Q = Q (.bl (decide (n < m))) st := by rw [dGt, ord_encV, dataLt_encV]
@[simp] theorem le_encV : dLe (encV m) (encV n) st Q = Q (.bl (decide (m ≤ n))) st := by
  rw [dLe, ord_encV, dataLt_encV]
  have : (!decide (n < m)) = decide (m ≤ n) := by
    by_cases h : n < m
    · simp [h]
    · simp [h]; omega
  rw [this]
end
@[simp] theorem isNon_encV {n : Nat} : isNonD (encV n) = false := rfl
def encO : Option Nat → D
  | none => .non
  | some n => encV n
abbrev Rng := List (Nat × Option Nat)
def encP (p : Nat × Option Nat) : D := .tup [encV p.1, encO p.2]
def encR (r : Rng) : D := .tup (r.map encP)
@[simp] theorem isNon_encO {o : Option Nat} : isNonD (encO o) = o.isNone := by cases o <;> rfl
theorem encO_inj {a b : Option Nat} : encO a = encO b ↔ a = b := by
  cases a <;> cases b <;> simp [encO, encV_inj] <;> simp [encV]
theorem encP_inj {p q : Nat × Option Nat} : encP p = encP q ↔ p = q := by
  obtain ⟨a, b⟩ := p
  obtain ⟨c, d⟩ := q
  simp [encP, encV_inj, encO_inj]
theorem encR_inj {r s : Rng} : encR r = encR s ↔ r = s := by
  unfold encR
  simp only [D.tup.injEq]
  constructor
  · intro h
    exact (List.map_inj_right fun _ _ h => encP_inj.mp h).mp h
  · intro h; rw [h]
end CM
namespace CM
open PySem L2 PySem.Spec DL
open PyProof.Rows hiding St
mutual
def ok (st : Sto) : D → Prop
  | .tup ds => oks st ds
  | .loc n => (∃ es, st[n]? = some (.lst es)) ∨ ∃ es, st[n]? = some (.dK es)
  | .adr _ => False
  | .ty _ => False
  | _ => True
def oks (st : Sto) : List D → Prop
  | [] => True
  | d :: ds => ok st d ∧ oks st ds
end
theorem oks_iff {st : Sto} : ∀ {ds : List D}, oks st ds ↔ ∀ d ∈ ds, ok st d
  | [] => by simp [oks]
  | d :: ds => by simp [oks, oks_iff (ds := ds)]
theorem ok_cases {st : Sto} {d : D} (h : ok st d) : d = .non ∨ (∃ b, d = .bl b) ∨ (∃ i, d = .int i) ∨ (∃ x, d = .str x) ∨ (∃ ds, d = .tup ds ∧ oks st ds) ∨ (∃ ds, d = .fls ds) ∨ (∃ n es, d = .loc n ∧ st[n]? = some (.lst es)) ∨ ∃ n es, d = .loc n ∧ st[n]? = some (.dK es) := by
  cases d <;> simp [ok] at h ⊢
  · exact h
  · exact h
/-- lists stay lists, dicts stay dicts -/
structure Kin (st st' : Sto) : Prop where
  lst : ∀ (n : Nat) es, st[n]? = some (.lst es) → ∃ es', st'[n]? = some (.lst es')
  dK : ∀ (n : Nat) es, st[n]? = some (.dK es) → ∃ es', st'[n]? = some (.dK es')
theorem Kin.app (st g : Sto) : Kin st (st ++ g) :=
  ⟨fun n es h => ⟨es, by rw [List.getElem?_append_left (List.getElem?_eq_some_iff.mp h).1]; exact h⟩, fun n es h => ⟨es, by rw [List.getElem?_append_left (List.getElem?_eq_some_iff.mp h).1]; exact h⟩⟩
theorem Kin.trans {st st1 st2 : Sto} (a : Kin st st1) (b : Kin st1 st2) : Kin st st2 :=
  ⟨fun n es h => let ⟨_, h1⟩ := a.lst n es h; b.lst n _ h1, fun n es h => let ⟨_, h1⟩ := a.dK n es h; b.dK n _ h1⟩
mutual
theorem ok_mono {st st' : Sto} (h : Kin st st') : ∀ {d : D}, ok st d → ok st' d
  | .tup ds, hd => by simp only [ok] at hd ⊢; exact oks_mono h hd
  | .loc n, hd => by
    simp only [ok] at hd ⊢
    rcases hd with ⟨es, e⟩ | ⟨es, e⟩
    · exact .inl (h.lst n es e)
    · exact .inr (h.dK n es e)
  | .non, _ => by simp [ok]
  | .bl _, _ => by simp [ok]
  | .int _, _ => by simp [ok]
  | .str _, _ => by simp [ok]
  | .fls _, _ => by simp [ok]
  | .adr _, hd => by simp [ok] at hd
  | .ty _, hd => by simp [ok] at hd
theorem oks_mono {st st' : Sto} (h : Kin st st') : ∀ {ds : List D}, oks st ds → oks st' ds
  | [], _ => by simp [oks]
  | d :: ds, hd => by
    simp only [oks] at hd ⊢
    exact ⟨ok_mono h hd.1, oks_mono h hd.2⟩
end
def numOf : D → Option Nat
  | .int i => if 0 ≤ i then some i.toNat else none
  | _ => none
def numMost (most : Nat) (d : D) : Option Nat := match numOf d with
  | some n => if n ≤ most then some n else none
  | none => none
def verM (most : Nat) : D → Option Nat
  | .tup [a, b, c] => match numMost most a, numMost most b, numMost most c with
    | some x, some y, some z => some (mkV x y z)
    | _, _, _ => none
  | _ => none
def intIs : D → Bool
  | .int _ => true
  | _ => false
def sp_is_integer : DSp := fun ds st Q _ => match ds with
  | [d] => ok st d ∧ Q (.bl (intIs d)) st
  | _ => False
def sp_is_number : DSp := fun ds st Q _ => match ds with
  | [d] => ok st d ∧ Q (.bl (numOf d).isSome) st
  | _ => False
def lenIs (i : Int) : D → Bool
  | .tup es => decide ((es.length : Int) = i)
  | _ => false
def sp_is_tuple_of : DSp := fun ds st Q _ => match ds with
  | [.int i, d] => ok st d ∧ Q (.bl (lenIs i d)) st
  | _ => False
def sp_is_version : DSp := fun ds st Q _ => match ds with
  | [d] => ok st d ∧ Q (.bl (verM 1000000 d).isSome) st
  | _ => False
section
variable {st : Sto} {Q : DK} {Z : DX → Sto → Prop} {d : D} {i : Int} {ds : List D}
@[simp] theorem e_is_integer : sp_is_integer [d] st Q Z = (ok st d ∧ Q (.bl (intIs d)) st) := rfl
@[simp] theorem e_is_number : sp_is_number [d] st Q Z = (ok st d ∧ Q (.bl (numOf d).isSome) st) := rfl
@[simp] theorem e_is_tuple_of : sp_is_tuple_of [.int i, d] st Q Z = (ok st d ∧ Q (.bl (lenIs i d)) st) := rfl
@[simp] theorem e_is_version : sp_is_version [d] st Q Z = (ok st d ∧ Q (.bl (verM 1000000 d).isSome) st) := rfl
@[simp] theorem lenIs_tup : lenIs i (.tup ds) = decide ((ds.length : Int) = i) := rfl
@[simp] theorem lenIs_non : lenIs i .non = false := rfl
@[simp] theorem lenIs_bl {b : Bool} : lenIs i (.bl b) = false := rfl
@[simp] theorem lenIs_int {b : Int} : lenIs i (.int b) = false := rfl
@[simp] theorem lenIs_str {b : Str} : lenIs i (.str b) = false := rfl
@[simp] theorem lenIs_fls : lenIs i (.fls ds) = false := rfl
@[simp] theorem lenIs_loc {n : Nat} : lenIs i (.loc n) = false := rfl
@[simp] theorem ok_non : ok st .non = True := rfl
@[simp] theorem ok_bl {b : Bool} : ok st (.bl b) = True := rfl
@[simp] theorem ok_int {b : Int} : ok st (.int b) = True := rfl
@[simp] theorem ok_str {b : Str} : ok st (.str b) = True := rfl
@[simp] theorem ok_fls : ok st (.fls ds) = True := rfl
@[simp] theorem ok_tup : ok st (.tup ds) = oks st ds := rfl
@[simp] theorem oks_nil : oks st [] = True := rfl
@[simp] theorem oks_cons : oks st (d :: ds) = (ok st d ∧ oks st ds) := rfl
end
theorem r_is_integer : Rd 1 sp_is_integer RD.t_is_integer RD.N_is_integer := by
  intro ds st Q Z hl h
  match ds, hl with
  | [d], _ =>
    obtain ⟨ht, q⟩ := h
    unfold RD.t_is_integer
    rcases ok_cases ht with rfl | ⟨b, rfl⟩ | ⟨i, rfl⟩ | ⟨s, rfl⟩ | ⟨ds, rfl, _⟩ | ⟨ds, rfl⟩ | ⟨n, es, rfl, e⟩ | ⟨n, es, rfl, e⟩ <;> simp [tySub, *, tyN] <;> exact .inl q
theorem r_is_number : Rd 1 sp_is_number (RD.t_is_number sp_is_integer) RD.N_is_number := by
  intro ds st Q Z hl h
  match ds, hl with
  | [d], _ =>
    obtain ⟨ht, q⟩ := h
    unfold RD.t_is_number
    rcases ok_cases ht with rfl | ⟨b, rfl⟩ | ⟨i, rfl⟩ | ⟨s, rfl⟩ | ⟨ds, rfl, ho⟩ | ⟨ds, rfl⟩ | ⟨n, es, rfl, e⟩ | ⟨n, es, rfl, e⟩
    case inr.inr.inl =>
      simp [intIs]
      refine .inl ?_
      have : (numOf (.int i)).isSome = decide (0 ≤ i) := by
        unfold numOf
        by_cases hi : 0 ≤ i <;> simp [hi]
      rw [this] at q
      exact q
    all_goals simp [intIs, ht]; exact .inl q
theorem r_is_tuple_of : Rd 2 sp_is_tuple_of RD.t_is_tuple_of RD.N_is_tuple_of := by
  intro ds st Q Z hl h
  match ds, hl, h with
  | [.int i, d], _, h =>
    obtain ⟨ht, q⟩ := h
    unfold RD.t_is_tuple_of
    rcases ok_cases ht with rfl | ⟨b, rfl⟩ | ⟨i, rfl⟩ | ⟨s, rfl⟩ | ⟨ds, rfl, _⟩ | ⟨ds, rfl⟩ | ⟨n, es, rfl, e⟩ | ⟨n, es, rfl, e⟩ <;> simp [tySub, *, tyN] <;> exact .inl q
theorem verM_len {most : Nat} {ds : List D} (h : ds.length ≠ 3) : verM most (.tup ds) = none := by
  match ds, h with
  | [], _ => rfl
  | [_], _ => rfl
  | [_, _], _ => rfl
  | [_, _, _], h => exact absurd rfl h
  | _ :: _ :: _ :: _ :: _, _ => rfl
theorem num_some {d : D} {n : Nat} (h : numOf d = some n) : d = .int n := by
  unfold numOf at h
  split at h
  · rename_i i
    split at h
    · cases h
      rw [Int.toNat_of_nonneg (by assumption)]
    · cases h
  · cases h
theorem num_int {n : Nat} : numOf (.int n) = some n := by
  unfold numOf
  simp
theorem most_some {d : D} {most n : Nat} (h : numMost most d = some n) : d = .int n ∧ n ≤ most := by
  unfold numMost at h
  split at h
  · rename_i m e
    split at h
    · cases h
      exact ⟨num_some e, by assumption⟩
    · cases h
  · cases h
theorem most_int {n most : Nat} (h : n ≤ most) : numMost most (.int n) = some n := by
  unfold numMost
  rw [num_int]
  simp [h]
theorem r_is_version : Rd 1 sp_is_version (RD.t_is_version sp_is_number sp_is_tuple_of) RD.N_is_version := by
  intro ds st Q Z hl h
  match ds, hl with
  | [d], _ =>
    obtain ⟨ht, q⟩ := h
    unfold RD.t_is_version
    rcases ok_cases ht with rfl | ⟨b, rfl⟩ | ⟨i, rfl⟩ | ⟨s, rfl⟩ | ⟨ds, rfl, ho⟩ | ⟨ds, rfl⟩ | ⟨n, es, rfl, e⟩ | ⟨n, es, rfl, e⟩
    case inr.inr.inr.inr.inl =>
      by_cases hl : ds.length = 3
      · match ds, hl with
        | [a, b, c], _ =>
          simp [ht, runG_nil, runG_cons, RD.b_is_version_1] at ho q ⊢
          have hv : ∀ (h : numMost 1000000 a = none ∨ numMost 1000000 b = none ∨ numMost 1000000 c = none), DL.Back st Q (.bl false) st := fun h => by
            have e : (verM 1000000 (.tup [a, b, c])).isSome = false := by
              unfold verM
              rcases h with h | h | h <;> simp only [h]
              · rfl
              · cases numMost 1000000 a <;> rfl
              · cases numMost 1000000 a <;> cases numMost 1000000 b <;> rfl
            rw [e] at q
            exact .inl q
          have big : ∀ {n : Nat}, ¬ n ≤ 1000000 → numMost 1000000 (.int n) = none := fun h => by unfold numMost; rw [num_int]; simp [h]
          have nn : ∀ {x : D}, numOf x = none → numMost 1000000 x = none := fun h => by unfold numMost; rw [h]
          refine ⟨ho.1, ?_⟩
          cases e1 : numOf a with
          | none => simp; exact hv (.inl (nn e1))
          | some x =>
            obtain rfl := num_some e1
            by_cases h1 : x ≤ 1000000
            · have h1' : ¬ (1000000 : Int) < x := by omega
              simp [h1']
              refine ⟨ho.2.1, ?_⟩
              cases e2 : numOf b with
              | none => simp; exact hv (.inr (.inl (nn e2)))
              | some y =>
                obtain rfl := num_some e2
                by_cases h2 : y ≤ 1000000
                · have h2' : ¬ (1000000 : Int) < y := by omega
                  simp [h2']
                  refine ⟨ho.2.2, ?_⟩
                  cases e3 : numOf c with
                  | none => simp; exact hv (.inr (.inr (nn e3)))
                  | some z =>
                    obtain rfl := num_some e3
                    by_cases h3 : z ≤ 1000000
                    · have h3' : ¬ (1000000 : Int) < z := by omega
                      simp [h3']
                      have e : (verM 1000000 (.tup [.int (x : Int), .int (y : Int), .int (z : Int)])).isSome = true := by
                        simp only [verM, most_int h1, most_int h2, most_int h3, Option.isSome_some]
                      rw [e] at q
                      exact .inl q
                    · have h3' : (1000000 : Int) < z := by omega
                      simp [h3']
                      exact hv (.inr (.inr (big h3)))
                · have h2' : (1000000 : Int) < y := by omega
                  simp [h2']
                  exact hv (.inr (.inl (big h2)))
            · have h1' : (1000000 : Int) < x := by omega
              simp [h1']
              exact hv (.inl (big h1))
      · have h3 : ¬ ((ds.length : Int) = 3) := by omega
        simp [ho, verM_len hl, h3] at q ⊢
        exact .inl q
    all_goals
      simp [*]
      exact .inl q
end CM
namespace CM
open PySem L2 PySem.Spec DL
open PyProof.Rows hiding St
theorem verM_some {most n : Nat} {d : D} (hm : most ≤ 1000000) (h : verM most d = some n) : d = encV n ∧ vA n ≤ most ∧ vB n ≤ most ∧ vC n ≤ most := by
  unfold verM at h
  split at h
  · rename_i a b c
    split at h
    · rename_i x y z e1 e2 e3
      cases h
      obtain ⟨rfl, h1⟩ := most_some e1
      obtain ⟨rfl, h2⟩ := most_some e2
      obtain ⟨rfl, h3⟩ := most_some e3
      unfold encV
      rw [vA_mk (by omega) (by omega), vB_mk (by omega) (by omega), vC_mk (by omega)]
      exact ⟨rfl, h1, h2, h3⟩
    · cases h
  · cases h
theorem verM_enc {most n : Nat} (h1 : vA n ≤ most) (h2 : vB n ≤ most) (h3 : vC n ≤ most) : verM most (encV n) = some n := by
  unfold verM encV
  simp only [most_int h1, most_int h2, most_int h3, mkV_eq]
/-- versions as they may stand -/
def okV (n : Nat) : Prop := vA n ≤ 1000000
theorem vB_le (n : Nat) : vB n ≤ 1000000 := by unfold vB; omega
theorem vC_le (n : Nat) : vC n ≤ 1000000 := by unfold vC; omega
theorem ver_enc {n : Nat} (h : okV n) : verM 1000000 (encV n) = some n := verM_enc h (vB_le n) (vC_le n)
theorem ver_some {n : Nat} {d : D} (h : verM 1000000 d = some n) : d = encV n ∧ okV n := let ⟨a, b, _⟩ := verM_some (Nat.le_refl _) h; ⟨a, b⟩
/-- a pair of a range -/
def endOf : D → Option (Option Nat)
  | .non => some none
  | d => match verM 1000000 d with | some x => some (some x) | none => none
def pairOf : D → Option (Nat × Option Nat)
  | .tup [a, b] => match verM 1000000 a, endOf b with
    | some l, some none => some (l, none)
    | some l, some (some h) => if l < h then some (l, some h) else none
    | _, _ => none
  | _ => none
def okP (p : Nat × Option Nat) : Prop := okV p.1 ∧ ∀ x, p.2 = some x → okV x ∧ p.1 < x
theorem endOf_enc {o : Option Nat} (h : ∀ x, o = some x → okV x) : endOf (encO o) = some o := by
  cases o with
  | none => rfl
  | some x =>
    have e := ver_enc (h x rfl)
    unfold endOf
    rw [show encO (some x) = encV x from rfl]
    split
    · rename_i e'; exact absurd e' (by simp [encV])
    · rw [e]
theorem pairOf_enc {p : Nat × Option Nat} (h : okP p) : pairOf (encP p) = some p := by
  obtain ⟨l, o⟩ := p
  unfold pairOf encP
  dsimp only
  rw [ver_enc h.1, endOf_enc fun x e => (h.2 x e).1]
  cases o with
  | none => rfl
  | some x =>
    have := (h.2 x rfl).2
    dsimp only at this ⊢
    rw [if_pos this]
/-- a pair touches the one ahead -/
def touch : Option (Option Nat) → Nat → Bool
  | none, _ => false
  | some none, _ => true
  | some (some x), l => decide (l ≤ x)
def rngL : Option (Option Nat) → List D → Option Rng
  | _, [] => some []
  | prev, d :: ds => match pairOf d with
    | none => none
    | some (l, h) => if touch prev l then none else (rngL (some h) ds).map ((l, h) :: ·)
def rngOf : D → Option Rng
  | .tup ds => rngL none ds
  | _ => none
/-- each pair is one, and ends below the next -/
def okR : Option (Option Nat) → Rng → Prop
  | _, [] => True
  | prev, (l, h) :: r => okP (l, h) ∧ touch prev l = false ∧ okR (some h) r
theorem rngL_enc : ∀ {r : Rng} {prev : Option (Option Nat)}, okR prev r → rngL prev (r.map encP) = some r
  | [], _, _ => rfl
  | (l, o) :: r, prev, h => by
    obtain ⟨h1, h2, h3⟩ := h
    rw [List.map_cons, rngL, pairOf_enc h1]
    dsimp only
    rw [h2, rngL_enc h3]
    rfl
abbrev wf (r : Rng) : Prop := okR none r
theorem rngOf_enc {r : Rng} (h : wf r) : rngOf (encR r) = some r := rngL_enc h
def sp_is_stretch : DSp := fun ds st Q _ => match ds with
  | [d] => ok st d ∧ Q (.bl (pairOf d).isSome) st
  | _ => False
def sp_reaches : DSp := fun ds st Q _ => match ds with
  | [d, e] => ∃ o l, d = encO o ∧ e = encV l ∧ Q (.bl (touch (some o) l)) st
  | _ => False
def sp_is_range : DSp := fun ds st Q _ => match ds with
  | [d] => ok st d ∧ Q (.bl (rngOf d).isSome) st
  | _ => False
def sp_whole : DSp := fun ds st Q _ => match ds with
  | [d] => ok st d ∧ Q (.bl (match d with | .int _ => true | _ => false)) st
  | _ => False
def sp_law_is_version : DSp := fun ds st Q _ => match ds with
  | [d, .int m] => ok st d ∧ ∃ most : Nat, m = most ∧ Q (.bl (verM most d).isSome) st
  | _ => False
section
variable {st : Sto} {Q : DK} {Z : DX → Sto → Prop} {d : D} {i : Int} {ds : List D} {o : Option Nat} {l : Nat}
@[simp] theorem e_is_stretch : sp_is_stretch [d] st Q Z = (ok st d ∧ Q (.bl (pairOf d).isSome) st) := rfl
@[simp] theorem e_reaches : sp_reaches [encO o, encV l] st Q Z = Q (.bl (touch (some o) l)) st := by
  apply propext
  constructor
  · rintro ⟨o', l', h1, h2, q⟩
    rw [encO_inj] at h1
    rw [encV_inj] at h2
    subst h1 h2
    exact q
  · intro q
    exact ⟨o, l, rfl, rfl, q⟩
@[simp] theorem e_is_range : sp_is_range [d] st Q Z = (ok st d ∧ Q (.bl (rngOf d).isSome) st) := rfl
@[simp] theorem e_whole : sp_whole [d] st Q Z = (ok st d ∧ Q (.bl (match d with | .int _ => true | _ => false)) st) := rfl
@[simp] theorem e_law_is_version {m : Nat} : sp_law_is_version [d, .int m] st Q Z = (ok st d ∧ Q (.bl (verM m d).isSome) st) := by
  apply propext
  constructor
  · rintro ⟨h, most, e, q⟩
    have : m = most := Int.ofNat_inj.mp e
    subst this
    exact ⟨h, q⟩
  · rintro ⟨h, q⟩
    exact ⟨h, m, rfl, q⟩
@[simp] theorem e_law_is_version1 : sp_law_is_version [d, .int 1000000] st Q Z = (ok st d ∧ Q (.bl (verM 1000000 d).isSome) st) := e_law_is_version (m := 1000000)
@[simp] theorem e_law_is_version2 : sp_law_is_version [d, .int 999999] st Q Z = (ok st d ∧ Q (.bl (verM 999999 d).isSome) st) := e_law_is_version (m := 999999)
@[simp] theorem ok_encV {n : Nat} : ok st (encV n) = True := by simp [encV]
@[simp] theorem ok_encO : ok st (encO o) = True := by cases o <;> simp [encO]
theorem ok_encPs : ∀ {r : Rng}, oks st (r.map encP)
  | [] => trivial
  | p :: r => ⟨by simp [encP], ok_encPs⟩
@[simp] theorem ok_encR {r : Rng} : ok st (encR r) = True := by simp [encR, ok_encPs]
end
end CM
namespace CM
open PySem L2 PySem.Spec DL
open PyProof.Rows hiding St
def enumFrom : Nat → List D → List D
  | _, [] => []
  | n, d :: ds => .tup [.int (n : Nat), d] :: enumFrom (n + 1) ds
theorem enumFrom_eq : ∀ (ds : List D) (n : Nat), ds.mapIdx (fun i d => D.tup [.int ((n + i : Nat) : Int), d]) = enumFrom n ds
  | [], _ => rfl
  | d :: ds, n => by
    rw [List.mapIdx_cons, enumFrom, ← enumFrom_eq ds (n + 1)]
    congr 1
    refine congrArg (fun f => List.mapIdx f ds) ?_
    funext i x
    have : n + (i + 1) = n + 1 + i := by omega
    rw [this]
theorem enumItems_eq (ds : List D) : enumItems ds = enumFrom 0 ds := by
  rw [← enumFrom_eq]
  unfold enumItems
  refine congrArg (fun f => List.mapIdx f ds) ?_
  funext i x
  rw [Nat.zero_add]
section
variable {st : Sto} {Q : DK} {Z : DX → Sto → Prop}
@[simp] theorem atI_0 {a : D} {ds : List D} : atI (a :: ds) 0 = some a := atI_nat (j := 0) rfl
@[simp] theorem atI_1 {a b : D} {ds : List D} : atI (a :: b :: ds) 1 = some b := atI_nat (j := 1) rfl
@[simp] theorem atI_2 {a b c : D} {ds : List D} : atI (a :: b :: c :: ds) 2 = some c := atI_nat (j := 2) rfl
end
end CM
namespace CM
open PySem L2 PySem.Spec DL
open PyProof.Rows hiding St
theorem getElem?_push {α : Type} {l : List α} {x : α} : (l ++ [x])[l.length]? = some x := by simp
end CM
namespace CM
def inP (p : Nat × Option Nat) (v : Nat) : Prop := p.1 ≤ v ∧ ∀ x, p.2 = some x → v < x
instance (p : Nat × Option Nat) (v : Nat) : Decidable (inP p v) := by
  unfold inP
  cases e : p.2 with
  | none => exact if h : p.1 ≤ v then .isTrue ⟨h, fun _ e => by cases e⟩ else .isFalse fun q => h q.1
  | some x => exact if h : p.1 ≤ v ∧ v < x then .isTrue ⟨h.1, fun _ e => by cases e; exact h.2⟩ else .isFalse fun q => h ⟨q.1, q.2 x rfl⟩
def Has : Rng → Nat → Prop
  | [], _ => False
  | p :: r, v => inP p v ∨ Has r v
instance decHas : ∀ (r : Rng) (v : Nat), Decidable (Has r v)
  | [], _ => .isFalse id
  | p :: r, v => match (inferInstance : Decidable (inP p v)), decHas r v with
    | .isTrue h, _ => .isTrue (.inl h)
    | .isFalse _, .isTrue h => .isTrue (.inr h)
    | .isFalse h, .isFalse k => .isFalse fun q => q.elim h k
theorem has_append : ∀ {r s : Rng} {v : Nat}, Has (r ++ s) v ↔ Has r v ∨ Has s v
  | [], s, v => by simp [Has]
  | p :: r, s, v => by simp [Has, has_append (r := r), or_assoc]
theorem has_iff {r : Rng} {v : Nat} : Has r v ↔ ∃ p ∈ r, inP p v := by
  induction r with
  | nil => simp [Has]
  | cons p r ih => simp [Has, ih]
/-- all lows are beyond what is ahead -/
theorem okR_low : ∀ {r : Rng} {prev : Option (Option Nat)}, okR prev r → ∀ p ∈ r, okP p ∧ touch prev p.1 = false
  | [], _, _, p, hp => by simp at hp
  | (l, h) :: r, prev, ⟨h1, h2, h3⟩, p, hp => by
    rcases List.mem_cons.mp hp with rfl | hp
    · exact ⟨h1, h2⟩
    · obtain ⟨q1, q2⟩ := okR_low h3 p hp
      refine ⟨q1, ?_⟩
      cases prev with
      | none => rfl
      | some o =>
        cases o with
        | none => exact h2
        | some x =>
          have hx : ¬ l ≤ x := by simpa [touch] using h2
          cases h with
          | none => simp [touch] at q2
          | some y =>
            have hy : ¬ p.1 ≤ y := by simpa [touch] using q2
            have := (h1.2 y rfl).2
            dsimp only at this
            simp [touch]
            omega
theorem okR_has {r : Rng} {x v : Nat} (h : okR (some (some x)) r) (hv : Has r v) : x < v := by
  obtain ⟨p, hp, h1, _⟩ := has_iff.mp hv
  have := (okR_low h p hp).2
  have : ¬ p.1 ≤ x := by simpa [touch] using this
  omega
theorem okR_none {r : Rng} (h : okR (some none) r) : r = [] := by
  cases r with
  | nil => rfl
  | cons p r => obtain ⟨l, o⟩ := p; have := h.2.1; simp [touch] at this
def outF : Option Nat → Rng → Rng
  | none, _ => []
  | some b, [] => [(b, none)]
  | some b, (l, h) :: r => if b < l then (b, some l) :: outF h r else outF h r
theorem outF_spec : ∀ (r : Rng) (b : Nat) (prev : Option (Option Nat)), okR prev r → okV b → ((prev = none ∧ b = 0) ∨ prev = some (some b)) →
    (∀ v, Has (outF (some b) r) v ↔ b ≤ v ∧ ¬ Has r v) ∧ ∀ q : Option (Option Nat), touch q b = false → okR q (outF (some b) r)
  | [], b, prev, _, hb, _ => by
    refine ⟨fun v => ?_, fun q hq => ⟨⟨hb, fun _ e => by cases e⟩, hq, trivial⟩⟩
    simp [outF, Has, inP]
  | (l, h) :: r, b, prev, ho, hb, hp => by
    have hbl : b ≤ l := by
      rcases hp with ⟨_, rfl⟩ | rfl
      · exact Nat.zero_le _
      · have := ho.2.1
        simp [touch] at this
        omega
    have step : (∀ v, Has (outF h r) v ↔ (∃ x, h = some x ∧ x ≤ v) ∧ ¬ Has r v) ∧ ∀ q, (∀ x, h = some x → touch q x = false) → okR q (outF h r) := by
      cases h with
      | none =>
        rw [okR_none ho.2.2]
        refine ⟨fun v => ?_, fun q _ => trivial⟩
        simp [outF, Has]
      | some x =>
        obtain ⟨s1, s2⟩ := outF_spec r x (some (some x)) ho.2.2 (ho.1.2 x rfl).1 (.inr rfl)
        exact ⟨fun v => by rw [s1]; simp, fun q hq => s2 q (hq x rfl)⟩
    have lx : ∀ x, h = some x → l < x := fun x ex => (ho.1.2 x ex).2
    have nr : ∀ v, Has r v → ∃ x, h = some x ∧ x < v := fun v hv => by
      cases h with
      | none => rw [okR_none ho.2.2] at hv; exact hv.elim
      | some x => exact ⟨x, rfl, okR_has ho.2.2 hv⟩
    have main : ∀ v, (∃ x, h = some x ∧ x ≤ v) ∧ ¬ Has r v ↔ l ≤ v ∧ ¬ Has ((l, h) :: r) v := fun v => by
      constructor
      · rintro ⟨⟨x, ex, hx⟩, hn⟩
        have := lx x ex
        refine ⟨by omega, ?_⟩
        rintro (⟨_, q⟩ | q)
        · have := q x ex
          omega
        · exact hn q
      · rintro ⟨h1, hn⟩
        refine ⟨?_, fun q => hn (.inr q)⟩
        cases h with
        | none => exact (hn (.inl ⟨h1, fun _ e => by cases e⟩)).elim
        | some x =>
          refine ⟨x, rfl, ?_⟩
          refine Nat.le_of_not_lt fun c => hn (.inl ⟨h1, fun _ e => by cases e; exact c⟩)
    unfold outF
    by_cases c : b < l
    · rw [if_pos c]
      refine ⟨fun v => ?_, fun q hq => ⟨⟨hb, fun x e => by cases e; exact ⟨ho.1.1, c⟩⟩, hq, step.2 _ fun x ex => by simp [touch]; exact lx x ex⟩⟩
      show inP (b, some l) v ∨ Has (outF h r) v ↔ _
      rw [step.1, main]
      constructor
      · rintro (⟨h1, h2⟩ | ⟨h1, h2⟩)
        · have := h2 l rfl
          refine ⟨h1, ?_⟩
          rintro (⟨q, _⟩ | q)
          · dsimp only at q; omega
          · obtain ⟨x, ex, hx⟩ := nr v q
            have := lx x ex
            omega
        · exact ⟨by omega, h2⟩
      · rintro ⟨h1, h2⟩
        by_cases hv : v < l
        · exact .inl ⟨h1, fun _ e => by cases e; exact hv⟩
        · exact .inr ⟨by omega, h2⟩
    · rw [if_neg c]
      have : b = l := by omega
      subst this
      refine ⟨fun v => ?_, fun q hq => step.2 q fun x ex => ?_⟩
      · rw [step.1, main]
      · have := lx x ex
        cases q with
        | none => rfl
        | some o =>
          cases o with
          | none => simp [touch] at hq
          | some y => simp [touch] at hq ⊢; omega
abbrev outR (r : Rng) : Rng := outF (some 0) r
theorem okV0 : okV 0 := by unfold okV vA; omega
theorem has_out {r : Rng} (h : wf r) (v : Nat) : Has (outR r) v ↔ ¬ Has r v := by
  rw [(outF_spec r 0 none h okV0 (.inl ⟨rfl, rfl⟩)).1]
  simp
theorem wf_out {r : Rng} (h : wf r) : wf (outR r) := (outF_spec r 0 none h okV0 (.inl ⟨rfl, rfl⟩)).2 none rfl
end CM
namespace CM
def laterE : Option Nat → Option Nat → Option Nat
  | some x, some y => some (max x y)
  | _, _ => none
def mF : Nat × Option Nat → Rng → Rng
  | cur, [] => [cur]
  | (b, e), (l, h) :: r => if touch (some e) l = true then mF (b, laterE e h) r else (b, e) :: mF (l, h) r
theorem mF_spec : ∀ (ps : Rng) (b : Nat) (e : Option Nat), okP (b, e) → (∀ p ∈ ps, okP p ∧ b ≤ p.1) → ps.Pairwise (fun p q => p.1 ≤ q.1) →
    (∀ v, Has (mF (b, e) ps) v ↔ Has ((b, e) :: ps) v) ∧ ∀ q : Option (Option Nat), touch q b = false → okR q (mF (b, e) ps)
  | [], b, e, ho, _, _ => ⟨fun _ => Iff.rfl, fun q hq => ⟨ho, hq, trivial⟩⟩
  | (l, h) :: r, b, e, ho, ha, hs => by
    obtain ⟨hs1, hs2⟩ := List.pairwise_cons.mp hs
    obtain ⟨hp, hl⟩ := ha (l, h) List.mem_cons_self
    dsimp only at hl
    have hr : ∀ p ∈ r, okP p ∧ l ≤ p.1 := fun p hp => ⟨(ha p (List.mem_cons_of_mem _ hp)).1, hs1 p hp⟩
    unfold mF
    by_cases ht : touch (some e) l = true
    · rw [if_pos ht]
      have hok : okP (b, laterE e h) := by
        refine ⟨ho.1, fun x ex => ?_⟩
        cases e with
        | none => simp [laterE] at ex
        | some y =>
          cases h with
          | none => simp [laterE] at ex
          | some z =>
            simp only [laterE, Option.some.injEq] at ex
            have h1 := ho.2 y rfl
            have h2 := hp.2 z rfl
            dsimp only at h1 h2
            subst ex
            rcases Nat.le_total y z with c | c
            · rw [Nat.max_eq_right c]; exact ⟨h2.1, by omega⟩
            · rw [Nat.max_eq_left c]; exact ⟨h1.1, by omega⟩
      obtain ⟨m1, m2⟩ := mF_spec r b (laterE e h) hok (fun p hp' => ⟨(hr p hp').1, Nat.le_trans hl (hr p hp').2⟩) hs2
      refine ⟨fun v => ?_, m2⟩
      rw [m1]
      show inP (b, laterE e h) v ∨ Has r v ↔ inP (b, e) v ∨ inP (l, h) v ∨ Has r v
      rw [← or_assoc]
      have : inP (b, laterE e h) v ↔ inP (b, e) v ∨ inP (l, h) v := by
        unfold inP
        cases e with
        | none =>
          simp only [laterE]
          constructor
          · intro q; exact .inl ⟨q.1, fun _ e => by cases e⟩
          · rintro (q | q)
            · exact ⟨q.1, fun _ e => by cases e⟩
            · exact ⟨Nat.le_trans hl q.1, fun _ e => by cases e⟩
        | some y =>
          have hy : l ≤ y := by simpa [touch] using ht
          have hby := (ho.2 y rfl).2
          dsimp only at hby
          cases h with
          | none =>
            simp only [laterE]
            constructor
            · intro q
              by_cases c : v < y
              · exact .inl ⟨q.1, fun _ e => by cases e; exact c⟩
              · refine .inr ⟨?_, fun _ e => by cases e⟩
                show l ≤ v
                omega
            · rintro (q | q)
              · exact ⟨q.1, fun _ e => by cases e⟩
              · exact ⟨Nat.le_trans hl q.1, fun _ e => by cases e⟩
          | some z =>
            simp only [laterE, Option.some.injEq, forall_eq']
            omega
      rw [this]
    · rw [if_neg ht]
      obtain ⟨m1, m2⟩ := mF_spec r l h hp hr hs2
      refine ⟨fun v => ?_, fun q hq => ⟨ho, hq, m2 _ (by simpa using ht)⟩⟩
      show inP (b, e) v ∨ Has (mF (l, h) r) v ↔ _
      rw [m1]
      exact Iff.rfl
def leP (p q : Nat × Option Nat) : Bool := decide (p.1 ≤ q.1)
def sortP (ps : Rng) : Rng := ps.mergeSort leP
def stF : Rng → Rng
  | [] => []
  | p :: r => mF p r
def strR (ps : Rng) : Rng := stF (sortP ps)
theorem str_spec {ps : Rng} (h : ∀ p ∈ ps, okP p) : (∀ v, Has (strR ps) v ↔ Has ps v) ∧ wf (strR ps) := by
  have hp : (sortP ps).Perm ps := List.mergeSort_perm ps leP
  have hs : (sortP ps).Pairwise (fun p q => p.1 ≤ q.1) := by
    have := List.pairwise_mergeSort (le := leP) (fun a b c h1 h2 => by simp [leP] at h1 h2 ⊢; omega) (fun a b => by simp [leP]; omega) ps
    exact this.imp fun h => by simpa [leP] using h
  have hm : ∀ v, Has (sortP ps) v ↔ Has ps v := fun v => by
    rw [has_iff, has_iff]
    constructor
    · rintro ⟨p, h1, h2⟩; exact ⟨p, hp.mem_iff.mp h1, h2⟩
    · rintro ⟨p, h1, h2⟩; exact ⟨p, hp.mem_iff.mpr h1, h2⟩
  have ho : ∀ p ∈ sortP ps, okP p := fun p h' => h p (hp.mem_iff.mp h')
  unfold strR
  generalize sortP ps = qs at *
  cases qs with
  | nil => exact ⟨hm, trivial⟩
  | cons q r =>
    obtain ⟨b, e⟩ := q
    obtain ⟨h1, h2⟩ := List.pairwise_cons.mp hs
    obtain ⟨m1, m2⟩ := mF_spec r b e (ho _ List.mem_cons_self) (fun p hp => ⟨ho p (List.mem_cons_of_mem _ hp), h1 p hp⟩) h2
    exact ⟨fun v => by rw [show stF ((b, e) :: r) = mF (b, e) r from rfl, m1, hm], m2 none rfl⟩
abbrev eitherR (r s : Rng) : Rng := strR (r ++ s)
abbrev bothR (r s : Rng) : Rng := outR (eitherR (outR r) (outR s))
theorem okP_of {r : Rng} (h : wf r) : ∀ p ∈ r, okP p := fun p hp => (okR_low h p hp).1
theorem okP_app {r s : Rng} (h : wf r) (h2 : wf s) : ∀ p ∈ r ++ s, okP p := fun p hp => (List.mem_append.mp hp).elim (okP_of h p) (okP_of h2 p)
theorem has_either {r s : Rng} (h : wf r) (h2 : wf s) (v : Nat) : Has (eitherR r s) v ↔ Has r v ∨ Has s v := by
  rw [(str_spec (okP_app h h2)).1, has_append]
theorem wf_either {r s : Rng} (h : wf r) (h2 : wf s) : wf (eitherR r s) := (str_spec (okP_app h h2)).2
theorem has_both {r s : Rng} (h : wf r) (h2 : wf s) (v : Nat) : Has (bothR r s) v ↔ Has r v ∧ Has s v := by
  rw [has_out (wf_either (wf_out h) (wf_out h2)), has_either (wf_out h) (wf_out h2), has_out h, has_out h2]
  by_cases a : Has r v <;> by_cases b : Has s v <;> simp [a, b]
theorem wf_both {r s : Rng} (h : wf r) (h2 : wf s) : wf (bothR r s) := wf_out (wf_either (wf_out h) (wf_out h2))
def endsOf : Rng → List Nat
  | [] => []
  | (l, none) :: r => l :: endsOf r
  | (l, some x) :: r => l :: x :: endsOf r
theorem ends_mem {r : Rng} {m : Nat} : m ∈ endsOf r ↔ ∃ p ∈ r, m = p.1 ∨ p.2 = some m := by
  induction r with
  | nil => simp [endsOf]
  | cons p r ih =>
    obtain ⟨l, o⟩ := p
    cases o with
    | none => simp [endsOf, ih]
    | some x =>
      simp only [endsOf, List.mem_cons, ih]
      constructor
      · rintro (rfl | rfl | ⟨q, h1, h2⟩)
        · exact ⟨_, .inl rfl, .inl rfl⟩
        · exact ⟨_, .inl rfl, .inr rfl⟩
        · exact ⟨q, .inr h1, h2⟩
      · rintro ⟨q, rfl | h1, h2⟩
        · rcases h2 with h2 | h2
          · exact .inl h2
          · cases h2; exact .inr (.inl rfl)
        · exact .inr (.inr ⟨q, h1, h2⟩)
/-- stretches from marks and flags -/
def mkF (f : Nat → Bool) : Option Nat → List Nat → Rng
  | none, [] => []
  | some b, [] => [(b, none)]
  | none, m :: r => if f m = true then mkF f (some m) r else mkF f none r
  | some b, m :: r => if f m = true then mkF f (some b) r else (b, some m) :: mkF f none r
/-- the range of marks and flags -/
abbrev mkR (f : Nat → Bool) (ms : List Nat) : Rng := mkF f none ms
/-- marks: 0 and all ends, ascending, each once -/
def IsMarks (ms : List Nat) (rs : List Rng) : Prop := ms.Pairwise (· < ·) ∧ ∀ m, m ∈ ms ↔ m = 0 ∨ ∃ r ∈ rs, m ∈ endsOf r
end CM
namespace CM
open PySem L2 PySem.Spec DL
open PyProof.Rows hiding St
theorem sizeLine_big {n : Nat} (h : n < 1048577) : n < sizeLine := by
  have : sizeLine = 16777216 := by decide
  omega
/-- a tuple told from a list made apart: all else is as it was -/
theorem back_tup {st st' : Sto} {Q : DK} {d : D} (h : ∃ g, st' = st ++ g) (hb : D.blw st.length d = true) (q : Q d st) : DL.Back st Q d st' := by
  obtain ⟨g, rfl⟩ := h
  exact .inr ⟨st, g, rfl, rfl, fun b hb => .inl hb, .inl ⟨hb, q⟩⟩
theorem blw_encV (n m : Nat) : D.blw n (encV m) = true := by simp [encV, D.blw, D.blws]
def few (r : Rng) : Prop := r.length < 1048576
def sp_later_end : DSp := fun ds st Q _ => match ds with
  | [d, e] => ∃ a b, d = encO a ∧ e = encO b ∧ Q (encO (laterE a b)) st
  | _ => False
def sp_has : DSp := fun ds st Q _ => match ds with
  | [d, e] => ∃ r v, d = encR r ∧ e = encV v ∧ Q (.bl (decide (Has r v))) st
  | _ => False
def sp_stretched : DSp := fun ds st Q _ => match ds with
  | [d] => ∃ ps, itemsD st d = some (ps.map encP) ∧ few ps ∧ (∀ p ∈ ps, okP p) ∧ Q (encR (strR ps)) st
  | _ => False
def sp_outside : DSp := fun ds st Q _ => match ds with
  | [d] => ∃ r, d = encR r ∧ wf r ∧ few r ∧ Q (encR (outR r)) st
  | _ => False
def sp_either : DSp := fun ds st Q _ => match ds with
  | [d, e] => ∃ r s, d = encR r ∧ e = encR s ∧ wf r ∧ wf s ∧ r.length + s.length < 1048576 ∧ Q (encR (eitherR r s)) st
  | _ => False
def sp_both : DSp := fun ds st Q _ => match ds with
  | [d, e] => ∃ r s, d = encR r ∧ e = encR s ∧ wf r ∧ wf s ∧ r.length + s.length < 1000000 ∧ Q (encR (bothR r s)) st
  | _ => False
section
variable {st : Sto} {Q : DK} {Z : DX → Sto → Prop} {d : D} {r s : Rng} {a b : Option Nat} {v : Nat}
theorem ex1 {p : Rng → Prop} : (∃ t, encR r = encR t ∧ p t) = p r := by
  apply propext
  constructor
  · rintro ⟨t, e, h⟩
    rw [encR_inj] at e
    subst e
    exact h
  · intro h; exact ⟨r, rfl, h⟩
@[simp] theorem e_later_end : sp_later_end [encO a, encO b] st Q Z = Q (encO (laterE a b)) st := by
  apply propext
  constructor
  · rintro ⟨a', b', h1, h2, q⟩
    rw [encO_inj] at h1 h2
    subst h1 h2
    exact q
  · intro q; exact ⟨a, b, rfl, rfl, q⟩
@[simp] theorem e_has : sp_has [encR r, encV v] st Q Z = Q (.bl (decide (Has r v))) st := by
  apply propext
  constructor
  · rintro ⟨r', v', h1, h2, q⟩
    rw [encR_inj] at h1
    rw [encV_inj] at h2
    subst h1 h2
    exact q
  · intro q; exact ⟨r, v, rfl, rfl, q⟩
@[simp] theorem e_outside : sp_outside [encR r] st Q Z = (wf r ∧ few r ∧ Q (encR (outR r)) st) := ex1
@[simp] theorem e_either : sp_either [encR r, encR s] st Q Z = (wf r ∧ wf s ∧ r.length + s.length < 1048576 ∧ Q (encR (eitherR r s)) st) := by
  apply propext
  constructor
  · rintro ⟨r', s', h1, h2, q⟩
    rw [encR_inj] at h1 h2
    subst h1 h2
    exact q
  · intro q; exact ⟨r, s, rfl, rfl, q⟩
@[simp] theorem e_both : sp_both [encR r, encR s] st Q Z = (wf r ∧ wf s ∧ r.length + s.length < 1000000 ∧ Q (encR (bothR r s)) st) := by
  apply propext
  constructor
  · rintro ⟨r', s', h1, h2, q⟩
    rw [encR_inj] at h1 h2
    subst h1 h2
    exact q
  · intro q; exact ⟨r, s, rfl, rfl, q⟩
end
end CM
namespace CM
open PySem L2 PySem.Spec DL
open PyProof.Rows hiding St
theorem length_out : ∀ (r : Rng) (b : Option Nat), (outF b r).length ≤ r.length + 1
  | [], none => by simp [outF]
  | [], some b => by simp [outF]
  | (l, h) :: r, none => by simp [outF]
  | (l, h) :: r, some b => by
    have := length_out r h
    unfold outF
    split <;> simp <;> omega
@[simp] theorem atI_m1 {xs : List D} {v : D} : atI (xs ++ [v]) (-1) = some v := atI_last xs v
@[simp] theorem ixN_m1 {n : Nat} : ixN (n + 1) (-1) = some n := by
  unfold ixN
  rw [if_neg (by decide), if_pos (by omega)]
  congr 1
  omega
end CM
namespace CM
open PySem L2 PySem.Spec DL
open PyProof.Rows hiding St
@[simp] theorem e_stretched {st : Sto} {Q : DK} {Z : DX → Sto → Prop} {d : D} : sp_stretched [d] st Q Z = ∃ ps, itemsD st d = some (ps.map encP) ∧ few ps ∧ (∀ p ∈ ps, okP p) ∧ Q (encR (strR ps)) st := rfl
def sp_least_of : DSp := fun ds st Q _ => match ds with
  | [d] => ∃ r, d = encR r ∧ Q (encO (match r with | [] => none | p :: _ => some p.1)) st
  | _ => False
end CM
namespace CM
open PySem L2 PySem.Spec DL
open PyProof.Rows hiding St
section
variable {α : Type} {l g : List α} {x y : α}
theorem s0 : (l ++ x :: g).set l.length y = l ++ y :: g := by
  rw [List.set_append_right _ _ (Nat.le_refl _)]
  simp
theorem gb {n : Nat} (h : l[n]? = some x) : (l ++ g)[n]? = some x := by
  rw [List.getElem?_append_left (List.getElem?_eq_some_iff.mp h).1]
  exact h
end
def allEnds (rs : List Rng) : List Nat := rs.flatMap endsOf
def sp_marks : DSp := fun ds st Q _ => match ds with
  | [d] => ∃ rs : List Rng, itemsD st d = some (rs.map encR) ∧ (∀ r ∈ rs, wf r) ∧ (allEnds rs).length < 63 ∧ ∀ ms, IsMarks ms rs → ms.length < 64 → Q (.loc st.length) (st ++ [.lst (ms.map encV)])
  | _ => False
theorem few_marks {ms ls : List Nat} (h1 : ms.Pairwise (· < ·)) (h2 : ∀ m ∈ ms, m ∈ ls) : ms.length ≤ ls.length := by
  induction ms generalizing ls with
  | nil => exact Nat.zero_le _
  | cons m ms ih =>
    obtain ⟨p1, p2⟩ := List.pairwise_cons.mp h1
    have hm := h2 m List.mem_cons_self
    have := ih (ls := ls.erase m) p2 fun k hk => by
      rw [List.mem_erase_of_ne (by have := p1 k hk; omega)]
      exact h2 k (List.mem_cons_of_mem _ hk)
    rw [List.length_erase_of_mem hm] at this
    have := List.length_pos_of_mem hm
    simp only [List.length_cons]
    omega
end CM
namespace CM
open PySem L2 PySem.Spec DL
open PyProof.Rows hiding St
/-- ints from a number on -/
def upFrom : Nat → Nat → List D
  | _, 0 => []
  | i, n + 1 => .int (i : Nat) :: upFrom (i + 1) n
theorem upFrom_eq : ∀ (n i : Nat), (List.range n).map (fun (j : Nat) => D.int ((i : Int) + (j : Int))) = upFrom i n
  | 0, _ => rfl
  | n + 1, i => by
    rw [List.range_succ_eq_map, List.map_cons, List.map_map, upFrom, ← upFrom_eq n (i + 1)]
    congr 1
    refine congrArg (fun f => List.map f (List.range n)) ?_
    funext j
    simp only [Function.comp]
    congr 1
    omega
theorem rngItems_up (n : Nat) : rngItems 0 n = upFrom 0 n := by
  rw [← upFrom_eq]
  unfold rngItems
  rfl
def sp_made : DSp := fun ds st Q _ => match ds with
  | [.loc a, .loc b] => ∃ (ms : List Nat) (f : Nat → Bool), st[a]? = some (.lst (ms.map encV)) ∧ st[b]? = some (.lst ((ms.map f).map .bl)) ∧ ms.length < 1000 ∧ Q (encR (mkR f ms)) st
  | _ => False
end CM
namespace CM
open PySem L2 PySem.Spec DL
open PyProof.Rows hiding St
/-- a comprehension whose turns leave the store be -/
theorem runC_pure {te : DTE} {ρ : Env'} {Q : DK} {G : Sto → Prop} {i : Nat} {α : Type} {inj : α → D} {out : α → D} {st : Sto} (hG : G st)
    (ht : ∀ x (QT : DK), QT (out x) st → te (ρ.set i (some (inj x))) st QT Z0) : ∀ (xs : List α) (acc : List D), acc.length + xs.length < 1048576 →
    Q (.loc st.length) (st ++ [.lst (acc ++ xs.map out)]) → runC (gN i) dYes te ρ Q G (xs.map inj) acc st
  | [], acc, _, q => by
    rw [List.map_nil, runC_nil]
    exact ⟨hG, by simpa using q⟩
  | x :: xs, acc, hl, q => by
    rw [List.map_cons, runC_cons]
    refine ⟨hG, ?_⟩
    simp only [List.length_cons] at hl
    simp
    refine ht x _ ⟨sizeLine_big (by omega), ?_⟩
    exact runC_pure hG ht xs (acc ++ [out x]) (by simp; omega) (by simpa using q)
def sp_law_both : DSp := fun ds st Q _ => match ds with
  | [d, e] => ∃ r s, d = encR r ∧ e = encR s ∧ wf r ∧ wf s ∧ (allEnds [r, s]).length < 63 ∧ Q (encR (bothR r s)) st
  | _ => False
def sp_law_either : DSp := fun ds st Q _ => match ds with
  | [d, e] => ∃ r s, d = encR r ∧ e = encR s ∧ wf r ∧ wf s ∧ (allEnds [r, s]).length < 63 ∧ Q (encR (eitherR r s)) st
  | _ => False
def sp_law_outside : DSp := fun ds st Q _ => match ds with
  | [d] => ∃ r, d = encR r ∧ wf r ∧ (allEnds [r]).length < 63 ∧ Q (encR (outR r)) st
  | _ => False
@[simp] theorem e_marks {st : Sto} {Q : DK} {Z : DX → Sto → Prop} {d : D} : sp_marks [d] st Q Z = ∃ rs : List Rng, itemsD st d = some (rs.map encR) ∧ (∀ r ∈ rs, wf r) ∧ (allEnds rs).length < 63 ∧ ∀ ms, IsMarks ms rs → ms.length < 64 → Q (.loc st.length) (st ++ [.lst (ms.map encV)]) := rfl
@[simp] theorem e_made {st : Sto} {Q : DK} {Z : DX → Sto → Prop} {a b : Nat} : sp_made [.loc a, .loc b] st Q Z = ∃ (ms : List Nat) (f : Nat → Bool), st[a]? = some (.lst (ms.map encV)) ∧ st[b]? = some (.lst ((ms.map f).map .bl)) ∧ ms.length < 1000 ∧ Q (encR (mkR f ms)) st := rfl
end CM
namespace CM
open PySem L2 PySem.Spec DL
open PyProof.Rows hiding St
def handOb (c : Nat) (a b d e : Int) : Ob := .lst [.loc c, .int a, .int b, .int d, .int e]
structure Hd (st : Sto) (h c : Nat) : Prop where
  ex : ∃ (cells : List Int) (a b d e : Int), st[h]? = some (handOb c a b d e) ∧ st[c]? = some (.lst (cells.map .int)) ∧ 0 ≤ a
theorem Hd.ne {st : Sto} {h c : Nat} (H : Hd st h c) : c ≠ h := by
  obtain ⟨cells, a, b, d, e, h1, h2, _⟩ := H.ex
  intro z
  rw [z, h1] at h2
  have h2 := Option.some.inj h2
  simp only [handOb, Ob.lst.injEq] at h2
  cases cells with
  | nil => simp at h2
  | cons x xs => simp at h2
theorem Hd.hlt {st : Sto} {h c : Nat} (H : Hd st h c) : h < st.length := by
  obtain ⟨cells, a, b, d, e, h1, h2, _⟩ := H.ex
  exact (List.getElem?_eq_some_iff.mp h1).1
theorem Hd.clt {st : Sto} {h c : Nat} (H : Hd st h c) : c < st.length := by
  obtain ⟨cells, a, b, d, e, h1, h2, _⟩ := H.ex
  exact (List.getElem?_eq_some_iff.mp h2).1
theorem Hd.app {st : Sto} {h c : Nat} (H : Hd st h c) (g : Sto) : Hd (st ++ g) h c := by
  obtain ⟨cells, a, b, d, e, h1, h2, h3⟩ := H.ex
  exact ⟨cells, a, b, d, e, gb h1, gb h2, h3⟩
/-- only the hand is another -/
structure Sm (h : Nat) (st st' : Sto) : Prop where
  len : st'.length = st.length
  same : ∀ n, n ≠ h → st'[n]? = st[n]?
theorem Sm.refl (h : Nat) (st : Sto) : Sm h st st := ⟨rfl, fun _ _ => rfl⟩
theorem Sm.trans {h : Nat} {st st1 st2 : Sto} (a : Sm h st st1) (b : Sm h st1 st2) : Sm h st st2 := ⟨b.len.trans a.len, fun n hn => (b.same n hn).trans (a.same n hn)⟩
theorem Sm.set {h : Nat} {st : Sto} {o : Ob} : Sm h st (st.set h o) := ⟨by simp, fun n hn => by rw [List.getElem?_set_ne (Ne.symm hn)]⟩
/-- grown: the old things but the hand stand -/
structure Gr (h c : Nat) (st st' : Sto) : Prop where
  len : st.length ≤ st'.length
  same : ∀ n, n < st.length → n ≠ h → st'[n]? = st[n]?
  hd : Hd st' h c
  hd0 : Hd st h c
theorem Gr.hlt {h c : Nat} {st st' : Sto} (g : Gr h c st st') : h < st.length := g.hd0.hlt
theorem Gr.clt {h c : Nat} {st st' : Sto} (g : Gr h c st st') : c < st.length := g.hd0.clt
theorem Gr.refl {h c : Nat} {st : Sto} (H : Hd st h c) : Gr h c st st := ⟨Nat.le_refl _, fun _ _ _ => rfl, H, H⟩
theorem Gr.trans {h c : Nat} {st st1 st2 : Sto} (a : Gr h c st st1) (b : Gr h c st1 st2) : Gr h c st st2 :=
  ⟨Nat.le_trans a.len b.len, fun n hn hne => (b.same n (Nat.lt_of_lt_of_le hn a.len) hne).trans (a.same n hn hne), b.hd, a.hd0⟩
theorem Gr.sm {h c : Nat} {st st1 st2 : Sto} (g : Gr h c st st1) (s : Sm h st1 st2) (H : Hd st2 h c) : Gr h c st st2 :=
  ⟨by rw [s.len]; exact g.len, fun n hn hne => (s.same n hne).trans (g.same n hn hne), H, g.hd0⟩
theorem Gr.app {h c : Nat} {st st1 : Sto} (g : Gr h c st st1) (x : Sto) : Gr h c st (st1 ++ x) :=
  ⟨by simp; have := g.len; omega, fun n hn hne => by rw [List.getElem?_append_left (by have := g.len; omega)]; exact g.same n hn hne, g.hd.app x, g.hd0⟩
theorem Gr.get {h c n : Nat} {st st1 : Sto} {b : Ob} (g : Gr h c st st1) (hb : st[n]? = some b) (hne : n ≠ h) : st1[n]? = some b := by
  rw [g.same n (List.getElem?_eq_some_iff.mp hb).1 hne]; exact hb
theorem Gr.kin {h c : Nat} {st st1 : Sto} (g : Gr h c st st1) : Kin st st1 :=
  ⟨fun n es e => by
    by_cases hn : n = h
    · subst hn
      obtain ⟨cells, a, b, d, e', h1, _, _⟩ := g.hd.ex
      exact ⟨_, h1⟩
    · exact ⟨es, g.get e hn⟩, fun n es e => by
    by_cases hn : n = h
    · subst hn
      obtain ⟨cells, a, b, d, e', h1, _, _⟩ := g.hd0.ex
      rw [h1] at e
      cases e
    · exact ⟨es, g.get e hn⟩⟩
def sp_draw : DSp := fun ds st Q _ => match ds with
  | [.loc h, .int m] => ∃ c, Hd st h c ∧ 0 < m ∧ m < 1000000000 ∧ ∀ r st', 0 ≤ r → r < m → Hd st' h c → Sm h st st' → Q (.int r) st'
  | _ => False
def sp_some : DSp := fun ds st Q _ => match ds with
  | [.loc h, t] => ∃ c es, Hd st h c ∧ itemsD st t = some es ∧ t ≠ .loc h ∧ 0 < es.length ∧ es.length < 1000000000 ∧ ∀ e st', e ∈ es → Hd st' h c → Sm h st st' → Q e st'
  | _ => False
def sp_flag : DSp := fun ds st Q _ => match ds with
  | [.bl a, .bl b] => Q (.bl (decide (a = b))) st
  | _ => False
theorem big_mul1 {i j : Int} (h : -(2 ^ 64) < j ∧ j < 2 ^ 64) : CMul i j := .inr h
theorem big_mul2 {i j : Int} (h : -(2 ^ 64) < i ∧ i < 2 ^ 64) : CMul i j := .inl h
@[simp] theorem atI_3 {a b c d : D} {ds : List D} : atI (a :: b :: c :: d :: ds) 3 = some d := atI_nat (j := 3) rfl
@[simp] theorem atI_4 {a b c d e : D} {ds : List D} : atI (a :: b :: c :: d :: e :: ds) 4 = some e := atI_nat (j := 4) rfl
theorem mod_in {x m : Int} (h : 0 < m) : 0 ≤ x % m ∧ x % m < m := ⟨Int.emod_nonneg _ (by omega), Int.emod_lt_of_pos _ h⟩
end CM
namespace CM
open PySem L2 PySem.Spec DL
open PyProof.Rows hiding St
@[simp] theorem e_draw {st : Sto} {Q : DK} {Z : DX → Sto → Prop} {h : Nat} {m : Int} : sp_draw [.loc h, .int m] st Q Z = ∃ c, Hd st h c ∧ 0 < m ∧ m < 1000000000 ∧ ∀ r st', 0 ≤ r → r < m → Hd st' h c → Sm h st st' → Q (.int r) st' := rfl
@[simp] theorem e_some {st : Sto} {Q : DK} {Z : DX → Sto → Prop} {h : Nat} {t : D} : sp_some [.loc h, t] st Q Z = ∃ c es, Hd st h c ∧ itemsD st t = some es ∧ t ≠ .loc h ∧ 0 < es.length ∧ es.length < 1000000000 ∧ ∀ e st', e ∈ es → Hd st' h c → Sm h st st' → Q e st' := rfl
@[simp] theorem e_flag {st : Sto} {Q : DK} {Z : DX → Sto → Prop} {a b : Bool} : sp_flag [.bl a, .bl b] st Q Z = Q (.bl (decide (a = b))) st := rfl
theorem at_mem {es : List D} {r : Int} (h0 : 0 ≤ r) (h1 : r < es.length) : ∃ e ∈ es, atI es r = some e := by
  have hl : r.toNat < es.length := by omega
  refine ⟨es[r.toNat], List.getElem_mem hl, ?_⟩
  have := atI_nat (List.getElem?_eq_getElem hl)
  rwa [Int.toNat_of_nonneg h0] at this
theorem cut63 {ns : List Int} (h : ns.length ≤ 63) : cutL (ns.map D.int) none (some 63) = ns.map .int := by
  have e : _root_.HT.sIx (ns.map D.int).length (ns.map D.int).length (some 63) = (ns.map D.int).length := by
    show (if (63 : Int) < 0 then ((63 : Int) + ((ns.map D.int).length : Int)).toNat else min (63 : Int).toNat (ns.map D.int).length) = _
    rw [if_neg (by decide)]
    simp
    omega
  unfold cutL
  rw [e, show _root_.HT.sIx (ns.map D.int).length 0 none = 0 from rfl]
  simp
  exact List.take_of_length_le (by simp)
end CM
namespace CM
open PySem L2 PySem.Spec DL
open PyProof.Rows hiding St
def smallV (n : Nat) : Prop := vA n ≤ 999999 ∧ vB n ≤ 999999 ∧ vC n ≤ 999999
theorem smallV.ok {n : Nat} (h : smallV n) : okV n := by unfold okV; have := h.1; omega
def sp_lversion : DSp := fun ds st Q _ => match ds with
  | [.loc h] => ∃ c, Hd st h c ∧ ∀ n st', smallV n → Hd st' h c → Sm h st st' → Q (encV n) st'
  | _ => False
@[simp] theorem e_lversion {st : Sto} {Q : DK} {Z : DX → Sto → Prop} {h : Nat} : sp_lversion [.loc h] st Q Z = ∃ c, Hd st h c ∧ ∀ n st', smallV n → Hd st' h c → Sm h st st' → Q (encV n) st' := rfl
/-- all ends are small -/
def smE (r : Rng) : Prop := ∀ e ∈ endsOf r, smallV e
def sp_lrange : DSp := fun ds st Q _ => match ds with
  | [.loc h] => ∃ c, Hd st h c ∧ ∀ r st', wf r → smE r → r.length ≤ 6 → Hd st' h c → Sm h st st' → Q (encR r) st'
  | _ => False
@[simp] theorem e_lrange {st : Sto} {Q : DK} {Z : DX → Sto → Prop} {h : Nat} : sp_lrange [.loc h] st Q Z = ∃ c, Hd st h c ∧ ∀ r st', wf r → smE r → r.length ≤ 6 → Hd st' h c → Sm h st st' → Q (encR r) st' := rfl
end CM
namespace CM
open PySem L2 PySem.Spec DL
open PyProof.Rows hiding St
def sp_deep : DSp := fun ds st Q _ => match ds with
  | [.int _] => ∀ d st', (∃ g, st' = st ++ g) → ok st' d → (∀ r, d ≠ encR r) → Q d st'
  | _ => False
@[simp] theorem e_deep {st : Sto} {Q : DK} {Z : DX → Sto → Prop} {k : Int} : sp_deep [.int k] st Q Z = ∀ d st', (∃ g, st' = st ++ g) → ok st' d → (∀ r, d ≠ encR r) → Q d st' := rfl
def sp_oddv : DSp := fun ds st Q _ => match ds with
  | [.loc h, v] => ∃ c n, Hd st h c ∧ v = encV n ∧ ∀ d st', Gr h c st st' → ok st' d → Q d st'
  | _ => False
def DrE (h c : Nat) (st0 : Sto) (ρ : Env') (p : D → Prop) (te : DTE) : Prop :=
  ∀ st1 Q Z, Gr h c st0 st1 → (∀ d st2, Gr h c st1 st2 → ok st2 d → p d → Q d st2) → te ρ st1 Q Z
def DrL (h c : Nat) (st0 : Sto) (ρ : Env') (p : D → Prop) (n : Nat) (t : DTA) : Prop :=
  ∀ st1 (QA : List D → Sto → Prop) Z, Gr h c st0 st1 → (∀ ds st2, Gr h c st1 st2 → oks st2 ds → (∀ d ∈ ds, p d) → ds.length = n → QA ds st2) → t ρ st1 QA Z
section
variable {h c : Nat} {st0 : Sto} {ρ : Env'} {p : D → Prop} {n : Nat} {te : DTE} {t : DTA}
theorem DrL.nil : DrL h c st0 ρ p 0 dNil := fun st1 QA Z g q => q [] st1 (Gr.refl g.hd) trivial (by simp) rfl
theorem DrL.cons (a : DrE h c st0 ρ p te) (b : DrL h c st0 ρ p n t) : DrL h c st0 ρ p (n + 1) (dCons te t) := fun st1 QA Z g q => by
  rw [s_cons]
  refine a st1 _ Z g fun d st2 g2 h2 hp => b st2 _ Z (g.trans g2) fun ds st3 g3 h3 hps hl => q (d :: ds) st3 (g2.trans g3) ⟨ok_mono g3.kin h2, h3⟩ (fun e he => ?_) (by simp [hl])
  rcases List.mem_cons.mp he with rfl | he
  · exact hp
  · exact hps e he
theorem DrE.tup (a : DrL h c st0 ρ (fun _ => True) n t) (hn : n < 1000) (hp : ∀ ds, ds.length = n → p (.tup ds)) : DrE h c st0 ρ p (dTup t) := fun st1 Q Z g q => by
  rw [s_dtup]
  exact a st1 _ Z g fun ds st2 g2 h2 _ hl => ⟨by have := sizeLine_big (n := ds.length) (by omega); omega, q _ st2 g2 (by simpa [ok] using h2) (hp ds hl)⟩
theorem DrE.lst (a : DrL h c st0 ρ (fun _ => True) n t) (hn : n < 1000) (hp : ∀ m, p (.loc m)) : DrE h c st0 ρ p (dLst t) := fun st1 Q Z g q => by
  rw [s_dlst]
  exact a st1 _ Z g fun ds st2 g2 h2 _ hl => ⟨by have := sizeLine_big (n := ds.length) (by omega); omega, q _ _ (g2.app _) (.inl ⟨ds, by simp⟩) (hp _)⟩
theorem DrE.dict (hp : ∀ m, p (.loc m)) : DrE h c st0 ρ p dDict0 := fun st1 Q Z g q => by
  rw [s_dict0]
  exact q _ _ ((Gr.refl g.hd).app _) (.inr ⟨[], by simp⟩) (hp _)
end
end CM
namespace CM
open PySem L2 PySem.Spec DL
open PyProof.Rows hiding St
def leafD : D → Prop
  | .non => True
  | .bl _ => True
  | .int _ => True
  | .str _ => True
  | _ => False
def sam (st : Sto) : Nat → D → D → Prop
  | 0, t, d => t = d ∧ leafD d
  | n + 1, t, d => (t = d ∧ leafD d) ∨ ∃ ts ds, ((t = .tup ts ∧ d = .tup ds) ∨ ∃ a b, t = .loc a ∧ d = .loc b ∧ st[a]? = some (.lst ts) ∧ st[b]? = some (.lst ds)) ∧
      (ts.length = ds.length ∧ ∀ (k : Nat) x y, ts[k]? = some x → ds[k]? = some y → sam st n x y) ∧ ts.length < 1048576
def sp_is (n : Nat) : DSp := fun ds st Q _ => match ds with
  | [t, d] => sam st n t d ∧ Q (.bl true) st
  | _ => False
@[simp] theorem e_is {n : Nat} {st : Sto} {Q : DK} {Z : DX → Sto → Prop} {t d : D} : sp_is n [t, d] st Q Z = (sam st n t d ∧ Q (.bl true) st) := rfl
/-- a comprehension whose turns leave the store be, each item being one that was there -/
theorem runC_mem {te : DTE} {ρ : Env'} {Q : DK} {G : Sto → Prop} {i : Nat} {α : Type} {inj : α → D} {out : α → D} {st : Sto} (hG : G st) : ∀ (xs : List α) (acc : List D),
    (∀ x ∈ xs, ∀ (QT : DK), QT (out x) st → te (ρ.set i (some (inj x))) st QT Z0) → acc.length + xs.length < 1048576 →
    Q (.loc st.length) (st ++ [.lst (acc ++ xs.map out)]) → runC (gN i) dYes te ρ Q G (xs.map inj) acc st
  | [], acc, _, _, q => by
    rw [List.map_nil, runC_nil]
    exact ⟨hG, by simpa using q⟩
  | x :: xs, acc, ht, hl, q => by
    rw [List.map_cons, runC_cons]
    refine ⟨hG, ?_⟩
    simp only [List.length_cons] at hl
    simp
    refine ht x List.mem_cons_self _ ⟨sizeLine_big (by omega), ?_⟩
    exact runC_mem hG xs (acc ++ [out x]) (fun y hy => ht y (List.mem_cons_of_mem _ hy)) (by simp; omega) (by simpa using q)
end CM
namespace CM
open PySem L2 PySem.Spec DL
open PyProof.Rows hiding St
@[simp] theorem e_law_both {st : Sto} {Q : DK} {Z : DX → Sto → Prop} {r s : Rng} : sp_law_both [encR r, encR s] st Q Z = (wf r ∧ wf s ∧ (allEnds [r, s]).length < 63 ∧ Q (encR (bothR r s)) st) := by
  apply propext
  constructor
  · rintro ⟨r', s', h1, h2, q⟩
    obtain rfl := encR_inj.mp h1
    obtain rfl := encR_inj.mp h2
    exact q
  · exact fun q => ⟨r, s, rfl, rfl, q⟩
@[simp] theorem e_law_either {st : Sto} {Q : DK} {Z : DX → Sto → Prop} {r s : Rng} : sp_law_either [encR r, encR s] st Q Z = (wf r ∧ wf s ∧ (allEnds [r, s]).length < 63 ∧ Q (encR (eitherR r s)) st) := by
  apply propext
  constructor
  · rintro ⟨r', s', h1, h2, q⟩
    obtain rfl := encR_inj.mp h1
    obtain rfl := encR_inj.mp h2
    exact q
  · exact fun q => ⟨r, s, rfl, rfl, q⟩
@[simp] theorem e_law_outside {st : Sto} {Q : DK} {Z : DX → Sto → Prop} {r : Rng} : sp_law_outside [encR r] st Q Z = (wf r ∧ (allEnds [r]).length < 63 ∧ Q (encR (outR r)) st) := by
  apply propext
  constructor
  · rintro ⟨r', h1, q⟩
    obtain rfl := encR_inj.mp h1
    exact q
  · exact fun q => ⟨r, rfl, q⟩
@[simp] theorem e_least_of {st : Sto} {Q : DK} {Z : DX → Sto → Prop} {r : Rng} : sp_least_of [encR r] st Q Z = Q (encO (match r with | [] => none | p :: _ => some p.1)) st := ex1
theorem ends_len : ∀ (r : Rng), (endsOf r).length ≤ 2 * r.length
  | [] => by simp [endsOf]
  | (l, none) :: r => by have := ends_len r; simp [endsOf]; omega
  | (l, some x) :: r => by have := ends_len r; simp [endsOf]; omega
theorem out_len (r : Rng) : (outR r).length ≤ r.length + 1 := length_out r (some 0)
theorem ends_mF : ∀ (ps : Rng) (b : Nat) (e : Option Nat) (m : Nat), m ∈ endsOf (mF (b, e) ps) → m = b ∨ e = some m ∨ m ∈ endsOf ps
  | [], b, e, m, h => by
    simp only [mF] at h
    cases e with
    | none => simp [endsOf] at h; exact .inl h
    | some x =>
      simp [endsOf] at h
      rcases h with rfl | rfl
      · exact .inl rfl
      · exact .inr (.inl rfl)
  | (l, o) :: r, b, e, m, h => by
    have sub : m ∈ endsOf r → m ∈ endsOf ((l, o) :: r) := fun hx => by clear h; cases o <;> simp [endsOf, hx]
    have sub2 : o = some m → m ∈ endsOf ((l, o) :: r) := fun hx => by clear h; subst hx; simp [endsOf]
    have sub3 : m = l → m ∈ endsOf ((l, o) :: r) := fun hx => by clear h; cases o <;> simp [endsOf, hx]
    unfold mF at h
    split at h
    · rcases ends_mF r b (laterE e o) m h with h | h | h
      · exact .inl h
      · cases e with
        | none => cases h
        | some x =>
          cases o with
          | none => cases h
          | some y =>
            simp only [laterE, Option.some.injEq] at h
            by_cases hx : x ≤ y
            · rw [Nat.max_eq_right hx] at h
              exact .inr (.inr (sub2 (by rw [h])))
            · rw [Nat.max_eq_left (by omega)] at h
              exact .inr (.inl (by rw [h]))
      · exact .inr (.inr (sub h))
    · have h' : m = b ∨ e = some m ∨ m ∈ endsOf (mF (l, o) r) := by
        cases e with
        | none =>
          simp [endsOf] at h
          rcases h with h | h
          · exact .inl h
          · exact .inr (.inr h)
        | some x =>
          simp [endsOf] at h
          rcases h with h | h | h
          · exact .inl h
          · exact .inr (.inl (by rw [h]))
          · exact .inr (.inr h)
      rcases h' with h | h | h
      · exact .inl h
      · exact .inr (.inl h)
      · rcases ends_mF r l o m h with h | h | h
        · exact .inr (.inr (sub3 h))
        · exact .inr (.inr (sub2 h))
        · exact .inr (.inr (sub h))
theorem ends_str {ps : Rng} {m : Nat} (h : m ∈ endsOf (strR ps)) : m ∈ endsOf ps := by
  have hp : (sortP ps).Perm ps := List.mergeSort_perm ps leP
  have key : ∀ qs : Rng, m ∈ endsOf (stF qs) → m ∈ endsOf qs := fun qs h => by
    cases qs with
    | nil => exact h
    | cons q r =>
      obtain ⟨b, e⟩ := q
      rcases ends_mF r b e m h with hx | hx | hx
      · clear h; cases e <;> simp [endsOf, hx]
      · clear h; subst hx; simp [endsOf]
      · clear h; cases e <;> simp [endsOf, hx]
  have := key _ h
  rw [ends_mem] at this ⊢
  obtain ⟨p, h1, h2⟩ := this
  exact ⟨p, hp.mem_iff.mp h1, h2⟩
@[simp] theorem len_encR {r : Rng} {st : Sto} {Q : DK} : dLen [encR r] st Q = Q (.int r.length) st := by simp [encR]
@[simp] theorem ix0_encR {p : Nat × Option Nat} {r : Rng} {st : Sto} {Q : DK} : dIx (encR (p :: r)) (.int 0) st Q = Q (encP p) st := by simp [encR]
@[simp] theorem ix0_encP {p : Nat × Option Nat} {st : Sto} {Q : DK} : dIx (encP p) (.int 0) st Q = Q (encV p.1) st := by simp [encP]
@[simp] theorem max_int {i j : Int} {st : Sto} {Q : DK} : dMax2 [.int i, .int j] st Q ↔ Q (.int (if i < j then j else i)) st := by
  have hq : (if PySem.W.dataLt (.int i) (.int j) = true then D.int j else D.int i) = .int (if i < j then j else i) := by
    rw [PySem.W.dataLt_int]
    by_cases h : i < j
    · rw [if_pos h, if_pos (decide_eq_true h)]
    · rw [if_neg h, if_neg (by simpa using h)]
  constructor
  · rintro ⟨k, d, e, h1, h2, _, _, _, _, _, q⟩
    rw [show pdF st k (.int i) = some (.int i) by cases k <;> rfl] at h1
    rw [show pdF st k (.int j) = some (.int j) by cases k <;> rfl] at h2
    cases h1
    cases h2
    rwa [hq] at q
  · intro q
    refine ⟨0, .int i, .int j, rfl, rfl, ⟨by rfl, by rfl, by rfl, by rfl⟩, by simp, by simp, by simp [PyData.depth], by simp [PyData.depth], ?_⟩
    rw [hq]; exact q
end CM
namespace CM
open PySem L2 PySem.Spec DL
open PyProof.Rows hiding St
open TL (tl pre spl numL joinL)
theorem uni_dig : ∀ c, c < 128 → Unicode.isDigit c = (decide (48 ≤ c) && decide (c ≤ 57)) := by decide +kernel
/-- the number that signs tell -/
def okNum (l : List Nat) : Option Nat := if l ≠ [] ∧ l.length ≤ 7 ∧ (∀ c ∈ l, 48 ≤ c ∧ c ≤ 57) ∧ (l = [48] ∨ l.head? ≠ some 48) then some (NumText.digitsVal l) else none
theorem ascii_iff {x : Str} : Txt.isascii x = true ↔ ∀ c ∈ tl x, c < 128 := by
  unfold Txt.isascii tl
  rw [Array.all_eq_true']
  simp [Array.mem_toList_iff]
theorem dig_iff {x : Str} (h : Txt.isascii x = true) : Txt.isdigit x = true ↔ tl x ≠ [] ∧ ∀ c ∈ tl x, 48 ≤ c ∧ c ≤ 57 := by
  have ha := ascii_iff.mp h
  unfold Txt.isdigit
  rw [Bool.and_eq_true, Array.all_eq_true']
  have e1 : (decide (x.length > 0) = true) ↔ tl x ≠ [] := by
    rw [TL.len_tl]
    cases tl x <;> simp
  rw [e1]
  refine and_congr_right fun _ => ?_
  constructor
  · intro q c hc
    have := q c (Array.mem_toList_iff.mp hc)
    rw [uni_dig c (ha c hc)] at this
    simpa using this
  · intro q c hc
    have hc' : c ∈ tl x := Array.mem_toList_iff.mpr hc
    rw [uni_dig c (ha c hc')]
    simpa using q c hc'
theorem starts_pre (x y : Str) : Txt.startswith x y = pre (tl y) (tl x) := by
  have e : Txt.startswith x y = (decide (0 + y.length ≤ x.length) && Builtin.Str.subAt x y 0) := rfl
  rw [e, PySem.StrLaws.subAt_eq, List.drop_zero]
  have hx := TL.len_tl x
  have hy := TL.len_tl y
  show _ = ((tl x).take (tl y).length == tl y)
  rw [show x.cps.toList = tl x from rfl, show y.cps.toList = tl y from rfl, ← hy]
  by_cases h : 0 + y.length ≤ x.length
  · simp [h]
    intro _
    omega
  · have : ((tl x).take y.length == tl y) = false := by
      rw [beq_eq_false_iff_ne]
      intro z
      have := congrArg List.length z
      rw [List.length_take, ← hy, ← hx] at this
      omega
    rw [this, Bool.and_false]
def encN : Option Nat → D
  | none => .non
  | some n => .int n
/-- the number that signs tell, at most so many of them -/
def okNumD (m : Nat) (l : List Nat) : Option Nat := if l ≠ [] ∧ l.length ≤ m ∧ (∀ c ∈ l, 48 ≤ c ∧ c ≤ 57) ∧ (l = [48] ∨ l.head? ≠ some 48) then some (NumText.digitsVal l) else none
def sp_told_number : DSp := fun ds st Q _ => match ds with
  | [.int m, .str t] => 0 ≤ m ∧ m ≤ 100 ∧ t.length ≤ 1000000 ∧ Q (encN (okNumD m.toNat (tl t))) st
  | _ => False
@[simp] theorem e_told_numberD {st : Sto} {Q : DK} {Z : DX → Sto → Prop} {m : Int} {t : Str} : sp_told_number [.int m, .str t] st Q Z = (0 ≤ m ∧ m ≤ 100 ∧ t.length ≤ 1000000 ∧ Q (encN (okNumD m.toNat (tl t))) st) := rfl
theorem str_eq {x y : Str} : x = y ↔ tl x = tl y := ⟨fun h => by rw [h], TL.ext_tl⟩
theorem tl_0 : tl ("0" : Str) = [48] := by rw [show ("0" : Str) = Str.ofString "0" from rfl, TL.tl_ofString]; rfl
theorem r_told_number : Rd 2 sp_told_number RD.t_told_number RD.N_told_number := by
  intro ds st Q Z hl h
  match ds, hl, h with
  | [.int m, .str t], _, hx =>
    obtain ⟨hm0, hm1, ht, q⟩ := hx
    obtain ⟨M, rfl⟩ : ∃ M : Nat, m = M := ⟨m.toNat, by omega⟩
    rw [Int.toNat_natCast] at q
    have hsz : t.length ≤ sizeLine := by have := sizeLine_big (n := t.length) (by omega); omega
    have hlen := TL.len_tl t
    unfold RD.t_told_number
    have none' : okNumD M (tl t) = none → DL.Back st Q .non st := fun e => by rw [e] at q; exact .inl q
    by_cases h7 : (M : Int) < t.length
    · simp [hsz, h7]
      exact none' (by unfold okNumD; rw [if_neg]; rintro ⟨_, h, _⟩; omega)
    cases ha : Txt.isascii t with
    | false =>
      simp [hsz, h7, ha]
      refine none' ?_
      unfold okNumD
      rw [if_neg]
      rintro ⟨_, _, h, _⟩
      rw [ascii_iff.mpr fun c hc => by have := h c hc; omega] at ha
      cases ha
    | true =>
      have hd := dig_iff ha
      cases he : Txt.isdigit t with
      | false =>
        simp [hsz, h7, ha, he]
        refine none' ?_
        unfold okNumD
        rw [if_neg]
        rintro ⟨h1, _, h2, _⟩
        rw [hd.mpr ⟨h1, h2⟩] at he
        cases he
      | true =>
        obtain ⟨h1, h2⟩ := hd.mp he
        have hs0 : Txt.startswith t "0" = decide ((tl t).head? = some 48) := by
          rw [starts_pre, tl_0]
          cases e : tl t with
          | nil => exact absurd e h1
          | cons c r =>
            show ([c] == [48]) = _
            by_cases hc : c = 48 <;> simp [hc]
        have h0 : (t = "0") ↔ tl t = [48] := by rw [str_eq, tl_0]
        simp [hsz, h7, ha, he, hs0]
        by_cases hz : tl t = [48] ∨ (tl t).head? ≠ some 48
        · have e1 : ¬ (¬ t = "0" ∧ (tl t).head? = some 48) := fun ⟨a, b⟩ => hz.elim (fun z => a (h0.mpr z)) fun z => z b
          have e2 : okNumD M (tl t) = some (NumText.digitsVal (tl t)) := by
            unfold okNumD
            rw [if_pos ⟨h1, by omega, h2, hz⟩]
          have e3 : intText? t = some ((NumText.digitsVal (tl t) : Nat) : Int) := intText_digits (x := t) h2 h1 (by omega)
          rw [e2] at q
          by_cases a : t = "0"
          · simp [a]
            subst a
            exact ⟨_, e3, by omega, .inl q⟩
          · have b : ¬ (tl t).head? = some 48 := fun z => e1 ⟨a, z⟩
            simp [a, b]
            exact ⟨_, e3, by omega, .inl q⟩
        · have a : ¬ t = "0" := fun z => hz (.inl (h0.mp z))
          have b : (tl t).head? = some 48 := Decidable.not_not.mp fun z => hz (.inr z)
          simp [a, b]
          exact none' (by unfold okNumD; rw [if_neg]; rintro ⟨_, _, _, h⟩; exact hz h)
end CM
namespace CM
open PySem L2 PySem.Spec DL
open PyProof.Rows hiding St
open TL (tl pre spl numL joinL)
theorem joinL_len (S : List Nat) : ∀ {ps : List (List Nat)} {p : List Nat}, p ∈ ps → p.length ≤ (joinL S ps).length
  | [q], p, h => by rw [List.mem_singleton.mp h]; exact Nat.le_refl _
  | q :: q2 :: r, p, h => by
    show _ ≤ (q ++ (S ++ joinL S (q2 :: r))).length
    rw [List.length_append, List.length_append]
    rcases List.mem_cons.mp h with rfl | h
    · omega
    · have := joinL_len S h
      omega
theorem split_len {x y w : Str} (h : w ∈ Txt.split x y) : w.length ≤ x.length := by
  have e := PySem.StrLaws.join_split x y
  have e2 := TL.tl_join y (Txt.split x y)
  rw [e] at e2
  have := joinL_len (tl y) (List.mem_map_of_mem (f := tl) h)
  rw [← e2, ← TL.len_tl, ← TL.len_tl] at this
  exact this
theorem tl_dot : tl ("." : Str) = [46] := by rw [show ("." : Str) = Str.ofString "." from rfl, TL.tl_ofString]; rfl
theorem cps256 {y : Str} (h : ∀ c ∈ tl y, c < 256) : y.cps.all (· < 256) = true := by
  rw [Array.all_eq_true']
  intro c hc
  simpa using h c (Array.mem_toList_iff.mpr hc)
theorem split_tl {x y : Str} {S : List Nat} (e : tl y = S) (hS : S ≠ []) (h : ∀ c ∈ S, c < 256) : (Txt.split x y).map tl = spl S 0 [] (tl x) := by
  subst e
  exact TL.split_spl x y hS (TL.kind_ok (cps256 h))
/-- the version that signs tell -/
def verText (l : List Nat) : Option Nat := verM 1000000 (.tup ((spl [46] 0 [] l).map fun w => encN (okNum w)))
def sp_told_version : DSp := fun ds st Q _ => match ds with
  | [.str t] => t.length ≤ 1000000 ∧ Q (encO (verText (tl t))) st
  | _ => False
@[simp] theorem e_told_version {st : Sto} {Q : DK} {Z : DX → Sto → Prop} {t : Str} : sp_told_version [.str t] st Q Z = (t.length ≤ 1000000 ∧ Q (encO (verText (tl t))) st) := rfl
theorem ok_encN {st : Sto} {o : Option Nat} : ok st (encN o) := by cases o <;> simp [encN]
theorem sz1m {n : Nat} (h : n ≤ 1000000) : n + 2 ≤ sizeLine := by have := sizeLine_big (n := n + 2) (by omega); omega
theorem r_told_version : Rd 1 sp_told_version (RD.t_told_version sp_is_version sp_told_number) RD.N_told_version := by
  intro ds st Q Z hl h
  match ds, hl, h with
  | [.str t], _, hx =>
    obtain ⟨ht, q⟩ := hx
    unfold RD.t_told_version
    rw [s_seq]
    generalize hR : dSeq _ _ _ = R
    have hcut := split_tl (x := t) tl_dot (by simp) (by simp)
    simp
    refine ⟨by decide, sz1m ht, ?_⟩
    have hk : (st ++ [Ob.lst ((Txt.split t ".").map D.str)])[st.length]? = some (.lst ((Txt.split t ".").map D.str)) := getElem?_push
    have hcount : (Txt.split t ".").length ≤ t.length + 2 := PyProof.Rows.split_le t "."
    refine runC_mem (inj := D.str) (out := fun w => encN (okNum (tl w))) hk (Txt.split t ".") [] (fun w hw QT qt => ?_) (by simp; omega) ?_
    · unfold RD.e_told_version_1
      simp
      exact ⟨by have := split_len hw; omega, qt⟩
    have e : (Txt.split t ".").map (fun w => encN (okNum (tl w))) = (spl [46] 0 [] (tl t)).map fun w => encN (okNum w) := by rw [← hcut, List.map_map]; rfl
    simp [e]
    generalize hw : (spl [46] 0 [] (tl t)).map (fun w => encN (okNum w)) = ws
    have hok : ∀ st', ok st' (.tup ws) := fun st' => by
      simp only [ok, oks_iff]
      intro d hd
      rw [← hw] at hd
      obtain ⟨w, _, rfl⟩ := List.mem_map.mp hd
      exact ok_encN
    have hv : verText (tl t) = verM 1000000 (.tup ws) := by unfold verText; rw [hw]
    rw [hv] at q
    subst hR
    simp
    refine ⟨by simpa using hok _, ?_⟩
    cases ev : verM 1000000 (.tup ws) with
    | none =>
      rw [ev] at q
      simp
      exact back_tup ⟨_, rfl⟩ rfl q
    | some n =>
      obtain ⟨e1, _⟩ := ver_some ev
      rw [ev] at q
      rw [e1]
      simp
      exact back_tup ⟨_, rfl⟩ (blw_encV _ _) q
end CM
namespace CM
open PySem L2 PySem.Spec DL
open PyProof.Rows hiding St
open TL (tl pre spl numL joinL)
def t3 (a b c : Int) : D := .tup [.int a, .int b, .int c]
def behD (n : Nat) : D := t3 (vA n) (vB n) ((vC n : Int) + 1)
def carD (n : Nat) : D := if 0 < vA n then t3 ((vA n : Int) + 1) 0 0 else if 0 < vB n then t3 0 ((vB n : Int) + 1) 0 else t3 0 0 ((vC n : Int) + 1)
def sp_behind : DSp := fun ds st Q _ => match ds with
  | [d] => ∃ n, d = encV n ∧ Q (behD n) st
  | _ => False
def sp_caret : DSp := fun ds st Q _ => match ds with
  | [d] => ∃ n, d = encV n ∧ Q (carD n) st
  | _ => False
section
variable {st : Sto} {Q : DK} {Z : DX → Sto → Prop} {n : Nat}
theorem exV {p : Nat → Prop} : (∃ m, encV n = encV m ∧ p m) = p n := by
  apply propext
  constructor
  · rintro ⟨m, e, h⟩
    rw [encV_inj] at e
    subst e
    exact h
  · intro h; exact ⟨n, rfl, h⟩
@[simp] theorem e_behind : sp_behind [encV n] st Q Z = Q (behD n) st := exV
@[simp] theorem e_caret : sp_caret [encV n] st Q Z = Q (carD n) st := exV
end
def signs : List Str := ["<=", ">=", "<", ">", "!", "^", "~"]
def signOf (l : List Nat) : Str := (signs.find? fun s => pre (tl s) l).getD ""
def sp_sign_of : DSp := fun ds st Q _ => match ds with
  | [.str t] => Q (.str (signOf (tl t))) st
  | _ => False
@[simp] theorem e_sign_of {st : Sto} {Q : DK} {Z : DX → Sto → Prop} {t : Str} : sp_sign_of [.str t] st Q Z = Q (.str (signOf (tl t))) st := rfl
def rawOut (n : Nat) (d : D) : D := .tup ((if 0 < n then [.tup [encV 0, encV n]] else []) ++ [.tup [d, .non]])
def rosD (s : Str) (n : Nat) : D :=
  if s = "<" then encR (outR [(n, none)]) else
  if s = "<=" then .tup [.tup [encV 0, behD n]] else
  if s = ">" then .tup [.tup [behD n, .non]] else
  if s = ">=" then encR [(n, none)] else
  if s = "!" then rawOut n (behD n) else
  if s = "^" then .tup [.tup [encV n, carD n]] else
  if s = "~" then .tup [.tup [encV n, t3 (vA n) ((vB n : Int) + 1) 0]] else
  .tup [.tup [encV n, behD n]]
def sp_ros : DSp := fun ds st Q _ => match ds with
  | [.str s, d] => ∃ n, d = encV n ∧ okV n ∧ Q (rosD s n) st
  | _ => False
@[simp] theorem e_ros {st : Sto} {Q : DK} {Z : DX → Sto → Prop} {s : Str} {n : Nat} : sp_ros [.str s, encV n] st Q Z = (okV n ∧ Q (rosD s n) st) := exV
theorem szk (n : Nat) (h : n < 1000) : n ≤ sizeLine := Nat.le_of_lt (sizeLine_big (by omega))
end CM
namespace CM
open PySem L2 PySem.Spec DL
open PyProof.Rows hiding St
open TL (tl pre spl numL joinL)
def encOR : Option Rng → D
  | none => .non
  | some r => encR r
def everyR : Rng := [(0, none)]
def partOf (l : List Nat) : Option Rng := if l = [42] then some everyR else match verText (l.drop (tl (signOf l)).length) with
  | none => none
  | some n => rngOf (rosD (signOf l) n)
def sp_told_part : DSp := fun ds st Q _ => match ds with
  | [.str t] => t.length ≤ 1000000 ∧ Q (encOR (partOf (tl t))) st
  | _ => False
@[simp] theorem e_told_part {st : Sto} {Q : DK} {Z : DX → Sto → Prop} {t : Str} : sp_told_part [.str t] st Q Z = (t.length ≤ 1000000 ∧ Q (encOR (partOf (tl t))) st) := rfl
theorem tl_cut (t : Str) (k : Nat) : tl (cutS t (some (k : Int)) none) = (tl t).drop k := by
  have hl := TL.len_tl t
  show ((tl t).drop (_root_.HT.sIx t.length 0 (some (k : Int)))).take (_root_.HT.sIx t.length t.length none - _root_.HT.sIx t.length 0 (some (k : Int))) = _
  have e1 : _root_.HT.sIx t.length t.length none = t.length := rfl
  have e2 : _root_.HT.sIx t.length 0 (some (k : Int)) = min k t.length := by
    show (if ((k : Int)) < 0 then ((k : Int) + (t.length : Int)).toNat else min (k : Int).toNat t.length) = _
    rw [if_neg (by omega)]
    rfl
  rw [e1, e2]
  by_cases h : k ≤ t.length
  · rw [Nat.min_eq_left h]
    rw [List.take_of_length_le (by rw [List.length_drop]; omega)]
  · rw [Nat.min_eq_right (by omega), Nat.sub_self, List.take_zero, List.drop_eq_nil_of_le (by omega)]
end CM
namespace CM
open PySem L2 PySem.Spec DL
open PyProof.Rows hiding St
open TL (tl pre spl numL joinL)
/-- what the law tells of a word and a version -/
def lawPart (w : Str) (n : Nat) : Option Rng := if w = "*" then some everyR else rngOf (rosD w n)
def words : List Str := ["*", "<=", ">=", "<", ">", "!", "^", "~", ""]
def sp_law_part : DSp := fun ds st Q _ => match ds with
  | [.str w, d] => ∃ n, d = encV n ∧ w ∈ words ∧ okV n ∧ Q (encOR (lawPart w n)) st
  | _ => False
@[simp] theorem e_law_part {st : Sto} {Q : DK} {Z : DX → Sto → Prop} {w : Str} {n : Nat} : sp_law_part [.str w, encV n] st Q Z = (w ∈ words ∧ okV n ∧ Q (encOR (lawPart w n)) st) := exV
theorem beh_lt {n : Nat} (h : vC n < 1000000) : behD n = encV (n + 1) := by
  unfold behD t3 encV vA vB vC at *
  have h1 : (n + 1) / 1000001 / 1000001 = n / 1000001 / 1000001 := by omega
  have h2 : (n + 1) / 1000001 % 1000001 = n / 1000001 % 1000001 := by omega
  have h3 : (n + 1) % 1000001 = n % 1000001 + 1 := by omega
  rw [h1, h2, h3]
  rfl
theorem okV_lt {n : Nat} (h : okV n) (hc : vC n < 1000000) : okV (n + 1) := by
  unfold okV vA vC at *
  omega
theorem rngOf_one {d : D} : rngOf (.tup [d]) = (pairOf d).map fun p => [p] := by
  show rngL none [d] = _
  unfold rngL
  cases e : pairOf d with
  | none => rfl
  | some p =>
    obtain ⟨l, h⟩ := p
    rfl
theorem pair_enc {n : Nat} {d : D} (h : okV n) : pairOf (.tup [encV n, d]) = match endOf d with | some none => some (n, none) | some (some x) => if n < x then some (n, some x) else none | none => none := by
  unfold pairOf
  dsimp only
  rw [ver_enc h]
  cases endOf d with
  | none => rfl
  | some o => cases o <;> rfl
theorem end_t3 (a b c : Int) : endOf (t3 a b c) = (verM 1000000 (t3 a b c)).map some := by
  unfold endOf t3
  dsimp only
  cases verM 1000000 (.tup [.int a, .int b, .int c]) <;> rfl
theorem wf1 {n : Nat} (h : okV n) : wf [(n, none)] := ⟨⟨h, fun _ e => by cases e⟩, rfl, trivial⟩
theorem wf2 {n x : Nat} (h : okV n) (hx : okV x) (hl : n < x) : wf [(n, some x)] := ⟨⟨h, fun _ e => by cases e; exact ⟨hx, hl⟩⟩, rfl, trivial⟩
theorem ros_some {n : Nat} (hn : okV n) (hc : vC n < 1000000) : rngOf (rosD "" n) = some [(n, some (n + 1))] ∧ rngOf (rosD "!" n) = some (outR [(n, some (n + 1))]) ∧ rngOf (rosD "<=" n) = some [(0, some (n + 1))] ∧ rngOf (rosD ">" n) = some [(n + 1, none)] := by
  have hb := beh_lt hc
  have h1 := okV_lt hn hc
  refine ⟨?_, ?_, ?_, ?_⟩
  · show rngOf (.tup [.tup [encV n, behD n]]) = _
    rw [hb]
    exact rngOf_enc (r := [(n, some (n + 1))]) (wf2 hn h1 (by omega))
  · show rngOf (rawOut n (behD n)) = _
    rw [hb]
    have : rawOut n (encV (n + 1)) = encR (outR [(n, some (n + 1))]) := by
      unfold rawOut outR
      by_cases h0 : 0 < n
      · simp [h0, outF, encR, encP, encO]
      · simp [h0, outF, encR, encP, encO]
    rw [this]
    exact rngOf_enc (wf_out (wf2 hn h1 (by omega)))
  · show rngOf (.tup [.tup [encV 0, behD n]]) = _
    rw [hb]
    exact rngOf_enc (r := [(0, some (n + 1))]) (wf2 okV0 h1 (by omega))
  · show rngOf (.tup [.tup [behD n, .non]]) = _
    rw [hb]
    exact rngOf_enc (r := [(n + 1, none)]) (wf1 h1)
/-- where the end is a triple told -/
theorem ros_end {n a b c : Nat} (hn : okV n) (hlt : a ≤ 1000000 → b ≤ 1000000 → c ≤ 1000000 → n < mkV a b c) :
    rngOf (.tup [.tup [encV n, t3 a b c]]) = if a ≤ 1000000 ∧ b ≤ 1000000 ∧ c ≤ 1000000 then some [(n, some (mkV a b c))] else none := by
  have big : ∀ {k : Nat}, ¬ k ≤ 1000000 → numMost 1000000 (.int k) = none := fun h => by unfold numMost; rw [num_int]; simp [h]
  rw [rngOf_one, pair_enc hn, end_t3]
  by_cases ha : a ≤ 1000000
  · by_cases hb : b ≤ 1000000
    · by_cases hc : c ≤ 1000000
      · rw [if_pos ⟨ha, hb, hc⟩]
        have : verM 1000000 (t3 a b c) = some (mkV a b c) := by simp only [verM, t3, most_int ha, most_int hb, most_int hc]
        rw [this]
        simp [hlt ha hb hc]
      · rw [if_neg fun h => hc h.2.2]
        have : verM 1000000 (t3 a b c) = none := by simp only [verM, t3, most_int ha, most_int hb, big hc]
        rw [this]
        rfl
    · rw [if_neg fun h => hb h.2.1]
      have : verM 1000000 (t3 a b c) = none := by simp only [verM, t3, most_int ha, big hb]
      rw [this]
      rfl
  · rw [if_neg fun h => ha h.1]
    have : verM 1000000 (t3 a b c) = none := by simp only [verM, t3, big ha]
    rw [this]
    rfl
end CM
namespace CM
open PySem L2 PySem.Spec DL
open PyProof.Rows hiding St
open TL (tl pre spl numL joinL)
theorem k12 : (">=" : Str) ≠ "*" := by decide
theorem k13 : ("<" : Str) ≠ "*" := by decide
theorem car_nat (n : Nat) : ∃ a b c : Nat, carD n = t3 a b c ∧ (okV n → a ≤ 1000000 → b ≤ 1000000 → c ≤ 1000000 → n < mkV a b c) ∧
    (a, b, c) = (if 0 < vA n then (vA n + 1, 0, 0) else if 0 < vB n then (0, vB n + 1, 0) else (0, 0, vC n + 1)) := by
  have hm := mkV_eq n
  have hb := vB_le n
  have hc := vC_le n
  unfold carD
  by_cases h1 : 0 < vA n
  · rw [if_pos h1, if_pos h1]
    exact ⟨_, _, _, by rfl, fun _ _ _ _ => by unfold mkV at *; omega, rfl⟩
  · rw [if_neg h1, if_neg h1]
    by_cases h2 : 0 < vB n
    · rw [if_pos h2, if_pos h2]
      exact ⟨_, _, _, by rfl, fun _ _ _ _ => by unfold mkV at *; omega, rfl⟩
    · rw [if_neg h2, if_neg h2]
      exact ⟨_, _, _, by rfl, fun _ _ _ _ => by unfold mkV at *; omega, rfl⟩
theorem k1c : ("^" : Str) ≠ "*" := by decide
theorem k1t : ("~" : Str) ≠ "*" := by decide
end CM
namespace CM
open PySem L2 PySem.Spec DL
open PyProof.Rows hiding St
open TL (tl pre spl numL joinL)
theorem kxb : ("!" : Str) ≠ "*" := by decide
theorem kxl : ("<=" : Str) ≠ "*" := by decide
theorem kxg : (">" : Str) ≠ "*" := by decide
theorem kxe : ("" : Str) ≠ "*" := by decide
theorem gtup_V {i j k n : Nat} {ρ : Env'} {st : Sto} {Qn : Env' → Sto → Prop} (q : Qn (((ρ.set i (some (.int (vA n)))).set j (some (.int (vB n)))).set k (some (.int (vC n)))) st) : gTup' 3 (gCons' (gN i) (gCons' (gN j) (gCons' (gN k) gNil'))) (encV n) ρ st Qn := ⟨rfl, q⟩
end CM
namespace CM
open PySem L2 PySem.Spec DL
open PyProof.Rows hiding St
open TL (tl pre spl numL joinL)
def SL (l : List Nat) : Str := ⟨l.toArray⟩
def vL (n : Nat) : List Nat := numL (vA n) ++ ([46] ++ (numL (vB n) ++ ([46] ++ numL (vC n))))
def vText (n : Nat) : Str := SL (vL n)
theorem num7 {n : Nat} (h : n ≤ 1000001) : (numL n).length ≤ 7 := TL.numL_len (by decide) (by omega)
theorem log_small {n : Nat} (h : n ≤ 1000001) : (n : Int).natAbs.log2 < 1920 := by
  rw [Int.natAbs_natCast]
  by_cases h0 : n = 0
  · rw [h0]; decide
  · refine (Nat.log2_lt h0).mpr (Nat.lt_of_le_of_lt h ?_)
    exact Nat.lt_of_lt_of_le (by decide : 1000001 < 2 ^ 20) (Nat.pow_le_pow_right (by decide) (by decide))
theorem vL_len {n : Nat} (h : okV n) : (vL n).length ≤ 23 := by
  have h1 := num7 (n := vA n) (by have : vA n ≤ 1000000 := h; omega)
  have h2 := num7 (n := vB n) (by have := vB_le n; omega)
  have h3 := num7 (n := vC n) (by have := vC_le n; omega)
  unfold vL
  simp only [List.length_append, List.length_singleton]
  omega
theorem vText_len {n : Nat} (h : okV n) : (vText n).length ≤ 23 := by rw [TL.len_tl]; exact vL_len h
def sp_vtext : DSp := fun ds st Q _ => match ds with
  | [d] => ∃ n, d = encV n ∧ okV n ∧ Q (.str (vText n)) st
  | _ => False
@[simp] theorem e_vtext {st : Sto} {Q : DK} {Z : DX → Sto → Prop} {n : Nat} : sp_vtext [encV n] st Q Z = (okV n ∧ Q (.str (vText n)) st) := exV
theorem str_len_le {x : Str} {k : Nat} (h : (tl x).length ≤ k) (hk : k < 1000) : x.length ≤ sizeLine := by rw [TL.len_tl]; exact szk _ (by omega)
theorem tl_empty : tl Str.empty = [] := rfl
theorem r_version_text : Rd 1 sp_vtext RD.t_version_text RD.N_version_text := by
  intro ds st Q Z hl h
  match ds, hl, h with
  | [d], _, hx =>
    obtain ⟨n, rfl, hn, q⟩ := hx
    unfold RD.t_version_text
    have h1 := num7 (n := vA n) (by have : vA n ≤ 1000000 := hn; omega)
    have h2 := num7 (n := vB n) (by have := vB_le n; omega)
    have h3 := num7 (n := vC n) (by have := vC_le n; omega)
    have a1 := log_small (n := vA n) (by have : vA n ≤ 1000000 := hn; omega)
    have a2 := log_small (n := vB n) (by have := vB_le n; omega)
    have a3 := log_small (n := vC n) (by have := vC_le n; omega)
    rw [s_seq, s_asg]
    refine gtup_V ?_
    dsimp only
    rw [s_ret, s_joined]
    have key : ∀ x : Str, tl x = vL n → DL.Back st Q (.str x) st := fun x e => by
      have : x = vText n := TL.ext_tl e
      rw [this]
      exact .inl q
    simp only [s_js, s_fmt, s_var, s_start, s_c, List.map_cons, List.map_nil, List.cons_append, List.nil_append, List.set, List.getElem?_cons_succ, List.getElem?_cons_zero]
    refine ⟨a1, str_len_le (k := 7) ?_ (by decide), str_len_le (k := 8) ?_ (by decide), a2, str_len_le (k := 15) ?_ (by decide), str_len_le (k := 16) ?_ (by decide), a3, str_len_le (k := 23) ?_ (by decide), key _ ?_⟩
    all_goals simp only [TL.tl_append, TL.tl_num, tl_dot, tl_empty, List.nil_append, List.length_append, List.length_singleton]
    · omega
    · omega
    · omega
    · omega
    · omega
    · unfold vL
      simp only [List.append_assoc]
end CM
namespace CM
open PySem L2 PySem.Spec DL
open PyProof.Rows hiding St
open TL (tl pre spl numL joinL)
def pText (w : Str) (n : Nat) : Str := if w = "*" then "*" else w ++ vText n
def sp_ptext : DSp := fun ds st Q _ => match ds with
  | [.str w, d] => ∃ n, d = encV n ∧ okV n ∧ w ∈ words ∧ Q (.str (pText w n)) st
  | _ => False
@[simp] theorem e_ptext {st : Sto} {Q : DK} {Z : DX → Sto → Prop} {w : Str} {n : Nat} : sp_ptext [.str w, encV n] st Q Z = (okV n ∧ w ∈ words ∧ Q (.str (pText w n)) st) := exV
def sText (l : Nat) : Option Nat → Str
  | none => (">=" : Str) ++ vText l
  | some h => if vC l < 1000000 ∧ h = l + 1 then vText l else (">=" : Str) ++ vText l ++ (", <" : Str) ++ vText h
theorem app_len (a b : Str) : (a ++ b).length = a.length + b.length := by
  rw [TL.len_tl, TL.tl_append, List.length_append, ← TL.len_tl, ← TL.len_tl]
def sp_stext : DSp := fun ds st Q _ => match ds with
  | [d, e] => ∃ l o, d = encV l ∧ e = encO o ∧ okP (l, o) ∧ Q (.str (sText l o)) st
  | _ => False
@[simp] theorem e_stext {st : Sto} {Q : DK} {Z : DX → Sto → Prop} {l : Nat} {o : Option Nat} : sp_stext [encV l, encO o] st Q Z = (okP (l, o) ∧ Q (.str (sText l o)) st) := by
  apply propext
  constructor
  · rintro ⟨l', o', h1, h2, q⟩
    rw [encV_inj] at h1
    rw [encO_inj] at h2
    subst h1 h2
    exact q
  · exact fun q => ⟨l, o, rfl, rfl, q⟩
theorem emp_app (x : Str) : Str.empty ++ x = x := TL.ext_tl (by rw [TL.tl_append, tl_empty, List.nil_append])
end CM
namespace CM
open PySem L2 PySem.Spec DL
open PyProof.Rows hiding St
@[simp] theorem e_oddv {st : Sto} {Q : DK} {Z : DX → Sto → Prop} {h : Nat} {v : D} : sp_oddv [.loc h, v] st Q Z = ∃ c n, Hd st h c ∧ v = encV n ∧ ∀ d st', Gr h c st st' → ok st' d → Q d st' := rfl
def sp_oddr : DSp := fun ds st Q _ => match ds with
  | [.loc h, r] => ∃ c rng, Hd st h c ∧ r = encR rng ∧ wf rng ∧ rng.length ≤ 6 ∧ ∀ d st', Gr h c st st' → ok st' d → (∀ s, d = encR s → s.length ≤ 13) → Q d st'
  | _ => False
@[simp] theorem e_oddr {st : Sto} {Q : DK} {Z : DX → Sto → Prop} {h : Nat} {r : D} : sp_oddr [.loc h, r] st Q Z = ∃ c rng, Hd st h c ∧ r = encR rng ∧ wf rng ∧ rng.length ≤ 6 ∧ ∀ d st', Gr h c st st' → ok st' d → (∀ s, d = encR s → s.length ≤ 13) → Q d st' := rfl
section
variable {h c : Nat} {st0 : Sto} {ρ : Env'} {p : D → Prop} {n : Nat} {te : DTE} {t : DTA}
theorem DrE.some {i j m : Nat} {fs : List D} (hi : ρ[i]? = some (some (.loc h))) (hj : ρ[j]? = some (some (.loc m))) (hm : st0[m]? = some (.lst fs)) (hne : m ≠ h) (ho : oks st0 fs) (hl : 0 < fs.length ∧ fs.length < 1000000000) (hp : ∀ e ∈ fs, p e) : DrE h c st0 ρ p (dCall 2 sp_some (dCons (dVar i) (dCons (dVar j) dNil))) := fun st1 Q Z g q => by
  have k := g.get hm hne
  simp [hi, hj]
  refine ⟨c, g.hd, fs, by simp [k], fun e => hne e, hl.1, hl.2, fun e st' he H s => ?_⟩
  have g2 := (Gr.refl g.hd).sm s H
  exact q e st' g2 (ok_mono (g.trans g2).kin (oks_iff.mp ho e he)) (hp e he)
end
end CM
namespace CM
open PySem L2 PySem.Spec DL
open PyProof.Rows hiding St
def sp_near : DSp := fun ds st Q _ => match ds with
  | [.loc h, .loc m] => ∃ c rs, Hd st h c ∧ m ≠ h ∧ st[m]? = some (.lst (rs.map encR)) ∧ (∀ r ∈ rs, wf r ∧ smE r) ∧ (allEnds rs).length < 63 ∧ ∀ n st', Hd st' h c → Sm h st st' → Q (encV n) st'
  | _ => False
@[simp] theorem e_near {st : Sto} {Q : DK} {Z : DX → Sto → Prop} {h m : Nat} : sp_near [.loc h, .loc m] st Q Z = ∃ c rs, Hd st h c ∧ m ≠ h ∧ st[m]? = some (.lst (rs.map encR)) ∧ (∀ r ∈ rs, wf r ∧ smE r) ∧ (allEnds rs).length < 63 ∧ ∀ n st', Hd st' h c → Sm h st st' → Q (encV n) st' := rfl
end CM
namespace CM
open PySem L2 PySem.Spec DL
open PyProof.Rows hiding St
open TL (tl pre spl numL joinL)
def sTx (p : Nat × Option Nat) : Str := sText p.1 p.2
def rText (r : Rng) : Str := if r = everyR then "*" else if r = [] then "<0.0.0" else Txt.join " | " (r.map sTx)
def sp_rtext : DSp := fun ds st Q _ => match ds with
  | [d] => ∃ r, d = encR r ∧ wf r ∧ r.length ≤ 1000 ∧ Q (.str (rText r)) st
  | _ => False
@[simp] theorem e_rtext {st : Sto} {Q : DK} {Z : DX → Sto → Prop} {r : Rng} : sp_rtext [encR r] st Q Z = (wf r ∧ r.length ≤ 1000 ∧ Q (.str (rText r)) st) := ex1
theorem sum_le {α : Type} (f : α → Nat) (k : Nat) : ∀ xs : List α, (∀ x ∈ xs, f x ≤ k) → (xs.map f).sum ≤ xs.length * k
  | [], _ => by simp
  | x :: xs, h => by
    have h1 := h x List.mem_cons_self
    have h2 := sum_le f k xs fun y hy => h y (List.mem_cons_of_mem _ hy)
    simp only [List.map_cons, List.sum_cons, List.length_cons, Nat.succ_mul]
    omega
def sp_words : DSp := fun ds st Q _ => match ds with
  | [.loc h] => ∃ c, Hd st h c ∧ ∀ w n st', w ∈ words → smallV n → Hd st' h c → Sm h st st' → Q (.tup [.str w, encV n]) st'
  | _ => False
@[simp] theorem e_words {st : Sto} {Q : DK} {Z : DX → Sto → Prop} {h : Nat} : sp_words [.loc h] st Q Z = ∃ c, Hd st h c ∧ ∀ w n st', w ∈ words → smallV n → Hd st' h c → Sm h st st' → Q (.tup [.str w, encV n]) st' := rfl
end CM
namespace CM
open PySem L2 PySem.Spec DL
open PyProof.Rows hiding St
open TL (tl pre spl numL joinL)
theorem numL_head : ∀ n : Nat, 0 < n → (numL n).head? ≠ some 48 := by
  intro n
  induction n using Nat.strongRecOn with
  | _ n ih =>
    intro h
    by_cases h10 : n < 10
    · rw [TL.numL_lt h10]
      simp
      omega
    · rw [TL.numL_step (by omega)]
      have := ih (n / 10) (by omega) (by omega)
      have hne := TL.numL_ne (n / 10)
      cases e : numL (n / 10) with
      | nil => exact absurd e hne
      | cons c r =>
        rw [e] at this
        simpa using this
theorem okNum_num {n : Nat} (h : n ≤ 1000000) : okNum (numL n) = some n := by
  unfold okNum
  rw [if_pos, TL.numL_val]
  refine ⟨TL.numL_ne n, num7 (by omega), TL.numL_digits n, ?_⟩
  by_cases h0 : n = 0
  · left
    rw [h0, TL.numL_lt (by decide)]
  · exact .inr (numL_head n (by omega))
theorem dot_free (n : Nat) : 46 ∉ numL n := TL.numL_free (by omega)
theorem spl_vL (n : Nat) : spl [46] 0 [] (vL n) = [numL (vA n), numL (vB n), numL (vC n)] :=
  TL.spl_join (s := 46) (S := []) (parts := [numL (vA n), numL (vB n), numL (vC n)]) (by simp) fun p hp => by
    simp only [List.mem_cons, List.not_mem_nil, or_false] at hp
    rcases hp with rfl | rfl | rfl
    · exact dot_free _
    · exact dot_free _
    · exact dot_free _
theorem verText_vL {n : Nat} (h : okV n) : verText (vL n) = some n := by
  unfold verText
  rw [spl_vL]
  simp only [List.map_cons, List.map_nil, okNum_num (n := vA n) h, okNum_num (vB_le n), okNum_num (vC_le n), encN]
  exact ver_enc h
end CM
namespace CM
open PySem L2 PySem.Spec DL
open PyProof.Rows hiding St
open TL (tl pre spl numL joinL)
def altsOf (l : List Nat) : List (List (Option Rng)) := (spl [32, 124, 32] 0 [] l).map fun a => (spl [44, 32] 0 [] a).map partOf
def altR (rs : List Rng) : Rng := outR (strR (rs.flatMap outR))
def readR (as : List (List Rng)) : Rng := strR (as.flatMap altR)
structure Mild (as : List (List Rng)) : Prop where
  len : as.length ≤ 1000
  each : ∀ a ∈ as, a.length ≤ 20 ∧ ∀ r ∈ a, wf r ∧ r.length ≤ 10
def sp_read : DSp := fun ds st Q _ => match ds with
  | [.str t] => ∃ as : List (List Rng), altsOf (tl t) = as.map (fun a => a.map some) ∧ t.length ≤ 1000000 ∧ Mild as ∧ Q (encR (readR as)) st
  | _ => False
/-- st0 stands at the beginning -/
def Pre (st0 st : Sto) : Prop := ∃ g, st = st0 ++ g
theorem Pre.app {st0 st : Sto} (h : Pre st0 st) (g : Sto) : Pre st0 (st ++ g) := by
  obtain ⟨x, rfl⟩ := h
  exact ⟨x ++ g, by simp⟩
theorem Pre.set {st0 st : Sto} (h : Pre st0 st) {n : Nat} (hn : st0.length ≤ n) (o : Ob) : Pre st0 (st.set n o) := by
  obtain ⟨x, rfl⟩ := h
  exact ⟨x.set (n - st0.length) o, by rw [List.set_append_right _ _ hn]⟩
theorem Pre.len {st0 st : Sto} (h : Pre st0 st) : st0.length ≤ st.length := by
  obtain ⟨x, rfl⟩ := h
  simp
end CM
namespace CM
open PySem L2 PySem.Spec DL
open PyProof.Rows hiding St
open TL (tl pre spl numL joinL)
theorem vL_in {n c : Nat} (h : c ∈ vL n) : (48 ≤ c ∧ c ≤ 57) ∨ c = 46 := by
  unfold vL at h
  simp only [List.mem_append, List.mem_singleton] at h
  rcases h with h | h | h | h | h
  · exact .inl (TL.numL_digits _ c h)
  · exact .inr h
  · exact .inl (TL.numL_digits _ c h)
  · exact .inr h
  · exact .inl (TL.numL_digits _ c h)
theorem mem_join {S : List Nat} {c : Nat} : ∀ {ps : List (List Nat)}, c ∈ joinL S ps → c ∈ S ∨ ∃ p ∈ ps, c ∈ p
  | [], h => by simp [joinL] at h
  | [p], h => .inr ⟨p, by simp, h⟩
  | p :: q :: r, h => by
    have h' : c ∈ p ++ (S ++ joinL S (q :: r)) := h
    simp only [List.mem_append] at h'
    rcases h' with h | h | h
    · exact .inr ⟨p, by simp, h⟩
    · exact .inl h
    · rcases mem_join h with h | ⟨z, hz, h⟩
      · exact .inl h
      · exact .inr ⟨z, List.mem_cons_of_mem _ hz, h⟩
theorem join_len {S : List Nat} {k : Nat} : ∀ {ps : List (List Nat)}, (∀ p ∈ ps, p.length ≤ k) → (joinL S ps).length ≤ ps.length * (k + S.length)
  | [], _ => by simp [joinL]
  | [p], h => by have := h p (by simp); simp [joinL]; omega
  | p :: q :: r, h => by
    have h1 := h p (by simp)
    have h2 := join_len (S := S) (ps := q :: r) fun z hz => h z (List.mem_cons_of_mem _ hz)
    show (p ++ (S ++ joinL S (q :: r))).length ≤ _
    simp only [List.length_append, List.length_cons, Nat.succ_mul] at h2 ⊢
    omega
theorem lawP_ge {n : Nat} (h : okV n) : lawPart ">=" n = some [(n, none)] := by
  unfold lawPart
  rw [if_neg k12]
  exact rngOf_enc (wf1 h)
theorem lawP_lt {n : Nat} (h : okV n) : lawPart "<" n = some (outR [(n, none)]) := by
  unfold lawPart
  rw [if_neg k13]
  exact rngOf_enc (wf_out (wf1 h))
theorem lawP_e {n : Nat} (h : okV n) (hc : vC n < 1000000) : lawPart "" n = some [(n, some (n + 1))] := by
  unfold lawPart
  rw [if_neg kxe]
  exact (ros_some h hc).1
end CM
namespace CM
open PySem L2 PySem.Spec DL
open PyProof.Rows hiding St
open TL (tl pre spl numL joinL)
theorem ends_asc : ∀ (r : Rng) (prev : Option (Option Nat)), okR prev r → (endsOf r).Pairwise (· < ·) ∧ ∀ e ∈ endsOf r, ∀ x, prev = some (some x) → x < e
  | [], _, _ => ⟨List.Pairwise.nil, fun _ h => nomatch h⟩
  | (l, none) :: r, prev, ⟨h1, h2, h3⟩ => by
    have : r = [] := okR_none h3
    subst this
    refine ⟨by simp [endsOf], fun e he x hx => ?_⟩
    subst hx
    simp [endsOf] at he
    subst he
    simpa [touch] using h2
  | (l, some y) :: r, prev, ⟨h1, h2, h3⟩ => by
    obtain ⟨a, b⟩ := ends_asc r _ h3
    have hly := (h1.2 y rfl).2
    dsimp only at hly
    have hy : ∀ e ∈ endsOf r, y < e := fun e he => b e he y rfl
    refine ⟨?_, fun e he x hx => ?_⟩
    · simp only [endsOf, List.pairwise_cons, List.mem_cons]
      refine ⟨fun e he => ?_, hy, a⟩
      rcases he with rfl | he
      · exact hly
      · exact Nat.lt_trans hly (hy e he)
    · subst hx
      have hx : x < l := by simpa [touch] using h2
      simp only [endsOf, List.mem_cons] at he
      rcases he with rfl | rfl | he
      · exact hx
      · omega
      · have := hy e he; omega
theorem ends_outF : ∀ (r : Rng) (b : Option Nat) (m : Nat), m ∈ endsOf (outF b r) → b = some m ∨ m ∈ endsOf r
  | [], none, m, h => by simp [outF, endsOf] at h
  | [], some b, m, h => by simp [outF, endsOf] at h; exact .inl (by rw [h])
  | (l, o) :: r, none, m, h => by simp [outF, endsOf] at h
  | (l, o) :: r, some b, m, h => by
    have up : o = some m ∨ m ∈ endsOf r → m ∈ endsOf ((l, o) :: r) := fun q => by
      clear h
      rcases q with rfl | q
      · simp [endsOf]
      · cases o <;> simp [endsOf, q]
    have hl : m = l → m ∈ endsOf ((l, o) :: r) := fun q => by clear h; cases o <;> simp [endsOf, q]
    unfold outF at h
    split at h
    · simp only [endsOf, List.mem_cons] at h
      rcases h with h | h | h
      · exact .inl (by rw [h])
      · exact .inr (hl h)
      · exact .inr (up (ends_outF r o m h))
    · exact .inr (up (ends_outF r o m h))
theorem ends_out {r : Rng} {m : Nat} (h : m ∈ endsOf (outR r)) : m = 0 ∨ m ∈ endsOf r := by
  rcases ends_outF r (some 0) m h with h | h
  · cases h; exact .inl rfl
  · exact .inr h
theorem ends_app {r s : Rng} {m : Nat} (h : m ∈ endsOf (r ++ s)) : m ∈ endsOf r ∨ m ∈ endsOf s := by
  rw [ends_mem] at h
  obtain ⟨p, h1, h2⟩ := h
  rcases List.mem_append.mp h1 with h1 | h1
  · exact .inl (ends_mem.mpr ⟨p, h1, h2⟩)
  · exact .inr (ends_mem.mpr ⟨p, h1, h2⟩)
theorem ends_eith {r s : Rng} {m : Nat} (h : m ∈ endsOf (eitherR r s)) : m ∈ endsOf r ∨ m ∈ endsOf s := ends_app (ends_str (ps := r ++ s) h)
theorem ends_both {r s : Rng} {m : Nat} (h : m ∈ endsOf (bothR r s)) : m = 0 ∨ m ∈ endsOf r ∨ m ∈ endsOf s := by
  rcases ends_out (r := eitherR (outR r) (outR s)) h with h | h
  · exact .inl h
  · rcases ends_eith h with h | h
    · rcases ends_out h with h | h
      · exact .inl h
      · exact .inr (.inl h)
    · rcases ends_out h with h | h
      · exact .inl h
      · exact .inr (.inr h)
theorem len_both {r s : Rng} (hr : wf r) (hs : wf s) : (endsOf (bothR r s)).length ≤ 1 + (endsOf r).length + (endsOf s).length := by
  have := few_marks (ls := 0 :: (endsOf r ++ endsOf s)) (ends_asc _ _ (wf_both hr hs)).1 fun m hm => by
    rcases ends_both hm with h | h | h
    · simp [h]
    · simp [h]
    · simp [h]
  simp at this
  omega
theorem len_either {r s : Rng} (hr : wf r) (hs : wf s) : (endsOf (eitherR r s)).length ≤ (endsOf r).length + (endsOf s).length := by
  have := few_marks (ls := endsOf r ++ endsOf s) (ends_asc _ _ (wf_either hr hs)).1 fun m hm => by
    rcases ends_eith hm with h | h
    · simp [h]
    · simp [h]
  simpa using this
def lpR (w : Str) (n : Nat) : Rng := (lawPart w n).getD []
theorem law_some {w : Str} {n : Nat} (hw : w ∈ words) (hn : smallV n) : lawPart w n = some (lpR w n) ∧ wf (lpR w n) ∧ (endsOf (lpR w n)).length ≤ 4 := by
  have ho := hn.ok
  have hc : vC n < 1000000 := by have := hn.2.2; omega
  have key : ∀ r, lawPart w n = some r → wf r → (endsOf r).length ≤ 4 → lawPart w n = some (lpR w n) ∧ wf (lpR w n) ∧ (endsOf (lpR w n)).length ≤ 4 := fun r e h1 h2 => by
    have : lpR w n = r := by unfold lpR; rw [e]; rfl
    rw [this]
    exact ⟨e, h1, h2⟩
  have h1 := okV_lt ho hc
  obtain ⟨r1, r2, r3, r4⟩ := ros_some ho hc
  simp only [words, List.mem_cons, List.not_mem_nil, or_false] at hw
  rcases hw with rfl | rfl | rfl | rfl | rfl | rfl | rfl | rfl | rfl
  · exact key everyR (by unfold lawPart; rw [if_pos rfl]) (wf1 okV0) (by decide)
  · exact key [(0, some (n + 1))] (by unfold lawPart; rw [if_neg kxl]; exact r3) (wf2 okV0 h1 (by omega)) (by simp [endsOf])
  · exact key [(n, none)] (lawP_ge ho) (wf1 ho) (by simp [endsOf])
  · refine key _ (lawP_lt ho) (wf_out (wf1 ho)) ?_
    have := ends_len (outR [(n, none)])
    have := out_len [(n, (none : Option Nat))]
    simp at *
    omega
  · exact key [(n + 1, none)] (by unfold lawPart; rw [if_neg kxg]; exact r4) (wf1 h1) (by simp [endsOf])
  · refine key _ (by unfold lawPart; rw [if_neg kxb]; exact r2) (wf_out (wf2 ho h1 (by omega))) ?_
    have := ends_len (outR [(n, some (n + 1))])
    have := out_len [(n, (some (n + 1) : Option Nat))]
    simp at *
    omega
  · obtain ⟨a, b, c, ec, hlt, habc⟩ := car_nat n
    have hle : a ≤ 1000000 ∧ b ≤ 1000000 ∧ c ≤ 1000000 := by
      have := hn.1
      have := hn.2.1
      split at habc
      · cases habc; omega
      · split at habc
        · cases habc; omega
        · cases habc; omega
    have e := ros_end ho (hlt ho)
    rw [if_pos hle] at e
    refine key [(n, some (mkV a b c))] ?_ (wf2 ho ?_ (hlt ho hle.1 hle.2.1 hle.2.2)) (by simp [endsOf])
    · unfold lawPart
      rw [if_neg k1c, ← e, ← ec]
      rfl
    · unfold okV
      rw [vA_mk (by omega) (by omega)]
      exact hle.1
  · have hm := mkV_eq n
    have hle : vA n ≤ 1000000 ∧ vB n + 1 ≤ 1000000 ∧ 0 ≤ 1000000 := by
      have := hn.1
      have := hn.2.1
      omega
    have hlt : n < mkV (vA n) (vB n + 1) 0 := by
      have := vC_le n
      unfold mkV at *
      omega
    have e := ros_end (a := vA n) (b := vB n + 1) (c := 0) ho fun _ _ _ => hlt
    rw [if_pos hle] at e
    refine key [(n, some (mkV (vA n) (vB n + 1) 0))] ?_ (wf2 ho ?_ hlt) (by simp [endsOf])
    · unfold lawPart
      rw [if_neg k1t, ← e]
      rfl
    · unfold okV
      rw [vA_mk (by omega) (by omega)]
      exact hle.1
  · exact key [(n, some (n + 1))] (lawP_e ho hc) (wf2 ho h1 (by omega)) (by simp [endsOf])
end CM
namespace CM
open PySem L2 PySem.Spec DL
open PyProof.Rows hiding St
open TL (tl pre spl numL joinL)
def wrong1 (os : List (Option Rng)) : Option Nat := os.findIdx? (·.isNone)
def wrongAt (as : List (List (Option Rng))) : Option Nat := wrong1 as.flatten
def gets (os : List (Option Rng)) : List Rng := os.map (·.getD [])
section
variable [ErrCtx]
def readT (l : List Nat) : Rng := readR ((altsOf l).map gets)
theorem backX_pre {st st' : Sto} {Z : DX → Sto → Prop} {x : DX} (h : Pre st st') (hb : D.blws st.length (x.fs.map (·.2)) = true) (q : Z x st) : DL.BackX st Z x st' := by
  obtain ⟨g, rfl⟩ := h
  exact .inr ⟨st, g, rfl, rfl, fun b hb => .inl hb, hb, q⟩
end
end CM
namespace CM
open PySem L2 PySem.Spec DL
open PyProof.Rows hiding St
open TL (tl pre spl numL joinL)
def okNumM (l : List Nat) : Option Nat := match okNum l with
  | some n => if n ≤ 1000000 then some n else none
  | none => none
def digs (l : List Nat) : Bool := l.all fun c => decide (48 ≤ c ∧ c ≤ 57)
theorem dig_mem (c : Nat) : decide (c ∈ ("0123456789" : Str).cps.toList) = decide (48 ≤ c ∧ c ≤ 57) := by
  have e : ("0123456789" : Str).cps.toList = [48, 49, 50, 51, 52, 53, 54, 55, 56, 57] := by decide
  rw [e]
  refine decide_eq_decide.mpr ?_
  simp only [List.mem_cons, List.not_mem_nil, or_false]
  omega
def sp_lnum : DSp := fun ds st Q _ => match ds with
  | [.str t] => t.length ≤ 20000 ∧ Q (encN (okNumM (tl t))) st
  | _ => False
@[simp] theorem e_lnum {st : Sto} {Q : DK} {Z : DX → Sto → Prop} {t : Str} : sp_lnum [.str t] st Q Z = (t.length ≤ 20000 ∧ Q (encN (okNumM (tl t))) st) := rfl
theorem str_items (t : Str) : strItems t = (tl t).map fun c => .str ⟨#[c]⟩ := rfl
end CM
namespace CM
open PySem L2 PySem.Spec DL
open PyProof.Rows hiding St
open TL (tl pre spl numL joinL)
def sp_ispart : DSp := fun ds st Q _ => match ds with
  | [.str t] => t.length ≤ 20000 ∧ Q (.bl (partOf (tl t)).isSome) st
  | _ => False
@[simp] theorem e_ispart {st : Sto} {Q : DK} {Z : DX → Sto → Prop} {t : Str} : sp_ispart [.str t] st Q Z = (t.length ≤ 20000 ∧ Q (.bl (partOf (tl t)).isSome) st) := rfl
theorem most_encN (w : List Nat) : numMost 1000000 (encN (okNum w)) = okNumM w := by
  unfold okNumM
  cases okNum w with
  | none => rfl
  | some n =>
    show numMost 1000000 (.int n) = _
    unfold numMost
    rw [num_int]
theorem okNumM_le {w : List Nat} {n : Nat} (h : okNumM w = some n) : n ≤ 1000000 := by
  unfold okNumM at h
  split at h
  · split at h
    · cases h; assumption
    · cases h
  · cases h
/-- the version by the numbers read -/
def verN : List (Option Nat) → Option Nat
  | [some a, some b, some c] => some (mkV a b c)
  | _ => none
theorem verText_eq (l : List Nat) : verText l = verN ((spl [46] 0 [] l).map okNumM) := by
  unfold verText
  generalize spl [46] 0 [] l = ws
  match ws with
  | [] => rfl
  | [a] => 
    show none = _
    cases h : okNumM a <;> simp [verN, h]
  | [a, b] =>
    show none = _
    cases h : okNumM a <;> cases h2 : okNumM b <;> simp [verN, h, h2]
  | [a, b, c] =>
    show (match numMost 1000000 (encN (okNum a)), numMost 1000000 (encN (okNum b)), numMost 1000000 (encN (okNum c)) with
      | some x, some y, some z => some (mkV x y z)
      | _, _, _ => none) = _
    rw [most_encN, most_encN, most_encN]
    simp only [List.map_cons, List.map_nil]
    cases okNumM a <;> cases okNumM b <;> cases okNumM c <;> rfl
  | a :: b :: c :: d :: r =>
    show none = _
    simp only [List.map_cons]
    cases okNumM a <;> cases okNumM b <;> cases okNumM c <;> rfl
theorem inD_non : ∀ os : List (Option Nat), inD .non (os.map encN) = decide (none ∈ os)
  | [] => rfl
  | o :: os => by
    have ih := inD_non os
    unfold inD inV at ih ⊢
    simp only [List.map_cons, List.any_cons]
    rw [ih]
    cases o with
    | none => simp [encN, flatVal, eqV]
    | some n => simp [encN, flatVal, eqV]
theorem flat_encN : ∀ os : List (Option Nat), (os.map encN).all flatD = true
  | [] => rfl
  | o :: os => by
    simp only [List.map_cons, List.all_cons, flat_encN os, Bool.and_true]
    cases o <;> rfl
theorem verN_some {os : List (Option Nat)} (h3 : os.length = 3) (hn : none ∉ os) : ∃ a b c, os = [some a, some b, some c] := by
  match os, h3 with
  | [x, y, z], _ =>
    cases x with
    | none => exact absurd (by simp) hn
    | some a =>
      cases y with
      | none => exact absurd (by simp) hn
      | some b =>
        cases z with
        | none => exact absurd (by simp) hn
        | some c => exact ⟨a, b, c, rfl⟩
theorem verN_none {os : List (Option Nat)} (h : os.length ≠ 3 ∨ none ∈ os) : verN os = none := by
  unfold verN
  split
  · rename_i a b c
    rcases h with h | h
    · exact absurd rfl h
    · simp at h
  · rfl
end CM
namespace CM
open PySem L2 PySem.Spec DL
open PyProof.Rows hiding St
def samF (st : Sto) : Nat → D → D → Prop
  | 0, t, d => t = d ∧ leafD d
  | n + 1, t, d => (t = d ∧ leafD d) ∨ (∃ ts ds, ((t = .tup ts ∧ d = .tup ds) ∨ ∃ a b, t = .loc a ∧ d = .loc b ∧ st[a]? = some (.lst ts) ∧ st[b]? = some (.lst ds)) ∧
      (ts.length = ds.length ∧ ∀ (k : Nat) x y, ts[k]? = some x → ds[k]? = some y → samF st n x y) ∧ ts.length < 1048576) ∨ ∃ a od k i, t = .loc a ∧ d = .loc a ∧ st[a]? = some (.dkF od [(k, .int i)])
def sp_isF (n : Nat) : DSp := fun ds st Q _ => match ds with
  | [t, d] => samF st n t d ∧ Q (.bl true) st
  | _ => False
@[simp] theorem e_isF {n : Nat} {st : Sto} {Q : DK} {Z : DX → Sto → Prop} {t d : D} : sp_isF n [t, d] st Q Z = (samF st n t d ∧ Q (.bl true) st) := rfl
end CM
namespace CM
open PySem L2 PySem.Spec DL
open PyProof.Rows hiding St
def nameS (s : Str) : Bool := decide (s.length ≤ 12) && (Txt.isascii s && (Txt.isalpha s && Txt.islower s))
def nameB : D → Bool
  | .str s => nameS s
  | _ => false
def fit (d : D) : Prop := ∀ s, d = .str s → s.length ≤ sizeLine
def sp_name : DSp := fun ds st Q _ => match ds with
  | [d] => ok st d ∧ fit d ∧ Q (.bl (nameB d)) st
  | _ => False
theorem r_is_name : Rd 1 sp_name RD.t_is_name RD.N_is_name := by
  intro ds st Q Z hl h
  match ds, hl, h with
  | [d], _, ⟨ho, hf, q⟩ =>
    unfold RD.t_is_name
    rcases ok_cases ho with rfl | ⟨b, rfl⟩ | ⟨i, rfl⟩ | ⟨x, rfl⟩ | ⟨ds, rfl, _⟩ | ⟨ds, rfl⟩ | ⟨n, es, rfl, e⟩ | ⟨n, es, rfl, e⟩
    case inr.inr.inr.inl =>
      have hx := hf x rfl
      simp [tySub, hx]
      by_cases h12 : x.length ≤ 12
      · have h12' : ¬ (12 : Int) < (x.length : Int) := by omega
        simp [h12']
        have q' : Q (.bl (Txt.isascii x && (Txt.isalpha x && Txt.islower x))) st := by simpa [nameB, nameS, h12] using q
        cases ha : Txt.isascii x <;> cases hb : Txt.isalpha x <;> rw [ha, hb] at q' <;> simp at q' ⊢ <;> exact .inl q'
      · have h12' : (12 : Int) < (x.length : Int) := by omega
        simp [h12']
        exact .inl (by simpa [nameB, nameS, h12] using q)
    all_goals
      simp [tySub, tyN, *]
      first
        | exact .inl q
        | (refine .inl ?_; simpa [nameB] using q)
end CM
namespace CM
open PySem L2 PySem.Spec DL
open PyProof.Rows hiding St
theorem blw_strs {n : Nat} (es : List Str) : D.blws n (es.map .str) = true := by
  induction es with
  | nil => rfl
  | cons e es ih => simp [D.blws, D.blw, ih]
end CM
namespace CM
open PySem L2 PySem.Spec DL
open PyProof.Rows hiding St
theorem enc3 {x y z : Nat} (hy : y < 1000001) (hz : z < 1000001) : encV (mkV x y z) = .tup [.int (x : Int), .int (y : Int), .int (z : Int)] := by
  unfold encV
  rw [vA_mk hy hz, vB_mk hy hz, vC_mk hz]
end CM
namespace CM
open PySem L2 PySem.Spec DL
open PyProof.Rows hiding St
structure RawE where
  name : Str
  ver : Nat
  feats : List (Str × List Str)
  needs : List (Str × Str × Rng × List Str)
  bars : List (Str × Rng)
def encL (l : List Str) : D := .tup (l.map .str)
def encF (p : Str × List Str) : D := .tup [.str p.1, encL p.2]
def encN4 (p : Str × Str × Rng × List Str) : D := .tup [.str p.1, .str p.2.1, encR p.2.2.1, encL p.2.2.2]
def encB (p : Str × Rng) : D := .tup [.str p.1, encR p.2]
def encRaw (e : RawE) : D := .tup [.str e.name, encV e.ver, .tup (e.feats.map encF), .tup (e.needs.map encN4), .tup (e.bars.map encB)]
/-- the store while an entry is drawn: the hand, the three lists, things that stay -/
structure RI (h c : Nat) (st0 : Sto) (n8 n9 n10 : Nat) (K : List (Nat × Ob)) (F N B : List D) (st : Sto) : Prop where
  g : Gr h c st0 st
  h8 : st[n8]? = some (.lst F)
  h9 : st[n9]? = some (.lst N)
  h10 : st[n10]? = some (.lst B)
  keep : ∀ p ∈ K, st[p.1]? = some p.2
/-- where they stand -/
structure RP (st0 : Sto) (n8 n9 n10 : Nat) (K : List (Nat × Ob)) : Prop where
  a : st0.length ≤ n8 ∧ st0.length ≤ n9 ∧ st0.length ≤ n10
  d : n8 ≠ n9 ∧ n8 ≠ n10 ∧ n9 ≠ n10
  k : ∀ p ∈ K, st0.length ≤ p.1 ∧ p.1 ≠ n8 ∧ p.1 ≠ n9 ∧ p.1 ≠ n10
section
variable {h c n8 n9 n10 : Nat} {st0 st st1 : Sto} {K : List (Nat × Ob)} {F N B : List D}
theorem RI.sm (P : RP st0 n8 n9 n10 K) (r : RI h c st0 n8 n9 n10 K F N B st) (s : Sm h st st1) (H : Hd st1 h c) : RI h c st0 n8 n9 n10 K F N B st1 := by
  have hh := r.g.hlt
  refine ⟨r.g.sm s H, by rw [s.same n8 (by have := P.a; omega)]; exact r.h8, by rw [s.same n9 (by have := P.a; omega)]; exact r.h9, by rw [s.same n10 (by have := P.a; omega)]; exact r.h10, fun p hp => ?_⟩
  rw [s.same p.1 (by have := (P.k p hp).1; omega)]
  exact r.keep p hp
theorem RI.app (r : RI h c st0 n8 n9 n10 K F N B st) (x : Sto) : RI h c st0 n8 n9 n10 K F N B (st ++ x) := ⟨r.g.app x, gb r.h8, gb r.h9, gb r.h10, fun p hp => gb (r.keep p hp)⟩
theorem Gr.setY {n : Nat} {o : Ob} (g : Gr h c st0 st) (hn : st0.length ≤ n) : Gr h c st0 (st.set n o) := by
  refine ⟨by simpa using g.len, fun m hm hne => ?_, ?_, g.hd0⟩
  · rw [List.getElem?_set_ne (by omega)]
    exact g.same m hm hne
  · obtain ⟨cells, a, b, d, e, q1, q2, q3⟩ := g.hd.ex
    have := g.hlt
    have := g.clt
    exact ⟨cells, a, b, d, e, by rw [List.getElem?_set_ne (by omega)]; exact q1, by rw [List.getElem?_set_ne (by omega)]; exact q2, q3⟩
end
end CM
namespace CM
open PySem L2 PySem.Spec DL
open PyProof.Rows hiding St
theorem blw_encL (n : Nat) (l : List Str) : D.blw n (encL l) = true := by simp [encL, D.blw, blw_strs]
theorem cutL_map {α β : Type} (f : α → β) (xs : List α) (l u : Option Int) : cutL (xs.map f) l u = (cutL xs l u).map f := by
  unfold cutL
  simp [List.map_drop, List.map_take]
end CM
namespace CM
open PySem L2 PySem.Spec DL
open PyProof.Rows hiding St
/-- the store while a book is drawn -/
structure BI (h c : Nat) (st0 : Sto) (n2 n3 : Nat) (names : List Str) (rs : List RawE) (st : Sto) : Prop where
  g : Gr h c st0 st
  h2 : st[n2]? = some (.lst (names.map .str))
  h3 : st[n3]? = some (.lst (rs.map encRaw))
section
variable {h c n2 n3 : Nat} {st0 st st1 : Sto} {names : List Str} {rs : List RawE}
theorem BI.sm (hn : st0.length ≤ n2 ∧ st0.length ≤ n3) (r : BI h c st0 n2 n3 names rs st) (s : Sm h st st1) (H : Hd st1 h c) : BI h c st0 n2 n3 names rs st1 := by
  have hh := r.g.hlt
  exact ⟨r.g.sm s H, by rw [s.same n2 (by omega)]; exact r.h2, by rw [s.same n3 (by omega)]; exact r.h3⟩
theorem BI.app (r : BI h c st0 n2 n3 names rs st) (x : Sto) : BI h c st0 n2 n3 names rs (st ++ x) := ⟨r.g.app x, gb r.h2, gb r.h3⟩
theorem BI.set (hn : st0.length ≤ n2 ∧ st0.length ≤ n3 ∧ n2 ≠ n3) (r : BI h c st0 n2 n3 names rs st) (rs' : List RawE) : BI h c st0 n2 n3 names rs' (st.set n3 (.lst (rs'.map encRaw))) :=
  ⟨r.g.setY hn.2.1, by rw [List.getElem?_set_ne (Ne.symm hn.2.2)]; exact r.h2, List.getElem?_set_self (List.getElem?_eq_some_iff.mp r.h3).1⟩
end
end CM
namespace CM
open PySem L2 PySem.Spec DL
open PyProof.Rows hiding St
def ltS (a b : Str) : Bool := PySem.W.dataLt (.str a) (.str b)
def namesF : Str → List Str → Bool
  | _, [] => true
  | p, s :: r => nameS s && (ltS p s && namesF s r)
theorem le_strs {a b : Str} {st : Sto} {Q : DK} (q : Q (.bl (!ltS b a)) st) : dLe (.str a) (.str b) st Q := by
  exact ⟨1, .str a, .str b, rfl, rfl, rfl, (fun z => by cases z), (by simp [PyData.depth]), q⟩
end CM
namespace CM
open PySem L2 PySem.Spec DL
open PyProof.Rows hiding St
open TL (tl pre spl par numL joinL)
def nameL (l : List Nat) : Bool := decide (l.length ≤ 12) && (decide (l ≠ []) && l.all fun c => decide (97 ≤ c ∧ c ≤ 122))
theorem uni_low : ∀ c, c < 128 → (Unicode.isAlpha c && !(Unicode.isUpper c || Unicode.isTitle c)) = decide (97 ≤ c ∧ c ≤ 122) := by decide +kernel
theorem uni_is : ∀ c, c < 128 → 97 ≤ c → c ≤ 122 → Unicode.isLower c = true := by decide +kernel
theorem nameS_eq (s : Str) : nameS s = nameL (tl s) := by
  have hl := TL.len_tl s
  unfold nameS nameL
  rw [← hl]
  congr 1
  have e1 : Txt.isascii s = (tl s).all fun c => decide (c < 128) := by
    unfold Txt.isascii
    rw [← Array.all_toList]
  have e2 : Txt.isalpha s = (decide (tl s ≠ []) && (tl s).all Unicode.isAlpha) := by
    unfold Txt.isalpha
    rw [← Array.all_toList]
    congr 1
    rw [Bool.eq_iff_iff]
    simp only [decide_eq_true_eq, gt_iff_lt]
    rw [hl]
    exact List.length_pos_iff
  have e3 : Txt.islower s = ((tl s).any Unicode.isLower && !(tl s).any fun c => Unicode.isUpper c || Unicode.isTitle c) := by
    unfold Txt.islower
    rw [← Array.any_toList, ← Array.any_toList]
  rw [e1, e2, e3]
  generalize tl s = l
  rw [Bool.eq_iff_iff]
  simp only [Bool.and_eq_true, List.all_eq_true, decide_eq_true_eq, Bool.not_eq_true', List.any_eq_false, List.any_eq_true]
  constructor
  · rintro ⟨h1, ⟨h2, h3⟩, h4, h5⟩
    refine ⟨h2, fun c hc => ?_⟩
    have := uni_low c (h1 c hc)
    rw [h3 c hc, Bool.eq_false_iff.mpr (h5 c hc)] at this
    simpa using this
  · rintro ⟨h1, h2⟩
    have hlt : ∀ c ∈ l, c < 128 := fun c hc => by have := h2 c hc; omega
    have hu : ∀ c ∈ l, Unicode.isAlpha c = true ∧ (Unicode.isUpper c || Unicode.isTitle c) = false := fun c hc => by
      have := uni_low c (hlt c hc)
      rw [decide_eq_true (h2 c hc)] at this
      simpa using this
    refine ⟨hlt, ⟨h1, fun c hc => (hu c hc).1⟩, ?_, fun c hc => by rw [(hu c hc).2]; decide⟩
    cases l with
    | nil => exact absurd rfl h1
    | cons c r => exact ⟨c, List.mem_cons_self, uni_is c (hlt c List.mem_cons_self) (h2 c List.mem_cons_self).1 (h2 c List.mem_cons_self).2⟩
theorem nameL_free {l : List Nat} (h : nameL l = true) : ∀ c ∈ l, 97 ≤ c ∧ c ≤ 122 := by
  unfold nameL at h
  simp only [Bool.and_eq_true, List.all_eq_true, decide_eq_true_eq] at h
  exact h.2.2
theorem pre_split {S l : List Nat} (h : pre S l = true) : l = S ++ l.drop S.length := by
  unfold pre at h
  have : l.take S.length = S := by simpa using h
  conv => lhs; rw [← List.take_append_drop S.length l, this]
theorem par_some {S : List Nat} : ∀ {l acc a r : List Nat}, par S acc l = some (a, r) → ∃ q, a = acc ++ q ∧ l = q ++ (S ++ r)
  | [], acc, a, r, h => by cases h
  | c :: l, acc, a, r, h => by
    cases hp : pre S (c :: l) with
    | true =>
      rw [TL.par_hit hp] at h
      obtain ⟨rfl, rfl⟩ := Prod.mk.inj (Option.some.inj h)
      exact ⟨[], by simp, by rw [List.nil_append]; exact pre_split hp⟩
    | false =>
      rw [TL.par_miss hp] at h
      obtain ⟨q, rfl, e⟩ := par_some h
      exact ⟨c :: q, by simp, by rw [e]; simp⟩
theorem par1_some {s : Nat} : ∀ {l acc a r : List Nat}, par [s] acc l = some (a, r) → ∃ q, a = acc ++ q ∧ l = q ++ s :: r ∧ s ∉ q
  | [], acc, a, r, h => by cases h
  | c :: l, acc, a, r, h => by
    by_cases hc : c = s
    · subst hc
      rw [TL.par_hit (by simp [pre])] at h
      obtain ⟨rfl, rfl⟩ := Prod.mk.inj (Option.some.inj h)
      exact ⟨[], by simp, by simp, by simp⟩
    · rw [TL.par_miss (TL.pre_of_head [] l hc)] at h
      obtain ⟨q, rfl, e, hq⟩ := par1_some h
      exact ⟨c :: q, by simp, by rw [e]; simp, by simp [hq]; exact fun z => hc z.symm⟩
theorem par1_none {s : Nat} : ∀ {l acc : List Nat}, par [s] acc l = none → s ∉ l
  | [], _, _ => by simp
  | c :: l, acc, h => by
    by_cases hc : c = s
    · subst hc
      rw [TL.par_hit (by simp [pre])] at h
      cases h
    · rw [TL.par_miss (TL.pre_of_head [] l hc)] at h
      simp [par1_none h]
      exact fun z => hc z.symm
theorem par1_at {s : Nat} {a r : List Nat} (h : s ∉ a) : par [s] [] (a ++ s :: r) = some (a, r) := by
  have := TL.par_part1 (S := []) (rest := r) (acc := []) h
  simpa using this
theorem spl1 {s : Nat} (l : List Nat) : spl [s] 0 [] l = match par [s] [] l with
    | some (a, r) => a :: spl [s] 0 [] r
    | none => [l] := by
  cases h : par [s] [] l with
  | none =>
    have := TL.spl_last1 (S := []) (acc := []) (par1_none h)
    simpa using this
  | some p =>
    obtain ⟨a, r⟩ := p
    obtain ⟨q, rfl, rfl, hq⟩ := par1_some h
    have := TL.spl_part1 (S := []) (rest := r) (acc := []) hq
    simpa using this
theorem spl_ne {S : List Nat} : ∀ (l acc : List Nat) (k : Nat), spl S k acc l ≠ []
  | [], acc, k => by cases k <;> simp [spl]
  | c :: r, acc, 0 => by
    unfold spl
    split
    · simp
    · exact spl_ne r _ 0
  | c :: r, acc, k + 1 => by
    unfold spl
    exact spl_ne r _ k
def SLs (l : List Nat) : Str := ⟨l.toArray⟩
theorem join_spl {S : List Nat} (hS : S ≠ []) (h : ∀ c ∈ S, c < 256) (l : List Nat) : joinL S (spl S 0 [] l) = l := by
  have e := PySem.StrLaws.join_split (SLs l) (SLs S)
  have e2 := TL.tl_join (SLs S) (Txt.split (SLs l) (SLs S))
  rw [e] at e2
  have e3 := split_tl (x := SLs l) (y := SLs S) (S := S) rfl hS h
  rw [e3] at e2
  exact e2.symm
theorem joinL_cons {S p : List Nat} {ps : List (List Nat)} (h : ps ≠ []) : joinL S (p :: ps) = p ++ (S ++ joinL S ps) := by
  cases ps with
  | nil => exact absurd rfl h
  | cons q r => rfl
theorem count_join {c : Nat} {S : List Nat} : ∀ ps : List (List Nat), ps ≠ [] → (joinL S ps).count c = (ps.map fun p => p.count c).sum + (ps.length - 1) * S.count c
  | [], h => absurd rfl h
  | [p], _ => by simp [joinL]
  | p :: q :: r, _ => by
    have ih := count_join (c := c) (S := S) (q :: r) (by simp)
    show (p ++ (S ++ joinL S (q :: r))).count c = _
    rw [List.count_append, List.count_append, ih]
    simp only [List.map_cons, List.sum_cons, List.length_cons, Nat.add_sub_cancel]
    rw [Nat.add_mul]
    omega
theorem count_spl {c : Nat} {S : List Nat} (hS : S ≠ []) (h : ∀ c ∈ S, c < 256) (l : List Nat) : ((spl S 0 [] l).map fun p => p.count c).sum + ((spl S 0 [] l).length - 1) * S.count c = l.count c := by
  have := count_join (c := c) (S := S) (spl S 0 [] l) (spl_ne _ _ _)
  rw [join_spl hS h] at this
  exact this.symm
end CM
namespace CM
open PySem L2 PySem.Spec DL
open PyProof.Rows hiding St
open TL (tl pre spl numL joinL)
@[simp] theorem e_read {st : Sto} {Q : DK} {Z : DX → Sto → Prop} {t : Str} : sp_read [.str t] st Q Z = ∃ as : List (List Rng), altsOf (tl t) = as.map (fun a => a.map some) ∧ t.length ≤ 1000000 ∧ Mild as ∧ Q (encR (readR as)) st := rfl
theorem Hd.set {st : Sto} {h c m : Nat} (H : Hd st h c) (h1 : m ≠ h) (h2 : m ≠ c) (o : Ob) : Hd (st.set m o) h c := by
  obtain ⟨cells, a, b, d, e, q1, q2, q3⟩ := H.ex
  exact ⟨cells, a, b, d, e, by rw [List.getElem?_set_ne h1]; exact q1, by rw [List.getElem?_set_ne h2]; exact q2, q3⟩
abbrev PW := List (Str × Nat)
def drawnP (ps : PW) : Prop := ∀ p ∈ ps, p.1 ∈ words ∧ smallV p.2
structure EvOk (ev : Rng) (ps : PW) : Prop where
  w : wf ev
  has : ∀ v, Has ev v ↔ ∀ p ∈ ps, Has (lpR p.1 p.2) v
  len : (endsOf ev).length ≤ 1 + 5 * ps.length
  dr : drawnP ps
theorem EvOk.nil : EvOk everyR [] := ⟨wf1 okV0, fun v => by simp [everyR, Has, inP], by decide, fun p hp => nomatch hp⟩
theorem EvOk.cons {ev : Rng} {ps : PW} (e : EvOk ev ps) {w : Str} {n : Nat} (hw : w ∈ words) (hn : smallV n) : EvOk (bothR ev (lpR w n)) (ps ++ [(w, n)]) := by
  obtain ⟨h1, h2, h3⟩ := law_some hw hn
  refine ⟨wf_both e.w h2, fun v => ?_, ?_, fun p hp => ?_⟩
  · rw [has_both e.w h2, e.has]
    simp only [List.mem_append, List.mem_singleton]
    constructor
    · rintro ⟨a, b⟩ p (hp | rfl)
      · exact a p hp
      · exact b
    · intro q
      exact ⟨fun p hp => q p (.inl hp), q (w, n) (.inr rfl)⟩
  · have := len_both e.w h2
    have := e.len
    simp
    omega
  · rcases List.mem_append.mp hp with hp | hp
    · exact e.dr p hp
    · rw [List.mem_singleton.mp hp]; exact ⟨hw, hn⟩
structure DueOk (due : Rng) (as : List PW) : Prop where
  w : wf due
  has : ∀ v, Has due v ↔ ∃ ps ∈ as, ∀ p ∈ ps, Has (lpR p.1 p.2) v
  len : (endsOf due).length ≤ 16 * as.length
  dr : ∀ ps ∈ as, ps ≠ [] ∧ ps.length ≤ 3 ∧ drawnP ps
theorem DueOk.nil : DueOk [] [] := ⟨trivial, fun v => by simp [Has], by simp [endsOf], fun p hp => nomatch hp⟩
theorem DueOk.cons {due : Rng} {as : List PW} (d : DueOk due as) {ev : Rng} {ps : PW} (e : EvOk ev ps) (h0 : ps ≠ []) (h3 : ps.length ≤ 3) : DueOk (eitherR due ev) (as ++ [ps]) := by
  refine ⟨wf_either d.w e.w, fun v => ?_, ?_, fun q hq => ?_⟩
  · rw [has_either d.w e.w, d.has, e.has]
    simp only [List.mem_append, List.mem_singleton]
    constructor
    · rintro (⟨p, h1, h2⟩ | h1)
      · exact ⟨p, .inl h1, h2⟩
      · exact ⟨ps, .inr rfl, h1⟩
    · rintro ⟨p, h1 | rfl, h2⟩
      · exact .inl ⟨p, h1, h2⟩
      · exact .inr h2
  · have := len_either d.w e.w
    have := d.len
    have := e.len
    simp
    omega
  · rcases List.mem_append.mp hq with hq | hq
    · exact d.dr q hq
    · rw [List.mem_singleton.mp hq]; exact ⟨h0, h3, e.dr⟩
end CM
namespace CM
open PySem L2 PySem.Spec DL
open PyProof.Rows hiding St
open TL (tl pre spl numL joinL)
def sp_bent : DSp := fun ds st Q _ => match ds with
  | [.loc h, .str t] => ∃ c, Hd st h c ∧ t.length ≤ 10000 ∧ ∀ t' st', t'.length ≤ 2 * t.length + 60 → Hd st' h c → Sm h st st' → Q (.str t') st'
  | _ => False
@[simp] theorem e_bent {st : Sto} {Q : DK} {Z : DX → Sto → Prop} {h : Nat} {t : Str} : sp_bent [.loc h, .str t] st Q Z = ∃ c, Hd st h c ∧ t.length ≤ 10000 ∧ ∀ t' st', t'.length ≤ 2 * t.length + 60 → Hd st' h c → Sm h st st' → Q (.str t') st' := rfl
theorem sz_big {n : Nat} (h : n < 1000000) : n ≤ sizeLine := Nat.le_of_lt (sizeLine_big (by omega))
/-- text[:i] + .. -/
theorem cut_le (t : Str) (l u : Option Int) : (cutS t l u).length ≤ t.length := cutS_length t l u
end CM
namespace CM
open PySem L2 PySem.Spec DL
open PyProof.Rows hiding St
open TL (tl pre spl par numL joinL)
abbrev Wish := Str × Rng × List Str
abbrev Lock := Str × Nat
def encWish (w : Wish) : D := .tup [.str w.1, encR w.2.1, encL w.2.2]
def encLock (k : Lock) : D := .tup [.str k.1, encV k.2]
def encOL : Option (List Str) → D
  | none => .non
  | some l => encL l
def encOW : Option Wish → D
  | none => .non
  | some w => encWish w
def encOK : Option Lock → D
  | none => .non
  | some w => encLock w
def lotOk (ns : List Str) : Bool := namesF "" ns && decide (ns.length ≤ 4)
def namesOf (l : List Nat) : List Str := (spl [32] 0 [] l).map SL
def withL : List Nat := [32, 119, 105, 116, 104, 32]
def wantL (t : List Nat) : Option (List Str) := if t = [] then some [] else if pre withL t = true then (if lotOk (namesOf (t.drop 6)) = true then some (namesOf (t.drop 6)) else none) else none
def rangeL (l : List Nat) : Option Rng := if wrongAt (altsOf l) = none then some (readT l) else none
def targetB (n b : List Nat) : Option Wish := if nameL n = true then match par [41] [] b with
    | some (w, t) => match rangeL w, wantL t with
      | some r, some ns => some (SL n, r, ns)
      | _, _ => none
    | none => none
  else none
def targetL (l : List Nat) : Option Wish := match par [32] [] l with
  | some (n, 40 :: b) => targetB n b
  | _ => none
def placeL (l : List Nat) : Option Lock := match par [32] [] l with
  | some (n, b) => if nameL n = true then (verText b).map fun v => (SL n, v) else none
  | none => none
theorem partition_tl {x y : Str} {S : List Nat} (hy : tl y = S) (hS : S ≠ []) : Txt.partition x y = match par S [] (tl x) with
    | some (a, b) => (SL a, y, SL b)
    | none => (x, Str.empty, Str.empty) := by
  subst hy
  exact TL.partition_par x y hS
theorem tls2 : tl (" (" : Str) = [32, 40] ∧ tl (")" : Str) = [41] ∧ tl (" " : Str) = [32] ∧ tl (" with " : Str) = withL ∧ tl ("wish " : Str) = [119, 105, 115, 104, 32] ∧ tl ("lock " : Str) = [108, 111, 99, 107, 32] ∧ tl ("\n" : Str) = [10] ∧ tl ("with" : Str) = [119, 105, 116, 104] ∧ tl ("(" : Str) = [40] := by decide
theorem SL_tl (s : Str) : SL (tl s) = s := TL.ext_tl rfl
theorem map_SL_tl : ∀ l : List Str, (l.map tl).map SL = l
  | [] => rfl
  | s :: l => by rw [List.map_cons, List.map_cons, SL_tl, map_SL_tl l]
def sp_twant : DSp := fun ds st Q _ => match ds with
  | [.str t] => t.length ≤ 1000 ∧ Q (encOL (wantL (tl t))) st
  | _ => False
@[simp] theorem e_twant {st : Sto} {Q : DK} {Z : DX → Sto → Prop} {t : Str} : sp_twant [.str t] st Q Z = (t.length ≤ 1000 ∧ Q (encOL (wantL (tl t))) st) := rfl
theorem len0 {t : Str} : t = "" ↔ tl t = [] := by rw [str_eq]; rfl
end CM
namespace CM
open PySem L2 PySem.Spec DL
open PyProof.Rows hiding St
open TL (tl pre spl par numL joinL)
theorem s_partV {a b : Str} {st : Sto} {Q : DK} : dPartition (.str a) [.str b] st Q = ((b.length == 0) = false ∧ a.length ≤ sizeLine ∧ Q (.tup [.str (Txt.partition a b).1, .str (Txt.partition a b).2.1, .str (Txt.partition a b).2.2]) st) := rfl
def sp_trange : DSp := fun ds st Q _ => match ds with
  | [.str t] => t.length ≤ 1000 ∧ Q (encOR (rangeL (tl t))) st
  | _ => False
@[simp] theorem e_trange {st : Sto} {Q : DK} {Z : DX → Sto → Prop} {t : Str} : sp_trange [.str t] st Q Z = (t.length ≤ 1000 ∧ Q (encOR (rangeL (tl t))) st) := rfl
def sp_ttarget : DSp := fun ds st Q _ => match ds with
  | [.str t] => t.length ≤ 1000 ∧ Q (encOW (targetL (tl t))) st
  | _ => False
@[simp] theorem e_ttarget {st : Sto} {Q : DK} {Z : DX → Sto → Prop} {t : Str} : sp_ttarget [.str t] st Q Z = (t.length ≤ 1000 ∧ Q (encOW (targetL (tl t))) st) := rfl
theorem part3_len {l S : List Nat} (hS : S ≠ []) : (∀ a b, par S [] l = some (a, b) → a.length ≤ l.length ∧ b.length ≤ l.length) := fun a b h => by
  obtain ⟨q, e, rfl⟩ := par_some h
  simp only [List.nil_append] at e
  subst e
  simp only [List.length_append]
  omega
theorem str_of_par {x y : Str} {S : List Nat} (hy : tl y = S) (hS : S ≠ []) : (par S [] (tl x) = none ∧ Txt.partition x y = (x, Str.empty, Str.empty)) ∨ ∃ a b, par S [] (tl x) = some (a, b) ∧ Txt.partition x y = (SL a, y, SL b) ∧ (SL a).length ≤ x.length ∧ (SL b).length ≤ x.length := by
  rw [partition_tl hy hS]
  cases h : par S [] (tl x) with
  | none => exact .inl ⟨rfl, rfl⟩
  | some p =>
    obtain ⟨a, b⟩ := p
    have := part3_len hS a b h
    exact .inr ⟨a, b, rfl, rfl, by rw [TL.len_tl, TL.len_tl x]; exact this⟩
def sp_tplace : DSp := fun ds st Q _ => match ds with
  | [.str t] => t.length ≤ 1000 ∧ Q (encOK (placeL (tl t))) st
  | _ => False
@[simp] theorem e_tplace {st : Sto} {Q : DK} {Z : DX → Sto → Prop} {t : Str} : sp_tplace [.str t] st Q Z = (t.length ≤ 1000 ∧ Q (encOK (placeL (tl t))) st) := rfl
theorem verText_nil : verText [] = none := by decide +kernel
end CM
namespace CM
open PySem L2 PySem.Spec DL
open PyProof.Rows hiding St
open TL (tl pre spl par numL joinL)
def wishP : List Nat := [119, 105, 115, 104, 32]
def lockP : List Nat := [108, 111, 99, 107, 32]
end CM
namespace CM
open PySem L2 PySem.Spec DL
open PyProof.Rows hiding St
theorem namesF_of : ∀ {l : List Str} {p : Str}, (∀ s ∈ l, nameS s = true) → (p :: l).Pairwise (fun a b => ltS a b = true) → namesF p l = true
  | [], _, _, _ => rfl
  | s :: r, p, h, hp => by
    obtain ⟨h1, h2⟩ := List.pairwise_cons.mp hp
    simp only [namesF, Bool.and_eq_true]
    exact ⟨h s List.mem_cons_self, h1 s List.mem_cons_self, namesF_of (fun q hq => h q (List.mem_cons_of_mem _ hq)) h2⟩
end CM
namespace CM
open PySem L2 PySem.Spec DL
open PyProof.Rows hiding St
open TL (tl pre spl par numL joinL)
structure AskV (ws : List Wish) (ls : List Lock) : Prop where
  w8 : ws.length ≤ 8
  wv : ∀ w ∈ ws, nameS w.1 = true ∧ wf w.2.1 ∧ lotOk w.2.2 = true ∧ ∀ s ∈ w.2.2, s.length ≤ 1000
  l40 : ls.length ≤ 40
  lv : ∀ k ∈ ls, okV k.2
  ln : namesF "" (ls.map (·.1)) = true
theorem AskV.nil : AskV [] [] := ⟨by simp, by simp, by simp, by simp, rfl⟩
theorem name12 {s : Str} (h : nameS s = true) : s.length ≤ 12 := by
  unfold nameS at h
  simp only [Bool.and_eq_true, decide_eq_true_eq] at h
  exact h.1
theorem namesF_names : ∀ {l : List Str} {p : Str}, namesF p l = true → ∀ s ∈ l, nameS s = true
  | s :: r, p, h, t, ht => by
    simp only [namesF, Bool.and_eq_true] at h
    rcases List.mem_cons.mp ht with rfl | ht
    · exact h.1
    · exact namesF_names h.2.2 t ht
theorem ltS_eq (a b : Str) : ltS a b = decide (tl a < tl b) := PySem.W.dataLt_str a b
theorem ltS_empty {s : Str} (h : nameS s = true) : ltS "" s = true := by
  rw [ltS_eq]
  rw [nameS_eq] at h
  have e : tl ("" : Str) = [] := rfl
  rw [e]
  cases hs : tl s with
  | nil => rw [hs] at h; exact absurd h (by decide)
  | cons c r => simp
theorem verM_okV {d : D} {n : Nat} (h : verM 1000000 d = some n) : okV n := by
  unfold verM at h
  split at h
  · split at h
    · rename_i x y z e1 e2 e3
      cases h
      have h1 := (most_some e1).2
      have h2 := (most_some e2).2
      have h3 := (most_some e3).2
      unfold okV
      rw [vA_mk (by omega) (by omega)]
      exact h1
    · cases h
  · cases h
theorem ok_encL {st : Sto} (l : List Str) : ok st (encL l) := by
  unfold encL
  rw [ok_tup]
  induction l with
  | nil => simp
  | cons s l ih => simp [ih]
end CM
namespace CM
open PySem L2 PySem.Spec DL
open PyProof.Rows hiding St
open TL (tl pre spl par numL joinL)
theorem strOk_name {s : Str} (h : nameS s = true) : PyData.strOk s = true := by
  rw [nameS_eq] at h
  have := nameL_free h
  unfold PyData.strOk
  rw [← Array.all_toList, List.all_eq_true]
  intro c hc
  have := this c hc
  simp
  omega
theorem pus_strs : ∀ {l : List Str}, (∀ s ∈ l, nameS s = true) → pus (l.map .str) = true
  | [], _ => rfl
  | s :: l, h => by
    simp only [List.map_cons, pus, pu, Bool.and_eq_true]
    exact ⟨strOk_name (h s List.mem_cons_self), pus_strs fun t ht => h t (List.mem_cons_of_mem _ ht)⟩
theorem dps_strs : ∀ l : List Str, dps (l.map .str) = 0
  | [] => rfl
  | s :: l => by simp only [List.map_cons, dps, dp, dps_strs l]; rfl
section
variable [EC : ErrCtx]
def lastS (l : List Str) : Str := l.getLast?.getD ""
def sp_lines : DSp := fun ds st Q Z => match ds with
  | [d] => (∃ t, d = .str t ∧ t.length ≤ 100000 ∧ Q (.tup [.loc st.length, .str (lastS (Txt.split t "\n"))]) (st ++ [.lst ((Txt.split t "\n").dropLast.map .str)])) ∨ ((∃ T, tyN st d = some T ∧ T ≠ "str") ∧ Z (errX 4 [("number", .int 0)]) st)
  | _ => False
theorem split_ne (t y : Str) (hy : tl y ≠ []) (h : ∀ c ∈ tl y, c < 256) : Txt.split t y ≠ [] := fun z => by
  have := split_tl (x := t) rfl hy h
  rw [z] at this
  exact spl_ne _ _ _ this.symm
theorem r_lines_of : Rd 1 sp_lines RD.t_lines_of RD.N_lines_of := by
  intro ds st Q Z hl h
  match ds, hl, h with
  | [d], _, .inr ⟨⟨T, e, hT⟩, q⟩ =>
    unfold RD.t_lines_of
    have : tySub T "str" = false := by simp [tySub, hT]
    rw [s_seq, s_ifS, s_not, s_tru, s_isi, s_var]
    show (match tyN st d with | some a => _ | none => False)
    rw [e]
    dsimp only
    rw [show (["str"].any (tySub T)) = false by simp [this], s_tru_bl, if_pos (by simp), s_raise1, s_c]
    exact .inl q
  | [_], _, .inl ⟨t, rfl, ht, q⟩ =>
    unfold RD.t_lines_of
    rw [s_seq, s_ifS, s_not, s_tru, s_isi, s_var]
    show truD st (.bl true) _
    rw [s_tru_bl, if_neg (by simp), s_next]
    dsimp only
    rw [s_seq, s_asg, s_bm, s_var]
    show tyD st "str" (.str t) ∧ _
    refine ⟨rfl, ?_⟩
    rw [s_cons, s_c, s_nil, s_split]
    refine ⟨by decide, sz1m (by omega), ?_⟩
    rw [s_gN]
    dsimp only
    show dSeq _ _ _ [some (.str t), some (.loc st.length), none] _
    have hne := split_ne t "\n" (by decide) (by decide)
    generalize Txt.split t "\n" = W at q hne ⊢
    obtain ⟨W0, w, rfl⟩ : ∃ W0 w, W = W0 ++ [w] := ⟨W.dropLast, W.getLast hne, (List.dropLast_concat_getLast hne).symm⟩
    rw [s_seq, s_asg, s_bm, s_var]
    show tyD _ "list" (.loc st.length) ∧ _
    refine ⟨by simp, ?_⟩
    rw [s_nil, s_pop]
    refine ⟨_, .str w, getElem?_push, by simp, ?_⟩
    rw [s_gN]
    dsimp only
    show dRet _ _ [some (.str t), some (.loc st.length), some (.str w)] _
    rw [s_ret, s_dtup, s_cons, s_var]
    show dCons _ _ _ _ _ _
    rw [s_cons, s_var]
    refine ⟨szk _ (by simp), .inl ?_⟩
    simpa [lastS] using q
end
end CM
namespace CM
open PySem L2 PySem.Spec DL
open PyProof.Rows hiding St
open TL (tl pre spl par numL joinL)
section
variable [EC : ErrCtx]
omit [EC : ErrCtx] in
theorem lines_tl (t : Str) : (Txt.split t "\n").map tl = spl [10] 0 [] (tl t) := split_tl tls2.2.2.2.2.2.2.1 (by simp) (by simp)
end
theorem var_ev {i : Nat} {d : D} {ρ : Env'} {st : Sto} {Q : DK} {Z : DZ} (h : ρ[i]? = some (some d)) (q : Q d st) : dVar i ρ st Q Z := by
  rw [s_var, h]
  exact q
theorem fmt_ev {te : DTE} {y : Str} {ρ : Env'} {st : Sto} {Q : DK} {Z : DZ} (he : ∀ (QE : DK) Z, QE (.str y) st → te ρ st QE Z) (hl : y.length ≤ sizeLine) (q : Q (.str y) st) : dFmt te ρ st Q Z := by
  rw [s_fmt]
  exact he _ _ ⟨hl, q⟩
theorem js_ev {te : DTE} {ts : List DTE} {acc y : Str} {ρ : Env'} {st : Sto} {Q : Str → Sto → Prop} {Z : DZ} (he : ∀ (QE : DK) Z, QE (.str y) st → te ρ st QE Z) (hl : (acc ++ y).length ≤ sizeLine) (q : dJs ts (acc ++ y) ρ st Q Z) : dJs (te :: ts) acc ρ st Q Z := by
  rw [s_js]
  exact he _ _ ⟨hl, q⟩
def lineS (s : Str) : Str := s ++ "\n"
def linesT (W : List Str) : Str := Txt.join "" (W.map lineS)
def sp_textof : DSp := fun ds st Q _ => match ds with
  | [.loc m] => ∃ W : List Str, st[m]? = some (.lst (W.map .str)) ∧ W.length ≤ 1000 ∧ (∀ w ∈ W, w.length ≤ 1000) ∧ Q (.str (linesT W)) st
  | _ => False
theorem lineS_len (s : Str) : (lineS s).length = s.length + 1 := by
  unfold lineS
  rw [app_len]
  rfl
theorem lines_sum {W : List Str} (h1 : W.length ≤ 1000) (h2 : ∀ w ∈ W, w.length ≤ 1000) : ((W.map lineS).map (·.length)).sum + (W.map lineS).length * ("" : Str).length ≤ 16777216 := by
  have := sum_le (fun s => (lineS s).length) 1001 W fun w hw => by rw [lineS_len]; have := h2 w hw; omega
  rw [List.map_map, List.length_map, show ("" : Str).length = 0 from rfl, show ((fun x : Str => x.length) ∘ lineS) = fun s => (lineS s).length from rfl]
  omega
/-- lines with their ends, one by one -/
theorem runC_lines {te : DTE} {ρ : Env'} {Q : DK} {G : Sto → Prop} {i : Nat} {st : Sto} (hG : G st) (ht : ∀ (w : Str) (QT : DK), w.length ≤ 1000 → QT (.str (lineS w)) st → te (ρ.set i (some (.str w))) st QT Z0) : ∀ (W : List Str) (acc : List D), (∀ w ∈ W, w.length ≤ 1000) → acc.length + W.length < 10000 →
    Q (.loc st.length) (st ++ [.lst (acc ++ (W.map lineS).map .str)]) → runC (gN i) dYes te ρ Q G (W.map .str) acc st
  | [], acc, _, _, q => ⟨hG, by simpa using q⟩
  | w :: W, acc, hw, hl, q => by
    rw [List.map_cons, runC_cons]
    refine ⟨hG, ?_⟩
    have ih := runC_lines (Q := Q) hG ht W
    generalize hR : runC (gN i) dYes te ρ Q G (W.map .str) = R at ih ⊢
    rw [s_gN, s_yes, if_pos rfl]
    simp only [List.length_cons] at hl
    exact ht w _ (hw w List.mem_cons_self) ⟨sizeLine_big (by omega), ih _ (fun z hz => hw z (List.mem_cons_of_mem _ hz)) (by simp; omega) (by simpa using q)⟩
theorem r_text_of : Rd 1 sp_textof RD.t_text_of RD.N_text_of := by
  intro ds st Q Z hl h
  match ds, hl, h with
  | [.loc m], _, ⟨W, hm, h1, h2, q⟩ =>
    unfold RD.t_text_of
    rw [s_ret, s_bm, s_c]
    refine ⟨rfl, ?_⟩
    rw [s_cons, s_lc, s_iD, s_var]
    show walkD _ (.loc m) _
    rw [s_walk_loc]
    refine ⟨_, hm, runC_lines hm (fun w QT hw qt => ?_) W [] h2 (by simp; omega) ?_⟩
    · unfold RD.e_text_of_1
      rw [s_joined]
      refine js_ev (y := w) (fun QE Z qe => fmt_ev (fun QE Z qe => var_ev rfl qe) (sz_big (by omega)) qe) (by rw [emp_app]; exact sz_big (by omega)) ?_
      rw [emp_app]
      exact js_ev (y := "\n") (fun QE Z qe => qe) (by rw [app_len]; exact sz_big (by have : ("\n" : Str).length = 1 := rfl; omega)) qt
    · rw [s_nil, s_join]
      refine ⟨W.map lineS, by simp, lines_sum h1 h2, ?_⟩
      exact back_tup ⟨_, rfl⟩ rfl q
end CM
namespace CM
open PySem L2 PySem.Spec DL
open PyProof.Rows hiding St
open TL (tl pre spl par numL joinL)
def placeT (k : Lock) : Str := (k.1 ++ " ") ++ vText k.2
theorem k1 : (" " : Str).length = 1 ∧ (" (" : Str).length = 2 ∧ (")" : Str).length = 1 ∧ ("with" : Str).length = 4 ∧ ("wish " : Str).length = 5 ∧ ("lock " : Str).length = 5 ∧ (" with " : Str).length = 6 := by decide
theorem placeT_len {k : Lock} (hn : nameS k.1 = true) (hk : okV k.2) : (placeT k).length ≤ 40 := by
  have h1 := name12 hn
  have h2 := vText_len hk
  unfold placeT
  simp only [app_len, k1.1]
  omega
def sp_placeT : DSp := fun ds st Q _ => match ds with
  | [d, e] => ∃ k : Lock, d = .str k.1 ∧ e = encV k.2 ∧ nameS k.1 = true ∧ okV k.2 ∧ Q (.str (placeT k)) st
  | _ => False
theorem r_place_text : Rd 2 sp_placeT (RD.t_place_text sp_vtext) RD.N_place_text := by
  intro ds st Q Z hl h
  match ds, hl, h with
  | [d, e], _, ⟨k, hd, he, hn, hk, q⟩ =>
    subst hd he
    have h1 := name12 hn
    have h2 := vText_len hk
    unfold RD.t_place_text
    rw [s_ret, s_joined]
    refine js_ev (y := k.1) (fun QE Z qe => fmt_ev (fun QE Z qe => var_ev rfl qe) (sz_big (by omega)) qe) (by rw [emp_app]; exact sz_big (by omega)) ?_
    rw [emp_app]
    refine js_ev (y := " ") (fun QE Z qe => qe) (by rw [app_len, k1.1]; exact sz_big (by omega)) ?_
    refine js_ev (y := vText k.2) (fun QE Z qe => fmt_ev (fun QE Z qe => ?_) (sz_big (by omega)) qe) (by rw [app_len, app_len, k1.1]; exact sz_big (by omega)) ?_
    · rw [s_call, s_cons, s_var]
      show dNil _ _ _ _
      rw [s_nil, e_vtext]
      exact ⟨rfl, hk, qe⟩
    · exact .inl q
end CM
namespace CM
open PySem L2 PySem.Spec DL
open PyProof.Rows hiding St
open TL (tl pre spl par numL joinL)
theorem low_mem (c : Nat) : decide (c ∈ ("abcdefghijklmnopqrstuvwxyz" : Str).cps.toList) = decide (97 ≤ c ∧ c ≤ 122) := by
  have e : ("abcdefghijklmnopqrstuvwxyz" : Str).cps.toList = [97, 98, 99, 100, 101, 102, 103, 104, 105, 106, 107, 108, 109, 110, 111, 112, 113, 114, 115, 116, 117, 118, 119, 120, 121, 122] := by decide
  rw [e]
  refine decide_eq_decide.mpr ?_
  simp only [List.mem_cons, List.not_mem_nil, or_false]
  omega
def sp_lname : DSp := fun ds st Q _ => match ds with
  | [.str t] => t.length ≤ 1000 ∧ Q (.bl (nameL (tl t))) st
  | _ => False
@[simp] theorem e_lname {st : Sto} {Q : DK} {Z : DX → Sto → Prop} {t : Str} : sp_lname [.str t] st Q Z = (t.length ≤ 1000 ∧ Q (.bl (nameL (tl t))) st) := rfl
theorem asc_perm (M : List Str) : (TxS.asc M).Perm M := List.mergeSort_perm _ _
theorem le_ltS (a b : Str) : PySem.W.dataLe false PyData.str a b = !ltS b a := rfl
theorem ltS_irrefl (a : Str) : ltS a a = false := by rw [ltS_eq]; simp
theorem ltS_trans {a b c : Str} (h1 : ltS a b = true) (h2 : ltS b c = true) : ltS a c = true := by
  rw [ltS_eq] at *
  simp only [decide_eq_true_eq] at *
  exact List.lt_trans h1 h2
theorem ltS_tri {a b : Str} (h1 : ltS a b = false) (h2 : ltS b a = false) : a = b := by
  rw [ltS_eq] at *
  simp only [decide_eq_false_iff_not] at *
  exact str_eq.mpr (List.le_antisymm h2 h1)
theorem asc_sorted (M : List Str) : (TxS.asc M).Pairwise fun a b => ltS b a = false := by
  have := List.pairwise_mergeSort (le := PySem.W.dataLe false PyData.str) (fun a b c h1 h2 => by
      rw [le_ltS] at *
      cases h : ltS c a with
      | false => rfl
      | true =>
        exfalso
        have h1' : ltS b a = false := by simpa using h1
        have h2' : ltS c b = false := by simpa using h2
        cases hab : ltS a b with
        | false => rw [ltS_tri hab h1'] at h; rw [h] at h2'; cases h2'
        | true => rw [ltS_trans h hab] at h2'; cases h2')
    (fun a b => by
      rw [le_ltS, le_ltS]
      cases h : ltS b a with
      | false => rfl
      | true =>
        cases h2 : ltS a b with
        | false => rfl
        | true => have := ltS_trans h h2; rw [ltS_irrefl] at this; cases this) M
  refine this.imp fun h => ?_
  rw [le_ltS] at h
  simpa using h
def up (l : List Str) : Prop := l.Pairwise fun a b => ltS a b = true
theorem asc_up {M : List Str} (h : M.Nodup) : up (TxS.asc M) := by
  have h1 := asc_sorted M
  have h2 : (TxS.asc M).Nodup := (asc_perm M).nodup_iff.mpr h
  refine (h1.and h2).imp fun {a b} hab => ?_
  cases h : ltS a b with
  | true => rfl
  | false => exact absurd (ltS_tri h hab.1) hab.2
theorem up_uniq : ∀ {l m : List Str}, up l → up m → (∀ x, x ∈ l ↔ x ∈ m) → l = m
  | [], [], _, _, _ => rfl
  | [], b :: m, _, _, h => absurd ((h b).mpr List.mem_cons_self) (by simp)
  | a :: l, [], _, _, h => absurd ((h a).mp List.mem_cons_self) (by simp)
  | a :: l, b :: m, hl, hm, h => by
    obtain ⟨l1, l2⟩ := List.pairwise_cons.mp hl
    obtain ⟨m1, m2⟩ := List.pairwise_cons.mp hm
    have e : a = b := by
      rcases List.mem_cons.mp ((h a).mp List.mem_cons_self) with e | ha
      · exact e
      rcases List.mem_cons.mp ((h b).mpr List.mem_cons_self) with e | hb
      · exact e.symm
      have := ltS_trans (l1 b hb) (m1 a ha)
      rw [ltS_irrefl] at this
      cases this
    subst e
    have na : a ∉ l := fun z => by have := l1 a z; rw [ltS_irrefl] at this; cases this
    have nb : a ∉ m := fun z => by have := m1 a z; rw [ltS_irrefl] at this; cases this
    congr 1
    refine up_uniq l2 m2 fun x => ?_
    have := h x
    simp only [List.mem_cons] at this
    constructor
    · intro hx
      rcases this.mp (.inr hx) with e | hx'
      · exact absurd (e ▸ hx) na
      · exact hx'
    · intro hx
      rcases this.mpr (.inr hx) with e | hx'
      · exact absurd (e ▸ hx) nb
      · exact hx'
theorem namesF_iff : ∀ {l : List Str} {p : Str}, (∀ s ∈ l, nameS s = true) → (namesF p l = true ↔ (p :: l).Pairwise fun a b => ltS a b = true) := fun {l p} hs =>
  ⟨fun h => by
    induction l generalizing p with
    | nil => simp
    | cons s r ih =>
      simp only [namesF, Bool.and_eq_true] at h
      have h2 := ih (p := s) (fun z hz => hs z (List.mem_cons_of_mem _ hz)) h.2.2
      refine List.pairwise_cons.mpr ⟨fun z hz => ?_, h2⟩
      rcases List.mem_cons.mp hz with rfl | hz
      · exact h.2.1
      · exact ltS_trans h.2.1 ((List.pairwise_cons.mp h2).1 z hz), fun h => namesF_of hs h⟩
theorem namesF_up {l : List Str} (hs : ∀ s ∈ l, nameS s = true) : namesF "" l = true ↔ up l := by
  rw [namesF_iff hs]
  exact ⟨fun h => (List.pairwise_cons.mp h).2, fun h => List.pairwise_cons.mpr ⟨fun z hz => ltS_empty (hs z hz), h⟩⟩
end CM
namespace CM
open PySem L2 PySem.Spec DL
open PyProof.Rows hiding St
open TL (tl pre spl par numL joinL)
/-- == of lists of plain data -/
theorem eq_lists {f : Bool → Bool} {a b : Nat} {ds es : List D} {st : Sto} {Q : DK} {r : Bool} (ha : st[a]? = some (.lst ds)) (hb : st[b]? = some (.lst es)) (hx : pus ds = true) (hy : pus es = true) (dx : dps ds ≤ 50) (dy : dps es ≤ 50) (hr : r = true ↔ ds = es) (q : Q (.bl (f r)) st) : dEqB f (.loc a) (.loc b) st Q := by
  unfold dEqB
  dsimp only [atomEq]
  have one : ∀ {m : Nat} {ds : List D}, st[m]? = some (.lst ds) → pus ds = true → dps ds ≤ 50 → pdF st 60 (.loc m) = some (.list (pds ds)) := fun {m ds} hm hp hd => by
    unfold pdF
    rw [hm]
    dsimp only
    rw [mapM_pds (n := 59) (fun d h1 h2 => pdF_pd st 59 d h1 h2) ds hp (by omega)]
    rfl
  have sh : ∀ {ds : List D}, pus ds = true → dps ds ≤ 50 → SeqAt.shaped (.list (pds ds)) = true := fun {ds} hp hd => by
    unfold SeqAt.shaped
    have h1 := pds_lay ds hp
    have h2 := pds_depth ds
    simp [PyData.canLay0, PyData.depth, h1, h2]
    omega
  refine ⟨60, _, _, one ha hx dx, one hb hy dy, sh hx dx, sh hy dy, ?_⟩
  have : PyData.eqv (.list (pds ds)) (.list (pds es)) = r := by
    have h := eqv_pds ds es hx hy
    have e : PyData.eqv (.list (pds ds)) (.list (pds es)) = PyData.eqvAll (pds ds) (pds es) := by simp [PyData.eqv]
    rw [e]
    cases r <;> cases e2 : PyData.eqvAll (pds ds) (pds es) <;> simp_all
  rw [this]
  exact q
end CM
namespace CM
open PySem L2 PySem.Spec DL
open PyProof.Rows hiding St
open TL (tl pre spl par numL joinL)
def sp_lrv : DSp := fun ds st Q _ => match ds with
  | [.str t] => t.length ≤ 1000 ∧ Q (encO (verText (tl t))) st
  | _ => False
@[simp] theorem e_lrv {st : Sto} {Q : DK} {Z : DX → Sto → Prop} {t : Str} : sp_lrv [.str t] st Q Z = (t.length ≤ 1000 ∧ Q (encO (verText (tl t))) st) := rfl
def sp_lrp : DSp := fun ds st Q _ => match ds with
  | [.str t] => t.length ≤ 1000 ∧ Q (encOR (partOf (tl t))) st
  | _ => False
@[simp] theorem e_lrp {st : Sto} {Q : DK} {Z : DX → Sto → Prop} {t : Str} : sp_lrp [.str t] st Q Z = (t.length ≤ 1000 ∧ Q (encOR (partOf (tl t))) st) := rfl
end CM
namespace CM
open PySem L2 PySem.Spec DL
open PyProof.Rows hiding St
open TL (tl pre spl par numL joinL)
def sp_lrr : DSp := fun ds st Q _ => match ds with
  | [.str t] => t.length ≤ 1000 ∧ (tl t).count 44 ≤ 6 ∧ (tl t).count 124 ≤ 2 ∧ Q (encOR (rangeL (tl t))) st
  | _ => False
@[simp] theorem e_lrr {st : Sto} {Q : DK} {Z : DX → Sto → Prop} {t : Str} : sp_lrr [.str t] st Q Z = (t.length ≤ 1000 ∧ (tl t).count 44 ≤ 6 ∧ (tl t).count 124 ≤ 2 ∧ Q (encOR (rangeL (tl t))) st) := rfl
end CM
namespace CM
open PySem L2 PySem.Spec DL
open PyProof.Rows hiding St
open TL (tl pre spl par numL joinL)
theorem tl_cut2 (t : Str) (a b : Nat) (hab : a ≤ b) (hb : b ≤ t.length) : tl (cutS t (some (a : Int)) (some (b : Int))) = ((tl t).drop a).take (b - a) := by
  show ((tl t).drop (_root_.HT.sIx t.length 0 (some (a : Int)))).take (_root_.HT.sIx t.length t.length (some (b : Int)) - _root_.HT.sIx t.length 0 (some (a : Int))) = _
  have e1 : ∀ d, ∀ k : Nat, _root_.HT.sIx t.length d (some (k : Int)) = min k t.length := fun d k => by
    show (if ((k : Int)) < 0 then ((k : Int) + (t.length : Int)).toNat else min (k : Int).toNat t.length) = _
    rw [if_neg (by omega)]
    rfl
  rw [e1, e1, Nat.min_eq_left hb, Nat.min_eq_left (by omega)]
def wishLine (l : List Nat) : Option Wish := if pre wishP l = true then targetL (l.drop 5) else none
def lockLine (l : List Nat) : Option Lock := if pre lockP l = true then placeL (l.drop 5) else none
end CM
namespace CM
open PySem L2 PySem.Spec DL
open PyProof.Rows hiding St
open TL (tl pre spl par numL joinL)
def sp_lrk : DSp := fun ds st Q _ => match ds with
  | [.str t] => t.length ≤ 1000 ∧ Q (encOK (lockLine (tl t))) st
  | _ => False
@[simp] theorem e_lrk {st : Sto} {Q : DK} {Z : DX → Sto → Prop} {t : Str} : sp_lrk [.str t] st Q Z = (t.length ≤ 1000 ∧ Q (encOK (lockLine (tl t))) st) := rfl
def sp_lrw : DSp := fun ds st Q _ => match ds with
  | [.str t] => t.length ≤ 1000 ∧ (tl t).count 44 ≤ 6 ∧ (tl t).count 124 ≤ 2 ∧ Q (encOW (wishLine (tl t))) st
  | _ => False
@[simp] theorem e_lrw {st : Sto} {Q : DK} {Z : DX → Sto → Prop} {t : Str} : sp_lrw [.str t] st Q Z = (t.length ≤ 1000 ∧ (tl t).count 44 ≤ 6 ∧ (tl t).count 124 ≤ 2 ∧ Q (encOW (wishLine (tl t))) st) := rfl
end CM
namespace CM
open PySem L2 PySem.Spec DL
open PyProof.Rows hiding St
open TL (tl pre spl par numL joinL)
theorem sub2 {α : Type} {x y : α} {sub : List α} (h : List.Sublist sub [x, y]) : sub = [] ∨ sub = [x] ∨ sub = [y] ∨ sub = [x, y] := by
  cases h with
  | cons _ h => cases h with
    | cons _ h => cases h; simp
    | cons_cons _ h => cases h; simp
  | cons_cons _ h => cases h with
    | cons _ h => cases h; simp
    | cons_cons _ h => cases h; simp
end CM
namespace CM
open PySem L2 PySem.Spec DL
open PyProof.Rows hiding St
def kvsK (c : Nat) (a b d e : Int) : List (Key × D) := [(.inr "cells", .loc c), (.inr "at", .int a), (.inr "left", .int b), (.inr "seed", .int d), (.inr "turn", .int e)]
def handK (c : Nat) (a b d e : Int) : Ob := .dK (kvsK c a b d e)
section
variable {c : Nat} {a b d e x : Int}
theorem vk_cells : valD (kvsK c a b d e) (.inr "cells") = some (.loc c) := rfl
theorem vk_at : valD (kvsK c a b d e) (.inr "at") = some (.int a) := rfl
theorem vk_left : valD (kvsK c a b d e) (.inr "left") = some (.int b) := rfl
theorem vk_seed : valD (kvsK c a b d e) (.inr "seed") = some (.int d) := rfl
theorem vk_turn : valD (kvsK c a b d e) (.inr "turn") = some (.int e) := rfl
theorem pk_at : putD (kvsK c a b d e) (.inr "at") (.int x) = kvsK c x b d e := rfl
theorem pk_left : putD (kvsK c a b d e) (.inr "left") (.int x) = kvsK c a x d e := rfl
theorem pk_seed : putD (kvsK c a b d e) (.inr "seed") (.int x) = kvsK c a b x e := rfl
theorem pk_turn : putD (kvsK c a b d e) (.inr "turn") (.int x) = kvsK c a b d x := rfl
theorem len_kvsK : (kvsK c a b d e).length = 5 := rfl
end
structure HdK (st : Sto) (h c : Nat) : Prop where
  ex : ∃ (cells : List Int) (a b d e : Int), st[h]? = some (handK c a b d e) ∧ st[c]? = some (.lst (cells.map .int)) ∧ 0 ≤ a
section
variable {st st' : Sto} {h c : Nat}
theorem HdK.ne (H : HdK st h c) : c ≠ h := by
  obtain ⟨cells, a, b, d, e, h1, h2, _⟩ := H.ex
  intro z
  rw [z, h1] at h2
  cases h2
theorem HdK.hlt (H : HdK st h c) : h < st.length := by
  obtain ⟨cells, a, b, d, e, h1, h2, _⟩ := H.ex
  exact (List.getElem?_eq_some_iff.mp h1).1
theorem HdK.clt (H : HdK st h c) : c < st.length := by
  obtain ⟨cells, a, b, d, e, h1, h2, _⟩ := H.ex
  exact (List.getElem?_eq_some_iff.mp h2).1
theorem HdK.app (H : HdK st h c) (g : Sto) : HdK (st ++ g) h c := by
  obtain ⟨cells, a, b, d, e, h1, h2, h3⟩ := H.ex
  exact ⟨cells, a, b, d, e, gb h1, gb h2, h3⟩
end
structure GrK (h c : Nat) (st st' : Sto) : Prop where
  len : st.length ≤ st'.length
  same : ∀ n, n < st.length → n ≠ h → st'[n]? = st[n]?
  hd : HdK st' h c
  hd0 : HdK st h c
theorem GrK.hlt {h c : Nat} {st st' : Sto} (g : GrK h c st st') : h < st.length := g.hd0.hlt
theorem GrK.clt {h c : Nat} {st st' : Sto} (g : GrK h c st st') : c < st.length := g.hd0.clt
theorem GrK.refl {h c : Nat} {st : Sto} (H : HdK st h c) : GrK h c st st := ⟨Nat.le_refl _, fun _ _ _ => rfl, H, H⟩
theorem GrK.trans {h c : Nat} {st st1 st2 : Sto} (a : GrK h c st st1) (b : GrK h c st1 st2) : GrK h c st st2 :=
  ⟨Nat.le_trans a.len b.len, fun n hn hne => (b.same n (Nat.lt_of_lt_of_le hn a.len) hne).trans (a.same n hn hne), b.hd, a.hd0⟩
theorem GrK.sm {h c : Nat} {st st1 st2 : Sto} (g : GrK h c st st1) (s : Sm h st1 st2) (H : HdK st2 h c) : GrK h c st st2 :=
  ⟨by rw [s.len]; exact g.len, fun n hn hne => (s.same n hne).trans (g.same n hn hne), H, g.hd0⟩
theorem GrK.app {h c : Nat} {st st1 : Sto} (g : GrK h c st st1) (x : Sto) : GrK h c st (st1 ++ x) :=
  ⟨by simp; have := g.len; omega, fun n hn hne => by rw [List.getElem?_append_left (by have := g.len; omega)]; exact g.same n hn hne, g.hd.app x, g.hd0⟩
theorem GrK.get {h c n : Nat} {st st1 : Sto} {b : Ob} (g : GrK h c st st1) (hb : st[n]? = some b) (hne : n ≠ h) : st1[n]? = some b := by
  rw [g.same n (List.getElem?_eq_some_iff.mp hb).1 hne]; exact hb
/-- a thing of one's own, behind what stood, is changed -/
theorem GrK.set {h c n : Nat} {o : Ob} {st0 st : Sto} (g : GrK h c st0 st) (hn : st0.length ≤ n) : GrK h c st0 (st.set n o) := by
  have h1 := g.hlt
  have h2 := g.clt
  refine ⟨by simp; exact g.len, fun m hm hne => by rw [List.getElem?_set_ne (by omega)]; exact g.same m hm hne, ?_, g.hd0⟩
  obtain ⟨cells, a, b, d, e, q1, q2, q3⟩ := g.hd.ex
  exact ⟨cells, a, b, d, e, by rw [List.getElem?_set_ne (by omega)]; exact q1, by rw [List.getElem?_set_ne (by omega)]; exact q2, q3⟩
theorem below_handK {n c : Nat} {a b d e : Int} (h : c < n) : Ob.below n (handK c a b d e) = true := by
  simp [Ob.below, handK, kvsK, D.blws, D.blw, h]
theorem back_handK {h c : Nat} {st st' : Sto} {Q : DK} {d : D} (g : GrK h c st st') (hb : D.blw st.length d = true) (q : ∀ st1, HdK st1 h c → Sm h st st1 → Q d st1) : DL.Back st Q d st' := by
  have hl := g.len
  have htl : (st'.take st.length).length = st.length := by simp; omega
  have hg : ∀ n, n < st.length → (st'.take st.length)[n]? = st'[n]? := fun n hn => by rw [List.getElem?_take]; simp [hn]
  have hs : Sm h st (st'.take st.length) := ⟨htl, fun n hne => by
    by_cases hn : n < st.length
    · rw [hg n hn, g.same n hn hne]
    · rw [List.getElem?_eq_none (by omega), List.getElem?_eq_none (by omega)]⟩
  obtain ⟨cells, a, b, d', e, h1, h2, h3⟩ := g.hd.ex
  have hH : HdK (st'.take st.length) h c := ⟨cells, a, b, d', e, by rw [hg h g.hlt]; exact h1, by rw [hg c g.clt]; exact h2, h3⟩
  refine .inr ⟨st'.take st.length, st'.drop st.length, (List.take_append_drop _ _).symm, htl, fun x hx => ?_, .inl ⟨hb, q _ hH hs⟩⟩
  obtain ⟨n, hn⟩ := List.mem_iff_getElem?.mp hx
  have hlt : n < st.length := by
    have := (List.getElem?_eq_some_iff.mp hn).1
    omega
  by_cases hne : n = h
  · subst hne
    rw [hg n hlt, h1] at hn
    cases hn
    exact .inr (below_handK g.clt)
  · rw [hs.same n hne] at hn
    exact .inl (List.mem_of_getElem? hn)
def sp_handK : DSp := fun ds st Q _ => match ds with
  | [d] => ∃ ns : List Int, IsL st d ns ∧ ns.length ≤ 63 ∧ ∀ st' h c, (∃ g, st' = st ++ g) → HdK st' h c → st.length ≤ h → st.length ≤ c → Q (.loc h) st'
  | _ => False
def sp_drawK : DSp := fun ds st Q _ => match ds with
  | [.loc h, .int m] => ∃ c, HdK st h c ∧ 0 < m ∧ m < 1000000000 ∧ ∀ r st', 0 ≤ r → r < m → HdK st' h c → Sm h st st' → Q (.int r) st'
  | _ => False
def sp_anyK : DSp := fun ds st Q _ => match ds with
  | [.loc h, .loc n] => ∃ c es, HdK st h c ∧ st[n]? = some (.lst es) ∧ n ≠ h ∧ 0 < es.length ∧ es.length < 1000000000 ∧ ∀ e st', e ∈ es → HdK st' h c → Sm h st st' → Q e st'
  | [.loc h, .str t] => ∃ c, HdK st h c ∧ 0 < t.length ∧ t.length < 1000000 ∧ ∀ x st', x ∈ t.cps.toList → HdK st' h c → Sm h st st' → Q (.str ⟨#[x]⟩) st'
  | _ => False
theorem e_drawK {st : Sto} {Q : DK} {Z : DX → Sto → Prop} {h : Nat} {m : Int} : sp_drawK [.loc h, .int m] st Q Z = ∃ c, HdK st h c ∧ 0 < m ∧ m < 1000000000 ∧ ∀ r st', 0 ≤ r → r < m → HdK st' h c → Sm h st st' → Q (.int r) st' := rfl
theorem e_anyL {st : Sto} {Q : DK} {Z : DX → Sto → Prop} {h n : Nat} : sp_anyK [.loc h, .loc n] st Q Z = ∃ c es, HdK st h c ∧ st[n]? = some (.lst es) ∧ n ≠ h ∧ 0 < es.length ∧ es.length < 1000000000 ∧ ∀ e st', e ∈ es → HdK st' h c → Sm h st st' → Q e st' := rfl
end CM
namespace CM
open PySem L2 PySem.Spec DL
open PyProof.Rows hiding St
theorem k_ev {h : Nat} {x : Str} {c : Nat} {a b d e : Int} {v : D} {ρ : Env'} {st : Sto} {Q : DK} {Z : DZ} (h0 : ρ[0]? = some (some (.loc h))) (hk : st[h]? = some (handK c a b d e)) (hv : valD (kvsK c a b d e) (.inr x) = some v) (q : Q v st) : dDGet (dVar 0) (dC (.str x)) ρ st Q Z := by
  unfold dDGet
  rw [s_var, h0]
  show dC (.str x) ρ st _ _
  rw [s_c]
  exact ⟨h, _, _, _, rfl, hk, rfl, hv, q⟩
theorem ks_ev {h : Nat} {x : Str} {y : D} {kvs : List (Key × D)} {c : Nat} {a b d e : Int} {ρ : Env'} {st : Sto} {Qn : Env' → Sto → Prop} (h0 : ρ[0]? = some (some (.loc h))) (hk : st[h]? = some (handK c a b d e)) (hv : putD (kvsK c a b d e) (.inr x) y = kvs) (q : Qn ρ (st.set h (.dK kvs))) : gSub' (dVar 0) (dC (.str x)) dSetK y ρ st Qn := by
  rw [s_gSub, s_var, h0]
  show dC (.str x) ρ st _ _
  rw [s_c, s_setK]
  exact ⟨_, _, hk, rfl, by rw [len_kvsK]; decide, by rw [hv]; exact q⟩
theorem r__law_draw_k41 : Rd 2 sp_drawK RD.t__law_draw_k41 RD.N__law_draw_k41 := by
  intro ds st Q Z hl h
  match ds, hl, h with
  | [.loc h, .int m], _, hx =>
    obtain ⟨c, H, hm, hm2, q⟩ := hx
    have hlt := H.hlt
    have hne := H.ne
    obtain ⟨cells, a, b, d, e, h1, h2, h3⟩ := H.ex
    unfold RD.t__law_draw_k41
    have gs : ∀ x, (st.set h x)[h]? = some x := fun x => by rw [List.getElem?_set_self hlt]
    have gc : ∀ x, (st.set h x)[c]? = some (.lst (cells.map .int)) := fun x => by rw [List.getElem?_set_ne (Ne.symm hne)]; exact h2
    have ss : ∀ x y, (st.set h x).set h y = st.set h y := fun x y => List.set_set ..
    have hd : ∀ a b d e : Int, 0 ≤ a → HdK (st.set h (handK c a b d e)) h c := fun a b d e ha => ⟨cells, a, b, d, e, gs _, gc _, ha⟩
    have fin : ∀ (r a b d e : Int), 0 ≤ r → r < m → 0 ≤ a → DL.Back st Q (.int r) (st.set h (handK c a b d e)) := fun r a b d e h1 h2 h3 => .inl (q r _ h1 h2 (hd a b d e h3) Sm.set)
    have keep : st.set h (handK c a b d e) = st := by
      refine List.ext_getElem? fun n => ?_
      by_cases hn : n = h
      · subst hn; rw [gs]; exact h1.symm
      · rw [List.getElem?_set_ne (Ne.symm hn)]
    rw [s_seq]
    generalize hR : dSeq (dIfS (dTest (dOp dGt (dDGet (dVar 0) (dC (.str "left"))) (dC (.int 0)))) _ _) _ _ = R
    have tail : ∀ (a b d e : Int) (y2 : Option D), 0 ≤ a → R [some (.loc h), some (.int m), y2, none, none] (st.set h (handK c a b d e)) := by
      intro a b d e y2 ha
      subst hR
      rw [s_seq]
      generalize hR : dSeq _ _ _ = R
      rw [s_ifS, s_test, s_op]
      refine k_ev rfl (gs _) vk_left ?_
      rw [s_c]
      show dOrd _ _ (.int b) (.int 0) _ _
      rw [s_ord_int]
      by_cases hb : 0 < b
      · have e1 : (decide ((0 : Int) < b)) = true := decide_eq_true hb
        dsimp only
        rw [if_pos (by simpa using hb), s_seq, s_asg, s_op, s_cb, s_cons]
        refine k_ev rfl (gs _) vk_left ?_
        rw [s_nil, s_int, s_var]
        show dMod (.int b) (.int m) _ _
        rw [s_mod]
        refine ⟨hm, ?_⟩
        rw [s_gN]
        dsimp only
        show dSeq _ _ _ [some (.loc h), some (.int m), y2, some (.int (b % m)), none] _
        rw [s_seq, s_asg, s_op]
        refine k_ev rfl (gs _) vk_left ?_
        rw [s_var]
        show dDiv (.int b) (.int m) _ _
        rw [s_div]
        refine ⟨⟨hm, by omega⟩, ?_⟩
        refine ks_ev rfl (gs _) pk_left ?_
        rw [ss]
        dsimp only
        show dRet _ _ _ _
        rw [s_ret, s_var]
        obtain ⟨m1, m2⟩ := mod_in (x := b) hm
        exact fin _ a (b / m) d e m1 m2 ha
      · dsimp only
        rw [if_neg (by simpa using hb), s_next]
        dsimp only
        subst hR
        rw [s_seq]
        generalize hR : dSeq _ _ _ = R
        rw [s_asg, s_op]
        refine k_ev rfl (gs _) vk_turn ?_
        rw [s_c, s_add_int]
        refine ks_ev rfl (gs _) pk_turn ?_
        rw [ss]
        dsimp only
        show R _ (st.set h (handK c a b d (e + 1)))
        subst hR
        rw [s_seq]
        generalize hR : dSeq _ _ _ = R
        rw [s_asg, s_op, s_cb, s_cons, s_op, s_cb, s_cons, s_op]
        refine k_ev rfl (gs _) vk_seed ?_
        rw [s_op, s_c]
        refine k_ev rfl (gs _) vk_turn ?_
        rw [s_mul]
        refine ⟨big_mul2 ⟨by decide, by decide⟩, ?_⟩
        rw [s_add_int, s_nil, s_int, s_c, s_mul]
        refine ⟨big_mul1 ⟨by decide, by decide⟩, ?_⟩
        rw [s_nil, s_int, s_c, s_mod]
        refine ⟨by decide, ?_⟩
        generalize hx : (d + 7927 * (e + 1)) * 48271 % 2147483647 = x
        have hx1 := mod_in (x := (d + 7927 * (e + 1)) * 48271) (m := 2147483647) (by decide)
        rw [hx] at hx1
        rw [s_gN]
        dsimp only
        show R [some (.loc h), some (.int m), y2, none, some (.int x)] _
        subst hR
        rw [s_seq]
        generalize hR : dSeq _ _ _ = R
        rw [s_asg, s_op, s_cb, s_cons, s_op, s_var]
        show dOp _ _ _ _ _ _ _
        rw [s_op, s_op, s_var]
        show dC _ _ _ _ _
        rw [s_c, s_div]
        refine ⟨⟨by decide, by decide⟩, ?_⟩
        rw [s_c, s_add_int, s_mul]
        refine ⟨big_mul2 ⟨by omega, by omega⟩, ?_⟩
        rw [s_nil, s_int, s_c, s_mod]
        refine ⟨by decide, ?_⟩
        generalize hy : x * (x / 1013 + 69623) % 2147483587 = y
        have hy1 := mod_in (x := x * (x / 1013 + 69623)) (m := 2147483587) (by decide)
        rw [hy] at hy1
        rw [s_gN]
        dsimp only
        show R [some (.loc h), some (.int m), y2, none, some (.int y)] _
        subst hR
        rw [s_seq]
        generalize hR : dRet _ _ = R
        rw [s_asg, s_op, s_cb, s_cons, s_op, s_op, s_var]
        show dOp _ _ _ _ _ _ _
        rw [s_op, s_op, s_var]
        show dC _ _ _ _ _
        rw [s_c, s_div]
        refine ⟨⟨by decide, by decide⟩, ?_⟩
        rw [s_c, s_add_int, s_mul]
        refine ⟨big_mul2 ⟨by omega, by omega⟩, ?_⟩
        refine k_ev rfl (gs _) vk_turn ?_
        rw [s_add_int, s_nil, s_int, s_c, s_mod]
        refine ⟨by decide, ?_⟩
        generalize hz : (y * (y / 2011 + 40693) + (e + 1)) % 2147483399 = z
        rw [s_gN]
        dsimp only
        show R [some (.loc h), some (.int m), y2, none, some (.int z)] _
        subst hR
        rw [s_ret, s_op, s_cb, s_cons, s_op, s_var]
        show dC _ _ _ _ _
        rw [s_c, s_div]
        refine ⟨⟨by decide, by decide⟩, ?_⟩
        rw [s_nil, s_int, s_var]
        show dMod (.int (z / 32)) (.int m) _ _
        rw [s_mod]
        refine ⟨hm, ?_⟩
        obtain ⟨m1, m2⟩ := mod_in (x := z / 32) hm
        exact fin _ a b d (e + 1) m1 m2 ha
    have t0 := tail a b d e none h3
    rw [keep] at t0
    rw [s_ifS, s_and, s_test, s_op]
    refine k_ev rfl h1 vk_left ?_
    rw [s_c]
    show dEqB id (.int b) (.int 0) _ _
    rw [s_eq_int]
    by_cases hb : b = 0
    · dsimp only
      rw [if_pos (by simpa using hb), s_test, s_op]
      refine k_ev rfl h1 vk_at ?_
      rw [s_cb, s_cons]
      refine k_ev rfl h1 vk_cells ?_
      rw [s_nil, s_len_loc, h2]
      dsimp only
      show dOrd _ _ (.int a) (.int ((cells.map D.int).length : Int)) _ _
      rw [s_ord_int, List.length_map]
      by_cases ha : a < cells.length
      · have hcell : (cells.map D.int)[a.toNat]? = some (.int (cells[a.toNat]'(by omega))) := by
          rw [List.getElem?_map, List.getElem?_eq_getElem (by omega)]
          rfl
        have hat : atI (cells.map D.int) a = some (.int (cells[a.toNat]'(by omega))) := by
          have := atI_nat hcell
          rwa [Int.toNat_of_nonneg h3] at this
        generalize cells[a.toNat]'(by omega) = cell at hat
        dsimp only
        rw [if_pos (by simpa using ha), s_seq, s_asg, s_op]
        refine k_ev rfl h1 vk_cells ?_
        refine k_ev rfl h1 vk_at ?_
        rw [s_ix_loc]
        refine ⟨_, _, h2, hat, ?_⟩
        rw [s_gN]
        dsimp only
        show dSeq _ _ _ [some (.loc h), some (.int m), some (.int cell), none, none] _
        rw [s_seq, s_asg, s_op]
        refine k_ev rfl h1 vk_at ?_
        rw [s_c, s_add_int]
        refine ks_ev rfl h1 pk_at ?_
        dsimp only
        show dSeq _ _ _ _ (st.set h (handK c (a + 1) b d e))
        rw [s_seq, s_asg, s_op, s_cb, s_cons, s_op, s_op, s_op]
        refine k_ev rfl (gs _) vk_seed ?_
        rw [s_c, s_mul]
        refine ⟨big_mul1 ⟨by decide, by decide⟩, ?_⟩
        rw [s_var]
        show dAdd (.int (d * 69621)) (.int cell) _ _
        rw [s_add_int, s_c, s_add_int, s_nil, s_int, s_c, s_mod]
        refine ⟨by decide, ?_⟩
        refine ks_ev rfl (gs _) pk_seed ?_
        rw [ss]
        dsimp only
        show dAsg _ _ _ _ (st.set h (handK c (a + 1) b ((d * 69621 + cell + 11) % 2147483629) e))
        rw [s_asg, s_if, s_test, s_op, s_var]
        show dOp _ _ _ _ _ _ _
        rw [s_op, s_c, s_c, s_pow]
        refine ⟨⟨by decide, by decide, by decide⟩, ?_⟩
        show dOrd _ _ (.int cell) (.int _) _ _
        rw [s_ord_int]
        dsimp only
        split
        · rw [s_var]
          show gSub' _ _ _ (.int cell) _ _ _
          refine ks_ev rfl (gs _) pk_left ?_
          rw [ss]
          exact tail _ _ _ _ _ (by omega)
        · rw [s_c]
          refine ks_ev rfl (gs _) pk_left ?_
          rw [ss]
          exact tail _ _ _ _ _ (by omega)
      · dsimp only
        rw [if_neg (by simpa using ha), s_next]
        exact t0
    · dsimp only
      rw [if_neg (by simpa using hb), if_neg (by decide), s_next]
      exact t0
theorem r__law_any : Rd 2 sp_anyK (RD.t__law_any sp_drawK) RD.N__law_any := by
  intro ds st Q Z hl h
  match ds, hl, h with
  | [.loc h, .loc n], _, hx =>
    obtain ⟨c, es, H, hn, hne, hpos, hbig, q⟩ := hx
    unfold RD.t__law_any
    rw [s_ret, s_op, s_var]
    show dCall _ _ _ _ _ _ _
    rw [s_call, s_cons, s_var]
    show dCons _ _ _ _ _ _
    rw [s_cons, s_cb, s_cons, s_var]
    show dNil _ _ _ _
    rw [s_nil, s_len_loc, hn]
    dsimp only
    rw [s_nil, e_drawK]
    refine ⟨rfl, c, H, by omega, by omega, fun r st' h0 h1 H' s => ?_⟩
    obtain ⟨e, he, ha⟩ := at_mem h0 h1
    rw [s_ix_loc]
    exact ⟨es, e, by rw [s.same n hne]; exact hn, ha, .inl (q e st' he H' s)⟩
  | [.loc h, .str t], _, hx =>
    obtain ⟨c, H, hpos, hbig, q⟩ := hx
    have hz : t.length ≤ sizeLine := sz_big (by omega)
    unfold RD.t__law_any
    rw [s_ret, s_op, s_var]
    show dCall _ _ _ _ _ _ _
    rw [s_call, s_cons, s_var]
    show dCons _ _ _ _ _ _
    rw [s_cons, s_cb, s_cons, s_var]
    show dNil _ _ _ _
    rw [s_nil, s_len_str]
    refine ⟨hz, ?_⟩
    rw [s_nil, e_drawK]
    refine ⟨rfl, c, H, by omega, by omega, fun r st' h0 h1 H' s => ?_⟩
    rw [s_ix_str]
    have hr : r.toNat < t.cps.toList.length := by
      have : t.cps.toList.length = t.length := rfl
      omega
    have ha := atI_nat (List.getElem?_eq_getElem hr)
    rw [Int.toNat_of_nonneg h0] at ha
    exact ⟨_, hz, ha, .inl (q _ st' (List.getElem_mem hr) H' s)⟩
theorem r__law_hand_k41 : Rd 1 sp_handK RD.t__law_hand_k41 RD.N__law_hand_k41 := by
  intro ds st Q Z hl h
  match ds, hl, h with
  | [d], _, hx =>
    obtain ⟨ns, hd, hl, q⟩ := hx
    unfold RD.t__law_hand_k41
    have go : ∀ (g : Sto) (G : Sto → Prop), G (st ++ g) → runC (gN 2) dYes RD.e__law_hand_k41_1 (wipeD [some d, none, none] [2]) (fun x st1 => gN 1 x [some d, none, none] st1 fun ρ st2 => dRet (dDisp [((dC (.str "cells")), (dVar 1)), ((dC (.str "at")), (dC (.int 0))), ((dC (.str "left")), (dC (.int 0))), ((dC (.str "seed")), (dOp dAdd (dC (.int 40961)) (dCB dLen (dCons (dVar 1) dNil)))), ((dC (.str "turn")), (dC (.int 0)))]) { nx := fun _ st1 => DL.Back st Q .non st1, rt := DL.Back st Q, xs := fun x _ st1 => BackX st Z x st1 } ρ st2) G (ns.map .int) [] (st ++ g) := by
      intro g G hG
      refine runC_pure (out := fun i => .int (if i < 0 then -i else i)) (inj := D.int) hG (fun x QT hq => ?_) ns [] (by simp; omega) ?_
      · unfold RD.e__law_hand_k41_1
        simp
        exact hq
      · rw [s_gN, s_ret]
        generalize hcs : ns.map (fun i : Int => if i < 0 then -i else i) = cs
        have e0 : ([] : List D) ++ ns.map (fun i : Int => D.int (if i < 0 then -i else i)) = cs.map .int := by rw [← hcs]; simp
        rw [e0]
        generalize hn : (st ++ g).length = n
        have hnl : st.length ≤ n := by rw [← hn]; simp
        have hl2 : ∀ x : Sto, (st ++ g ++ [Ob.lst (cs.map D.int)] ++ x)[n]? = some (.lst (cs.map .int)) := fun x => gb (by rw [← hn]; exact getElem?_push)
        have hl1 : (st ++ g ++ [Ob.lst (cs.map D.int)]).length = n + 1 := by rw [List.length_append, hn]; rfl
        generalize hst1 : st ++ g ++ [Ob.lst (cs.map D.int)] = st1 at hl1 hl2 ⊢
        show dDisp _ [some d, some (.loc n), none] st1 _ _
        unfold dDisp
        rw [hl1]
        unfold dPairs
        rw [s_c, s_var]
        show dPairs _ _ _ _ _
        unfold dPairs
        rw [s_c, s_c]
        unfold dPairs
        rw [s_c, s_c]
        unfold dPairs
        rw [s_c, s_op, s_c, s_cb, s_cons, s_var]
        show dNil _ _ _ _
        rw [s_nil, s_len_loc, hl2]
        dsimp only
        rw [s_add_int]
        unfold dPairs
        rw [s_c, s_c]
        unfold dPairs
        generalize (40961 : Int) + ((cs.map D.int).length : Int) = sd
        refine ⟨by rw [← hl1]; exact getElem?_push, kvsK n 0 0 sd 0, rfl, by rw [len_kvsK]; decide, ?_⟩
        have em : mergeD [] (kvsK n 0 0 sd 0) = kvsK n 0 0 sd 0 := rfl
        rw [em]
        have es : (st1 ++ [Ob.dK []]).set (n + 1) (.dK (kvsK n 0 0 sd 0)) = st1 ++ [handK n 0 0 sd 0] := by
          rw [List.set_append_right _ _ (by omega), hl1]
          simp [handK]
        rw [es]
        refine .inl (q _ _ n ⟨g ++ [Ob.lst (cs.map D.int), handK n 0 0 sd 0], by rw [← hst1]; simp⟩ ⟨⟨cs, 0, 0, _, 0, by rw [← hl1]; exact getElem?_push, hl2 _, by decide⟩⟩ (by omega) hnl)
    rcases hd with rfl | ⟨m, rfl, hm⟩
    · rw [s_seq, s_asg, s_lc, s_iD, s_sl, s_var]
      show dNoPart _ _ _ _
      rw [s_noPart, s_part, s_c]
      dsimp only
      rw [s_slv_fls, cut63 hl, s_walk_loc]
      exact ⟨_, getElem?_push, go _ _ getElem?_push⟩
    · rw [s_seq, s_asg, s_lc, s_iD, s_sl, s_var]
      show dNoPart _ _ _ _
      rw [s_noPart, s_part, s_c]
      dsimp only
      rw [s_slv_loc]
      refine ⟨_, hm, ?_⟩
      rw [cut63 hl, s_walk_loc]
      exact ⟨_, getElem?_push, go _ _ getElem?_push⟩
end CM
namespace CM
open PySem L2 PySem.Spec DL
open PyProof.Rows hiding St
open TL (tl pre spl par numL joinL)
abbrev Trp := Str × Nat × List Str
def encT (t : Trp) : D := .tup [.str t.1, encV t.2.1, encL t.2.2]
def TrpV (t : Trp) : Prop := nameS t.1 = true ∧ okV t.2.1 ∧ namesF "" t.2.2 = true
def trpT (t : Trp) : Str := Txt.join " " (placeT (t.1, t.2.1) :: t.2.2)
theorem trpT_len {t : Trp} (h : TrpV t) {m : Nat} (hm : t.2.2.length ≤ m) : (trpT t).length ≤ 41 + 13 * m := by
  unfold trpT
  rw [TL.len_tl, TL.join_eq, TL.tl_join, tls2.2.2.1, List.map_cons]
  have hp := placeT_len (k := (t.1, t.2.1)) h.1 h.2.1
  have hj := join_len (S := [32]) (k := 12) (ps := t.2.2.map tl) fun q hq => by
    obtain ⟨s, hs, rfl⟩ := List.mem_map.mp hq
    rw [← TL.len_tl]
    exact name12 (namesF_names h.2.2 s hs)
  rw [TL.len_tl] at hp
  simp only [List.length_cons, List.length_map, List.length_nil] at hj
  cases hf : t.2.2.map tl with
  | nil =>
    simp only [joinL]
    omega
  | cons p ps =>
    rw [← hf]
    have hne : t.2.2.map tl ≠ [] := by rw [hf]; simp
    rw [joinL_cons hne]
    simp only [List.length_append, List.length_cons, List.length_nil]
    have := Nat.mul_le_mul_right 13 hm
    cases hl : t.2.2.length with
    | zero => rw [List.length_eq_zero_iff.mp hl] at hne; simp at hne
    | succ k =>
      rw [hl] at hj this
      omega
theorem r_triple_line_len {l : List Str} (h : ∀ s ∈ l, nameS s = true) {p : Str} (hp : p.length ≤ 40) (hl : l.length ≤ 1000) : ((p :: l).map (·.length)).sum + (p :: l).length * (" " : Str).length ≤ 16777216 := by
  have := sum_le (fun s : Str => s.length) 12 l fun s hs => name12 (h s hs)
  simp only [List.map_cons, List.sum_cons, List.length_cons, k1.1]
  omega
def sp_trpline : DSp := fun ds st Q _ => match ds with
  | [d] => ∃ t : Trp, d = encT t ∧ TrpV t ∧ t.2.2.length ≤ 60 ∧ Q (.str (trpT t)) st
  | _ => False
theorem r_triple_line : Rd 1 sp_trpline (RD.t_triple_line sp_placeT) RD.N_triple_line := by
  intro ds st Q Z hl h
  match ds, hl, h with
  | [d], _, ⟨t, hd, hv, hf, q⟩ =>
    subst hd
    unfold RD.t_triple_line
    have hp := placeT_len (k := (t.1, t.2.1)) hv.1 hv.2.1
    rw [s_seq, s_asg, s_var]
    show gTup' 3 _ (.tup [.str t.1, encV t.2.1, encL t.2.2]) _ _ _
    rw [s_gTup]
    refine ⟨rfl, ?_⟩
    rw [s_gCons, s_gN, s_gCons, s_gN, s_gCons, s_gN, s_gNil]
    dsimp only
    show dRet _ _ [some (encT t), some (.str t.1), some (encV t.2.1), some (encL t.2.2)] st
    rw [s_ret, s_bm, s_c]
    refine ⟨rfl, ?_⟩
    rw [s_cons, s_dlst, s_cons, s_call, s_cons, s_var]
    show dCons _ _ _ _ _ _
    rw [s_cons, s_var]
    show dNil _ _ _ _
    rw [s_nil]
    refine ⟨rfl, (t.1, t.2.1), rfl, rfl, hv.1, hv.2.1, ?_⟩
    dsimp only
    rw [s_star, s_var]
    refine ⟨t.2.2.map .str, rfl, ?_⟩
    rw [s_nil]
    refine ⟨szk _ (by simp; omega), ?_⟩
    rw [s_nil, s_join]
    exact ⟨placeT (t.1, t.2.1) :: t.2.2, by simp [itemsD], r_triple_line_len (namesF_names hv.2.2) hp (by omega), back_tup ⟨_, rfl⟩ rfl q⟩
/-- the sum of the signs, each times its place -/
def wsum : Nat → List Nat → Nat
  | _, [] => 0
  | k, c :: r => c * (k + 1) + wsum (k + 1) r
def chk (l : List Nat) : Nat := wsum 0 l % 99991
def chkT (l : List Nat) : Str := ("check " : Str) ++ (toString ((chk l : Nat) : Int) : Str)
theorem tl_check : tl ("check " : Str) = [99, 104, 101, 99, 107, 32] := by decide
theorem tl_chkT (l : List Nat) : tl (chkT l) = [99, 104, 101, 99, 107, 32] ++ numL (chk l) := by
  unfold chkT
  rw [TL.tl_append, TL.tl_num, tl_check]
theorem chk_lt (l : List Nat) : chk l < 99991 := Nat.mod_lt _ (by decide)
theorem chkT_len (l : List Nat) : (chkT l).length ≤ 20 := by
  rw [TL.len_tl, tl_chkT, List.length_append]
  have := num7 (n := chk l) (by have := chk_lt l; omega)
  simp only [List.length_cons, List.length_nil]
  omega
def prods : Nat → List Nat → List Int
  | _, [] => []
  | k, c :: r => (c : Int) * ((k : Int) + 1) :: prods (k + 1) r
theorem wsum_items : ∀ (l : List Nat) (k : Nat), (prods k l).sum = ((wsum k l : Nat) : Int)
  | [], k => rfl
  | c :: r, k => by
    unfold prods wsum
    rw [List.sum_cons, wsum_items r (k + 1)]
    push_cast
    rfl
def sg (c : Nat) : D := .str ⟨#[c]⟩
/-- the products, one by one -/
theorem runC_chk {x0 x1 : Option D} {Q : DK} {st : Sto} : ∀ (l : List Nat) (k : Nat) (acc : List Int), acc.length + l.length < 1048576 → k + l.length < 1048576 →
    Q (.loc st.length) (st ++ [.lst ((acc ++ prods k l).map .int)]) →
    runC (gTup' 2 (gCons' (gN 2) (gCons' (gN 3) gNil'))) dYes RD.e_check_line_1 [x0, x1, none, none] Q (fun _ => True) (enumFrom k (l.map sg)) (acc.map .int) st
  | [], k, acc, _, _, q => by
    rw [List.map_nil, enumFrom, runC_nil]
    exact ⟨trivial, by simpa [prods] using q⟩
  | c :: r, k, acc, hl, hk, q => by
    rw [List.map_cons, enumFrom, runC_cons]
    refine ⟨trivial, ?_⟩
    have ih := runC_chk (x0 := x0) (x1 := x1) (Q := Q) (st := st) r (k + 1) (acc ++ [(c : Int) * ((k : Int) + 1)]) (by simp at hl ⊢; omega) (by simp at hk; omega)
    generalize hR : runC (gTup' 2 (gCons' (gN 2) (gCons' (gN 3) gNil'))) dYes RD.e_check_line_1 [x0, x1, none, none] Q (fun _ => True) (enumFrom (k + 1) (r.map sg)) = R at ih ⊢
    rw [s_gTup]
    refine ⟨rfl, ?_⟩
    rw [s_gCons, s_gN, s_gCons, s_gN, s_gNil, s_yes, if_pos rfl]
    unfold RD.e_check_line_1
    show dOp _ _ _ [x0, x1, some (.int (k : Int)), some (.str ⟨#[c]⟩)] _ _ _
    rw [s_op, s_cb, s_cons, s_var]
    show dNil _ _ _ _
    rw [s_nil, s_ordS]
    refine ⟨rfl, ?_⟩
    rw [s_op, s_var]
    show dC _ _ _ _ _
    rw [s_c, s_add_int, s_mul]
    simp only [List.length_cons] at hk hl
    refine ⟨big_mul1 ⟨by omega, by omega⟩, ?_⟩
    refine ⟨by rw [List.length_map]; exact sizeLine_big (by omega), ?_⟩
    have := ih (by unfold prods at q; simpa using q)
    rw [List.map_append] at this
    exact this
def sp_chkline : DSp := fun ds st Q _ => match ds with
  | [.str t] => t.length ≤ 1000000 ∧ Q (.str (chkT (tl t))) st
  | _ => False
theorem r_check_line : Rd 1 sp_chkline RD.t_check_line RD.N_check_line := by
  intro ds st Q Z hl h
  match ds, hl, h with
  | [.str t], _, ⟨ht, q⟩ =>
    have hlen := TL.len_tl t
    unfold RD.t_check_line
    rw [s_seq, s_asg, s_cb, s_cons, s_lc, s_iEnS, s_var]
    show runC _ _ _ _ _ _ (enumItems (strItems t)) _ _
    rw [enumItems_eq]
    have e0 : strItems t = (tl t).map sg := rfl
    rw [e0]
    refine runC_chk (tl t) 0 [] (by rw [List.length_nil]; omega) (by omega) ?_
    rw [List.nil_append, s_nil, s_sum]
    refine ⟨prods 0 (tl t), getElem?_push, ?_⟩
    rw [wsum_items, s_gN]
    dsimp only
    show dRet _ _ [some (.str t), some (.int ((wsum 0 (tl t) : Nat) : Int)), none, none] _
    have hc := chkT_len (tl t)
    have e1 : ("check " : Str).length = 6 := rfl
    rw [s_ret, s_joined]
    refine js_ev (y := "check ") (fun QE Z qe => qe) (by rw [emp_app, e1]; exact sz_big (by omega)) ?_
    rw [emp_app, s_js, s_fmt, s_op, s_var]
    show dC _ _ _ _ _
    rw [s_c]
    show dMod _ _ _ _
    rw [s_mod]
    refine ⟨by decide, ?_⟩
    have e2 : ((wsum 0 (tl t) : Nat) : Int) % 99991 = ((chk (tl t) : Nat) : Int) := by unfold chk; omega
    rw [e2]
    refine ⟨log_small (by have := chk_lt (tl t); omega), ?_⟩
    dsimp only
    refine ⟨sz_big (by have : (("check " : Str) ++ (toString ((chk (tl t) : Nat) : Int) : Str)) = chkT (tl t) := rfl; rw [this]; omega), ?_⟩
    exact back_tup ⟨_, rfl⟩ rfl q
def InstS (l : List Trp) : Prop := l.length ≤ 100 ∧ ∀ t ∈ l, TrpV t ∧ t.2.2.length ≤ 60
def bodyT (l : List Trp) : Str := linesT (l.map trpT)
def lockTx (l : List Trp) : Str := bodyT l ++ lineS (chkT (tl (bodyT l)))
def encI (l : List Trp) : D := .tup (l.map encT)
theorem linesT_one (s : Str) : linesT [s] = lineS s := by
  unfold linesT
  refine TL.ext_tl ?_
  rw [TL.join_eq, TL.tl_join]
  rfl
theorem linesT_len {W : List Str} {k m : Nat} (hm : W.length ≤ m) (h : ∀ w ∈ W, w.length ≤ k) : (linesT W).length ≤ m * (k + 1) := by
  unfold linesT
  rw [TL.len_tl, TL.join_eq, TL.tl_join]
  have hj := join_len (S := tl "") (k := k + 1) (ps := (W.map lineS).map tl) fun q hq => by
    obtain ⟨s, hs, rfl⟩ := List.mem_map.mp hq
    obtain ⟨w, hw, rfl⟩ := List.mem_map.mp hs
    rw [← TL.len_tl, lineS_len]
    have := h w hw
    omega
  have e : (tl ("" : Str)).length = 0 := rfl
  rw [e] at hj
  simp only [List.length_map, Nat.add_zero] at hj
  exact Nat.le_trans hj (Nat.mul_le_mul_right _ hm)
theorem bodyT_len {l : List Trp} (h : InstS l) : (bodyT l).length ≤ 82200 := by
  have := linesT_len (W := l.map trpT) (k := 821) (m := 100) (by rw [List.length_map]; exact h.1) fun w hw => by
    obtain ⟨t, ht, rfl⟩ := List.mem_map.mp hw
    exact trpT_len (h.2 t ht).1 (h.2 t ht).2
  exact this
def sp_locktext : DSp := fun ds st Q _ => match ds with
  | [d] => ∃ l : List Trp, d = encI l ∧ InstS l ∧ Q (.str (lockTx l)) st
  | _ => False
theorem runC_encT {te : DTE} {ρ : Env'} {Q : DK} {G : Sto → Prop} {i : Nat} {st : Sto} {out : Trp → Str} (hG : G st) (ht : ∀ (w : Trp) (QT : DK), TrpV w → w.2.2.length ≤ 60 → QT (.str (out w)) st → te (ρ.set i (some (encT w))) st QT Z0) : ∀ (W : List Trp) (acc : List D), (∀ t ∈ W, TrpV t ∧ t.2.2.length ≤ 60) → acc.length + W.length < 10000 →
    Q (.loc st.length) (st ++ [.lst (acc ++ (W.map out).map .str)]) → runC (gN i) dYes te ρ Q G (W.map encT) acc st
  | [], acc, _, _, q => ⟨hG, by simpa using q⟩
  | w :: W, acc, hw, hl, q => by
    rw [List.map_cons, runC_cons]
    refine ⟨hG, ?_⟩
    have ih := runC_encT (Q := Q) hG ht W
    generalize hR : runC (gN i) dYes te ρ Q G (W.map encT) = R at ih ⊢
    rw [s_gN, s_yes, if_pos rfl]
    simp only [List.length_cons] at hl
    have hw1 := hw w List.mem_cons_self
    exact ht w _ hw1.1 hw1.2 ⟨sizeLine_big (by omega), ih _ (fun z hz => hw z (List.mem_cons_of_mem _ hz)) (by simp; omega) (by simpa using q)⟩
theorem r_lock_text : Rd 1 sp_locktext (RD.t_lock_text sp_textof sp_chkline sp_trpline) RD.N_lock_text := by
  intro ds st Q Z hl h
  match ds, hl, h with
  | [d], _, ⟨l, hd, hv, q⟩ =>
    subst hd
    unfold RD.t_lock_text
    have hb := bodyT_len hv
    rw [s_seq, s_asg, s_call, s_cons, s_lc, s_iD, s_var]
    show walkD st (.tup (l.map encT)) _
    rw [s_walk_tup]
    refine runC_encT (out := trpT) trivial (fun w QT hw h60 qt => ?_) l [] hv.2 (by rw [List.length_nil]; have := hv.1; omega) ?_
    · unfold RD.e_lock_text_1
      rw [s_call, s_cons]
      refine var_ev (d := encT w) (by simp) ?_
      rw [s_nil]
      exact ⟨rfl, w, rfl, hw, h60, qt⟩
    · rw [List.nil_append, s_nil]
      refine ⟨rfl, l.map trpT, getElem?_push, by rw [List.length_map]; have := hv.1; omega, fun w hw => ?_, ?_⟩
      · obtain ⟨t, ht, rfl⟩ := List.mem_map.mp hw
        have := trpT_len (hv.2 t ht).1 (hv.2 t ht).2
        omega
      dsimp only
      rw [s_gN]
      generalize hst : st ++ [Ob.lst ((l.map trpT).map D.str)] = st1
      have hp : Pre st st1 := ⟨_, hst.symm⟩
      show dRet _ _ [some (encI l), some (.str (bodyT l)), none] st1
      rw [s_ret, s_op, s_var]
      show dCall _ _ _ _ _ _ _
      rw [s_call, s_cons, s_dlst, s_cons, s_call, s_cons, s_var]
      show dNil _ _ _ _
      rw [s_nil]
      refine ⟨rfl, by omega, ?_⟩
      dsimp only
      rw [s_nil]
      refine ⟨szk _ (by simp), ?_⟩
      rw [s_nil]
      have hc := chkT_len (tl (bodyT l))
      refine ⟨rfl, [chkT (tl (bodyT l))], getElem?_push, by simp, fun w hw => ?_, ?_⟩
      · rw [List.mem_singleton.mp hw]
        omega
      · dsimp only
        rw [linesT_one, s_add_str, lineS_len]
        refine ⟨sz_big (by omega), ?_⟩
        exact back_tup (hp.app _) rfl q
end CM
namespace CM
open PySem L2 PySem.Spec DL
open PyProof.Rows hiding St
open TL (tl pre spl par numL joinL)
def sp_namesB : DSp := fun ds st Q _ => match ds with
  | [d] => ∃ l : List Str, d = encL l ∧ (∀ s ∈ l, s.length ≤ 100000) ∧ Q (.bl (namesF "" l)) st
  | _ => False
theorem lp_namesB (E : DEnds) {d : D} {st : Sto} : ∀ (l : List Str) (p : Str) (y : Option D), (∀ s ∈ l, s.length ≤ 100000) → (namesF p l = false → E.rt (.bl false) st) → (namesF p l = true → ∀ p' y', E.nx [some d, some (.str p'), y'] st) →
    runG (gN 2) (RD.b_is_names_1 sp_name) E (fun _ => True) (l.map .str) [some d, some (.str p), y] st
  | [], p, y, hl, h0, h1 => ⟨trivial, h1 rfl p y⟩
  | s :: l, p, y, hl, h0, h1 => by
    rw [List.map_cons, runG_cons]
    refine ⟨trivial, ?_⟩
    have ih := fun p y => lp_namesB E (d := d) (st := st) l p y (fun s hs => hl s (List.mem_cons_of_mem _ hs))
    generalize hR : runG (gN 2) (RD.b_is_names_1 sp_name) E (fun _ => True) (l.map .str) = R at ih ⊢
    rw [s_gN]
    unfold RD.b_is_names_1
    show dSeq _ _ _ [some d, some (.str p), some (.str s)] st
    rw [s_seq, s_ifS, s_or, s_not, s_tru, s_call, s_cons, s_var]
    show dNil _ _ _ _
    rw [s_nil]
    have hs := hl s List.mem_cons_self
    refine ⟨rfl, by simp [ok], fun x e => by cases e; exact sz_big (by omega), ?_⟩
    show truD st (.bl (nameS s)) _
    rw [s_tru_bl]
    simp only [namesF] at h0 h1
    cases hn : nameS s with
    | false =>
      rw [hn] at h0
      rw [if_pos (by decide), if_pos rfl, s_ret, s_c]
      exact h0 rfl
    | true =>
      rw [hn] at h0 h1
      simp only [Bool.true_and] at h0 h1
      rw [if_neg (by decide), s_test, s_op, s_var]
      show dVar 1 _ _ _ _
      rw [s_var]
      show dLe (.str s) (.str p) st _
      refine le_strs ?_
      dsimp only
      cases hlt : ltS p s with
      | false =>
        rw [hlt] at h0
        rw [if_pos (by decide), s_ret, s_c]
        exact h0 rfl
      | true =>
        rw [hlt] at h0 h1
        simp only [Bool.true_and] at h0 h1
        rw [if_neg (by decide), s_next]
        dsimp only
        rw [s_asg, s_var]
        exact ih s (some (.str s)) h0 h1
theorem r_is_namesB : Rd 1 sp_namesB (RD.t_is_names sp_name) RD.N_is_names := by
  intro ds st Q Z hl h
  match ds, hl, h with
  | [d], _, ⟨l, hd, hlen, q⟩ =>
    subst hd
    unfold RD.t_is_names
    rw [s_seq, s_ifS, s_not, s_tru, s_isi, s_var]
    show truD st (.bl true) _
    rw [s_tru_bl, if_neg (by decide), s_next]
    dsimp only
    rw [s_seq, s_asg, s_c, s_gN]
    dsimp only
    show dSeq _ _ _ [some (encL l), some (.str ""), none] st
    rw [s_seq, s_for, s_iD, s_var]
    show walkD _ _ _
    unfold encL
    rw [s_walk_tup]
    refine lp_namesB _ l "" none hlen (fun e => ?_) fun e p' y' => ?_
    · rw [e] at q
      exact .inl q
    · rw [e] at q
      dsimp only
      rw [s_ret, s_c]
      exact .inl q
def lenS (W : List Str) : Nat := (W.map fun w => w.length + 1).sum
def sp_textofB : DSp := fun ds st Q _ => match ds with
  | [.loc m] => ∃ W : List Str, st[m]? = some (.lst (W.map .str)) ∧ W.length ≤ 200000 ∧ lenS W ≤ 400000 ∧ Q (.str (linesT W)) st
  | _ => False
theorem lenS_mem : ∀ {W : List Str} {w : Str}, w ∈ W → w.length + 1 ≤ lenS W
  | v :: W, w, h => by
    have e : lenS (v :: W) = (v.length + 1) + lenS W := by unfold lenS; simp
    rcases List.mem_cons.mp h with rfl | h
    · omega
    · have := lenS_mem h
      omega
theorem runC_linesB {te : DTE} {ρ : Env'} {Q : DK} {G : Sto → Prop} {i : Nat} {st : Sto} (hG : G st) (ht : ∀ (w : Str) (QT : DK), w.length ≤ 500000 → QT (.str (lineS w)) st → te (ρ.set i (some (.str w))) st QT Z0) : ∀ (W : List Str) (acc : List D), (∀ w ∈ W, w.length ≤ 500000) → acc.length + W.length < 300000 →
    Q (.loc st.length) (st ++ [.lst (acc ++ (W.map lineS).map .str)]) → runC (gN i) dYes te ρ Q G (W.map .str) acc st
  | [], acc, _, _, q => ⟨hG, by simpa using q⟩
  | w :: W, acc, hw, hl, q => by
    rw [List.map_cons, runC_cons]
    refine ⟨hG, ?_⟩
    have ih := runC_linesB (Q := Q) hG ht W
    generalize hR : runC (gN i) dYes te ρ Q G (W.map .str) = R at ih ⊢
    rw [s_gN, s_yes, if_pos rfl]
    simp only [List.length_cons] at hl
    exact ht w _ (hw w List.mem_cons_self) ⟨sizeLine_big (by omega), ih _ (fun z hz => hw z (List.mem_cons_of_mem _ hz)) (by simp; omega) (by simpa using q)⟩
theorem r_text_ofB : Rd 1 sp_textofB RD.t_text_of RD.N_text_of := by
  intro ds st Q Z hl h
  match ds, hl, h with
  | [.loc m], _, ⟨W, hm, h1, h2, q⟩ =>
    unfold RD.t_text_of
    rw [s_ret, s_bm, s_c]
    refine ⟨rfl, ?_⟩
    rw [s_cons, s_lc, s_iD, s_var]
    show walkD _ (.loc m) _
    rw [s_walk_loc]
    refine ⟨_, hm, runC_linesB hm (fun w QT hw qt => ?_) W [] (fun w hw => by have := lenS_mem hw; omega) (by simp; omega) ?_⟩
    · unfold RD.e_text_of_1
      rw [s_joined]
      refine js_ev (y := w) (fun QE Z qe => fmt_ev (fun QE Z qe => var_ev rfl qe) (sz_big (by omega)) qe) (by rw [emp_app]; exact sz_big (by omega)) ?_
      rw [emp_app]
      exact js_ev (y := "\n") (fun QE Z qe => qe) (by rw [app_len]; exact sz_big (by have : ("\n" : Str).length = 1 := rfl; omega)) qt
    · rw [s_nil, s_join]
      refine ⟨W.map lineS, by simp, ?_, ?_⟩
      · rw [List.map_map, List.length_map, show ("" : Str).length = 0 from rfl]
        have e : (W.map ((fun x : Str => x.length) ∘ lineS)).sum = lenS W := by
          unfold lenS
          congr 1
          refine List.map_congr_left fun w _ => ?_
          exact lineS_len w
        have e2 : (W.map ((·.length) ∘ lineS)).sum = lenS W := e
        rw [e2]
        omega
      · exact back_tup ⟨_, rfl⟩ rfl q
theorem e_nameSB {st : Sto} {Q : DK} {Z : DX → Sto → Prop} {s : Str} (hs : s.length ≤ 200000) (q : Q (.bl (nameL (tl s))) st) : sp_name [.str s] st Q Z := ⟨by simp [ok], fun x e => by cases e; exact sz_big (by omega), by show Q (.bl (nameS s)) st; rw [nameS_eq]; exact q⟩
end CM
namespace CM
open PySem L2 PySem.Spec DL
open PyProof.Rows hiding St
open TL (tl pre spl par numL joinL)
theorem cutK_take {α : Type} (W : List α) (j : Nat) : cutL W none (some (j : Int)) = W.take j := by
  have e1 : _root_.HT.sIx W.length 0 none = 0 := rfl
  have e2 : _root_.HT.sIx W.length W.length (some (j : Int)) = min j W.length := by
    show (if ((j : Int)) < 0 then ((j : Int) + (W.length : Int)).toNat else min (j : Int).toNat W.length) = _
    rw [if_neg (by omega)]
    rfl
  unfold cutL
  rw [e1, e2, List.drop_zero, Nat.sub_zero]
  by_cases h : j ≤ W.length
  · rw [Nat.min_eq_left h]
  · rw [Nat.min_eq_right (by omega), List.take_of_length_le (Nat.le_refl _), List.take_of_length_le (by omega)]
theorem cutK_drop {α : Type} (W : List α) (j : Nat) : cutL W (some (j : Int)) none = W.drop j := by
  have e1 : _root_.HT.sIx W.length W.length none = W.length := rfl
  have e2 : _root_.HT.sIx W.length 0 (some (j : Int)) = min j W.length := by
    show (if ((j : Int)) < 0 then ((j : Int) + (W.length : Int)).toNat else min (j : Int).toNat W.length) = _
    rw [if_neg (by omega)]
    rfl
  unfold cutL
  rw [e1, e2]
  by_cases h : j ≤ W.length
  · rw [Nat.min_eq_left h, List.take_of_length_le (by rw [List.length_drop]; omega)]
  · rw [Nat.min_eq_right (by omega), Nat.sub_self, List.take_zero, List.drop_eq_nil_of_le (by omega)]
def trpB (n : Str) (o : Option Nat) (fs : List Str) : Bool := nameS n && (o.isSome && namesF "" fs)
def triD (n : Str) (o : Option Nat) (fs : List Str) : D := .tup [.str n, encO o, encL fs]
theorem ok_triD {st : Sto} (n : Str) (o : Option Nat) (fs : List Str) : ok st (triD n o fs) := by
  unfold triD
  simp only [ok, oks_iff]
  intro d hd
  rcases List.mem_cons.mp hd with rfl | hd
  · simp [ok]
  rcases List.mem_cons.mp hd with rfl | hd
  · cases o with
    | none => simp [encO, ok]
    | some v => simp [encO, encV, ok, oks]
  rcases List.mem_cons.mp hd with rfl | hd
  · exact ok_encL _
  · cases hd
theorem verM_encO {o : Option Nat} (h : ∀ v, o = some v → okV v) : (verM 1000000 (encO o)).isSome = o.isSome := by
  cases o with
  | none => rfl
  | some v =>
    show (verM 1000000 (encV v)).isSome = _
    rw [ver_enc (h v rfl)]
def sp_istrp : DSp := fun ds st Q _ => match ds with
  | [d] => ∃ n o fs, d = triD n o fs ∧ n.length ≤ 100000 ∧ (∀ v, o = some v → okV v) ∧ (∀ s ∈ fs, s.length ≤ 100000) ∧ Q (.bl (trpB n o fs)) st
  | _ => False
theorem r_is_triple : Rd 1 sp_istrp (RD.t_is_triple sp_name sp_namesB sp_is_tuple_of sp_is_version) RD.N_is_triple := by
  intro ds st Q Z hl h
  match ds, hl, h with
  | [d], _, ⟨n, o, fs, hd, hn, ho, hf, q⟩ =>
    subst hd
    unfold RD.t_is_triple
    unfold trpB at q
    rw [s_ret, s_andV, s_call, s_cons, s_c, s_cons, s_var]
    show dNil _ _ _ _
    rw [s_nil]
    refine ⟨rfl, ?_⟩
    rw [e_is_tuple_of]
    refine ⟨ok_triD n o fs, ?_⟩
    rw [show lenIs 3 (triD n o fs) = true from rfl, s_tru_bl, if_pos (by simp), s_andV, s_call, s_cons, s_op, s_var]
    show dC _ _ _ _ _
    rw [s_c]
    refine ⟨.str n, rfl, ?_⟩
    show dNil _ _ _ _
    rw [s_nil]
    refine ⟨rfl, e_nameSB (by omega) ?_⟩
    rw [← nameS_eq, s_tru_bl]
    cases hnm : nameS n with
    | false =>
      rw [hnm] at q
      rw [if_neg (by simp)]
      exact .inl q
    | true =>
      rw [hnm, Bool.true_and] at q
      rw [if_pos (by simp), s_andV, s_call, s_cons, s_op, s_var]
      show dC _ _ _ _ _
      rw [s_c]
      refine ⟨encO o, rfl, ?_⟩
      show dNil _ _ _ _
      rw [s_nil]
      refine ⟨rfl, ?_⟩
      rw [e_is_version]
      refine ⟨by simp, ?_⟩
      rw [verM_encO ho, s_tru_bl]
      cases hos : o.isSome with
      | false =>
        rw [hos] at q
        rw [if_neg (by simp)]
        exact .inl q
      | true =>
        rw [hos, Bool.true_and] at q
        rw [if_pos (by simp), s_call, s_cons, s_op, s_var]
        show dC _ _ _ _ _
        rw [s_c]
        refine ⟨encL fs, rfl, ?_⟩
        show dNil _ _ _ _
        rw [s_nil]
        exact ⟨rfl, fs, rfl, hf, .inl q⟩
def trpM (n : List Nat) : List (List Nat) → Option Trp
  | [] => none
  | w :: r => if trpB (SL n) (verText w) (r.map SL) = true then (verText w).map fun v => (SL n, v, r.map SL) else none
def trpL (l : List Nat) : Option Trp := match par [32] [] l with
  | some (n, b) => trpM n (spl [32] 0 [] b)
  | none => none
def encOT : Option Trp → D
  | none => .non
  | some t => encT t
def sp_ttrp : DSp := fun ds st Q _ => match ds with
  | [.str t] => t.length ≤ 100000 ∧ Q (encOT (trpL (tl t))) st
  | _ => False
theorem split_neK (t y : Str) (hy : tl y ≠ []) (h : ∀ c ∈ tl y, c < 256) : Txt.split t y ≠ [] := fun z => by
  have := split_tl (x := t) rfl hy h
  rw [z] at this
  exact spl_ne _ _ _ this.symm
theorem verText_ok {l : List Nat} {v : Nat} (h : verText l = some v) : okV v := verM_okV h
theorem blw_encOT (n : Nat) (o : Option Trp) : D.blw n (encOT o) = true := by
  cases o with
  | none => rfl
  | some t => simp [encOT, encT, D.blw, D.blws, blw_encV, blw_encL]
theorem r_told_triple : Rd 1 sp_ttrp (RD.t_told_triple sp_told_version sp_istrp) RD.N_told_triple := by
  intro ds st Q Z hl h
  match ds, hl, h with
  | [.str t], _, ⟨ht, q⟩ =>
    unfold RD.t_told_triple
    have hz : t.length ≤ sizeLine := sz_big (by omega)
    unfold trpL at q
    rw [s_seq, s_asg, s_bm, s_var]
    show tyD st "str" (.str t) ∧ _
    refine ⟨rfl, ?_⟩
    rw [s_cons, s_c, s_nil, s_partV]
    refine ⟨by decide, hz, ?_⟩
    have go : ∀ (n x b : Str), n.length ≤ 100000 → b.length ≤ 100000 → Q (encOT (trpM (tl n) (spl [32] 0 [] (tl b)))) st →
        dSeq (dAsg (dBM "str" dSplit (dVar 3) (dCons (dC (.str " ")) dNil)) (gN 4))
          (dSeq (dAsg (dTup (dCons (dVar 1) (dCons (dCall 1 sp_told_version (dCons (dOp dIx (dVar 4) (dC (.int 0))) dNil)) (dCons (dCB dTupOf (dCons (dSl (dVar 4) (dPart (dC (.int 1))) dNoPart) dNil)) dNil)))) (gN 5))
          (dSeq (dIfS (dNot (dTru (dCall 1 sp_istrp (dCons (dVar 5) dNil)))) (dRet (dC (.non))) dNext)
          (dRet (dVar 5)))) { nx := fun _ st' => DL.Back st Q .non st', rt := DL.Back st Q, xs := fun x _ st' => BackX st Z x st' } [some (.str t), some (.str n), some (.str x), some (.str b), none, none] st := by
      intro n x b hn hb hq
      rw [s_seq, s_asg, s_bm, s_var]
      show tyD st "str" (.str b) ∧ _
      refine ⟨rfl, ?_⟩
      rw [s_cons, s_c, s_nil, s_split]
      refine ⟨by decide, sz1m (by omega), ?_⟩
      have hsp := split_tl (x := b) tls2.2.2.1 (by simp) (by simp)
      have hne := split_neK b " " (by decide) (by decide)
      have hlen : ∀ w ∈ Txt.split b " ", w.length ≤ 100000 := fun w hw => by have := split_len hw; omega
      rw [← hsp] at hq
      generalize Txt.split b " " = W at hq hne hlen ⊢
      cases W with
      | nil => exact absurd rfl hne
      | cons w r =>
        rw [List.map_cons] at hq
        unfold trpM at hq
        dsimp only at hq
        rw [map_SL_tl, SL_tl] at hq
        rw [s_gN]
        generalize hst : st ++ [Ob.lst ((w :: r).map D.str)] = st1
        have hp : Pre st st1 := ⟨_, hst.symm⟩
        have h4 : st1[st.length]? = some (.lst ((w :: r).map .str)) := by rw [← hst]; exact getElem?_push
        dsimp only
        show dSeq _ _ _ [some (.str t), some (.str n), some (.str x), some (.str b), some (.loc st.length), none] st1
        rw [s_seq, s_asg, s_dtup, s_cons, s_var]
        show dCons _ _ _ _ _ _
        rw [s_cons, s_call, s_cons, s_op, s_var]
        show dC _ _ _ _ _
        rw [s_c, s_ix_loc]
        refine ⟨_, .str w, h4, atI_0, ?_⟩
        rw [s_nil, e_told_version]
        refine ⟨rfl, by have := hlen w List.mem_cons_self; omega, ?_⟩
        dsimp only
        rw [s_cons, s_cb, s_cons, s_sl, s_var]
        show dPart _ _ _ _ _
        rw [s_part, s_c]
        dsimp only
        rw [s_noPart, s_slv_loc]
        refine ⟨_, h4, ?_⟩
        rw [cutL_map, show ((1 : Int)) = ((1 : Nat) : Int) from rfl, cutK_drop, s_nil, s_tupOf]
        simp only [s_items_loc, getElem?_push]
        rw [s_nil]
        refine ⟨szk _ (by simp), ?_⟩
        rw [s_gN]
        generalize hst2 : st1 ++ [Ob.lst (((w :: r).drop 1).map D.str)] = st2
        have hp2 : Pre st st2 := by rw [← hst2]; exact hp.app _
        have er : (w :: r).drop 1 = r := rfl
        rw [er]
        try dsimp only
        show dSeq _ _ _ [some (.str t), some (.str n), some (.str x), some (.str b), some (.loc st.length), some (triD n (verText (tl w)) r)] st2
        rw [s_seq, s_ifS, s_not, s_tru, s_call, s_cons, s_var]
        show dNil _ _ _ _
        rw [s_nil]
        refine ⟨rfl, n, verText (tl w), r, rfl, hn, fun v hv => verText_ok hv, fun s hs => hlen s (List.mem_cons_of_mem _ hs), ?_⟩
        dsimp only
        rw [s_tru_bl]
        cases hb2 : trpB n (verText (tl w)) r with
        | false =>
          rw [hb2, if_neg (by decide)] at hq
          rw [if_pos (by decide), s_ret, s_c]
          exact back_tup hp2 rfl hq
        | true =>
          rw [hb2, if_pos rfl] at hq
          rw [if_neg (by decide), s_next]
          dsimp only
          rw [s_ret, s_var]
          cases hv : verText (tl w) with
          | none => rw [hv] at hb2; unfold trpB at hb2; simp at hb2
          | some v =>
            rw [hv] at hq
            exact back_tup hp2 (blw_encOT _ (some (n, v, r))) hq
    rw [s_gTup]
    refine ⟨rfl, ?_⟩
    rw [s_gCons, s_gN, s_gCons, s_gN, s_gCons, s_gN, s_gNil]
    rcases str_of_par (x := t) (y := " ") tls2.2.2.1 (by simp) with ⟨hp, e⟩ | ⟨n, b, hp, e, hn, hb⟩
    · rw [hp] at q
      rw [e]
      refine go t Str.empty Str.empty ht (by decide) ?_
      have e0 : trpM (tl t) (spl [32] 0 [] (tl Str.empty)) = none := by
        rw [tl_empty]
        show trpM (tl t) [[]] = none
        unfold trpM
        dsimp only
        rw [verText_nil]
        simp
      rw [e0]
      exact q
    · rw [hp] at q
      rw [e]
      exact go (SL n) " " (SL b) (by omega) (by omega) q
end CM
namespace CM
open PySem L2 PySem.Spec DL
open PyProof.Rows hiding St
open TL (tl pre spl par numL joinL)
def okNext (acc : List Trp) (t : Trp) : Bool := match acc.getLast? with
  | none => true
  | some z => ltS z.1 t.1
def foundK : List Trp → List Str → List Trp
  | acc, [] => acc
  | acc, w :: W => match trpL (tl w) with
    | none => acc
    | some t => if okNext acc t = true then foundK (acc ++ [t]) W else acc
theorem foundK_len : ∀ (W : List Str) (acc : List Trp), (foundK acc W).length ≤ acc.length + W.length
  | [], acc => by simp [foundK]
  | w :: W, acc => by
    unfold foundK
    split
    · simp
    · rename_i t _
      split
      · have := foundK_len W (acc ++ [t])
        simp at this ⊢
        omega
      · simp
theorem blw_encI (n : Nat) (l : List Trp) : D.blw n (encI l) = true := by
  have : ∀ l : List Trp, D.blws n (l.map encT) = true := fun l => by
    induction l with
    | nil => rfl
    | cons t r ih => simp [D.blws, encT, D.blw, blw_encV, blw_encL, ih]
  simp [encI, D.blw, this]
theorem isnon_OT (o : Option Trp) : isNonD (encOT o) = o.isNone := by cases o <;> rfl
theorem atI_endT {ls : List Trp} {z : Trp} (h : ls.getLast? = some z) : atI (ls.map encT) (-1) = some (encT z) := by
  obtain ⟨l0, rfl⟩ : ∃ l0, ls = l0 ++ [z] := by
    obtain ⟨hne, e⟩ := List.getLast?_eq_some_iff.mp h
    exact ⟨hne, e⟩
  rw [List.map_append]
  simp [atI]
theorem linesT_lenS : ∀ W : List Str, (linesT W).length = lenS W
  | [] => rfl
  | w :: W => by
    have ih := linesT_lenS W
    have e : tl (linesT (w :: W)) = tl (lineS w) ++ tl (linesT W) := by
      unfold linesT
      rw [TL.join_eq, TL.join_eq, TL.tl_join, TL.tl_join, List.map_cons, List.map_cons]
      cases h : (W.map lineS).map tl with
      | nil => simp [joinL]
      | cons p ps => rw [joinL_cons (by simp)]; rfl
    rw [TL.len_tl, e, List.length_append, ← TL.len_tl, ← TL.len_tl, lineS_len, ih]
    unfold lenS
    simp
theorem lenS_take (W : List Str) (n : Nat) : lenS (W.take n) ≤ lenS W := by
  have : lenS W = lenS (W.take n) + lenS (W.drop n) := by
    unfold lenS
    rw [← List.sum_append, ← List.map_append, List.take_append_drop]
  omega
theorem joinL_lenS {S : List Nat} (hS : S.length = 1) : ∀ {W : List Str}, W ≠ [] → (joinL S (W.map tl)).length + 1 = lenS W
  | [], h => absurd rfl h
  | [w], _ => by simp [joinL, lenS, TL.len_tl]
  | w :: w2 :: W, _ => by
    have ih := joinL_lenS hS (W := w2 :: W) (by simp)
    rw [List.map_cons, joinL_cons (by simp)]
    unfold lenS at ih ⊢
    simp only [List.length_append, List.map_cons, List.sum_cons] at ih ⊢
    rw [TL.len_tl w]
    omega
theorem split_lenS (t : Str) : lenS (Txt.split t "\n") = t.length + 1 := by
  have h := split_tl (x := t) tls2.2.2.2.2.2.2.1 (by simp) (by simp)
  have e := joinL_lenS (S := [10]) rfl (split_neK t "\n" (by decide) (by decide))
  rw [h, join_spl (by simp) (by simp), ← TL.len_tl] at e
  exact e.symm
theorem dropLast_lenS {W : List Str} (h : W ≠ []) : lenS W.dropLast ≤ lenS W := by
  have : W.dropLast = W.take (W.length - 1) := List.dropLast_eq_take
  rw [this]
  exact lenS_take _ _
section
variable [EC : ErrCtx]
theorem lp_rlock (E : DEnds) {x0 x2 : Option D} {a : Nat} {st : Sto} {all : List D} (ha : st[a]? = some (.lst all)) : ∀ (W : List Str) (acc : List Trp) (y4 y5 : Option D), (∀ w ∈ W, w.length ≤ 100000) → acc.length + W.length < 200000 →
    (∀ y4 y5, E.nx [x0, some (.loc a), x2, some (.loc st.length), y4, y5, none] (st ++ [.lst ((foundK acc W).map encT)])) →
    runG (gN 4) (RD.b_read_lock_1 sp_lines sp_textofB sp_chkline sp_ttrp) E (fun st' => st'[a]? = some (.lst all)) (W.map .str) [x0, some (.loc a), x2, some (.loc st.length), y4, y5, none] (st ++ [.lst (acc.map encT)])
  | [], acc, y4, y5, _, _, hk => by
    rw [List.map_nil, runG_nil]
    exact ⟨gb ha, by simpa [foundK] using hk y4 y5⟩
  | w :: W, acc, y4, y5, hw, hl, hk => by
    rw [List.map_cons, runG_cons]
    refine ⟨gb ha, ?_⟩
    have ih := fun acc y4 y5 => lp_rlock E (x0 := x0) (x2 := x2) ha W acc y4 y5 (fun z hz => hw z (List.mem_cons_of_mem _ hz))
    generalize hR : runG (gN 4) (RD.b_read_lock_1 sp_lines sp_textofB sp_chkline sp_ttrp) E (fun st' => st'[a]? = some (.lst all)) (W.map .str) = R at ih ⊢
    rw [s_gN]
    unfold RD.b_read_lock_1
    have hf : (st ++ [Ob.lst (acc.map encT)])[st.length]? = some (.lst (acc.map encT)) := getElem?_push
    show dSeq _ _ _ [x0, some (.loc a), x2, some (.loc st.length), some (.str w), y5, none] _
    rw [s_seq, s_asg, s_call, s_cons, s_var]
    show dNil _ _ _ _
    rw [s_nil]
    refine ⟨rfl, hw w List.mem_cons_self, ?_⟩
    dsimp only
    rw [s_gN]
    try dsimp only
    show dSeq _ _ _ [x0, some (.loc a), x2, some (.loc st.length), some (.str w), some (encOT (trpL (tl w))), none] _
    have hfw : foundK acc (w :: W) = match trpL (tl w) with
      | none => acc
      | some t => if okNext acc t = true then foundK (acc ++ [t]) W else acc := rfl
    rw [hfw] at hk
    rw [s_seq, s_ifS, s_or, s_test, s_op, s_var]
    show dC _ _ _ _ _
    rw [s_c, s_is]
    dsimp only
    rw [isnon_OT]
    cases ht : trpL (tl w) with
    | none =>
      rw [ht] at hk
      rw [if_pos (by rfl), if_pos rfl, s_break]
      exact hk _ _
    | some t =>
      rw [ht] at hk
      rw [if_neg (by simp), s_and, s_tru, s_var]
      show truD _ (.loc st.length) _
      rw [s_tru_loc, hf]
      dsimp only at hk ⊢
      simp only [List.length_cons] at hl
      have put : okNext acc t = true → dDrop (dBM "list" dAppend (dVar 3) (dCons (dVar 5) dNil)) { nx := R, rt := E.rt, bk := E.nx, ct := R, xs := E.xs } [x0, some (.loc a), x2, some (.loc st.length), some (.str w), some (encT t), none] (st ++ [Ob.lst (acc.map encT)]) := by
        intro hok
        rw [if_pos hok] at hk
        rw [s_drop, s_bm, s_var]
        show tyD _ "list" (.loc st.length) ∧ _
        refine ⟨by simp, ?_⟩
        rw [s_cons, s_var]
        show dNil _ _ _ _
        rw [s_nil, s_append]
        refine ⟨_, hf, by rw [List.length_map]; exact sizeLine_big (by omega), ?_⟩
        have e : (st ++ [Ob.lst (acc.map encT)]).set st.length (.lst (acc.map encT ++ [encT t])) = st ++ [Ob.lst ((acc ++ [t]).map encT)] := by
          rw [List.set_append_right _ _ (Nat.le_refl _)]
          simp
        rw [e]
        exact ih (acc ++ [t]) _ _ (by simp; omega) hk
      cases hg : acc.getLast? with
      | none =>
        have hnil : acc = [] := List.getLast?_eq_none_iff.mp hg
        have hok : okNext acc t = true := by unfold okNext; rw [hg]
        rw [if_neg (by rw [hnil]; simp), if_neg (by simp), s_next]
        exact put hok
      | some z =>
        have hne : acc ≠ [] := fun e => by rw [e] at hg; cases hg
        have hokd : okNext acc t = ltS z.1 t.1 := by unfold okNext; rw [hg]
        have hz : (!(acc.map encT).isEmpty) = true := by cases hh : acc; exact absurd hh hne; rfl
        rw [hz, if_pos rfl, s_test, s_op, s_op, s_var]
        show dC _ _ _ _ _
        rw [s_c]
        refine ⟨.str t.1, atI_0, ?_⟩
        try dsimp only
        rw [s_op, s_op, s_var]
        show dUn _ _ _ _ _ _
        rw [s_un, s_c, s_neg, s_ix_loc]
        refine ⟨_, _, hf, atI_endT hg, ?_⟩
        rw [s_c]
        refine ⟨.str z.1, atI_0, ?_⟩
        refine le_strs ?_
        dsimp only
        cases hlt : ltS z.1 t.1 with
        | false =>
          rw [hokd, hlt, if_neg (by decide)] at hk
          rw [if_pos (by decide), s_break]
          exact hk _ _
        | true =>
          rw [if_neg (by decide), s_next]
          exact put (by rw [hokd]; exact hlt)
def readK (W : List Str) (rest : Str) : Sum Nat (List Trp) :=
  if W[(foundK [] W).length]? = some (chkT (tl (linesT (W.take (foundK [] W).length)))) then
    if (foundK [] W).length + 1 < W.length ∨ rest ≠ "" then .inl ((foundK [] W).length + 2) else .inr (foundK [] W)
  else .inl ((foundK [] W).length + 1)
def sp_rlock : DSp := fun ds st Q Z => match ds with
  | [d] => (∃ t, d = .str t ∧ t.length ≤ 100000 ∧
      (match readK (Txt.split t "\n").dropLast (lastS (Txt.split t "\n")) with
        | .inl n => Z (errX 4 [("number", .int (n : Nat))]) st
        | .inr l => Q (encI l) st)) ∨ ((∃ T, tyN st d = some T ∧ T ≠ "str") ∧ Z (errX 4 [("number", .int 0)]) st)
  | _ => False
theorem r_read_lock : Rd 1 sp_rlock (RD.t_read_lock sp_lines sp_textofB sp_chkline sp_ttrp) RD.N_read_lock := by
  intro ds st Q Z hl h
  match ds, hl, h with
  | [d], _, .inr ⟨hT, q⟩ =>
    unfold RD.t_read_lock
    rw [s_seq, s_asg, s_call, s_cons, s_var]
    show dNil _ _ _ _
    rw [s_nil]
    exact ⟨rfl, .inr ⟨hT, .inl q⟩⟩
  | [_], _, .inl ⟨t, rfl, ht, q⟩ =>
    unfold RD.t_read_lock
    rw [s_seq, s_asg, s_call, s_cons, s_var]
    show dNil _ _ _ _
    rw [s_nil]
    refine ⟨rfl, .inl ⟨t, rfl, ht, ?_⟩⟩
    dsimp only
    rw [s_gTup]
    refine ⟨rfl, ?_⟩
    rw [s_gCons, s_gN, s_gCons, s_gN, s_gNil]
    have htake : ∀ n, (linesT ((Txt.split t "\n").dropLast.take n)).length ≤ 1000000 := fun n => by
      rw [linesT_lenS]
      have h1 := lenS_take (Txt.split t "\n").dropLast n
      have h2 := dropLast_lenS (split_neK t "\n" (by decide) (by decide))
      have h3 := split_lenS t
      omega
    have hls : ∀ n, lenS ((Txt.split t "\n").dropLast.take n) ≤ 100001 := fun n => by
      have h1 := lenS_take (Txt.split t "\n").dropLast n
      have h2 := dropLast_lenS (split_neK t "\n" (by decide) (by decide))
      have h3 := split_lenS t
      omega
    have hW0 : (Txt.split t "\n").dropLast.length ≤ 100002 := by
      have := PyProof.Rows.split_le t "\n"
      rw [List.length_dropLast]
      omega
    have hp0 : ∀ w ∈ (Txt.split t "\n").dropLast, w.length ≤ 100000 := fun w hw => by
      have := split_len ((List.dropLast_sublist _).subset hw)
      omega
    generalize Txt.split t "\n" = W at q htake hls hW0 hp0 ⊢
    generalize lastS W = rest at q ⊢
    generalize W.dropLast = W0 at q hW0 hp0 htake hls ⊢
    show dSeq _ _ _ [some (.str t), some (.loc st.length), some (.str rest), none, none, none, none] (st ++ [Ob.lst (W0.map .str)])
    rw [s_seq, s_asg, s_dlst, s_nil]
    refine ⟨szk _ (by simp), ?_⟩
    rw [s_gN]
    have e1 : (st ++ [Ob.lst (W0.map D.str)]).length = st.length + 1 := by simp
    have ha : (st ++ [Ob.lst (W0.map D.str)])[st.length]? = some (.lst (W0.map .str)) := getElem?_push
    generalize hst1 : st ++ [Ob.lst (W0.map D.str)] = st1 at e1 ha ⊢
    dsimp only
    show dSeq _ _ _ [some (.str t), some (.loc st.length), some (.str rest), some (.loc st1.length), none, none, none] (st1 ++ [Ob.lst (([] : List Trp).map encT)])
    rw [s_seq, s_for, s_iD, s_var]
    show walkD _ (.loc st.length) _
    rw [s_walk_loc]
    refine ⟨_, gb ha, lp_rlock _ ha W0 [] none none hp0 (by simp; omega) fun y4 y5 => ?_⟩
    have hfl := foundK_len W0 []
    unfold readK at q
    simp only [List.length_nil, Nat.zero_add] at hfl
    generalize foundK [] W0 = F at q hfl ⊢
    have hF : (st1 ++ [Ob.lst (F.map encT)])[st1.length]? = some (.lst (F.map encT)) := getElem?_push
    have ha2 : (st1 ++ [Ob.lst (F.map encT)])[st.length]? = some (.lst (W0.map .str)) := gb ha
    have hpre : Pre st (st1 ++ [Ob.lst (F.map encT)]) := by rw [← hst1]; exact ⟨[Ob.lst (W0.map D.str), Ob.lst (F.map encT)], by simp⟩
    generalize st1 ++ [Ob.lst (F.map encT)] = st2 at hF ha2 hpre ⊢
    dsimp only
    rw [s_seq, s_asg, s_cb, s_cons, s_var]
    show dNil _ _ _ _
    rw [s_nil, s_len_loc, hF]
    dsimp only
    rw [s_gN, List.length_map]
    show dSeq _ _ _ [some (.str t), some (.loc st.length), some (.str rest), some (.loc st1.length), y4, y5, some (.int (F.length : Int))] st2
    rw [s_seq, s_ifS, s_or, s_test, s_op, s_var]
    show dCB _ _ _ _ _ _
    rw [s_cb, s_cons, s_var]
    show dNil _ _ _ _
    rw [s_nil, s_len_loc, ha2]
    dsimp only
    show dEqB id (.int (F.length : Int)) (.int ((W0.map D.str).length : Int)) _ _
    rw [s_eq_int, List.length_map]
    dsimp only [id]
    -- what is raised first
    have bad : ∀ (E : DEnds) st3, E.xs = (fun x _ st' => BackX st Z x st') → Pre st st3 → ¬ (W0[F.length]? = some (chkT (tl (linesT (W0.take F.length))))) → dRaise1 4 "number" (dOp dAdd (dVar 6) (dC (.int 1))) E [some (.str t), some (.loc st.length), some (.str rest), some (.loc st1.length), y4, y5, some (.int (F.length : Int))] st3 := by
      intro E st3 hE hp3 hb
      rw [if_neg hb] at q
      rw [s_raise1, s_op, s_var]
      show dC _ _ _ _ _
      rw [s_c, s_add_int, hE]
      exact backX_pre hp3 rfl q
    by_cases hm : F.length = W0.length
    · have e : decide ((F.length : Int) = (W0.length : Int)) = true := decide_eq_true (by omega)
      rw [e, if_pos rfl, if_pos rfl]
      exact bad _ st2 rfl hpre (by rw [List.getElem?_eq_none (by omega)]; simp)
    · have e : decide ((F.length : Int) = (W0.length : Int)) = false := decide_eq_false (by omega)
      rw [e, if_neg (by decide)]
      have hlt : F.length < W0.length := by omega
      have hget : (W0.map D.str)[F.length]? = some (.str (W0[F.length])) := by rw [List.getElem?_map, List.getElem?_eq_getElem hlt]; rfl
      have hg0 : W0[F.length]? = some (W0[F.length]) := List.getElem?_eq_getElem hlt
      rw [hg0] at q bad
      generalize W0[F.length] = wl at hget q bad
      rw [s_test, s_op, s_op, s_var]
      show dVar _ _ _ _ _
      rw [s_var]
      show dIx (.loc st.length) (.int (F.length : Int)) _ _
      rw [s_ix_loc]
      refine ⟨_, _, ha2, atI_nat hget, ?_⟩
      rw [s_call, s_cons, s_call, s_cons, s_sl, s_var]
      show dNoPart _ _ _ _
      rw [s_noPart, s_part, s_var]
      show dSlV _ _ _ _ _
      rw [s_slv_loc]
      refine ⟨_, ha2, ?_⟩
      rw [cutL_map, cutK_take, s_nil]
      refine ⟨rfl, W0.take F.length, getElem?_push, by rw [List.length_take]; omega, by have := hls F.length; omega, ?_⟩
      have hpre3 : Pre st (st2 ++ [Ob.lst ((W0.take F.length).map D.str)]) := hpre.app _
      have hF3 : (st2 ++ [Ob.lst ((W0.take F.length).map D.str)])[st1.length]? = some (.lst (F.map encT)) := gb hF
      have ha3 : (st2 ++ [Ob.lst ((W0.take F.length).map D.str)])[st.length]? = some (.lst (W0.map .str)) := gb ha2
      generalize st2 ++ [Ob.lst ((W0.take F.length).map D.str)] = st3 at hpre3 hF3 ha3 ⊢
      dsimp only
      rw [s_nil]
      refine ⟨rfl, htake _, ?_⟩
      dsimp only
      show dEqB not (.str wl) (.str _) _ _
      rw [s_eq_str]
      dsimp only
      by_cases hc : wl = chkT (tl (linesT (W0.take F.length)))
      · rw [if_pos (by rw [hc])] at q
        rw [if_neg (by simp [hc]), s_next]
        dsimp only
        rw [s_seq, s_ifS, s_or, s_test, s_op, s_op, s_var]
        show dC _ _ _ _ _
        rw [s_c, s_add_int, s_cb, s_cons, s_var]
        show dNil _ _ _ _
        rw [s_nil, s_len_loc, ha3]
        dsimp only
        show dOrd _ _ (.int ((F.length : Int) + 1)) (.int ((W0.map D.str).length : Int)) _ _
        rw [s_ord_int, List.length_map]
        dsimp only
        have two : ∀ E : DEnds, E.xs = (fun x _ st' => BackX st Z x st') → F.length + 1 < W0.length ∨ rest ≠ "" → dRaise1 4 "number" (dOp dAdd (dVar 6) (dC (.int 2))) E [some (.str t), some (.loc st.length), some (.str rest), some (.loc st1.length), y4, y5, some (.int (F.length : Int))] st3 := by
          intro E hE hb
          rw [if_pos hb] at q
          rw [s_raise1, s_op, s_var]
          show dC _ _ _ _ _
          rw [s_c, s_add_int, hE]
          exact backX_pre hpre3 rfl q
        by_cases h1 : F.length + 1 < W0.length
        · have e : decide ((F.length : Int) + 1 < (W0.length : Int)) = true := decide_eq_true (by omega)
          rw [e, if_pos rfl, if_pos rfl]
          exact two _ rfl (.inl h1)
        · have e : decide ((F.length : Int) + 1 < (W0.length : Int)) = false := decide_eq_false (by omega)
          rw [e, if_neg (by decide), s_test, s_op, s_var]
          show dC _ _ _ _ _
          rw [s_c]
          show dEqB not (.str rest) (.str "") _ _
          rw [s_eq_str]
          dsimp only
          by_cases hr : rest = ""
          · rw [if_neg (fun z => z.elim (fun z => h1 z) fun z => z hr)] at q
            rw [if_neg (by simp [hr]), s_next]
            dsimp only
            rw [s_ret, s_cb, s_cons, s_var]
            show dNil _ _ _ _
            rw [s_nil, s_tupOf]
            simp only [s_items_loc, hF3]
            exact back_tup hpre3 (blw_encI _ F) q
          · rw [if_pos (by simp [hr])]
            exact two _ rfl (.inr hr)
      · rw [if_pos (by simp [hc])]
        exact bad _ st3 rfl hpre3 (by simpa using hc)
end
end CM
namespace CM
open PySem L2 PySem.Spec DL
open PyProof.Rows hiding St
open TL (tl pre spl par numL joinL)
theorem tl_lines_cons (w : Str) (W : List Str) : tl (linesT (w :: W)) = tl w ++ 10 :: tl (linesT W) := by
  unfold linesT
  rw [TL.join_eq, TL.join_eq, TL.tl_join, TL.tl_join, List.map_cons, List.map_cons]
  have e : tl (lineS w) = tl w ++ [10] := by unfold lineS; rw [TL.tl_append]; rfl
  cases h : (W.map lineS).map tl with
  | nil => simp [joinL, e]
  | cons p ps =>
    rw [joinL_cons (by simp), e, List.append_assoc]
    rfl
theorem tl_lines_nil : tl (linesT []) = [] := rfl
theorem tl_lines_join : ∀ W : List Str, tl (linesT W) = joinL [10] (W.map tl ++ [[]])
  | [] => rfl
  | w :: W => by
    rw [tl_lines_cons, tl_lines_join W, List.map_cons, List.cons_append, joinL_cons (by simp)]
    rfl
theorem linesT_app (A B : List Str) : linesT (A ++ B) = linesT A ++ linesT B := by
  refine TL.ext_tl ?_
  rw [TL.tl_append]
  induction A with
  | nil => rw [tl_lines_nil]; rfl
  | cons w A ih => rw [List.cons_append, tl_lines_cons, tl_lines_cons, ih, List.append_assoc]; rfl
/-- the lines of lines -/
theorem split_lines {W : List Str} (h : ∀ w ∈ W, 10 ∉ tl w) : Txt.split (linesT W) "\n" = W ++ [("" : Str)] := by
  have e := split_tl (x := linesT W) tls2.2.2.2.2.2.2.1 (by simp) (by simp)
  rw [tl_lines_join, TL.spl_join (by simp) (fun p hp => by
    rcases List.mem_append.mp hp with hp | hp
    · obtain ⟨w, hw, rfl⟩ := List.mem_map.mp hp
      exact h w hw
    · rw [List.mem_singleton.mp hp]; simp)] at e
  have e2 := congrArg (List.map SL) e
  rw [map_SL_tl, List.map_append, map_SL_tl] at e2
  exact e2
def lockL (l : List Trp) : List Str := l.map trpT ++ [chkT (tl (bodyT l))]
theorem lockTx_lines (l : List Trp) : lockTx l = linesT (lockL l) := by
  unfold lockTx lockL
  rw [linesT_app, linesT_one]
  rfl
theorem name_in {s : Str} (h : nameS s = true) : ∀ c ∈ tl s, 97 ≤ c ∧ c ≤ 122 := nameL_free (by rw [← nameS_eq]; exact h)
theorem tl_placeT (k : Lock) : tl (placeT k) = tl k.1 ++ 32 :: vL k.2 := by
  unfold placeT
  rw [TL.tl_append, TL.tl_append, tls2.2.2.1, List.append_assoc]
  rfl
theorem tl_trpT (t : Trp) : tl (trpT t) = tl t.1 ++ 32 :: joinL [32] (vL t.2.1 :: t.2.2.map tl) := by
  unfold trpT
  rw [TL.join_eq, TL.tl_join, tls2.2.2.1, List.map_cons, tl_placeT]
  cases h : t.2.2.map tl with
  | nil => simp [joinL]
  | cons p ps =>
    rw [joinL_cons (p := tl t.1 ++ 32 :: vL t.2.1) (ps := p :: ps) (by simp), joinL_cons (p := vL t.2.1) (ps := p :: ps) (by simp)]
    simp
theorem trpT_in {t : Trp} (h : TrpV t) {c : Nat} (hc : c ∈ tl (trpT t)) : (97 ≤ c ∧ c ≤ 122) ∨ c = 32 ∨ (48 ≤ c ∧ c ≤ 57) ∨ c = 46 := by
  rw [tl_trpT] at hc
  rcases List.mem_append.mp hc with hc | hc
  · exact .inl (name_in h.1 c hc)
  rcases List.mem_cons.mp hc with hc | hc
  · exact .inr (.inl hc)
  rcases mem_join hc with hc | ⟨p, hp, hc⟩
  · exact .inr (.inl (List.mem_singleton.mp hc))
  rcases List.mem_cons.mp hp with rfl | hp
  · rcases vL_in hc with hc | hc
    · exact .inr (.inr (.inl hc))
    · exact .inr (.inr (.inr hc))
  · obtain ⟨s, hs, rfl⟩ := List.mem_map.mp hp
    exact .inl (name_in (namesF_names h.2.2 s hs) c hc)
theorem trpT_free {t : Trp} (h : TrpV t) : 10 ∉ tl (trpT t) := fun hc => by
  have := trpT_in h hc
  omega
theorem numL_in {n c : Nat} (h : c ∈ numL n) : 48 ≤ c ∧ c ≤ 57 := by
  by_cases h1 : 48 ≤ c ∧ c ≤ 57
  · exact h1
  · exact absurd h (TL.numL_free (by omega))
theorem chkT_free (l : List Nat) : 10 ∉ tl (chkT l) := fun hc => by
  rw [tl_chkT] at hc
  rcases List.mem_append.mp hc with hc | hc
  · simp at hc
  · have := numL_in hc
    omega
theorem lockL_free {l : List Trp} (h : ∀ t ∈ l, TrpV t) : ∀ w ∈ lockL l, 10 ∉ tl w := fun w hw => by
  rcases List.mem_append.mp hw with hw | hw
  · obtain ⟨t, ht, rfl⟩ := List.mem_map.mp hw
    exact trpT_free (h t ht)
  · rw [List.mem_singleton.mp hw]
    exact chkT_free _
theorem trpL_back {t : Trp} (h : TrpV t) : trpL (tl (trpT t)) = some t := by
  have h32 : ∀ s : Str, nameS s = true → 32 ∉ tl s := fun s hs hc => by have := name_in hs 32 hc; omega
  have hv32 : 32 ∉ vL t.2.1 := fun hc => by have := vL_in hc; omega
  unfold trpL
  rw [tl_trpT, par1_at (h32 _ h.1)]
  dsimp only
  rw [TL.spl_join (by simp) (fun p hp => by
    rcases List.mem_cons.mp hp with rfl | hp
    · exact hv32
    · obtain ⟨s, hs, rfl⟩ := List.mem_map.mp hp
      exact h32 s (namesF_names h.2.2 s hs))]
  unfold trpM
  dsimp only
  rw [verText_vL h.2.1, map_SL_tl, SL_tl]
  have : trpB t.1 (some t.2.1) t.2.2 = true := by
    unfold trpB
    rw [h.1, h.2.2]
    rfl
  rw [if_pos this]
  rfl
theorem verText_num (n : Nat) : verText (numL n) = none := by
  unfold verText
  have : spl [46] 0 [] (numL n) = [numL n] := by
    rw [spl1]
    cases h : par [46] [] (numL n) with
    | none => rfl
    | some p =>
      obtain ⟨q, _, e, _⟩ := par1_some (a := p.1) (r := p.2) (by rw [h])
      have : 46 ∈ numL n := by rw [e]; simp
      exact absurd this (dot_free n)
  rw [this]
  exact verM_len (by simp)
theorem trpL_chk (l : List Nat) : trpL (tl (chkT l)) = none := by
  rw [tl_chkT]
  unfold trpL
  have : [99, 104, 101, 99, 107, 32] ++ numL (chk l) = [99, 104, 101, 99, 107] ++ 32 :: numL (chk l) := rfl
  rw [this, par1_at (by simp)]
  dsimp only
  have hs : spl [32] 0 [] (numL (chk l)) = [numL (chk l)] := by
    rw [spl1]
    cases h : par [32] [] (numL (chk l)) with
    | none => rfl
    | some p =>
      obtain ⟨q, _, e, _⟩ := par1_some (a := p.1) (r := p.2) (by rw [h])
      have : 32 ∈ numL (chk l) := by rw [e]; simp
      have := numL_in this
      omega
  rw [hs]
  unfold trpM
  dsimp only
  rw [verText_num]
  simp [trpB]
def nmT (t : Trp) : Str := t.1
theorem foundK_all {x : Str} (hx : trpL (tl x) = none) : ∀ (l acc : List Trp), (∀ t ∈ l, TrpV t) → up ((acc ++ l).map nmT) → foundK acc (l.map trpT ++ [x]) = acc ++ l
  | [], acc, _, _ => by
    simp only [List.map_nil, List.nil_append, List.append_nil]
    unfold foundK
    rw [hx]
  | t :: l, acc, hv, hu => by
    rw [List.map_cons, List.cons_append]
    unfold foundK
    rw [trpL_back (hv t List.mem_cons_self)]
    dsimp only
    have hok : okNext acc t = true := by
      unfold okNext
      split
      · rfl
      · rename_i z hz
        rw [List.map_append, List.map_cons] at hu
        have := (List.pairwise_append.mp hu).2.2
        exact this (nmT z) (List.mem_map_of_mem (List.mem_of_getLast? hz)) (nmT t) List.mem_cons_self
    rw [if_pos hok]
    have := foundK_all hx l (acc ++ [t]) (fun z hz => hv z (List.mem_cons_of_mem _ hz)) (by rw [List.append_assoc]; exact hu)
    rw [this, List.append_assoc]
    rfl
/-- what is written is read -/
theorem lock_back {l : List Trp} (hv : ∀ t ∈ l, TrpV t) (hu : up (l.map nmT)) : readK (Txt.split (lockTx l) "\n").dropLast (lastS (Txt.split (lockTx l) "\n")) = .inr l := by
  rw [lockTx_lines, split_lines (lockL_free hv)]
  have e1 : (lockL l ++ [("" : Str)]).dropLast = lockL l := by simp
  have e2 : lastS (lockL l ++ [("" : Str)]) = "" := by simp [lastS]
  rw [e1, e2]
  have hf : foundK [] (lockL l) = l := by
    unfold lockL
    rw [foundK_all (trpL_chk _) l [] hv (by simpa using hu), List.nil_append]
  unfold readK
  rw [hf]
  have ht : (lockL l).take l.length = l.map trpT := by
    unfold lockL
    rw [List.take_append_of_le_length (by simp), List.take_of_length_le (by simp)]
  rw [ht]
  have hg : (lockL l)[l.length]? = some (chkT (tl (linesT (l.map trpT)))) := by
    unfold lockL
    rw [List.getElem?_append_right (by simp)]
    simp [bodyT]
  rw [if_pos hg, if_neg]
  unfold lockL
  simp
end CM
namespace CM
open PySem L2 PySem.Spec DL
open PyProof.Rows hiding St
open TL (tl pre spl par numL joinL)
def sp_lnameB : DSp := fun ds st Q _ => match ds with
  | [.str t] => t.length ≤ 200000 ∧ Q (.bl (nameL (tl t))) st
  | _ => False
theorem r__law_is_name_k42 : Rd 1 sp_lnameB RD.t__law_is_name_k42 RD.N__law_is_name_k42 := by
  intro ds st Q Z hl h
  match ds, hl, h with
  | [.str t], _, ⟨ht, q⟩ =>
    have hz : t.length ≤ sizeLine := sz_big (by omega)
    have hlen := TL.len_tl t
    unfold RD.t__law_is_name_k42
    have hn : ∀ b : Bool, nameL (tl t) = b → Q (.bl b) st := fun b e => by rw [e] at q; exact q
    rw [s_ret, s_andV, s_chain, s_c, s_cb, s_cons, s_var]
    show dNil _ _ _ _
    rw [s_nil, s_len_str]
    refine ⟨hz, ?_⟩
    show dOrd _ _ (.int 1) (.int (t.length : Int)) st _
    rw [s_ord_int]
    by_cases h1 : 1 ≤ t.length
    · have h1' : (1 : Int) ≤ (t.length : Int) := by omega
      simp only [h1', decide_true, if_true]
      rw [s_c]
      show dOrd _ _ (.int (t.length : Int)) (.int 12) st _
      rw [s_ord_int, s_tru_bl]
      by_cases h12 : t.length ≤ 12
      · have h12' : (t.length : Int) ≤ 12 := by omega
        rw [if_pos (by simpa using h12'), s_cb, s_cons, s_lc, s_iD, s_var]
        show walkD st (.str t) _
        rw [s_walk_str, str_items]
        refine runC_mem (inj := fun c => .str ⟨#[c]⟩) (out := fun c => .bl (decide (97 ≤ c ∧ c ≤ 122))) trivial (tl t) [] (fun c hc QT qt => ?_) (by rw [List.length_nil]; omega) ?_
        · unfold RD.e__law_is_name_k42_1
          simp
          refine ⟨c, ("abcdefghijklmnopqrstuvwxyz" : Str), rfl, rfl, ?_⟩
          rw [low_mem]
          simpa using qt
        · rw [s_nil]
          refine ⟨(tl t).map fun c => decide (97 ≤ c ∧ c ≤ 122), by simp, ?_⟩
          have e : ((tl t).map fun c => decide (97 ≤ c ∧ c ≤ 122)).all id = nameL (tl t) := by
            unfold nameL
            rw [List.all_map, ← hlen, decide_eq_true h12, decide_eq_true (show tl t ≠ [] from fun z => by rw [hlen, z] at h1; simp at h1)]
            simp
          rw [e]
          exact back_tup ⟨_, rfl⟩ rfl q
      · have h12' : ¬ (t.length : Int) ≤ 12 := by omega
        rw [if_neg (by simpa using h12')]
        have e : decide ((t.length : Int) ≤ 12) = false := decide_eq_false h12'
        rw [e]
        refine .inl (hn false ?_)
        unfold nameL
        rw [← hlen, decide_eq_false h12]
        rfl
    · have h1' : ¬ (1 : Int) ≤ (t.length : Int) := by omega
      simp only [h1', decide_false, Bool.false_eq_true, if_false]
      rw [s_tru_bl, if_neg (by simp)]
      refine .inl (hn false ?_)
      have : tl t = [] := List.length_eq_zero_iff.mp (by omega)
      rw [this]
      rfl
theorem map_chr : ∀ l : List Nat, (∀ c ∈ l, 48 ≤ c ∧ c ≤ 57) → (l.map Char.ofNat).map Char.toNat = l
  | [], _ => rfl
  | c :: l, h => by
    have hc := h c List.mem_cons_self
    have key : ∀ c : Nat, c < 58 → (Char.ofNat c).toNat = c := by decide
    rw [List.map_cons, List.map_cons, map_chr l fun x hx => h x (List.mem_cons_of_mem _ hx), key c (by omega)]
theorem canon {l : List Nat} (hne : l ≠ []) (hd : ∀ c ∈ l, 48 ≤ c ∧ c ≤ 57) : numL (NumText.digitsVal l) = l ↔ (l = [48] ∨ l.head? ≠ some 48) := by
  constructor
  · intro e
    by_cases h0 : NumText.digitsVal l = 0
    · rw [h0] at e
      exact .inl e.symm
    · right
      have := numL_head _ (Nat.pos_of_ne_zero h0)
      rwa [e] at this
  · rintro (rfl | h)
    · rfl
    · cases l with
      | nil => exact absurd rfl hne
      | cons c r =>
        have hc := hd c List.mem_cons_self
        have h48 : c ≠ 48 := by simpa using h
        unfold TL.numL
        rw [NumText.toDigits_digitsVal r.length (c :: r) rfl hd (.inr ⟨c, r, rfl, by omega⟩)]
        exact map_chr _ hd
theorem dv_lt : ∀ l : List Nat, (∀ c ∈ l, 48 ≤ c ∧ c ≤ 57) → NumText.digitsVal l < 10 ^ l.length := by
  intro l
  induction hn : l.length generalizing l with
  | zero => intro _; rw [List.length_eq_zero_iff.mp hn]; decide
  | succ n ih =>
    intro h
    have hne : l ≠ [] := by intro e; rw [e] at hn; cases hn
    have e := List.dropLast_concat_getLast hne
    generalize l.dropLast = ini at e
    generalize l.getLast hne = c at e
    subst e
    have := ih ini (by simp at hn; exact hn) fun d hd => h d (List.mem_append_left _ hd)
    have hc := h c (List.mem_append_right _ (List.mem_singleton.mpr rfl))
    rw [NumText.digitsVal_snoc, Nat.pow_succ]
    omega
def lawNum (m : Nat) (l : List Nat) : Option Nat := if l ≠ [] ∧ l.length ≤ 12 ∧ (∀ c ∈ l, 48 ≤ c ∧ c ≤ 57) ∧ (l = [48] ∨ l.head? ≠ some 48) then (if NumText.digitsVal l ≤ m then some (NumText.digitsVal l) else none) else none
def sp_lnumK : DSp := fun ds st Q _ => match ds with
  | [.str t, .int m] => 0 ≤ m ∧ t.length ≤ 200000 ∧ Q (encN (lawNum m.toNat (tl t))) st
  | _ => False
theorem log_12 {n : Nat} (h : n < 10 ^ 12) : (n : Int).natAbs.log2 < 1920 := by
  rw [Int.natAbs_natCast]
  by_cases h0 : n = 0
  · rw [h0]; decide
  · have h2 : n.log2 < 40 := (Nat.log2_lt h0).mpr (Nat.lt_of_lt_of_le h (by decide))
    omega
theorem r__law_number : Rd 2 sp_lnumK RD.t__law_number RD.N__law_number := by
  intro ds st Q Z hl h
  match ds, hl, h with
  | [.str t, .int m], _, ⟨hm, ht, q⟩ =>
    obtain ⟨M, rfl⟩ : ∃ M : Nat, m = M := ⟨m.toNat, by omega⟩
    rw [Int.toNat_natCast] at q
    have hz : t.length ≤ sizeLine := sz_big (by omega)
    have hlen := TL.len_tl t
    unfold RD.t__law_number
    have no : ∀ g, ¬ (tl t ≠ [] ∧ (tl t).length ≤ 12 ∧ (∀ c ∈ tl t, 48 ≤ c ∧ c ≤ 57) ∧ (tl t = [48] ∨ (tl t).head? ≠ some 48)) → DL.Back st Q .non (st ++ g) := fun g hn => by
      have : lawNum M (tl t) = none := by unfold lawNum; rw [if_neg hn]
      rw [this] at q
      exact back_tup ⟨g, rfl⟩ rfl q
    have no0 : ¬ (tl t ≠ [] ∧ (tl t).length ≤ 12 ∧ (∀ c ∈ tl t, 48 ≤ c ∧ c ≤ 57) ∧ (tl t = [48] ∨ (tl t).head? ≠ some 48)) → DL.Back st Q .non st := fun hn => by simpa using no [] hn
    rw [s_seq]
    rw [s_ifS, s_or, s_not, s_test, s_chain, s_c, s_cb, s_cons, s_var]
    show dNil _ _ _ _
    rw [s_nil, s_len_str]
    refine ⟨hz, ?_⟩
    show dOrd _ _ (.int 1) (.int (t.length : Int)) st _
    rw [s_ord_int]
    by_cases h1 : 1 ≤ t.length
    · have h1' : (1 : Int) ≤ (t.length : Int) := by omega
      simp only [h1', decide_true, if_true]
      rw [s_c]
      show dOrd _ _ (.int (t.length : Int)) (.int 12) st _
      rw [s_ord_int]
      by_cases h12 : t.length ≤ 12
      · have h12' : (t.length : Int) ≤ 12 := by omega
        have hne : tl t ≠ [] := fun z => by rw [hlen, z] at h1; simp at h1
        simp only [h12', decide_true, Bool.not_true, Bool.false_eq_true, if_false]
        rw [s_or, s_not, s_tru, s_cb, s_cons, s_lc, s_iD, s_var]
        show walkD st (.str t) _
        rw [s_walk_str, str_items]
        refine runC_mem (inj := fun c => .str ⟨#[c]⟩) (out := fun c => .bl (decide (48 ≤ c ∧ c ≤ 57))) trivial (tl t) [] (fun c hc QT qt => ?_) (by rw [List.length_nil]; omega) ?_
        · unfold RD.e__law_number_1
          simp
          refine ⟨c, ("0123456789" : Str), rfl, rfl, ?_⟩
          rw [dig_mem]
          simpa using qt
        · rw [s_nil, s_all]
          refine ⟨(tl t).map fun c => decide (48 ≤ c ∧ c ≤ 57), by simp, ?_⟩
          have e : ((tl t).map fun c => decide (48 ≤ c ∧ c ≤ 57)).all id = digs (tl t) := by unfold digs; rw [List.all_map]; rfl
          rw [e, List.nil_append, s_tru_bl]
          generalize hgg : [Ob.lst ((tl t).map fun c => D.bl (decide (48 ≤ c ∧ c ≤ 57)))] = g
          cases hd : digs (tl t) with
          | false =>
            rw [if_pos (by simp), if_pos rfl, s_ret, s_c]
            refine no g ?_
            rintro ⟨_, _, h, _⟩
            have : digs (tl t) = true := by unfold digs; rw [List.all_eq_true]; intro c hc; simpa using h c hc
            rw [hd] at this
            cases this
          | true =>
            have hdg : ∀ c ∈ tl t, 48 ≤ c ∧ c ≤ 57 := fun c hc => by
              unfold digs at hd
              rw [List.all_eq_true] at hd
              simpa using hd c hc
            have e3 : intText? t = some ((NumText.digitsVal (tl t) : Nat) : Int) := intText_digits (x := t) hdg hne (by omega)
            have hlt := dv_lt (tl t) hdg
            have hlt2 : NumText.digitsVal (tl t) < 10 ^ 12 := Nat.lt_of_lt_of_le hlt (Nat.pow_le_pow_right (by decide) (by omega))
            rw [if_neg (by simp), s_test, s_op, s_var]
            show dCB _ _ _ _ _ _
            rw [s_cb, s_cons, s_cb, s_cons, s_var]
            show dNil _ _ _ _
            rw [s_nil, s_intS]
            refine ⟨_, e3, by omega, ?_⟩
            rw [s_nil, s_strI]
            refine ⟨log_12 hlt2, ?_⟩
            show dEqB not (.str t) (.str _) _ _
            rw [s_eq_str]
            have hiff : (t = (toString ((NumText.digitsVal (tl t) : Nat) : Int) : Str)) ↔ (tl t = [48] ∨ (tl t).head? ≠ some 48) := by
              rw [str_eq, TL.tl_num, ← canon hne hdg]
              exact eq_comm
            generalize (Str.ofString (toString ((NumText.digitsVal (tl t) : Nat) : Int))) = sv at hiff ⊢
            try dsimp only
            by_cases hc : tl t = [48] ∨ (tl t).head? ≠ some 48
            · rw [if_neg (by rw [← hiff.mpr hc]; simp), s_next]
              try dsimp only
              have hval : lawNum M (tl t) = if NumText.digitsVal (tl t) ≤ M then some (NumText.digitsVal (tl t)) else none := by
                unfold lawNum
                rw [if_pos ⟨hne, by omega, hdg, hc⟩]
              rw [hval] at q
              rw [s_ret, s_if, s_test, s_op, s_cb, s_cons, s_var]
              show dNil _ _ _ _
              rw [s_nil, s_intS]
              refine ⟨_, e3, by omega, ?_⟩
              rw [s_var]
              show dOrd _ _ (.int _) (.int (M : Int)) _ _
              rw [s_ord_int]
              try dsimp only
              by_cases hle : NumText.digitsVal (tl t) ≤ M
              · rw [if_pos hle] at q
                rw [if_pos (by simp; omega), s_cb, s_cons, s_var]
                show dNil _ _ _ _
                rw [s_nil, s_intS]
                exact ⟨_, e3, by omega, back_tup ⟨g, rfl⟩ rfl q⟩
              · rw [if_neg hle] at q
                rw [if_neg (by simp; omega), s_c]
                exact back_tup ⟨g, rfl⟩ rfl q
            · rw [if_pos (by simpa using fun z => hc (hiff.mp z)), s_ret, s_c]
              exact no g fun z => hc z.2.2.2
      · have h12' : ¬ (t.length : Int) ≤ 12 := by omega
        simp only [h12', decide_false, Bool.not_false, if_true]
        rw [s_ret, s_c]
        exact no0 fun z => by have := z.2.1; omega
    · have h1' : ¬ (1 : Int) ≤ (t.length : Int) := by omega
      simp only [h1', decide_false, Bool.false_eq_true, if_false, Bool.not_false, if_true]
      rw [s_ret, s_c]
      exact no0 fun z => z.1 (List.length_eq_zero_iff.mp (by omega))
end CM
namespace CM
open PySem L2 PySem.Spec DL
open PyProof.Rows hiding St
open TL (tl pre spl par numL joinL)
theorem okNumM_law (l : List Nat) : lawNum 1000000 l = okNumM l := by
  unfold lawNum okNumM okNum
  by_cases h : l ≠ [] ∧ l.length ≤ 12 ∧ (∀ c ∈ l, 48 ≤ c ∧ c ≤ 57) ∧ (l = [48] ∨ l.head? ≠ some 48)
  · rw [if_pos h]
    by_cases hv : NumText.digitsVal l ≤ 1000000
    · have h7 : l.length ≤ 7 := by
        rw [← (canon h.1 h.2.2.1).mpr h.2.2.2]
        exact num7 (by omega)
      rw [if_pos hv, if_pos ⟨h.1, h7, h.2.2⟩]
      dsimp only
      rw [if_pos hv]
    · rw [if_neg hv]
      by_cases h7 : l.length ≤ 7
      · rw [if_pos ⟨h.1, h7, h.2.2⟩]
        dsimp only
        rw [if_neg hv]
      · rw [if_neg fun z => h7 z.2.1]
  · rw [if_neg h, if_neg fun z => h ⟨z.1, by omega, z.2.2⟩]
def trpW : List Str → Option Trp
  | n :: w :: fs => if trpB n (verText (tl w)) fs = true then (verText (tl w)).map fun v => (n, v, fs) else none
  | _ => none
theorem trpL_words (t : Str) : trpL (tl t) = trpW (Txt.split t " ") := by
  have hs := split_tl (x := t) tls2.2.2.1 (by simp) (by simp)
  have h1 := congrArg (List.map SL) hs
  rw [map_SL_tl, spl1] at h1
  unfold trpL
  cases hp : par [32] [] (tl t) with
  | none =>
    rw [hp] at h1
    rw [h1]
    rfl
  | some p =>
    obtain ⟨n, b⟩ := p
    rw [hp] at h1
    dsimp only at h1 ⊢
    rw [h1]
    have hne := spl_ne (S := [32]) b [] 0
    cases hb : spl [32] 0 [] b with
    | nil => exact absurd hb hne
    | cons w r => rfl
theorem lotN_iff {l : List Str} (hs : ∀ s ∈ l, nameS s = true) {M : List Str} (nd : M.Nodup) (hm : ∀ y, y ∈ M ↔ y ∈ l) : namesF "" l = true ↔ l = TxS.asc M := by
  have hu := asc_up nd
  have hmem : ∀ x, x ∈ TxS.asc M ↔ x ∈ l := fun x => ((asc_perm M).mem_iff).trans (hm x)
  rw [namesF_up hs]
  exact ⟨fun h => up_uniq h hu fun x => (hmem x).symm, fun h => by rw [h]; exact hu⟩
def sp_ltrp : DSp := fun ds st Q _ => match ds with
  | [.str t] => t.length ≤ 150000 ∧ (tl t).count 32 ≤ 3900 ∧ Q (encOT (trpL (tl t))) st
  | _ => False
theorem words_count (t : Str) : (Txt.split t " ").length ≤ (tl t).count 32 + 1 := by
  have hs := split_tl (x := t) tls2.2.2.1 (by simp) (by simp)
  have hc := count_spl (c := 32) (S := [32]) (by simp) (by simp) (tl t)
  have e : (Txt.split t " ").length = (spl [32] 0 [] (tl t)).length := by rw [← hs]; simp
  rw [← e] at hc
  generalize (tl t).count 32 = c at hc ⊢
  rw [show [32].count 32 = 1 from rfl] at hc
  omega
theorem all_ev {m : Nat} {bs : List Bool} {st : Sto} {Q : DK} (h : st[m]? = some (.lst (bs.map .bl))) (q : Q (.bl (bs.all id)) st) : dAll [.loc m] st Q := ⟨bs, h, q⟩
theorem verN_back {os : List (Option Nat)} {v : Nat} (hos : ∀ o ∈ os, ∀ n, o = some n → n ≤ 1000000) (h : verN os = some v) : D.tup (os.map encN) = encV v := by
  have h3 : os.length = 3 := by
    by_cases h3 : os.length = 3
    · exact h3
    · rw [verN_none (.inl h3)] at h; cases h
  have hn : none ∉ os := fun hn => by rw [verN_none (.inr hn)] at h; cases h
  obtain ⟨x, y, z, rfl⟩ := verN_some h3 hn
  have hx := hos (some x) (by simp) x rfl
  have hy := hos (some y) (by simp) y rfl
  have hz := hos (some z) (by simp) z rfl
  have hv : encV (mkV x y z) = .tup [.int x, .int y, .int z] := by
    unfold encV
    rw [vA_mk (by omega) (by omega), vB_mk (by omega) (by omega), vC_mk (by omega)]
  have hvn : verN [some x, some y, some z] = some (mkV x y z) := rfl
  rw [hvn] at h
  cases h
  exact hv.symm
theorem r__law_triple : Rd 1 sp_ltrp (RD.t__law_triple sp_lnameB sp_lnumK) RD.N__law_triple := by
  intro ds st Q Z hl h
  match ds, hl, h with
  | [.str t], _, ⟨ht, hc32, q⟩ =>
    unfold RD.t__law_triple
    have hz : t.length ≤ sizeLine := sz_big (by omega)
    rw [trpL_words] at q
    have hW := words_count t
    have hlen : ∀ w ∈ Txt.split t " ", w.length ≤ 150000 := fun w hw => by have := split_len hw; omega
    rw [s_seq, s_asg, s_bm, s_var]
    show tyD st "str" (.str t) ∧ _
    refine ⟨rfl, ?_⟩
    rw [s_cons, s_c, s_nil, s_split]
    refine ⟨by decide, sz1m (by omega), ?_⟩
    generalize Txt.split t " " = W at q hW hlen ⊢
    rw [s_gN]
    have hm : (st ++ [Ob.lst (W.map D.str)])[st.length]? = some (.lst (W.map .str)) := getElem?_push
    have hp : Pre st (st ++ [Ob.lst (W.map D.str)]) := ⟨_, rfl⟩
    generalize st ++ [Ob.lst (W.map D.str)] = st1 at hm hp ⊢
    try dsimp only
    show dSeq _ _ _ [some (.str t), some (.loc st.length), none, none, none] st1
    have no : ∀ st', Pre st st' → trpW W = none → DL.Back st Q .non st' := fun st' h' e => by rw [e] at q; exact back_tup h' rfl q
    rw [s_seq, s_ifS, s_or, s_test, s_op, s_cb, s_cons, s_var]
    show dNil _ _ _ _
    rw [s_nil, s_len_loc, hm]
    try dsimp only
    rw [s_c]
    show dOrd _ _ (.int ((W.map D.str).length : Int)) (.int 2) _ _
    rw [s_ord_int, List.length_map]
    try dsimp only
    match W, hm, hW, hlen, q, no with
    | [], hm, hW, hlen, q, no =>
      rw [if_pos (by simp), if_pos rfl, s_ret, s_c]
      exact no st1 hp rfl
    | [n], hm, hW, hlen, q, no =>
      rw [if_pos (by simp), if_pos rfl, s_ret, s_c]
      exact no st1 hp rfl
    | n :: w :: fs, hm, hW, hlen, q, no =>
      have hnl := hlen n (by simp)
      have hwl := hlen w (by simp)
      have hfl : ∀ s ∈ fs, s.length ≤ 150000 := fun s hs => hlen s (by simp [hs])
      simp only [List.length_cons] at hW
      rw [if_neg (by simp; omega), s_not, s_tru, s_cb, s_cons, s_lc, s_iD, s_op, s_sl, s_var]
      show dNoPart _ _ _ _
      rw [s_noPart, s_part, s_c]
      try dsimp only
      rw [s_slv_loc]
      refine ⟨_, hm, ?_⟩
      rw [show (1 : Int) = ((1 : Nat) : Int) from rfl, cutK_take]
      have h1 : (st1 ++ [Ob.lst (((n :: w :: fs).map D.str).take 1)])[st1.length]? = some (.lst [.str n]) := getElem?_push
      have hm2 : (st1 ++ [Ob.lst (((n :: w :: fs).map D.str).take 1)])[st.length]? = some (.lst ((n :: w :: fs).map .str)) := gb hm
      have hp2 : Pre st (st1 ++ [Ob.lst (((n :: w :: fs).map D.str).take 1)]) := hp.app _
      generalize st1 ++ [Ob.lst (((n :: w :: fs).map D.str).take 1)] = st2 at h1 hm2 hp2 ⊢
      rw [s_sl, s_var]
      show dPart _ _ _ _ _
      rw [s_part, s_c]
      try dsimp only
      rw [s_noPart, s_slv_loc]
      refine ⟨_, hm2, ?_⟩
      rw [show (2 : Int) = ((2 : Nat) : Int) from rfl, cutK_drop]
      have h3 : (st2 ++ [Ob.lst (((n :: w :: fs).map D.str).drop 2)])[st2.length]? = some (.lst (fs.map .str)) := getElem?_push
      have h13 : (st2 ++ [Ob.lst (((n :: w :: fs).map D.str).drop 2)])[st1.length]? = some (.lst [.str n]) := gb h1
      have hm3 : (st2 ++ [Ob.lst (((n :: w :: fs).map D.str).drop 2)])[st.length]? = some (.lst ((n :: w :: fs).map .str)) := gb hm2
      have hp3 : Pre st (st2 ++ [Ob.lst (((n :: w :: fs).map D.str).drop 2)]) := hp2.app _
      generalize st2 ++ [Ob.lst (((n :: w :: fs).map D.str).drop 2)] = st3 at h3 h13 hm3 hp3 ⊢
      rw [s_add_loc]
      refine ⟨_, _, h13, h3, by simp; apply sz_big; omega, ?_⟩
      rw [s_walk_loc]
      have h4 : (st3 ++ [Ob.lst ([D.str n] ++ fs.map D.str)])[st3.length]? = some (.lst ((n :: fs).map .str)) := getElem?_push
      have hm4 : (st3 ++ [Ob.lst ([D.str n] ++ fs.map D.str)])[st.length]? = some (.lst ((n :: w :: fs).map .str)) := gb hm3
      have hp4 : Pre st (st3 ++ [Ob.lst ([D.str n] ++ fs.map D.str)]) := hp3.app _
      generalize st3 ++ [Ob.lst ([D.str n] ++ fs.map D.str)] = st4 at h4 hm4 hp4 ⊢
      refine ⟨_, h4, ?_⟩
      refine runC_mem (inj := D.str) (out := fun s => .bl (nameL (tl s))) h4 (n :: fs) [] (fun s hs QT qt => ?_) (by simp; omega) ?_
      · unfold RD.e__law_triple_1
        rw [s_call, s_cons]
        refine var_ev (d := .str s) rfl ?_
        rw [s_nil]
        refine ⟨rfl, ?_, qt⟩
        rcases List.mem_cons.mp hs with rfl | hs
        · omega
        · have := hfl s hs; omega
      rw [s_nil]
      have hm5 : (st4 ++ [Ob.lst (([] : List D) ++ (n :: fs).map fun s => D.bl (nameL (tl s)))])[st.length]? = some (.lst ((n :: w :: fs).map .str)) := gb hm4
      have hp5 : Pre st (st4 ++ [Ob.lst (([] : List D) ++ (n :: fs).map fun s => D.bl (nameL (tl s)))]) := hp4.app _
      refine all_ev (bs := (n :: fs).map fun s => nameL (tl s)) (by rw [getElem?_push, List.nil_append, List.map_map]; rfl) ?_
      generalize st4 ++ [Ob.lst (([] : List D) ++ (n :: fs).map fun s => D.bl (nameL (tl s)))] = st5 at hm5 hp5 ⊢
      try dsimp only
      rw [s_tru_bl]
      cases hall : ((n :: fs).map fun s => nameL (tl s)).all id with
      | false =>
        rw [if_pos (by simp), s_ret, s_c]
        refine no st5 hp5 ?_
        unfold trpW
        dsimp only
        rw [if_neg]
        intro hb
        unfold trpB at hb
        simp only [Bool.and_eq_true] at hb
        have hnn := namesF_names hb.2.2
        have : ((n :: fs).map fun s => nameL (tl s)).all id = true := by
          rw [List.all_map, List.all_eq_true]
          intro s hs
          show nameL (tl s) = true
          rw [← nameS_eq]
          rcases List.mem_cons.mp hs with rfl | hs
          · exact hb.1
          · exact hnn s hs
        rw [hall] at this
        cases this
      | true =>
        rw [List.all_map, List.all_eq_true] at hall
        have hn : nameS n = true := by rw [nameS_eq]; exact hall n List.mem_cons_self
        have hfs : ∀ s ∈ fs, nameS s = true := fun s hs => by rw [nameS_eq]; exact hall s (List.mem_cons_of_mem _ hs)
        rw [if_neg (by simp), s_next]
        try dsimp only
        rw [s_seq, s_par, s_cons, s_lc, s_iD, s_bm, s_op, s_var]
        show dC _ _ _ _ _
        rw [s_c, s_ix_loc]
        refine ⟨_, .str w, hm5, atI_nat (j := 1) rfl, ?_⟩
        show tyD _ "str" (.str w) ∧ _
        refine ⟨rfl, ?_⟩
        rw [s_cons, s_c, s_nil, s_split]
        refine ⟨by decide, sz1m (by omega), ?_⟩
        have hcut := split_tl (x := w) tl_dot (by simp) (by simp)
        have hvt : verText (tl w) = verN ((Txt.split w ".").map fun z => okNumM (tl z)) := by
          rw [verText_eq, ← hcut, List.map_map]
          rfl
        have hwn : ∀ z ∈ Txt.split w ".", z.length ≤ 150000 := fun z hz => by have := split_len hz; omega
        have hwc : (Txt.split w ".").length ≤ w.length + 2 := PyProof.Rows.split_le w "."
        generalize Txt.split w "." = V at hvt hwn hwc ⊢
        rw [s_walk_loc]
        have h6 : (st5 ++ [Ob.lst (V.map D.str)])[st5.length]? = some (.lst (V.map .str)) := getElem?_push
        have hm6 : (st5 ++ [Ob.lst (V.map D.str)])[st.length]? = some (.lst ((n :: w :: fs).map .str)) := gb hm5
        have hp6 : Pre st (st5 ++ [Ob.lst (V.map D.str)]) := hp5.app _
        generalize st5 ++ [Ob.lst (V.map D.str)] = st6 at h6 hm6 hp6 ⊢
        refine ⟨_, h6, ?_⟩
        refine runC_mem (inj := D.str) (out := fun z => encN (okNumM (tl z))) h6 V [] (fun z hz QT qt => ?_) (by rw [List.length_nil]; omega) ?_
        · unfold RD.e__law_triple_2
          rw [s_call, s_cons]
          refine var_ev (d := .str z) rfl ?_
          rw [s_cons, s_c, s_nil]
          refine ⟨rfl, by decide, by have := hwn z hz; omega, ?_⟩
          rw [show (1000000 : Int).toNat = 1000000 from rfl, okNumM_law]
          exact qt
        have e2 : ([] : List D) ++ V.map (fun z => encN (okNumM (tl z))) = (V.map fun z => okNumM (tl z)).map encN := by rw [List.nil_append, List.map_map]; rfl
        have hos : ∀ o ∈ V.map (fun z => okNumM (tl z)), ∀ n, o = some n → n ≤ 1000000 := fun o ho n e => by
          obtain ⟨z, _, h⟩ := List.mem_map.mp ho
          exact okNumM_le (h.trans e)
        rw [e2]
        generalize (V.map fun z => okNumM (tl z)) = os at hvt hos ⊢
        have h7 : (st6 ++ [Ob.lst (os.map encN)])[st6.length]? = some (.lst (os.map encN)) := getElem?_push
        have hm7 : (st6 ++ [Ob.lst (os.map encN)])[st.length]? = some (.lst ((n :: w :: fs).map .str)) := gb hm6
        have hp7 : Pre st (st6 ++ [Ob.lst (os.map encN)]) := hp6.app _
        generalize st6 ++ [Ob.lst (os.map encN)] = st7 at h7 hm7 hp7 ⊢
        generalize st6.length = mn at h7 ⊢
        rw [s_cons, s_sl, s_var]
        show dPart _ _ _ _ _
        rw [s_part, s_c]
        try dsimp only
        rw [s_noPart, s_slv_loc]
        refine ⟨_, hm7, ?_⟩
        first | rw [cutK_drop, s_nil] | rw [show (2 : Int) = ((2 : Nat) : Int) from rfl, cutK_drop, s_nil]
        have h8 : (st7 ++ [Ob.lst (((n :: w :: fs).map D.str).drop 2)])[st7.length]? = some (.lst (fs.map .str)) := getElem?_push
        have h78 : (st7 ++ [Ob.lst (((n :: w :: fs).map D.str).drop 2)])[mn]? = some (.lst (os.map encN)) := gb h7
        have hm8 : (st7 ++ [Ob.lst (((n :: w :: fs).map D.str).drop 2)])[st.length]? = some (.lst ((n :: w :: fs).map .str)) := gb hm7
        have hp8 : Pre st (st7 ++ [Ob.lst (((n :: w :: fs).map D.str).drop 2)]) := hp7.app _
        generalize st7 ++ [Ob.lst (((n :: w :: fs).map D.str).drop 2)] = st8 at h8 h78 hm8 hp8 ⊢
        generalize st7.length = mf at h8 ⊢
        try dsimp only
        show dSeq _ _ _ [some (.str t), some (.loc st.length), none, some (.loc mn), some (.loc mf)] st8
        have tB : trpB n (verText (tl w)) fs = ((verN os).isSome && namesF "" fs) := by
          unfold trpB
          rw [hn, hvt, Bool.true_and]
        unfold trpW at no q
        dsimp only at no q
        rw [tB] at no q
        rw [hvt] at no q
        rw [s_seq, s_ifS, s_or, s_test, s_op, s_cb, s_cons, s_var]
        show dNil _ _ _ _
        rw [s_nil, s_len_loc, h78]
        try dsimp only
        rw [s_c]
        show dEqB not _ _ _ _
        rw [s_eq_int, List.length_map]
        try dsimp only
        by_cases h3 : os.length = 3
        · rw [if_neg (by simp; omega), s_or, s_test, s_op, s_c, s_var]
          show dIn false .non (.loc mn) st8 _
          refine ⟨os.map encN, by simp only [s_items_loc, h78], rfl, flat_encN os, ?_⟩
          rw [inD_non]
          try dsimp only
          by_cases hno : none ∈ os
          · rw [if_pos (by simpa using hno), if_pos rfl, s_ret, s_c]
            refine no st8 hp8 ?_
            rw [verN_none (.inr hno)]
            simp
          · rw [if_neg (by simpa using hno), s_test, s_op, s_var]
            show dCB _ _ _ _ _ _
            rw [s_cb, s_cons, s_var]
            show dNil _ _ _ _
            rw [s_nil, s_sortTx]
            refine ⟨fs, by simp only [s_items_loc, h8], by omega, fun M hnd hmm => ?_⟩
            have h9 : (st8 ++ [Ob.lst ((TxS.asc M).map D.str)])[st8.length]? = some (.lst ((TxS.asc M).map .str)) := getElem?_push
            have h89 : (st8 ++ [Ob.lst ((TxS.asc M).map D.str)])[mf]? = some (.lst (fs.map .str)) := gb h8
            have h789 : (st8 ++ [Ob.lst ((TxS.asc M).map D.str)])[mn]? = some (.lst (os.map encN)) := gb h78
            have hm9 : (st8 ++ [Ob.lst ((TxS.asc M).map D.str)])[st.length]? = some (.lst ((n :: w :: fs).map .str)) := gb hm8
            have hp9 : Pre st (st8 ++ [Ob.lst ((TxS.asc M).map D.str)]) := hp8.app _
            generalize st8 ++ [Ob.lst ((TxS.asc M).map D.str)] = st9 at h9 h89 h789 hm9 hp9 ⊢
            refine eq_lists h89 h9 (pus_strs hfs) (pus_strs fun s hs' => hfs s ((hmm s).mp ((asc_perm M).mem_iff.mp hs'))) (by rw [dps_strs]; omega) (by rw [dps_strs]; omega) (r := namesF "" fs) ?_ ?_
            · rw [lotN_iff hfs hnd hmm]
              exact ⟨fun h => by rw [← h], fun h => (List.map_inj_right (fun x y e => by injection e)).mp h⟩
            · try dsimp only
              cases hnf : namesF "" fs with
              | false =>
                rw [if_pos (by simp), s_ret, s_c]
                refine no st9 hp9 ?_
                rw [hnf]
                simp
              | true =>
                rw [if_neg (by simp), s_next]
                try dsimp only
                obtain ⟨x, y, z, hxyz⟩ := verN_some h3 hno
                have hvs : verN os = some (mkV x y z) := by rw [hxyz]; rfl
                have hback := verN_back hos hvs
                rw [hvs, hnf, if_pos (by simp)] at q
                rw [s_ret, s_dtup, s_cons, s_op, s_var]
                show dC _ _ _ _ _
                rw [s_c, s_ix_loc]
                refine ⟨_, .str n, hm9, atI_0, ?_⟩
                rw [s_cons, s_cb, s_cons, s_var]
                show dNil _ _ _ _
                rw [s_nil, s_tupOf]
                simp only [s_items_loc, h789]
                rw [s_cons, s_cb, s_cons, s_var]
                show dNil _ _ _ _
                rw [s_nil, s_tupOf]
                simp only [s_items_loc, h89]
                rw [s_nil, hback]
                refine ⟨szk _ (by simp), ?_⟩
                exact back_tup hp9 (blw_encOT _ (some (n, mkV x y z, fs))) q
        · rw [if_pos (by simp; omega), if_pos rfl, s_ret, s_c]
          refine no st8 hp8 ?_
          rw [verN_none (.inl h3)]
          simp
end CM
namespace CM
open PySem L2 PySem.Spec DL
open PyProof.Rows hiding St
open TL (tl pre spl par numL joinL)
def dueF (t : Str) : List Trp → Str → Nat → List Str → Sum Nat (List Trp)
  | _, _, n, [] => .inl n
  | acc, b, n, w :: W => match trpL (tl w) with
    | some z => if okNext acc z = true then dueF t (acc ++ [z]) (b ++ lineS w) (n + 1) W else .inl n
    | none => if w = chkT (tl b) then (if t = b ++ lineS w then .inr acc else .inl (n + 1)) else .inl n
theorem strs_take (W : List Str) (n : Nat) (w : Str) (h : W[n]? = some w) : linesT (W.take (n + 1)) = linesT (W.take n) ++ lineS w := by
  have hl := (List.getElem?_eq_some_iff.mp h)
  rw [List.take_succ, h, linesT_app]
  show linesT (W.take n) ++ linesT [w] = _
  rw [linesT_one]
theorem app_inj {a b c : Str} (h : a ++ b = a ++ c) : b = c := by
  have := str_eq.mp h
  rw [TL.tl_append, TL.tl_append] at this
  exact str_eq.mpr (List.append_cancel_left this)
theorem app_assoc (a b c : Str) : a ++ b ++ c = a ++ (b ++ c) := TL.ext_tl (by simp [TL.tl_append])
theorem app_emp (a : Str) : a ++ ("" : Str) = a := TL.ext_tl (by rw [TL.tl_append]; simp [show tl ("" : Str) = [] from rfl])
/-- the same as the reader's -/
theorem due_read {t rest : Str} {W0 : List Str} (ht : t = linesT W0 ++ rest) : ∀ (W : List Str) (acc : List Trp), W0 = W0.take acc.length ++ W → acc.length ≤ W0.length → foundK [] W0 = foundK acc W →
    dueF t acc (linesT (W0.take acc.length)) (acc.length + 1) W = readK W0 rest
  | [], acc, hW, hl, hf => by
    have hlen : W0.length = acc.length := by
      have := congrArg List.length hW
      simp at this
      omega
    have h1 : foundK acc ([] : List Str) = acc := rfl
    unfold dueF readK
    rw [hf, h1, List.getElem?_eq_none (by omega)]
    simp
  | w :: W, acc, hW, hl, hf => by
    have hlt : acc.length < W0.length := by
      have := congrArg List.length hW
      simp at this
      omega
    have hget : W0[acc.length]? = some w := by
      rw [hW, List.getElem?_append_right (by simp; omega)]
      simp [Nat.min_eq_left (Nat.le_of_lt hlt)]
    have e0 : foundK acc (w :: W) = match trpL (tl w) with
      | none => acc
      | some t => if okNext acc t = true then foundK (acc ++ [t]) W else acc := rfl
    have e1 : dueF t acc (linesT (W0.take acc.length)) (acc.length + 1) (w :: W) = match trpL (tl w) with
      | some z => if okNext acc z = true then dueF t (acc ++ [z]) (linesT (W0.take acc.length) ++ lineS w) (acc.length + 1 + 1) W else .inl (acc.length + 1)
      | none => if w = chkT (tl (linesT (W0.take acc.length))) then (if t = linesT (W0.take acc.length) ++ lineS w then .inr acc else .inl (acc.length + 1 + 1)) else .inl (acc.length + 1) := rfl
    rw [e0] at hf
    rw [e1]
    cases hz : trpL (tl w) with
    | some z =>
      rw [hz] at hf
      dsimp only at hf ⊢
      by_cases hok : okNext acc z = true
      · rw [if_pos hok] at hf
        rw [if_pos hok, ← strs_take W0 acc.length w hget]
        have ih := due_read ht W (acc ++ [z]) (by
          rw [List.length_append, List.length_singleton, List.take_succ, hget]
          conv => lhs; rw [hW]
          simp) (by simp; omega) hf
        simp only [List.length_append, List.length_singleton] at ih
        exact ih
      · rw [if_neg hok] at hf
        rw [if_neg hok]
        unfold readK
        rw [hf, hget, if_neg]
        intro e
        have := trpL_chk (tl (linesT (W0.take acc.length)))
        rw [← Option.some.inj e, hz] at this
        cases this
    | none =>
      rw [hz] at hf
      dsimp only at hf ⊢
      unfold readK
      rw [hf, hget]
      by_cases hc : w = chkT (tl (linesT (W0.take acc.length)))
      · rw [if_pos hc, if_pos (show some w = some (chkT (tl (linesT (W0.take acc.length)))) from congrArg some hc), ← strs_take W0 acc.length w hget]
        have hsplit : linesT W0 = linesT (W0.take (acc.length + 1)) ++ linesT (W0.drop (acc.length + 1)) := by
          rw [← linesT_app, List.take_append_drop]
        by_cases hend : acc.length + 1 < W0.length ∨ rest ≠ ""
        · rw [if_pos hend, if_neg]
          intro e
          rw [ht, hsplit, app_assoc] at e
          have e2 : linesT (W0.drop (acc.length + 1)) ++ rest = "" := app_inj (e.trans (app_emp _).symm)
          have e3 := congrArg Str.length e2
          rw [app_len, show ("" : Str).length = 0 from rfl] at e3
          rcases hend with h | h
          · cases hd : W0.drop (acc.length + 1) with
            | nil =>
              have := congrArg List.length hd
              simp at this
              omega
            | cons x r =>
              rw [hd, linesT_lenS] at e3
              unfold lenS at e3
              simp at e3
          · refine h (len0.mpr ?_)
            have : rest.length = 0 := by omega
            rw [TL.len_tl] at this
            exact List.length_eq_zero_iff.mp this
        · rw [if_neg hend, if_pos]
          have h1 : ¬ (acc.length + 1 < W0.length) := fun z => hend (.inl z)
          have h2 : rest = "" := Decidable.not_not.mp fun z => hend (.inr z)
          rw [ht, hsplit, List.drop_eq_nil_of_le (by omega), h2, app_emp]
          show linesT _ ++ linesT [] = _
          exact app_emp _
      · rw [if_neg hc, if_neg (fun e => hc (Option.some.inj e))]
end CM
namespace CM
open PySem L2 PySem.Spec DL
open PyProof.Rows hiding St
open TL (tl pre spl par numL joinL)
theorem GrK.of {h c : Nat} {st st' : Sto} (H : HdK st h c) (H' : HdK st' h c) (s : Sm h st st') : GrK h c st st' := (GrK.refl H).sm s H'
theorem runC_grG {α : Type} {enc : α → D} {P : α → Prop} {h c i : Nat} {ρ : Env'} {te : DTE} {Q : DK} {G : Sto → Prop} {F : Sto → Prop} (hF : ∀ st st', F st → GrK h c st st' → F st') (hG : ∀ st, F st → G st)
    (d : ∀ (st : Sto) (Q : DK) (y : D), HdK st h c → F st → (∀ a st', P a → GrK h c st st' → Q (enc a) st') → te (ρ.set i (some y)) st Q Z0) :
    ∀ (k j : Nat) (acc : List α) (st : Sto), HdK st h c → F st → acc.length + k < 1000 → (∀ a ∈ acc, P a) →
    (∀ st' (as : List α), GrK h c st st' → F st' → as.length = acc.length + k → (∀ a ∈ as, P a) → Q (.loc st'.length) (st' ++ [.lst (as.map enc)])) →
    runC (gN i) dYes te ρ Q G (upFrom j k) (acc.map enc) st
  | 0, j, acc, st, H, hf, hl, ha, q => ⟨hG st hf, q st acc (GrK.refl H) hf rfl ha⟩
  | k + 1, j, acc, st, H, hf, hl, ha, q => by
    rw [show upFrom j (k + 1) = .int (j : Nat) :: upFrom (j + 1) k from rfl, runC_cons]
    refine ⟨hG st hf, ?_⟩
    rw [s_gN, s_yes, if_pos rfl]
    refine d st _ _ H hf fun a st' hp g' => ⟨by rw [List.length_map]; exact sizeLine_big (by omega), ?_⟩
    have ih := runC_grG (Q := Q) hF hG d k (j + 1) (acc ++ [a]) st' g'.hd (hF _ _ hf g') (by simp; omega) (fun u hu => by
      rcases List.mem_append.mp hu with hu | hu
      · exact ha u hu
      · rw [List.mem_singleton.mp hu]; exact hp) fun st2 vs g2 h2 hvs hs => q st2 vs (g'.trans g2) h2 (by rw [hvs]; simp; omega) hs
    rw [List.map_append] at ih
    exact ih
/-- one of a written list -/
theorem any_ev {h c : Nat} {ρ : Env'} {st : Sto} {Q : DK} {Z : DZ} {t : DTA} {es : List D} (h0 : ρ[0]? = some (some (.loc h))) (H : HdK st h c) (ht : ∀ (QA : List D → Sto → Prop) Z, QA es st → t ρ st QA Z) (hne : es ≠ []) (hl : es.length < 1000)
    (q : ∀ e st', e ∈ es → GrK h c st st' → Q e st') : dCall 2 sp_anyK (dCons (dVar 0) (dCons (dLst t) dNil)) ρ st Q Z := by
  have hlt := H.hlt
  rw [s_call, s_cons]
  refine var_ev h0 ?_
  rw [s_cons, s_dlst]
  refine ht _ _ ⟨szk _ hl, ?_⟩
  rw [s_nil, e_anyL]
  refine ⟨rfl, c, es, H.app _, getElem?_push, by omega, List.length_pos_iff.mpr hne, by omega, fun e st' he H' s => q e st' he ?_⟩
  exact ((GrK.refl H).app _).sm s H'
def joinS (cs : List Nat) : Str := Txt.join "" (cs.map fun c => (⟨#[c]⟩ : Str))
theorem tl_joinS : ∀ cs : List Nat, tl (joinS cs) = cs
  | [] => rfl
  | c :: cs => by
    have ih := tl_joinS cs
    unfold joinS at ih ⊢
    rw [TL.join_eq, TL.tl_join] at ih ⊢
    rw [List.map_cons, List.map_cons]
    cases hh : (cs.map fun c => (⟨#[c]⟩ : Str)).map tl with
    | nil =>
      rw [hh] at ih
      have : cs = [] := ih.symm
      rw [this]
      rfl
    | cons p ps =>
      rw [joinL_cons (by simp), ← hh, ih]
      rfl
def sp_lnameK : DSp := fun ds st Q _ => match ds with
  | [.loc h] => ∃ c, HdK st h c ∧ ∀ s st', nameS s = true → HdK st' h c → Sm h st st' → Q (.str s) st'
  | _ => False
theorem lit_names : ∀ e ∈ ([.str "check", .str "edition", .str "done", .str "a", .str "zz", .str "checkcheckab"] : List D), ∃ s, e = .str s ∧ nameS s = true := by
  intro e he
  simp only [List.mem_cons, List.not_mem_nil, or_false] at he
  rcases he with rfl | rfl | rfl | rfl | rfl | rfl <;> exact ⟨_, rfl, by rw [nameS_eq]; decide⟩
theorem letters_at {r : Int} (h0 : 0 ≤ r) (h1 : r < 26) : ∃ c, atI ("abcdefghijklmnopqrstuvwxyz" : Str).cps.toList r = some c ∧ 97 ≤ c ∧ c ≤ 122 := by
  obtain ⟨n, rfl⟩ : ∃ n : Nat, r = n := ⟨r.toNat, by omega⟩
  have hl : n < ("abcdefghijklmnopqrstuvwxyz" : Str).cps.toList.length := by
    have : ("abcdefghijklmnopqrstuvwxyz" : Str).cps.toList.length = 26 := by decide
    omega
  refine ⟨_, atI_nat (List.getElem?_eq_getElem hl), ?_⟩
  have := low_mem (("abcdefghijklmnopqrstuvwxyz" : Str).cps.toList[n])
  rw [decide_eq_true (List.getElem_mem hl)] at this
  simpa using this.symm
theorem r__law_name : Rd 1 sp_lnameK (RD.t__law_name sp_drawK sp_anyK) RD.N__law_name := by
  intro ds st Q Z hl h
  match ds, hl, h with
  | [.loc h], _, ⟨c, H, q⟩ =>
    unfold RD.t__law_name
    have fin : ∀ s st', nameS s = true → GrK h c st st' → DL.Back st Q (.str s) st' := fun s st' hs g => back_handK g rfl fun st1 H1 s1 => q s st1 hs H1 s1
    rw [s_seq, s_asg, s_c, s_gN]
    dsimp only
    show dSeq _ _ _ [some (.loc h), some (.str "abcdefghijklmnopqrstuvwxyz"), none] st
    rw [s_seq, s_ifS, s_test, s_op, s_call, s_cons, s_var]
    show dCons _ _ _ _ _ _
    rw [s_cons, s_c, s_nil, e_drawK]
    refine ⟨rfl, c, H, by decide, by decide, fun r st1 r0 r9 H1 s1 => ?_⟩
    have g1 := GrK.of H H1 s1
    dsimp only
    rw [s_c]
    show dEqB id (.int r) (.int 0) _ _
    rw [s_eq_int]
    dsimp only [id]
    by_cases hr : r = 0
    · rw [if_pos (by simpa using hr), s_ret]
      refine any_ev (es := [.str "check", .str "edition", .str "done", .str "a", .str "zz", .str "checkcheckab"]) rfl H1 (fun QA Z qa => ?_) (by simp) (by simp) fun e st2 he g2 => ?_
      · rw [s_cons, s_c, s_cons, s_c, s_cons, s_c, s_cons, s_c, s_cons, s_c, s_cons, s_c, s_nil]
        exact qa
      · obtain ⟨s, rfl, hs⟩ := lit_names e he
        exact fin s st2 hs (g1.trans g2)
    · rw [if_neg (by simpa using hr), s_next]
      dsimp only
      rw [s_ret, s_bm, s_c]
      refine ⟨rfl, ?_⟩
      rw [s_cons, s_lc, s_iR1, s_cons, s_op, s_c]
      refine any_ev (es := [.int 0, .int 0, .int 1, .int 2, .int 4, .int 11]) rfl H1 (fun QA Z qa => ?_) (by simp) (by simp) fun e st2 he g2 => ?_
      · rw [s_cons, s_c, s_cons, s_c, s_cons, s_c, s_cons, s_c, s_cons, s_c, s_cons, s_c, s_nil]
        exact qa
      obtain ⟨k, rfl, hk⟩ : ∃ k : Nat, e = .int k ∧ k ≤ 11 := by
        simp only [List.mem_cons, List.not_mem_nil, or_false] at he
        rcases he with rfl | rfl | rfl | rfl | rfl | rfl
        · exact ⟨0, rfl, by decide⟩
        · exact ⟨0, rfl, by decide⟩
        · exact ⟨1, rfl, by decide⟩
        · exact ⟨2, rfl, by decide⟩
        · exact ⟨4, rfl, by decide⟩
        · exact ⟨11, rfl, by decide⟩
      rw [s_add_int, s_nil]
      refine ⟨by omega, by omega, ?_⟩
      rw [show (1 + (k : Int)).toNat = 1 + k from by omega, rngItems_up]
      refine runC_grG (α := Nat) (enc := sg) (P := fun x => 97 ≤ x ∧ x ≤ 122) (F := fun _ => True) (fun _ _ _ _ => trivial) (fun _ _ => trivial) (fun st' QT y H' _ qt => ?_) (1 + k) 0 [] st2 g2.hd trivial (by simp; omega) (by simp) fun st3 cs g3 _ hcl hcs => ?_
      · unfold RD.e__law_name_1
        rw [s_op]
        refine var_ev (d := .str "abcdefghijklmnopqrstuvwxyz") rfl ?_
        rw [s_call, s_cons]
        refine var_ev (d := .loc h) rfl ?_
        rw [s_cons, s_c, s_nil, e_drawK]
        refine ⟨rfl, c, H', by decide, by decide, fun r st4 r0 r26 H4 s4 => ?_⟩
        obtain ⟨x, hx, hx2⟩ := letters_at r0 r26
        try dsimp only
        rw [s_ix_str]
        exact ⟨x, by decide, hx, qt x st4 hx2 (GrK.of H' H4 s4)⟩
      · rw [s_nil, s_join]
        refine ⟨cs.map fun c => (⟨#[c]⟩ : Str), by simp [sg, Function.comp_def], ?_, ?_⟩
        · have := sum_le (fun s : Str => s.length) 1 (cs.map fun c => (⟨#[c]⟩ : Str)) fun s hs => by
            obtain ⟨x, _, rfl⟩ := List.mem_map.mp hs
            exact Nat.le_refl 1
          rw [show ("" : Str).length = 0 from rfl]
          have e : ((cs.map fun c => (⟨#[c]⟩ : Str)).map fun x : Str => x.length).sum = ((cs.map fun c => (⟨#[c]⟩ : Str)).map (·.length)).sum := rfl
          simp only [List.length_map, List.length_nil] at this hcl
          omega
        · refine fin (joinS cs) _ ?_ (((g1.trans g2).trans g3).app _)
          rw [nameS_eq, tl_joinS]
          unfold nameL
          simp only [List.length_nil] at hcl
          rw [decide_eq_true (show cs.length ≤ 12 by omega), decide_eq_true (show cs ≠ [] from fun z => by rw [z] at hcl; simp at hcl; omega)]
          simp only [Bool.true_and, List.all_eq_true, decide_eq_true_eq]
          exact hcs
end CM
namespace CM
open PySem L2 PySem.Spec DL
open PyProof.Rows hiding St
open TL (tl pre spl par numL joinL)
/-- so many features -/
def TrpF (k : Nat) (t : Trp) : Prop := TrpV t ∧ t.2.2.length ≤ k
def InstF (k : Nat) (l : List Trp) : Prop := l.length ≤ 61 ∧ (∀ t ∈ l, TrpF k t) ∧ up (l.map nmT)
theorem asc_names {M : List Str} (hn : M.Nodup) (h : ∀ s ∈ M, nameS s = true) : namesF "" (TxS.asc M) = true := by
  rw [namesF_up fun s hs => h s ((asc_perm M).mem_iff.mp hs)]
  exact asc_up hn
theorem nodup_le : ∀ {M l : List Str}, M.Nodup → (∀ y, y ∈ M → y ∈ l) → M.length ≤ l.length
  | [], l, _, _ => Nat.zero_le _
  | a :: M, l, hn, h => by
    obtain ⟨l1, l2, rfl⟩ := List.append_of_mem (h a List.mem_cons_self)
    obtain ⟨ha, hn⟩ := List.nodup_cons.mp hn
    have := nodup_le (M := M) (l := l1 ++ l2) hn fun y hy => by
      have := h y (List.mem_cons_of_mem _ hy)
      simp only [List.mem_append, List.mem_cons] at this ⊢
      rcases this with h1 | rfl | h1
      · exact .inl h1
      · exact absurd hy ha
      · exact .inr h1
    simp only [List.length_append, List.length_cons] at this ⊢
    omega
theorem sg_ints {r : Int} (h0 : 0 ≤ r) (h1 : r < 1000001) : ∀ e ∈ ([.int 0, .int 1, .int 9, .int 10, .int 1000000, .int r] : List D), ∃ n : Nat, e = .int (n : Int) ∧ n ≤ 1000000 := by
  intro e he
  simp only [List.mem_cons, List.not_mem_nil, or_false] at he
  rcases he with rfl | rfl | rfl | rfl | rfl | rfl
  · exact ⟨0, rfl, by decide⟩
  · exact ⟨1, rfl, by decide⟩
  · exact ⟨9, rfl, by decide⟩
  · exact ⟨10, rfl, by decide⟩
  · exact ⟨1000000, rfl, by decide⟩
  · exact ⟨r.toNat, by rw [Int.toNat_of_nonneg h0], by omega⟩
theorem counts8 : ∀ e ∈ ([.int 0, .int 0, .int 0, .int 0, .int 1, .int 2, .int 3, .int 9] : List D), ∃ n : Nat, e = .int (n : Int) ∧ n ≤ 9 := by
  intro e he
  simp only [List.mem_cons, List.not_mem_nil, or_false] at he
  rcases he with rfl | rfl | rfl | rfl | rfl | rfl | rfl | rfl
  · exact ⟨0, rfl, by decide⟩
  · exact ⟨0, rfl, by decide⟩
  · exact ⟨0, rfl, by decide⟩
  · exact ⟨0, rfl, by decide⟩
  · exact ⟨1, rfl, by decide⟩
  · exact ⟨2, rfl, by decide⟩
  · exact ⟨3, rfl, by decide⟩
  · exact ⟨9, rfl, by decide⟩
theorem counts12 : ∀ e ∈ ([.int 0, .int 1, .int 1, .int 2, .int 2, .int 3, .int 3, .int 4, .int 4, .int 5, .int 6, .int 60] : List D), ∃ n : Nat, e = .int (n : Int) ∧ n ≤ 60 := by
  intro e he
  simp only [List.mem_cons, List.not_mem_nil, or_false] at he
  rcases he with rfl | rfl | rfl | rfl | rfl | rfl | rfl | rfl | rfl | rfl | rfl | rfl
  · exact ⟨0, rfl, by decide⟩
  · exact ⟨1, rfl, by decide⟩
  · exact ⟨1, rfl, by decide⟩
  · exact ⟨2, rfl, by decide⟩
  · exact ⟨2, rfl, by decide⟩
  · exact ⟨3, rfl, by decide⟩
  · exact ⟨3, rfl, by decide⟩
  · exact ⟨4, rfl, by decide⟩
  · exact ⟨4, rfl, by decide⟩
  · exact ⟨5, rfl, by decide⟩
  · exact ⟨6, rfl, by decide⟩
  · exact ⟨60, rfl, by decide⟩
/-- names drawn, sorted, each once -/
theorem names_ev {h c k j : Nat} {ρ : Env'} {st : Sto} {Q : DK} {ρ' : Env'} {Zx : DZ} {te : DTE} (hj : j ≠ 0) (h0 : ρ[0]? = some (some (.loc h))) (hte : te = dCall 1 sp_lnameK (dCons (dVar 0) dNil)) (H : HdK st h c) (hk : k ≤ 900)
    (q : ∀ (N : List Str) st' n, GrK h c st st' → st.length ≤ n → st'[n]? = some (.lst (N.map .str)) → namesF "" N = true → N.length ≤ k → Q (.loc n) st') :
    runC (gN j) dYes te ρ (fun x st1 => dNil ρ' st1 (fun xs st2 => dSortTx (x :: xs) st2 Q) Zx) (fun _ => True) (upFrom 0 k) [] st := by
  refine runC_grG (α := Str) (enc := D.str) (P := fun s => nameS s = true) (F := fun _ => True) (fun _ _ _ _ => trivial) (fun _ _ => trivial) (fun st' QT y H' _ qt => ?_) k 0 [] st H trivial (by simp; omega) (by simp) fun st2 N g2 _ hl hN => ?_
  · rw [hte, s_call, s_cons]
    refine var_ev (d := .loc h) (by rw [List.getElem?_set_ne hj]; exact h0) ?_
    rw [s_nil]
    exact ⟨rfl, c, H', fun s st4 hs H4 s4 => qt s st4 hs (GrK.of H' H4 s4)⟩
  · rw [s_nil, s_sortTx]
    simp only [List.length_nil, Nat.zero_add] at hl
    refine ⟨N, by simp only [s_items_loc, getElem?_push], by omega, fun M hn hm => ?_⟩
    refine q (TxS.asc M) _ _ ((g2.app _).app _) (by have := g2.len; simp; omega) getElem?_push (asc_names hn fun s hs => hN s ((hm s).mp hs)) ?_
    rw [(asc_perm M).length_eq]
    have := nodup_le hn fun y hy => (hm y).mp hy
    omega
theorem loop_inst (E : DEnds) {h c f n : Nat} {st0 : Sto} {all : List D} (hf0 : st0.length ≤ f) (hfh : f ≠ h) (hnh : n ≠ h) (hnf : n ≠ f) : ∀ (names : List Str) (acc : List Trp) (st : Sto) (y2 y3 y4 y5 : Option D), GrK h c st0 st → st[f]? = some (.lst (acc.map encT)) → st[n]? = some (.lst all) →
    (∀ s ∈ names, nameS s = true) → (∀ t ∈ acc, TrpF 9 t) → acc.length + names.length ≤ 61 →
    (∀ st' (acc' : List Trp) y2 y3 y4 y5, GrK h c st0 st' → st'[f]? = some (.lst (acc'.map encT)) → acc'.map nmT = acc.map nmT ++ names → (∀ t ∈ acc', TrpF 9 t) → E.nx [some (.loc h), some (.loc f), y2, y3, y4, y5] st') →
    runG (gN 2) (RD.b__law_installation_4 sp_drawK sp_anyK sp_lnameK) E (fun st' => st'[n]? = some (.lst all)) (names.map .str) [some (.loc h), some (.loc f), y2, y3, y4, y5] st
  | [], acc, st, y2, y3, y4, y5, g, hf, hn, _, ha, _, hk => by
    rw [List.map_nil, runG_nil]
    exact ⟨hn, hk st acc y2 y3 y4 y5 g hf (by simp) ha⟩
  | w :: names, acc, st, y2, y3, y4, y5, g, hf, hn, hw, ha, hl, hk => by
    rw [List.map_cons, runG_cons]
    refine ⟨hn, ?_⟩
    have ih := fun acc st y2 y3 y4 y5 => loop_inst E (c := c) (st0 := st0) (all := all) hf0 hfh hnh hnf names acc st y2 y3 y4 y5
    generalize hR : runG (gN 2) (RD.b__law_installation_4 sp_drawK sp_anyK sp_lnameK) E (fun st' => st'[n]? = some (.lst all)) (names.map .str) = R at ih ⊢
    rw [s_gN]
    unfold RD.b__law_installation_4
    show dSeq _ _ _ [some (.loc h), some (.loc f), some (.str w), y3, y4, y5] st
    rw [s_seq, s_asg, s_lc, s_iR1, s_cons, s_c, s_nil]
    refine ⟨by decide, by decide, ?_⟩
    rw [rngItems_up]
    refine runC_grG (α := Nat) (enc := fun x => .int (x : Int)) (P := fun x => x ≤ 1000000) (F := fun _ => True) (fun _ _ _ _ => trivial) (fun _ _ => trivial) (fun st' QT y H' _ qt => ?_) 3 0 [] st g.hd trivial (by simp) (by simp) fun st2 ns g2 _ hnl hns => ?_
    · unfold RD.e__law_installation_2
      have hlt := H'.hlt
      rw [s_call, s_cons]
      refine var_ev (d := .loc h) rfl ?_
      rw [s_cons, s_dlst, s_cons, s_c, s_cons, s_c, s_cons, s_c, s_cons, s_c, s_cons, s_c, s_cons, s_call, s_cons]
      refine var_ev (d := .loc h) rfl ?_
      rw [s_cons, s_c, s_nil, e_drawK]
      refine ⟨rfl, c, H', by decide, by decide, fun r st3 r0 r1 H3 s3 => ?_⟩
      have hlt3 := H3.hlt
      rw [s_nil]
      refine ⟨szk _ (by simp), ?_⟩
      rw [s_nil, e_anyL]
      refine ⟨rfl, c, _, H3.app _, getElem?_push, by omega, by simp, by simp, fun e st4 he H4 s4 => ?_⟩
      obtain ⟨x, rfl, hx⟩ := sg_ints r0 r1 e he
      exact qt x st4 hx ((((GrK.refl H').sm s3 H3).app _).sm s4 H4)
    · simp only [List.length_nil, Nat.zero_add] at hnl
      obtain ⟨a, b, d, rfl⟩ : ∃ a b d, ns = [a, b, d] := by
        match ns, hnl with
        | [a, b, d], _ => exact ⟨a, b, d, rfl⟩
      have ha1 := hns a (by simp)
      have hb1 := hns b (by simp)
      have hd1 := hns d (by simp)
      have gs2 := g.trans g2
      have hm2 : (st2 ++ [Ob.lst ([a, b, d].map fun x : Nat => D.int (x : Int))])[st2.length]? = some (.lst ([a, b, d].map fun x : Nat => D.int (x : Int))) := getElem?_push
      have hml : st0.length ≤ st2.length := gs2.len
      have hfl : f < st2.length := by have := (List.getElem?_eq_some_iff.mp (g2.get hf hfh)).1; exact this
      have hnl2 : n < st2.length := by have := (List.getElem?_eq_some_iff.mp (g2.get hn hnh)).1; exact this
      have gs3 := gs2.app [Ob.lst ([a, b, d].map fun x : Nat => D.int (x : Int))]
      have hf3 : (st2 ++ [Ob.lst ([a, b, d].map fun x : Nat => D.int (x : Int))])[f]? = some (.lst (acc.map encT)) := gb (g2.get hf hfh)
      have hn3 : (st2 ++ [Ob.lst ([a, b, d].map fun x : Nat => D.int (x : Int))])[n]? = some (.lst all) := gb (g2.get hn hnh)
      have hhl : h < st2.length := g2.hd.hlt
      generalize st2.length = m at hm2 hml hfl hnl2 hhl ⊢
      generalize st2 ++ [Ob.lst ([a, b, d].map fun x : Nat => D.int (x : Int))] = st3 at hm2 gs3 hf3 hn3 ⊢
      rw [s_gN]
      dsimp only
      show dSeq _ _ _ [some (.loc h), some (.loc f), some (.str w), y3, some (.loc m), y5] st3
      rw [s_seq, s_asg, s_cb, s_cons, s_lc, s_iR1, s_cons]
      refine any_ev (es := [.int 0, .int 0, .int 0, .int 0, .int 1, .int 2, .int 3, .int 9]) rfl gs3.hd (fun QA Z qa => ?_) (by simp) (by simp) fun e st4 he g4 => ?_
      · rw [s_cons, s_c, s_cons, s_c, s_cons, s_c, s_cons, s_c, s_cons, s_c, s_cons, s_c, s_cons, s_c, s_cons, s_c, s_nil]
        exact qa
      obtain ⟨k, rfl, hk9⟩ := counts8 e he
      rw [s_nil]
      refine ⟨by omega, by omega, ?_⟩
      rw [Int.toNat_natCast, rngItems_up]
      refine names_ev (h := h) (c := c) (by decide) rfl rfl g4.hd (by omega) fun F st5 p g5 hpl hp hF hFl => ?_
      rw [s_gN]
      dsimp only
      show dDrop _ _ [some (.loc h), some (.loc f), some (.str w), y3, some (.loc m), some (.loc p)] st5
      have g6 := (gs3.trans g4).trans g5
      have hf6 : st5[f]? = some (.lst (acc.map encT)) := g5.get (g4.get hf3 hfh) hfh
      have hm6 : st5[m]? = some (.lst ([a, b, d].map fun x : Nat => D.int (x : Int))) := g5.get (g4.get hm2 (by omega)) (by omega)
      have hn6 : st5[n]? = some (.lst all) := g5.get (g4.get hn3 hnh) hnh
      rw [s_drop, s_bm, s_var]
      show tyD _ "list" (.loc f) ∧ _
      refine ⟨by rw [s_tyD_loc, hf6], ?_⟩
      rw [s_cons, s_dtup, s_cons, s_var]
      show dCons _ _ _ _ _ _
      rw [s_cons, s_cb, s_cons, s_var]
      show dNil _ _ _ _
      rw [s_nil, s_tupOf]
      simp only [s_items_loc, hm6]
      rw [s_cons, s_cb, s_cons, s_var]
      show dNil _ _ _ _
      rw [s_nil, s_tupOf]
      simp only [s_items_loc, hp]
      rw [s_nil]
      refine ⟨szk _ (by simp), ?_⟩
      simp only [List.length_cons] at hl
      rw [s_nil, s_append]
      refine ⟨_, hf6, by rw [List.length_map]; exact sizeLine_big (by omega), ?_⟩
      have ev : D.tup ([a, b, d].map fun x : Nat => D.int (x : Int)) = encV (mkV a b d) := (enc3 (by omega) (by omega)).symm
      have et : D.tup [.str w, .tup ([a, b, d].map fun x : Nat => D.int (x : Int)), .tup (F.map .str)] = encT (w, mkV a b d, F) := by
        rw [ev]
        rfl
      have hT : TrpF 9 (w, mkV a b d, F) := ⟨⟨hw w List.mem_cons_self, by unfold okV; rw [vA_mk (by omega) (by omega)]; exact ha1, hF⟩, by show F.length ≤ 9; omega⟩
      rw [et]
      have em : acc.map encT ++ [encT (w, mkV a b d, F)] = (acc ++ [(w, mkV a b d, F)]).map encT := by simp
      rw [em]
      have hflt := (List.getElem?_eq_some_iff.mp hf6).1
      refine ih (acc ++ [(w, mkV a b d, F)]) _ _ _ _ _ (g6.set hf0) (by rw [List.getElem?_set_self hflt]) (by rw [List.getElem?_set_ne (Ne.symm hnf)]; exact hn6) (fun s hs => hw s (List.mem_cons_of_mem _ hs)) (fun t ht => by
        rcases List.mem_append.mp ht with ht | ht
        · exact ha t ht
        · rw [List.mem_singleton.mp ht]; exact hT) (by simp; omega) fun st' acc' y2 y3 y4 y5 g' hf' hn' ha' => hk st' acc' y2 y3 y4 y5 g' hf' (by rw [hn', List.map_append, List.append_assoc]; rfl) ha'
end CM
namespace CM
open PySem L2 PySem.Spec DL
open PyProof.Rows hiding St
open TL (tl pre spl par numL joinL)
def sp_linst : DSp := fun ds st Q _ => match ds with
  | [.loc h] => ∃ c, HdK st h c ∧ ∀ l st', InstF 9 l → HdK st' h c → Sm h st st' → Q (encI l) st'
  | _ => False
theorem up_of {l : List Str} (h : namesF "" l = true) : up l := (namesF_up (namesF_names h)).mp h
theorem r__law_installation : Rd 1 sp_linst (RD.t__law_installation sp_drawK sp_anyK sp_lnameK) RD.N__law_installation := by
  intro ds st Q Z hl h
  match ds, hl, h with
  | [.loc h], _, ⟨c, H, q⟩ =>
    unfold RD.t__law_installation
    have hlt := H.hlt
    rw [s_seq, s_asg, s_dlst, s_nil]
    refine ⟨szk _ (by simp), ?_⟩
    rw [s_gN]
    dsimp only
    show dSeq _ _ _ [some (.loc h), some (.loc st.length), none, none, none, none] (st ++ [Ob.lst (([] : List Trp).map encT)])
    have g1 : GrK h c st (st ++ [Ob.lst (([] : List Trp).map encT)]) := (GrK.refl H).app _
    have hf : (st ++ [Ob.lst (([] : List Trp).map encT)])[st.length]? = some (.lst (([] : List Trp).map encT)) := getElem?_push
    have hl1 : (st ++ [Ob.lst (([] : List Trp).map encT)]).length = st.length + 1 := by simp
    generalize st ++ [Ob.lst (([] : List Trp).map encT)] = st1 at g1 hf hl1 ⊢
    rw [s_seq, s_for, s_iD, s_cb, s_cons, s_lc, s_iR1, s_cons]
    refine any_ev (es := [.int 0, .int 1, .int 1, .int 2, .int 2, .int 3, .int 3, .int 4, .int 4, .int 5, .int 6, .int 60]) rfl g1.hd (fun QA Z qa => ?_) (by simp) (by simp) fun e st4 he g4 => ?_
    · rw [s_cons, s_c, s_cons, s_c, s_cons, s_c, s_cons, s_c, s_cons, s_c, s_cons, s_c, s_cons, s_c, s_cons, s_c, s_cons, s_c, s_cons, s_c, s_cons, s_c, s_cons, s_c, s_nil]
      exact qa
    obtain ⟨k, rfl, hk9⟩ := counts12 e he
    rw [s_nil]
    refine ⟨by omega, by omega, ?_⟩
    rw [Int.toNat_natCast, rngItems_up]
    refine names_ev (h := h) (c := c) (by decide) rfl rfl g4.hd (by omega) fun F st5 p g5 hpl hp hF hFl => ?_
    show walkD _ (.loc p) _
    rw [s_walk_loc]
    have hg4 := g4.len
    refine ⟨_, hp, loop_inst _ (f := st.length) (Nat.le_refl _) (by omega) (by omega) (by omega) F [] st5 none none none none ((g1.trans g4).trans g5) (g5.get (g4.get hf (by omega)) (by omega)) hp (namesF_names hF) (by simp) (by simp; omega) fun st' acc' y2 y3 y4 y5 g' hf' hn' ha' => ?_⟩
    dsimp only
    rw [s_ret, s_cb, s_cons, s_var]
    show dNil _ _ _ _
    rw [s_nil, s_tupOf]
    simp only [s_items_loc, hf']
    refine back_handK g' (blw_encI _ acc') fun st6 H6 s6 => q acc' st6 ⟨?_, ha', ?_⟩ H6 s6
    · have := congrArg List.length hn'
      simp at this
      omega
    · rw [hn']
      exact up_of hF
def tot : Nat → Nat → List Nat → Nat
  | _, b, [] => b
  | a, b, c :: r => tot (a + c) (b + (a + c)) r
theorem tot_snoc : ∀ (r : List Nat) (a b c : Nat), tot a b (r ++ [c]) = tot a b r + (a + r.sum + c)
  | [], a, b, c => by simp [tot]
  | d :: r, a, b, c => by
    rw [List.cons_append]
    unfold tot
    rw [tot_snoc r, List.sum_cons]
    omega
theorem wsum_gen : ∀ (l : List Nat) (k : Nat), wsum k l = wsum 0 l + k * l.sum
  | [], k => by simp [wsum]
  | c :: r, k => by
    unfold wsum
    rw [wsum_gen r (k + 1), wsum_gen r (0 + 1), List.sum_cons]
    simp only [Nat.mul_add, Nat.add_mul, Nat.one_mul, Nat.zero_add, Nat.mul_one, Nat.mul_comm c k]
    omega
theorem tot_wsum : ∀ l : List Nat, tot 0 0 l.reverse = wsum 0 l
  | [] => rfl
  | c :: r => by
    have e : wsum 0 (c :: r) = c * (0 + 1) + wsum (0 + 1) r := rfl
    rw [List.reverse_cons, tot_snoc, tot_wsum r, List.sum_reverse, e, wsum_gen r (0 + 1)]
    omega
theorem lp_chk (E : DEnds) {x0 : Option D} {st : Sto} : ∀ (r : List Nat) (a b : Nat) (y3 : Option D), (∀ a' y3, E.nx [x0, some (.int (a' : Nat)), some (.int (tot a b r : Nat)), y3] st) →
    runG (gN 3) RD.b__law_check_1 E (fun _ => True) (r.map sg) [x0, some (.int (a : Nat)), some (.int (b : Nat)), y3] st
  | [], a, b, y3, hk => by
    rw [List.map_nil, runG_nil]
    exact ⟨trivial, hk a y3⟩
  | c :: r, a, b, y3, hk => by
    rw [List.map_cons, runG_cons]
    refine ⟨trivial, ?_⟩
    have ih := lp_chk E (x0 := x0) (st := st) r (a + c) (b + (a + c)) (some (sg c)) hk
    generalize hR : runG (gN 3) RD.b__law_check_1 E (fun _ => True) (r.map sg) = R at ih ⊢
    rw [s_gN]
    unfold RD.b__law_check_1
    show dSeq _ _ _ [x0, some (.int (a : Nat)), some (.int (b : Nat)), some (.str ⟨#[c]⟩)] st
    rw [s_seq, s_asg, s_op, s_var]
    show dCB _ _ _ _ _ _
    rw [s_cb, s_cons, s_var]
    show dNil _ _ _ _
    rw [s_nil, s_ordS]
    refine ⟨rfl, ?_⟩
    rw [s_add_int, s_gN]
    dsimp only
    show dAsg _ _ _ [x0, some (.int ((a : Int) + (c : Int))), some (.int (b : Nat)), some (.str ⟨#[c]⟩)] st
    rw [s_asg, s_op, s_var]
    show dVar _ _ _ _ _
    rw [s_var]
    show dAdd _ _ _ _
    rw [s_add_int, s_gN]
    dsimp only
    have e1 : (a : Int) + (c : Int) = ((a + c : Nat) : Int) := by omega
    have e2 : (b : Int) + ((a : Int) + (c : Int)) = ((b + (a + c) : Nat) : Int) := by omega
    rw [e1] at e2 ⊢
    rw [e2]
    exact ih
def sp_lcheck : DSp := fun ds st Q _ => match ds with
  | [.str t] => t.length ≤ 1000000 ∧ Q (.int (chk (tl t) : Nat)) st
  | _ => False
theorem r__law_check : Rd 1 sp_lcheck RD.t__law_check RD.N__law_check := by
  intro ds st Q Z hl h
  match ds, hl, h with
  | [.str t], _, ⟨ht, q⟩ =>
    unfold RD.t__law_check
    rw [s_seq, s_asg, s_dtup, s_cons, s_c, s_cons, s_c, s_nil]
    refine ⟨szk _ (by simp), ?_⟩
    rw [s_gTup]
    refine ⟨rfl, ?_⟩
    rw [s_gCons, s_gN, s_gCons, s_gN, s_gNil]
    try dsimp only
    show dSeq _ _ _ [some (.str t), some (.int 0), some (.int 0), none] st
    rw [s_seq, s_for, s_iD, s_revS, s_var]
    dsimp only
    refine ⟨by have := sz1m ht; omega, ?_⟩
    rw [s_walk_str]
    have e : strItems (revS t) = (tl t).reverse.map sg := rfl
    rw [e]
    refine lp_chk _ _ 0 0 none fun a' y3 => ?_
    rw [tot_wsum]
    dsimp only
    rw [s_ret, s_op, s_cb, s_cons, s_var]
    show dNil _ _ _ _
    rw [s_nil, s_int, s_c, s_mod]
    refine ⟨by decide, ?_⟩
    have e2 : ((wsum 0 (tl t) : Nat) : Int) % 99991 = ((chk (tl t) : Nat) : Int) := by unfold chk; omega
    rw [e2]
    exact .inl q
end CM
namespace CM
open PySem L2 PySem.Spec DL
open PyProof.Rows hiding St
open TL (tl pre spl par numL joinL)
theorem addS_evK {ρ : Env'} {st : Sto} {Q : DK} {Z : DZ} {ta tb : DTE} {x y : Str} (ha : ∀ (QE : DK) Z, QE (.str x) st → ta ρ st QE Z) (hb : ∀ (QE : DK) Z, QE (.str y) st → tb ρ st QE Z) (hl : x.length + y.length ≤ sizeLine) (q : Q (.str (x ++ y)) st) : dOp dAdd ta tb ρ st Q Z := by
  rw [s_op]
  refine ha _ _ ?_
  refine hb _ _ ?_
  rw [s_add_str]
  exact ⟨hl, q⟩
theorem ge_strs {a b : Str} {st : Sto} {Q : DK} (q : Q (.bl (!ltS a b)) st) : dGe (.str a) (.str b) st Q := by
  exact ⟨1, .str a, .str b, rfl, rfl, rfl, (fun z => by cases z), (by simp [PyData.depth]), q⟩
theorem tl_cutlo (t : Str) (k : Nat) : tl (cutS t none (some (k : Int))) = (tl t).take k := by
  have hl := TL.len_tl t
  show ((tl t).drop (_root_.HT.sIx t.length 0 none)).take (_root_.HT.sIx t.length t.length (some (k : Int)) - _root_.HT.sIx t.length 0 none) = _
  have e1 : _root_.HT.sIx t.length 0 none = 0 := rfl
  have e2 : _root_.HT.sIx t.length t.length (some (k : Int)) = min k t.length := by
    show (if ((k : Int)) < 0 then ((k : Int) + (t.length : Int)).toNat else min (k : Int).toNat t.length) = _
    rw [if_neg (by omega)]
    rfl
  rw [e1, e2, List.drop_zero, Nat.sub_zero]
  by_cases h : k ≤ t.length
  · rw [Nat.min_eq_left h]
  · rw [Nat.min_eq_right (by omega), List.take_of_length_le (by omega), List.take_of_length_le (by omega)]
theorem lawNum_num {m n : Nat} (h : n ≤ m) (h12 : n < 10 ^ 12) : lawNum m (numL n) = some n := by
  unfold lawNum
  rw [if_pos, TL.numL_val, if_pos h]
  refine ⟨TL.numL_ne n, TL.numL_len (by decide) h12, TL.numL_digits n, ?_⟩
  exact (canon (TL.numL_ne n) (TL.numL_digits n)).mp (by rw [TL.numL_val])
theorem lawNum_back {m n : Nat} {l : List Nat} (h : lawNum m l = some n) : l = numL n := by
  unfold lawNum at h
  split at h
  · rename_i hc
    split at h
    · cases h
      exact ((canon hc.1 hc.2.2.1).mpr hc.2.2.2).symm
    · cases h
  · cases h
theorem chk_iff (w b : Str) : ((tl w).take 6 = tl ("check " : Str) ∧ lawNum 99990 ((tl w).drop 6) = some (chk (tl b))) ↔ w = chkT (tl b) := by
  have hlt := chk_lt (tl b)
  rw [str_eq, tl_chkT, tl_check]
  constructor
  · rintro ⟨h1, h2⟩
    have := List.take_append_drop 6 (tl w)
    rw [h1, lawNum_back h2] at this
    exact this.symm
  · intro h
    rw [h]
    refine ⟨rfl, ?_⟩
    show lawNum 99990 (numL (chk (tl b))) = _
    exact lawNum_num (by omega) (by omega)
def encRes : Sum Nat (List Trp) → D
  | .inl n => .tup [.str "refused", .int (n : Nat)]
  | .inr l => .tup [.str "told", encI l]
theorem blw_encRes (n : Nat) (r : Sum Nat (List Trp)) : D.blw n (encRes r) = true := by
  cases r with
  | inl m => rfl
  | inr l => simp [encRes, D.blw, D.blws, blw_encI]
def sp_ldueK : DSp := fun ds st Q _ => match ds with
  | [.str t] => t.length ≤ 100000 ∧ (tl t).count 32 ≤ 3900 ∧ Q (encRes (readK (Txt.split t "\n").dropLast (lastS (Txt.split t "\n")))) st
  | _ => False
theorem set2 {st : Sto} {L W W' : Ob} : (st ++ [L, W]).set (st.length + 1) W' = st ++ [L, W'] := by simp [List.set_append]
theorem at2 {st : Sto} {L W : Ob} : (st ++ [L, W])[st.length]? = some L ∧ (st ++ [L, W])[st.length + 1]? = some W := by
  refine ⟨by simp, ?_⟩
  rw [List.getElem?_append_right (by omega)]
  simp
theorem lp_dueK (E : DEnds) {t : Str} {st : Sto} {R : List Str} {res : Sum Nat (List Trp)} (ht : t.length ≤ 200000) (hrt : ∀ acc : List Trp, E.rt (encRes res) (st ++ [.lst (R.map .str), .lst (acc.map encT)]))
    (hend : ∀ (acc : List Trp) b y4 y5 y6, res = .inl R.length → E.nx [some (.str t), some (.loc st.length), some (.loc (st.length + 1)), some (.str b), y4, y5, y6] (st ++ [.lst (R.map .str), .lst (acc.map encT)])) :
    ∀ (W : List Str) (acc : List Trp) (b : Str) (n : Nat) (y4 y5 y6 : Option D), (∀ w ∈ W, w.length ≤ 100000 ∧ (tl w).count 32 ≤ 3900) → (∀ j, j < W.length → R[n - 1 + j]? = W[j]?) → 1 ≤ n → n + W.length = R.length → acc.length + W.length ≤ 150000 → b.length + lenS W ≤ 200001 → dueF t acc b n W = res →
    runG (gN 4) (RD.b__law_due_k42_1 sp_lcheck sp_lnumK sp_ltrp) E (fun _ => True) (upFrom n W.length) [some (.str t), some (.loc st.length), some (.loc (st.length + 1)), some (.str b), y4, y5, y6] (st ++ [.lst (R.map .str), .lst (acc.map encT)])
  | [], acc, b, n, y4, y5, y6, _, _, hn1, hn, _, _, he => by
    rw [show upFrom n ([] : List Str).length = [] from rfl, runG_nil]
    refine ⟨trivial, hend acc b y4 y5 y6 ?_⟩
    rw [← he]
    unfold dueF
    simp at hn
    rw [hn]
  | w :: W, acc, b, n, y4, y5, y6, hw, hR, hn1, hn, hacc, hbl, he => by
    rw [show upFrom n (w :: W).length = .int (n : Nat) :: upFrom (n + 1) W.length from rfl, runG_cons]
    refine ⟨trivial, ?_⟩
    have ih := fun acc b y4 y5 y6 => lp_dueK E (t := t) (st := st) (R := R) (res := res) ht hrt hend W acc b (n + 1) y4 y5 y6 (fun z hz => hw z (List.mem_cons_of_mem _ hz)) (fun j hj => by
      have := hR (j + 1) (by simp; omega)
      rw [List.getElem?_cons_succ] at this
      rw [← this]
      congr 1
      omega) (by omega) (by simp at hn; omega)
    generalize hRR : runG (gN 4) (RD.b__law_due_k42_1 sp_lcheck sp_lnumK sp_ltrp) E (fun _ => True) (upFrom (n + 1) W.length) = RR at ih ⊢
    have hw0 := hw w List.mem_cons_self
    have hls : lenS (w :: W) = (w.length + 1) + lenS W := by unfold lenS; simp
    rw [hls] at hbl
    simp only [List.length_cons] at hacc hn
    have hget : (R.map D.str)[n - 1]? = some (.str w) := by
      have := hR 0 (by simp)
      rw [List.getElem?_cons_zero, Nat.add_zero] at this
      rw [List.getElem?_map, this]
      rfl
    rw [s_gN]
    unfold RD.b__law_due_k42_1
    show dSeq _ _ _ [some (.str t), some (.loc st.length), some (.loc (st.length + 1)), some (.str b), some (.int (n : Nat)), y5, y6] _
    rw [s_seq, s_asg, s_op, s_var]
    show dOp _ _ _ _ _ _ _
    rw [s_op, s_var]
    show dC _ _ _ _ _
    rw [s_c]
    show dIx (.loc st.length) (.int ((n : Int) - 1)) _ _
    rw [s_ix_loc]
    refine ⟨_, .str w, at2.1, by rw [show (n : Int) - 1 = ((n - 1 : Nat) : Int) from by omega]; exact atI_nat hget, ?_⟩
    try rw [s_gN]
    try dsimp only
    show dSeq _ _ _ [some (.str t), some (.loc st.length), some (.loc (st.length + 1)), some (.str b), some (.int (n : Nat)), some (.str w), y6] _
    rw [s_seq, s_asg, s_call, s_cons, s_var]
    show dNil _ _ _ _
    rw [s_nil]
    refine ⟨rfl, by omega, hw0.2, ?_⟩
    try dsimp only
    rw [s_gN]
    try dsimp only
    show dIfS _ _ _ _ [some (.str t), some (.loc st.length), some (.loc (st.length + 1)), some (.str b), some (.int (n : Nat)), some (.str w), some (encOT (trpL (tl w)))] _
    have hd : dueF t acc b n (w :: W) = match trpL (tl w) with
      | some z => if okNext acc z = true then dueF t (acc ++ [z]) (b ++ lineS w) (n + 1) W else .inl n
      | none => if w = chkT (tl b) then (if t = b ++ lineS w then .inr acc else .inl (n + 1)) else .inl n := rfl
    rw [hd] at he
    have nl : ("\n" : Str).length = 1 := rfl
    have addb : ∀ {y : D} {QE : DK} {Z : DZ} {S : Sto}, QE (.str (b ++ lineS w)) S → dOp dAdd (dOp dAdd (dVar 3) (dVar 5)) (dC (.str "\n")) [some (.str t), some (.loc st.length), some (.loc (st.length + 1)), some (.str b), some (.int (n : Nat)), some (.str w), some y] S QE Z := fun {y QE Z S} qe => by
      refine addS_evK (x := b ++ w) (y := "\n") (fun QE Z qe => addS_evK (x := b) (y := w) (fun QE Z qe => var_ev rfl qe) (fun QE Z qe => var_ev rfl qe) (sz_big (by omega)) qe) (fun QE Z qe => qe) (by rw [app_len, nl]; exact sz_big (by omega)) ?_
      rw [app_assoc]
      exact qe
    have refused : ∀ (m : Nat) (y : D), res = .inl m → m = n → E.rt (.tup [.str "refused", .int (n : Nat)]) (st ++ [.lst (R.map .str), .lst (acc.map encT)]) := fun m y hres hm => by
      have := hrt acc
      rw [hres, hm] at this
      exact this
    rw [s_ifS, s_test, s_op, s_var]
    show dC _ _ _ _ _
    rw [s_c, s_is]
    try dsimp only
    rw [isnon_OT]
    cases hz : trpL (tl w) with
    | some z =>
      rw [hz] at he
      try dsimp only at he
      rw [if_pos (by rfl), s_seq, s_ifS, s_and, s_test, s_op, s_cb, s_cons, s_var]
      show dNil _ _ _ _
      rw [s_nil, s_len_loc, at2.2]
      try dsimp only
      rw [s_c]
      show dOrd _ _ (.int ((acc.map encT).length : Int)) (.int 0) _ _
      rw [s_ord_int, List.length_map]
      try dsimp only
      have put : okNext acc z = true → dSeq (dDrop (dBM "list" dAppend (dVar 2) (dCons (dVar 6) dNil))) (dAsg (dOp dAdd (dOp dAdd (dVar 3) (dVar 5)) (dC (.str "\n"))) (gN 3)) { nx := RR, rt := E.rt, bk := E.nx, ct := RR, xs := E.xs } [some (.str t), some (.loc st.length), some (.loc (st.length + 1)), some (.str b), some (.int (n : Nat)), some (.str w), some (encT z)] (st ++ [.lst (R.map .str), .lst (acc.map encT)]) := by
        intro hok
        rw [if_pos hok] at he
        rw [s_seq, s_drop, s_bm, s_var]
        show tyD _ "list" (.loc (st.length + 1)) ∧ _
        refine ⟨by rw [s_tyD_loc, at2.2], ?_⟩
        rw [s_cons, s_var]
        show dNil _ _ _ _
        rw [s_nil, s_append]
        refine ⟨_, at2.2, by rw [List.length_map]; exact sizeLine_big (by omega), ?_⟩
        rw [set2, show acc.map encT ++ [encT z] = (acc ++ [z]).map encT from by simp]
        try dsimp only
        rw [s_asg]
        refine addb ?_
        rw [s_gN]
        exact ih (acc ++ [z]) (b ++ lineS w) _ _ _ (by simp; omega) (by rw [app_len, lineS_len]; omega) he
      cases hg : acc.getLast? with
      | none =>
        have hnil : acc = [] := List.getLast?_eq_none_iff.mp hg
        have hok : okNext acc z = true := by unfold okNext; rw [hg]
        rw [if_neg (by rw [hnil]; simp), if_neg (by simp), s_next]
        exact put hok
      | some y =>
        have hne : acc ≠ [] := fun e => by rw [e] at hg; cases hg
        have hpos := List.length_pos_iff.mpr hne
        have hokd : okNext acc z = ltS y.1 z.1 := by unfold okNext; rw [hg]
        rw [if_pos (by simpa using hpos), s_test, s_op, s_op, s_op, s_var]
        show dUn _ _ _ _ _ _
        rw [s_un, s_c, s_neg, s_ix_loc]
        refine ⟨_, _, at2.2, atI_endT hg, ?_⟩
        rw [s_c]
        refine ⟨.str y.1, atI_0, ?_⟩
        try dsimp only
        rw [s_op, s_var]
        show dC _ _ _ _ _
        rw [s_c]
        refine ⟨.str z.1, atI_0, ?_⟩
        refine ge_strs ?_
        try dsimp only
        cases hlt : ltS y.1 z.1 with
        | false =>
          rw [hokd, hlt, if_neg (by decide)] at he
          rw [if_pos (by decide), s_ret, s_dtup, s_cons, s_c, s_cons, s_var]
          show dNil _ _ _ _
          rw [s_nil]
          exact ⟨szk _ (by simp), refused n (encT z) he.symm rfl⟩
        | true =>
          rw [if_neg (by decide), s_next]
          exact put (by rw [hokd]; exact hlt)
    | none =>
      rw [hz] at he
      try dsimp only at he
      rw [if_neg (by simp), s_ifS, s_or, s_test, s_op, s_sl, s_var]
      show dNoPart _ _ _ _
      rw [s_noPart, s_part, s_c]
      try dsimp only
      rw [s_slv_str]
      refine ⟨sz_big (by omega), ?_⟩
      rw [s_c]
      show dEqB not (.str _) (.str _) _ _
      rw [s_eq_str]
      have c1 : (cutS w none (some 6) = ("check " : Str)) ↔ (tl w).take 6 = tl ("check " : Str) := by
        rw [str_eq, show (6 : Int) = ((6 : Nat) : Int) from rfl, tl_cutlo]
      have hiff := chk_iff w b
      try dsimp only
      by_cases h6 : cutS w none (some 6) = ("check " : Str)
      · rw [if_neg (by simp [h6]), s_test, s_op, s_call, s_cons, s_sl, s_var]
        show dPart _ _ _ _ _
        rw [s_part, s_c]
        try dsimp only
        rw [s_noPart, s_slv_str]
        refine ⟨sz_big (by omega), ?_⟩
        rw [s_cons, s_c, s_nil]
        have hcl : (cutS w (some 6) none).length ≤ w.length := by
          rw [TL.len_tl, show (6 : Int) = ((6 : Nat) : Int) from rfl, tl_cut, List.length_drop, ← TL.len_tl]
          omega
        refine ⟨rfl, by decide, by omega, ?_⟩
        rw [show (99990 : Int).toNat = 99990 from rfl, show (6 : Int) = ((6 : Nat) : Int) from rfl, tl_cut]
        try dsimp only
        rw [s_call, s_cons, s_var]
        show dNil _ _ _ _
        rw [s_nil]
        refine ⟨rfl, by omega, ?_⟩
        have hne : dEqB not (encN (lawNum 99990 ((tl w).drop 6))) (.int ((chk (tl b) : Nat) : Int)) = fun (S : Sto) (QE : DK) => QE (.bl (!decide (lawNum 99990 ((tl w).drop 6) = some (chk (tl b))))) S := by
          funext S QE
          cases hn : lawNum 99990 ((tl w).drop 6) with
          | none =>
            show QE (.bl (!false)) S = _
            simp
          | some v =>
            show QE (.bl (!decide ((v : Int) = ((chk (tl b) : Nat) : Int)))) S = _
            have : decide ((v : Int) = ((chk (tl b) : Nat) : Int)) = decide (some v = some (chk (tl b))) := decide_eq_decide.mpr ⟨fun h => by rw [Int.ofNat_inj.mp h], fun h => by rw [Option.some.inj h]⟩
            rw [this]
        show dEqB not (encN (lawNum 99990 ((tl w).drop 6))) (.int ((chk (tl b) : Nat) : Int)) _ _
        rw [hne]
        try dsimp only
        by_cases hnum : lawNum 99990 ((tl w).drop 6) = some (chk (tl b))
        · have hwc : w = chkT (tl b) := hiff.mp ⟨c1.mp h6, hnum⟩
          rw [if_pos hwc] at he
          rw [if_neg (by simp [hnum]), s_ifS, s_test, s_op, s_var]
          show dOp _ _ _ _ _ _ _
          refine addb ?_
          show dEqB not (.str t) (.str (b ++ lineS w)) _ _
          rw [s_eq_str]
          try dsimp only
          by_cases hte : t = b ++ lineS w
          · rw [if_pos hte] at he
            rw [if_neg (by simp [← hte]), s_ret, s_dtup, s_cons, s_c, s_cons, s_cb, s_cons, s_var]
            show dNil _ _ _ _
            rw [s_nil, s_tupOf]
            simp only [s_items_loc, at2.2]
            rw [s_nil]
            refine ⟨szk _ (by simp), ?_⟩
            have := hrt acc
            rw [← he] at this
            exact this
          · rw [if_neg hte] at he
            rw [if_pos (by simpa using hte), s_ret, s_dtup, s_cons, s_c, s_cons, s_op, s_var]
            show dC _ _ _ _ _
            rw [s_c, s_add_int, s_nil]
            refine ⟨szk _ (by simp), ?_⟩
            have := hrt acc
            rw [← he] at this
            exact this
        · have hwc : w ≠ chkT (tl b) := fun e => hnum (hiff.mpr e).2
          rw [if_neg hwc] at he
          rw [if_pos (by simpa using hnum), s_ret, s_dtup, s_cons, s_c, s_cons, s_var]
          show dNil _ _ _ _
          rw [s_nil]
          exact ⟨szk _ (by simp), refused n .non he.symm rfl⟩
      · have hwc : w ≠ chkT (tl b) := fun e => h6 (c1.mpr (hiff.mpr e).1)
        rw [if_neg hwc] at he
        rw [if_pos (by simpa using h6), if_pos rfl, s_ret, s_dtup, s_cons, s_c, s_cons, s_var]
        show dNil _ _ _ _
        rw [s_nil]
        exact ⟨szk _ (by simp), refused n .non he.symm rfl⟩
theorem line_count {t w : Str} (h : w ∈ Txt.split t "\n") : (tl w).count 32 ≤ (tl t).count 32 := by
  have hs := split_tl (x := t) tls2.2.2.2.2.2.2.1 (by simp) (by simp)
  have hc := count_spl (c := 32) (S := [10]) (by simp) (by simp) (tl t)
  rw [← hs, List.map_map] at hc
  have hm : (tl w).count 32 ∈ (Txt.split t "\n").map ((fun p => p.count 32) ∘ tl) := List.mem_map_of_mem (f := (fun p => p.count 32) ∘ tl) h
  have : (tl w).count 32 ≤ ((Txt.split t "\n").map ((fun p => p.count 32) ∘ tl)).sum := by
    generalize (Txt.split t "\n").map ((fun p => p.count 32) ∘ tl) = l at hm
    induction l with
    | nil => cases hm
    | cons a l ih =>
      rw [List.sum_cons]
      rcases List.mem_cons.mp hm with h | h
      · omega
      · have := ih h
        omega
  omega
theorem text_parts (t : Str) : t = linesT (Txt.split t "\n").dropLast ++ lastS (Txt.split t "\n") := by
  have hs := split_tl (x := t) tls2.2.2.2.2.2.2.1 (by simp) (by simp)
  have hj := join_spl (S := [10]) (by simp) (by simp) (tl t)
  rw [← hs] at hj
  have hne := split_neK t "\n" (by decide) (by decide)
  generalize Txt.split t "\n" = W at hj hne ⊢
  obtain ⟨W0, w, rfl⟩ : ∃ W0 w, W = W0 ++ [w] := ⟨W.dropLast, W.getLast hne, (List.dropLast_concat_getLast hne).symm⟩
  have e1 : (W0 ++ [w]).dropLast = W0 := by simp
  have e2 : lastS (W0 ++ [w]) = w := by simp [lastS]
  rw [e1, e2]
  refine TL.ext_tl ?_
  rw [TL.tl_append, ← hj]
  have key : ∀ (A : List Str), joinL [10] ((A ++ [w]).map tl) = tl (linesT A) ++ tl w := by
    intro A
    induction A with
    | nil => rfl
    | cons a A ih =>
      rw [List.cons_append, List.map_cons, joinL_cons (by simp), ih, tl_lines_cons]
      simp
  exact key W0
theorem rngItems_1 (n : Nat) : rngItems 1 n = upFrom 1 n := by
  rw [← upFrom_eq]
  unfold rngItems
  rfl
theorem r__law_due_k42 : Rd 1 sp_ldueK (RD.t__law_due_k42 sp_lcheck sp_lnumK sp_ltrp) RD.N__law_due_k42 := by
  intro ds st Q Z hl h
  match ds, hl, h with
  | [.str t], _, ⟨ht, hc, q⟩ =>
    unfold RD.t__law_due_k42
    rw [s_seq, s_asg, s_bm, s_var]
    show tyD st "str" (.str t) ∧ _
    refine ⟨rfl, ?_⟩
    rw [s_cons, s_c, s_nil, s_split]
    refine ⟨by decide, sz1m (by omega), ?_⟩
    have hparts := text_parts t
    have hlen := split_lenS t
    have hne := split_neK t "\n" (by decide) (by decide)
    have hw : ∀ w ∈ Txt.split t "\n", w.length ≤ 100000 ∧ (tl w).count 32 ≤ 3900 := fun w hw => ⟨by have := split_len hw; omega, Nat.le_trans (line_count hw) hc⟩
    have hcount : (Txt.split t "\n").length ≤ t.length + 2 := PyProof.Rows.split_le t "\n"
    generalize hR : Txt.split t "\n" = R at q hparts hlen hne hw hcount ⊢
    have hdl := dropLast_lenS hne
    have hRl : R.dropLast.length + 1 = R.length := by
      have := List.length_pos_iff.mpr hne
      rw [List.length_dropLast]
      omega
    rw [s_gN]
    try dsimp only
    show dSeq _ _ _ [some (.str t), some (.loc st.length), none, none, none, none, none] (st ++ [Ob.lst (R.map .str)])
    rw [s_seq, s_par, s_cons, s_dlst, s_nil]
    refine ⟨szk _ (by simp), ?_⟩
    rw [s_cons, s_c, s_nil]
    have e1 : (st ++ [Ob.lst (R.map D.str)]).length = st.length + 1 := by simp
    have e2 : st ++ [Ob.lst (R.map D.str)] ++ [Ob.lst []] = st ++ [Ob.lst (R.map D.str), Ob.lst (([] : List Trp).map encT)] := by simp
    rw [e1, e2]
    try dsimp only
    show dSeq _ _ _ [some (.str t), some (.loc st.length), some (.loc (st.length + 1)), some (.str ""), none, none, none] _
    have hres : dueF t [] "" 1 R.dropLast = readK R.dropLast (lastS R) := due_read hparts R.dropLast [] (by simp) (Nat.zero_le _) rfl
    rw [s_seq, s_for, s_iR2, s_cons, s_c, s_cons, s_cb, s_cons, s_var]
    show dNil _ _ _ _
    rw [s_nil, s_len_loc, at2.1]
    try dsimp only
    rw [s_nil]
    have hn : (((R.map D.str).length : Int) - 1).toNat = R.dropLast.length := by rw [List.length_map]; omega
    try dsimp only
    refine ⟨⟨by decide, by decide, by rw [List.length_map]; omega, by rw [List.length_map]; omega⟩, ?_⟩
    rw [hn, rngItems_1]
    have bk : ∀ acc : List Trp, DL.Back st Q (encRes (readK R.dropLast (lastS R))) (st ++ [Ob.lst (R.map .str), Ob.lst (acc.map encT)]) := fun acc => back_tup ⟨_, rfl⟩ (blw_encRes _ _) q
    refine lp_dueK _ (t := t) (res := readK R.dropLast (lastS R)) (by omega) (fun acc => bk acc) (fun acc b y4 y5 y6 he => ?_) R.dropLast [] "" 1 none none none (fun w hh => hw w ((List.dropLast_sublist R).subset hh)) (fun j hj => ?_) (Nat.le_refl 1) (by omega) (by simp; omega) (by rw [show ("" : Str).length = 0 from rfl]; omega) hres
    · have := bk acc
      rw [he] at this
      try dsimp only
      rw [s_ret, s_dtup, s_cons, s_c, s_cons, s_cb, s_cons, s_var]
      show dNil _ _ _ _
      rw [s_nil, s_len_loc, at2.1]
      try dsimp only
      rw [s_nil, List.length_map]
      exact ⟨szk _ (by simp), this⟩
    · rw [List.dropLast_eq_take, List.getElem?_take, if_pos (by rw [List.length_dropLast] at hj; exact hj)]
      congr 1
      omega
end CM
namespace CM
open PySem L2 PySem.Spec DL
open PyProof.Rows hiding St
open TL (tl pre spl par numL joinL)
theorem ix_evK {i : Nat} {j : Int} {ds : List D} {d : D} {ρ : Env'} {st : Sto} {Q : DK} {Z : DZ} (h : ρ[i]? = some (some (.tup ds))) (hj : atI ds j = some d) (q : Q d st) : dOp dIx (dVar i) (dC (.int j)) ρ st Q Z := by
  rw [s_op]
  refine var_ev h ?_
  rw [s_c]
  exact ⟨d, hj, q⟩
theorem isi_evK {te : DTE} {T a : String} {d : D} {ρ : Env'} {st : Sto} {Q : DK} {Z : DZ} (he : ∀ (QE : DK) Z, QE d st → te ρ st QE Z) (ha : tyN st d = some a) (q : Q (.bl (tySub a T)) st) : dIsi te [T] ρ st Q Z := by
  rw [s_isi]
  refine he _ _ ?_
  rw [ha]
  simpa using q
section
variable [EC : ErrCtx]
theorem xiK {a : Addr} {m i : Nat} {fs : List (Str × D)} {tbl : List (Nat × Bool)} {b : Bool} {ρ : Env'} {st : Sto} {QT : Bool → Sto → Prop} {Z : DZ} (hp : (m, b) ∈ tbl) (hρ : ρ[i]? = some (some (.adr a))) (k : QT b st) : dTru (dXi a (errX m fs) tbl (dVar i)) ρ st QT Z := by
  rw [s_tru, s_xi]
  refine ⟨(m, b), hp, rfl, ?_⟩
  rw [s_var, hρ]
  exact ⟨rfl, k⟩
theorem xfK {a : Addr} {m i : Nat} {f : Str} {y : D} {ρ : Env'} {st : Sto} {Q : DK} {Z : DZ} (hρ : ρ[i]? = some (some (.adr a))) (k : Q y st) : dXf a (errX m [(f, y)]) m f (dVar i) ρ st Q Z := by
  rw [s_xf, s_var, hρ]
  exact ⟨rfl, rfl, y, by simp [errX, List.lookup], k⟩
def sp_lread : DSp := fun ds st Q _ => match ds with
  | [d] => (∃ t, d = .str t ∧ t.length ≤ 100000 ∧ Q (encRes (readK (Txt.split t "\n").dropLast (lastS (Txt.split t "\n")))) st) ∨ ((∃ T, tyN st d = some T ∧ T ≠ "str") ∧ D.blw st.length d = true ∧ Q (encRes (.inl 0)) st)
  | _ => False
theorem tail_read {d : D} {st : Sto} {r : Sum Nat (List Trp)} {x2 : Option D} {E : DEnds} (q : E.rt (encRes r) st) :
    dSeq (dIfS (dAnd (dTest (dOp dEq (dOp dIx (dVar 1) (dC (.int 0))) (dC (.str "refused")))) (dOr (dNot (dTru (dIsi (dOp dIx (dVar 1) (dC (.int 1))) ["int"]))) (dTru (dIsi (dOp dIx (dVar 1) (dC (.int 1))) ["bool"])))) (dRet (dTup (dCons (dC (.non)) (dCons (dC (.non)) dNil)))) dNext)
    (dRet (dVar 1)) E [some d, some (encRes r), x2] st := by
  rw [s_seq, s_ifS, s_and, s_test, s_op]
  cases r with
  | inl n =>
    refine ix_evK (d := .str "refused") (ds := [.str "refused", .int (n : Nat)]) rfl atI_0 ?_
    rw [s_c]
    show dEqB id (.str "refused") (.str "refused") _ _
    rw [s_eq_str]
    try dsimp only [id]
    rw [if_pos (by simp), s_or, s_not, s_tru]
    refine isi_evK (d := .int (n : Nat)) (a := "int") (fun QE Z qe => ix_evK (ds := [.str "refused", .int (n : Nat)]) rfl rfl qe) rfl ?_
    rw [show tySub "int" "int" = true from rfl, s_tru_bl, if_neg (by simp), s_tru]
    refine isi_evK (d := .int (n : Nat)) (a := "int") (fun QE Z qe => ix_evK (ds := [.str "refused", .int (n : Nat)]) rfl rfl qe) rfl ?_
    rw [show tySub "int" "bool" = false from by decide, s_tru_bl, if_neg (by simp), s_next]
    try dsimp only
    rw [s_ret]
    exact var_ev rfl q
  | inr l =>
    refine ix_evK (d := .str "told") (ds := [.str "told", encI l]) rfl atI_0 ?_
    rw [s_c]
    show dEqB id (.str "told") (.str "refused") _ _
    rw [s_eq_str]
    try dsimp only [id]
    rw [if_neg (by simpa using (show ("told" : Str) ≠ "refused" by decide)), if_neg (by simp), s_next]
    try dsimp only
    rw [s_ret]
    exact var_ev rfl q
theorem r__law_read : Rd 1 sp_lread (RD.t__law_read sp_rlock) RD.N__law_read := by
  intro ds st Q Z hl h
  have exc : ∀ (d : D) (n : Nat) (E : DEnds) (a : Addr) (st1 : Sto), (∀ x2, E.nx [some d, some (encRes (.inl n)), x2] st1) → RD.s__law_read_2 sp_rlock a (errX 4 [("number", .int (n : Nat))]) E [some d, some (.tup [.non, .non]), some (.adr a)] st1 := fun d n E a st1 hk => by
    unfold RD.s__law_read_2
    rw [s_ifS, s_and]
    refine xiK (b := true) (by simp) rfl ?_
    rw [if_pos rfl, s_and]
    refine xiK (b := true) (by simp) rfl ?_
    rw [if_pos rfl, s_not]
    refine xiK (b := false) (by simp) rfl ?_
    rw [if_pos (by simp), s_asg, s_dtup, s_cons, s_c, s_cons]
    refine xfK (y := .int (n : Nat)) rfl ?_
    rw [s_nil]
    refine ⟨szk _ (by simp), ?_⟩
    rw [s_gN]
    exact hk _
  match ds, hl, h with
  | [d], _, .inr ⟨hT, hbl, q⟩ =>
    unfold RD.t__law_read
    rw [s_seq, s_asg, s_dtup, s_cons, s_c, s_cons, s_c, s_nil]
    refine ⟨szk _ (by simp), ?_⟩
    rw [s_gN]
    try dsimp only
    show dSeq _ _ _ [some d, some (.tup [.non, .non]), none] st
    rw [s_seq, s_tryAs]
    unfold RD.b__law_read_1
    rw [s_asg, s_dtup, s_cons, s_c, s_cons, s_call, s_cons, s_var]
    show dNil _ _ _ _
    rw [s_nil]
    refine ⟨rfl, .inr ⟨hT, caught (by simp), fun a => ?_⟩⟩
    refine exc d 0 _ a st fun x2 => ?_
    try dsimp only
    exact tail_read (r := .inl 0) (.inl q)
  | [_], _, .inl ⟨t, rfl, ht, q⟩ =>
    unfold RD.t__law_read
    rw [s_seq, s_asg, s_dtup, s_cons, s_c, s_cons, s_c, s_nil]
    refine ⟨szk _ (by simp), ?_⟩
    rw [s_gN]
    try dsimp only
    show dSeq _ _ _ [some (.str t), some (.tup [.non, .non]), none] st
    rw [s_seq, s_tryAs]
    unfold RD.b__law_read_1
    rw [s_asg, s_dtup, s_cons, s_c, s_cons, s_call, s_cons, s_var]
    show dNil _ _ _ _
    rw [s_nil]
    refine ⟨rfl, .inl ⟨t, rfl, ht, ?_⟩⟩
    cases hr : readK (Txt.split t "\n").dropLast (lastS (Txt.split t "\n")) with
    | inl n =>
      rw [hr] at q
      refine ⟨caught (by simp), fun a => ?_⟩
      refine exc (.str t) n _ a st fun x2 => ?_
      try dsimp only
      exact tail_read (r := .inl n) (.inl q)
    | inr l =>
      rw [hr] at q
      try dsimp only
      rw [s_nil]
      refine ⟨szk _ (by simp), ?_⟩
      rw [s_gN]
      try dsimp only
      exact tail_read (r := .inr l) (.inl q)
end
end CM
namespace CM
open PySem L2 PySem.Spec DL
open PyProof.Rows hiding St
open TL (tl pre spl par numL joinL)
theorem spl_free10 : ∀ (n : Nat) (l : List Nat), l.length ≤ n → ∀ p ∈ spl [10] 0 [] l, 10 ∉ p
  | n, l, hn, p, hp => by
    rw [spl1] at hp
    cases h : par [10] [] l with
    | none =>
      rw [h] at hp
      rw [List.mem_singleton.mp hp]
      exact par1_none h
    | some q =>
      rw [h] at hp
      obtain ⟨q', e1, e2, hq⟩ := par1_some (a := q.1) (r := q.2) (by rw [h])
      rcases List.mem_cons.mp hp with rfl | hp
      · rw [e1]; simpa using hq
      · match n with
        | 0 => rw [e2] at hn; simp at hn
        | n + 1 => exact spl_free10 n q.2 (by rw [e2] at hn; simp at hn; omega) p hp
theorem split_free10 (t : Str) : ∀ w ∈ Txt.split t "\n", 10 ∉ tl w := fun w hw => by
  have := lines_tl t
  have hm : tl w ∈ (Txt.split t "\n").map tl := List.mem_map_of_mem hw
  rw [this] at hm
  exact spl_free10 _ _ (Nat.le_refl _) _ hm
/-- what is read, has the form -/
theorem read_shape {t : Str} {l : List Trp} (h : readK (Txt.split t "\n").dropLast (lastS (Txt.split t "\n")) = .inr l) :
    ∃ V : List Str, (∀ w ∈ V, 10 ∉ tl w) ∧ t = linesT (V ++ [chkT (tl (linesT V))]) ∧ (foundK [] (V ++ [chkT (tl (linesT V))])).length = V.length := by
  have hparts := text_parts t
  have hfree : ∀ w ∈ (Txt.split t "\n").dropLast, 10 ∉ tl w := fun w hw => split_free10 t w ((List.dropLast_sublist _).subset hw)
  generalize (Txt.split t "\n").dropLast = W at h hparts hfree
  generalize lastS (Txt.split t "\n") = rest at h hparts
  unfold readK at h
  generalize hF : foundK [] W = F at h
  split at h
  · rename_i hc
    split at h
    · cases h
    · rename_i hn
      simp only [not_or, Decidable.not_not, Nat.not_lt] at hn
      obtain ⟨hn1, rfl⟩ := hn
      have hlt := (List.getElem?_eq_some_iff.mp hc).1
      have e : W = W.take F.length ++ [chkT (tl (linesT (W.take F.length)))] := by
        have e2 : W.drop F.length = [chkT (tl (linesT (W.take F.length)))] := by
          rw [List.drop_eq_getElem_cons hlt, (List.getElem?_eq_some_iff.mp hc).2, List.drop_eq_nil_of_le (by omega)]
        conv => lhs; rw [← List.take_append_drop F.length W, e2]
      refine ⟨W.take F.length, fun w hw => hfree w (List.mem_of_mem_take hw), ?_, ?_⟩
      · rw [← e]
        refine hparts.trans ?_
        exact app_emp _
      · rw [← e, hF, List.length_take]
        omega
  · cases h
theorem lines_prefix : ∀ {V W : List Str}, (∀ w ∈ V, 10 ∉ tl w) → (∀ w ∈ W, 10 ∉ tl w) → ∀ r, tl (linesT V) ++ r = tl (linesT W) → ∃ R, W = V ++ R
  | [], W, _, _, r, _ => ⟨W, rfl⟩
  | v :: V, [], _, _, r, h => by
    rw [tl_lines_cons] at h
    simp [tl_lines_nil] at h
  | v :: V, w :: W, hv, hw, r, h => by
    rw [tl_lines_cons, tl_lines_cons, List.append_assoc, List.cons_append] at h
    have key : ∀ (a b : List Nat) {x y : List Nat}, 10 ∉ a → 10 ∉ b → a ++ 10 :: x = b ++ 10 :: y → a = b ∧ x = y := by
      intro a
      induction a with
      | nil =>
        intro b x y _ hb e
        cases b with
        | nil => exact ⟨rfl, by simpa using e⟩
        | cons c b => simp at e hb; exact absurd e.1 hb.1
      | cons c a ih =>
        intro b x y ha hb e
        cases b with
        | nil => simp at e ha; exact absurd e.1.symm ha.1
        | cons d b =>
          simp only [List.cons_append, List.cons.injEq] at e
          obtain ⟨rfl, e⟩ := e
          obtain ⟨e1, e2⟩ := ih b (fun z => ha (List.mem_cons_of_mem _ z)) (fun z => hb (List.mem_cons_of_mem _ z)) e
          exact ⟨by rw [e1], e2⟩
    obtain ⟨e1, e2⟩ := key _ _ (hv v List.mem_cons_self) (hw w List.mem_cons_self) h
    obtain ⟨R, rfl⟩ := lines_prefix (fun z hz => hv z (List.mem_cons_of_mem _ hz)) (fun z hz => hw z (List.mem_cons_of_mem _ hz)) r e2
    exact ⟨R, by rw [TL.ext_tl e1]; rfl⟩
/-- a text with more behind, or less, is not read -/
theorem foundK_more {x : Str} (hx : trpL (tl x) = none) {R : List Str} : ∀ (l acc : List Trp), (∀ t ∈ l, TrpV t) → up ((acc ++ l).map nmT) → foundK acc (l.map trpT ++ x :: R) = acc ++ l
  | [], acc, _, _ => by
    simp only [List.map_nil, List.nil_append, List.append_nil]
    unfold foundK
    rw [hx]
  | t :: l, acc, hv, hu => by
    rw [List.map_cons, List.cons_append]
    unfold foundK
    rw [trpL_back (hv t List.mem_cons_self)]
    dsimp only
    have hok : okNext acc t = true := by
      unfold okNext
      split
      · rfl
      · rename_i z hz
        rw [List.map_append, List.map_cons] at hu
        have := (List.pairwise_append.mp hu).2.2
        exact this (nmT z) (List.mem_map_of_mem (List.mem_of_getLast? hz)) (nmT t) List.mem_cons_self
    rw [if_pos hok]
    have := foundK_more hx (R := R) l (acc ++ [t]) (fun z hz => hv z (List.mem_cons_of_mem _ hz)) (by rw [List.append_assoc]; exact hu)
    rw [this, List.append_assoc]
    rfl
def HarmK (s : Str) : Prop := ∃ n, readK (Txt.split s "\n").dropLast (lastS (Txt.split s "\n")) = .inl n
theorem harm_of {s : Str} (h : ∀ V : List Str, (∀ w ∈ V, 10 ∉ tl w) → s = linesT (V ++ [chkT (tl (linesT V))]) → (foundK [] (V ++ [chkT (tl (linesT V))])).length = V.length → False) : HarmK s := by
  unfold HarmK
  cases hr : readK (Txt.split s "\n").dropLast (lastS (Txt.split s "\n")) with
  | inl n => exact ⟨n, rfl⟩
  | inr m =>
    obtain ⟨V, a, b, c⟩ := read_shape hr
    exact (h V a b c).elim
theorem free_snoc {V : List Str} (h : ∀ w ∈ V, 10 ∉ tl w) (l : List Nat) : ∀ w ∈ V ++ [chkT l], 10 ∉ tl w := fun w hw => by
  rcases List.mem_append.mp hw with hw | hw
  · exact h w hw
  · rw [List.mem_singleton.mp hw]; exact chkT_free _
theorem harm_pre {l : List Trp} (hv : ∀ t ∈ l, TrpV t) {s : Str} {r : List Nat} (hr : r ≠ []) (h : tl s ++ r = tl (lockTx l)) : HarmK s := by
  refine harm_of fun V hV hs hf => ?_
  rw [lockTx_lines, hs] at h
  obtain ⟨R, e⟩ := lines_prefix (free_snoc hV _) (lockL_free hv) r h
  have hR : R ≠ [] := by
    rintro rfl
    rw [List.append_nil] at e
    rw [e] at h
    have := congrArg List.length h
    simp at this
    exact hr this
  unfold lockL at e
  rw [← List.dropLast_concat_getLast hR, ← List.append_assoc] at e
  have e2 := (List.append_inj' e rfl).1
  have hm : chkT (tl (linesT V)) ∈ l.map trpT := by rw [e2]; simp
  obtain ⟨t, ht, he⟩ := List.mem_map.mp hm
  have := trpL_back (hv t ht)
  rw [he, trpL_chk] at this
  cases this
theorem harm_app {l : List Trp} (hv : ∀ t ∈ l, TrpV t) (hu : up (l.map nmT)) {s : Str} {r : List Nat} (hr : r ≠ []) (h : tl s = tl (lockTx l) ++ r) : HarmK s := by
  refine harm_of fun V hV hs hf => ?_
  rw [lockTx_lines, hs] at h
  obtain ⟨R, e⟩ := lines_prefix (lockL_free hv) (free_snoc hV _) r h.symm
  rw [e] at hf h
  unfold lockL at hf e
  rw [List.append_assoc, List.singleton_append, foundK_more (trpL_chk _) l [] hv (by simpa using hu)] at hf
  have el := congrArg List.length e
  simp at el hf
  have hR : R = [] := List.length_eq_zero_iff.mp (by omega)
  rw [hR, List.append_nil] at h
  have := congrArg List.length h
  simp at this
  exact hr this
end CM
namespace CM
open PySem L2 PySem.Spec DL
open PyProof.Rows hiding St
open TL (tl pre spl par numL joinL)
def cL (B : List Nat) : List Nat := [99, 104, 101, 99, 107, 32] ++ (numL (chk B) ++ [10])
theorem cL_len (B : List Nat) : (cL B).length = 7 + (numL (chk B)).length := by unfold cL; simp; omega
theorem tail_in {B : List Nat} {k c : Nat} (h : (numL (chk B) ++ [10])[k]? = some c) : c = 10 ∨ (48 ≤ c ∧ c ≤ 57) := by
  have := List.mem_of_getElem? h
  rcases List.mem_append.mp this with h | h
  · exact .inr (numL_in h)
  · exact .inl (List.mem_singleton.mp h)
theorem cL_at {B : List Nat} {k c : Nat} (h6 : 6 ≤ k) (h : (cL B)[k]? = some c) : c = 10 ∨ (48 ≤ c ∧ c ≤ 57) := by
  unfold cL at h
  rw [List.getElem?_append_right (by simpa using h6)] at h
  exact tail_in h
theorem off3 {A B : List Nat} (h : A.length < B.length) {d : Nat} (hd : d = 3 ∨ d = 4 ∨ d = 5) : (A ++ cL A)[B.length + d]? ≠ (B ++ cL B)[B.length + d]? := by
  rw [List.getElem?_append_right (by omega), List.getElem?_append_right (by omega)]
  obtain ⟨k, hk⟩ : ∃ k, B.length = A.length + (k + 1) := ⟨B.length - A.length - 1, by omega⟩
  have e1 : B.length + d - A.length = k + 1 + d := by omega
  have e2 : B.length + d - B.length = d := by omega
  rw [e1, e2]
  intro e
  have hB : (cL B)[d]? = some (if d = 3 then 99 else if d = 4 then 107 else 32) := by
    rcases hd with rfl | rfl | rfl <;> rfl
  rw [hB] at e
  by_cases h6 : 6 ≤ k + 1 + d
  · have := cL_at h6 e
    rcases hd with rfl | rfl | rfl <;> simp at this
  · have hs : (d = 3 ∧ k = 0) ∨ (d = 3 ∧ k = 1) ∨ (d = 4 ∧ k = 0) := by omega
    rcases hs with ⟨rfl, rfl⟩ | ⟨rfl, rfl⟩ | ⟨rfl, rfl⟩
    · have : (cL A)[0 + 1 + 3]? = some 107 := rfl
      rw [this] at e; cases e
    · have : (cL A)[1 + 1 + 3]? = some 32 := rfl
      rw [this] at e; cases e
    · have : (cL A)[0 + 1 + 4]? = some 32 := rfl
      rw [this] at e; cases e
theorem same_len {A B : List Nat} {i j : Nat} (h : ∀ k, k ≠ i → k ≠ j → (A ++ cL A)[k]? = (B ++ cL B)[k]?) : A.length = B.length := by
  have key : ∀ {A B : List Nat}, (∀ k, k ≠ i → k ≠ j → (A ++ cL A)[k]? = (B ++ cL B)[k]?) → ¬ A.length < B.length := by
    intro A B h hlt
    have n3 := off3 hlt (d := 3) (by simp)
    have n4 := off3 hlt (d := 4) (by simp)
    have n5 := off3 hlt (d := 5) (by simp)
    have p3 : B.length + 3 = i ∨ B.length + 3 = j := by
      by_cases a : B.length + 3 = i; exact .inl a
      by_cases b : B.length + 3 = j; exact .inr b
      exact absurd (h _ a b) n3
    have p4 : B.length + 4 = i ∨ B.length + 4 = j := by
      by_cases a : B.length + 4 = i; exact .inl a
      by_cases b : B.length + 4 = j; exact .inr b
      exact absurd (h _ a b) n4
    have p5 : B.length + 5 = i ∨ B.length + 5 = j := by
      by_cases a : B.length + 5 = i; exact .inl a
      by_cases b : B.length + 5 = j; exact .inr b
      exact absurd (h _ a b) n5
    omega
  have a := key h
  have b := key fun k h1 h2 => (h k h1 h2).symm
  omega
theorem wsum_set : ∀ (l : List Nat) (k q : Nat) (x y : Nat), l[q]? = some y → ((wsum k (l.set q x) : Nat) : Int) = (wsum k l : Nat) + ((x : Int) - y) * ((k : Int) + q + 1)
  | [], k, q, x, y, h => by simp at h
  | c :: l, k, 0, x, y, h => by
    simp at h
    subst h
    rw [List.set_cons_zero]
    unfold wsum
    push_cast
    rw [Int.sub_mul]
    simp
    omega
  | c :: l, k, q + 1, x, y, h => by
    rw [List.getElem?_cons_succ] at h
    rw [List.set_cons_succ]
    have ih := wsum_set l (k + 1) q x y h
    unfold wsum
    push_cast at ih ⊢
    rw [ih]
    have : (k : Int) + 1 + (q : Int) + 1 = (k : Int) + ((q : Int) + 1) + 1 := by omega
    rw [this]
    omega
theorem cop : ∀ d, d < 127 → d ≠ 0 → Nat.gcd 99991 d = 1 := by decide
theorem no_div {d m : Int} (hd : d ≠ 0) (h1 : -127 < d) (h2 : d < 127) (hm : 0 < m) (hm2 : m < 99991) : ¬ (99991 : Int) ∣ d * m := by
  intro h
  have h' := Int.natAbs_dvd_natAbs.mpr h
  rw [Int.natAbs_mul] at h'
  have hc : Nat.Coprime 99991 d.natAbs := cop d.natAbs (by omega) (by omega)
  have := hc.dvd_of_dvd_mul_left h'
  have := Nat.le_of_dvd (by omega) this
  have e : (99991 : Int).natAbs = 99991 := rfl
  omega
theorem numL_inj {a b : Nat} (h : numL a = numL b) : a = b := by
  have := congrArg NumText.digitsVal h
  rwa [TL.numL_val, TL.numL_val] at this
theorem cL_inj {A B : List Nat} (h : cL A = cL B) : chk A = chk B := by
  unfold cL at h
  exact numL_inj (List.append_cancel_right (List.append_cancel_left h))
theorem chk_div {A B : List Nat} (h : chk A = chk B) : (99991 : Int) ∣ ((wsum 0 A : Nat) : Int) - (wsum 0 B : Nat) := by
  unfold chk at h
  omega
theorem not_changed {B B' : List Nat} {p x y : Nat} (hB : B.length < 99990) (hp : (B ++ cL B)[p]? = some y) (hxy : x ≠ y) (hx : x < 127) (hy : y < 127) (h : B' ++ cL B' = (B ++ cL B).set p x) : False := by
  have hl : B'.length = B.length := same_len (i := p) (j := p) fun k h1 _ => by rw [h, List.getElem?_set_ne (by omega)]
  rw [List.set_append] at h
  split at h
  · rename_i hlt
    obtain ⟨e1, e2⟩ := List.append_inj h (by rw [List.length_set]; exact hl)
    have hd := chk_div (cL_inj e2)
    rw [List.getElem?_append_left hlt] at hp
    rw [e1, wsum_set B 0 p x y hp] at hd
    have e : ((wsum 0 B : Nat) : Int) + ((x : Int) - y) * (((0 : Nat) : Int) + p + 1) - (wsum 0 B : Nat) = ((x : Int) - y) * ((p : Int) + 1) := by
      have : ((0 : Nat) : Int) + (p : Int) + 1 = (p : Int) + 1 := by omega
      rw [this]; omega
    rw [e] at hd
    exact no_div (by omega) (by omega) (by omega) (by omega) (by omega) hd
  · rename_i hlt
    obtain ⟨e1, e2⟩ := List.append_inj h hl
    rw [e1] at e2
    rw [List.getElem?_append_right (by omega)] at hp
    have := congrArg (fun l => l[p - B.length]?) e2
    rw [hp, List.getElem?_set_self (List.getElem?_eq_some_iff.mp hp).1] at this
    simp at this
    exact hxy this.symm
theorem dv_app (x : List Nat) : ∀ (n : Nat) (y : List Nat), y.length = n → NumText.digitsVal (x ++ y) = NumText.digitsVal x * 10 ^ n + NumText.digitsVal y
  | 0, y, h => by rw [List.length_eq_zero_iff.mp h]; simp [NumText.digitsVal]
  | n + 1, y, h => by
    have hne : y ≠ [] := by intro e; rw [e] at h; cases h
    have e := List.dropLast_concat_getLast hne
    generalize y.dropLast = ini at e
    generalize y.getLast hne = c at e
    subst e
    have ih := dv_app x n ini (by simp at h; exact h)
    rw [← List.append_assoc, NumText.digitsVal_snoc, NumText.digitsVal_snoc, ih, Nat.pow_succ, Nat.add_mul, Nat.mul_assoc]
    omega
theorem dv_set {N : List Nat} {m a b : Nat} (h : N[m]? = some b) (ha : 48 ≤ a) (hb : 48 ≤ b) : ((NumText.digitsVal (N.set m a) : Nat) : Int) - (NumText.digitsVal N : Nat) = ((a : Int) - b) * (10 ^ (N.length - 1 - m) : Nat) := by
  obtain ⟨hlt, hget⟩ := List.getElem?_eq_some_iff.mp h
  have e1 : N = N.take m ++ ([b] ++ N.drop (m + 1)) := by
    conv => lhs; rw [← List.take_append_drop m N, List.drop_eq_getElem_cons hlt, hget]
    rfl
  have e2 : N.set m a = N.take m ++ ([a] ++ N.drop (m + 1)) := by
    rw [List.set_eq_take_append_cons_drop, if_pos hlt]
    rfl
  have hl : (N.drop (m + 1)).length = N.length - 1 - m := by rw [List.length_drop]; omega
  have one : ∀ c, NumText.digitsVal [c] = c - 48 := fun c => by show 0 * 10 + (c - 48) = _; omega
  conv => lhs; rw [e2]; enter [2]; rw [e1]
  rw [dv_app _ (N.length - 1 - m + 1) ([a] ++ N.drop (m + 1)) (by simp only [List.length_append, List.length_singleton, hl]; omega), dv_app _ (N.length - 1 - m + 1) ([b] ++ N.drop (m + 1)) (by simp only [List.length_append, List.length_singleton, hl]; omega), dv_app [a] _ _ hl, dv_app [b] _ _ hl, one, one]
  generalize 10 ^ (N.length - 1 - m + 1) = P
  generalize 10 ^ (N.length - 1 - m) = W
  obtain ⟨a', rfl⟩ : ∃ a', a = a' + 48 := ⟨a - 48, by omega⟩
  obtain ⟨b', rfl⟩ : ∃ b', b = b' + 48 := ⟨b - 48, by omega⟩
  rw [Nat.add_sub_cancel, Nat.add_sub_cancel]
  have : ((a' + 48 : Nat) : Int) - ((b' + 48 : Nat) : Int) = (a' : Int) - b' := by omega
  rw [this, Int.sub_mul]
  push_cast
  omega
theorem not_exchanged {B B' : List Nat} {i j a b : Nat} (hB : B.length < 80000) (hij : i < j) (hi : (B ++ cL B)[i]? = some a) (hj : (B ++ cL B)[j]? = some b) (hab : a ≠ b) (ha : a < 127) (hb : b < 127) (h : B' ++ cL B' = ((B ++ cL B).set i b).set j a) : False := by
  have hl : B'.length = B.length := same_len (i := i) (j := j) fun k h1 h2 => by rw [h, List.getElem?_set_ne (by omega), List.getElem?_set_ne (by omega)]
  by_cases hjn : j < B.length
  · rw [List.set_append_left _ _ (by omega), List.set_append_left _ _ (by rw [List.length_set]; exact hjn)] at h
    obtain ⟨e1, e2⟩ := List.append_inj h (by rw [List.length_set, List.length_set]; exact hl)
    have hd := chk_div (cL_inj e2)
    rw [List.getElem?_append_left (by omega)] at hi hj
    rw [e1, wsum_set _ 0 j a b (by rw [List.getElem?_set_ne (by omega)]; exact hj), wsum_set B 0 i b a hi] at hd
    have e : ((wsum 0 B : Nat) : Int) + ((b : Int) - a) * (((0 : Nat) : Int) + i + 1) + ((a : Int) - b) * (((0 : Nat) : Int) + j + 1) - (wsum 0 B : Nat) = ((a : Int) - b) * ((j : Int) - i) := by
      have e0 : (b : Int) - a = -((a : Int) - b) := by omega
      rw [e0]
      generalize (a : Int) - b = D
      have e3 : ((0 : Nat) : Int) + (i : Int) + 1 = (i : Int) + 1 := by omega
      have e4 : ((0 : Nat) : Int) + (j : Int) + 1 = (j : Int) + 1 := by omega
      rw [e3, e4, Int.neg_mul, Int.mul_sub, Int.mul_add, Int.mul_add]
      omega
    rw [e] at hd
    exact no_div (by omega) (by omega) (by omega) (by omega) (by omega) hd
  · by_cases hin : i < B.length
    · rw [List.set_append_left _ _ hin, List.set_append_right _ _ (by rw [List.length_set]; omega), List.length_set] at h
      obtain ⟨e1, e2⟩ := List.append_inj h (by rw [List.length_set]; exact hl)
      rw [List.getElem?_append_left hin] at hi
      rw [List.getElem?_append_right (by omega)] at hj
      generalize j - B.length = q at hj e2
      have hq := (List.getElem?_eq_some_iff.mp hj).1
      have hq' : (cL B')[q]? = some a := by rw [e2, List.getElem?_set_self hq]
      by_cases h6 : q < 6
      · have : (cL B')[q]? = (cL B)[q]? := by
          unfold cL
          rw [List.getElem?_append_left (by simpa using h6), List.getElem?_append_left (by simpa using h6)]
        rw [hq', hj] at this
        exact hab (Option.some.inj this)
      · unfold cL at e2 hq' hj
        rw [List.set_append_right _ _ (by simp; omega)] at e2
        have e3 := List.append_cancel_left e2
        rw [List.getElem?_append_right (by simp; omega)] at hj hq'
        simp only [List.length_cons, List.length_nil] at e3 hj hq'
        generalize q - (0 + 1 + 1 + 1 + 1 + 1 + 1) = m at e3 hj hq'
        have hln : (numL (chk B')).length = (numL (chk B)).length := by
          have := congrArg List.length e3
          simp at this
          exact this
        have hm := (List.getElem?_eq_some_iff.mp hj).1
        by_cases hmn : m < (numL (chk B)).length
        · rw [List.set_append_left _ _ hmn] at e3
          have e4 := List.append_cancel_right e3
          rw [List.getElem?_append_left hmn] at hj
          rw [List.getElem?_append_left (by omega)] at hq'
          have da := numL_in (List.mem_of_getElem? hq')
          have db := numL_in (List.mem_of_getElem? hj)
          have hv := dv_set hj da.1 db.1
          rw [← e4, TL.numL_val, TL.numL_val] at hv
          have hlen : (numL (chk B)).length ≤ 5 := TL.numL_len (by decide) (by have := chk_lt B; omega)
          have hpow : 10 ^ ((numL (chk B)).length - 1 - m) ≤ 10 ^ 4 := Nat.pow_le_pow_right (by decide) (by omega)
          have hpos : 0 < 10 ^ ((numL (chk B)).length - 1 - m) := Nat.pow_pos (by decide)
          generalize 10 ^ ((numL (chk B)).length - 1 - m) = P at hv hpow hpos
          have hw := wsum_set B 0 i b a hi
          rw [← e1] at hw
          have hdv : (99991 : Int) ∣ (((wsum 0 B' : Nat) : Int) - chk B') - ((wsum 0 B : Nat) - chk B) := by
            unfold chk
            omega
          have e : (((wsum 0 B' : Nat) : Int) - chk B') - ((wsum 0 B : Nat) - chk B) = ((b : Int) - a) * ((i : Int) + 1 + P) := by
            have e0 : (a : Int) - b = -((b : Int) - a) := by omega
            rw [e0, Int.neg_mul] at hv
            have e5 : ((0 : Nat) : Int) + (i : Int) + 1 = (i : Int) + 1 := by omega
            rw [e5] at hw
            rw [Int.mul_add]
            omega
          rw [e] at hdv
          exact no_div (by omega) (by omega) (by omega) (by omega) (by omega) hdv
        · have hm' : m = (numL (chk B)).length := by simp at hm; omega
          rw [List.getElem?_append_right (by omega), show m - (numL (chk B)).length = 0 by omega] at hj
          rw [List.getElem?_append_right (by omega), show m - (numL (chk B')).length = 0 by omega] at hq'
          simp at hj hq'
          omega
    · rw [List.set_append_right _ _ (by omega), List.set_append_right _ _ (by omega)] at h
      obtain ⟨e1, e2⟩ := List.append_inj h hl
      rw [e1] at e2
      rw [List.getElem?_append_right (by omega)] at hi hj
      have h1 := (List.getElem?_eq_some_iff.mp hi).1
      have := congrArg (fun l => l[i - B.length]?) e2
      rw [hi, List.getElem?_set_ne (by omega), List.getElem?_set_self h1] at this
      simp at this
      exact hab this
end CM
namespace CM
open PySem L2 PySem.Spec DL
open PyProof.Rows hiding St
open TL (tl pre spl par numL joinL)
theorem tl_lockTx (l : List Trp) : tl (lockTx l) = tl (bodyT l) ++ cL (tl (bodyT l)) := by
  unfold lockTx lineS cL
  rw [TL.tl_append, TL.tl_append, tl_chkT, List.append_assoc]
  rfl
theorem tl_snoc (V : List Str) (L : List Nat) (h : L = tl (linesT V)) : tl (linesT (V ++ [chkT L])) = L ++ cL L := by
  rw [linesT_app, linesT_one, TL.tl_append, ← h]
  unfold lineS cL
  rw [TL.tl_append, tl_chkT, List.append_assoc]
  rfl
theorem lines_in {c : Nat} : ∀ {W : List Str}, c ∈ tl (linesT W) → c = 10 ∨ ∃ w ∈ W, c ∈ tl w
  | [], h => by rw [tl_lines_nil] at h; cases h
  | w :: W, h => by
    rw [tl_lines_cons] at h
    rcases List.mem_append.mp h with h | h
    · exact .inr ⟨w, List.mem_cons_self, h⟩
    rcases List.mem_cons.mp h with h | h
    · exact .inl h
    · rcases lines_in h with h | ⟨v, hv, hc⟩
      · exact .inl h
      · exact .inr ⟨v, List.mem_cons_of_mem _ hv, hc⟩
theorem lock_in {l : List Trp} (hv : ∀ t ∈ l, TrpV t) {c : Nat} (h : c ∈ tl (lockTx l)) : c < 127 := by
  rw [lockTx_lines] at h
  rcases lines_in h with h | ⟨w, hw, hc⟩
  · omega
  · rcases List.mem_append.mp hw with hw | hw
    · obtain ⟨t, ht, rfl⟩ := List.mem_map.mp hw
      have := trpT_in (hv t ht) hc
      omega
    · rw [List.mem_singleton.mp hw, tl_chkT] at hc
      rcases List.mem_append.mp hc with hc | hc
      · simp at hc; omega
      · have := numL_in hc; omega
theorem count_j32 {ps : List (List Nat)} (h : ∀ p ∈ ps, 32 ∉ p) : (joinL [32] ps).count 32 ≤ ps.length := by
  induction ps with
  | nil => simp [joinL]
  | cons p ps ih =>
    have hp : p.count 32 = 0 := List.count_eq_zero.mpr (h p List.mem_cons_self)
    have := ih fun q hq => h q (List.mem_cons_of_mem _ hq)
    cases ps with
    | nil => simp [joinL, hp]
    | cons q qs =>
      rw [joinL_cons (by simp)]
      simp only [List.count_append, List.length_cons] at this ⊢
      have e : List.count 32 [32] = 1 := rfl
      omega
theorem count_trpT {t : Trp} (h : TrpV t) : (tl (trpT t)).count 32 ≤ 2 + t.2.2.length := by
  have h32 : ∀ s : Str, nameS s = true → 32 ∉ tl s := fun s hs hc => by have := name_in hs 32 hc; omega
  rw [tl_trpT, List.count_append, List.count_eq_zero.mpr (h32 _ h.1), List.count_cons]
  have := count_j32 (ps := vL t.2.1 :: t.2.2.map tl) fun p hp => by
    rcases List.mem_cons.mp hp with rfl | hp
    · exact fun hc => by have := vL_in hc; omega
    · obtain ⟨s, hs, rfl⟩ := List.mem_map.mp hp
      exact h32 s (namesF_names h.2.2 s hs)
  simp only [List.length_cons, List.length_map] at this
  rw [if_pos (by decide)]
  omega
theorem count_lines {k : Nat} : ∀ {W : List Str}, (∀ w ∈ W, (tl w).count 32 ≤ k) → (tl (linesT W)).count 32 ≤ W.length * k
  | [], _ => by rw [tl_lines_nil]; simp
  | w :: W, h => by
    have ih := count_lines fun z hz => h z (List.mem_cons_of_mem _ hz)
    have := h w List.mem_cons_self
    rw [tl_lines_cons, List.count_append, List.count_cons, List.length_cons, Nat.succ_mul, if_neg (by decide)]
    omega
theorem count_chkT (L : List Nat) : (tl (chkT L)).count 32 = 1 := by
  rw [tl_chkT, List.count_append, show (numL (chk L)).count 32 = 0 from List.count_eq_zero.mpr fun h => by have := numL_in h; omega]
  rfl
structure LkV (l : List Trp) : Prop where
  v : ∀ t ∈ l, TrpV t
  u : up (l.map nmT)
  len : (lockTx l).length ≤ 9800
  pos : 8 ≤ (lockTx l).length
  cnt : (tl (lockTx l)).count 32 ≤ 700
theorem lkV {l : List Trp} (h : InstF 9 l) : LkV l := by
  have hV : ∀ t ∈ l, TrpV t := fun t ht => (h.2.1 t ht).1
  have hb := linesT_len (W := l.map trpT) (k := 158) (m := 61) (by rw [List.length_map]; exact h.1) fun w hw => by
    obtain ⟨t, ht, rfl⟩ := List.mem_map.mp hw
    have := trpT_len (hV t ht) (h.2.1 t ht).2
    omega
  have hbl : (bodyT l).length ≤ 61 * 159 := hb
  have hL : (lockTx l).length = (bodyT l).length + (7 + (numL (chk (tl (bodyT l)))).length) := by
    rw [TL.len_tl, tl_lockTx, List.length_append, cL_len, ← TL.len_tl]
  have hn := num7 (n := chk (tl (bodyT l))) (by have := chk_lt (tl (bodyT l)); omega)
  have hne := List.length_pos_iff.mpr (TL.numL_ne (chk (tl (bodyT l))))
  refine ⟨hV, h.2.2, by omega, by omega, ?_⟩
  rw [lockTx_lines]
  have := count_lines (k := 11) (W := lockL l) fun w hw => by
    rcases List.mem_append.mp hw with hw | hw
    · obtain ⟨t, ht, rfl⟩ := List.mem_map.mp hw
      have := count_trpT (hV t ht)
      have := (h.2.1 t ht).2
      omega
    · rw [List.mem_singleton.mp hw, count_chkT]
      decide
  have e : (lockL l).length = l.length + 1 := by unfold lockL; simp
  rw [e] at this
  have := h.1
  have := Nat.mul_le_mul_right 11 (show l.length + 1 ≤ 62 by omega)
  omega
structure HrmV (s : Str) : Prop where
  k : HarmK s
  len : s.length ≤ 100000
  cnt : (tl s).count 32 ≤ 3900
theorem hrm_changed {l : List Trp} (h : LkV l) {s : Str} {p x y : Nat} (hp : (tl (lockTx l))[p]? = some y) (hxy : x ≠ y) (hx : x < 127) (e : tl s = (tl (lockTx l)).take p ++ x :: (tl (lockTx l)).drop (p + 1)) : HrmV s := by
  have hlt := (List.getElem?_eq_some_iff.mp hp).1
  have hs : tl s = (tl (lockTx l)).set p x := by rw [e, List.set_eq_take_append_cons_drop, if_pos hlt]
  have hl := h.len
  have hc := h.cnt
  have hy := lock_in h.v (List.mem_of_getElem? hp)
  refine ⟨harm_of fun V hV he hf => ?_, ?_, ?_⟩
  · have hB : (tl (bodyT l)).length ≤ (lockTx l).length := by
      rw [TL.len_tl (lockTx l), tl_lockTx, List.length_append]
      omega
    rw [he, tl_snoc V _ rfl, tl_lockTx] at hs
    rw [tl_lockTx] at hp
    exact not_changed (by omega) hp hxy hx hy hs
  · rw [TL.len_tl, hs, List.length_set, ← TL.len_tl]
    omega
  · rw [e, List.count_append, List.count_cons]
    have h1 := (List.take_sublist p (tl (lockTx l))).count_le 32
    have h2 := (List.drop_sublist (p + 1) (tl (lockTx l))).count_le 32
    split <;> omega
theorem set_two {T : List Nat} {i j a b : Nat} (hij : i < j) (hlt : j < T.length) : T.take i ++ b :: ((T.drop (i + 1)).take (j - (i + 1)) ++ a :: T.drop (j + 1)) = (T.set i b).set j a := by
  refine List.ext_getElem? fun k => ?_
  have hti : (T.take i).length = i := by rw [List.length_take]; omega
  have htj : ((T.drop (i + 1)).take (j - (i + 1))).length = j - (i + 1) := by rw [List.length_take, List.length_drop]; omega
  by_cases hki : k < i
  · rw [List.getElem?_append_left (by omega), List.getElem?_take, if_pos hki, List.getElem?_set_ne (by omega), List.getElem?_set_ne (by omega)]
  · rw [List.getElem?_append_right (by omega), hti]
    by_cases hk : k = i
    · subst hk
      rw [Nat.sub_self, List.getElem?_cons_zero, List.getElem?_set_ne (by omega), List.getElem?_set_self (by omega)]
    · rw [show k - i = (k - i - 1) + 1 by omega, List.getElem?_cons_succ]
      by_cases hkj : k < j
      · rw [List.getElem?_append_left (by omega), List.getElem?_take, if_pos (by omega), List.getElem?_drop, List.getElem?_set_ne (by omega), List.getElem?_set_ne (by omega)]
        congr 1
        omega
      · rw [List.getElem?_append_right (by omega), htj]
        by_cases hk2 : k = j
        · subst hk2
          rw [show k - i - 1 - (k - (i + 1)) = 0 by omega, List.getElem?_cons_zero, List.getElem?_set_self (by rw [List.length_set]; exact hlt)]
        · rw [show k - i - 1 - (j - (i + 1)) = (k - j - 1) + 1 by omega, List.getElem?_cons_succ, List.getElem?_drop, List.getElem?_set_ne (by omega), List.getElem?_set_ne (by omega)]
          congr 1
          omega
theorem hrm_exchanged {l : List Trp} (h : LkV l) {s : Str} {i j a b : Nat} (hij : i < j) (hi : (tl (lockTx l))[i]? = some a) (hj : (tl (lockTx l))[j]? = some b) (hab : a ≠ b)
    (e : tl s = (tl (lockTx l)).take i ++ b :: (((tl (lockTx l)).drop (i + 1)).take (j - (i + 1)) ++ a :: (tl (lockTx l)).drop (j + 1))) : HrmV s := by
  have hlt := (List.getElem?_eq_some_iff.mp hj).1
  have hs : tl s = ((tl (lockTx l)).set i b).set j a := by rw [e, set_two hij hlt]
  have hl := h.len
  have hc := h.cnt
  refine ⟨harm_of fun V hV he hf => ?_, ?_, ?_⟩
  · have hB : (tl (bodyT l)).length ≤ (lockTx l).length := by
      rw [TL.len_tl (lockTx l), tl_lockTx, List.length_append]
      omega
    have ha := lock_in h.v (List.mem_of_getElem? hi)
    have hb := lock_in h.v (List.mem_of_getElem? hj)
    rw [he, tl_snoc V _ rfl, tl_lockTx] at hs
    rw [tl_lockTx] at hi hj
    exact not_exchanged (by omega) hij hi hj hab ha hb hs
  · rw [TL.len_tl, hs, List.length_set, List.length_set, ← TL.len_tl]
    omega
  · rw [e, List.count_append, List.count_cons, List.count_append, List.count_cons]
    have h1 := (List.take_sublist i (tl (lockTx l))).count_le 32
    have h2 := (List.drop_sublist (j + 1) (tl (lockTx l))).count_le 32
    have h3 := ((List.take_sublist (j - (i + 1)) ((tl (lockTx l)).drop (i + 1))).trans (List.drop_sublist (i + 1) (tl (lockTx l)))).count_le 32
    split <;> split <;> omega
theorem hrm_pre {l : List Trp} (h : LkV l) {s : Str} {k : Nat} (hk : k < (lockTx l).length) (e : tl s = (tl (lockTx l)).take k) : HrmV s := by
  have hl := h.len
  have hc := h.cnt
  have hlen := TL.len_tl (lockTx l)
  refine ⟨harm_pre h.v (r := (tl (lockTx l)).drop k) (fun z => by have := congrArg List.length z; rw [List.length_drop] at this; simp only [List.length_nil] at this; omega) (by rw [e, List.take_append_drop]), ?_, ?_⟩
  · rw [TL.len_tl, e, List.length_take]
    omega
  · rw [e]
    have h1 := (List.take_sublist k (tl (lockTx l))).count_le 32
    omega
theorem hrm_app {l : List Trp} (h : LkV l) {s w : Str} (hw : w ≠ "") (hw1 : w.length ≤ 9800) (hw2 : (tl w).count 32 ≤ 700) (e : s = lockTx l ++ w) : HrmV s := by
  have hl := h.len
  have hc := h.cnt
  subst e
  refine ⟨harm_app h.v h.u (r := tl w) (fun z => hw (TL.ext_tl z)) (by rw [TL.tl_append]), ?_, ?_⟩
  · rw [app_len]; omega
  · rw [TL.tl_append, List.count_append]; omega
end CM
namespace CM
open PySem L2 PySem.Spec DL
open PyProof.Rows hiding St
open TL (tl pre spl par numL joinL)
section
variable {ρ : Env'} {st : Sto} {Q : DK} {Z : DZ}
theorem addS_ev {ta tb : DTE} {x y : Str} (ha : ∀ (QE : DK) Z, QE (.str x) st → ta ρ st QE Z) (hb : ∀ (QE : DK) Z, QE (.str y) st → tb ρ st QE Z) (hl : x.length + y.length ≤ sizeLine) (q : Q (.str (x ++ y)) st) : dOp dAdd ta tb ρ st Q Z := by
  rw [s_op]
  refine ha _ _ ?_
  refine hb _ _ ?_
  rw [s_add_str]
  exact ⟨hl, q⟩
theorem strI_ev {te : DTE} {m : Nat} (he : ∀ (QE : DK) Z, QE (.int (m : Nat)) st → te ρ st QE Z) (hm : m ≤ 1000001) (q : Q (.str (toString ((m : Nat) : Int))) st) : dCB dStrI (dCons te dNil) ρ st Q Z := by
  rw [s_cb, s_cons]
  refine he _ _ ?_
  rw [s_nil, s_strI]
  exact ⟨log_small hm, q⟩
theorem vix0 {i n : Nat} (h : ρ[i]? = some (some (encV n))) (q : Q (.int (vA n)) st) : dOp dIx (dVar i) (dC (.int 0)) ρ st Q Z := by
  rw [s_op]
  refine var_ev h ?_
  rw [s_c]
  exact ⟨_, atI_0, q⟩
theorem vix1 {i n : Nat} (h : ρ[i]? = some (some (encV n))) (q : Q (.int (vB n)) st) : dOp dIx (dVar i) (dC (.int 1)) ρ st Q Z := by
  rw [s_op]
  refine var_ev h ?_
  rw [s_c]
  exact ⟨_, rfl, q⟩
theorem vix2 {i n : Nat} (h : ρ[i]? = some (some (encV n))) (q : Q (.int (vC n)) st) : dOp dIx (dVar i) (dC (.int 2)) ρ st Q Z := by
  rw [s_op]
  refine var_ev h ?_
  rw [s_c]
  exact ⟨_, rfl, q⟩
end
theorem str_num_len {m : Nat} (h : m ≤ 1000001) : ((toString ((m : Nat) : Int)) : Str).length ≤ 7 := by
  rw [TL.len_tl, TL.tl_num]
  exact num7 h
theorem dot1 : (".": Str).length = 1 ∧ ("\n" : Str).length = 1 ∧ ("" : Str).length = 0 ∧ ("check " : Str).length = 6 := by decide
/-- the beginning of a line: name and version -/
theorem head_eq (s : Str) (n : Nat) : ((((((s ++ " ") ++ (toString ((vA n : Nat) : Int) : Str)) ++ ".") ++ (toString ((vB n : Nat) : Int) : Str)) ++ ".") ++ (toString ((vC n : Nat) : Int) : Str)) = placeT (s, n) := by
  refine TL.ext_tl ?_
  rw [tl_placeT]
  simp only [TL.tl_append, TL.tl_num, tl_dot, tls2.2.2.1, vL, List.append_assoc, List.cons_append, List.nil_append]
def spS (f : Str) : Str := (" " : Str) ++ f
theorem feats_eq (p : Str) (fs : List Str) : p ++ Txt.join "" (fs.map spS) = Txt.join " " (p :: fs) := by
  refine TL.ext_tl ?_
  rw [TL.tl_append, TL.join_eq, TL.join_eq, TL.tl_join, TL.tl_join, tls2.2.2.1]
  have e0 : tl ("" : Str) = [] := rfl
  rw [e0]
  have key : ∀ (fs : List Str) (p : List Nat), p ++ joinL [] ((fs.map spS).map tl) = joinL [32] (p :: fs.map tl) := by
    intro fs
    induction fs with
    | nil => intro p; simp [joinL]
    | cons f r ih =>
      intro p
      rw [List.map_cons, List.map_cons, List.map_cons, joinL_cons (p := p) (by simp), ← ih (tl f)]
      have e : tl (spS f) = 32 :: tl f := by unfold spS; rw [TL.tl_append, tls2.2.2.1]; rfl
      cases hh : (r.map spS).map tl with
      | nil => simp [joinL, e]
      | cons q qs => rw [joinL_cons (by simp), e]; simp
  rw [key fs (tl p), List.map_cons]
theorem runC_sp {ρ : Env'} {Q : DK} {st : Sto} (h5 : 5 < ρ.length) : ∀ (fs : List Str) (acc : List D), (∀ s ∈ fs, s.length ≤ 1000) → acc.length + fs.length < 1000 →
    Q (.loc st.length) (st ++ [.lst (acc ++ (fs.map spS).map .str)]) → runC (gN 5) dYes RD.e__law_line_1 ρ Q (fun _ => True) (fs.map .str) acc st
  | [], acc, _, _, q => ⟨trivial, by simpa using q⟩
  | f :: fs, acc, hf, hl, q => by
    rw [List.map_cons, runC_cons]
    refine ⟨trivial, ?_⟩
    have ih := runC_sp (Q := Q) (st := st) h5 fs
    generalize hR : runC (gN 5) dYes RD.e__law_line_1 ρ Q (fun _ => True) (fs.map .str) = R at ih ⊢
    rw [s_gN, s_yes, if_pos rfl]
    simp only [List.length_cons] at hl
    have h1 := hf f List.mem_cons_self
    unfold RD.e__law_line_1
    refine addS_ev (x := " ") (y := f) (fun QE Z qe => qe) (fun QE Z qe => var_ev (by rw [List.getElem?_set_self h5]) qe) (by rw [k1.1]; exact sz_big (by omega)) ?_
    exact ⟨sizeLine_big (by omega), ih _ (fun z hz => hf z (List.mem_cons_of_mem _ hz)) (by simp; omega) (by simpa [spS] using q)⟩
def sp_lline : DSp := fun ds st Q _ => match ds with
  | [d] => ∃ t : Trp, d = encT t ∧ TrpV t ∧ t.2.2.length ≤ 60 ∧ Q (.str (lineS (trpT t))) st
  | _ => False
theorem r__law_line : Rd 1 sp_lline RD.t__law_line RD.N__law_line := by
  intro ds st Q Z hl h
  match ds, hl, h with
  | [d], _, ⟨t, hd, hv, hf, q⟩ =>
    subst hd
    obtain ⟨nm, v, fs⟩ := t
    have hn := name12 hv.1
    have ha : vA v ≤ 1000000 := hv.2.1
    have hb := vB_le v
    have hc := vC_le v
    have la := str_num_len (m := vA v) (by omega)
    have lb := str_num_len (m := vB v) (by omega)
    have lc := str_num_len (m := vC v) (by omega)
    have hp := placeT_len (k := (nm, v)) hv.1 hv.2.1
    have hT := trpT_len hv hf
    have hfs : ∀ s ∈ fs, nameS s = true := namesF_names hv.2.2
    dsimp only at hf hn
    unfold RD.t__law_line
    rw [s_seq, s_asg, s_var]
    show gTup' 3 _ (.tup [.str nm, encV v, encL fs]) _ _ _
    rw [s_gTup]
    refine ⟨rfl, ?_⟩
    rw [s_gCons, s_gN, s_gCons, s_gN, s_gCons, s_gN, s_gNil]
    dsimp only
    show dSeq _ _ _ [some (encT (nm, v, fs)), some (.str nm), some (encV v), some (encL fs), none, none] st
    rw [s_seq, s_asg]
    have p1 := dot1.1
    refine addS_ev (x := ((((nm ++ " ") ++ (toString ((vA v : Nat) : Int) : Str)) ++ ".") ++ (toString ((vB v : Nat) : Int) : Str)) ++ ".") (y := toString ((vC v : Nat) : Int)) (fun QE Z qe => ?_) (fun QE Z qe => strI_ev (fun QE Z qe => vix2 rfl qe) (by omega) qe) (by simp only [app_len, p1, k1.1]; exact sz_big (by omega)) ?_
    · refine addS_ev (x := (((nm ++ " ") ++ (toString ((vA v : Nat) : Int) : Str)) ++ ".") ++ (toString ((vB v : Nat) : Int) : Str)) (y := ".") (fun QE Z qe => ?_) (fun QE Z qe => qe) (by simp only [app_len, p1, k1.1]; exact sz_big (by omega)) qe
      refine addS_ev (x := ((nm ++ " ") ++ (toString ((vA v : Nat) : Int) : Str)) ++ ".") (y := toString ((vB v : Nat) : Int)) (fun QE Z qe => ?_) (fun QE Z qe => strI_ev (fun QE Z qe => vix1 rfl qe) (by omega) qe) (by simp only [app_len, p1, k1.1]; exact sz_big (by omega)) qe
      refine addS_ev (x := (nm ++ " ") ++ (toString ((vA v : Nat) : Int) : Str)) (y := ".") (fun QE Z qe => ?_) (fun QE Z qe => qe) (by simp only [app_len, p1, k1.1]; exact sz_big (by omega)) qe
      refine addS_ev (x := nm ++ " ") (y := toString ((vA v : Nat) : Int)) (fun QE Z qe => ?_) (fun QE Z qe => strI_ev (fun QE Z qe => vix0 rfl qe) (by omega) qe) (by simp only [app_len, p1, k1.1]; exact sz_big (by omega)) qe
      exact addS_ev (x := nm) (y := " ") (fun QE Z qe => var_ev rfl qe) (fun QE Z qe => qe) (by simp only [k1.1]; exact sz_big (by omega)) qe
    rw [head_eq, s_gN]
    dsimp only
    show dRet _ _ [some (encT (nm, v, fs)), some (.str nm), some (encV v), some (encL fs), some (.str (placeT (nm, v))), none] st
    rw [s_ret, s_op, s_op, s_var]
    show dBM _ _ _ _ _ _ _ _
    rw [s_bm, s_c]
    refine ⟨rfl, ?_⟩
    rw [s_cons, s_lc, s_iD, s_var]
    show walkD st (.tup (fs.map .str)) _
    rw [s_walk_tup]
    refine runC_sp (by simp) fs [] (fun s hs => by have := name12 (hfs s hs); omega) (by simp; omega) ?_
    rw [List.nil_append, s_nil, s_join]
    have hj : ((fs.map spS).map fun x : Str => x.length).sum ≤ 13 * 60 := by
      have := sum_le (fun x : Str => x.length) 13 (fs.map spS) fun x hx => by
        obtain ⟨s, hs, rfl⟩ := List.mem_map.mp hx
        have := name12 (hfs s hs)
        unfold spS
        rw [app_len, k1.1]
        omega
      rw [List.length_map] at this
      omega
    refine ⟨fs.map spS, by simp only [s_items_loc, getElem?_push], ?_, ?_⟩
    · rw [dot1.2.2.1]
      have e : ((fs.map spS).map fun x : Str => x.length).sum = ((fs.map spS).map (·.length)).sum := rfl
      omega
    · rw [s_add_str, feats_eq]
      have e : Txt.join " " (placeT (nm, v) :: fs) = trpT (nm, v, fs) := rfl
      have hlen : (placeT (nm, v)).length + (Txt.join "" (fs.map spS)).length = (trpT (nm, v, fs)).length := by rw [← e, ← feats_eq, app_len]
      refine ⟨by rw [hlen]; exact sz_big (by omega), ?_⟩
      rw [s_c, s_add_str, e, dot1.2.1]
      refine ⟨sz_big (by omega), ?_⟩
      exact back_tup ⟨_, rfl⟩ rfl q
def sp_ltext : DSp := fun ds st Q _ => match ds with
  | [d] => ∃ l : List Trp, d = encI l ∧ InstS l ∧ Q (.str (lockTx l)) st
  | _ => False
theorem r__law_text : Rd 1 sp_ltext (RD.t__law_text sp_lcheck sp_lline) RD.N__law_text := by
  intro ds st Q Z hl h
  match ds, hl, h with
  | [d], _, ⟨l, hd, hv, q⟩ =>
    subst hd
    have hb := bodyT_len hv
    have hck := chkT_len (tl (bodyT l))
    unfold RD.t__law_text
    rw [s_seq, s_asg, s_bm, s_c]
    refine ⟨rfl, ?_⟩
    rw [s_cons, s_lc, s_iD, s_var]
    show walkD st (.tup (l.map encT)) _
    rw [s_walk_tup]
    refine runC_encT (out := fun t => lineS (trpT t)) trivial (fun w QT hw h60 qt => ?_) l [] hv.2 (by rw [List.length_nil]; have := hv.1; omega) ?_
    · unfold RD.e__law_text_1
      rw [s_call, s_cons]
      refine var_ev (d := encT w) (by simp) ?_
      rw [s_nil]
      exact ⟨rfl, w, rfl, hw, h60, qt⟩
    · rw [List.nil_append, s_nil, s_join]
      have e0 : l.map (fun t => lineS (trpT t)) = (l.map trpT).map lineS := by rw [List.map_map]; rfl
      rw [e0]
      refine ⟨(l.map trpT).map lineS, by simp only [s_items_loc, getElem?_push], ?_, ?_⟩
      · refine lines_sum (by rw [List.length_map]; have := hv.1; omega) fun w hw => ?_
        obtain ⟨t, ht, rfl⟩ := List.mem_map.mp hw
        have := trpT_len (hv.2 t ht).1 (hv.2 t ht).2
        omega
      · rw [s_gN]
        generalize hst : st ++ [Ob.lst (((l.map trpT).map lineS).map D.str)] = st1
        have hp : Pre st st1 := ⟨_, hst.symm⟩
        try dsimp only
        show dRet _ _ [some (encI l), some (.str (bodyT l)), none] st1
        have hn := str_num_len (m := chk (tl (bodyT l))) (by have := chk_lt (tl (bodyT l)); omega)
        have q1 := dot1.2.2.2
        rw [s_ret]
        refine addS_ev (x := (bodyT l ++ "check ") ++ (toString ((chk (tl (bodyT l)) : Nat) : Int) : Str)) (y := "\n") (fun QE Z qe => ?_) (fun QE Z qe => qe) (by simp only [app_len, q1, dot1.2.1]; exact sz_big (by omega)) ?_
        · refine addS_ev (x := bodyT l ++ "check ") (y := toString ((chk (tl (bodyT l)) : Nat) : Int)) (fun QE Z qe => ?_) (fun QE Z qe => strI_ev (fun QE Z qe => ?_) (by have := chk_lt (tl (bodyT l)); omega) qe) (by simp only [app_len, q1]; exact sz_big (by omega)) qe
          · exact addS_ev (x := bodyT l) (y := "check ") (fun QE Z qe => var_ev rfl qe) (fun QE Z qe => qe) (by simp only [q1]; exact sz_big (by omega)) qe
          · rw [s_call, s_cons]
            refine var_ev (d := .str (bodyT l)) rfl ?_
            rw [s_nil]
            exact ⟨rfl, by omega, qe⟩
        · have e : ((bodyT l ++ "check ") ++ (toString ((chk (tl (bodyT l)) : Nat) : Int) : Str)) ++ ("\n" : Str) = lockTx l := by
            refine TL.ext_tl ?_
            unfold lockTx lineS chkT
            simp only [TL.tl_append, List.append_assoc]
          rw [e]
          exact back_tup hp rfl q
end CM
namespace CM
open PySem L2 PySem.Spec DL
open PyProof.Rows hiding St
open TL (tl pre spl par numL joinL)
def InstV (l : List Trp) : Prop := InstS l ∧ up (l.map nmT)
theorem InstF.v {k : Nat} (hk : k ≤ 60) {l : List Trp} (h : InstF k l) : InstV l := ⟨⟨by have := h.1; omega, fun t ht => ⟨(h.2.1 t ht).1, by have := (h.2.1 t ht).2; omega⟩⟩, h.2.2⟩
theorem pu_encT {t : Trp} (h : TrpV t) : pu (encT t) = true := by
  simp [encT, pu, pus, strOk_name h.1, pu_encV, encL, pus_strs (namesF_names h.2.2)]
theorem dp_encT (t : Trp) : dp (encT t) ≤ 2 := by
  simp [encT, dp, dps, dp_encV, encL, dps_strs]
theorem pus_encT : ∀ {l : List Trp}, (∀ t ∈ l, TrpV t) → pus (l.map encT) = true
  | [], _ => rfl
  | t :: l, h => by simp [pus, pu_encT (h t List.mem_cons_self), pus_encT fun z hz => h z (List.mem_cons_of_mem _ hz)]
theorem dps_encT : ∀ l : List Trp, dps (l.map encT) ≤ 2
  | [] => by simp [dps]
  | t :: l => by
    have h1 := dp_encT t
    have h2 := dps_encT l
    simp only [List.map_cons, dps]
    omega
theorem pu_encI {l : List Trp} (h : ∀ t ∈ l, TrpV t) : pu (encI l) = true := by
  unfold encI pu
  exact pus_encT h
theorem dp_encI (l : List Trp) : dp (encI l) ≤ 3 := by
  have := dps_encT l
  simp only [encI, dp]
  omega
end CM
namespace CM
open PySem L2 PySem.Spec DL
open PyProof.Rows hiding St
open TL (tl pre spl par numL joinL)
/-- a comprehension with a test, whose turns leave the store be -/
theorem runC_filterK {te : DTE} {tt : DTT} {ρ : Env'} {Q : DK} {G : Sto → Prop} {i : Nat} {α : Type} {inj : α → D} {p : α → Bool} {st : Sto} (hG : G st)
    (ht : ∀ x (QT : Bool → Sto → Prop), QT (p x) st → tt (ρ.set i (some (inj x))) st QT Z0) (he : ∀ x (QT : DK), QT (inj x) st → te (ρ.set i (some (inj x))) st QT Z0) : ∀ (xs : List α) (acc : List D), acc.length + xs.length < 1048576 →
    Q (.loc st.length) (st ++ [.lst (acc ++ (xs.filter p).map inj)]) → runC (gN i) tt te ρ Q G (xs.map inj) acc st
  | [], acc, _, q => by
    rw [List.map_nil, runC_nil]
    exact ⟨hG, by simpa using q⟩
  | x :: xs, acc, hl, q => by
    rw [List.map_cons, runC_cons]
    refine ⟨hG, ?_⟩
    simp only [List.length_cons] at hl
    simp only [s_gN]
    refine ht x _ ?_
    cases hp : p x with
    | true =>
      rw [if_pos rfl]
      refine he x _ ⟨sizeLine_big (by omega), ?_⟩
      exact runC_filterK hG ht he xs (acc ++ [inj x]) (by simp; omega) (by simpa [hp] using q)
    | false =>
      rw [if_neg (by decide)]
      exact runC_filterK hG ht he xs acc (by omega) (by simpa [hp] using q)
end CM
namespace CM
open PySem L2 PySem.Spec DL
open PyProof.Rows hiding St
open TL (tl pre spl par numL joinL)
def sp_lchanged : DSp := fun ds st Q _ => match ds with
  | [.loc h, .str t] => ∃ c l, HdK st h c ∧ t = lockTx l ∧ InstF 9 l ∧ ∀ s st', HrmV s → HdK st' h c → Sm h st st' → Q (.str s) st'
  | _ => False
/-- one sign of a text -/
theorem sign_ev {i j : Nat} {t : Str} {n x : Nat} {ρ : Env'} {st : Sto} {Q : DK} {Z : DZ} (hi : ρ[i]? = some (some (.str t))) (hj : ρ[j]? = some (some (.int (n : Int)))) (ht : t.length ≤ 100000) (hx : (tl t)[n]? = some x) (q : Q (sg x) st) : dOp dIx (dVar i) (dVar j) ρ st Q Z := by
  rw [s_op]
  refine var_ev hi ?_
  refine var_ev hj ?_
  rw [s_ix_str]
  exact ⟨x, sz_big (by omega), atI_nat hx, q⟩
theorem ne_sg {x y : Nat} {st : Sto} {Q : DK} (q : Q (.bl (!decide (x = y))) st) : dEqB not (sg x) (sg y) st Q := by
  show dEqB not (.str ⟨#[x]⟩) (.str ⟨#[y]⟩) st Q
  rw [s_eq_str]
  have : decide ((⟨#[x]⟩ : Str) = ⟨#[y]⟩) = decide (x = y) := decide_eq_decide.mpr ⟨fun h => by injection h with h; simpa using h, fun h => by rw [h]⟩
  rw [this]
  exact q
def okNear (n : Str) : Prop := n.length ≤ 200 ∧ (∀ c ∈ tl n, c < 127) ∧ ∃ a b r, tl n = a :: b :: r ∧ a ≠ b
theorem near_ok {n : Str} (h : ((tl n).all fun c => decide (c < 127)) = true) (hl : n.length ≤ 200) {a b : Nat} {r : List Nat} (e : tl n = a :: b :: r) (hab : a ≠ b) : okNear n :=
  ⟨hl, fun c hc => by simpa using List.all_eq_true.mp h c hc, a, b, r, e, hab⟩
theorem nears : ∀ e ∈ ([.str " !\"#$&'()*+,-./0123456789:;<=>?@ABCDEFGHIJKLMNOPQRSTUVWXYZ[\\]^_`abcdefghijklmnopqrstuvwxyz{|}~\n", .str " !\"#$&'()*+,-./0123456789:;<=>?@ABCDEFGHIJKLMNOPQRSTUVWXYZ[\\]^_`abcdefghijklmnopqrstuvwxyz{|}~\n", .str "0123456789", .str "abcdefghijklmnopqrstuvwxyz", .str " \n."] : List D), ∃ s, e = .str s ∧ okNear s := by
  intro e he
  simp only [List.mem_cons, List.not_mem_nil, or_false] at he
  rcases he with rfl | rfl | rfl | rfl | rfl
  · exact ⟨_, rfl, near_ok (by decide) (by decide) rfl (by decide)⟩
  · exact ⟨_, rfl, near_ok (by decide) (by decide) rfl (by decide)⟩
  · exact ⟨_, rfl, near_ok (by decide) (by decide) rfl (by decide)⟩
  · exact ⟨_, rfl, near_ok (by decide) (by decide) rfl (by decide)⟩
  · exact ⟨_, rfl, near_ok (by decide) (by decide) rfl (by decide)⟩
theorem r__law_changed : Rd 2 sp_lchanged (RD.t__law_changed sp_drawK sp_anyK) RD.N__law_changed := by
  intro ds st Q Z hl h
  match ds, hl, h with
  | [.loc h, .str t], _, ⟨c, l, H, ht, hI, q⟩ =>
    have hk := lkV hI
    have hlen := hk.len
    have hpos := hk.pos
    rw [← ht] at hlen hpos
    have fin : ∀ s st', HrmV s → GrK h c st st' → DL.Back st Q (.str s) st' := fun s st' hs g => back_handK g rfl fun st1 H1 s1 => q s st1 hs H1 s1
    unfold RD.t__law_changed
    show dSeq _ _ _ [some (.loc h), some (.str t), none, none, none, none, none] st
    rw [s_seq, s_asg, s_c, s_gN]
    try dsimp only
    generalize hS : (" !\"#$&'()*+,-./0123456789:;<=>?@ABCDEFGHIJKLMNOPQRSTUVWXYZ[\\]^_`abcdefghijklmnopqrstuvwxyz{|}~\n" : Str) = S
    show dSeq _ _ _ [some (.loc h), some (.str t), some (.str S), none, none, none, none] st
    rw [s_seq, s_asg, s_call, s_cons, s_var]
    show dCons _ _ _ _ _ _
    rw [s_cons, s_cb, s_cons, s_var]
    show dNil _ _ _ _
    rw [s_nil, s_len_str]
    refine ⟨sz_big (by omega), ?_⟩
    rw [s_nil, e_drawK]
    refine ⟨rfl, c, H, by omega, by omega, fun r st1 r0 r1 H1 s1 => ?_⟩
    have g1 := GrK.of H H1 s1
    obtain ⟨p, rfl⟩ : ∃ p : Nat, r = p := ⟨r.toNat, by omega⟩
    have hpl : p < (tl t).length := by rw [← TL.len_tl]; omega
    obtain ⟨y, hy⟩ : ∃ y, (tl t)[p]? = some y := ⟨_, List.getElem?_eq_getElem hpl⟩
    try dsimp only
    rw [s_gN]
    try dsimp only
    show dSeq _ _ _ [some (.loc h), some (.str t), some (.str S), some (.int (p : Int)), none, none, none] st1
    rw [s_seq, s_asg]
    refine any_ev (es := [.str S, .str S, .str "0123456789", .str "abcdefghijklmnopqrstuvwxyz", .str " \n."]) rfl H1 (fun QA Z qa => ?_) (by simp) (by simp) fun e st2 he g2' => ?_
    · rw [s_cons]
      refine var_ev rfl ?_
      rw [s_cons]
      refine var_ev rfl ?_
      rw [s_cons, s_c, s_cons, s_c, s_cons, s_c, s_nil]
      exact qa
    rw [← hS] at he
    obtain ⟨n, rfl, hn1, hn2, n1, n2, nr, hn3, hn4⟩ := nears e he
    have g2 := g1.trans g2'
    rw [s_gN]
    try dsimp only
    show dSeq _ _ _ [some (.loc h), some (.str t), some (.str S), some (.int (p : Int)), some (.str n), none, none] st2
    rw [s_seq, s_asg, s_lc, s_iD]
    refine var_ev (d := .str n) rfl ?_
    rw [s_walk_str, show strItems n = (tl n).map sg from rfl]
    refine runC_filterK (inj := sg) (p := fun x => !decide (x = y)) trivial (fun x QT hq => ?_) (fun x QT hq => var_ev rfl hq) (tl n) [] (by rw [List.length_nil, ← TL.len_tl]; omega) ?_
    · unfold RD.i__law_changed_1
      rw [s_test, s_op]
      refine var_ev (d := sg x) rfl ?_
      refine sign_ev (t := t) (n := p) (x := y) rfl rfl (by omega) hy ?_
      exact ne_sg hq
    · rw [List.nil_append, s_gN]
      have hF : ∀ x ∈ (tl n).filter (fun x => !decide (x = y)), x < 127 ∧ x ≠ y := fun x hx => by
        have := List.mem_filter.mp hx
        exact ⟨hn2 x this.1, by simpa using this.2⟩
      have hne : 0 < ((tl n).filter (fun x => !decide (x = y))).length := by
        refine List.length_pos_iff.mpr fun z => ?_
        rw [List.filter_eq_nil_iff] at z
        have z1 := z n1 (by rw [hn3]; simp)
        have z2 := z n2 (by rw [hn3]; simp)
        simp at z1 z2
        omega
      have hFl : ((tl n).filter (fun x => !decide (x = y))).length ≤ 200 := by
        have := List.length_filter_le (fun x => !decide (x = y)) (tl n)
        rw [← TL.len_tl] at this
        omega
      generalize (tl n).filter (fun x => !decide (x = y)) = F at hF hne hFl
      have g3 := g2.app [Ob.lst (F.map sg)]
      have h3 : (st2 ++ [Ob.lst (F.map sg)])[st2.length]? = some (.lst (F.map sg)) := getElem?_push
      have hlt := g2.hd.hlt
      generalize hst3 : st2 ++ [Ob.lst (F.map sg)] = st3 at g3 h3 ⊢
      try dsimp only
      show dRet _ _ [some (.loc h), some (.str t), some (.str S), some (.int (p : Int)), some (.str n), some (.loc st2.length), none] st3
      rw [s_ret, s_op, s_op, s_sl]
      refine var_ev (d := .str t) rfl ?_
      rw [s_noPart, s_part]
      refine var_ev (d := .int (p : Int)) rfl ?_
      show dSlV _ _ _ _ _
      rw [s_slv_str]
      refine ⟨sz_big (by omega), ?_⟩
      rw [s_call, s_cons]
      refine var_ev (d := .loc h) rfl ?_
      rw [s_cons]
      refine var_ev (d := .loc st2.length) rfl ?_
      rw [s_nil, e_anyL]
      refine ⟨rfl, c, F.map sg, g3.hd, h3, by omega, by simp; omega, by simp; omega, fun e st4 he H4 s4 => ?_⟩
      obtain ⟨x, hx, rfl⟩ := List.mem_map.mp he
      have g4 := g3.sm s4 H4
      have hcl := cut_le t none (some (p : Int))
      show dAdd (.str _) (.str ⟨#[x]⟩) _ _
      have h1 : (⟨#[x]⟩ : Str).length = 1 := rfl
      rw [s_add_str]
      refine ⟨sz_big (by omega), ?_⟩
      rw [s_sl]
      refine var_ev (d := .str t) rfl ?_
      rw [s_part, s_op]
      refine var_ev (d := .int (p : Int)) rfl ?_
      rw [s_c, s_add_int]
      show dNoPart _ _ _ _
      rw [s_noPart, s_slv_str]
      refine ⟨sz_big (by omega), ?_⟩
      have hcr := cut_le t (some ((p : Int) + 1)) none
      rw [s_add_str, app_len]
      refine ⟨sz_big (by omega), ?_⟩
      refine fin _ st4 (hrm_changed hk (p := p) (x := x) (y := y) (by rw [← ht]; exact hy) (hF x hx).2 (hF x hx).1 ?_) g4
      rw [← ht, TL.tl_append, TL.tl_append, tl_cutlo, show (p : Int) + 1 = ((p + 1 : Nat) : Int) from by omega, tl_cut, List.append_assoc]
      rfl
end CM
namespace CM
open PySem L2 PySem.Spec DL
open PyProof.Rows hiding St
open TL (tl pre spl par numL joinL)
theorem upFrom_map : ∀ (n j : Nat), upFrom j n = (List.range' j n).map (fun k : Nat => D.int (k : Int))
  | 0, j => rfl
  | n + 1, j => by
    rw [show upFrom j (n + 1) = .int (j : Nat) :: upFrom (j + 1) n from rfl, upFrom_map n (j + 1), List.range'_succ, List.map_cons]
theorem runC_filterM {te : DTE} {tt : DTT} {ρ : Env'} {Q : DK} {G : Sto → Prop} {i : Nat} {α : Type} {inj : α → D} {p : α → Bool} {st : Sto} (hG : G st)
    (he : ∀ x (QT : DK), QT (inj x) st → te (ρ.set i (some (inj x))) st QT Z0) : ∀ (xs : List α) (acc : List D), (∀ x ∈ xs, ∀ (QT : Bool → Sto → Prop), QT (p x) st → tt (ρ.set i (some (inj x))) st QT Z0) → acc.length + xs.length < 1048576 →
    Q (.loc st.length) (st ++ [.lst (acc ++ (xs.filter p).map inj)]) → runC (gN i) tt te ρ Q G (xs.map inj) acc st
  | [], acc, _, _, q => by
    rw [List.map_nil, runC_nil]
    exact ⟨hG, by simpa using q⟩
  | x :: xs, acc, ht, hl, q => by
    rw [List.map_cons, runC_cons]
    refine ⟨hG, ?_⟩
    simp only [List.length_cons] at hl
    simp only [s_gN]
    refine ht x List.mem_cons_self _ ?_
    have ht' : ∀ z ∈ xs, ∀ (QT : Bool → Sto → Prop), QT (p z) st → tt (ρ.set i (some (inj z))) st QT Z0 := fun z hz => ht z (List.mem_cons_of_mem _ hz)
    cases hp : p x with
    | true =>
      rw [if_pos rfl]
      refine he x _ ⟨sizeLine_big (by omega), ?_⟩
      exact runC_filterM hG he xs (acc ++ [inj x]) ht' (by simp; omega) (by simpa [hp] using q)
    | false =>
      rw [if_neg (by decide)]
      exact runC_filterM hG he xs acc ht' (by omega) (by simpa [hp] using q)
def sp_lexchanged : DSp := fun ds st Q _ => match ds with
  | [.loc h, .str t] => ∃ c l, HdK st h c ∧ t = lockTx l ∧ InstF 9 l ∧ ∀ s st', HrmV s → HdK st' h c → Sm h st st' → Q (.str s) st'
  | _ => False
def intN (k : Nat) : D := .int (k : Int)
theorem two_signs (B : List Nat) (y : Nat) : ∃ k x : Nat, (B ++ cL B)[k]? = some x ∧ x ≠ y := by
  by_cases h : y = 99
  · exact ⟨B.length + 1, 104, by rw [List.getElem?_append_right (by omega), show B.length + 1 - B.length = 1 by omega]; rfl, by omega⟩
  · exact ⟨B.length, 99, by rw [List.getElem?_append_right (by omega), show B.length - B.length = 0 by omega]; rfl, by omega⟩
theorem exch_out {t : Str} {i j a b : Nat} {ρ : Env'} {st : Sto} {Q : DK} {Z : DZ} (hlen : t.length ≤ 9800) (hij : i < j) (hjl : j < t.length) (hi : (tl t)[i]? = some a) (hj : (tl t)[j]? = some b)
    (r1 : ρ[1]? = some (some (.str t))) (r7 : ρ[7]? = some (some (.int (i : Int)))) (r8 : ρ[8]? = some (some (.int (j : Int))))
    (q : ∀ s : Str, tl s = (tl t).take i ++ b :: (((tl t).drop (i + 1)).take (j - (i + 1)) ++ a :: (tl t).drop (j + 1)) → Q (.str s) st) :
    (dOp dAdd (dOp dAdd (dOp dAdd (dOp dAdd (dSl (dVar 1) dNoPart (dPart (dVar 7))) (dOp dIx (dVar 1) (dVar 8))) (dSl (dVar 1) (dPart (dOp dAdd (dVar 7) (dC (.int 1)))) (dPart (dVar 8)))) (dOp dIx (dVar 1) (dVar 7))) (dSl (dVar 1) (dPart (dOp dAdd (dVar 8) (dC (.int 1)))) dNoPart)) ρ st Q Z := by
  have c1 := cut_le t none (some (i : Int))
  have c2 := cut_le t (some ((i + 1 : Nat) : Int)) (some (j : Int))
  have c3 := cut_le t (some ((j + 1 : Nat) : Int)) none
  obtain ⟨U, hU⟩ : ∃ U : Str, U = ⟨#[a]⟩ := ⟨_, rfl⟩
  obtain ⟨V, hV⟩ : ∃ V : Str, V = ⟨#[b]⟩ := ⟨_, rfl⟩
  have hUl : U.length = 1 := by rw [hU]; rfl
  have hVl : V.length = 1 := by rw [hV]; rfl
  have hUs : sg a = .str U := by rw [hU]; rfl
  have hVs : sg b = .str V := by rw [hV]; rfl
  have hUt : tl U = [a] := by rw [hU]
  have hVt : tl V = [b] := by rw [hV]
  clear hU hV
  generalize hA : cutS t none (some (i : Int)) = A at c1
  generalize hM : cutS t (some ((i + 1 : Nat) : Int)) (some (j : Int)) = M at c2
  generalize hC : cutS t (some ((j + 1 : Nat) : Int)) none = C at c3
  have z1 : A.length + V.length ≤ sizeLine := sz_big (by omega)
  have z2 : (A ++ V).length + M.length ≤ sizeLine := by rw [app_len]; exact sz_big (by omega)
  have z3 : ((A ++ V) ++ M).length + U.length ≤ sizeLine := by rw [app_len, app_len]; exact sz_big (by omega)
  have z4 : (((A ++ V) ++ M) ++ U).length + C.length ≤ sizeLine := by rw [app_len, app_len, app_len]; exact sz_big (by omega)
  rw [s_op]
  refine addS_evK (x := (A ++ V) ++ M) (y := U) (fun QE Z qe => ?_) (fun QE Z qe => sign_ev (t := t) (n := i) (x := a) r1 r7 (by omega) hi (by rw [hUs]; exact qe)) z3 ?_
  · refine addS_evK (x := A ++ V) (y := M) (fun QE Z qe => ?_) (fun QE Z qe => ?_) z2 qe
    · refine addS_evK (x := A) (y := V) (fun QE Z qe => ?_) (fun QE Z qe => sign_ev (t := t) (n := j) (x := b) r1 r8 (by omega) hj (by rw [hVs]; exact qe)) z1 qe
      rw [s_sl]
      refine var_ev (d := .str t) r1 ?_
      rw [s_noPart, s_part]
      refine var_ev (d := .int (i : Int)) r7 ?_
      show dSlV _ _ _ _ _
      rw [s_slv_str, hA]
      exact ⟨sz_big (by omega), qe⟩
    · rw [s_sl]
      refine var_ev (d := .str t) r1 ?_
      rw [s_part, s_op]
      refine var_ev (d := .int (i : Int)) r7 ?_
      rw [s_c, s_add_int]
      show dPart _ _ _ _ _
      rw [s_part]
      refine var_ev (d := .int (j : Int)) r8 ?_
      show dSlV _ _ _ _ _
      rw [s_slv_str]
      refine ⟨sz_big (by omega), ?_⟩
      rw [show (i : Int) + 1 = ((i + 1 : Nat) : Int) from by omega, hM]
      exact qe
  · rw [s_sl]
    refine var_ev (d := .str t) r1 ?_
    rw [s_part, s_op]
    refine var_ev (d := .int (j : Int)) r8 ?_
    rw [s_c, s_add_int]
    show dNoPart _ _ _ _
    rw [s_noPart, s_slv_str]
    refine ⟨sz_big (by omega), ?_⟩
    rw [show (j : Int) + 1 = ((j + 1 : Nat) : Int) from by omega, hC, s_add_str]
    refine ⟨z4, ?_⟩
    refine q _ ?_
    rw [TL.tl_append, TL.tl_append, TL.tl_append, TL.tl_append, ← hA, ← hM, ← hC, tl_cutlo, tl_cut2 t (i + 1) j (by omega) (by omega), tl_cut]
    rw [hUt, hVt]
    simp only [List.append_assoc, List.singleton_append, List.cons_append, List.nil_append]
theorem r__law_exchanged : Rd 2 sp_lexchanged (RD.t__law_exchanged sp_drawK sp_anyK) RD.N__law_exchanged := by
  intro ds st Q Z hl h
  match ds, hl, h with
  | [.loc h, .str t], _, ⟨c, l, H, ht, hI, q⟩ =>
    have hk := lkV hI
    have hlen := hk.len
    have hpos := hk.pos
    rw [← ht] at hlen hpos
    have htl := TL.len_tl t
    have fin : ∀ s st', HrmV s → GrK h c st st' → DL.Back st Q (.str s) st' := fun s st' hs g => back_handK g rfl fun st1 H1 s1 => q s st1 hs H1 s1
    unfold RD.t__law_exchanged
    show dSeq _ _ _ [some (.loc h), some (.str t), none, none, none, none, none, none, none] st
    rw [s_seq, s_asg, s_call, s_cons, s_var]
    show dCons _ _ _ _ _ _
    rw [s_cons, s_cb, s_cons, s_var]
    show dNil _ _ _ _
    rw [s_nil, s_len_str]
    refine ⟨sz_big (by omega), ?_⟩
    rw [s_nil, e_drawK]
    refine ⟨rfl, c, H, by omega, by omega, fun r st1 r0 r1 H1 s1 => ?_⟩
    have g1 := GrK.of H H1 s1
    obtain ⟨p, rfl⟩ : ∃ p : Nat, r = p := ⟨r.toNat, by omega⟩
    have hpl : p < (tl t).length := by omega
    obtain ⟨y, hy⟩ : ∃ y, (tl t)[p]? = some y := ⟨_, List.getElem?_eq_getElem hpl⟩
    try dsimp only
    rw [s_gN]
    try dsimp only
    show dSeq _ _ _ [some (.loc h), some (.str t), some (.int (p : Int)), none, none, none, none, none, none] st1
    rw [s_seq, s_asg, s_lc, s_iR1, s_cons, s_cb, s_cons]
    refine var_ev (d := .str t) rfl ?_
    rw [s_nil, s_len_str]
    refine ⟨sz_big (by omega), ?_⟩
    rw [s_nil]
    refine ⟨by omega, by omega, ?_⟩
    rw [Int.toNat_natCast, rngItems_up, upFrom_map, ← List.range_eq_range']
    refine runC_filterM (inj := intN) (p := fun k => !decide ((tl t)[k]? = some y)) trivial (fun x QT hq => var_ev rfl hq) (List.range t.length) [] (fun k hk QT hq => ?_) (by simp; omega) ?_
    · unfold RD.i__law_exchanged_1
      have hkl := List.mem_range.mp hk
      obtain ⟨x, hx⟩ : ∃ x, (tl t)[k]? = some x := ⟨_, List.getElem?_eq_getElem (by omega)⟩
      rw [s_test, s_op]
      refine sign_ev (t := t) (n := k) (x := x) rfl rfl (by omega) hx ?_
      refine sign_ev (t := t) (n := p) (x := y) rfl rfl (by omega) hy ?_
      refine ne_sg ?_
      rw [hx] at hq
      simpa using hq
    rw [List.nil_append, s_gN]
    have hF : ∀ k ∈ (List.range t.length).filter (fun k => !decide ((tl t)[k]? = some y)), k < t.length ∧ ∃ x, (tl t)[k]? = some x ∧ x ≠ y := fun k hk => by
      have hm := List.mem_filter.mp hk
      have hkl := List.mem_range.mp hm.1
      obtain ⟨x, hx⟩ : ∃ x, (tl t)[k]? = some x := ⟨_, List.getElem?_eq_getElem (by omega)⟩
      refine ⟨hkl, x, hx, fun e => ?_⟩
      have := hm.2
      rw [hx, e] at this
      simp at this
    have hne : 0 < ((List.range t.length).filter (fun k => !decide ((tl t)[k]? = some y))).length := by
      obtain ⟨k, x, hx, hxy⟩ := two_signs (tl (bodyT l)) y
      rw [← tl_lockTx, ← ht] at hx
      have hkl := (List.getElem?_eq_some_iff.mp hx).1
      refine List.length_pos_iff.mpr fun z => ?_
      rw [List.filter_eq_nil_iff] at z
      have z1 := z k (List.mem_range.mpr (by omega))
      rw [hx] at z1
      simp at z1
      exact hxy z1
    have hFl : ((List.range t.length).filter (fun k => !decide ((tl t)[k]? = some y))).length ≤ 10000 := by
      have := List.length_filter_le (fun k => !decide ((tl t)[k]? = some y)) (List.range t.length)
      rw [List.length_range] at this
      omega
    generalize (List.range t.length).filter (fun k => !decide ((tl t)[k]? = some y)) = F at hF hne hFl
    have g2 := g1.app [Ob.lst (F.map intN)]
    have h2 : (st1 ++ [Ob.lst (F.map intN)])[st1.length]? = some (.lst (F.map intN)) := getElem?_push
    have hlt1 := g1.hd.hlt
    generalize st1 ++ [Ob.lst (F.map intN)] = st2 at g2 h2 ⊢
    try dsimp only
    show dSeq _ _ _ [some (.loc h), some (.str t), some (.int (p : Int)), some (.loc st1.length), none, none, none, none, none] st2
    rw [s_seq, s_asg, s_lc, s_iD]
    refine var_ev (d := .loc st1.length) rfl ?_
    rw [s_walk_loc]
    refine ⟨_, h2, ?_⟩
    refine runC_filterK (inj := intN) (p := fun k => decide ((k : Int) > (t.length : Int) - 8)) h2 (fun k QT hq => ?_) (fun x QT hq => var_ev rfl hq) F [] (by simp; omega) ?_
    · unfold RD.i__law_exchanged_3
      rw [s_test, s_op]
      refine var_ev (d := .int (k : Int)) rfl ?_
      rw [s_op, s_cb, s_cons]
      refine var_ev (d := .str t) rfl ?_
      rw [s_nil, s_len_str]
      refine ⟨sz_big (by omega), ?_⟩
      rw [s_c, s_sub]
      show dOrd _ _ (.int (k : Int)) (.int ((t.length : Int) - 8)) _ _
      rw [s_ord_int]
      try dsimp only
      exact hq
    rw [List.nil_append, s_gN]
    have hG : ∀ k ∈ F.filter (fun k : Nat => decide ((k : Int) > (t.length : Int) - 8)), k ∈ F := fun k hk => (List.mem_filter.mp hk).1
    have hGl : (F.filter (fun k : Nat => decide ((k : Int) > (t.length : Int) - 8))).length ≤ 10000 := by
      have := List.length_filter_le (fun k : Nat => decide ((k : Int) > (t.length : Int) - 8)) F
      omega
    generalize F.filter (fun k : Nat => decide ((k : Int) > (t.length : Int) - 8)) = G at hG hGl
    have g3 := g2.app [Ob.lst (G.map intN)]
    have h3 : (st2 ++ [Ob.lst (G.map intN)])[st2.length]? = some (.lst (G.map intN)) := getElem?_push
    have h32 : (st2 ++ [Ob.lst (G.map intN)])[st1.length]? = some (.lst (F.map intN)) := gb h2
    have hlt2 := g2.hd.hlt
    generalize st2 ++ [Ob.lst (G.map intN)] = st3 at g3 h3 h32 ⊢
    try dsimp only
    show dSeq _ _ _ [some (.loc h), some (.str t), some (.int (p : Int)), some (.loc st1.length), none, some (.loc st2.length), none, none, none] st3
    rw [s_seq]
    generalize hR : dSeq _ _ _ = R
    have go : ∀ (k : Nat) st6, k ∈ F → GrK h c st st6 → R [some (.loc h), some (.str t), some (.int (p : Int)), some (.loc st1.length), none, some (.loc st2.length), some (.int (k : Int)), none, none] st6 := by
      intro k st6 hkF g6
      subst hR
      obtain ⟨hkl, x, hx, hxy⟩ := hF k hkF
      have hkp : k ≠ p := by rintro rfl; rw [hy] at hx; exact hxy (Option.some.inj hx).symm
      obtain ⟨i, j, a, b, hij, hjl, hi, hj, hab, e1, e2⟩ : ∃ i j a b : Nat, i < j ∧ j < t.length ∧ (tl t)[i]? = some a ∧ (tl t)[j]? = some b ∧ a ≠ b ∧ (if (k : Int) < (p : Int) then (k : Int) else (p : Int)) = (i : Int) ∧ (if (p : Int) < (k : Int) then (k : Int) else (p : Int)) = (j : Int) := by
        by_cases hlt : k < p
        · exact ⟨k, p, x, y, hlt, by omega, hx, hy, hxy, by rw [if_pos (by omega)], by rw [if_neg (by omega)]⟩
        · exact ⟨p, k, y, x, by omega, hkl, hy, hx, fun e => hxy e.symm, by rw [if_neg (by omega)], by rw [if_pos (by omega)]⟩
      rw [s_seq, s_par, s_cons, s_cb, s_cons]
      refine var_ev (d := .int (p : Int)) rfl ?_
      rw [s_cons]
      refine var_ev (d := .int (k : Int)) rfl ?_
      rw [s_nil, s_min2, e1, s_cons, s_cb, s_cons]
      refine var_ev (d := .int (p : Int)) rfl ?_
      rw [s_cons]
      refine var_ev (d := .int (k : Int)) rfl ?_
      rw [s_nil, s_maxI, e2, s_nil]
      try dsimp only
      show dRet _ _ [some (.loc h), some (.str t), some (.int (p : Int)), some (.loc st1.length), none, some (.loc st2.length), some (.int (k : Int)), some (.int (i : Int)), some (.int (j : Int))] st6
      rw [s_ret]
      refine exch_out (t := t) (i := i) (j := j) (a := a) (b := b) hlen hij hjl hi hj rfl rfl rfl fun s hs => ?_
      refine fin _ st6 (hrm_exchanged hk (i := i) (j := j) (a := a) (b := b) hij (by rw [← ht]; exact hi) (by rw [← ht]; exact hj) hab ?_) g6
      rw [← ht]
      exact hs
    rw [s_asg, s_call, s_cons]
    refine var_ev (d := .loc h) rfl ?_
    rw [s_cons, s_if, s_and, s_test, s_op, s_cb, s_cons]
    refine var_ev (d := .loc st2.length) rfl ?_
    rw [s_nil, s_len_loc, h3]
    try dsimp only
    rw [s_c]
    show dOrd _ _ (.int ((G.map intN).length : Int)) (.int 0) _ _
    rw [s_ord_int, List.length_map]
    try dsimp only
    by_cases hG0 : 0 < G.length
    · rw [if_pos (by simpa using hG0), s_test, s_op, s_call, s_cons]
      refine var_ev (d := .loc h) rfl ?_
      rw [s_cons, s_c, s_nil, e_drawK]
      refine ⟨rfl, c, g3.hd, by decide, by decide, fun r st4 k0 k3 H4 s4 => ?_⟩
      have g4 := g3.sm s4 H4
      have h43 : st4[st2.length]? = some (.lst (G.map intN)) := by rw [s4.same _ (by omega)]; exact h3
      have h42 : st4[st1.length]? = some (.lst (F.map intN)) := by rw [s4.same _ (by omega)]; exact h32
      try dsimp only
      rw [s_c]
      show dEqB id (.int r) (.int 0) _ _
      rw [s_eq_int]
      try dsimp only [id]
      by_cases hr : r = 0
      · rw [if_pos (by simpa using hr)]
        refine var_ev (d := .loc st2.length) rfl ?_
        rw [s_nil, e_anyL]
        refine ⟨rfl, c, G.map intN, H4, h43, by omega, by simp; omega, by simp; omega, fun e st5 he H5 s5 => ?_⟩
        obtain ⟨k, hkG, rfl⟩ := List.mem_map.mp he
        try dsimp only
        rw [s_gN]
        exact go k st5 (hG k hkG) (g4.sm s5 H5)
      · rw [if_neg (by simpa using hr)]
        refine var_ev (d := .loc st1.length) rfl ?_
        rw [s_nil, e_anyL]
        refine ⟨rfl, c, F.map intN, H4, h42, by omega, by simp; omega, by simp; omega, fun e st5 he H5 s5 => ?_⟩
        obtain ⟨k, hkF, rfl⟩ := List.mem_map.mp he
        try dsimp only
        rw [s_gN]
        exact go k st5 hkF (g4.sm s5 H5)
    · rw [if_neg (by simpa using hG0), if_neg (by simp)]
      refine var_ev (d := .loc st1.length) rfl ?_
      rw [s_nil, e_anyL]
      refine ⟨rfl, c, F.map intN, g3.hd, h32, by omega, by simp; omega, by simp; omega, fun e st5 he H5 s5 => ?_⟩
      obtain ⟨k, hkF, rfl⟩ := List.mem_map.mp he
      try dsimp only
      rw [s_gN]
      exact go k st5 hkF (g3.sm s5 H5)
end CM
namespace CM
open PySem L2 PySem.Spec DL
open PyProof.Rows hiding St
open TL (tl pre spl par numL joinL)
def sp_lharmed : DSp := fun ds st Q _ => match ds with
  | [.loc h, .str t] => ∃ c l, HdK st h c ∧ t = lockTx l ∧ InstF 9 l ∧ ∀ s st', HrmV s → HdK st' h c → Sm h st st' → Q (.str s) st'
  | _ => False
theorem find_at (t y : Str) (hy : 0 < y.length) : (0 ≤ Txt.find t y ∧ Txt.find t y < (t.length : Int)) ∨ Txt.find t y = -1 := by
  unfold Txt.find
  split
  · rename_i i r e
    have := (StrLaws.occ_spec t y 0 t.length 1 i (by rw [e]; simp)).1
    left
    omega
  · exact .inr rfl
theorem pre_cut {t : Str} (ht : 0 < t.length) {k : Int} (hk : (0 ≤ k ∧ k < (t.length : Int)) ∨ k = -1) : ∃ n, n < t.length ∧ tl (cutS t none (some k)) = (tl t).take n := by
  rcases hk with ⟨h0, h1⟩ | rfl
  · obtain ⟨n, rfl⟩ : ∃ n : Nat, k = n := ⟨k.toNat, by omega⟩
    exact ⟨n, by omega, tl_cutlo t n⟩
  · refine ⟨t.length - 1, by omega, ?_⟩
    show ((tl t).drop (_root_.HT.sIx t.length 0 none)).take (_root_.HT.sIx t.length t.length (some (-1)) - _root_.HT.sIx t.length 0 none) = _
    have e1 : _root_.HT.sIx t.length 0 none = 0 := rfl
    have e2 : _root_.HT.sIx t.length t.length (some (-1)) = t.length - 1 := by
      show (if ((-1 : Int)) < 0 then ((-1 : Int) + (t.length : Int)).toNat else min (-1 : Int).toNat t.length) = _
      rw [if_pos (by omega)]
      omega
    rw [e1, e2, List.drop_zero, Nat.sub_zero]
theorem end_cut {t : Str} (ht : 8 ≤ t.length) : tl (cutS t (some (-8)) none) = (tl t).drop (t.length - 8) := by
  have hl := TL.len_tl t
  show ((tl t).drop (_root_.HT.sIx t.length 0 (some (-8)))).take (_root_.HT.sIx t.length t.length none - _root_.HT.sIx t.length 0 (some (-8))) = _
  have e1 : _root_.HT.sIx t.length t.length none = t.length := rfl
  have e2 : _root_.HT.sIx t.length 0 (some (-8)) = t.length - 8 := by
    show (if ((-8 : Int)) < 0 then ((-8 : Int) + (t.length : Int)).toNat else min (-8 : Int).toNat t.length) = _
    rw [if_pos (by omega)]
    omega
  rw [e1, e2, List.take_of_length_le (by rw [List.length_drop]; omega)]
theorem lits5 : ∀ e ∈ ([.str "\n", .str " ", .str "x", .str "check 0\n", .str "a 1.0.0\n"] : List D), ∃ s, e = .str s ∧ s ≠ "" ∧ s.length ≤ 9800 ∧ (tl s).count 32 ≤ 700 := by
  intro e he
  simp only [List.mem_cons, List.not_mem_nil, or_false] at he
  rcases he with rfl | rfl | rfl | rfl | rfl <;> exact ⟨_, rfl, by decide, by decide, by decide⟩
theorem r__law_harmed : Rd 2 sp_lharmed (RD.t__law_harmed sp_drawK sp_anyK sp_lchanged sp_lexchanged) RD.N__law_harmed := by
  intro ds st Q Z hl h
  match ds, hl, h with
  | [.loc h, .str t], _, ⟨c, l, H, ht, hI, q⟩ =>
    have hk := lkV hI
    have hlen := hk.len
    have hpos := hk.pos
    rw [← ht] at hlen hpos
    have htl := TL.len_tl t
    have fin : ∀ s st', HrmV s → GrK h c st st' → DL.Back st Q (.str s) st' := fun s st' hs g => back_handK g rfl fun st1 H1 s1 => q s st1 hs H1 s1
    unfold RD.t__law_harmed
    show dSeq _ _ _ [some (.loc h), some (.str t), none] st
    rw [s_seq, s_asg, s_call, s_cons, s_var]
    show dCons _ _ _ _ _ _
    rw [s_cons, s_c, s_nil, e_drawK]
    refine ⟨rfl, c, H, by decide, by decide, fun kd st1 r0 r1 H1 s1 => ?_⟩
    have g1 := GrK.of H H1 s1
    try dsimp only
    rw [s_gN]
    try dsimp only
    show dSeq _ _ _ [some (.loc h), some (.str t), some (.int kd)] st1
    rw [s_seq, s_ifS, s_test, s_op]
    refine var_ev (d := .int kd) rfl ?_
    rw [s_c]
    show dOrd _ _ (.int kd) (.int 3) _ _
    rw [s_ord_int]
    try dsimp only
    by_cases k3 : kd < 3
    · rw [if_pos (by simpa using k3), s_ret, s_call, s_cons]
      refine var_ev (d := .loc h) rfl ?_
      rw [s_cons]
      refine var_ev (d := .str t) rfl ?_
      rw [s_nil]
      exact ⟨rfl, c, l, H1, ht, hI, fun s st2 hs H2 s2 => fin s st2 hs (g1.sm s2 H2)⟩
    rw [if_neg (by simpa using k3), s_next]
    try dsimp only
    rw [s_seq, s_ifS, s_test, s_op]
    refine var_ev (d := .int kd) rfl ?_
    rw [s_c]
    show dOrd _ _ (.int kd) (.int 6) _ _
    rw [s_ord_int]
    try dsimp only
    by_cases k6 : kd < 6
    · rw [if_pos (by simpa using k6), s_ret, s_call, s_cons]
      refine var_ev (d := .loc h) rfl ?_
      rw [s_cons]
      refine var_ev (d := .str t) rfl ?_
      rw [s_nil]
      exact ⟨rfl, c, l, H1, ht, hI, fun s st2 hs H2 s2 => fin s st2 hs (g1.sm s2 H2)⟩
    rw [if_neg (by simpa using k6), s_next]
    try dsimp only
    rw [s_seq, s_ifS, s_test, s_op]
    refine var_ev (d := .int kd) rfl ?_
    rw [s_c]
    show dEqB id (.int kd) (.int 6) _ _
    rw [s_eq_int]
    try dsimp only [id]
    have hlt1 := g1.hd.hlt
    by_cases k66 : kd = 6
    · rw [if_pos (by simpa using k66), s_ret, s_sl]
      refine var_ev (d := .str t) rfl ?_
      rw [s_noPart, s_part, s_call, s_cons]
      refine var_ev (d := .loc h) rfl ?_
      rw [s_cons, s_dlst, s_cons, s_call, s_cons]
      refine var_ev (d := .loc h) rfl ?_
      rw [s_cons, s_cb, s_cons]
      refine var_ev (d := .str t) rfl ?_
      rw [s_nil, s_len_str]
      refine ⟨sz_big (by omega), ?_⟩
      rw [s_nil, e_drawK]
      refine ⟨rfl, c, g1.hd, by omega, by omega, fun r st2 p0 p1 H2 s2 => ?_⟩
      have g2 := g1.sm s2 H2
      have hlt2 := g2.hd.hlt
      try dsimp only
      rw [s_cons, s_op, s_cb, s_cons]
      refine var_ev (d := .str t) rfl ?_
      rw [s_nil, s_len_str]
      refine ⟨sz_big (by omega), ?_⟩
      rw [s_c, s_sub, s_cons, s_bm]
      refine var_ev (d := .str t) rfl ?_
      show tyD _ "str" (.str t) ∧ _
      refine ⟨rfl, ?_⟩
      rw [s_cons, s_c, s_nil, s_find, s_nil]
      refine ⟨szk _ (by simp), ?_⟩
      rw [s_nil, e_anyL]
      refine ⟨rfl, c, _, g2.hd.app _, getElem?_push, by omega, by simp, by simp, fun e st3 he H3 s3 => ?_⟩
      have g3 := (g2.app _).sm s3 H3
      have hf := find_at t "check " (by decide)
      obtain ⟨k, rfl, hkk⟩ : ∃ k : Int, e = .int k ∧ ((0 ≤ k ∧ k < (t.length : Int)) ∨ k = -1) := by
        simp only [List.mem_cons, List.not_mem_nil, or_false] at he
        rcases he with rfl | rfl | rfl
        · exact ⟨r, rfl, .inl ⟨p0, p1⟩⟩
        · exact ⟨_, rfl, .inl ⟨by omega, by omega⟩⟩
        · exact ⟨_, rfl, hf⟩
      obtain ⟨n, hn, he2⟩ := pre_cut (by omega) hkk
      show dSlV _ _ _ _ _
      rw [s_slv_str]
      refine ⟨sz_big (by omega), ?_⟩
      exact fin _ st3 (hrm_pre hk (k := n) (by rw [← ht]; exact hn) (by rw [← ht]; exact he2)) g3
    rw [if_neg (by simpa using k66), s_next]
    try dsimp only
    rw [s_ret, s_op]
    refine var_ev (d := .str t) rfl ?_
    have hec := end_cut hpos
    have hecl := cut_le t (some (-8)) none
    refine any_ev (es := [.str "\n", .str " ", .str "x", .str "check 0\n", .str "a 1.0.0\n", .str t, .str (cutS t (some (-8)) none)]) rfl H1 (fun QA Z qa => ?_) (by simp) (by simp) fun e st2 he g2' => ?_
    · rw [s_cons, s_c, s_cons, s_c, s_cons, s_c, s_cons, s_c, s_cons, s_c, s_cons]
      refine var_ev (d := .str t) rfl ?_
      rw [s_cons, s_sl]
      refine var_ev (d := .str t) rfl ?_
      rw [s_part, s_un, s_c, s_neg]
      show dNoPart _ _ _ _
      rw [s_noPart, s_slv_str]
      refine ⟨sz_big (by omega), ?_⟩
      rw [s_nil]
      exact qa
    have hcnt := hk.cnt
    rw [← ht] at hcnt
    obtain ⟨w, rfl, w1, w2, w3⟩ : ∃ s, e = .str s ∧ s ≠ "" ∧ s.length ≤ 9800 ∧ (tl s).count 32 ≤ 700 := by
      rw [show ([.str "\n", .str " ", .str "x", .str "check 0\n", .str "a 1.0.0\n", .str t, .str (cutS t (some (-8)) none)] : List D) = [.str "\n", .str " ", .str "x", .str "check 0\n", .str "a 1.0.0\n"] ++ [.str t, .str (cutS t (some (-8)) none)] from rfl] at he
      rcases List.mem_append.mp he with he | he
      · exact lits5 e he
      · simp only [List.mem_cons, List.not_mem_nil, or_false] at he
        rcases he with rfl | rfl
        · exact ⟨t, rfl, fun z => by rw [z] at hpos; exact absurd hpos (by decide), hlen, hcnt⟩
        · refine ⟨_, rfl, fun z => ?_, by omega, ?_⟩
          · rw [z] at hec
            have := congrArg List.length hec
            rw [List.length_drop, ← htl] at this
            have e0 : (tl ("" : Str)).length = 0 := rfl
            omega
          · rw [hec]
            have := (List.drop_sublist (t.length - 8) (tl t)).count_le 32
            omega
    show dAdd (.str t) (.str w) _ _
    rw [s_add_str]
    refine ⟨sz_big (by omega), ?_⟩
    exact fin _ st2 (hrm_app hk w1 w2 w3 (by rw [ht])) (g1.trans g2')
end CM
namespace CM
open PySem L2 PySem.Spec DL
open PyProof.Rows hiding St
open TL (tl pre spl par numL joinL)
section
variable [EC : ErrCtx]
theorem lt_ev {i : Nat} {l : List Trp} {ρ : Env'} {st : Sto} {Q : DK} {Z : DZ} (h : ρ[i]? = some (some (encI l))) (hv : InstS l) (q : Q (.str (lockTx l)) st) : dCall 1 sp_locktext (dCons (dVar i) dNil) ρ st Q Z := by
  rw [s_call, s_cons]
  refine var_ev h ?_
  rw [s_nil]
  exact ⟨rfl, l, rfl, hv, q⟩
end
end CM
namespace CM
open PySem L2 PySem.Spec DL
open PyProof.Rows hiding St
open TL (tl pre spl par numL joinL)
theorem pu_res {r : Sum Nat (List Trp)} (h : ∀ l, r = .inr l → ∀ t ∈ l, TrpV t) : pu (encRes r) = true := by
  cases r with
  | inl n =>
    show (PyData.strOk "refused" && (true && true)) = true
    have : PyData.strOk ("refused" : Str) = true := strOk_name (by rw [nameS_eq]; decide)
    rw [this]; rfl
  | inr l =>
    show (PyData.strOk "told" && (pu (encI l) && true)) = true
    have : PyData.strOk ("told" : Str) = true := strOk_name (by rw [nameS_eq]; decide)
    rw [this, pu_encI (h l rfl)]; rfl
theorem dp_res (r : Sum Nat (List Trp)) : dp (encRes r) ≤ 60 := by
  cases r with
  | inl n => simp [encRes, dp, dps]
  | inr l => have := dp_encI l; simp [encRes, dp, dps]; omega
theorem eqR_ev {f : Bool → Bool} {r : Sum Nat (List Trp)} {st : Sto} {Q : DK} (h : ∀ l, r = .inr l → ∀ t ∈ l, TrpV t) (q : Q (.bl (f true)) st) : dEqB f (encRes r) (encRes r) st Q :=
  eq_plain (pu_res h) (pu_res h) (dp_res r) (dp_res r) (by simp) q
section
variable [EC : ErrCtx]
/-- the law's own reading of a told text -/
theorem read_ev {i : Nat} {t : Str} {ρ : Env'} {st : Sto} {Q : DK} {Z : DZ} (h : ρ[i]? = some (some (.str t))) (hl : t.length ≤ 100000) (q : Q (encRes (readK (Txt.split t "\n").dropLast (lastS (Txt.split t "\n")))) st) : dCall 1 sp_lread (dCons (dVar i) dNil) ρ st Q Z := by
  rw [s_call, s_cons]
  refine var_ev h ?_
  rw [s_nil]
  exact ⟨rfl, .inl ⟨t, rfl, hl, q⟩⟩
theorem due_ev {i : Nat} {t : Str} {ρ : Env'} {st : Sto} {Q : DK} {Z : DZ} (h : ρ[i]? = some (some (.str t))) (hl : t.length ≤ 100000) (hc : (tl t).count 32 ≤ 3900) (q : Q (encRes (readK (Txt.split t "\n").dropLast (lastS (Txt.split t "\n")))) st) : dCall 1 sp_ldueK (dCons (dVar i) dNil) ρ st Q Z := by
  rw [s_call, s_cons]
  refine var_ev h ?_
  rw [s_nil]
  exact ⟨rfl, hl, hc, q⟩
theorem told_ev {i : Nat} {l : List Trp} {ρ : Env'} {st : Sto} {Q : DK} {Z : DZ} (h : ρ[i]? = some (some (encI l))) (q : Q (encRes (.inr l)) st) : dTup (dCons (dC (.str "told")) (dCons (dVar i) dNil)) ρ st Q Z := by
  rw [s_dtup, s_cons, s_c, s_cons]
  refine var_ev h ?_
  rw [s_nil]
  exact ⟨szk _ (by simp), q⟩
theorem lp_k43 (E : DEnds) {h c : Nat} {s0 : Option D} {l : List Trp} (hI : InstF 9 l) (hk : ∀ st' a b x y, HdK st' h c → E.nx [s0, some (.loc h), some (encI l), some (.str (lockTx l)), a, b, x, y] st') : ∀ (n i : Nat) (st1 : Sto) a b x y, HdK st1 h c →
    runG (gN 4) (RD.b_law_k43_1 sp_locktext sp_handK sp_linst sp_ltext sp_ldueK sp_lread sp_lharmed) E (fun _ => True) (upFrom i n) [s0, some (.loc h), some (encI l), some (.str (lockTx l)), a, b, x, y] st1
  | 0, i, st1, a, b, x, y, H => ⟨trivial, hk _ _ _ _ _ H⟩
  | n + 1, i, st1, a, b, x, y, H => by
    rw [show upFrom i (n + 1) = .int (i : Nat) :: upFrom (i + 1) n from rfl, runG_cons]
    refine ⟨trivial, ?_⟩
    have ih := lp_k43 E hI hk n (i + 1)
    generalize hR : runG (gN 4) (RD.b_law_k43_1 sp_locktext sp_handK sp_linst sp_ltext sp_ldueK sp_lread sp_lharmed) E (fun _ => True) (upFrom (i + 1) n) = R at ih ⊢
    rw [s_gN]
    unfold RD.b_law_k43_1
    show dSeq _ _ _ [s0, some (.loc h), some (encI l), some (.str (lockTx l)), some (.int (i : Nat)), b, x, y] st1
    rw [s_seq, s_asg, s_call, s_cons]
    refine var_ev (d := .loc h) rfl ?_
    rw [s_cons]
    refine var_ev (d := .str (lockTx l)) rfl ?_
    rw [s_nil]
    refine ⟨rfl, c, l, H, rfl, hI, fun s st2 hs H2 s2 => ?_⟩
    obtain ⟨⟨m, hm⟩, hs1, hs2⟩ := hs
    try dsimp only
    rw [s_gN]
    try dsimp only
    show dSeq _ _ _ [s0, some (.loc h), some (encI l), some (.str (lockTx l)), some (.int (i : Nat)), some (.str s), x, y] st2
    rw [s_seq, s_par, s_cons]
    refine due_ev (t := s) rfl hs1 hs2 ?_
    rw [s_cons]
    refine read_ev (t := s) rfl hs1 ?_
    rw [hm, s_nil]
    try dsimp only
    show dIfS _ _ _ _ [s0, some (.loc h), some (encI l), some (.str (lockTx l)), some (.int (i : Nat)), some (.str s), some (encRes (.inl m)), some (encRes (.inl m))] st2
    rw [s_ifS, s_or, s_test, s_op]
    refine ix_evK (d := .str "refused") (ds := [.str "refused", .int (m : Nat)]) rfl atI_0 ?_
    rw [s_c]
    show dEqB not (.str "refused") (.str "refused") _ _
    rw [s_eq_str]
    try dsimp only
    rw [if_neg (by simp), s_test, s_op]
    refine var_ev (d := encRes (.inl m)) rfl ?_
    refine var_ev (d := encRes (.inl m)) rfl ?_
    refine eqR_ev (fun l e => by cases e) ?_
    try dsimp only
    rw [if_neg (by simp), s_next]
    exact ih st2 _ _ _ _ H2
theorem r_law_k43 : Rd 1 sp_law (RD.t_law_k43 sp_locktext sp_handK sp_linst sp_ltext sp_ldueK sp_lread sp_lharmed) RD.N_law_k43 := by
  intro ds st Q Z hl h
  match ds, hl, h with
  | [d], _, hx =>
    obtain ⟨ns, hd, hl, _, q⟩ := hx
    unfold RD.t_law_k43
    have hh : ∀ (QE : DK) Z', (∀ st' h c, HdK st' h c → QE (.loc h) st') → sp_handK [d] st QE Z' := fun QE Z' q' => ⟨ns, hd, hl, fun st' h c _ H _ _ => q' st' h c H⟩
    show dSeq _ _ _ [some d, none, none, none, none, none, none, none] st
    rw [s_seq, s_asg, s_call, s_cons, s_var]
    show dNil _ _ _ _
    rw [s_nil]
    refine ⟨rfl, hh _ _ fun st1 h c H => ?_⟩
    try dsimp only
    rw [s_gN]
    try dsimp only
    show dSeq _ _ _ [some d, some (.loc h), none, none, none, none, none, none] st1
    rw [s_seq, s_asg, s_call, s_cons]
    refine var_ev (d := .loc h) rfl ?_
    rw [s_nil]
    refine ⟨rfl, c, H, fun l st2 hI H2 s2 => ?_⟩
    have hv := hI.v (by decide)
    have hk := lkV hI
    have hb := lock_back hk.v hk.u
    try dsimp only
    rw [s_gN]
    try dsimp only
    show dSeq _ _ _ [some d, some (.loc h), some (encI l), none, none, none, none, none] st2
    rw [s_seq, s_asg]
    refine lt_ev (l := l) rfl hv.1 ?_
    rw [s_gN]
    try dsimp only
    show dSeq _ _ _ [some d, some (.loc h), some (encI l), some (.str (lockTx l)), none, none, none, none] st2
    rw [s_seq, s_ifS, s_or, s_test, s_op]
    refine var_ev (d := .str (lockTx l)) rfl ?_
    rw [s_call, s_cons]
    refine var_ev (d := encI l) rfl ?_
    rw [s_nil]
    refine ⟨rfl, l, rfl, hv.1, ?_⟩
    show dEqB not (.str (lockTx l)) (.str (lockTx l)) _ _
    rw [s_eq_str]
    try dsimp only
    rw [if_neg (by simp), s_test, s_op]
    refine read_ev (t := lockTx l) rfl (by have := hk.len; omega) ?_
    rw [hb]
    refine told_ev (l := l) rfl ?_
    refine eqR_ev (fun m e => by cases e; exact hk.v) ?_
    try dsimp only
    rw [if_neg (by simp), s_next]
    try dsimp only
    rw [s_seq, s_for, s_iR1, s_cons, s_c, s_nil]
    refine ⟨by decide, by decide, ?_⟩
    rw [show (8 : Int).toNat = 8 from rfl, rngItems_up]
    refine lp_k43 _ hI (fun st' a b x y H' => ?_) 8 0 st2 _ _ _ _ H2
    try dsimp only
    rw [s_ret, s_op]
    refine read_ev (t := lockTx l) rfl (by have := hk.len; omega) ?_
    rw [hb]
    refine told_ev (l := l) rfl ?_
    refine eqR_ev (fun m e => by cases e; exact hk.v) ?_
    exact .inl (q st')
end
end CM
set_option maxHeartbeats 0
namespace Lk43
open PySem L2 PySem.Spec DL
open PyProof.Rows hiding St
theorem all_mk {l : PySem.W.OpenLaw} {w : World} {K : PySem.W.Frag} {h : Heap} {mg : Str → Option Value} {fa : Addr} (X : K.In h) (G : h.Ns mainGlobals mg) (hfa : mg "law" = some (.ref fa))
    {f_is_integer : Addr} {oc_is_integer kV_is_integer dc_is_integer pm_is_integer cd_is_integer ct_is_integer : Value} {od_is_integer an_is_integer : Option Addr} {sl_is_integer : Array (Option Value)}
    {f_is_number : Addr} {oc_is_number kV_is_number dc_is_number pm_is_number cd_is_number ct_is_number : Value} {od_is_number an_is_number : Option Addr} {sl_is_number : Array (Option Value)}
    {f_is_name : Addr} {oc_is_name kV_is_name dc_is_name pm_is_name cd_is_name ct_is_name : Value} {od_is_name an_is_name : Option Addr} {sl_is_name : Array (Option Value)}
    {f_is_names : Addr} {oc_is_names kV_is_names dc_is_names pm_is_names cd_is_names ct_is_names : Value} {od_is_names an_is_names : Option Addr} {sl_is_names : Array (Option Value)}
    {f_is_tuple_of : Addr} {oc_is_tuple_of kV_is_tuple_of dc_is_tuple_of pm_is_tuple_of cd_is_tuple_of ct_is_tuple_of : Value} {od_is_tuple_of an_is_tuple_of : Option Addr} {sl_is_tuple_of : Array (Option Value)}
    {f_is_version : Addr} {oc_is_version kV_is_version dc_is_version pm_is_version cd_is_version ct_is_version : Value} {od_is_version an_is_version : Option Addr} {sl_is_version : Array (Option Value)}
    {f_version_text : Addr} {oc_version_text kV_version_text dc_version_text pm_version_text cd_version_text ct_version_text : Value} {od_version_text an_version_text : Option Addr} {sl_version_text : Array (Option Value)}
    {f_told_number : Addr} {oc_told_number kV_told_number dc_told_number pm_told_number cd_told_number ct_told_number : Value} {od_told_number an_told_number : Option Addr} {sl_told_number : Array (Option Value)}
    {f_told_version : Addr} {oc_told_version kV_told_version dc_told_version pm_told_version cd_told_version ct_told_version : Value} {od_told_version an_told_version : Option Addr} {sl_told_version : Array (Option Value)}
    {f_is_triple : Addr} {oc_is_triple kV_is_triple dc_is_triple pm_is_triple cd_is_triple ct_is_triple : Value} {od_is_triple an_is_triple : Option Addr} {sl_is_triple : Array (Option Value)}
    {f_lines_of : Addr} {oc_lines_of kV_lines_of dc_lines_of pm_lines_of cd_lines_of ct_lines_of : Value} {od_lines_of an_lines_of : Option Addr} {sl_lines_of : Array (Option Value)}
    {f_text_of : Addr} {oc_text_of kV_text_of dc_text_of pm_text_of cd_text_of ct_text_of : Value} {od_text_of an_text_of : Option Addr} {sl_text_of : Array (Option Value)}
    {f_place_text : Addr} {oc_place_text kV_place_text dc_place_text pm_place_text cd_place_text ct_place_text : Value} {od_place_text an_place_text : Option Addr} {sl_place_text : Array (Option Value)}
    {f_check_line : Addr} {oc_check_line kV_check_line dc_check_line pm_check_line cd_check_line ct_check_line : Value} {od_check_line an_check_line : Option Addr} {sl_check_line : Array (Option Value)}
    {f_triple_line : Addr} {oc_triple_line kV_triple_line dc_triple_line pm_triple_line cd_triple_line ct_triple_line : Value} {od_triple_line an_triple_line : Option Addr} {sl_triple_line : Array (Option Value)}
    {f_lock_text : Addr} {oc_lock_text kV_lock_text dc_lock_text pm_lock_text cd_lock_text ct_lock_text : Value} {od_lock_text an_lock_text : Option Addr} {sl_lock_text : Array (Option Value)}
    {f_told_triple : Addr} {oc_told_triple kV_told_triple dc_told_triple pm_told_triple cd_told_triple ct_told_triple : Value} {od_told_triple an_told_triple : Option Addr} {sl_told_triple : Array (Option Value)}
    {f_read_lock : Addr} {oc_read_lock kV_read_lock dc_read_lock pm_read_lock cd_read_lock ct_read_lock : Value} {od_read_lock an_read_lock : Option Addr} {sl_read_lock : Array (Option Value)}
    {f__law_hand : Addr} {oc__law_hand kV__law_hand dc__law_hand pm__law_hand cd__law_hand ct__law_hand : Value} {od__law_hand an__law_hand : Option Addr} {sl__law_hand : Array (Option Value)}
    {f__law_draw : Addr} {oc__law_draw kV__law_draw dc__law_draw pm__law_draw cd__law_draw ct__law_draw : Value} {od__law_draw an__law_draw : Option Addr} {sl__law_draw : Array (Option Value)}
    {f__law_any : Addr} {oc__law_any kV__law_any dc__law_any pm__law_any cd__law_any ct__law_any : Value} {od__law_any an__law_any : Option Addr} {sl__law_any : Array (Option Value)}
    {f__law_name : Addr} {oc__law_name kV__law_name dc__law_name pm__law_name cd__law_name ct__law_name : Value} {od__law_name an__law_name : Option Addr} {sl__law_name : Array (Option Value)}
    {f__law_installation : Addr} {oc__law_installation kV__law_installation dc__law_installation pm__law_installation cd__law_installation ct__law_installation : Value} {od__law_installation an__law_installation : Option Addr} {sl__law_installation : Array (Option Value)}
    {f__law_check : Addr} {oc__law_check kV__law_check dc__law_check pm__law_check cd__law_check ct__law_check : Value} {od__law_check an__law_check : Option Addr} {sl__law_check : Array (Option Value)}
    {f__law_line : Addr} {oc__law_line kV__law_line dc__law_line pm__law_line cd__law_line ct__law_line : Value} {od__law_line an__law_line : Option Addr} {sl__law_line : Array (Option Value)}
    {f__law_text : Addr} {oc__law_text kV__law_text dc__law_text pm__law_text cd__law_text ct__law_text : Value} {od__law_text an__law_text : Option Addr} {sl__law_text : Array (Option Value)}
    {f__law_is_name : Addr} {oc__law_is_name kV__law_is_name dc__law_is_name pm__law_is_name cd__law_is_name ct__law_is_name : Value} {od__law_is_name an__law_is_name : Option Addr} {sl__law_is_name : Array (Option Value)}
    {f__law_number : Addr} {oc__law_number kV__law_number dc__law_number pm__law_number cd__law_number ct__law_number : Value} {od__law_number an__law_number : Option Addr} {sl__law_number : Array (Option Value)}
    {f__law_triple : Addr} {oc__law_triple kV__law_triple dc__law_triple pm__law_triple cd__law_triple ct__law_triple : Value} {od__law_triple an__law_triple : Option Addr} {sl__law_triple : Array (Option Value)}
    {f__law_due : Addr} {oc__law_due kV__law_due dc__law_due pm__law_due cd__law_due ct__law_due : Value} {od__law_due an__law_due : Option Addr} {sl__law_due : Array (Option Value)}
    {f__law_read : Addr} {oc__law_read kV__law_read dc__law_read pm__law_read cd__law_read ct__law_read : Value} {od__law_read an__law_read : Option Addr} {sl__law_read : Array (Option Value)}
    {f__law_changed : Addr} {oc__law_changed kV__law_changed dc__law_changed pm__law_changed cd__law_changed ct__law_changed : Value} {od__law_changed an__law_changed : Option Addr} {sl__law_changed : Array (Option Value)}
    {f__law_exchanged : Addr} {oc__law_exchanged kV__law_exchanged dc__law_exchanged pm__law_exchanged cd__law_exchanged ct__law_exchanged : Value} {od__law_exchanged an__law_exchanged : Option Addr} {sl__law_exchanged : Array (Option Value)}
    {f__law_harmed : Addr} {oc__law_harmed kV__law_harmed dc__law_harmed pm__law_harmed cd__law_harmed ct__law_harmed : Value} {od__law_harmed an__law_harmed : Option Addr} {sl__law_harmed : Array (Option Value)}
    {f_law : Addr} {oc_law kV_law dc_law pm_law cd_law ct_law : Value} {od_law an_law : Option Addr} {sl_law : Array (Option Value)}
    {c_LockError : Addr}
    {c_BadText : Addr}
    {c_BadLine : Addr}
    {cl_BadLine : Addr} {nm_BadLine q_BadLine : Str} {N_BadLine : Addr} {bs_BadLine : List Value} {sn_BadLine : List Str} {sb_BadLine : List Value} {ab_BadLine : Bool} {co_BadLine : Option Bool} {dd_BadLine : Option Addr} {m0_BadLine m1_BadLine m2_BadLine m3_BadLine m5_BadLine : Option Value}
    {fi_BadLine : Addr} {oci_BadLine kVi_BadLine dci_BadLine pmi_BadLine cdi_BadLine cti_BadLine : Value} {odi_BadLine ani_BadLine : Option Addr} {sli_BadLine : Array (Option Value)}
    {u_NAME_MOST : Value}
    {u_NUMBER_MOST : Value}
    {u_NUMBER_DIGITS : Value}
    {u_CHECK_MODULUS : Value}
    (a_is_integer : PySem.W.nsIn K mainGlobals "is_integer" = some (some (.ref f_is_integer)))
    (l_is_integer : K.lookup f_is_integer = some ⟨oc_is_integer, od_is_integer, .func (PySem.W.fnOf "is_integer" "is_integer" (defArgs S_is_integer) (defBody S_is_integer) (defScope S_is_integer) .none kV_is_integer dc_is_integer pm_is_integer an_is_integer cd_is_integer ct_is_integer), sl_is_integer⟩)
    (q_is_integer : PySem.W.codeIn K cd_is_integer "is_integer" = true)
    (k_is_integer : PySem.W.keepIn K (.ref f_is_integer) = true)
    (a_is_number : PySem.W.nsIn K mainGlobals "is_number" = some (some (.ref f_is_number)))
    (l_is_number : K.lookup f_is_number = some ⟨oc_is_number, od_is_number, .func (PySem.W.fnOf "is_number" "is_number" (defArgs S_is_number) (defBody S_is_number) (defScope S_is_number) .none kV_is_number dc_is_number pm_is_number an_is_number cd_is_number ct_is_number), sl_is_number⟩)
    (q_is_number : PySem.W.codeIn K cd_is_number "is_number" = true)
    (k_is_number : PySem.W.keepIn K (.ref f_is_number) = true)
    (a_is_name : PySem.W.nsIn K mainGlobals "is_name" = some (some (.ref f_is_name)))
    (l_is_name : K.lookup f_is_name = some ⟨oc_is_name, od_is_name, .func (PySem.W.fnOf "is_name" "is_name" (defArgs S_is_name) (defBody S_is_name) (defScope S_is_name) .none kV_is_name dc_is_name pm_is_name an_is_name cd_is_name ct_is_name), sl_is_name⟩)
    (q_is_name : PySem.W.codeIn K cd_is_name "is_name" = true)
    (k_is_name : PySem.W.keepIn K (.ref f_is_name) = true)
    (a_is_names : PySem.W.nsIn K mainGlobals "is_names" = some (some (.ref f_is_names)))
    (l_is_names : K.lookup f_is_names = some ⟨oc_is_names, od_is_names, .func (PySem.W.fnOf "is_names" "is_names" (defArgs S_is_names) (defBody S_is_names) (defScope S_is_names) .none kV_is_names dc_is_names pm_is_names an_is_names cd_is_names ct_is_names), sl_is_names⟩)
    (q_is_names : PySem.W.codeIn K cd_is_names "is_names" = true)
    (k_is_names : PySem.W.keepIn K (.ref f_is_names) = true)
    (a_is_tuple_of : PySem.W.nsIn K mainGlobals "is_tuple_of" = some (some (.ref f_is_tuple_of)))
    (l_is_tuple_of : K.lookup f_is_tuple_of = some ⟨oc_is_tuple_of, od_is_tuple_of, .func (PySem.W.fnOf "is_tuple_of" "is_tuple_of" (defArgs S_is_tuple_of) (defBody S_is_tuple_of) (defScope S_is_tuple_of) .none kV_is_tuple_of dc_is_tuple_of pm_is_tuple_of an_is_tuple_of cd_is_tuple_of ct_is_tuple_of), sl_is_tuple_of⟩)
    (q_is_tuple_of : PySem.W.codeIn K cd_is_tuple_of "is_tuple_of" = true)
    (k_is_tuple_of : PySem.W.keepIn K (.ref f_is_tuple_of) = true)
    (a_is_version : PySem.W.nsIn K mainGlobals "is_version" = some (some (.ref f_is_version)))
    (l_is_version : K.lookup f_is_version = some ⟨oc_is_version, od_is_version, .func (PySem.W.fnOf "is_version" "is_version" (defArgs S_is_version) (defBody S_is_version) (defScope S_is_version) .none kV_is_version dc_is_version pm_is_version an_is_version cd_is_version ct_is_version), sl_is_version⟩)
    (q_is_version : PySem.W.codeIn K cd_is_version "is_version" = true)
    (k_is_version : PySem.W.keepIn K (.ref f_is_version) = true)
    (a_version_text : PySem.W.nsIn K mainGlobals "version_text" = some (some (.ref f_version_text)))
    (l_version_text : K.lookup f_version_text = some ⟨oc_version_text, od_version_text, .func (PySem.W.fnOf "version_text" "version_text" (defArgs S_version_text) (defBody S_version_text) (defScope S_version_text) .none kV_version_text dc_version_text pm_version_text an_version_text cd_version_text ct_version_text), sl_version_text⟩)
    (q_version_text : PySem.W.codeIn K cd_version_text "version_text" = true)
    (k_version_text : PySem.W.keepIn K (.ref f_version_text) = true)
    (a_told_number : PySem.W.nsIn K mainGlobals "told_number" = some (some (.ref f_told_number)))
    (l_told_number : K.lookup f_told_number = some ⟨oc_told_number, od_told_number, .func (PySem.W.fnOf "told_number" "told_number" (defArgs S_told_number) (defBody S_told_number) (defScope S_told_number) .none kV_told_number dc_told_number pm_told_number an_told_number cd_told_number ct_told_number), sl_told_number⟩)
    (q_told_number : PySem.W.codeIn K cd_told_number "told_number" = true)
    (k_told_number : PySem.W.keepIn K (.ref f_told_number) = true)
    (a_told_version : PySem.W.nsIn K mainGlobals "told_version" = some (some (.ref f_told_version)))
    (l_told_version : K.lookup f_told_version = some ⟨oc_told_version, od_told_version, .func (PySem.W.fnOf "told_version" "told_version" (defArgs S_told_version) (defBody S_told_version) (defScope S_told_version) .none kV_told_version dc_told_version pm_told_version an_told_version cd_told_version ct_told_version), sl_told_version⟩)
    (q_told_version : PySem.W.codeIn K cd_told_version "told_version" = true)
    (k_told_version : PySem.W.keepIn K (.ref f_told_version) = true)
    (a_is_triple : PySem.W.nsIn K mainGlobals "is_triple" = some (some (.ref f_is_triple)))
    (l_is_triple : K.lookup f_is_triple = some ⟨oc_is_triple, od_is_triple, .func (PySem.W.fnOf "is_triple" "is_triple" (defArgs S_is_triple) (defBody S_is_triple) (defScope S_is_triple) .none kV_is_triple dc_is_triple pm_is_triple an_is_triple cd_is_triple ct_is_triple), sl_is_triple⟩)
    (q_is_triple : PySem.W.codeIn K cd_is_triple "is_triple" = true)
    (k_is_triple : PySem.W.keepIn K (.ref f_is_triple) = true)
    (a_lines_of : PySem.W.nsIn K mainGlobals "lines_of" = some (some (.ref f_lines_of)))
    (l_lines_of : K.lookup f_lines_of = some ⟨oc_lines_of, od_lines_of, .func (PySem.W.fnOf "lines_of" "lines_of" (defArgs S_lines_of) (defBody S_lines_of) (defScope S_lines_of) .none kV_lines_of dc_lines_of pm_lines_of an_lines_of cd_lines_of ct_lines_of), sl_lines_of⟩)
    (q_lines_of : PySem.W.codeIn K cd_lines_of "lines_of" = true)
    (k_lines_of : PySem.W.keepIn K (.ref f_lines_of) = true)
    (a_text_of : PySem.W.nsIn K mainGlobals "text_of" = some (some (.ref f_text_of)))
    (l_text_of : K.lookup f_text_of = some ⟨oc_text_of, od_text_of, .func (PySem.W.fnOf "text_of" "text_of" (defArgs S_text_of) (defBody S_text_of) (defScope S_text_of) .none kV_text_of dc_text_of pm_text_of an_text_of cd_text_of ct_text_of), sl_text_of⟩)
    (q_text_of : PySem.W.codeIn K cd_text_of "text_of" = true)
    (k_text_of : PySem.W.keepIn K (.ref f_text_of) = true)
    (a_place_text : PySem.W.nsIn K mainGlobals "place_text" = some (some (.ref f_place_text)))
    (l_place_text : K.lookup f_place_text = some ⟨oc_place_text, od_place_text, .func (PySem.W.fnOf "place_text" "place_text" (defArgs S_place_text) (defBody S_place_text) (defScope S_place_text) .none kV_place_text dc_place_text pm_place_text an_place_text cd_place_text ct_place_text), sl_place_text⟩)
    (q_place_text : PySem.W.codeIn K cd_place_text "place_text" = true)
    (k_place_text : PySem.W.keepIn K (.ref f_place_text) = true)
    (a_check_line : PySem.W.nsIn K mainGlobals "check_line" = some (some (.ref f_check_line)))
    (l_check_line : K.lookup f_check_line = some ⟨oc_check_line, od_check_line, .func (PySem.W.fnOf "check_line" "check_line" (defArgs S_check_line) (defBody S_check_line) (defScope S_check_line) .none kV_check_line dc_check_line pm_check_line an_check_line cd_check_line ct_check_line), sl_check_line⟩)
    (q_check_line : PySem.W.codeIn K cd_check_line "check_line" = true)
    (k_check_line : PySem.W.keepIn K (.ref f_check_line) = true)
    (a_triple_line : PySem.W.nsIn K mainGlobals "triple_line" = some (some (.ref f_triple_line)))
    (l_triple_line : K.lookup f_triple_line = some ⟨oc_triple_line, od_triple_line, .func (PySem.W.fnOf "triple_line" "triple_line" (defArgs S_triple_line) (defBody S_triple_line) (defScope S_triple_line) .none kV_triple_line dc_triple_line pm_triple_line an_triple_line cd_triple_line ct_triple_line), sl_triple_line⟩)
    (q_triple_line : PySem.W.codeIn K cd_triple_line "triple_line" = true)
    (k_triple_line : PySem.W.keepIn K (.ref f_triple_line) = true)
    (a_lock_text : PySem.W.nsIn K mainGlobals "lock_text" = some (some (.ref f_lock_text)))
    (l_lock_text : K.lookup f_lock_text = some ⟨oc_lock_text, od_lock_text, .func (PySem.W.fnOf "lock_text" "lock_text" (defArgs S_lock_text) (defBody S_lock_text) (defScope S_lock_text) .none kV_lock_text dc_lock_text pm_lock_text an_lock_text cd_lock_text ct_lock_text), sl_lock_text⟩)
    (q_lock_text : PySem.W.codeIn K cd_lock_text "lock_text" = true)
    (k_lock_text : PySem.W.keepIn K (.ref f_lock_text) = true)
    (a_told_triple : PySem.W.nsIn K mainGlobals "told_triple" = some (some (.ref f_told_triple)))
    (l_told_triple : K.lookup f_told_triple = some ⟨oc_told_triple, od_told_triple, .func (PySem.W.fnOf "told_triple" "told_triple" (defArgs S_told_triple) (defBody S_told_triple) (defScope S_told_triple) .none kV_told_triple dc_told_triple pm_told_triple an_told_triple cd_told_triple ct_told_triple), sl_told_triple⟩)
    (q_told_triple : PySem.W.codeIn K cd_told_triple "told_triple" = true)
    (k_told_triple : PySem.W.keepIn K (.ref f_told_triple) = true)
    (a_read_lock : PySem.W.nsIn K mainGlobals "read_lock" = some (some (.ref f_read_lock)))
    (l_read_lock : K.lookup f_read_lock = some ⟨oc_read_lock, od_read_lock, .func (PySem.W.fnOf "read_lock" "read_lock" (defArgs S_read_lock) (defBody S_read_lock) (defScope S_read_lock) .none kV_read_lock dc_read_lock pm_read_lock an_read_lock cd_read_lock ct_read_lock), sl_read_lock⟩)
    (q_read_lock : PySem.W.codeIn K cd_read_lock "read_lock" = true)
    (k_read_lock : PySem.W.keepIn K (.ref f_read_lock) = true)
    (a__law_hand : PySem.W.nsIn K mainGlobals "_law_hand" = some (some (.ref f__law_hand)))
    (l__law_hand : K.lookup f__law_hand = some ⟨oc__law_hand, od__law_hand, .func (PySem.W.fnOf "_law_hand" "_law_hand" (defArgs S__law_hand) (defBody S__law_hand) (defScope S__law_hand) .none kV__law_hand dc__law_hand pm__law_hand an__law_hand cd__law_hand ct__law_hand), sl__law_hand⟩)
    (q__law_hand : PySem.W.codeIn K cd__law_hand "_law_hand" = true)
    (k__law_hand : PySem.W.keepIn K (.ref f__law_hand) = true)
    (a__law_draw : PySem.W.nsIn K mainGlobals "_law_draw" = some (some (.ref f__law_draw)))
    (l__law_draw : K.lookup f__law_draw = some ⟨oc__law_draw, od__law_draw, .func (PySem.W.fnOf "_law_draw" "_law_draw" (defArgs S__law_draw) (defBody S__law_draw) (defScope S__law_draw) .none kV__law_draw dc__law_draw pm__law_draw an__law_draw cd__law_draw ct__law_draw), sl__law_draw⟩)
    (q__law_draw : PySem.W.codeIn K cd__law_draw "_law_draw" = true)
    (k__law_draw : PySem.W.keepIn K (.ref f__law_draw) = true)
    (a__law_any : PySem.W.nsIn K mainGlobals "_law_any" = some (some (.ref f__law_any)))
    (l__law_any : K.lookup f__law_any = some ⟨oc__law_any, od__law_any, .func (PySem.W.fnOf "_law_any" "_law_any" (defArgs S__law_any) (defBody S__law_any) (defScope S__law_any) .none kV__law_any dc__law_any pm__law_any an__law_any cd__law_any ct__law_any), sl__law_any⟩)
    (q__law_any : PySem.W.codeIn K cd__law_any "_law_any" = true)
    (k__law_any : PySem.W.keepIn K (.ref f__law_any) = true)
    (a__law_name : PySem.W.nsIn K mainGlobals "_law_name" = some (some (.ref f__law_name)))
    (l__law_name : K.lookup f__law_name = some ⟨oc__law_name, od__law_name, .func (PySem.W.fnOf "_law_name" "_law_name" (defArgs S__law_name) (defBody S__law_name) (defScope S__law_name) .none kV__law_name dc__law_name pm__law_name an__law_name cd__law_name ct__law_name), sl__law_name⟩)
    (q__law_name : PySem.W.codeIn K cd__law_name "_law_name" = true)
    (k__law_name : PySem.W.keepIn K (.ref f__law_name) = true)
    (a__law_installation : PySem.W.nsIn K mainGlobals "_law_installation" = some (some (.ref f__law_installation)))
    (l__law_installation : K.lookup f__law_installation = some ⟨oc__law_installation, od__law_installation, .func (PySem.W.fnOf "_law_installation" "_law_installation" (defArgs S__law_installation) (defBody S__law_installation) (defScope S__law_installation) .none kV__law_installation dc__law_installation pm__law_installation an__law_installation cd__law_installation ct__law_installation), sl__law_installation⟩)
    (q__law_installation : PySem.W.codeIn K cd__law_installation "_law_installation" = true)
    (k__law_installation : PySem.W.keepIn K (.ref f__law_installation) = true)
    (a__law_check : PySem.W.nsIn K mainGlobals "_law_check" = some (some (.ref f__law_check)))
    (l__law_check : K.lookup f__law_check = some ⟨oc__law_check, od__law_check, .func (PySem.W.fnOf "_law_check" "_law_check" (defArgs S__law_check) (defBody S__law_check) (defScope S__law_check) .none kV__law_check dc__law_check pm__law_check an__law_check cd__law_check ct__law_check), sl__law_check⟩)
    (q__law_check : PySem.W.codeIn K cd__law_check "_law_check" = true)
    (k__law_check : PySem.W.keepIn K (.ref f__law_check) = true)
    (a__law_line : PySem.W.nsIn K mainGlobals "_law_line" = some (some (.ref f__law_line)))
    (l__law_line : K.lookup f__law_line = some ⟨oc__law_line, od__law_line, .func (PySem.W.fnOf "_law_line" "_law_line" (defArgs S__law_line) (defBody S__law_line) (defScope S__law_line) .none kV__law_line dc__law_line pm__law_line an__law_line cd__law_line ct__law_line), sl__law_line⟩)
    (q__law_line : PySem.W.codeIn K cd__law_line "_law_line" = true)
    (k__law_line : PySem.W.keepIn K (.ref f__law_line) = true)
    (a__law_text : PySem.W.nsIn K mainGlobals "_law_text" = some (some (.ref f__law_text)))
    (l__law_text : K.lookup f__law_text = some ⟨oc__law_text, od__law_text, .func (PySem.W.fnOf "_law_text" "_law_text" (defArgs S__law_text) (defBody S__law_text) (defScope S__law_text) .none kV__law_text dc__law_text pm__law_text an__law_text cd__law_text ct__law_text), sl__law_text⟩)
    (q__law_text : PySem.W.codeIn K cd__law_text "_law_text" = true)
    (k__law_text : PySem.W.keepIn K (.ref f__law_text) = true)
    (a__law_is_name : PySem.W.nsIn K mainGlobals "_law_is_name" = some (some (.ref f__law_is_name)))
    (l__law_is_name : K.lookup f__law_is_name = some ⟨oc__law_is_name, od__law_is_name, .func (PySem.W.fnOf "_law_is_name" "_law_is_name" (defArgs S__law_is_name) (defBody S__law_is_name) (defScope S__law_is_name) .none kV__law_is_name dc__law_is_name pm__law_is_name an__law_is_name cd__law_is_name ct__law_is_name), sl__law_is_name⟩)
    (q__law_is_name : PySem.W.codeIn K cd__law_is_name "_law_is_name" = true)
    (k__law_is_name : PySem.W.keepIn K (.ref f__law_is_name) = true)
    (a__law_number : PySem.W.nsIn K mainGlobals "_law_number" = some (some (.ref f__law_number)))
    (l__law_number : K.lookup f__law_number = some ⟨oc__law_number, od__law_number, .func (PySem.W.fnOf "_law_number" "_law_number" (defArgs S__law_number) (defBody S__law_number) (defScope S__law_number) .none kV__law_number dc__law_number pm__law_number an__law_number cd__law_number ct__law_number), sl__law_number⟩)
    (q__law_number : PySem.W.codeIn K cd__law_number "_law_number" = true)
    (k__law_number : PySem.W.keepIn K (.ref f__law_number) = true)
    (a__law_triple : PySem.W.nsIn K mainGlobals "_law_triple" = some (some (.ref f__law_triple)))
    (l__law_triple : K.lookup f__law_triple = some ⟨oc__law_triple, od__law_triple, .func (PySem.W.fnOf "_law_triple" "_law_triple" (defArgs S__law_triple) (defBody S__law_triple) (defScope S__law_triple) .none kV__law_triple dc__law_triple pm__law_triple an__law_triple cd__law_triple ct__law_triple), sl__law_triple⟩)
    (q__law_triple : PySem.W.codeIn K cd__law_triple "_law_triple" = true)
    (k__law_triple : PySem.W.keepIn K (.ref f__law_triple) = true)
    (a__law_due : PySem.W.nsIn K mainGlobals "_law_due" = some (some (.ref f__law_due)))
    (l__law_due : K.lookup f__law_due = some ⟨oc__law_due, od__law_due, .func (PySem.W.fnOf "_law_due" "_law_due" (defArgs S__law_due) (defBody S__law_due) (defScope S__law_due) .none kV__law_due dc__law_due pm__law_due an__law_due cd__law_due ct__law_due), sl__law_due⟩)
    (q__law_due : PySem.W.codeIn K cd__law_due "_law_due" = true)
    (k__law_due : PySem.W.keepIn K (.ref f__law_due) = true)
    (a__law_read : PySem.W.nsIn K mainGlobals "_law_read" = some (some (.ref f__law_read)))
    (l__law_read : K.lookup f__law_read = some ⟨oc__law_read, od__law_read, .func (PySem.W.fnOf "_law_read" "_law_read" (defArgs S__law_read) (defBody S__law_read) (defScope S__law_read) .none kV__law_read dc__law_read pm__law_read an__law_read cd__law_read ct__law_read), sl__law_read⟩)
    (q__law_read : PySem.W.codeIn K cd__law_read "_law_read" = true)
    (k__law_read : PySem.W.keepIn K (.ref f__law_read) = true)
    (a__law_changed : PySem.W.nsIn K mainGlobals "_law_changed" = some (some (.ref f__law_changed)))
    (l__law_changed : K.lookup f__law_changed = some ⟨oc__law_changed, od__law_changed, .func (PySem.W.fnOf "_law_changed" "_law_changed" (defArgs S__law_changed) (defBody S__law_changed) (defScope S__law_changed) .none kV__law_changed dc__law_changed pm__law_changed an__law_changed cd__law_changed ct__law_changed), sl__law_changed⟩)
    (q__law_changed : PySem.W.codeIn K cd__law_changed "_law_changed" = true)
    (k__law_changed : PySem.W.keepIn K (.ref f__law_changed) = true)
    (a__law_exchanged : PySem.W.nsIn K mainGlobals "_law_exchanged" = some (some (.ref f__law_exchanged)))
    (l__law_exchanged : K.lookup f__law_exchanged = some ⟨oc__law_exchanged, od__law_exchanged, .func (PySem.W.fnOf "_law_exchanged" "_law_exchanged" (defArgs S__law_exchanged) (defBody S__law_exchanged) (defScope S__law_exchanged) .none kV__law_exchanged dc__law_exchanged pm__law_exchanged an__law_exchanged cd__law_exchanged ct__law_exchanged), sl__law_exchanged⟩)
    (q__law_exchanged : PySem.W.codeIn K cd__law_exchanged "_law_exchanged" = true)
    (k__law_exchanged : PySem.W.keepIn K (.ref f__law_exchanged) = true)
    (a__law_harmed : PySem.W.nsIn K mainGlobals "_law_harmed" = some (some (.ref f__law_harmed)))
    (l__law_harmed : K.lookup f__law_harmed = some ⟨oc__law_harmed, od__law_harmed, .func (PySem.W.fnOf "_law_harmed" "_law_harmed" (defArgs S__law_harmed) (defBody S__law_harmed) (defScope S__law_harmed) .none kV__law_harmed dc__law_harmed pm__law_harmed an__law_harmed cd__law_harmed ct__law_harmed), sl__law_harmed⟩)
    (q__law_harmed : PySem.W.codeIn K cd__law_harmed "_law_harmed" = true)
    (k__law_harmed : PySem.W.keepIn K (.ref f__law_harmed) = true)
    (a_law : PySem.W.nsIn K mainGlobals "law" = some (some (.ref f_law)))
    (l_law : K.lookup f_law = some ⟨oc_law, od_law, .func (PySem.W.fnOf "law" "law" (defArgs S_law) (defBody S_law) (defScope S_law) .none kV_law dc_law pm_law an_law cd_law ct_law), sl_law⟩)
    (q_law : PySem.W.codeIn K cd_law "law" = true)
    (k_law : PySem.W.keepIn K (.ref f_law) = true)
    (z_ValueError : PySem.W.nsIn K mainGlobals "ValueError" = some none)
    (z_abs : PySem.W.nsIn K mainGlobals "abs" = some none)
    (z_all : PySem.W.nsIn K mainGlobals "all" = some none)
    (z_bool : PySem.W.nsIn K mainGlobals "bool" = some none)
    (z_enumerate : PySem.W.nsIn K mainGlobals "enumerate" = some none)
    (z_int : PySem.W.nsIn K mainGlobals "int" = some none)
    (z_isinstance : PySem.W.nsIn K mainGlobals "isinstance" = some none)
    (z_len : PySem.W.nsIn K mainGlobals "len" = some none)
    (z_max : PySem.W.nsIn K mainGlobals "max" = some none)
    (z_min : PySem.W.nsIn K mainGlobals "min" = some none)
    (z_ord : PySem.W.nsIn K mainGlobals "ord" = some none)
    (z_range : PySem.W.nsIn K mainGlobals "range" = some none)
    (z_set : PySem.W.nsIn K mainGlobals "set" = some none)
    (z_sorted : PySem.W.nsIn K mainGlobals "sorted" = some none)
    (z_str : PySem.W.nsIn K mainGlobals "str" = some none)
    (z_sum : PySem.W.nsIn K mainGlobals "sum" = some none)
    (z_tuple : PySem.W.nsIn K mainGlobals "tuple" = some none)
    (ea_LockError : PySem.W.nsIn K mainGlobals "LockError" = some (some (.ref c_LockError)))
    (ea_BadText : PySem.W.nsIn K mainGlobals "BadText" = some (some (.ref c_BadText)))
    (ea_BadLine : PySem.W.nsIn K mainGlobals "BadLine" = some (some (.ref c_BadLine)))
    (es_BadLine : PySem.W.subIn K (.ref c_BadLine) (.type "BaseException") = some true)
    (et_BadLine : PySem.W.typeIn K (.ref c_BadLine) = some (.type "type"))
    (eh_BadLine : PySem.W.hasDictIn K c_BadLine = true)
    (ex_BadLine : K.lookup c_BadLine = some (excClassObj nm_BadLine q_BadLine c_BadLine N_BadLine bs_BadLine [.ref cl_BadLine, .type "ValueError", .type "Exception", .type "BaseException", .type "object"] true sn_BadLine sb_BadLine ab_BadLine co_BadLine dd_BadLine m0_BadLine m1_BadLine m2_BadLine m3_BadLine m5_BadLine "ValueError.__new__"))
    (ew_BadLine : PySem.W.findIn K (.ref c_BadLine) "__setattr__" = some (some (.builtin "object.__setattr__")))
    (ek_BadLine : PySem.W.keepIn K (.ref c_BadLine) = true)
    (ei_BadLine : PySem.W.findIn K (.ref c_BadLine) "__init__" = some (some (.ref fi_BadLine)))
    (ej_BadLine : PySem.W.typeIn K (.ref fi_BadLine) = some (.type "function"))
    (el_BadLine : K.lookup fi_BadLine = some ⟨oci_BadLine, odi_BadLine, .func (PySem.W.fnOf "__init__" "BadLine.__init__" (defArgs SI_BadLine) (defBody SI_BadLine) (defScope SI_BadLine) .none kVi_BadLine dci_BadLine pmi_BadLine ani_BadLine cdi_BadLine cti_BadLine), sli_BadLine⟩)
    (eq_BadLine : PySem.W.codeIn K cdi_BadLine "BadLine.__init__" = true)
    (er_BadLine : PySem.W.keepIn K (.ref fi_BadLine) = true)
    (en_BadLine : PySem.W.findIn K (.ref c_BadLine) "number" = some none)
    (eg_BadLine : PySem.W.findIn K (.ref c_BadLine) "__getattribute__" = some (some (.builtin "BaseException.__getattribute__")))
    (eu_BadLine : PySem.W.findIn K (.ref c_BadLine) "__getattr__" = some none)
    (ec_BadLine : PySem.W.findIn K (.ref c_BadLine) "__class__" = some (some (.builtin "object.__class__")))
    (eo_BadLine : PySem.W.mroIn K c_BadLine (.type "object") = some true)
    (e_sp : PySem.W.specialIn K (.builtin "object.__class__") "__get__" = some (some (.builtin "getset_descriptor.__get__")))
    (e_tk : PySem.W.takesIn K (.builtin "object.__class__") = some true)
    (fb_BadLine : PySem.W.subIn K (.ref c_BadLine) (.type "BaseException") = some true)
    (fh_BadLine : PySem.W.hasDictIn K c_BadLine = true)
    (ft_BadLine : PySem.W.typeIn K (.ref c_BadLine) = some (.type "type"))
    (eb_BadLine_BadLine : PySem.W.subIn K (.ref c_BadLine) (.ref c_BadLine) = some true)
    (fb_BadText : PySem.W.subIn K (.ref c_BadText) (.type "BaseException") = some true)
    (fh_BadText : PySem.W.hasDictIn K c_BadText = true)
    (ft_BadText : PySem.W.typeIn K (.ref c_BadText) = some (.type "type"))
    (eb_BadLine_BadText : PySem.W.subIn K (.ref c_BadLine) (.ref c_BadText) = some false)
    (fb_LockError : PySem.W.subIn K (.ref c_LockError) (.type "BaseException") = some true)
    (fh_LockError : PySem.W.hasDictIn K c_LockError = true)
    (ft_LockError : PySem.W.typeIn K (.ref c_LockError) = some (.type "type"))
    (eb_BadLine_LockError : PySem.W.subIn K (.ref c_BadLine) (.ref c_LockError) = some true)
    (eb_BadLine_ValueError : PySem.W.subIn K (.ref c_BadLine) (.type "ValueError") = some true)
    (n_NAME_MOST : PySem.W.nsIn K mainGlobals "NAME_MOST" = some (some u_NAME_MOST))
    (r_NAME_MOST : KRep K (.int 12) u_NAME_MOST)
    (n_NUMBER_MOST : PySem.W.nsIn K mainGlobals "NUMBER_MOST" = some (some u_NUMBER_MOST))
    (r_NUMBER_MOST : KRep K (.int 1000000) u_NUMBER_MOST)
    (n_NUMBER_DIGITS : PySem.W.nsIn K mainGlobals "NUMBER_DIGITS" = some (some u_NUMBER_DIGITS))
    (r_NUMBER_DIGITS : KRep K (.int 7) u_NUMBER_DIGITS)
    (n_CHECK_MODULUS : PySem.W.nsIn K mainGlobals "CHECK_MODULUS" = some (some u_CHECK_MODULUS))
    (r_CHECK_MODULUS : KRep K (.int 99991) u_CHECK_MODULUS) :
    LamX.LawAtS l w K (L2.CX l.prog w) 8 63 "script" mg fa h := by
  have e := hfa.symm.trans (PySem.W.mg_of X G a_law)
  cases e
  letI : ErrCtx := ⟨fun m => match m with | 0 => c_LockError | 1 => c_BadText | 4 => c_BadLine | _ => 0⟩
  have To_BadLine : OexC K (errA 4) := ⟨⟨nm_BadLine, q_BadLine, N_BadLine, bs_BadLine, _, sn_BadLine, sb_BadLine, ab_BadLine, co_BadLine, dd_BadLine, m0_BadLine, m1_BadLine, m2_BadLine, m3_BadLine, m5_BadLine, ex_BadLine, rfl⟩, ew_BadLine, es_BadLine, et_BadLine, ek_BadLine⟩
  letI : TabCtx := ⟨[], []⟩
  have GG : Glob K mg := ⟨PySem.W.mg_of X G ea_BadLine,
    PySem.W.mg_of X G ea_BadText,
    PySem.W.mg_of X G ea_LockError,
    PySem.W.exm_ref fb_BadLine fh_BadLine ft_BadLine eb_BadLine_BadLine,
    ⟨⟨eg_BadLine, eu_BadLine, es_BadLine, eh_BadLine⟩, ⟨eg_BadLine, eu_BadLine, es_BadLine, eh_BadLine, ec_BadLine, e_sp, e_tk, eo_BadLine⟩⟩,
    en_BadLine,
    kit_own fh_BadText ft_BadText eb_BadLine_BadLine eb_BadLine_BadText,
    kit_own fh_LockError ft_LockError eb_BadLine_BadLine eb_BadLine_LockError,
    kit_ve eb_BadLine_ValueError,
    def_mk X G a_is_integer l_is_integer q_is_integer k_is_integer (fun _ _ _ _ _ _ us hl => match us, hl with | [_], _ => rfl),
    def_mk X G a_is_number l_is_number q_is_number k_is_number (fun _ _ _ _ _ _ us hl => match us, hl with | [_], _ => rfl),
    def_mk X G a_is_name l_is_name q_is_name k_is_name (fun _ _ _ _ _ _ us hl => match us, hl with | [_], _ => rfl),
    def_mk X G a_is_names l_is_names q_is_names k_is_names (fun _ _ _ _ _ _ us hl => match us, hl with | [_], _ => rfl),
    def_mk X G a_is_tuple_of l_is_tuple_of q_is_tuple_of k_is_tuple_of (fun _ _ _ _ _ _ us hl => match us, hl with | [_, _], _ => rfl),
    def_mk X G a_is_version l_is_version q_is_version k_is_version (fun _ _ _ _ _ _ us hl => match us, hl with | [_], _ => rfl),
    def_mk X G a_version_text l_version_text q_version_text k_version_text (fun _ _ _ _ _ _ us hl => match us, hl with | [_], _ => rfl),
    def_mk X G a_told_number l_told_number q_told_number k_told_number (fun _ _ _ _ _ _ us hl => match us, hl with | [_, _], _ => rfl),
    def_mk X G a_told_version l_told_version q_told_version k_told_version (fun _ _ _ _ _ _ us hl => match us, hl with | [_], _ => rfl),
    def_mk X G a_is_triple l_is_triple q_is_triple k_is_triple (fun _ _ _ _ _ _ us hl => match us, hl with | [_], _ => rfl),
    def_mk X G a_lines_of l_lines_of q_lines_of k_lines_of (fun _ _ _ _ _ _ us hl => match us, hl with | [_], _ => rfl),
    def_mk X G a_text_of l_text_of q_text_of k_text_of (fun _ _ _ _ _ _ us hl => match us, hl with | [_], _ => rfl),
    def_mk X G a_place_text l_place_text q_place_text k_place_text (fun _ _ _ _ _ _ us hl => match us, hl with | [_, _], _ => rfl),
    def_mk X G a_check_line l_check_line q_check_line k_check_line (fun _ _ _ _ _ _ us hl => match us, hl with | [_], _ => rfl),
    def_mk X G a_triple_line l_triple_line q_triple_line k_triple_line (fun _ _ _ _ _ _ us hl => match us, hl with | [_], _ => rfl),
    def_mk X G a_lock_text l_lock_text q_lock_text k_lock_text (fun _ _ _ _ _ _ us hl => match us, hl with | [_], _ => rfl),
    def_mk X G a_told_triple l_told_triple q_told_triple k_told_triple (fun _ _ _ _ _ _ us hl => match us, hl with | [_], _ => rfl),
    def_mk X G a_read_lock l_read_lock q_read_lock k_read_lock (fun _ _ _ _ _ _ us hl => match us, hl with | [_], _ => rfl),
    def_mk X G a__law_hand l__law_hand q__law_hand k__law_hand (fun _ _ _ _ _ _ us hl => match us, hl with | [_], _ => rfl),
    def_mk X G a__law_draw l__law_draw q__law_draw k__law_draw (fun _ _ _ _ _ _ us hl => match us, hl with | [_, _], _ => rfl),
    def_mk X G a__law_any l__law_any q__law_any k__law_any (fun _ _ _ _ _ _ us hl => match us, hl with | [_, _], _ => rfl),
    def_mk X G a__law_name l__law_name q__law_name k__law_name (fun _ _ _ _ _ _ us hl => match us, hl with | [_], _ => rfl),
    def_mk X G a__law_installation l__law_installation q__law_installation k__law_installation (fun _ _ _ _ _ _ us hl => match us, hl with | [_], _ => rfl),
    def_mk X G a__law_check l__law_check q__law_check k__law_check (fun _ _ _ _ _ _ us hl => match us, hl with | [_], _ => rfl),
    def_mk X G a__law_line l__law_line q__law_line k__law_line (fun _ _ _ _ _ _ us hl => match us, hl with | [_], _ => rfl),
    def_mk X G a__law_text l__law_text q__law_text k__law_text (fun _ _ _ _ _ _ us hl => match us, hl with | [_], _ => rfl),
    def_mk X G a__law_is_name l__law_is_name q__law_is_name k__law_is_name (fun _ _ _ _ _ _ us hl => match us, hl with | [_], _ => rfl),
    def_mk X G a__law_number l__law_number q__law_number k__law_number (fun _ _ _ _ _ _ us hl => match us, hl with | [_, _], _ => rfl),
    def_mk X G a__law_triple l__law_triple q__law_triple k__law_triple (fun _ _ _ _ _ _ us hl => match us, hl with | [_], _ => rfl),
    def_mk X G a__law_due l__law_due q__law_due k__law_due (fun _ _ _ _ _ _ us hl => match us, hl with | [_], _ => rfl),
    def_mk X G a__law_read l__law_read q__law_read k__law_read (fun _ _ _ _ _ _ us hl => match us, hl with | [_], _ => rfl),
    def_mk X G a__law_changed l__law_changed q__law_changed k__law_changed (fun _ _ _ _ _ _ us hl => match us, hl with | [_, _], _ => rfl),
    def_mk X G a__law_exchanged l__law_exchanged q__law_exchanged k__law_exchanged (fun _ _ _ _ _ _ us hl => match us, hl with | [_, _], _ => rfl),
    def_mk X G a__law_harmed l__law_harmed q__law_harmed k__law_harmed (fun _ _ _ _ _ _ us hl => match us, hl with | [_, _], _ => rfl),
    def_mk X G a_law l_law q_law k_law (fun _ _ _ _ _ _ us hl => match us, hl with | [_], _ => rfl),
    PySem.W.mg_none_of X G z_ValueError,
    PySem.W.mg_none_of X G z_abs,
    PySem.W.mg_none_of X G z_all,
    PySem.W.mg_none_of X G z_bool,
    PySem.W.mg_none_of X G z_enumerate,
    PySem.W.mg_none_of X G z_int,
    PySem.W.mg_none_of X G z_isinstance,
    PySem.W.mg_none_of X G z_len,
    PySem.W.mg_none_of X G z_max,
    PySem.W.mg_none_of X G z_min,
    PySem.W.mg_none_of X G z_ord,
    PySem.W.mg_none_of X G z_range,
    PySem.W.mg_none_of X G z_set,
    PySem.W.mg_none_of X G z_sorted,
    PySem.W.mg_none_of X G z_str,
    PySem.W.mg_none_of X G z_sum,
    PySem.W.mg_none_of X G z_tuple,
    Cst.of (PySem.W.mg_of X G n_NAME_MOST) r_NAME_MOST,
    Cst.of (PySem.W.mg_of X G n_NUMBER_MOST) r_NUMBER_MOST,
    Cst.of (PySem.W.mg_of X G n_NUMBER_DIGITS) r_NUMBER_DIGITS,
    Cst.of (PySem.W.mg_of X G n_CHECK_MODULUS) r_CHECK_MODULUS⟩
  have FL := fun_mk (st := S_law) l_law q_law k_law
  refine law_at (fd := PySem.W.fnOf "law" "law" (defArgs S_law) (defBody S_law) (defScope S_law) .none kV_law dc_law pm_law an_law cd_law ct_law) [] [] (fun _ z => nomatch z) (fun _ z => nomatch z) (fun _ z => nomatch z) (fun _ z => nomatch z) (fun s u => .of_eq rfl) fun base _ _ TT => ?_
  have E_BadLine : Er1 l.prog w K mg base 4 "BadLine" "number" := ⟨PySem.W.mg_of X G ea_BadLine, To_BadLine, fi_BadLine, _, ei_BadLine, ej_BadLine, init1_ok (fun_mk (st := SI_BadLine) el_BadLine eq_BadLine er_BadLine) sci_BadLine rfl To_BadLine en_BadLine (by decide) (by decide) (by first | exact Or.inl rfl | exact Or.inr (Or.inl rfl) | exact Or.inr (Or.inr rfl)) (by first | exact Or.inl rfl | exact Or.inr (Or.inl rfl) | exact Or.inr (Or.inr rfl)) (fun _ => rfl), (fun_mk (st := SI_BadLine) el_BadLine eq_BadLine er_BadLine).binds fun _ _ _ _ _ _ us hl => match us, hl with | [_, _], _ => rfl⟩
  have H_is_integer := h_is_integer (P := l.prog) (w := w) (base := base) (k := 0) GG CM.r_is_integer
  have H_is_number := h_is_number (P := l.prog) (w := w) (base := base) (k := 1) GG (H_is_integer.mono (by decide)) CM.r_is_number
  have H_is_name := h_is_name (P := l.prog) (w := w) (base := base) (k := 0) GG CM.r_is_name
  have H_is_names := h_is_names (P := l.prog) (w := w) (base := base) (k := 1) GG (H_is_name.mono (by decide)) CM.r_is_namesB
  have H_is_tuple_of := h_is_tuple_of (P := l.prog) (w := w) (base := base) (k := 0) GG CM.r_is_tuple_of
  have H_is_version := h_is_version (P := l.prog) (w := w) (base := base) (k := 2) GG (H_is_number.mono (by decide)) (H_is_tuple_of.mono (by decide)) CM.r_is_version
  have H_version_text := h_version_text (P := l.prog) (w := w) (base := base) (k := 0) GG CM.r_version_text
  have H_told_number := h_told_number (P := l.prog) (w := w) (base := base) (k := 0) GG CM.r_told_number
  have H_told_version := h_told_version (P := l.prog) (w := w) (base := base) (k := 3) GG (H_is_version.mono (by decide)) (H_told_number.mono (by decide)) CM.r_told_version
  have H_is_triple := h_is_triple (P := l.prog) (w := w) (base := base) (k := 3) GG (H_is_name.mono (by decide)) (H_is_names.mono (by decide)) (H_is_tuple_of.mono (by decide)) (H_is_version.mono (by decide)) CM.r_is_triple
  have H_lines_of := h_lines_of (P := l.prog) (w := w) (base := base) (k := 2) GG E_BadLine (by decide) CM.r_lines_of
  have H_text_of := h_text_of (P := l.prog) (w := w) (base := base) (k := 0) GG CM.r_text_of
  have H_text_ofY := h_text_of (P := l.prog) (w := w) (base := base) (k := 0) GG CM.r_text_ofB
  have H_place_text := h_place_text (P := l.prog) (w := w) (base := base) (k := 1) GG (H_version_text.mono (by decide)) CM.r_place_text
  have H_check_line := h_check_line (P := l.prog) (w := w) (base := base) (k := 0) GG CM.r_check_line
  have H_triple_line := h_triple_line (P := l.prog) (w := w) (base := base) (k := 2) GG (H_place_text.mono (by decide)) CM.r_triple_line
  have H_lock_text := h_lock_text (P := l.prog) (w := w) (base := base) (k := 3) GG (H_text_of.mono (by decide)) (H_check_line.mono (by decide)) (H_triple_line.mono (by decide)) CM.r_lock_text
  have H_told_triple := h_told_triple (P := l.prog) (w := w) (base := base) (k := 4) GG (H_told_version.mono (by decide)) (H_is_triple.mono (by decide)) CM.r_told_triple
  have H_read_lock := h_read_lock (P := l.prog) (w := w) (base := base) (k := 5) GG (H_lines_of.mono (by decide)) (H_text_ofY.mono (by decide)) (H_check_line.mono (by decide)) (H_told_triple.mono (by decide)) E_BadLine (by decide) CM.r_read_lock
  have H__law_hand := h__law_hand (P := l.prog) (w := w) (base := base) (k := 0) GG CM.r__law_hand_k41
  have H__law_draw := h__law_draw (P := l.prog) (w := w) (base := base) (k := 0) GG CM.r__law_draw_k41
  have H__law_any := h__law_any (P := l.prog) (w := w) (base := base) (k := 1) GG (H__law_draw.mono (by decide)) CM.r__law_any
  have H__law_name := h__law_name (P := l.prog) (w := w) (base := base) (k := 2) GG (H__law_draw.mono (by decide)) (H__law_any.mono (by decide)) CM.r__law_name
  have H__law_installation := h__law_installation (P := l.prog) (w := w) (base := base) (k := 3) GG (H__law_draw.mono (by decide)) (H__law_any.mono (by decide)) (H__law_name.mono (by decide)) CM.r__law_installation
  have H__law_check := h__law_check (P := l.prog) (w := w) (base := base) (k := 0) GG CM.r__law_check
  have H__law_line := h__law_line (P := l.prog) (w := w) (base := base) (k := 0) GG CM.r__law_line
  have H__law_text := h__law_text (P := l.prog) (w := w) (base := base) (k := 1) GG (H__law_check.mono (by decide)) (H__law_line.mono (by decide)) CM.r__law_text
  have H__law_is_name := h__law_is_name (P := l.prog) (w := w) (base := base) (k := 0) GG CM.r__law_is_name_k42
  have H__law_number := h__law_number (P := l.prog) (w := w) (base := base) (k := 0) GG CM.r__law_number
  have H__law_triple := h__law_triple (P := l.prog) (w := w) (base := base) (k := 1) GG (H__law_is_name.mono (by decide)) (H__law_number.mono (by decide)) CM.r__law_triple
  have H__law_due := h__law_due (P := l.prog) (w := w) (base := base) (k := 2) GG (H__law_check.mono (by decide)) (H__law_number.mono (by decide)) (H__law_triple.mono (by decide)) CM.r__law_due_k42
  have H__law_read := h__law_read (P := l.prog) (w := w) (base := base) (k := 6) GG (H_read_lock.mono (by decide)) CM.r__law_read
  have H__law_changed := h__law_changed (P := l.prog) (w := w) (base := base) (k := 2) GG (H__law_draw.mono (by decide)) (H__law_any.mono (by decide)) CM.r__law_changed
  have H__law_exchanged := h__law_exchanged (P := l.prog) (w := w) (base := base) (k := 2) GG (H__law_draw.mono (by decide)) (H__law_any.mono (by decide)) CM.r__law_exchanged
  have H__law_harmed := h__law_harmed (P := l.prog) (w := w) (base := base) (k := 3) GG (H__law_draw.mono (by decide)) (H__law_any.mono (by decide)) (H__law_changed.mono (by decide)) (H__law_exchanged.mono (by decide)) CM.r__law_harmed
  exact h_law (k := 7) GG FL (H_lock_text.mono (by decide)) (H__law_hand.mono (by decide)) (H__law_installation.mono (by decide)) (H__law_text.mono (by decide)) (H__law_due.mono (by decide)) (H__law_read.mono (by decide)) (H__law_harmed.mono (by decide)) CM.r_law_k43
theorem walk {l : PySem.W.OpenLaw} {q : Program} {loose : List Str} {XP : (Str → Option Value) → Heap → Prop} {YP : World → Heap → Prop} {d : DefRec} {K : Params → PySem.W.Frag} (hn : l.most = some 63) (hdf : d.params.defaults = []) (hY : ∀ (w : World) (h : Heap), YP w h → (K w.params).In h)
    (F : ∀ (w : World) (mg : Str → Option Value) (fa : Addr) (h : Heap), YP w h → (K w.params).In h → h.Ns mainGlobals mg → mg d.name = some (.ref fa) → LamX.LawAtS l w (K w.params) (L2.CX l.prog w) 8 63 "script" mg fa h) :
    PySem.W.WalkO q loose XP YP l.row.toRowW d [] (fun f vs => PySem.call f vs) :=
  LamX.walk_ofTs (n := 63) (k := 8) (x := "script") (CX := fun w => L2.CX l.prog w) hn (by decide) hdf ⟨rfl, by decide, by decide⟩ hY F fun _ _ _ _ _ z => DL.cx_false z
end Lk43
open PySem PySem.W PyProof.Rows
set_option maxRecDepth 100000 in
set_option maxHeartbeats 0 in
theorem PySem.Challenge.cw_lockwright_k43_whole_harmed_lock_texts_n_holds : PySem.Challenge.rw_lockwright_k43_whole_harmed_lock_texts_n.Holds := by
  w_on; o_law; k_head; (case hw => w_witness2)
  k_fill
  refine Lk43.walk (l := PySem.Challenge.rw_lockwright_k43_whole_harmed_lock_texts_n) rfl rfl (fun w h Y => PySem.W.kIn_of Y) ?F
  case F =>
    intro w mg fa h Y KX G hmg
    refine' Lk43.all_mk KX G hmg ?a_is_integer ?l_is_integer ?q_is_integer ?k_is_integer ?a_is_number ?l_is_number ?q_is_number ?k_is_number ?a_is_name ?l_is_name ?q_is_name ?k_is_name ?a_is_names ?l_is_names ?q_is_names ?k_is_names ?a_is_tuple_of ?l_is_tuple_of ?q_is_tuple_of ?k_is_tuple_of ?a_is_version ?l_is_version ?q_is_version ?k_is_version ?a_version_text ?l_version_text ?q_version_text ?k_version_text ?a_told_number ?l_told_number ?q_told_number ?k_told_number ?a_told_version ?l_told_version ?q_told_version ?k_told_version ?a_is_triple ?l_is_triple ?q_is_triple ?k_is_triple ?a_lines_of ?l_lines_of ?q_lines_of ?k_lines_of ?a_text_of ?l_text_of ?q_text_of ?k_text_of ?a_place_text ?l_place_text ?q_place_text ?k_place_text ?a_check_line ?l_check_line ?q_check_line ?k_check_line ?a_triple_line ?l_triple_line ?q_triple_line ?k_triple_line ?a_lock_text ?l_lock_text ?q_lock_text ?k_lock_text ?a_told_triple ?l_told_triple ?q_told_triple ?k_told_triple ?a_read_lock ?l_read_lock ?q_read_lock ?k_read_lock ?a__law_hand ?l__law_hand ?q__law_hand ?k__law_hand ?a__law_draw ?l__law_draw ?q__law_draw ?k__law_draw ?a__law_any ?l__law_any ?q__law_any ?k__law_any ?a__law_name ?l__law_name ?q__law_name ?k__law_name ?a__law_installation ?l__law_installation ?q__law_installation ?k__law_installation ?a__law_check ?l__law_check ?q__law_check ?k__law_check ?a__law_line ?l__law_line ?q__law_line ?k__law_line ?a__law_text ?l__law_text ?q__law_text ?k__law_text ?a__law_is_name ?l__law_is_name ?q__law_is_name ?k__law_is_name ?a__law_number ?l__law_number ?q__law_number ?k__law_number ?a__law_triple ?l__law_triple ?q__law_triple ?k__law_triple ?a__law_due ?l__law_due ?q__law_due ?k__law_due ?a__law_read ?l__law_read ?q__law_read ?k__law_read ?a__law_changed ?l__law_changed ?q__law_changed ?k__law_changed ?a__law_exchanged ?l__law_exchanged ?q__law_exchanged ?k__law_exchanged ?a__law_harmed ?l__law_harmed ?q__law_harmed ?k__law_harmed ?a_law ?l_law ?q_law ?k_law ?z_ValueError ?z_abs ?z_all ?z_bool ?z_enumerate ?z_int ?z_isinstance ?z_len ?z_max ?z_min ?z_ord ?z_range ?z_set ?z_sorted ?z_str ?z_sum ?z_tuple ?ea_LockError ?ea_BadText ?ea_BadLine ?es_BadLine ?et_BadLine ?eh_BadLine ?ex_BadLine ?ew_BadLine ?ek_BadLine ?ei_BadLine ?ej_BadLine ?el_BadLine ?eq_BadLine ?er_BadLine ?en_BadLine ?eg_BadLine ?eu_BadLine ?ec_BadLine ?eo_BadLine ?e_sp ?e_tk ?fb_BadLine ?fh_BadLine ?ft_BadLine ?eb_BadLine_BadLine ?fb_BadText ?fh_BadText ?ft_BadText ?eb_BadLine_BadText ?fb_LockError ?fh_LockError ?ft_LockError ?eb_BadLine_LockError ?eb_BadLine_ValueError ?n_NAME_MOST ?r_NAME_MOST ?n_NUMBER_MOST ?r_NUMBER_MOST ?n_NUMBER_DIGITS ?r_NUMBER_DIGITS ?n_CHECK_MODULUS ?r_CHECK_MODULUS
    (case a_is_integer => k_is)
    (case l_is_integer => k_is)
    (case q_is_integer => k_is)
    (case k_is_integer => k_is)
    (case a_is_number => k_is)
    (case l_is_number => k_is)
    (case q_is_number => k_is)
    (case k_is_number => k_is)
    (case a_is_name => k_is)
    (case l_is_name => k_is)
    (case q_is_name => k_is)
    (case k_is_name => k_is)
    (case a_is_names => k_is)
    (case l_is_names => k_is)
    (case q_is_names => k_is)
    (case k_is_names => k_is)
    (case a_is_tuple_of => k_is)
    (case l_is_tuple_of => k_is)
    (case q_is_tuple_of => k_is)
    (case k_is_tuple_of => k_is)
    (case a_is_version => k_is)
    (case l_is_version => k_is)
    (case q_is_version => k_is)
    (case k_is_version => k_is)
    (case a_version_text => k_is)
    (case l_version_text => k_is)
    (case q_version_text => k_is)
    (case k_version_text => k_is)
    (case a_told_number => k_is)
    (case l_told_number => k_is)
    (case q_told_number => k_is)
    (case k_told_number => k_is)
    (case a_told_version => k_is)
    (case l_told_version => k_is)
    (case q_told_version => k_is)
    (case k_told_version => k_is)
    (case a_is_triple => k_is)
    (case l_is_triple => k_is)
    (case q_is_triple => k_is)
    (case k_is_triple => k_is)
    (case a_lines_of => k_is)
    (case l_lines_of => k_is)
    (case q_lines_of => k_is)
    (case k_lines_of => k_is)
    (case a_text_of => k_is)
    (case l_text_of => k_is)
    (case q_text_of => k_is)
    (case k_text_of => k_is)
    (case a_place_text => k_is)
    (case l_place_text => k_is)
    (case q_place_text => k_is)
    (case k_place_text => k_is)
    (case a_check_line => k_is)
    (case l_check_line => k_is)
    (case q_check_line => k_is)
    (case k_check_line => k_is)
    (case a_triple_line => k_is)
    (case l_triple_line => k_is)
    (case q_triple_line => k_is)
    (case k_triple_line => k_is)
    (case a_lock_text => k_is)
    (case l_lock_text => k_is)
    (case q_lock_text => k_is)
    (case k_lock_text => k_is)
    (case a_told_triple => k_is)
    (case l_told_triple => k_is)
    (case q_told_triple => k_is)
    (case k_told_triple => k_is)
    (case a_read_lock => k_is)
    (case l_read_lock => k_is)
    (case q_read_lock => k_is)
    (case k_read_lock => k_is)
    (case a__law_hand => k_is)
    (case l__law_hand => k_is)
    (case q__law_hand => k_is)
    (case k__law_hand => k_is)
    (case a__law_draw => k_is)
    (case l__law_draw => k_is)
    (case q__law_draw => k_is)
    (case k__law_draw => k_is)
    (case a__law_any => k_is)
    (case l__law_any => k_is)
    (case q__law_any => k_is)
    (case k__law_any => k_is)
    (case a__law_name => k_is)
    (case l__law_name => k_is)
    (case q__law_name => k_is)
    (case k__law_name => k_is)
    (case a__law_installation => k_is)
    (case l__law_installation => k_is)
    (case q__law_installation => k_is)
    (case k__law_installation => k_is)
    (case a__law_check => k_is)
    (case l__law_check => k_is)
    (case q__law_check => k_is)
    (case k__law_check => k_is)
    (case a__law_line => k_is)
    (case l__law_line => k_is)
    (case q__law_line => k_is)
    (case k__law_line => k_is)
    (case a__law_text => k_is)
    (case l__law_text => k_is)
    (case q__law_text => k_is)
    (case k__law_text => k_is)
    (case a__law_is_name => k_is)
    (case l__law_is_name => k_is)
    (case q__law_is_name => k_is)
    (case k__law_is_name => k_is)
    (case a__law_number => k_is)
    (case l__law_number => k_is)
    (case q__law_number => k_is)
    (case k__law_number => k_is)
    (case a__law_triple => k_is)
    (case l__law_triple => k_is)
    (case q__law_triple => k_is)
    (case k__law_triple => k_is)
    (case a__law_due => k_is)
    (case l__law_due => k_is)
    (case q__law_due => k_is)
    (case k__law_due => k_is)
    (case a__law_read => k_is)
    (case l__law_read => k_is)
    (case q__law_read => k_is)
    (case k__law_read => k_is)
    (case a__law_changed => k_is)
    (case l__law_changed => k_is)
    (case q__law_changed => k_is)
    (case k__law_changed => k_is)
    (case a__law_exchanged => k_is)
    (case l__law_exchanged => k_is)
    (case q__law_exchanged => k_is)
    (case k__law_exchanged => k_is)
    (case a__law_harmed => k_is)
    (case l__law_harmed => k_is)
    (case q__law_harmed => k_is)
    (case k__law_harmed => k_is)
    (case a_law => k_is)
    (case l_law => k_is)
    (case q_law => k_is)
    (case k_law => k_is)
    (case z_ValueError => k_is)
    (case z_abs => k_is)
    (case z_all => k_is)
    (case z_bool => k_is)
    (case z_enumerate => k_is)
    (case z_int => k_is)
    (case z_isinstance => k_is)
    (case z_len => k_is)
    (case z_max => k_is)
    (case z_min => k_is)
    (case z_ord => k_is)
    (case z_range => k_is)
    (case z_set => k_is)
    (case z_sorted => k_is)
    (case z_str => k_is)
    (case z_sum => k_is)
    (case z_tuple => k_is)
    (case n_NAME_MOST => k_is)
    (case n_NUMBER_MOST => k_is)
    (case n_NUMBER_DIGITS => k_is)
    (case n_CHECK_MODULUS => k_is)
    (case ea_LockError => k_is)
    (case ea_BadText => k_is)
    (case ea_BadLine => k_is)
    (case es_BadLine => k_is)
    (case et_BadLine => k_is)
    (case eh_BadLine => k_is)
    (case ex_BadLine => k_is)
    (case ew_BadLine => k_is)
    (case ek_BadLine => k_is)
    (case ei_BadLine => k_is)
    (case ej_BadLine => k_is)
    (case el_BadLine => k_is)
    (case eq_BadLine => k_is)
    (case er_BadLine => k_is)
    (case en_BadLine => k_is)
    (case eg_BadLine => k_is)
    (case eu_BadLine => k_is)
    (case ec_BadLine => k_is)
    (case eo_BadLine => k_is)
    (case e_sp => k_is)
    (case e_tk => k_is)
    (case fb_BadLine => k_is)
    (case fh_BadLine => k_is)
    (case ft_BadLine => k_is)
    (case eb_BadLine_BadLine => k_is)
    (case fb_BadText => k_is)
    (case fh_BadText => k_is)
    (case ft_BadText => k_is)
    (case eb_BadLine_BadText => k_is)
    (case fb_LockError => k_is)
    (case fh_LockError => k_is)
    (case ft_LockError => k_is)
    (case eb_BadLine_LockError => k_is)
    (case eb_BadLine_ValueError => k_is)
    (case r_NAME_MOST => (letI : DL.TabCtx := ⟨[], []⟩; exact ⟨_, rfl⟩))
    (case r_NUMBER_MOST => (letI : DL.TabCtx := ⟨[], []⟩; exact ⟨_, rfl⟩))
    (case r_NUMBER_DIGITS => (letI : DL.TabCtx := ⟨[], []⟩; exact ⟨_, rfl⟩))
    (case r_CHECK_MODULUS => (letI : DL.TabCtx := ⟨[], []⟩; exact ⟨_, rfl⟩))
