import PyProof.Rows.All
import Wide.All
import OpenK.AllK
import Wide.FinOn
import HandS.ForMost
import HandS.Flow
import HandS.IsInst
import HandS.TupLe
import HandS.TupAny
import HandS.ForExc
import HandS.ExcInit
import HandS.CallSlots
import HandS.EndTab
import HandS.Zip
import HandS.Walk
import KE.GoesMore
import KE.GoesEnum
import KE.DataCmp
import KE.SortData
import KE.DataMinMax
import HandS.ExcValue
import HandS.SortKw
import KE.SortKeyHeap
import KE.KSortKey
import HandS.TupSets
import PyProof.MinMaxWalk
import PyProof.EnumMake
import PyProof.Draws
import HandS.Style
import HandS.Text
import HandS.StrMore
import HandS.FStr
import HandS.RaiseMore
import HandS.Dict
import KE.KExcIs
import HandS.ExcField
import HandS.ExcIs
import HandS.TryOnly
import HandS.ExcBuiltin
import HandS.More
import HandS.OwnEq
import HandS.Codes
import HandS.Star
import HandS.Set
import HandS.SetFor
import HandS.Strs
import HandS.Small
import PyProof.Rows.StrRev
import PyProof.StrOps2
import PyProof.Rows.StrFit
import KE.LtData
import PyProof.Rows.StrItems
import PyProof.StrLawsChain
import KE.IntTextText
import KE.KStrOpen
import PyProof.Rows.StrLawsPart
import PySem.Challenge.RW_lockwright_k42_whole_first_wrong_lines
set_option Elab.async false
set_option linter.all false
set_option maxRecDepth 100000
set_option autoImplicit false
namespace DL
open PySem L2 PySem.Spec
open PyProof.Rows hiding St
inductive D where
  | non | bl (b : Bool) | int (i : Int) | str (x : Str) | tup (ds : List D) | fls (ds : List D) | loc (n : Nat) | adr (a : Addr) | ty (n : String)
inductive Ob where
  | lst (ds : List D)
  | ins (C : Addr) (fs : List (Str × D))
  | dK (kvs : List (Key × D))
  /-- an exception made and not raised, its class, its dict's place -/
  | err (e C : Addr) (d : Option Addr)
  /-- that dict -/
  | xdt (dx : Addr) (fs : List (Str × D))
  /-- a dict that nothing writes to -/
  | dkF (o : Obj) (kvs : List (Key × D))
abbrev Sto := List Ob
abbrev Env' := List (Option D)
/-- a list that nothing writes to -/
def FzL (K : PySem.W.Frag) (H : Hp) (a : Addr) (xs : List V) : Prop :=
  (∃ o, H a = some (.frz o (.lst xs))) ∨
    ∃ (o : Obj) (its : Array Value) (n : Nat), K.lookup a = some o ∧ o.cls = .type "list" ∧ o.dict = none ∧ o.data = .seq its n ∧ its.size ≤ sizeLine ∧ Vals xs its.toList
theorem FzL.sq {K : PySem.W.Frag} {H : Hp} {a : Addr} {xs : List V} (h : FzL K H a xs) : SqL K H a xs := by
  rcases h with h | h
  · exact .inl (.inr h)
  · exact .inr h
mutual
def Rep (K : PySem.W.Frag) (H : Hp) (μ : List Addr) : D → V → Prop
  | .non, v => v = .non
  | .bl b, v => v = .bl b
  | .int i, v => v = .int i
  | .str x, v => v = .str x
  | .tup ds, v => ∃ a vs, v = .ref a ∧ SqT K H a vs ∧ Reps K H μ ds vs
  | .fls ds, v => ∃ a vs, v = .ref a ∧ FzL K H a vs ∧ Reps K H μ ds vs
  | .loc n, v => ∃ a, v = .ref a ∧ μ[n]? = some a
  | .adr a, v => v = .ref a
  | .ty n, v => v = .ty n
def Reps (K : PySem.W.Frag) (H : Hp) (μ : List Addr) : List D → List V → Prop
  | [], vs => vs = []
  | d :: ds, vs => ∃ v r, vs = v :: r ∧ Rep K H μ d v ∧ Reps K H μ ds r
end
/-- what may have come behind: nothing tracked is changed but what the store holds -/
structure Ext0 (H H' : Hp) (μ μ' : List Addr) : Prop where
  pre : ∀ (n : Nat) (a : Addr), μ[n]? = some a → μ'[n]? = some a
  tup : ∀ a xs, H a = some (.tup xs) → H' a = some (.tup xs)
  frz : ∀ a o u, H a = some (.frz o u) → H' a = some (.frz o u)
structure Ext (H H' : Hp) (μ μ' : List Addr) : Prop extends Ext0 H H' μ μ' where
  fra : ∀ a o, H a = some o → a ∉ μ → (∀ ps, o ≠ .tbl ps) → H' a = some o
  new : ∀ a, a ∈ μ' → a ∈ μ ∨ ∀ o, H a = some o → ∃ ps, o = .tbl ps
section
variable {K : PySem.W.Frag} {H H1 H2 H' : Hp} {μ μ1 μ2 μ' : List Addr}
theorem Ext.refl (H : Hp) (μ : List Addr) : Ext H H μ μ := ⟨⟨fun _ _ h => h, fun _ _ h => h, fun _ _ _ h => h⟩, fun _ _ h _ _ => h, fun _ h => .inl h⟩
theorem Ext.trans (x : Ext H H1 μ μ1) (y : Ext H1 H2 μ1 μ2) : Ext H H2 μ μ2 where
  pre n a h := y.pre n a (x.pre n a h)
  tup a xs h := y.tup a xs (x.tup a xs h)
  frz a o u h := y.frz a o u (x.frz a o u h)
  fra a o h hm hn := y.fra a o (x.fra a o h hm hn) (fun z => by
    rcases x.new a z with q | q
    · exact hm q
    · obtain ⟨ps, e⟩ := q o h
      exact hn ps e) hn
  new a h := by
    rcases y.new a h with q | q
    · exact x.new a q
    · by_cases hm : a ∈ μ
      · exact .inl hm
      · right
        intro o e
        by_cases ht : ∃ ps, o = .tbl ps
        · exact ht
        · exact q o (x.fra a o e hm fun ps z => ht ⟨ps, z⟩)
theorem Ext0.sqT (x : Ext0 H H' μ μ') {a : Addr} {xs : List V} (h : SqT K H a xs) : SqT K H' a xs := by
  rcases h with (h | ⟨o, h⟩) | h
  · exact .inl (.inl (x.tup _ _ h))
  · exact .inl (.inr ⟨o, x.frz _ _ _ h⟩)
  · exact .inr h
theorem Ext0.fzL (x : Ext0 H H' μ μ') {a : Addr} {xs : List V} (h : FzL K H a xs) : FzL K H' a xs := by
  rcases h with ⟨o, h⟩ | h
  · exact .inl ⟨o, x.frz _ _ _ h⟩
  · exact .inr h
mutual
theorem Rep.mono0 (x : Ext0 H H' μ μ') : ∀ {d : D} {v : V}, Rep K H μ d v → Rep K H' μ' d v
  | .non, _, h => h
  | .bl _, _, h => h
  | .int _, _, h => h
  | .str _, _, h => h
  | .tup ds, _, h => by
    obtain ⟨a, vs, e, s, r⟩ := h
    exact ⟨a, vs, e, x.sqT s, Reps.mono0 x r⟩
  | .fls ds, _, h => by
    obtain ⟨a, vs, e, s, r⟩ := h
    exact ⟨a, vs, e, x.fzL s, Reps.mono0 x r⟩
  | .loc n, _, h => by
    obtain ⟨a, e, q⟩ := h
    exact ⟨a, e, x.pre n a q⟩
  | .adr _, _, h => h
  | .ty _, _, h => h
theorem Reps.mono0 (x : Ext0 H H' μ μ') : ∀ {ds : List D} {vs : List V}, Reps K H μ ds vs → Reps K H' μ' ds vs
  | [], _, h => h
  | d :: ds, _, h => by
    obtain ⟨v, r, e, h1, h2⟩ := h
    exact ⟨v, r, e, Rep.mono0 x h1, Reps.mono0 x h2⟩
end
theorem Rep.mono (x : Ext H H' μ μ') {d : D} {v : V} (h : Rep K H μ d v) : Rep K H' μ' d v := h.mono0 x.toExt0
theorem Reps.mono (x : Ext H H' μ μ') {d : List D} {v : List V} (h : Reps K H μ d v) : Reps K H' μ' d v := h.mono0 x.toExt0
theorem Reps.length : ∀ {ds : List D} {vs : List V}, Reps K H μ ds vs → ds.length = vs.length
  | [], _, h => by subst h; rfl
  | d :: ds, _, h => by
    obtain ⟨v, r, rfl, _, h2⟩ := h
    simp [Reps.length h2]
theorem Reps.get : ∀ {ds : List D} {vs : List V} {i : Nat} {d : D}, Reps K H μ ds vs → ds[i]? = some d → ∃ v, vs[i]? = some v ∧ Rep K H μ d v
  | [], _, i, d, h, e => by simp at e
  | x :: ds, _, 0, d, h, e => by
    obtain ⟨v, r, rfl, h1, _⟩ := h
    simp at e; subst e
    exact ⟨v, rfl, h1⟩
  | x :: ds, _, i + 1, d, h, e => by
    obtain ⟨v, r, rfl, _, h2⟩ := h
    simpa using Reps.get (i := i) h2 (by simpa using e)
theorem Reps.append : ∀ {ds es : List D} {vs us : List V}, Reps K H μ ds vs → Reps K H μ es us → Reps K H μ (ds ++ es) (vs ++ us)
  | [], _, _, _, h, g => by subst h; exact g
  | d :: ds, es, _, us, h, g => by
    obtain ⟨v, r, rfl, h1, h2⟩ := h
    exact ⟨v, r ++ us, rfl, h1, Reps.append h2 g⟩
theorem Reps.one {d : D} {v : V} (h : Rep K H μ d v) : Reps K H μ [d] [v] := ⟨v, [], rfl, h, rfl⟩
theorem Reps.take : ∀ {ds : List D} {vs : List V} (n : Nat), Reps K H μ ds vs → Reps K H μ (ds.take n) (vs.take n)
  | _, _, 0, _ => rfl
  | [], _, n + 1, h => by subst h; rfl
  | d :: ds, _, n + 1, h => by
    obtain ⟨v, r, rfl, h1, h2⟩ := h
    exact ⟨v, r.take n, rfl, h1, Reps.take n h2⟩
theorem Reps.drop : ∀ {ds : List D} {vs : List V} (n : Nat), Reps K H μ ds vs → Reps K H μ (ds.drop n) (vs.drop n)
  | _, _, 0, h => h
  | [], _, n + 1, h => by subst h; rfl
  | d :: ds, _, n + 1, h => by
    obtain ⟨v, r, rfl, h1, h2⟩ := h
    exact Reps.drop n h2
theorem Reps.set : ∀ {ds : List D} {vs : List V} (n : Nat) {d : D} {v : V}, Reps K H μ ds vs → Rep K H μ d v → Reps K H μ (ds.set n d) (vs.set n v)
  | [], _, n, _, _, h, _ => by subst h; rfl
  | d :: ds, _, 0, e, u, h, g => by
    obtain ⟨v, r, rfl, h1, h2⟩ := h
    exact ⟨u, r, rfl, g, h2⟩
  | d :: ds, _, n + 1, e, u, h, g => by
    obtain ⟨v, r, rfl, h1, h2⟩ := h
    exact ⟨v, r.set n u, rfl, h1, Reps.set n h2 g⟩
theorem Reps.reverse : ∀ {ds : List D} {vs : List V}, Reps K H μ ds vs → Reps K H μ ds.reverse vs.reverse
  | [], _, h => by subst h; rfl
  | d :: ds, _, h => by
    obtain ⟨v, r, rfl, h1, h2⟩ := h
    simp only [List.reverse_cons]
    exact (Reps.reverse h2).append (Reps.one h1)
def OFs (K : PySem.W.Frag) (H : Hp) (μ : List Addr) (fs : List (Str × D)) (gs : List (Str × V)) : Prop := fs.map (·.1) = gs.map (·.1) ∧ Reps K H μ (fs.map (·.2)) (gs.map (·.2))
def OKv (K : PySem.W.Frag) (H : Hp) (μ : List Addr) (fs : List (Key × D)) (gs : List (Key × V)) : Prop := fs.map (·.1) = gs.map (·.1) ∧ Reps K H μ (fs.map (·.2)) (gs.map (·.2))
def ORep (K : PySem.W.Frag) (H : Hp) (μ : List Addr) : Ob → HO → Prop
  | .lst ds, o => ∃ vs, o = .lst vs ∧ Reps K H μ ds vs
  | .ins C fs, o => ∃ dx gs, o = .ins C dx gs ∧ OFs K H μ fs gs
  | .dK kvs, o => ∃ gs, o = .dK gs ∧ OKv K H μ kvs gs
  | .err e C d, o => o = exo e C d
  | .xdt dx fs, o => ∃ gs, o = exd dx gs ∧ OFs K H μ fs gs
  | .dkF od kvs, o => ∃ gs, o = .frz od (.dK gs) ∧ OKv K H μ kvs gs
theorem ORep.mono0 (x : Ext0 H H' μ μ') : ∀ {b : Ob} {o : HO}, ORep K H μ b o → ORep K H' μ' b o
  | .lst ds, _, h => by obtain ⟨vs, e, r⟩ := h; exact ⟨vs, e, r.mono0 x⟩
  | .ins C fs, _, h => by obtain ⟨dx, gs, e, r1, r2⟩ := h; exact ⟨dx, gs, e, r1, r2.mono0 x⟩
  | .dK fs, _, h => by obtain ⟨gs, e, r1, r2⟩ := h; exact ⟨gs, e, r1, r2.mono0 x⟩
  | .err _ _ _, _, h => h
  | .xdt dx fs, _, h => by obtain ⟨gs, e, r1, r2⟩ := h; exact ⟨gs, e, r1, r2.mono0 x⟩
  | .dkF od fs, _, h => by obtain ⟨gs, e, r1, r2⟩ := h; exact ⟨gs, e, r1, r2.mono0 x⟩
theorem ORep.mono (x : Ext H H' μ μ') {b : Ob} {o : HO} (h : ORep K H μ b o) : ORep K H' μ' b o := h.mono0 x.toExt0
/-- the tables of code objects that defs with lambdas fill -/
class TabCtx where
  T : List (Addr × Str)
  /-- the dicts of the exceptions that are held, and what stands in them -/
  xs : List (Addr × List (Str × D))
variable [TC : TabCtx]
def ExcAt (K : PySem.W.Frag) (H : Hp) (μ : List Addr) : Prop := ∀ p ∈ TC.xs, p.1 ∉ μ ∧ ∃ gs, H p.1 = some (.xd gs) ∧ OFs K H μ p.2 gs
theorem ExcAt.ext (s : ExcAt K H μ) (x : Ext H H' μ μ') : ExcAt K H' μ' := fun p hp => by
  obtain ⟨hn, gs, e, r1, r2⟩ := s p hp
  refine ⟨fun z => ?_, gs, x.fra _ _ e hn (fun ps z => nomatch z), r1, r2.mono x⟩
  rcases x.new _ z with q | q
  · exact hn q
  · obtain ⟨ps, q⟩ := q _ e
    cases q
theorem ORep.plain : ∀ {b : Ob} {o : HO}, ORep K H μ b o → ∀ ps, o ≠ .tbl ps
  | .lst ds, _, h => by obtain ⟨vs, rfl, r⟩ := h; exact fun _ z => (nomatch z)
  | .ins C fs, _, h => by obtain ⟨dx, gs, rfl, r⟩ := h; exact fun _ z => (nomatch z)
  | .dK fs, _, h => by obtain ⟨gs, rfl, r⟩ := h; exact fun _ z => (nomatch z)
  | .err e C d, o, h => fun ps z => exo_tbl ((show o = exo e C d from h).symm.trans z)
  | .xdt dx fs, _, h => by
    obtain ⟨gs, rfl, r⟩ := h
    intro ps z
    have z' : HO.ext _ = HO.tbl ps := z
    cases z'
  | .dkF od fs, _, h => by obtain ⟨gs, rfl, r⟩ := h; exact fun _ z => (nomatch z)
/-- the tables, where a thing that is none of theirs is written -/
theorem tabs_upd {T : List (Addr × Str)} {p : Addr} {u : HO} (h : LamX.Tabs T H) (hp : ∀ o, H p = some o → (∀ ps, o ≠ .tbl ps) ∧ ∀ f, o ≠ .ext f) : LamX.Tabs T (upd H p u) := fun q hq => by
  obtain ⟨ps, h1, h2, h3⟩ := h q hq
  refine ⟨ps, ?_, h2, fun pos cv hc => ?_⟩
  · rw [upd_ne (fun e => by rw [e] at h1; exact (hp _ h1).1 ps rfl)]; exact h1
  · obtain ⟨c, e1, e2⟩ := h3 pos cv hc
    exact ⟨c, e1, by rw [upd_ne (fun e => by rw [e] at e2; exact (hp _ e2).2 _ rfl)]; exact e2⟩
structure SRep (K : PySem.W.Frag) (st : Sto) (μ : List Addr) (H : Hp) : Prop where
  len : st.length = μ.length
  nd : μ.Nodup
  at' : ∀ (n : Nat) (b : Ob), st[n]? = some b → ∃ a o, μ[n]? = some a ∧ H a = some o ∧ ORep K H μ b o
  tab : LamX.Tabs TC.T H
  exc : ExcAt K H μ
theorem SRep.mem {st : Sto} (s : SRep K st μ H) {a : Addr} (h : a ∈ μ) : ∃ (n : Nat) (b : Ob) (o : HO), μ[n]? = some a ∧ st[n]? = some b ∧ H a = some o ∧ ORep K H μ b o := by
  obtain ⟨n, e⟩ := List.mem_iff_getElem?.mp h
  have hn : n < st.length := by
    rw [s.len]
    exact (List.getElem?_eq_some_iff.mp e).1
  obtain ⟨a', o, e', ho, r⟩ := s.at' n _ (List.getElem?_eq_getElem hn)
  rw [e] at e'; cases e'
  exact ⟨n, _, o, e, List.getElem?_eq_getElem hn, ho, r⟩
theorem SRep.not_mem {st : Sto} (s : SRep K st μ H) {a : Addr} (h : H a = none) : a ∉ μ := fun hm => by
  obtain ⟨n, b, o, _, _, ho, _⟩ := s.mem hm
  rw [h] at ho; cases ho
/-- a new thing that the store does not hold (a tuple) -/
theorem Ext.laid {p : Addr} {o : HO} (h : H p = none) : Ext H (upd H p o) μ μ where
  pre _ _ q := q
  tup a xs q := by rw [upd_ne (ne_of_none q h)]; exact q
  frz a ob u q := by rw [upd_ne (ne_of_none q h)]; exact q
  fra a ob q _ _ := by rw [upd_ne (ne_of_none q h)]; exact q
  new a q := .inl q
theorem SRep.ext {st : Sto} (s : SRep K st μ H) (x : Ext H H' μ μ) (k : ∀ a o, a ∈ μ → H a = some o → H' a = some o) (ht : LamX.Tabs TC.T H') : SRep K st μ H' :=
  ⟨s.len, s.nd, fun n b e => by
    obtain ⟨a, o, e1, e2, r⟩ := s.at' n b e
    exact ⟨a, o, e1, k a o (List.mem_of_getElem? e1) e2, r.mono x⟩, ht, s.exc.ext x⟩
theorem SRep.laid {st : Sto} (s : SRep K st μ H) {p : Addr} {o : HO} (h : H p = none) : SRep K st μ (upd H p o) :=
  s.ext (Ext.laid h) (fun a ob _ q => by rw [upd_ne (ne_of_none q h)]; exact q) (tabs_upd s.tab fun o q => by rw [h] at q; cases q)
/-- a new thing that the store holds -/
theorem Ext.push {p : Addr} {o : HO} (h : H p = none) : Ext H (upd H p o) μ (μ ++ [p]) where
  pre n a q := by rw [List.getElem?_append_left (List.getElem?_eq_some_iff.mp q).1]; exact q
  tup a xs q := by rw [upd_ne (ne_of_none q h)]; exact q
  frz a ob u q := by rw [upd_ne (ne_of_none q h)]; exact q
  fra a ob q _ _ := by rw [upd_ne (ne_of_none q h)]; exact q
  new a q := by
    rcases List.mem_append.mp q with q | q
    · exact .inl q
    · rw [List.mem_singleton.mp q]; exact .inr fun o q => by rw [h] at q; cases q
theorem SRep.push {st : Sto} (s : SRep K st μ H) {p : Addr} {o : HO} {b : Ob} (h : H p = none) (r : ORep K (upd H p o) (μ ++ [p]) b o) : SRep K (st ++ [b]) (μ ++ [p]) (upd H p o) := by
  refine ⟨by simp [s.len], ?_, fun n c e => ?_, tabs_upd s.tab (fun o q => by rw [h] at q; cases q), s.exc.ext (Ext.push h)⟩
  · refine List.nodup_append.mpr ⟨s.nd, by simp, fun a ha b hb => ?_⟩
    rw [List.mem_singleton.mp hb]
    intro e
    exact s.not_mem h (e ▸ ha)
  · by_cases hn : n < st.length
    · rw [List.getElem?_append_left hn] at e
      obtain ⟨a, ob, e1, e2, r2⟩ := s.at' n c e
      refine ⟨a, ob, ?_, ?_, r2.mono (Ext.push h)⟩
      · rw [List.getElem?_append_left (List.getElem?_eq_some_iff.mp e1).1]; exact e1
      · rw [upd_ne (ne_of_none e2 h)]; exact e2
    · have hn' : n = st.length := by
        have := (List.getElem?_eq_some_iff.mp e).1
        simp at this
        omega
      subst hn'
      rw [List.getElem?_append_right (Nat.le_refl _)] at e
      simp at e
      subst e
      refine ⟨p, o, ?_, upd_same, r⟩
      rw [s.len, List.getElem?_append_right (Nat.le_refl _)]
      simp
/-- a thing of the store is written -/
theorem SRep.write {st : Sto} (s : SRep K st μ H) {n : Nat} {p : Addr} {o o' : HO} {b : Ob} (hp : μ[n]? = some p) (ho : H p = some o) (r : ORep K H μ b o') (hx : ∀ f, o ≠ .ext f := by intro f z; cases z) (mu : Mut (some o) := by trivial) : Ext H (upd H p o') μ μ ∧ SRep K (st.set n b) μ (upd H p o') := by
  have hm : p ∈ μ := List.mem_of_getElem? hp
  obtain ⟨_, b0, o0, _, _, h0, r0⟩ := s.mem hm
  rw [ho] at h0; cases h0
  have x : Ext H (upd H p o') μ μ := by
    refine ⟨⟨fun _ _ q => q, fun a xs q => ?_, fun a ob u q => ?_⟩, fun a ob q hn _ => ?_, fun _ q => .inl q⟩
    · rw [upd_ne (fun e => by subst e; rw [ho] at q; cases q; exact mu)]; exact q
    · rw [upd_ne (fun e => by subst e; rw [ho] at q; cases q; exact mu)]; exact q
    · rw [upd_ne (fun (e : a = p) => hn (by rw [e]; exact hm))]; exact q
  refine ⟨x, by simp [s.len], s.nd, fun m c e => ?_, tabs_upd s.tab (fun o1 q => by rw [ho] at q; cases q; exact ⟨r0.plain, hx⟩), s.exc.ext x⟩
  by_cases hmn : m = n
  · subst hmn
    have hl : m < st.length := by
      have := (List.getElem?_eq_some_iff.mp hp).1
      rw [s.len]; exact this
    rw [List.getElem?_set_self hl] at e
    cases e
    exact ⟨p, o', hp, upd_same, r.mono x⟩
  · rw [List.getElem?_set_ne (Ne.symm hmn)] at e
    obtain ⟨a, ob, e1, e2, r2⟩ := s.at' m c e
    refine ⟨a, ob, e1, ?_, r2.mono x⟩
    rw [upd_ne (fun e => hmn ?_)]
    · exact e2
    · subst e
      exact nd_ix s.nd e1 hp
end
end DL
namespace DL
open PySem L2 PySem.Spec
open PyProof.Rows hiding St
variable [TC : TabCtx]
/-- an exception: its class, its fields -/
structure DX where
  cls : Value
  fs : List (Str × D)
abbrev DK := D → Sto → Prop
abbrev DZ := DX → Env' → Sto → Prop
abbrev DTE := Env' → Sto → DK → DZ → Prop
abbrev DTT := Env' → Sto → (Bool → Sto → Prop) → DZ → Prop
abbrev DTA := Env' → Sto → (List D → Sto → Prop) → DZ → Prop
structure DEnds where
  nx : Env' → Sto → Prop
  rt : DK
  bk : Env' → Sto → Prop := fun _ _ => False
  ct : Env' → Sto → Prop := fun _ _ => False
  xs : DZ := fun _ _ _ => False
abbrev DTS := DEnds → Env' → Sto → Prop
abbrev DTG := D → Env' → Sto → (Env' → Sto → Prop) → Prop
structure ERep (K : PySem.W.Frag) (H : Hp) (μ : List Addr) (ρ : Env') (σ : St) : Prop where
  len : ρ.length = σ.length
  at' : ∀ (i : Nat) (d : D), ρ[i]? = some (some d) → ∃ v, σ[i]? = some (some v) ∧ Rep K H μ d v
def XRep (K : PySem.W.Frag) (H : Hp) (μ : List Addr) (x : DX) (c : Value) (dx : Option Addr) : Prop :=
  c = x.cls ∧ ((dx = none ∧ x.fs = []) ∨ ∃ d gs, dx = some d ∧ H d = some (.xd gs) ∧ OFs K H μ x.fs gs)
structure Stt (K : PySem.W.Frag) (ρ : Env') (st : Sto) (μ : List Addr) (σ : St) (H : Hp) : Prop where
  e : ERep K H μ ρ σ
  s : SRep K st μ H
section
variable {K : PySem.W.Frag} {H H1 H2 H' : Hp} {μ μ1 μ2 μ' : List Addr} {ρ : Env'} {st st' : Sto} {σ : St}
theorem ERep.mono (x : Ext H H' μ μ') (h : ERep K H μ ρ σ) : ERep K H' μ' ρ σ := ⟨h.len, fun i d e => by
  obtain ⟨v, e1, r⟩ := h.at' i d e
  exact ⟨v, e1, r.mono x⟩⟩
theorem ERep.set (h : ERep K H μ ρ σ) (i : Nat) {d : D} {v : V} (r : Rep K H μ d v) : ERep K H μ (ρ.set i (some d)) (σ.set i (some v)) := ⟨by simp [h.len], fun j e q => by
  by_cases hj : j = i
  · subst hj
    have hl : j < ρ.length := by
      have := (List.getElem?_eq_some_iff.mp q).1
      simpa using this
    rw [List.getElem?_set_self hl] at q
    cases q
    exact ⟨v, by rw [List.getElem?_set_self (by rw [← h.len]; exact hl)], r⟩
  · rw [List.getElem?_set_ne (Ne.symm hj)] at q
    obtain ⟨u, e1, r1⟩ := h.at' j e q
    exact ⟨u, by rw [List.getElem?_set_ne (Ne.symm hj)]; exact e1, r1⟩⟩
theorem ERep.unset (h : ERep K H μ ρ σ) (i : Nat) : ERep K H μ (ρ.set i none) (σ.set i none) := ⟨by simp [h.len], fun j e q => by
  by_cases hj : j = i
  · subst hj
    have hl : j < ρ.length := by
      have := (List.getElem?_eq_some_iff.mp q).1
      simpa using this
    rw [List.getElem?_set_self hl] at q
    cases q
  · rw [List.getElem?_set_ne (Ne.symm hj)] at q
    obtain ⟨u, e1, r1⟩ := h.at' j e q
    exact ⟨u, by rw [List.getElem?_set_ne (Ne.symm hj)]; exact e1, r1⟩⟩
def wipeD (ρ : Env') : List Nat → Env'
  | [] => ρ
  | v :: vs => (wipeD ρ vs).set v none
theorem ERep.wipe (h : ERep K H μ ρ σ) : ∀ vs : List Nat, ERep K H μ (wipeD ρ vs) (wipe σ vs)
  | [] => h
  | v :: vs => (ERep.wipe h vs).unset v
theorem Stt.mono (x : Ext H H' μ μ') (h : Stt K ρ st μ σ H) (s' : SRep K st' μ' H') : Stt K ρ st' μ' σ H' := ⟨h.e.mono x, s'⟩
/-- the wish about exceptions is served -/
def ZOk (K : PySem.W.Frag) (W : WX) (Z : DZ) (H : Hp) (μ : List Addr) : Prop :=
  ∀ x ρ' st' σ' H' μ' c dx, Z x ρ' st' → Ext H H' μ μ' → Stt K ρ' st' μ' σ' H' → XRep K H' μ' x c dx → W c dx σ' H'
theorem ZOk.mono {W : WX} {Z : DZ} (z : ZOk K W Z H μ) (x : Ext H H' μ μ') : ZOk K W Z H' μ' := fun _ _ _ _ _ _ _ _ h e => z _ _ _ _ _ _ _ _ h (x.trans e)
def EOk (K : PySem.W.Frag) (Qd : DK) (Q : VK) (H : Hp) (μ : List Addr) : Prop :=
  ∀ d st' H' μ' v, Qd d st' → Ext H H' μ μ' → SRep K st' μ' H' → Rep K H' μ' d v → Q v H'
theorem EOk.mono {Qd : DK} {Q : VK} (z : EOk K Qd Q H μ) (x : Ext H H' μ μ') : EOk K Qd Q H' μ' := fun _ _ _ _ _ h e => z _ _ _ _ _ h (x.trans e)
def TOk (K : PySem.W.Frag) (Qd : Bool → Sto → Prop) (Q : Bool → Hp → Prop) (H : Hp) (μ : List Addr) : Prop :=
  ∀ b st' H' μ', Qd b st' → Ext H H' μ μ' → SRep K st' μ' H' → Q b H'
theorem TOk.mono {Qd : Bool → Sto → Prop} {Q : Bool → Hp → Prop} (z : TOk K Qd Q H μ) (x : Ext H H' μ μ') : TOk K Qd Q H' μ' := fun _ _ _ _ h e => z _ _ _ _ h (x.trans e)
def AOk (K : PySem.W.Frag) (Qd : List D → Sto → Prop) (Q : List V → Hp → Prop) (H : Hp) (μ : List Addr) : Prop :=
  ∀ ds st' H' μ' vs, Qd ds st' → Ext H H' μ μ' → SRep K st' μ' H' → Reps K H' μ' ds vs → Q vs H'
def NOk (K : PySem.W.Frag) (Qd : Env' → Sto → Prop) (Q : St → Hp → Prop) (H : Hp) (μ : List Addr) : Prop :=
  ∀ ρ' st' σ' H' μ', Qd ρ' st' → Ext H H' μ μ' → Stt K ρ' st' μ' σ' H' → Q σ' H'
theorem NOk.mono {Qd : Env' → Sto → Prop} {Q : St → Hp → Prop} (z : NOk K Qd Q H μ) (x : Ext H H' μ μ') : NOk K Qd Q H' μ' := fun _ _ _ _ _ h e => z _ _ _ _ _ h (x.trans e)
structure SOk (K : PySem.W.Frag) (W : WX) (DD : DEnds) (D : Ends) (H : Hp) (μ : List Addr) : Prop where
  nx : NOk K DD.nx D.nx H μ
  rt : EOk K DD.rt D.rt H μ
  bk : NOk K DD.bk D.bk H μ
  ct : NOk K DD.ct D.ct H μ
  xs : ZOk K W DD.xs H μ
theorem SOk.mono {W : WX} {DD : DEnds} {D : Ends} (z : SOk K W DD D H μ) (x : Ext H H' μ μ') : SOk K W DD D H' μ' := ⟨z.nx.mono x, z.rt.mono x, z.bk.mono x, z.ct.mono x, z.xs.mono x⟩
def liftE (K : PySem.W.Frag) (W : WX) (t : DTE) : TE := fun σ H Q => ∃ ρ st μ Qd Z, Stt K ρ st μ σ H ∧ t ρ st Qd Z ∧ EOk K Qd Q H μ ∧ ZOk K W Z H μ
def liftT (K : PySem.W.Frag) (W : WX) (t : DTT) : TT := fun σ H Q => ∃ ρ st μ Qd Z, Stt K ρ st μ σ H ∧ t ρ st Qd Z ∧ TOk K Qd Q H μ ∧ ZOk K W Z H μ
def liftA (K : PySem.W.Frag) (W : WX) (t : DTA) : TA := fun σ H Q => ∃ ρ st μ Qd Z, Stt K ρ st μ σ H ∧ t ρ st Qd Z ∧ AOk K Qd Q H μ ∧ ZOk K W Z H μ
def liftS (K : PySem.W.Frag) (W : WX) (t : DTS) : TS := fun D σ H => ∃ ρ st μ DD, Stt K ρ st μ σ H ∧ t DD ρ st ∧ SOk K W DD D H μ
/-- a target; ws: the slots that it may store -/
def liftG (K : PySem.W.Frag) (ws : List Nat) (t : DTG) : TG := fun v σ H Q => ∃ d ρ st μ Qd, Stt K ρ st μ σ H ∧ Rep K H μ d v ∧ t d ρ st Qd ∧
  ∀ ρ' st' σ' H' μ', Qd ρ' st' → Ext H H' μ μ' → Stt K ρ' st' μ' σ' H' → (∀ vs, (∀ w ∈ ws, w ∈ vs) → wipe σ' vs = wipe σ vs) → Q σ' H'
end
abbrev DE (X : Cx) (W : WX) (e : Expr) (t : DTE) : Prop := PE X e (liftE X.K W t)
abbrev DT (X : Cx) (W : WX) (e : Expr) (t : DTT) : Prop := PT X e (liftT X.K W t)
abbrev DW (X : Cx) (W : WX) (e : Expr) (t : DTT) : Prop := PW X e (liftT X.K W t)
abbrev DA (X : Cx) (W : WX) (es : List Expr) (t : DTA) : Prop := PA X es (liftA X.K W t)
abbrev DS (X : Cx) (W : WX) (s : Stmt) (t : DTS) : Prop := PS X s (liftS X.K W t)
abbrev DSs (X : Cx) (W : WX) (s : List Stmt) (t : DTS) : Prop := PSs X s (liftS X.K W t)
abbrev DG (X : Cx) (ws : List Nat) (e : Expr) (t : DTG) : Prop := PG X e (liftG X.K ws t)
section
variable {X : Cx} {W : WX}
theorem pe_weak {e : Expr} {t u : TE} (h : PE X e t) (w : ∀ σ H Q, u σ H Q → t σ H Q) : PE X e u := ⟨fun pins s σ H Q I q => h.run pins s σ H Q I (w σ H Q q)⟩
theorem pt_weak {e : Expr} {t u : TT} (h : PT X e t) (w : ∀ σ H Q, u σ H Q → t σ H Q) : PT X e u := ⟨fun pins s σ H Q I q => h.run pins s σ H Q I (w σ H Q q)⟩
theorem pw_weak {e : Expr} {t u : TT} (h : PW X e t) (w : ∀ σ H Q, u σ H Q → t σ H Q) : PW X e u := ⟨fun wh pins s σ H Q I q => h.run wh pins s σ H Q I (w σ H Q q)⟩
theorem pa_weak {e : List Expr} {t u : TA} (h : PA X e t) (w : ∀ σ H Q, u σ H Q → t σ H Q) : PA X e u := ⟨fun pos pins s σ H Q I q => h.run pos pins s σ H Q I (w σ H Q q)⟩
theorem ps_weak {e : Stmt} {t u : TS} (h : PS X e t) (w : ∀ D σ H, u D σ H → t D σ H) : PS X e u := ⟨fun pins s σ H D I q => h.run pins s σ H D I (w D σ H q)⟩
theorem pss_weak {e : List Stmt} {t u : TS} (h : PSs X e t) (w : ∀ D σ H, u D σ H → t D σ H) : PSs X e u := ⟨fun pins s σ H D I q => h.run pins s σ H D I (w D σ H q)⟩
theorem pg_weak {e : Expr} {t u : TG} (h : PG X e t) (w : ∀ v σ H Q, u v σ H Q → t v σ H Q) : PG X e u := ⟨fun pins s σ H v u Q I r q => h.run pins s σ H v u Q I r (w v σ H Q q)⟩
def dVar (i : Nat) : DTE := fun ρ st Q _ => match ρ[i]? with | some (some d) => Q d st | _ => False
def dC (d : D) : DTE := fun _ st Q _ => Q d st
theorem de_var {i : Nat} {x : Str} {pos : Pos} (h : PE X (.Name x pos) (tVar i)) : DE X W (.Name x pos) (dVar i) := pe_weak h fun σ H Q ⟨ρ, st, μ, Qd, Z, hS, ht, hQ, _⟩ => by
  unfold dVar at ht
  split at ht
  · rename_i d e
    obtain ⟨v, e1, r⟩ := hS.e.at' i d e
    exact ⟨v, e1, hQ d st H μ v ht (Ext.refl _ _) hS.s r⟩
  · exact ht.elim
theorem dv (i : Nat) {x : Str} {pos : Pos} (hN : X.N[i]? = some x := by rfl) (hv : Vis X.env.scope x := by first | exact Or.inl rfl | exact Or.inr (Or.inl rfl) | exact Or.inr (Or.inr rfl)) (hd : (x == ("__debug__" : Str)) = false := by decide)
    (hcd : (x == ("__classdict__" : Str)) = false := by decide) : DE X W (.Name x pos) (dVar i) := de_var (pe_var hN hv hd hcd)
theorem de_c {e : Expr} {d : D} {v : V} (h : PE X e (tC v)) (r : ∀ H μ, Rep X.K H μ d v) : DE X W e (dC d) := pe_weak h fun σ H Q ⟨ρ, st, μ, Qd, Z, hS, ht, hQ, _⟩ => hQ d st H μ v ht (Ext.refl _ _) hS.s (r H μ)
theorem de_int {i : Int} {j : Nat} {pos : Pos} : DE X W (.Constant (.int i) j pos) (dC (.int i)) := de_c pe_int fun _ _ => rfl
theorem de_bl {i : Bool} {j : Nat} {pos : Pos} : DE X W (.Constant (.bool i) j pos) (dC (.bl i)) := de_c pe_bl fun _ _ => rfl
theorem de_non {j : Nat} {pos : Pos} : DE X W (.Constant .none j pos) (dC .non) := de_c pe_non fun _ _ => rfl
theorem de_str {x : Str} {j : Nat} {pos : Pos} : DE X W (.Constant (.str x) j pos) (dC (.str x)) := de_c pe_str fun _ _ => rfl
abbrev D2 := D → D → Sto → DK → Prop
def DOp (K : PySem.W.Frag) (r : R2) (dr : D2) : Prop :=
  ∀ {H : Hp} {μ : List Addr} {st : Sto} {x y : D} {v u : V} {Qd : DK} {Q : VK}, SRep K st μ H → Rep K H μ x v → Rep K H μ y u → dr x y st Qd → EOk K Qd Q H μ → r v u H Q
def dOp (dr : D2) (ta tb : DTE) : DTE := fun ρ st Q Z => ta ρ st (fun x st1 => tb ρ st1 (fun y st2 => dr x y st2 Q) Z) Z
/-- two in a row, by values -/
theorem lift2 {K : PySem.W.Frag} {r : R2} {dr : D2} {ta tb : DTE} (hr : DOp K r dr) (σ : St) (H : Hp) (Q : VK) (h : liftE K W (dOp dr ta tb) σ H Q) : tOp r (liftE K W ta) (liftE K W tb) σ H Q := by
  obtain ⟨ρ, st, μ, Qd, Z, hS, ht, hQ, hZ⟩ := h
  refine ⟨ρ, st, μ, _, Z, hS, ht, fun x st1 H1 μ1 v hx e1 s1 rv => ?_, hZ⟩
  refine ⟨ρ, st1, μ1, _, Z, hS.mono e1 s1, hx, fun y st2 H2 μ2 u hy e2 s2 ru => ?_, hZ.mono e1⟩
  exact hr s2 (rv.mono e2) ru hy (hQ.mono (e1.trans e2))
variable {a b c : Expr} {ta tb tc : DTE} {pos : Pos}
theorem de_op {op : Operator} {r : R2} {dr : D2} (ho : OpR X (binaryOp op) r) (hr : DOp X.K r dr) (ha : DE X W a ta) (hb : DE X W b tb) : DE X W (.BinOp a op b pos) (dOp dr ta tb) := pe_weak (pe_op ho ha hb) fun σ H Q h => lift2 hr σ H Q h
theorem de_cmp {op : CmpOp} {r : R2} {dr : D2} (ho : OpR X (compareOp op) r) (hr : DOp X.K r dr) (hm : behindInMarks op b = false) (ha : DE X W a ta) (hb : DE X W b tb) : DE X W (.Compare a [op] [b] pos) (dOp dr ta tb) := pe_weak (pe_cmpR ho ha hb hm) fun σ H Q h => lift2 hr σ H Q h
/-- a value as a test: it is a bool -/
def dTest (t : DTE) : DTT := fun ρ st Q Z => t ρ st (fun x st1 => match x with | .bl b => Q b st1 | _ => False) Z
theorem dt_cmp {op : CmpOp} {r : R2} {dr : D2} (ho : OpR X (compareOp op) r) (hr : DOp X.K r dr) (hm : behindInMarks op b = false) (ha : DE X W a ta) (hb : DE X W b tb) : DT X W (.Compare a [op] [b] pos) (dTest (dOp dr ta tb)) := pt_weak (pt_cmpR ho ha hb hm) fun σ H Q h => by
  obtain ⟨ρ, st, μ, Qd, Z, hS, ht, hQ, hZ⟩ := h
  refine lift2 (dr := dr) hr σ H _ ⟨ρ, st, μ, _, Z, hS, ht, fun x st1 H1 μ1 v hx e1 s1 rv => ?_, hZ⟩
  cases x with
  | bl b => exact ⟨b, rv, hQ b st1 H1 μ1 hx e1 s1⟩
  | _ => exact hx.elim
/-- a op b op' c -/
def dChain (r r' : D2) (ta tb tc : DTE) : DTE := fun ρ st Q Z => ta ρ st (fun x st1 => tb ρ st1 (fun y st2 => r x y st2 fun z st3 => match z with
  | .bl k => if k = true then tc ρ st3 (fun w st4 => r' y w st4 Q) Z else Q (.bl false) st3
  | _ => False) Z) Z
theorem liftChain {K : PySem.W.Frag} {r r' : R2} {dr dr' : D2} (hr : DOp K r dr) (hr' : DOp K r' dr') (σ : St) (H : Hp) (Q : VK) (h : liftE K W (dChain dr dr' ta tb tc) σ H Q) : tChain r r' (liftE K W ta) (liftE K W tb) (liftE K W tc) σ H Q := by
  obtain ⟨ρ, st, μ, Qd, Z, hS, ht, hQ, hZ⟩ := h
  refine ⟨ρ, st, μ, _, Z, hS, ht, fun x st1 H1 μ1 v hx e1 s1 rv => ?_, hZ⟩
  refine ⟨ρ, st1, μ1, _, Z, hS.mono e1 s1, hx, fun y st2 H2 μ2 u hy e2 s2 ru => ?_, hZ.mono e1⟩
  refine hr s2 (rv.mono e2) ru hy fun z st3 H3 μ3 w hz e3 s3 rw' => ?_
  cases z with
  | bl k =>
    refine ⟨k, rw', ?_⟩
    cases k with
    | true =>
      refine iteT ?_
      exact ⟨ρ, st3, μ3, _, Z, hS.mono ((e1.trans e2).trans e3) s3, hz, fun q st4 H4 μ4 w4 hq e4 s4 r4 => hr' s4 ((ru.mono e3).mono e4) r4 hq (hQ.mono (((e1.trans e2).trans e3).trans e4)), hZ.mono ((e1.trans e2).trans e3)⟩
    | false =>
      refine iteF ?_
      exact hQ _ _ _ _ _ hz ((e1.trans e2).trans e3) s3 rfl
  | _ => exact hz.elim
theorem de_chain {op op' : CmpOp} {r r' : R2} {dr dr' : D2} (ho : OpR X (compareOp op) r) (hr : DOp X.K r dr) (ho' : OpR X (compareOp op') r') (hr' : DOp X.K r' dr') (ha : DE X W a ta) (hb : DE X W b tb) (hc : DE X W c tc)
    (hm : lastMarks [op, op'] [b, c] = false := by with_unfolding_all rfl) : DE X W (.Compare a [op, op'] [b, c] pos) (dChain dr dr' ta tb tc) := pe_weak (pe_chain ho ho' ha hb hc hm) fun σ H Q h => liftChain hr hr' σ H Q h
theorem dt_chain {op op' : CmpOp} {r r' : R2} {dr dr' : D2} (ho : OpR X (compareOp op) r) (hr : DOp X.K r dr) (ho' : OpR X (compareOp op') r') (hr' : DOp X.K r' dr') (ha : DE X W a ta) (hb : DE X W b tb) (hc : DE X W c tc)
    (hm : lastMarks [op, op'] [b, c] = false := by with_unfolding_all rfl) : DT X W (.Compare a [op, op'] [b, c] pos) (dTest (dChain dr dr' ta tb tc)) := pt_weak (pt_chain ho ho' ha hb hc hm) fun σ H Q h => by
  obtain ⟨ρ, st, μ, Qd, Z, hS, ht, hQ, hZ⟩ := h
  refine liftChain hr hr' σ H _ ⟨ρ, st, μ, _, Z, hS, ht, fun x st1 H1 μ1 v hx e1 s1 rv => ?_, hZ⟩
  cases x with
  | bl b => exact ⟨b, rv, hQ b st1 H1 μ1 hx e1 s1⟩
  | _ => exact hx.elim
def dUn (f : D → Sto → DK → Prop) (ta : DTE) : DTE := fun ρ st Q Z => ta ρ st (fun x st1 => f x st1 Q) Z
theorem de_un {op : UnaryOp} {r : V → Hp → VK → Prop} {dr : D → Sto → DK → Prop} (ho : UnR X (unaryOp op) r) (hr : ∀ {H : Hp} {μ : List Addr} {st : Sto} {x : D} {v : V} {Qd : DK} {Q : VK}, SRep X.K st μ H → Rep X.K H μ x v → dr x st Qd → EOk X.K Qd Q H μ → r v H Q)
    (ha : DE X W a ta) : DE X W (.UnaryOp op a pos) (dUn dr ta) := pe_weak (pe_un ho ha) fun σ H Q ⟨ρ, st, μ, Qd, Z, hS, ht, hQ, hZ⟩ =>
  ⟨ρ, st, μ, _, Z, hS, ht, fun x st1 H1 μ1 v hx e1 s1 rv => hr s1 rv hx (hQ.mono e1), hZ⟩
/-- a value's truth -/
def truD (st : Sto) : D → (Bool → Prop) → Prop
  | .non, Q => Q false
  | .bl b, Q => Q b
  | .int i, Q => Q (i != 0)
  | .str y, Q => y.length ≤ sizeLine ∧ Q ((y.length : Int) != 0)
  | .tup ds, Q => Q (!ds.isEmpty)
  | .fls ds, Q => Q (!ds.isEmpty)
  | .loc n, Q => match st[n]? with
    | some (.lst ds) => Q (!ds.isEmpty)
    | some (.dK kvs) => Q (!kvs.isEmpty)
    | _ => False
  | _, _ => False
theorem Reps.isEmpty {K : PySem.W.Frag} {H : Hp} {μ : List Addr} {ds : List D} {vs : List V} (h : Reps K H μ ds vs) : ds.isEmpty = vs.isEmpty := by
  have := h.length
  cases ds <;> cases vs <;> simp_all
theorem truD_ok {K : PySem.W.Frag} {H : Hp} {μ : List Addr} {st : Sto} {d : D} {v : V} {Q : Bool → Prop} (s : SRep K st μ H) (r : Rep K H μ d v) (h : truD st d Q) : ∃ k, TruV K v H k ∧ Q k := by
  cases d with
  | non => rw [show v = _ from r]; exact ⟨false, rfl, h⟩
  | bl b => rw [show v = _ from r]; exact ⟨b, rfl, h⟩
  | int i => rw [show v = _ from r]; exact ⟨i != 0, rfl, h⟩
  | str y => rw [show v = _ from r]; exact ⟨_, ⟨h.1, rfl⟩, h.2⟩
  | tup ds =>
    obtain ⟨a, vs, rfl, hs, hr⟩ := r
    exact ⟨_, .inr (.inl ⟨vs, hs, rfl⟩), by rw [← hr.isEmpty]; exact h⟩
  | fls ds =>
    obtain ⟨a, vs, rfl, hs, hr⟩ := r
    exact ⟨_, .inl ⟨vs, hs.sq, rfl⟩, by rw [← hr.isEmpty]; exact h⟩
  | loc n =>
    obtain ⟨a, rfl, hn⟩ := r
    simp only [truD] at h
    split at h
    · rename_i ds e
      obtain ⟨a', o, e1, e2, vs, rfl, hr⟩ := s.at' _ _ e
      rw [hn] at e1; cases e1
      exact ⟨_, .inl ⟨vs, .inl (.inl e2), rfl⟩, by rw [← hr.isEmpty]; exact h⟩
    · rename_i kvs e
      obtain ⟨a', o, e1, e2, gs, rfl, hk, hr⟩ := s.at' _ _ e
      rw [hn] at e1; cases e1
      refine ⟨_, .inr (.inr ⟨gs, e2, rfl⟩), ?_⟩
      have := congrArg List.length hk
      simp at this
      have e : kvs.isEmpty = gs.isEmpty := by
        cases kvs <;> cases gs <;> simp_all
      rw [← e]; exact h
    · exact h.elim
  | _ => exact (show False from h).elim
/-- a value as a test, by its truth -/
def dTru (t : DTE) : DTT := fun ρ st Q Z => t ρ st (fun x st1 => truD st1 x fun b => Q b st1) Z
theorem dt_tru (ha : DE X W a ta) (he : ∀ whole, isTrue a X.env whole = (do let v ← whole; standAt a.pos; holding [v] (truthy v)) := by intro _; rfl) : DT X W a (dTru ta) := pt_weak (pt_truth ha he) fun σ H Q ⟨ρ, st, μ, Qd, Z, hS, ht, hQ, hZ⟩ =>
  ⟨ρ, st, μ, _, Z, hS, ht, fun x st1 H1 μ1 v hx e1 s1 rv => by
    obtain ⟨k, hk, q⟩ := truD_ok s1 rv hx
    exact ⟨k, hk, hQ k st1 H1 μ1 q e1 s1⟩, hZ⟩
def dNot (t : DTT) : DTT := fun ρ st Q Z => t ρ st (fun b st1 => Q (!b) st1) Z
def dAnd (t u : DTT) : DTT := fun ρ st Q Z => t ρ st (fun b st1 => if b = true then u ρ st1 Q Z else Q false st1) Z
def dOr (t u : DTT) : DTT := fun ρ st Q Z => t ρ st (fun b st1 => if b = true then Q true st1 else u ρ st1 Q Z) Z
variable {t u : DTT} {rest : List Expr}
theorem dt_not (ha : DT X W a t) : DT X W (.UnaryOp .Not a pos) (dNot t) := pt_weak (pt_not ha) fun σ H Q ⟨ρ, st, μ, Qd, Z, hS, ht, hQ, hZ⟩ =>
  ⟨ρ, st, μ, _, Z, hS, ht, fun b st1 H1 μ1 hx e1 s1 => hQ _ _ _ _ hx e1 s1, hZ⟩
theorem dw_and1 (ha : DT X W a t) : DW X W (.BoolOp .And [a] pos) t := pw_and1 ha
theorem dw_or1 (ha : DT X W a t) : DW X W (.BoolOp .Or [a] pos) t := pw_or1 ha
theorem dw_and (ha : DT X W a t) (hb : DW X W (.BoolOp .And (b :: rest) pos) u) : DW X W (.BoolOp .And (a :: b :: rest) pos) (dAnd t u) := pw_weak (pw_and ha hb) fun σ H Q ⟨ρ, st, μ, Qd, Z, hS, ht, hQ, hZ⟩ =>
  ⟨ρ, st, μ, _, Z, hS, ht, fun k st1 H1 μ1 hx e1 s1 => by
    cases k with
    | true =>
      refine iteT ?_
      exact ⟨ρ, st1, μ1, Qd, Z, hS.mono e1 s1, hx, hQ.mono e1, hZ.mono e1⟩
    | false =>
      refine iteF ?_
      exact hQ _ _ _ _ hx e1 s1, hZ⟩
theorem dw_or (ha : DT X W a t) (hb : DW X W (.BoolOp .Or (b :: rest) pos) u) : DW X W (.BoolOp .Or (a :: b :: rest) pos) (dOr t u) := pw_weak (pw_or ha hb) fun σ H Q ⟨ρ, st, μ, Qd, Z, hS, ht, hQ, hZ⟩ =>
  ⟨ρ, st, μ, _, Z, hS, ht, fun k st1 H1 μ1 hx e1 s1 => by
    cases k with
    | true =>
      refine iteT ?_
      exact hQ _ _ _ _ hx e1 s1
    | false =>
      refine iteF ?_
      exact ⟨ρ, st1, μ1, Qd, Z, hS.mono e1 s1, hx, hQ.mono e1, hZ.mono e1⟩, hZ⟩
theorem dw_pt {e : Expr} (h : DW X W e t) : DT X W e t := h.pt
/-- a if t else b -/
def dIf (t : DTT) (ta tb : DTE) : DTE := fun ρ st Q Z => t ρ st (fun k st1 => if k = true then ta ρ st1 Q Z else tb ρ st1 Q Z) Z
theorem de_if (hc : DT X W c t) (ha : DE X W a ta) (hb : DE X W b tb) : DE X W (.IfExp c a b pos) (dIf t ta tb) := pe_weak (pe_ifExp hc ha hb) fun σ H Q ⟨ρ, st, μ, Qd, Z, hS, ht, hQ, hZ⟩ =>
  ⟨ρ, st, μ, _, Z, hS, ht, fun k st1 H1 μ1 hx e1 s1 => by
    cases k with
    | true =>
      refine iteT ?_
      exact ⟨ρ, st1, μ1, Qd, Z, hS.mono e1 s1, hx, hQ.mono e1, hZ.mono e1⟩
    | false =>
      refine iteF ?_
      exact ⟨ρ, st1, μ1, Qd, Z, hS.mono e1 s1, hx, hQ.mono e1, hZ.mono e1⟩, hZ⟩
end
end DL
namespace DL
open PySem L2 PySem.Spec
open PyProof.Rows hiding St
variable [TC : TabCtx]
section
variable {X : Cx} {W : WX} {a b c e : Expr} {ta tb tc te : DTE} {pos : Pos} {es rest : List Expr} {t : DTA}
def dAndV (ta tb : DTE) : DTE := fun ρ st Q Z => ta ρ st (fun x st1 => truD st1 x fun k => if k = true then tb ρ st1 Q Z else Q x st1) Z
def dOrV (ta tb : DTE) : DTE := fun ρ st Q Z => ta ρ st (fun x st1 => truD st1 x fun k => if k = true then Q x st1 else tb ρ st1 Q Z) Z
def dNotV (ta : DTE) : DTE := fun ρ st Q Z => ta ρ st (fun x st1 => truD st1 x fun k => Q (.bl (!k)) st1) Z
theorem de_one (ha : DE X W a ta) {op : BoolOp} : DE X W (.BoolOp op [a] pos) ta := pe_one ha
theorem de_and (ha : DE X W a ta) (hb : DE X W (.BoolOp .And (b :: rest) pos) tb) : DE X W (.BoolOp .And (a :: b :: rest) pos) (dAndV ta tb) := pe_weak (pe_andT ha hb) fun σ H Q ⟨ρ, st, μ, Qd, Z, hS, ht, hQ, hZ⟩ =>
  ⟨ρ, st, μ, _, Z, hS, ht, fun x st1 H1 μ1 v hx e1 s1 rv => by
    obtain ⟨k, hk, q⟩ := truD_ok s1 rv hx
    refine ⟨k, hk, ?_⟩
    cases k with
    | true => exact iteT ⟨ρ, st1, μ1, Qd, Z, hS.mono e1 s1, q, hQ.mono e1, hZ.mono e1⟩
    | false => exact iteF (hQ _ _ _ _ _ q e1 s1 rv), hZ⟩
theorem de_or (ha : DE X W a ta) (hb : DE X W (.BoolOp .Or (b :: rest) pos) tb) : DE X W (.BoolOp .Or (a :: b :: rest) pos) (dOrV ta tb) := pe_weak (pe_orT ha hb) fun σ H Q ⟨ρ, st, μ, Qd, Z, hS, ht, hQ, hZ⟩ =>
  ⟨ρ, st, μ, _, Z, hS, ht, fun x st1 H1 μ1 v hx e1 s1 rv => by
    obtain ⟨k, hk, q⟩ := truD_ok s1 rv hx
    refine ⟨k, hk, ?_⟩
    cases k with
    | true => exact iteT (hQ _ _ _ _ _ q e1 s1 rv)
    | false => exact iteF ⟨ρ, st1, μ1, Qd, Z, hS.mono e1 s1, q, hQ.mono e1, hZ.mono e1⟩, hZ⟩
theorem de_not (ha : DE X W a ta) : DE X W (.UnaryOp .Not a pos) (dNotV ta) := pe_weak (pe_notT ha) fun σ H Q ⟨ρ, st, μ, Qd, Z, hS, ht, hQ, hZ⟩ =>
  ⟨ρ, st, μ, _, Z, hS, ht, fun x st1 H1 μ1 v hx e1 s1 rv => by
    obtain ⟨k, hk, q⟩ := truD_ok s1 rv hx
    exact ⟨k, hk, hQ _ _ _ _ _ q e1 s1 rfl⟩, hZ⟩
def dNil : DTA := fun _ st Q _ => Q [] st
def dCons (ta : DTE) (tr : DTA) : DTA := fun ρ st Q Z => ta ρ st (fun x st1 => tr ρ st1 (fun xs st2 => Q (x :: xs) st2) Z) Z
theorem da_nil : DA X W [] dNil := pa_weak pa_nil fun σ H Q ⟨ρ, st, μ, Qd, Z, hS, ht, hQ, hZ⟩ => hQ [] st H μ [] ht (Ext.refl _ _) hS.s rfl
theorem da_cons (ha : DE X W a ta) (hr : DA X W es t) (hs : starEach (a :: es) X.env = (false, eval a X.env) :: starEach es X.env := by rfl) : DA X W (a :: es) (dCons ta t) :=
  pa_weak (pa_cons ha hr hs) fun σ H Q ⟨ρ, st, μ, Qd, Z, hS, ht, hQ, hZ⟩ => ⟨ρ, st, μ, _, Z, hS, ht, fun x st1 H1 μ1 v hx e1 s1 rv =>
    ⟨ρ, st1, μ1, _, Z, hS.mono e1 s1, hx, fun xs st2 H2 μ2 vs hxs e2 s2 rvs => hQ _ _ _ _ _ hxs (e1.trans e2) s2 ⟨v, vs, rfl, rv.mono e2, rvs⟩, hZ.mono e1⟩, hZ⟩
def dTup (t : DTA) : DTE := fun ρ st Q Z => t ρ st (fun xs st1 => xs.length ≤ sizeLine ∧ Q (.tup xs) st1) Z
def dLst (t : DTA) : DTE := fun ρ st Q Z => t ρ st (fun xs st1 => xs.length ≤ sizeLine ∧ Q (.loc st1.length) (st1 ++ [.lst xs])) Z
/-- a new tuple's address -/
theorem EOk.tup {K : PySem.W.Frag} {Qd : DK} {Q : VK} {H H1 : Hp} {μ μ1 : List Addr} {ds : List D} {vs : List V} {st1 : Sto} (hQ : EOk K Qd Q H μ) (e1 : Ext H H1 μ μ1) (s1 : SRep K st1 μ1 H1) (r : Reps K H1 μ1 ds vs) (q : Qd (.tup ds) st1) {p : Addr} (hp : H1 p = none) :
    Q (.ref p) (upd H1 p (.tup vs)) :=
  hQ _ _ _ _ _ q (e1.trans (Ext.laid hp)) (s1.laid hp) ⟨p, vs, rfl, .inl (.inl upd_same), r.mono (Ext.laid hp)⟩
theorem getElem?_end {α : Type} (l : List α) (x : α) : (l ++ [x])[l.length]? = some x := by simp
/-- a new list's address -/
theorem EOk.lst {K : PySem.W.Frag} {Qd : DK} {Q : VK} {H H1 : Hp} {μ μ1 : List Addr} {ds : List D} {vs : List V} {st1 : Sto} (hQ : EOk K Qd Q H μ) (e1 : Ext H H1 μ μ1) (s1 : SRep K st1 μ1 H1) (r : Reps K H1 μ1 ds vs) (q : Qd (.loc st1.length) (st1 ++ [.lst ds])) {p : Addr} (hp : H1 p = none) :
    Q (.ref p) (upd H1 p (.lst vs)) :=
  hQ _ _ _ _ _ q (e1.trans (Ext.push hp)) (s1.push hp ⟨vs, rfl, r.mono (Ext.push hp)⟩) ⟨p, rfl, by rw [s1.len]; exact getElem?_end _ _⟩
theorem de_tup {x1 : Nat} (h : DA X W es t) : DE X W (.Tuple es x1 pos) (dTup t) := pe_weak (pe_tup h) fun σ H Q ⟨ρ, st, μ, Qd, Z, hS, ht, hQ, hZ⟩ =>
  ⟨ρ, st, μ, _, Z, hS, ht, fun xs st1 H1 μ1 vs hx e1 s1 rv => ⟨by rw [← rv.length]; exact hx.1, fun p hp => hQ.tup e1 s1 rv hx.2 hp⟩, hZ⟩
theorem de_lst (h : DA X W es t) : DE X W (.List es pos) (dLst t) := pe_weak (pe_lst h) fun σ H Q ⟨ρ, st, μ, Qd, Z, hS, ht, hQ, hZ⟩ =>
  ⟨ρ, st, μ, _, Z, hS, ht, fun xs st1 H1 μ1 vs hx e1 s1 rv => ⟨by rw [← rv.length]; exact hx.1, fun p hp => hQ.lst e1 s1 rv hx.2 hp⟩, hZ⟩
abbrev DN := List D → Sto → DK → Prop
def DCl (K : PySem.W.Frag) (r : List V → Hp → VK → Prop) (dr : DN) : Prop :=
  ∀ {H : Hp} {μ : List Addr} {st : Sto} {ds : List D} {vs : List V} {Qd : DK} {Q : VK}, SRep K st μ H → Reps K H μ ds vs → dr ds st Qd → EOk K Qd Q H μ → r vs H Q
def dCB (dr : DN) (t : DTA) : DTE := fun ρ st Q Z => t ρ st (fun xs st1 => dr xs st1 Q) Z
variable {id T : String} {x : Str} {p : Pos} {r : List V → Hp → VK → Prop} {dr : DN}
theorem de_callB (hc : CallR X (.builtin id) r) (hr : DCl X.K r dr) (hg : Gl X x) (hm : X.mg x = none) (hv : bootBuiltins x = some (.builtin id)) (ha : DA X W (e :: es) t) (hn : x ≠ "__name__" := by decide) (hdb : (x == ("__debug__" : Str)) = false := by decide)
    (he : starEach (e :: es) X.env = (false, eval e X.env) :: starEach es X.env := by rfl) (hpl : (backTo pos (starEach es X.env)).any (·.1) = false := by rfl) : DE X W (.Call (.Name x p) (e :: es) [] pos) (dCB dr t) :=
  pe_weak (pe_callB hc hg hm hv ha hn hdb he hpl) fun σ H Q ⟨ρ, st, μ, Qd, Z, hS, ht, hQ, hZ⟩ => ⟨ρ, st, μ, _, Z, hS, ht, fun xs st1 H1 μ1 vs hx e1 s1 rv => hr s1 rv hx (hQ.mono e1), hZ⟩
theorem de_callTy (hc : CallR X (.type T) r) (hr : DCl X.K r dr) (hg : Gl X x) (hm : X.mg x = none) (hv : bootBuiltins x = some (.type T)) (ha : DA X W (e :: es) t) (hn : x ≠ "__name__" := by decide) (hdb : (x == ("__debug__" : Str)) = false := by decide)
    (he : starEach (e :: es) X.env = (false, eval e X.env) :: starEach es X.env := by rfl) (hpl : (backTo pos (starEach es X.env)).any (·.1) = false := by rfl) : DE X W (.Call (.Name x p) (e :: es) [] pos) (dCB dr t) :=
  pe_weak (pe_callTy hc hg hm hv ha hn hdb he hpl) fun σ H Q ⟨ρ, st, μ, Qd, Z, hS, ht, hQ, hZ⟩ => ⟨ρ, st, μ, _, Z, hS, ht, fun xs st1 H1 μ1 vs hx e1 s1 rv => hr s1 rv hx (hQ.mono e1), hZ⟩
/-- methods of built-in types -/
def tyD (st : Sto) (T : String) : D → Prop
  | .str _ => T = "str"
  | .fls _ => T = "list"
  | .loc n => match st[n]? with
    | some (.lst _) => T = "list"
    | some (.dK _) => T = "dict"
    | _ => False
  | _ => False
theorem tyD_ok {K : PySem.W.Frag} {st : Sto} {μ : List Addr} {H : Hp} {d : D} {v : V} (s : SRep K st μ H) (r : Rep K H μ d v) (h : tyD st T d) : tyV K T v H := by
  cases d with
  | str y => rw [show v = _ from r]; exact h
  | fls ds => obtain ⟨a, vs, rfl, hf, _⟩ := r; exact .inl ⟨h, vs, hf.sq⟩
  | loc n =>
    obtain ⟨a, rfl, hn⟩ := r
    simp only [tyD] at h
    split at h
    · rename_i ds e
      obtain ⟨a', o, e1, e2, vs, rfl, hr⟩ := s.at' _ _ e
      rw [hn] at e1; cases e1
      exact .inl ⟨h, vs, .inl (.inl e2)⟩
    · rename_i kvs e
      obtain ⟨a', o, e1, e2, gs, rfl, hk, hr⟩ := s.at' _ _ e
      rw [hn] at e1; cases e1
      exact .inr (.inr (.inl ⟨h, .inl ⟨gs, e2⟩⟩))
    · exact h.elim
  | _ => exact (show False from h).elim
abbrev DM := D → List D → Sto → DK → Prop
def DMt (K : PySem.W.Frag) (r : V → List V → Hp → VK → Prop) (dr : DM) : Prop :=
  ∀ {H : Hp} {μ : List Addr} {st : Sto} {x : D} {v : V} {ds : List D} {vs : List V} {Qd : DK} {Q : VK}, SRep K st μ H → Rep K H μ x v → Reps K H μ ds vs → dr x ds st Qd → EOk K Qd Q H μ → r v vs H Q
def dBM (T : String) (dr : DM) (to : DTE) (t : DTA) : DTE := fun ρ st Q Z => to ρ st (fun x st1 => tyD st1 T x ∧ t ρ st1 (fun xs st2 => dr x xs st2 Q) Z) Z
variable {o : Expr} {to : DTE} {name : Str} {apos cpos : Pos} {rm : V → List V → Hp → VK → Prop} {dm : DM}
theorem de_bm (pa : PlainAttrs T) (slot : Slot T name id) (hty : typeOf (.builtin id) = pure (.type "method_descriptor")) (hm : MtR X id rm) (hr : DMt X.K rm dm) (ho : DE X W o to) (ha : DA X W (e :: es) t)
    (hbase : attributeBase o name X.env (eval o X.env) = eval o X.env := by rfl)
    (hfew : ((backTo cpos (starEach (e :: es) X.env)).all (fun x => !x.1) && (backToKw cpos (keywordEach [] X.env)).all (fun x => x.1.isSome)
      && decide ((e :: es).length + ([] : List Keyword).length + (if ([] : List Keyword).isEmpty then 0 else 1) < 30)) = true := by rfl)
    (hline : (apos.endLine == cpos.line) = true := by rfl) (hs : starEach (e :: es) X.env = (false, eval e X.env) :: starEach es X.env := by rfl) (hplain : (backTo cpos (starEach es X.env)).any (·.1) = false := by rfl) :
    DE X W (.Call (.Attribute o name apos) (e :: es) [] cpos) (dBM T dm to t) := pe_weak (pe_bm pa slot hty hm ho ha hbase hfew hline hs hplain) fun σ H Q ⟨ρ, st, μ, Qd, Z, hS, ht, hQ, hZ⟩ =>
  ⟨ρ, st, μ, _, Z, hS, ht, fun x st1 H1 μ1 v hx e1 s1 rv => ⟨tyD_ok s1 rv hx.1, ρ, st1, μ1, _, Z, hS.mono e1 s1, hx.2, fun xs st2 H2 μ2 vs hxs e2 s2 rvs => hr s2 (rv.mono e2) rvs hxs (hQ.mono (e1.trans e2)), hZ.mono e1⟩, hZ⟩
theorem de_bm0 (pa : PlainAttrs T) (slot : Slot T name id) (hty : typeOf (.builtin id) = pure (.type "method_descriptor")) (hm : MtR X id rm) (hr : DMt X.K rm dm) (ho : DE X W o to)
    (hbase : attributeBase o name X.env (eval o X.env) = eval o X.env := by rfl) (hline : (apos.endLine == cpos.line) = true := by rfl) : DE X W (.Call (.Attribute o name apos) [] [] cpos) (dBM T dm to dNil) := pe_weak (pe_bm0 pa slot hty hm ho hbase hline) fun σ H Q ⟨ρ, st, μ, Qd, Z, hS, ht, hQ, hZ⟩ =>
  ⟨ρ, st, μ, _, Z, hS, ht, fun x st1 H1 μ1 v hx e1 s1 rv => ⟨tyD_ok s1 rv hx.1, hr (ds := []) s1 rv (show Reps X.K H1 μ1 [] [] from rfl) hx.2 (hQ.mono e1)⟩, hZ⟩
def dIx : D2 := fun x y st Q => match y with
  | .int i => match x with
    | .tup ds => ∃ d, atI ds i = some d ∧ Q d st
    | .fls ds => ∃ d, atI ds i = some d ∧ Q d st
    | .loc n => ∃ ds d, st[n]? = some (.lst ds) ∧ atI ds i = some d ∧ Q d st
    | .str z => ∃ c, z.length ≤ sizeLine ∧ atI z.cps.toList i = some c ∧ Q (.str ⟨#[c]⟩) st
    | _ => False
  | _ => False
theorem atI_rep {K : PySem.W.Frag} {H : Hp} {μ : List Addr} {ds : List D} {vs : List V} {i : Int} {d : D} (r : Reps K H μ ds vs) (h : atI ds i = some d) : ∃ v, atI vs i = some v ∧ Rep K H μ d v := by
  unfold atI at h ⊢
  rw [← r.length]
  cases e : ixN ds.length i with
  | none => rw [e] at h; cases h
  | some j =>
    rw [e] at h
    exact r.get h
theorem ix_ok {K : PySem.W.Frag} : DOp K (rIx K) dIx := by
  intro H μ st x y v u Qd Q s rx ry h hQ
  cases y with
  | int i =>
    rw [show u = _ from ry]
    cases x with
    | tup ds =>
      obtain ⟨a, vs, rfl, ht, hr⟩ := rx
      obtain ⟨d, hd, q⟩ := h
      obtain ⟨w, hw, rw'⟩ := atI_rep hr hd
      exact .inr (.inl ⟨a, vs, i, w, rfl, rfl, ht, hw, hQ _ _ _ _ _ q (Ext.refl _ _) s rw'⟩)
    | fls ds =>
      obtain ⟨a, vs, rfl, ht, hr⟩ := rx
      obtain ⟨d, hd, q⟩ := h
      obtain ⟨w, hw, rw'⟩ := atI_rep hr hd
      exact .inl ⟨a, vs, i, w, rfl, rfl, ht.sq, hw, hQ _ _ _ _ _ q (Ext.refl _ _) s rw'⟩
    | loc n =>
      obtain ⟨a, rfl, hn⟩ := rx
      obtain ⟨ds, d, hds, hd, q⟩ := h
      obtain ⟨a', o, e1, e2, vs, rfl, hr⟩ := s.at' _ _ hds
      rw [hn] at e1; cases e1
      obtain ⟨w, hw, rw'⟩ := atI_rep hr hd
      exact .inl ⟨a, vs, i, w, rfl, rfl, .inl (.inl e2), hw, hQ _ _ _ _ _ q (Ext.refl _ _) s rw'⟩
    | str z =>
      rw [show v = _ from rx]
      obtain ⟨c, hz, hc, q⟩ := h
      exact .inr (.inr ⟨z, i, c, rfl, rfl, hz, hc, hQ _ _ _ _ _ q (Ext.refl _ _) s rfl⟩)
    | _ => exact h.elim
  | _ => exact (show False from h).elim
theorem de_ix (ha : DE X W a ta) (hb : DE X W b tb) (hs : PlainIx b := by intro _ _; rfl) : DE X W (.Subscript a b pos) (dOp dIx ta tb) := pe_weak (pe_ix ix_seq ha hb hs) fun σ H Q h => lift2 ix_ok σ H Q h
abbrev DTO := Env' → Sto → (Option Int → Sto → Prop) → DZ → Prop
def liftO (K : PySem.W.Frag) (W : WX) (t : DTO) : TO := fun σ H Q => ∃ ρ st μ Qd Z, Stt K ρ st μ σ H ∧ t ρ st Qd Z ∧ (∀ o st' H' μ', Qd o st' → Ext H H' μ μ' → SRep K st' μ' H' → Q o H') ∧ ZOk K W Z H μ
abbrev DO (X : Cx) (W : WX) (e : Option Expr) (t : DTO) : Prop := PO X e (liftO X.K W t)
theorem po_weak {e : Option Expr} {t u : TO} (h : PO X e t) (w : ∀ σ H Q, u σ H Q → t σ H Q) : PO X e u := ⟨fun pins s σ H Q I q => h.run pins s σ H Q I (w σ H Q q)⟩
def dNoPart : DTO := fun _ st Q _ => Q none st
def dPart (t : DTE) : DTO := fun ρ st Q Z => t ρ st (fun x st1 => match x with | .int i => Q (some i) st1 | _ => False) Z
theorem do_none : DO X W none dNoPart := po_weak po_none fun σ H Q ⟨ρ, st, μ, Qd, Z, hS, ht, hQ, hZ⟩ => hQ none st H μ ht (Ext.refl _ _) hS.s
theorem do_some (ha : DE X W a ta) : DO X W (some a) (dPart ta) := po_weak (po_some ha) fun σ H Q ⟨ρ, st, μ, Qd, Z, hS, ht, hQ, hZ⟩ =>
  ⟨ρ, st, μ, _, Z, hS, ht, fun x st1 H1 μ1 v hx e1 s1 rv => by
    cases x with
    | int i => exact ⟨i, rv, hQ _ _ _ _ hx e1 s1⟩
    | _ => exact hx.elim, hZ⟩
def cutL {α : Type} (xs : List α) (lo hi : Option Int) : List α := (xs.drop (HT.sIx xs.length 0 lo)).take (HT.sIx xs.length xs.length hi - HT.sIx xs.length 0 lo)
theorem cutL_rep {K : PySem.W.Frag} {H : Hp} {μ : List Addr} {ds : List D} {vs : List V} (lo hi : Option Int) (r : Reps K H μ ds vs) : Reps K H μ (cutL ds lo hi) (cutV vs lo hi) := by
  unfold cutL cutV
  rw [← r.length]
  exact (r.drop _).take _
def dSlV : D → Option Int → Option Int → Sto → DK → Prop := fun x lo hi st Q => match x with
  | .tup ds => Q (.tup (cutL ds lo hi)) st
  | .fls ds => Q (.loc st.length) (st ++ [.lst (cutL ds lo hi)])
  | .loc n => ∃ ds, st[n]? = some (.lst ds) ∧ Q (.loc st.length) (st ++ [.lst (cutL ds lo hi)])
  | .str z => z.length ≤ sizeLine ∧ Q (.str (cutS z lo hi)) st
  | _ => False
def dSl (te : DTE) (tl th : DTO) : DTE := fun ρ st Q Z => te ρ st (fun x st1 => tl ρ st1 (fun l st2 => th ρ st2 (fun u st3 => dSlV x l u st3 Q) Z) Z) Z
theorem HT.whole {α : Type} {xs : List α} {lo hi : Option Int} (h : HT.sIx xs.length 0 lo = 0 ∧ HT.sIx xs.length xs.length hi = xs.length) : cutL xs lo hi = xs := by
  unfold cutL
  rw [h.1, h.2]
  simp
theorem de_slice {lo hi : Option Expr} {tl th : DTO} {p2 : Pos} (ha : DE X W a ta) (hl : DO X W lo tl) (hh : DO X W hi th) : DE X W (.Subscript a (.Slice lo hi none p2) pos) (dSl ta tl th) :=
  pe_weak (pe_slice (sl_list.or (sl_tupA.or sl_str)) ha hl hh) fun σ H Q ⟨ρ, st, μ, Qd, Z, hS, ht, hQ, hZ⟩ =>
  ⟨ρ, st, μ, _, Z, hS, ht, fun x st1 H1 μ1 v hx e1 s1 rv => ⟨ρ, st1, μ1, _, Z, hS.mono e1 s1, hx, fun l st2 H2 μ2 hy e2 s2 => ⟨ρ, st2, μ2, _, Z, hS.mono (e1.trans e2) s2, hy, fun u st3 H3 μ3 hz e3 s3 => by
    have rv3 := rv.mono (e2.trans e3)
    have e := (e1.trans e2).trans e3
    cases x with
    | tup ds =>
      obtain ⟨a, vs, rfl, ht, hr⟩ := rv3
      refine .inr (.inl ⟨a, vs, rfl, ht, fun h => ?_, fun _ p hp => ?_⟩)
      · have hz' : Qd (.tup (cutL ds l u)) st3 := hz
        rw [HT.whole (by rw [hr.length]; exact h)] at hz'
        exact hQ _ _ _ _ _ hz' e s3 ⟨a, vs, rfl, ht, hr⟩
      · exact hQ.tup e s3 (cutL_rep l u hr) hz hp
    | fls ds =>
      obtain ⟨a, vs, rfl, ht, hr⟩ := rv3
      exact .inl ⟨a, vs, rfl, ht.sq, fun p hp => hQ.lst e s3 (cutL_rep l u hr) hz hp⟩
    | loc n =>
      obtain ⟨a, rfl, hn⟩ := rv3
      obtain ⟨ds, hds, hz⟩ := hz
      obtain ⟨a', o, q1, q2, vs, rfl, hr⟩ := s3.at' _ _ hds
      rw [hn] at q1; cases q1
      exact .inl ⟨a, vs, rfl, .inl (.inl q2), fun p hp => hQ.lst e s3 (cutL_rep l u hr) hz hp⟩
    | str z =>
      rw [show v = _ from rv3]
      exact .inr (.inr ⟨z, rfl, hz.1, hQ _ _ _ _ _ hz.2 e s3 rfl⟩)
    | _ => exact hz.elim, hZ.mono (e1.trans e2)⟩, hZ.mono e1⟩, hZ⟩
end
end DL
namespace DL
open PySem L2 PySem.Spec
open PyProof.Rows hiding St
variable [TC : TabCtx]
section
variable {X : Cx} {W : WX} {a b c e : Expr} {ta tb tc te : DTE} {pos : Pos} {s : Stmt} {rest : List Stmt} {t u : DTS}
def dNext : DTS := fun E ρ st => E.nx ρ st
def dSeq (t u : DTS) : DTS := fun E ρ st => t { E with nx := u E } ρ st
theorem SOk.with_nx {K : PySem.W.Frag} {DD : DEnds} {D : Ends} {H : Hp} {μ : List Addr} {qd : Env' → Sto → Prop} {q : St → Hp → Prop} (z : SOk K W DD D H μ) (n : NOk K qd q H μ) : SOk K W { DD with nx := qd } { D with nx := q } H μ := ⟨n, z.rt, z.bk, z.ct, z.xs⟩
theorem dss_nil : DSs X W [] dNext := pss_weak pss_nil fun D σ H ⟨ρ, st, μ, DD, hS, ht, hO⟩ => hO.nx _ _ _ _ _ ht (Ext.refl _ _) hS
theorem dss_cons (h1 : DS X W s t) (h2 : DSs X W rest u) : DSs X W (s :: rest) (dSeq t u) := pss_weak (pss_cons h1 h2) fun D σ H ⟨ρ, st, μ, DD, hS, ht, hO⟩ =>
  ⟨ρ, st, μ, _, hS, ht, hO.with_nx fun ρ' st' σ' H' μ' q e s' => ⟨ρ', st', μ', DD, s', q, hO.mono e⟩⟩
theorem dss_one (h1 : DS X W s t) : DSs X W [s] t := pss_one h1
def dBreak : DTS := fun E ρ st => E.bk ρ st
theorem ds_break : DS X W (.Break pos) dBreak := ps_weak ps_break fun D σ H ⟨ρ, st, μ, DD, hS, ht, hO⟩ => hO.bk _ _ _ _ _ ht (Ext.refl _ _) hS
def dDrop (te : DTE) : DTS := fun E ρ st => te ρ st (fun _ st1 => E.nx ρ st1) E.xs
theorem ds_expr (he : DE X W e te) (hs : swapsWith e none pos.line X.env = pure false := by rfl) : DS X W (.Expr e pos) (dDrop te) := ps_weak (ps_expr he hs) fun D σ H ⟨ρ, st, μ, DD, hS, ht, hO⟩ =>
  ⟨ρ, st, μ, _, _, hS, ht, fun d st1 H1 μ1 v q e1 s1 _ => hO.nx _ _ _ _ _ q e1 (hS.mono e1 s1), hO.xs⟩
def dRet (te : DTE) : DTS := fun E ρ st => te ρ st E.rt E.xs
theorem ds_ret (he : DE X W e te) : DS X W (.Return (some e) pos) (dRet te) := ps_weak (ps_ret he) fun D σ H ⟨ρ, st, μ, DD, hS, ht, hO⟩ => ⟨ρ, st, μ, _, _, hS, ht, hO.rt, hO.xs⟩
def dIfS (c : DTT) (t u : DTS) : DTS := fun E ρ st => c ρ st (fun b st1 => if b = true then t E ρ st1 else u E ρ st1) E.xs
theorem ds_if {tc : DTT} {x y : List Stmt} (hc : DT X W c tc) (ha : DSs X W x t) (hb : DSs X W y u) : DS X W (.If c x y pos) (dIfS tc t u) := ps_weak (ps_if hc ha hb) fun D σ H ⟨ρ, st, μ, DD, hS, ht, hO⟩ =>
  ⟨ρ, st, μ, _, _, hS, ht, fun k st1 H1 μ1 hx e1 s1 => by
    cases k with
    | true => exact iteT ⟨ρ, st1, μ1, DD, hS.mono e1 s1, hx, hO.mono e1⟩
    | false => exact iteF ⟨ρ, st1, μ1, DD, hS.mono e1 s1, hx, hO.mono e1⟩, hO.xs⟩
def gN (i : Nat) : DTG := fun d ρ st Q => Q (ρ.set i (some d)) st
theorem wipe_set (σ : St) (i : Nat) (v : Option V) : ∀ vs : List Nat, i ∈ vs → wipe (σ.set i v) vs = wipe σ vs
  | x :: vs, h => by
    unfold wipe
    rcases List.mem_cons.mp h with h | h
    · subst h
      by_cases hm : i ∈ vs
      · rw [wipe_set σ i v vs hm]
      · have : ∀ (vs : List Nat) (σ : St), i ∉ vs → wipe (σ.set i v) vs = (wipe σ vs).set i v := by
          intro vs
          induction vs with
          | nil => intro σ _; rfl
          | cons y ys ih =>
            intro σ hn
            unfold wipe
            rw [ih σ (fun z => hn (List.mem_cons_of_mem _ z)), List.set_comm]
            intro e
            exact hn (e ▸ List.mem_cons_self)
        rw [this vs σ hm, List.set_set]
    · rw [wipe_set σ i v vs h]
theorem dg_name {i : Nat} {x : Str} (hN : X.N.Nodup) (hi : X.N[i]? = some x) (hx : Loc X.env.scope x) (hf : X.fn x = true ∨ X.env.scope.names.lookup x = some .local := by first | exact .inl rfl | exact .inr rfl | assumption) : DG X [i] (.Name x pos) (gN i) :=
  pg_weak (pg_name hN hi hx hf) fun v σ H Q ⟨d, ρ, st, μ, Qd, hS, rv, ht, hk⟩ => hk _ _ _ _ _ ht (Ext.refl _ _) ⟨hS.e.set i rv, hS.s⟩ fun vs hv => wipe_set _ _ _ _ (hv i List.mem_cons_self)
abbrev DTGs := List D → Env' → Sto → (Env' → Sto → Prop) → Prop
def liftGs (K : PySem.W.Frag) (ws : List Nat) (t : DTGs) : TGs := fun vs σ H Q => ∃ ds ρ st μ Qd, Stt K ρ st μ σ H ∧ Reps K H μ ds vs ∧ t ds ρ st Qd ∧
  ∀ ρ' st' σ' H' μ', Qd ρ' st' → Ext H H' μ μ' → Stt K ρ' st' μ' σ' H' → (∀ vs, (∀ w ∈ ws, w ∈ vs) → wipe σ' vs = wipe σ vs) → Q σ' H'
theorem pgs_weak {es : List Expr} {t u : TGs} (h : PGs X es t) (w : ∀ v σ H Q, u v σ H Q → t v σ H Q) : PGs X es u := ⟨fun pins s σ H v u Q I r q => h.run pins s σ H v u Q I r (w v σ H Q q)⟩
def gNil' : DTGs := fun ds ρ st Q => match ds with | [] => Q ρ st | _ => False
def gCons' (t : DTG) (u : DTGs) : DTGs := fun ds ρ st Q => match ds with | d :: r => t d ρ st fun ρ' st' => u r ρ' st' Q | _ => False
theorem dgs_nil : PGs X [] (liftGs X.K [] gNil') := pgs_weak pgs_nil fun vs σ H Q ⟨ds, ρ, st, μ, Qd, hS, rv, ht, hk⟩ => by
  cases ds with
  | nil => exact ⟨rv, hk _ _ _ _ _ ht (Ext.refl _ _) hS fun _ _ => rfl⟩
  | cons d r => exact ht.elim
theorem dgs_cons {es : List Expr} {w1 w2 : List Nat} {t : DTG} {u : DTGs} (h1 : DG X w1 e t) (h2 : PGs X es (liftGs X.K w2 u)) (hs : (assignEach (e :: es) X.env).map (·.2) = assign e X.env :: (assignEach es X.env).map (·.2) := by rfl) :
    PGs X (e :: es) (liftGs X.K (w1 ++ w2) (gCons' t u)) := pgs_weak (pgs_cons h1 h2 hs) fun vs σ H Q ⟨ds, ρ, st, μ, Qd, hS, rv, ht, hk⟩ => by
  cases ds with
  | nil => exact ht.elim
  | cons d r =>
    obtain ⟨v, vr, rfl, r1, r2⟩ := rv
    refine ⟨v, vr, rfl, d, ρ, st, μ, _, hS, r1, ht, fun ρ' st' σ' H' μ' q e1 s1 hw => ⟨r, ρ', st', μ', _, s1, r2.mono e1, q, fun ρ2 st2 σ2 H2 μ2 q2 e2 s2 hw2 => ?_⟩⟩
    exact hk _ _ _ _ _ q2 (e1.trans e2) s2 fun vs hv => (hw2 vs fun w m => hv w (List.mem_append_right _ m)).trans (hw vs fun w m => hv w (List.mem_append_left _ m))
def gTup' (n : Nat) (t : DTGs) : DTG := fun d ρ st Q => match d with | .tup ds => ds.length = n ∧ t ds ρ st Q | _ => False
theorem dg_tup {es : List Expr} {k n : Nat} {ws : List Nat} {t : DTGs} (hc : X.calm = true) (h : PGs X es (liftGs X.K ws t))
    (hn : (assignEach es X.env).length = n := by rfl) (hst : (assignEach es X.env).findIdx? (·.1) = none := by rfl) : DG X ws (.Tuple es k pos) (gTup' n t) :=
  pg_weak (pg_tup hc h hn hst) fun v σ H Q ⟨d, ρ, st, μ, Qd, hS, rv, ht, hk⟩ => by
    cases d with
    | tup ds =>
      obtain ⟨a, vs, rfl, hs, hr⟩ := rv
      exact ⟨a, vs, rfl, hs, by rw [← hr.length]; exact ht.1, ds, ρ, st, μ, Qd, hS, hr, ht.2, hk⟩
    | _ => exact ht.elim
/-- target = value -/
def dAsg (te : DTE) (g : DTG) : DTS := fun E ρ st => te ρ st (fun x st1 => g x ρ st1 E.nx) E.xs
theorem ds_asg {tg : Expr} {g : DTG} {ws : List Nat} (he : DE X W e te) (hg : DG X ws tg g) (hs : swapsWithSole [tg] e pos.line X.env = pure false := by rfl) (hw : swappedStores [tg] e X.env = pure none := by rfl)
    (h1 : (assignEach [tg] X.env).map (·.2) = [assign tg X.env] := by rfl) : DS X W (.Assign [tg] e pos) (dAsg te g) := ps_weak (ps_asg he hg hs hw h1) fun D σ H ⟨ρ, st, μ, DD, hS, ht, hO⟩ =>
  ⟨ρ, st, μ, _, _, hS, ht, fun x st1 H1 μ1 v hx e1 s1 rv => ⟨x, ρ, st1, μ1, _, hS.mono e1 s1, rv, hx, fun ρ' st' σ' H' μ' q e2 s2 _ => hO.nx _ _ _ _ _ q (e1.trans e2) s2⟩, hO.xs⟩
theorem ds_set {i : Nat} {x : Str} {pos' : Pos} (hN : X.N.Nodup) (hi : X.N[i]? = some x) (hx : Loc X.env.scope x) (he : DE X W e te) (hs : swapsWith e (some (.Name x pos')) pos.line X.env = pure false := by rfl) (hf : X.fn x = true ∨ X.env.scope.names.lookup x = some .local := by first | exact .inl rfl | exact .inr rfl | assumption) :
    DS X W (.Assign [.Name x pos'] e pos) (dAsg te (gN i)) := ps_weak (ps_set hN hi hx he hs hf) fun D σ H ⟨ρ, st, μ, DD, hS, ht, hO⟩ =>
  ⟨ρ, st, μ, _, _, hS, ht, fun x st1 H1 μ1 v hx e1 s1 rv => hO.nx _ _ _ _ _ hx e1 ⟨(hS.e.mono e1).set i rv, s1⟩, hO.xs⟩
/-- a, b = x, y by the right sides' values -/
def dPar (i j : Nat) (ta : DTA) : DTS := fun E ρ st => ta ρ st (fun vs st1 => match vs with | [v, w] => E.nx ((ρ.set i (some v)).set j (some w)) st1 | _ => False) E.xs
theorem ds_par {i j : Nat} {x y : Str} {ta : DTA} {px py pt : Pos} {kt k2 : Nat} {pt2 : Pos} (hc : X.calm = true) (hN : X.N.Nodup) (hi : X.N[i]? = some x) (hj : X.N[j]? = some y) (hij : i ≠ j)
    (hx : X.env.scope.names.lookup x = some .local) (hy : X.env.scope.names.lookup y = some .local) (ha : DA X W [a, b] ta)
    (hw : swappedStores [.Tuple [.Name x px, .Name y py] kt pt] (.Tuple [a, b] k2 pt2) X.env = pure (some [x, y]))
    (hs : swapsWithSole [.Tuple [.Name x px, .Name y py] kt pt] (.Tuple [a, b] k2 pt2) pos.line X.env = pure false := by rfl) :
    DS X W (.Assign [.Tuple [.Name x px, .Name y py] kt pt] (.Tuple [a, b] k2 pt2) pos) (dPar i j ta) := ps_weak (ps_par hc hN hi hj hij hx hy ha hw hs) fun D σ H ⟨ρ, st, μ, DD, hS, ht, hO⟩ =>
  ⟨ρ, st, μ, _, _, hS, ht, fun ds st1 H1 μ1 vs hx e1 s1 rv => by
    match ds, hx, rv with
    | [d1, d2], hx, rv =>
      obtain ⟨v, r, rfl, r1, w, r', rfl, r2, rfl⟩ := rv
      exact ⟨v, w, rfl, hO.nx _ _ _ _ _ hx e1 ⟨((hS.e.mono e1).set i r1).set j r2, s1⟩⟩, hO.xs⟩
def dAug (i : Nat) (te : DTE) (dr : D2) : DTS := fun E ρ st => match ρ[i]? with
  | some (some x) => te ρ st (fun y st1 => dr x y st1 fun z st2 => E.nx (ρ.set i (some z)) st2) E.xs
  | _ => False
/-- o[i] = v -/
abbrev D3 := D → D → D → Sto → (Sto → Prop) → Prop
def DSet (K : PySem.W.Frag) (r : TSet) (dr : D3) : Prop :=
  ∀ {H : Hp} {μ : List Addr} {st : Sto} {o i x : D} {vo vi v : V} {Qd : Sto → Prop} {Q : Hp → Prop}, SRep K st μ H → Rep K H μ o vo → Rep K H μ i vi → Rep K H μ x v → dr o i x st Qd →
    (∀ st' H' μ', Qd st' → Ext H H' μ μ' → SRep K st' μ' H' → Q H') → r vo vi v H Q
def gSub' (to ti : DTE) (dr : D3) : DTG := fun d ρ st Q => to ρ st (fun o st1 => ti ρ st1 (fun i st2 => dr o i d st2 fun st3 => Q ρ st3) fun _ _ _ => False) fun _ _ _ => False
def W0 : WX := fun _ _ _ _ => False
theorem ZOk.no {K : PySem.W.Frag} {W : WX} {H : Hp} {μ : List Addr} : ZOk K W (fun _ _ _ => False) H μ := fun _ _ _ _ _ _ _ _ h => h.elim
theorem dg_sub {o i : Expr} {to ti : DTE} {r : TSet} {dr : D3} (ho : DE X W0 o to) (hi : DE X W0 i ti) (hs : PSet X r) (hr : DSet X.K r dr)
    (ha : ∀ v, assign (.Subscript o i pos) X.env v = (do
      let ov ← holding [v] (eval o X.env)
      let iv ← holding [v, ov] (eval i X.env)
      standAt pos
      holding [v, ov, iv] (setItem ov iv v)
      release [v, ov, iv] []) := by intro _; rfl) : DG X [] (.Subscript o i pos) (gSub' to ti dr) := pg_weak (pg_sub ho hi hs ha) fun v σ H Q ⟨d, ρ, st, μ, Qd, hS, rv, ht, hk⟩ =>
  ⟨ρ, st, μ, _, _, hS, ht, fun x st1 H1 μ1 vo hx e1 s1 ro => ⟨ρ, st1, μ1, _, _, hS.mono e1 s1, hx, fun y st2 H2 μ2 vi hy e2 s2 ri =>
    hr s2 (ro.mono e2) ri (rv.mono (e1.trans e2)) hy fun st3 H3 μ3 q e3 s3 => hk _ _ _ _ _ q ((e1.trans e2).trans e3) ⟨hS.e.mono ((e1.trans e2).trans e3), s3⟩ fun _ _ => rfl, ZOk.no⟩, ZOk.no⟩
def dSetL : D3 := fun o i x st Q => match o, i with
  | .loc n, .int k => ∃ ds j, st[n]? = some (.lst ds) ∧ ixN ds.length k = some j ∧ Q (st.set n (.lst (ds.set j x)))
  | _, _ => False
end
end DL
namespace DL
open PySem L2 PySem.Spec
open PyProof.Rows hiding St
variable [TC : TabCtx]
section
variable {X : Cx} {W : WX} {a b c e tg : Expr} {ta tb tc te : DTE} {pos : Pos} {s : Stmt} {rest : List Stmt} {t u : DTS}
structure ItRep (K : PySem.W.Frag) (J : It) (items : List D) (G : Sto → Prop) (H0 : Hp) (μ0 : List Addr) : Prop where
  go : ∀ i H μ st d, Ext H0 H μ0 μ → SRep K st μ H → G st → items[i]? = some d → J.go i H ∧ ∀ x H', J.yld i H x H' → Ext H H' μ μ ∧ SRep K st μ H' ∧ Rep K H' μ d x ∧ (∀ b o, H b = some o → H' b = some o)
  stop : ∀ H μ st, Ext H0 H μ0 μ → SRep K st μ H → G st → J.stop items.length H
abbrev DTI := Env' → Sto → (List D → (Sto → Prop) → Sto → Prop) → DZ → Prop
def liftI (K : PySem.W.Frag) (W : WX) (t : DTI) : TI := fun σ H R => ∃ ρ st μ Qd Z, Stt K ρ st μ σ H ∧ t ρ st Qd Z ∧ ZOk K W Z H μ ∧
  ∀ items G st' H' μ' J, Qd items G st' → Ext H H' μ μ' → SRep K st' μ' H' → ItRep K J items G H' μ' → R J H'
abbrev DI (X : Cx) (W : WX) (tg e : Expr) (t : DTI) : Prop := PI X tg e (liftI X.K W t)
theorem pi_weak {e : Expr} {t u : TI} (h : PI X tg e t) (w : ∀ σ H R, u σ H R → t σ H R) : PI X tg e u := ⟨fun pins s σ H R I q => h.run pins s σ H R I (w σ H R q)⟩
theorem ItRep.tup {K : PySem.W.Frag} {H : Hp} {μ : List Addr} {a : Addr} {ds : List D} {vs : List V} (hs : SqT K H a vs) (hr : Reps K H μ ds vs) : ItRep K (Itt K a) ds (fun _ => True) H μ where
  go i H1 μ1 st d x s _ e := by
    obtain ⟨v, hv, rv⟩ := (hr.mono x).get e
    refine ⟨⟨vs, v, x.sqT hs, hv⟩, fun y H' hy => ?_⟩
    obtain ⟨rfl, hy⟩ := hy
    have := hy vs (x.sqT hs)
    rw [hv] at this; cases this
    exact ⟨Ext.refl _ _, s, rv, fun _ _ h => h⟩
  stop H1 μ1 st x s _ := ⟨vs, x.sqT hs, by rw [hr.length]; exact Nat.le_refl _⟩
theorem ItRep.fls {K : PySem.W.Frag} {H : Hp} {μ : List Addr} {a : Addr} {ds : List D} {vs : List V} (hs : FzL K H a vs) (hr : Reps K H μ ds vs) : ItRep K (Itl K a) ds (fun _ => True) H μ where
  go i H1 μ1 st d x s _ e := by
    obtain ⟨v, hv, rv⟩ := (hr.mono x).get e
    refine ⟨⟨vs, v, (x.fzL hs).sq, hv⟩, fun y H' hy => ?_⟩
    obtain ⟨rfl, hy⟩ := hy
    have := hy vs (x.fzL hs).sq
    rw [hv] at this; cases this
    exact ⟨Ext.refl _ _, s, rv, fun _ _ h => h⟩
  stop H1 μ1 st x s _ := ⟨vs, (x.fzL hs).sq, by rw [hr.length]; exact Nat.le_refl _⟩
theorem ItRep.lst {K : PySem.W.Frag} {H : Hp} {μ : List Addr} {a : Addr} {n : Nat} {ds : List D} (hn : μ[n]? = some a) : ItRep K (Itl K a) ds (fun st => st[n]? = some (.lst ds)) H μ where
  go i H1 μ1 st d x s g e := by
    obtain ⟨a', o, e1, e2, vs, rfl, hr⟩ := s.at' _ _ g
    rw [x.pre n a hn] at e1; cases e1
    obtain ⟨v, hv, rv⟩ := hr.get e
    refine ⟨⟨vs, v, .inl (.inl e2), hv⟩, fun y H' hy => ?_⟩
    obtain ⟨rfl, hy⟩ := hy
    have := hy vs (.inl (.inl e2))
    rw [hv] at this; cases this
    exact ⟨Ext.refl _ _, s, rv, fun _ _ h => h⟩
  stop H1 μ1 st x s g := by
    obtain ⟨a', o, e1, e2, vs, rfl, hr⟩ := s.at' _ _ g
    rw [x.pre n a hn] at e1; cases e1
    exact ⟨vs, .inl (.inl e2), by rw [hr.length]; exact Nat.le_refl _⟩
def strItems (z : Str) : List D := z.cps.toList.map fun c => .str ⟨#[c]⟩
theorem ItRep.str {K : PySem.W.Frag} {H : Hp} {μ : List Addr} {z : Str} : ItRep K (Its z) (strItems z) (fun _ => True) H μ where
  go i H1 μ1 st d x s _ e := by
    have hi : i < z.cps.size := by
      have := (List.getElem?_eq_some_iff.mp e).1
      simpa [strItems] using this
    refine ⟨hi, fun y H' hy => ?_⟩
    obtain ⟨rfl, c, hc, rfl⟩ := hy
    refine ⟨Ext.refl _ _, s, ?_, fun _ _ h => h⟩
    have : z.cps.toList[i]? = some c := by rw [Array.getElem?_toList]; exact hc
    simp [strItems, this] at e
    subst e
    rfl
  stop H1 μ1 st x s _ := by
    show z.cps.size ≤ (strItems z).length
    simp [strItems]
/-- a list, a tuple, a text: by what it is -/
def iSeq (K : PySem.W.Frag) (tl : TE) : TI := fun σ H R => tl σ H fun x H1 => (∃ a, x = .ref a ∧ (∃ xs, SqL K H1 a xs) ∧ R (Itl K a) H1) ∨ (∃ a, x = .ref a ∧ (∃ xs, SqT K H1 a xs) ∧ R (Itt K a) H1) ∨ ∃ z, x = .str z ∧ R (Its z) H1
theorem pi_seq {l : Expr} {tl : TE} (hl : PE X l tl) : PI X tg l (iSeq X.K tl) := by
  refine ⟨fun pins s σ H R I h => ?_⟩
  refine thn (hl.run pins s σ H _ I h) fun v s1 ⟨x, H1, I1, r1, q1⟩ => ?_
  rcases q1 with ⟨a, rfl, ⟨xs, hq⟩, q⟩ | ⟨a, rfl, ⟨xs, hq⟩, q⟩ | ⟨z, rfl, q⟩
  · cases r1
    obtain ⟨its, rv, p, hz⟩ := I1.list hq
    exact wpAny_pyIter_list p.isList (pi_one (tk := s1.toks) I1 _ (turn_list a _) ⟨_, Heap.get?_push_size _ rfl, rfl, rfl⟩ q)
  · cases r1
    obtain ⟨its, rv, p, hz⟩ := I1.tuple hq
    exact wpAny_pyIter_tuple (show s1.heap.IsTuple a its.toArray from p) (pi_one (tk := s1.toks) I1 _ (turn_tuple a _) ⟨_, Heap.get?_push_size _ rfl, rfl, rfl⟩ q)
  · obtain ⟨t, rfl⟩ := r1
    cases ha : z.cps.all (· < 128)
    · exact wpAny_pyIter_wide ha (pi_one (tk := s1.toks) I1 _ (turn_str _ z t "str_iterator" (.inr rfl)) ⟨_, Heap.get?_push_size _ rfl, rfl, rfl⟩ q)
    · exact wpAny_pyIter_ascii ha (pi_one (tk := s1.toks) I1 _ (turn_str _ z t "str_ascii_iterator" (.inl rfl)) ⟨_, Heap.get?_push_size _ rfl, rfl, rfl⟩ q)
/-- what is walked of a value -/
def walkD (st : Sto) : D → (List D → (Sto → Prop) → Prop) → Prop
  | .tup ds, Q => Q ds fun _ => True
  | .fls ds, Q => Q ds fun _ => True
  | .loc n, Q => ∃ ds, st[n]? = some (.lst ds) ∧ Q ds fun st => st[n]? = some (.lst ds)
  | .str z, Q => Q (strItems z) fun _ => True
  | _, _ => False
def iD (te : DTE) : DTI := fun ρ st Q Z => te ρ st (fun x st1 => walkD st1 x fun items G => Q items G st1) Z
theorem di_seq (h : DE X W e te) : DI X W tg e (iD te) := pi_weak (pi_seq h) fun σ H R ⟨ρ, st, μ, Qd, Z, hS, ht, hZ, hk⟩ =>
  ⟨ρ, st, μ, _, Z, hS, ht, fun x st1 H1 μ1 v hx e1 s1 rv => by
    cases x with
    | tup ds =>
      obtain ⟨a, vs, rfl, hs, hr⟩ := rv
      exact .inr (.inl ⟨a, rfl, ⟨vs, hs⟩, hk _ _ _ _ _ _ hx e1 s1 (ItRep.tup hs hr)⟩)
    | fls ds =>
      obtain ⟨a, vs, rfl, hs, hr⟩ := rv
      exact .inl ⟨a, rfl, ⟨vs, hs.sq⟩, hk _ _ _ _ _ _ hx e1 s1 (ItRep.fls hs hr)⟩
    | loc n =>
      obtain ⟨a, rfl, hn⟩ := rv
      obtain ⟨ds, hds, q⟩ := hx
      obtain ⟨a', o, q1, q2, vs, rfl, hr⟩ := s1.at' _ _ hds
      rw [hn] at q1; cases q1
      exact .inl ⟨a, rfl, ⟨vs, .inl (.inl q2)⟩, hk _ _ _ _ _ _ q e1 s1 (ItRep.lst hn)⟩
    | str z =>
      rw [show v = _ from rv]
      exact .inr (.inr ⟨z, rfl, hk _ _ _ _ _ _ hx e1 s1 ItRep.str⟩)
    | _ => exact hx.elim, hZ⟩
/-- range -/
def rngItems (lo : Int) (n : Nat) : List D := (List.range n).map fun (i : Nat) => .int (lo + (i : Int))
theorem ItRep.range {K : PySem.W.Frag} {H : Hp} {μ : List Addr} {lo : Int} {n : Nat} : ItRep K (Itr lo n) (rngItems lo n) (fun _ => True) H μ where
  go i H1 μ1 st d x s _ e := by
    have hi : i < n := by
      have := (List.getElem?_eq_some_iff.mp e).1
      simpa [rngItems] using this
    refine ⟨hi, fun y H' hy => ?_⟩
    obtain ⟨rfl, rfl⟩ := hy
    refine ⟨Ext.refl _ _, s, ?_, fun _ _ h => h⟩
    simp [rngItems, hi] at e
    subst e
    rfl
  stop H1 μ1 st x s _ := by
    show n ≤ (rngItems lo n).length
    simp [rngItems]
def iR1 (ta : DTA) : DTI := fun ρ st Q Z => ta ρ st (fun xs st1 => match xs with | [.int j] => -(2 ^ 62) ≤ j ∧ j < 2 ^ 62 ∧ Q (rngItems 0 j.toNat) (fun _ => True) st1 | _ => False) Z
def iR2 (ta : DTA) : DTI := fun ρ st Q Z => ta ρ st (fun xs st1 => match xs with | [.int i, .int j] => (-(2 ^ 62) ≤ i ∧ i < 2 ^ 62 ∧ -(2 ^ 62) ≤ j ∧ j < 2 ^ 62) ∧ Q (rngItems i (j - i).toNat) (fun _ => True) st1 | _ => False) Z
theorem Reps.ints1 {K : PySem.W.Frag} {H : Hp} {μ : List Addr} {i : Int} {vs : List V} (h : Reps K H μ [.int i] vs) : vs = [.int i] := by
  obtain ⟨v, r, rfl, r1, r2⟩ := h
  rw [show v = _ from r1, show r = _ from r2]
theorem di_range1 {x : Expr} {tx : DTA} {p : Pos} (hg : Gl X "range") (hm : X.mg "range" = none) (ha : DA X W [x] tx) (hs : starEach [x] X.env = [(false, eval x X.env)] := by rfl) : DI X W tg (.Call (.Name "range" p) [x] [] pos) (iR1 tx) :=
  pi_weak (pi_range1 hg hm ha hs) fun σ H R ⟨ρ, st, μ, Qd, Z, hS, ht, hZ, hk⟩ => ⟨ρ, st, μ, _, Z, hS, ht, fun ds st1 H1 μ1 vs hx e1 s1 rv => by
    dsimp only at hx
    split at hx
    · rename_i j
      exact ⟨j, rv.ints1, hx.1, hx.2.1, hk _ _ _ _ _ _ hx.2.2 e1 s1 ItRep.range⟩
    · exact hx.elim, hZ⟩
theorem di_range2 {x y : Expr} {tx : DTA} {p : Pos} (hg : Gl X "range") (hm : X.mg "range" = none) (ha : DA X W [x, y] tx) (hs : starEach [x, y] X.env = [(false, eval x X.env), (false, eval y X.env)] := by rfl) (hs2 : starEach [y] X.env = [(false, eval y X.env)] := by rfl) :
    DI X W tg (.Call (.Name "range" p) [x, y] [] pos) (iR2 tx) :=
  pi_weak (pi_range2 hg hm ha hs hs2) fun σ H R ⟨ρ, st, μ, Qd, Z, hS, ht, hZ, hk⟩ => ⟨ρ, st, μ, _, Z, hS, ht, fun ds st1 H1 μ1 vs hx e1 s1 rv => by
    dsimp only at hx
    split at hx
    · rename_i i j
      obtain ⟨v, r, rfl, r1, w, r', rfl, r2, rfl⟩ := rv
      exact ⟨i, j, by rw [show v = _ from r1, show w = _ from r2], hx.1, hk _ _ _ _ _ _ hx.2 e1 s1 ItRep.range⟩
    · exact hx.elim, hZ⟩
def runG (g : DTG) (body : DTS) (E : DEnds) (G : Sto → Prop) : List D → Env' → Sto → Prop
  | [], ρ, st => G st ∧ E.nx ρ st
  | d :: ds, ρ, st => G st ∧ g d ρ st fun ρ2 st2 => body { E with nx := runG g body E G ds, ct := runG g body E G ds, bk := E.nx } ρ2 st2
theorem drop_at {α : Type} {l : List α} {i : Nat} {x : α} (h : l[i]? = some x) : l.drop i = x :: l.drop (i + 1) := by
  obtain ⟨hi, e⟩ := List.getElem?_eq_some_iff.mp h
  rw [List.drop_eq_getElem_cons hi, e]
theorem for_ex {g : DTG} {body : DTS} {E : DEnds} {G : Sto → Prop} {items : List D} {ρ : Env'} {st : Sto} (h : runG g body E G items ρ st) : ∃ I : Nat → Env' → Sto → Prop, I 0 ρ st ∧ (∀ i ρ st, i ≤ items.length → I i ρ st → G st) ∧
    (∀ i d ρ st, items[i]? = some d → I i ρ st → g d ρ st fun ρ2 st2 => body { E with nx := I (i + 1), ct := I (i + 1), bk := E.nx } ρ2 st2) ∧ ∀ ρ st, I items.length ρ st → E.nx ρ st := by
  refine ⟨fun i => runG g body E G (items.drop i), h, fun i ρ st _ hi => ?_, fun i d ρ st hd hi => ?_, fun ρ st hi => ?_⟩
  · dsimp only at hi
    cases e : items.drop i <;> (rw [e] at hi; exact hi.1)
  · dsimp only at hi
    rw [drop_at hd] at hi
    exact hi.2
  · dsimp only at hi
    rw [List.drop_length] at hi
    exact hi.2
def dFor (it : DTI) (g : DTG) (body : DTS) : DTS := fun E ρ st => it ρ st (fun items G st1 => runG g body E G items ρ st1) E.xs
theorem ds_for {body : List Stmt} {it : DTI} {g : DTG} {ws : List Nat} {tb : DTS} (hp : PassesOwn (model X.prog X.w) X.A X.env X.xe) (hc : X.calm = true) (hi : DI X W tg e it) (hg : DG X ws tg g) (hb : DSs X W body tb)
    (hs : ∀ x, foldedSetIterable e X.env x = pure x := by intro _; rfl) : DS X W (.For tg e body [] pos) (dFor it g tb) := ps_weak (ps_for hp hc hi hg hb hs) fun D σ H ⟨ρ, st, μ, DD, hS, ht, hO⟩ =>
  ⟨ρ, st, μ, _, _, hS, ht, hO.xs, fun items G st1 H1 μ1 J hx e1 s1 hJ => by
    obtain ⟨I, h0, hG, hstep, hend⟩ := for_ex hx
    refine ⟨fun i m σ' H' => m = items.length - i ∧ i ≤ items.length ∧ ∃ ρ' st' μ', I i ρ' st' ∧ Ext H1 H' μ1 μ' ∧ Stt X.K ρ' st' μ' σ' H', ⟨_, rfl, Nat.zero_le _, ρ, st1, μ1, h0, Ext.refl _ _, hS.mono e1 s1⟩, ?_⟩
    rintro i m σ' H' ⟨rfl, hil, ρ', st', μ', hI, e2, s2⟩
    by_cases hlt : i < items.length
    · have hd : items[i]? = some items[i] := List.getElem?_eq_getElem hlt
      obtain ⟨hgo, hy⟩ := hJ.go i H' μ' st' _ e2 s2.s (hG i ρ' st' hil hI) hd
      refine .inr ⟨hgo, fun σ3 H3 => ∃ ρ3 st3 μ3, I (i + 1) ρ3 st3 ∧ Ext H1 H3 μ1 μ3 ∧ Stt X.K ρ3 st3 μ3 σ3 H3, fun σ3 H3 ⟨ρ3, st3, μ3, q1, q2, q3⟩ => ⟨_, by omega, rfl, hlt, ρ3, st3, μ3, q1, q2, q3⟩, fun x H3 hx => ?_⟩
      obtain ⟨e3, s3, r3, _⟩ := hy x H3 hx
      refine ⟨_, ρ', st', μ', _, s2.mono e3 s3, r3, hstep i _ ρ' st' hd hI, fun ρ4 st4 σ4 H4 μ4 q e4 s4 _ => ?_⟩
      refine ⟨ρ4, st4, μ4, _, s4, q, ?_, ?_, ?_, ?_, ?_⟩
      · exact fun ρ5 st5 σ5 H5 μ5 q5 e5 s5 => ⟨ρ5, st5, μ5, q5, ((e2.trans e3).trans e4).trans e5, s5⟩
      · exact hO.rt.mono (((e1.trans e2).trans e3).trans e4)
      · exact hO.nx.mono (((e1.trans e2).trans e3).trans e4)
      · exact fun ρ5 st5 σ5 H5 μ5 q5 e5 s5 => ⟨ρ5, st5, μ5, q5, ((e2.trans e3).trans e4).trans e5, s5⟩
      · exact hO.xs.mono (((e1.trans e2).trans e3).trans e4)
    · have he : i = items.length := by omega
      subst he
      exact .inl ⟨hJ.stop H' μ' st' e2 s2.s (hG _ ρ' st' hil hI), hO.nx _ _ _ _ _ (hend _ _ hI) (e1.trans e2) s2⟩⟩
end
end DL
namespace DL
open PySem L2 PySem.Spec
open PyProof.Rows hiding St
variable [TC : TabCtx]
section
variable {X : Cx} {W : WX} {a b c e tg : Expr} {ta tb tc te : DTE} {pos : Pos} {s : Stmt} {rest : List Stmt} {t u : DTS}
abbrev Z0 : DZ := fun _ _ _ => False
theorem pts_weak {ifs : List Expr} {t u : TT} (h : PTs X ifs t) (w : ∀ σ H Q, u σ H Q → t σ H Q) : PTs X ifs u := ⟨fun pins s σ H Q I q => h.run pins s σ H Q I (w σ H Q q)⟩
def dYes : DTT := fun _ st Q _ => Q true st
theorem dts_nil : PTs X [] (liftT X.K W0 dYes) := pts_weak pts_nil fun σ H Q ⟨ρ, st, μ, Qd, Z, hS, ht, hQ, hZ⟩ => hQ _ _ _ _ ht (Ext.refl _ _) hS.s
def runC (g : DTG) (tt : DTT) (te : DTE) (ρ : Env') (Q : DK) (G : Sto → Prop) : List D → List D → Sto → Prop
  | [], acc, st => G st ∧ Q (.loc st.length) (st ++ [.lst acc])
  | d :: ds, acc, st => G st ∧ g d ρ st fun ρ2 st2 => tt ρ2 st2 (fun b st3 => if b = true then te ρ2 st3 (fun y st4 => acc.length < sizeLine ∧ runC g tt te ρ Q G ds (acc ++ [y]) st4) Z0 else runC g tt te ρ Q G ds acc st3) Z0
theorem lc_ex {g : DTG} {tt : DTT} {te : DTE} {Q : DK} {G : Sto → Prop} {items : List D} {ρ : Env'} {st : Sto} (h : runC g tt te ρ Q G items [] st) : ∃ I : Nat → List D → Sto → Prop, I 0 [] st ∧ (∀ i acc st, i ≤ items.length → I i acc st → G st) ∧
    (∀ i d acc st, items[i]? = some d → I i acc st → g d ρ st fun ρ2 st2 => tt ρ2 st2 (fun b st3 => if b = true then te ρ2 st3 (fun y st4 => acc.length < sizeLine ∧ I (i + 1) (acc ++ [y]) st4) Z0 else I (i + 1) acc st3) Z0) ∧
    ∀ acc st, I items.length acc st → Q (.loc st.length) (st ++ [.lst acc]) := by
  refine ⟨fun i => runC g tt te ρ Q G (items.drop i), h, fun i acc st _ hi => ?_, fun i d acc st hd hi => ?_, fun acc st hi => ?_⟩
  · dsimp only at hi
    cases e : items.drop i <;> (rw [e] at hi; exact hi.1)
  · dsimp only at hi
    rw [drop_at hd] at hi
    exact hi.2
  · dsimp only at hi
    rw [List.drop_length] at hi
    exact hi.2
def dLc (it : DTI) (g : DTG) (tt : DTT) (te : DTE) (own : List Nat) : DTE := fun ρ st Q Z => it ρ st (fun items G st1 => runC g tt te (wipeD ρ own) Q G items [] st1) Z
theorem Ext.keep {H H' : Hp} {μ μ' : List Addr} (x : Ext H H' μ μ') {a : Addr} {xs : List V} (h : H a = some (.lst xs)) (hm : a ∉ μ) : H' a = some (.lst xs) ∧ a ∉ μ' := ⟨x.fra a _ h hm (fun _ z => nomatch z), fun z => by
  rcases x.new a z with q | q
  · exact hm q
  · obtain ⟨ps, e⟩ := q _ h
    cases e⟩
/-- the list D outside the store is written -/
theorem Ext.out {H0 H : Hp} {μ0 μ : List Addr} {D : Addr} (x : Ext H0 H μ0 μ) (h0 : H0 D = none) (u : HO) : Ext H0 (upd H D u) μ0 μ where
  pre := x.pre
  tup a zs q := by
    rw [upd_ne (ne_of_none q h0)]
    exact x.tup a zs q
  frz a o zs q := by
    rw [upd_ne (ne_of_none q h0)]
    exact x.frz a o zs q
  fra a o q hn hp := by
    rw [upd_ne (ne_of_none q h0)]
    exact x.fra a o q hn hp
  new := x.new
theorem Ext0.out {H : Hp} {μ : List Addr} {D : Addr} {xs : List V} (h : H D = some (.lst xs)) (u : HO) : Ext0 H (upd H D u) μ μ := ⟨fun _ _ q => q, fun a zs q => by
  rw [upd_ne (fun z => by rw [z, h] at q; cases q)]; exact q, fun a o zs q => by
  rw [upd_ne (fun z => by rw [z, h] at q; cases q)]; exact q⟩
theorem SRep.out {K : PySem.W.Frag} {st : Sto} {μ : List Addr} {H : Hp} (s : SRep K st μ H) {D : Addr} (hm : D ∉ μ) {xs : List V} (h : H D = some (.lst xs)) (u : HO) : SRep K st μ (upd H D u) := by
  refine ⟨s.len, s.nd, fun n b e => ?_, tabs_upd s.tab (fun o q => by rw [h] at q; cases q; exact ⟨fun _ z => (nomatch z), fun _ z => (nomatch z)⟩), fun q hq => ?_⟩
  case refine_2 =>
    obtain ⟨hn, gs, e, r1, r2⟩ := s.exc q hq
    exact ⟨hn, gs, by rw [upd_ne (fun z => by rw [z, h] at e; cases e)]; exact e, r1, r2.mono0 (Ext0.out h u)⟩
  obtain ⟨a, o, e1, e2, r⟩ := s.at' n b e
  have hne : a ≠ D := fun z => hm (z ▸ List.mem_of_getElem? e1)
  exact ⟨a, o, e1, by rw [upd_ne hne]; exact e2, r.mono0 (Ext0.out h u)⟩
/-- a thing that stood apart is taken into the store -/
theorem SRep.adopt {K : PySem.W.Frag} {st : Sto} {μ : List Addr} {H : Hp} (s : SRep K st μ H) {p : Addr} {o : HO} {b : Ob} (hm : p ∉ μ) (h : H p = some o) (r : ORep K H μ b o) : SRep K (st ++ [b]) (μ ++ [p]) H := by
  have x0 : Ext0 H H μ (μ ++ [p]) := ⟨fun n a q => by rw [List.getElem?_append_left (List.getElem?_eq_some_iff.mp q).1]; exact q, fun _ _ q => q, fun _ _ _ q => q⟩
  refine ⟨by simp [s.len], ?_, fun n c e => ?_, s.tab, fun q hq => ?_⟩
  case refine_3 =>
    obtain ⟨hn, gs, e, r1, r2⟩ := s.exc q hq
    refine ⟨fun z => ?_, gs, e, r1, r2.mono0 x0⟩
    rcases List.mem_append.mp z with z | z
    · exact hn z
    · rw [List.mem_singleton.mp z, h] at e
      cases e
      cases b with
      | lst ds => obtain ⟨vs, z, _⟩ := r; cases z
      | ins C fs => obtain ⟨dx, gs, z, _⟩ := r; cases z
      | dK fs => obtain ⟨gs, z, _⟩ := r; cases z
      | err e C d => have z : HO.xd _ = HO.ext _ := r; cases z
      | xdt dx fs => obtain ⟨gs, z, _⟩ := r; have z' : HO.xd _ = HO.ext _ := z; cases z'
      | dkF od fs => obtain ⟨gs, z, _⟩ := r; cases z
  · refine List.nodup_append.mpr ⟨s.nd, by simp, fun a ha b hb => ?_⟩
    rw [List.mem_singleton.mp hb]
    intro e
    exact hm (e ▸ ha)
  · by_cases hn : n < st.length
    · rw [List.getElem?_append_left hn] at e
      obtain ⟨a, ob, e1, e2, r2⟩ := s.at' n c e
      exact ⟨a, ob, x0.pre n a e1, e2, r2.mono0 x0⟩
    · have hn' : n = st.length := by
        have := (List.getElem?_eq_some_iff.mp e).1
        simp at this
        omega
      subst hn'
      rw [List.getElem?_append_right (Nat.le_refl _)] at e
      simp at e
      subst e
      refine ⟨p, o, ?_, h, r.mono0 x0⟩
      rw [s.len, List.getElem?_append_right (Nat.le_refl _)]
      simp
theorem wipe_at (σ : St) (i : Nat) : ∀ vs : List Nat, (wipe σ vs)[i]? = if i ∈ vs then (if i < σ.length then some none else none) else σ[i]?
  | [] => by simp [wipe]
  | v :: vs => by
    unfold wipe
    by_cases h : v = i
    · subst h
      rw [List.getElem?_set]
      simp [wipe_length]
    · rw [List.getElem?_set_ne h, wipe_at σ i vs]
      have : (i ∈ v :: vs) ↔ i ∈ vs := by
        simp [Ne.symm h]
      simp [this]
theorem wipe_idem (σ : St) (vs : List Nat) : wipe (wipe σ vs) vs = wipe σ vs := by
  refine List.ext_getElem? fun i => ?_
  rw [wipe_at, wipe_at, wipe_length]
  by_cases h : i ∈ vs <;> simp [h]
section
variable {ifs : List Expr} {scope : Scope} {own : List (Str × Nat)} {it : DTI} {g : DTG} {ws : List Nat} {tt : DTT}
theorem lc_lift {K : PySem.W.Frag} {elt : Expr} (hw : ∀ w ∈ ws, w ∈ own.map (·.2)) (σ : St) (H : Hp) (Q : VK) (h : liftE K W (dLc it g tt te (own.map (·.2))) σ H Q) :
    tLc (liftI K W it) (liftG K ws g) (liftT K W0 tt) (liftE K W0 te) (own.map (·.2)) σ H Q := by
  obtain ⟨ρ, st, μ, Qd, Z, hS, ht, hQ, hZ⟩ := h
  refine ⟨ρ, st, μ, _, Z, hS, ht, hZ, fun items G st1 H1 μ1 J hx e1 s1 hJ D hD => ?_⟩
  obtain ⟨I, h0, hG, hstep, hend⟩ := lc_ex hx
  refine ⟨fun i m H' => m = items.length - i ∧ i ≤ items.length ∧ ∃ acc va st' μ', I i acc st' ∧ Ext H1 H' μ1 μ' ∧ SRep K st' μ' H' ∧ Reps K H' μ' acc va ∧ H' D = some (.lst va) ∧ D ∉ μ',
    ⟨_, rfl, Nat.zero_le _, [], [], st1, μ1, h0, Ext.laid hD, s1.laid hD, rfl, upd_same, s1.not_mem hD⟩, ?_⟩
  rintro i m H' ⟨rfl, hil, acc, va, st', μ', hI, e2, s2, r2, d2, n2⟩
  by_cases hlt : i < items.length
  · have hd : items[i]? = some items[i] := List.getElem?_eq_getElem hlt
    obtain ⟨hgo, hy⟩ := hJ.go i H' μ' st' _ e2 s2 (hG i acc st' hil hI) hd
    refine .inr ⟨hgo, fun H3 => ∃ acc va st' μ', I (i + 1) acc st' ∧ Ext H1 H3 μ1 μ' ∧ SRep K st' μ' H3 ∧ Reps K H3 μ' acc va ∧ H3 D = some (.lst va) ∧ D ∉ μ', fun H3 q => ⟨_, by omega, rfl, hlt, q⟩, fun x H3 hx => ?_⟩
    obtain ⟨e3, s3, r3, _⟩ := hy x H3 hx
    obtain ⟨d3, n3⟩ := e3.keep d2 n2
    refine ⟨_, wipeD ρ (own.map (·.2)), st', μ', _, ⟨(hS.e.mono ((e1.trans e2).trans e3)).wipe _, s3⟩, r3, hstep i _ acc st' hd hI, fun ρ4 st4 σ4 H4 μ4 q e4 s4 hw4 => ?_⟩
    obtain ⟨d4, n4⟩ := e4.keep d3 n3
    refine ⟨(hw4 _ hw).trans (wipe_idem _ _), ρ4, st4, μ4, _, Z0, s4, q, fun k st5 H5 μ5 q5 e5 s5 => ?_, ZOk.no⟩
    obtain ⟨d5, n5⟩ := e5.keep d4 n4
    cases k with
    | true =>
      refine iteT ⟨ρ4, st5, μ5, _, Z0, s4.mono e5 s5, q5, fun y st6 H6 μ6 v q6 e6 s6 r6 => ?_, ZOk.no⟩
      obtain ⟨d6, n6⟩ := e6.keep d5 n5
      have ex : Ext H' H6 μ' μ6 := ((e3.trans e4).trans e5).trans e6
      have ra := r2.mono ex
      have x0 : Ext0 H6 (upd H6 D (.lst (va ++ [v]))) μ6 μ6 := Ext0.out d6 _
      exact ⟨va, d6, by rw [← r2.length]; exact q6.1, acc ++ [y], va ++ [v], st6, μ6, q6.2, (e2.trans ex).out hD _, s6.out n6 d6 _, (ra.append (Reps.one r6)).mono0 x0, upd_same, n6⟩
    | false =>
      have ex : Ext H' H5 μ' μ5 := (e3.trans e4).trans e5
      exact iteF ⟨acc, va, st5, μ5, q5, e2.trans ex, s5, r2.mono ex, d5, n5⟩
  · have he : i = items.length := by omega
    subst he
    refine .inl ⟨hJ.stop H' μ' st' e2 s2 (hG _ acc st' hil hI), ?_⟩
    refine hQ _ _ _ _ _ (hend _ _ hI) (e1.trans ⟨⟨fun n a q => ?_, e2.tup, e2.frz⟩, e2.fra, fun a q => ?_⟩) (s2.adopt n2 d2 ⟨va, rfl, r2⟩) ⟨D, rfl, by rw [s2.len]; exact getElem?_end _ _⟩
    · have := e2.pre n a q
      rw [List.getElem?_append_left (List.getElem?_eq_some_iff.mp this).1]; exact this
    · rcases List.mem_append.mp q with q | q
      · exact e2.new a q
      · rw [List.mem_singleton.mp q]; exact .inr fun o q => by rw [hD] at q; cases q
theorem de_lc {elt : Expr} (hc : X.calm = true) (hN : X.N.Nodup) (hi : DI X W tg e it) (ok : BlkOk X.N X.env.scope scope own) (hw : ∀ w ∈ ws, w ∈ own.map (·.2))
    (hg : ∀ (s : Shared) (H : Hp) (C : Addr) (cl : List (Str × Addr)) (fp : List Addr), DG (X.blk s H scope (compEnvC scope cl C X.env) fp) ws tg g) (ht : ∀ (s : Shared) (H : Hp) (C : Addr) (cl : List (Str × Addr)) (fp : List Addr), PTs (X.blk s H scope (compEnvC scope cl C X.env) fp) ifs (liftT X.K W0 tt))
    (he : ∀ (s : Shared) (H : Hp) (C : Addr) (cl : List (Str × Addr)) (fp : List Addr), DE (X.blk s H scope (compEnvC scope cl C X.env) fp) W0 elt te) (hs : ∀ x, foldedSetIterable e X.env x = pure x := by intro _; rfl) :
    DE X W (.ListComp elt [⟨tg, e, ifs, 0⟩] scope pos) (dLc it g tt te (own.map (·.2))) := pe_weak (pe_lc hc hN hi ok hg ht he hs) fun σ H Q h => lc_lift (elt := elt) hw σ H Q h
theorem ds_setLc {elt : Expr} {i : Nat} {y : Str} {py spos : Pos} (hc : X.calm = true) (hN : X.N.Nodup) (hy : X.N[i]? = some y) (hyl : X.env.scope.names.lookup y = some .local)
    (hsw : swapsWith (.ListComp elt [⟨tg, e, ifs, 0⟩] scope pos) (some (.Name y py)) spos.line X.env = pure true) (hi : DI X W tg e it) (ok : BlkOk X.N X.env.scope scope own) (hw : ∀ w ∈ ws, w ∈ own.map (·.2))
    (hg : ∀ (s : Shared) (H : Hp) (C : Addr) (cl : List (Str × Addr)) (fp : List Addr), DG (X.blk s H scope (compEnvC scope cl C X.env) fp) ws tg g) (ht : ∀ (s : Shared) (H : Hp) (C : Addr) (cl : List (Str × Addr)) (fp : List Addr), PTs (X.blk s H scope (compEnvC scope cl C X.env) fp) ifs (liftT X.K W0 tt))
    (he : ∀ (s : Shared) (H : Hp) (C : Addr) (cl : List (Str × Addr)) (fp : List Addr), DE (X.blk s H scope (compEnvC scope cl C X.env) fp) W0 elt te) (hs : ∀ x, foldedSetIterable e X.env x = pure x := by intro _; rfl) :
    DS X W (.Assign [.Name y py] (.ListComp elt [⟨tg, e, ifs, 0⟩] scope pos) spos) (dAsg (dLc it g tt te (own.map (·.2))) (gN i)) := ps_weak (ps_setLc hc hN hy hyl hsw hi ok hg ht he hs) fun D σ H ⟨ρ, st, μ, DD, hS, ht, hO⟩ =>
  lc_lift (elt := elt) (W := W) hw σ H _ ⟨ρ, st, μ, _, _, hS, ht, fun x st1 H1 μ1 v hx e1 s1 rv => hO.nx _ _ _ _ _ hx e1 ⟨(hS.e.mono e1).set i rv, s1⟩, hO.xs⟩
end
end
end DL
namespace DL
open PySem L2 PySem.Spec
open PyProof.Rows hiding St
variable [TC : TabCtx]
mutual
def D.blw (n : Nat) : D → Bool
  | .loc m => m < n
  | .tup ds => D.blws n ds
  | .fls ds => D.blws n ds
  | _ => true
def D.blws (n : Nat) : List D → Bool
  | [] => true
  | d :: ds => D.blw n d && D.blws n ds
end
def Ob.below (n : Nat) : Ob → Bool
  | .lst ds => D.blws n ds
  | .ins _ fs => D.blws n (fs.map (·.2))
  | .dK kvs => D.blws n (kvs.map (·.2))
  | .err _ _ _ => true
  | .xdt _ fs => D.blws n (fs.map (·.2))
  | .dkF _ fs => D.blws n (fs.map (·.2))
section
variable {K : PySem.W.Frag} {H H' : Hp} {μ : List Addr}
mutual
theorem Rep.cut {n : Nat} {ν : List Addr} (h : ∀ m, m < n → ν[m]? = μ[m]?) : ∀ {d : D} {v : V}, D.blw n d = true → Rep K H μ d v → Rep K H ν d v
  | .non, _, _, r => r
  | .bl _, _, _, r => r
  | .int _, _, _, r => r
  | .str _, _, _, r => r
  | .tup ds, _, b, r => by
    obtain ⟨a, vs, e, s, q⟩ := r
    exact ⟨a, vs, e, s, Reps.cut h b q⟩
  | .fls ds, _, b, r => by
    obtain ⟨a, vs, e, s, q⟩ := r
    exact ⟨a, vs, e, s, Reps.cut h b q⟩
  | .loc m, _, b, r => by
    obtain ⟨a, e, q⟩ := r
    exact ⟨a, e, by rw [h m (by simpa [D.blw] using b)]; exact q⟩
  | .adr _, _, _, r => r
  | .ty _, _, _, r => r
theorem Reps.cut {n : Nat} {ν : List Addr} (h : ∀ m, m < n → ν[m]? = μ[m]?) : ∀ {ds : List D} {vs : List V}, D.blws n ds = true → Reps K H μ ds vs → Reps K H ν ds vs
  | [], _, _, r => r
  | d :: ds, _, b, r => by
    obtain ⟨v, r', e, h1, h2⟩ := r
    simp only [D.blws, Bool.and_eq_true] at b
    exact ⟨v, r', e, Rep.cut h b.1 h1, Reps.cut h b.2 h2⟩
end
mutual
/-- what is told in μ names places of μ alone -/
theorem Rep.below : ∀ {d : D} {v : V}, Rep K H μ d v → D.blw μ.length d = true
  | .non, _, _ => rfl
  | .bl _, _, _ => rfl
  | .int _, _, _ => rfl
  | .str _, _, _ => rfl
  | .tup ds, _, r => by
    obtain ⟨a, vs, e, s, q⟩ := r
    exact Reps.below q
  | .fls ds, _, r => by
    obtain ⟨a, vs, e, s, q⟩ := r
    exact Reps.below q
  | .loc m, _, r => by
    obtain ⟨a, e, q⟩ := r
    simpa [D.blw] using (List.getElem?_eq_some_iff.mp q).1
  | .adr _, _, _ => rfl
  | .ty _, _, _ => rfl
theorem Reps.below : ∀ {ds : List D} {vs : List V}, Reps K H μ ds vs → D.blws μ.length ds = true
  | [], _, _ => rfl
  | d :: ds, _, r => by
    obtain ⟨v, r', e, h1, h2⟩ := r
    simp only [D.blws, Bool.and_eq_true]
    exact ⟨Rep.below h1, Reps.below h2⟩
end
theorem ORep.cut {n : Nat} {ν : List Addr} (h : ∀ m, m < n → ν[m]? = μ[m]?) : ∀ {b : Ob} {o : HO}, Ob.below n b = true → ORep K H μ b o → ORep K H ν b o
  | .lst ds, _, b, r => by obtain ⟨vs, e, q⟩ := r; exact ⟨vs, e, q.cut h b⟩
  | .ins C fs, _, b, r => by obtain ⟨dx, gs, e, q1, q2⟩ := r; exact ⟨dx, gs, e, q1, q2.cut h b⟩
  | .dK fs, _, b, r => by obtain ⟨gs, e, q1, q2⟩ := r; exact ⟨gs, e, q1, q2.cut h b⟩
  | .err _ _ _, _, b, r => r
  | .xdt dx fs, _, b, r => by obtain ⟨gs, e, q1, q2⟩ := r; exact ⟨gs, e, q1, q2.cut h b⟩
  | .dkF od fs, _, b, r => by obtain ⟨gs, e, q1, q2⟩ := r; exact ⟨gs, e, q1, q2.cut h b⟩
theorem ORep.below : ∀ {b : Ob} {o : HO}, ORep K H μ b o → Ob.below μ.length b = true
  | .lst ds, _, r => by obtain ⟨vs, e, q⟩ := r; exact q.below
  | .ins C fs, _, r => by obtain ⟨dx, gs, e, q1, q2⟩ := r; exact q2.below
  | .dK fs, _, r => by obtain ⟨gs, e, q1, q2⟩ := r; exact q2.below
  | .err _ _ _, _, r => rfl
  | .xdt dx fs, _, r => by obtain ⟨gs, e, q1, q2⟩ := r; exact q2.below
  | .dkF od fs, _, r => by obtain ⟨gs, e, q1, q2⟩ := r; exact q2.below
/-- the store's things hang on the store alone -/
theorem SRep.below {st : Sto} (s : SRep K st μ H) {b : Ob} (h : b ∈ st) : Ob.below st.length b = true := by
  obtain ⟨n, e⟩ := List.mem_iff_getElem?.mp h
  obtain ⟨a, o, _, _, r⟩ := s.at' n b e
  rw [s.len]
  exact r.below
abbrev DSp := List D → Sto → DK → (DX → Sto → Prop) → Prop
def XOk (K : PySem.W.Frag) (Z : DX → Sto → Prop) (E : XK) (H : Hp) (μ : List Addr) : Prop :=
  ∀ x st' H' μ' c dx, Z x st' → Ext H H' μ μ' → SRep K st' μ' H' → XRep K H' μ' x c dx → E c dx H'
def liftSp (K : PySem.W.Frag) (n : Nat) (dsp : DSp) : Sp := fun vs H Q E => vs.length = n ∧ ∃ ds st μ Qd Z, Reps K H μ ds vs ∧ SRep K st μ H ∧ dsp ds st Qd Z ∧ EOk K Qd Q H μ ∧ XOk K Z E H μ
/-- the def of that name keeps its promise, at most k levels deep -/
def Has (P : Program) (w : World) (K : PySem.W.Frag) (mg : Str → Option Value) (base : Heap) (k : Nat) (x : Str) (n : Nat) (dsp : DSp) : Prop :=
  ∃ f fd ps, FnOk P w K mg base (L2.CX P w) k f fd ps (liftSp K n dsp) ∧ mg x = some (.ref f) ∧ PySem.W.keepIn K (.ref f) = true ∧ Binds K fd ps []
theorem Has.mono {P : Program} {w : World} {mg : Str → Option Value} {base : Heap} {j k : Nat} {x : Str} {n : Nat} {dsp : DSp} (h : Has P w K mg base j x n dsp) (hk : j ≤ k) : Has P w K mg base k x n dsp := by
  obtain ⟨f, fd, ps, F, r⟩ := h
  exact ⟨f, fd, ps, F.mono hk, r⟩
/-- a weaker promise -/
theorem Has.imp {P : Program} {w : World} {mg : Str → Option Value} {base : Heap} {k : Nat} {x : Str} {n : Nat} {dsp dsp' : DSp} (h : Has P w K mg base k x n dsp) (hi : ∀ ds st Q Z, dsp' ds st Q Z → dsp ds st Q Z) : Has P w K mg base k x n dsp' := by
  obtain ⟨f, fd, ps, F, r⟩ := h
  refine ⟨f, fd, ps, F.imp fun vs H Q E q => ?_, r⟩
  obtain ⟨q0, ds, st, μ, Qd, Z, q1, q2, q3, q4, q5⟩ := q
  exact ⟨q0, ds, st, μ, Qd, Z, q1, q2, hi _ _ _ _ q3, q4, q5⟩
end
section
variable {X : Cx} {W : WX} {e : Expr} {es : List Expr} {pos p : Pos} {x : Str} {k n : Nat} {dsp : DSp} {t : DTA}
def dCall (n : Nat) (dsp : DSp) (t : DTA) : DTE := fun ρ st Q Z => t ρ st (fun ds st1 => ds.length = n ∧ dsp ds st1 Q fun x st2 => Z x ρ st2) Z
def Pas (X : Cx) (W : WX) : Prop := ∀ σ, PassesAt (L2.CX X.prog X.w) X σ (WE W σ)
theorem pas0 {X : Cx} : Pas X W0 := fun σ _ _ _ _ _ _ h => by
  obtain ⟨_, _, _, _, _, _, _, _, _, _, _, _, z⟩ := h
  exact z.elim
theorem pasT {X : Cx} {W : WX} (tk : Takes X W) : Pas X W := fun σ => passAt tk σ
theorem XOk.of {K : PySem.W.Frag} {W : WX} {Z : DZ} {H H1 : Hp} {μ μ1 : List Addr} {ρ : Env'} {st : Sto} {σ : St} (hS : Stt K ρ st μ σ H) (z : ZOk K W Z H μ) (e1 : Ext H H1 μ μ1) : XOk K (fun x st2 => Z x ρ st2) (WE W σ) H1 μ1 :=
  fun x st' H' μ' c dx q e s r => z _ _ _ _ _ _ _ _ q (e1.trans e) (hS.mono (e1.trans e) s) r
theorem de_call (F : Has X.prog X.w X.K X.mg X.base k x n dsp) (hr : Room k X.A) (hg : Gl X x) (hx : Pas X W) (ha : DA X W (e :: es) t)
    (hdb : (x == ("__debug__" : Str)) = false := by decide) (he : starEach (e :: es) X.env = (false, eval e X.env) :: starEach es X.env := by rfl) (hpl : (backTo pos (starEach es X.env)).any (·.1) = false := by rfl) :
    DE X W (.Call (.Name x p) (e :: es) [] pos) (dCall n dsp t) := by
  obtain ⟨f, fd, ps, F, hm, hk, hb⟩ := F
  refine pe_weak (pe_callS F hr hg hm hk hb hx ha hdb he hpl) fun σ H Q ⟨ρ, st, μ, Qd, Z, hS, ht, hQ, hZ⟩ => ?_
  exact ⟨ρ, st, μ, _, Z, hS, ht, fun ds st1 H1 μ1 vs hx e1 s1 rv => ⟨by rw [← rv.length]; exact hx.1, ds, st1, μ1, Qd, _, rv, s1, hx.2, hQ.mono e1, XOk.of hS hZ e1⟩, hZ⟩
end
/-- what is given back, what else the body made being forgotten -/
def Back (st : Sto) (Q : DK) : DK := fun d st' => Q d st' ∨ ∃ st1 g, st' = st1 ++ g ∧ st1.length = st.length ∧ (∀ b ∈ st1, b ∈ st ∨ Ob.below st.length b = true) ∧
  ((D.blw st.length d = true ∧ Q d st1) ∨ ∃ m ds, d = .loc m ∧ st'[m]? = some (.lst ds) ∧ st.length ≤ m ∧ D.blws st.length ds = true ∧ Q (.loc st.length) (st1 ++ [.lst ds]))
def BackX (st : Sto) (Z : DX → Sto → Prop) : DX → Sto → Prop := fun x st' => Z x st' ∨ ∃ st1 g, st' = st1 ++ g ∧ st1.length = st.length ∧ (∀ b ∈ st1, b ∈ st ∨ Ob.below st.length b = true) ∧ D.blws st.length (x.fs.map (·.2)) = true ∧ Z x st1
section
variable {K : PySem.W.Frag} {H H' : Hp} {μ μ' : List Addr} {st st' st1 g : Sto}
theorem Back.store (s0 : SRep K st μ H) (e : Ext H H' μ μ') (s : SRep K (st1 ++ g) μ' H') (hl : st1.length = st.length) (hb : ∀ b ∈ st1, b ∈ st ∨ Ob.below st.length b = true) : SRep K st1 μ H' ∧ Ext H H' μ μ := by
  have hpre : ∀ m, m < st.length → μ[m]? = μ'[m]? := fun m hm => by
    have h1 : m < μ.length := by rw [← s0.len]; exact hm
    rw [List.getElem?_eq_getElem h1]
    exact (e.pre m _ (List.getElem?_eq_getElem h1)).symm
  have e1 : Ext H H' μ μ := ⟨⟨fun _ _ q => q, e.tup, e.frz⟩, e.fra, fun a q => .inl q⟩
  refine ⟨⟨by rw [hl, s0.len], s0.nd, fun n b q => ?_, s.tab, s0.exc.ext e1⟩, e1⟩
  have hn : n < st1.length := (List.getElem?_eq_some_iff.mp q).1
  obtain ⟨a, o, e1, e2, r⟩ := s.at' n b (by rw [List.getElem?_append_left hn]; exact q)
  have hbl : Ob.below st.length b = true := by
    rcases hb b (List.mem_of_getElem? q) with z | z
    · exact s0.below z
    · exact z
  exact ⟨a, o, by rw [hpre n (by omega)]; exact e1, e2, r.cut hpre hbl⟩
theorem Back.ok {Qd : DK} {Q : VK} (s0 : SRep K st μ H) (hQ : EOk K Qd Q H μ) : EOk K (Back st Qd) Q H μ := fun d st' H' μ' v h e s r => by
  rcases h with h | ⟨st1, g, rfl, hl, hb, h⟩
  · exact hQ _ _ _ _ _ h e s r
  · obtain ⟨s1, e1⟩ := Back.store s0 e s hl hb
    have hpre : ∀ m, m < st.length → μ[m]? = μ'[m]? := fun m hm => by
      have h1 : m < μ.length := by rw [← s0.len]; exact hm
      rw [List.getElem?_eq_getElem h1]
      exact (e.pre m _ (List.getElem?_eq_getElem h1)).symm
    rcases h with ⟨hd, h⟩ | ⟨m, ds, rfl, hm, hge, hds, h⟩
    · exact hQ _ _ _ _ _ h e1 s1 (r.cut hpre hd)
    · obtain ⟨a, rfl, ha⟩ := r
      obtain ⟨a', o, q1, q2, vs, rfl, hr⟩ := s.at' m _ hm
      rw [ha] at q1; cases q1
      have hna : a ∉ μ := fun z => by
        obtain ⟨i, hi⟩ := List.mem_iff_getElem?.mp z
        have hi' : i < μ.length := (List.getElem?_eq_some_iff.mp hi).1
        have := nd_ix s.nd (e.pre i a hi) ha
        rw [← s0.len] at hi'
        omega
      have hn : ∀ o, H a = some o → ∃ ps, o = .tbl ps := by
        rcases e.new a (List.mem_of_getElem? ha) with z | z
        · exact absurd z hna
        · exact z
      have x0 : Ext0 H' H' μ (μ ++ [a]) := ⟨fun n b q => by rw [List.getElem?_append_left (List.getElem?_eq_some_iff.mp q).1]; exact q, fun _ _ q => q, fun _ _ _ q => q⟩
      refine hQ _ _ H' (μ ++ [a]) _ h ⟨⟨fun n b q => x0.pre n b q, e.tup, e.frz⟩, e.fra, fun b q => ?_⟩ (s1.adopt hna q2 ⟨vs, rfl, hr.cut hpre hds⟩) ⟨a, rfl, by rw [s0.len]; exact getElem?_end _ _⟩
      rcases List.mem_append.mp q with q | q
      · exact .inl q
      · rw [List.mem_singleton.mp q]; exact .inr hn
theorem BackX.ok {Z : DX → Sto → Prop} {E : XK} (s0 : SRep K st μ H) (hZ : XOk K Z E H μ) : XOk K (BackX st Z) E H μ := fun x st' H' μ' c dx h e s r => by
  rcases h with h | ⟨st1, g, rfl, hl, hb, hx, h⟩
  · exact hZ _ _ _ _ _ _ h e s r
  · obtain ⟨s1, e1⟩ := Back.store s0 e s hl hb
    have hpre : ∀ m, m < st.length → μ[m]? = μ'[m]? := fun m hm => by
      have h1 : m < μ.length := by rw [← s0.len]; exact hm
      rw [List.getElem?_eq_getElem h1]
      exact (e.pre m _ (List.getElem?_eq_getElem h1)).symm
    refine hZ _ _ _ _ _ _ h e1 s1 ⟨r.1, ?_⟩
    rcases r.2 with r2 | ⟨d, gs, r2, r3, r4, r5⟩
    · exact .inl r2
    · exact .inr ⟨d, gs, r2, r3, r4, r5.cut hpre hx⟩
end
/-- where a def of the text stands -/
def DefIn (K : PySem.W.Frag) (mg : Str → Option Value) (x : Str) (s : Stmt) (ps : List Str) : Prop := ∃ f fd, Fun K x x s f fd ∧ mg x = some (.ref f) ∧ Binds K fd ps []
def startD (N : List Str) (ds : List D) : Env' := ds.map some ++ List.replicate (N.length - ds.length) none
theorem start_rep {K : PySem.W.Frag} {H : Hp} {μ : List Addr} {ds : List D} {vs : List V} (N : List Str) (r : Reps K H μ ds vs) : ERep K H μ (startD N ds) (L2.start N vs) := by
  have hl := r.length
  refine ⟨by simp [startD, L2.start, hl], fun i d e => ?_⟩
  unfold startD at e
  by_cases hi : i < ds.length
  · rw [List.getElem?_append_left (by simpa using hi), List.getElem?_map] at e
    cases q : ds[i]? with
    | none => rw [q] at e; cases e
    | some d' =>
      rw [q] at e
      cases e
      obtain ⟨v, hv, rv⟩ := r.get q
      refine ⟨v, ?_, rv⟩
      unfold L2.start
      rw [List.getElem?_append_left (by simp; omega), List.getElem?_map, hv]
      rfl
  · rw [List.getElem?_append_right (by simpa using hi), List.getElem?_replicate] at e
    split at e <;> cases e
section
variable {P : Program} {w : World} {K : PySem.W.Frag} {mg : Str → Option Value} {base : Heap} {k n : Nat} {x : Str} {s : Stmt} {N ps : List Str} {dsp : DSp}
abbrev XDef (P : Program) (w : World) (K : PySem.W.Frag) (mg : Str → Option Value) (base : Heap) (N : List Str) (x : Str) (s : Stmt) (f : Addr) (cdv : Value) (A : Around) (outer : List Env) (s0 : Shared) (H : Hp) (E : XK) : Cx :=
  cxOf (L2.CX P w) P w K mg base N x (defScope s) f cdv A outer s0 H E
abbrev WDef (E : XK) : WX := fun cls d _ H => E cls d H
theorem has_mk (F : DefIn K mg x s ps) (S : FnScope N ps (defScope s)) (hn : ps.length = n)
    (body : ∀ (f : Addr) (cdv : Value) (A : Around) (outer : List Env) (s0 : Shared) (H : Hp) (E : XK), Room k (A.deeper (envOfC x (defScope s) s0.heap.objs.size f cdv)) →
      ∃ t, DSs (XDef P w K mg base N x s f cdv A outer s0 H E) (WDef E) (defBody s) t ∧ ∀ ds st Q Z, ds.length = n → dsp ds st Q Z → t { nx := fun _ st' => Back st Q .non st', rt := Back st Q, xs := fun x _ st' => BackX st Z x st' } (startD N ds) st) :
    Has P w K mg base (k + 1) x n dsp := by
  obtain ⟨f, fd, F, hm, hb⟩ := F
  refine ⟨f, fd, ps, F.okX S (fun vs H Q E h => by rw [hn]; exact h.1) (fun cdv A outer s0 H vs Q E hr h => ?_), hm, F.kp, hb⟩
  obtain ⟨t, ht, hd⟩ := body f cdv A outer s0 H E hr
  obtain ⟨hl, ds, st, μ, Qd, Z, r, sr, hsp, hQ, hZ⟩ := h
  refine ⟨_, ht, startD N ds, st, μ, _, ⟨start_rep N r, sr⟩, hd ds st Qd Z (by rw [r.length]; exact hl) hsp, ?_, Back.ok sr hQ, ?_, ?_, ?_⟩
  · exact fun ρ' st' σ' H' μ' q e s' => Back.ok sr hQ _ _ _ _ _ q e s'.s rfl
  · exact fun ρ' st' σ' H' μ' q e s' => q.elim
  · exact fun ρ' st' σ' H' μ' q e s' => q.elim
  · exact fun x' ρ' st' σ' H' μ' c dx q e s' r' => BackX.ok sr hZ _ _ _ _ _ _ q e s'.s r'
end
end DL
namespace DL
open PySem L2 PySem.Spec
open PyProof.Rows hiding St
variable [TC : TabCtx]
section
variable {K : PySem.W.Frag}
theorem DOp.or {r r' : R2} {d d' : D2} (h : DOp K r d) (h' : DOp K r' d') : DOp K (fun x y H Q => r x y H Q ∨ r' x y H Q) (fun x y st Q => d x y st Q ∨ d' x y st Q) := by
  intro H μ st x y v u Qd Q s rx ry q hQ
  rcases q with q | q
  · exact .inl (h s rx ry q hQ)
  · exact .inr (h' s rx ry q hQ)
theorem DOp.i0 {g : Int → Int → V} {f : Int → Int → D} (hf : ∀ i j H μ, Rep K H μ (f i j) (g i j)) : DOp K (rI0 g) (fun x y st Q => match x, y with | .int i, .int j => Q (f i j) st | _, _ => False) := by
  intro H μ st x y v u Qd Q s rx ry h hQ
  cases x <;> cases y <;> first | exact (show False from h).elim | skip
  exact ⟨_, _, rx, ry, hQ _ _ _ _ _ h (Ext.refl _ _) s (hf _ _ _ _)⟩
theorem DOp.ic {C : Int → Int → Prop} {g : Int → Int → V} {f : Int → Int → D} (hf : ∀ i j H μ, Rep K H μ (f i j) (g i j)) : DOp K (rI C g) (fun x y st Q => match x, y with | .int i, .int j => C i j ∧ Q (f i j) st | _, _ => False) := by
  intro H μ st x y v u Qd Q s rx ry h hQ
  cases x <;> cases y <;> first | exact (show False from h).elim | skip
  exact ⟨_, _, rx, ry, h.1, hQ _ _ _ _ _ h.2 (Ext.refl _ _) s (hf _ _ _ _)⟩
/-- +: ints, texts, tuples, lists -/
def dAdd : D2 := fun x y st Q => match x, y with
  | .int i, .int j => Q (.int (i + j)) st
  | .str a, .str b => a.length + b.length ≤ sizeLine ∧ Q (.str (a ++ b)) st
  | .tup a, .tup b => a.length + b.length ≤ sizeLine ∧ Q (.tup (a ++ b)) st
  | .loc m, .loc n => ∃ a b, st[m]? = some (.lst a) ∧ st[n]? = some (.lst b) ∧ a.length + b.length ≤ sizeLine ∧ Q (.loc st.length) (st ++ [.lst (a ++ b)])
  | _, _ => False
def rAddV (K : PySem.W.Frag) : R2 := fun x y H Q => rI0 (fun i j => .int (i + j)) x y H Q ∨ (∃ i j, x = .str i ∧ y = .str j ∧ i.length + j.length ≤ sizeLine ∧ Q (.str (i ++ j)) H) ∨ rCatA K x y H Q ∨ rCat x y H Q
theorem add_ok : DOp K (rAddV K) dAdd := by
  intro H μ st x y v u Qd Q s rx ry h hQ
  cases x with
  | int i =>
    cases y <;> first | exact (show False from h).elim | skip
    exact .inl ⟨_, _, rx, ry, hQ _ _ _ _ _ h (Ext.refl _ _) s rfl⟩
  | str a =>
    cases y <;> first | exact (show False from h).elim | skip
    exact .inr (.inl ⟨_, _, rx, ry, h.1, hQ _ _ _ _ _ h.2 (Ext.refl _ _) s rfl⟩)
  | tup a =>
    cases y <;> first | exact (show False from h).elim | skip
    rename_i b
    obtain ⟨p, vs, rfl, hs, hr⟩ := rx
    obtain ⟨q, us, rfl, hs', hr'⟩ := ry
    refine .inr (.inr (.inl ⟨p, q, vs, us, rfl, rfl, hs, hs', by rw [← hr.length, ← hr'.length]; exact h.1, fun e => ?_, fun _ e => ?_, fun _ _ o ho => ?_⟩))
    · subst e
      have : a = [] := List.eq_nil_of_length_eq_zero hr.length
      subst this
      exact hQ _ _ _ _ _ h.2 (Ext.refl _ _) s ⟨q, us, rfl, hs', hr'⟩
    · subst e
      have : b = [] := List.eq_nil_of_length_eq_zero hr'.length
      subst this
      refine hQ _ _ _ _ _ h.2 (Ext.refl _ _) s ⟨p, vs, rfl, hs, ?_⟩
      rw [List.append_nil]; exact hr
    · exact hQ.tup (Ext.refl _ _) s (hr.append hr') h.2 ho
  | loc m =>
    cases y <;> first | exact (show False from h).elim | skip
    rename_i n
    obtain ⟨a, b, ha, hb, hz, q⟩ := h
    obtain ⟨p, rfl, hp⟩ := rx
    obtain ⟨p', rfl, hp'⟩ := ry
    obtain ⟨_, o, e1, e2, vs, rfl, hr⟩ := s.at' _ _ ha
    rw [hp] at e1; cases e1
    obtain ⟨_, o, e1, e3, us, rfl, hr'⟩ := s.at' _ _ hb
    rw [hp'] at e1; cases e1
    exact .inr (.inr (.inr ⟨p, p', vs, us, rfl, rfl, e2, e3, by rw [← hr.length, ← hr'.length]; exact hz, fun o ho => hQ.lst (Ext.refl _ _) s (hr.append hr') q ho⟩))
  | _ => exact (show False from h).elim
def dSub : D2 := fun x y st Q => match x, y with | .int i, .int j => Q (.int (i - j)) st | _, _ => False
def dMul : D2 := fun x y st Q => match x, y with | .int i, .int j => CMul i j ∧ Q (.int (i * j)) st | _, _ => False
def dDiv : D2 := fun x y st Q => match x, y with | .int i, .int j => CDiv i j ∧ Q (.int (i / j)) st | _, _ => False
def dMod : D2 := fun x y st Q => match x, y with | .int i, .int j => 0 < j ∧ Q (.int (i % j)) st | _, _ => False
def dPow : D2 := fun x y st Q => match x, y with | .int i, .int j => CPow i j ∧ Q (.int (i ^ j.toNat)) st | _, _ => False
theorem sub_ok : DOp K (rI0 fun i j => .int (i - j)) dSub := DOp.i0 (f := fun i j => .int (i - j)) fun i j _ _ => rfl
theorem mul_ok : DOp K (rI CMul fun i j => .int (i * j)) dMul := DOp.ic (f := fun i j => .int (i * j)) fun i j _ _ => rfl
theorem div_ok : DOp K (rI CDiv fun i j => .int (i / j)) dDiv := DOp.ic (f := fun i j => .int (i / j)) fun i j _ _ => rfl
theorem mod_ok : DOp K (rI (fun _ j => 0 < j) fun i j => .int (i % j)) dMod := DOp.ic (f := fun i j => .int (i % j)) fun i j _ _ => rfl
theorem pow_ok : DOp K (rI CPow fun i j => .int (i ^ j.toNat)) dPow := DOp.ic (f := fun i j => .int (i ^ j.toNat)) fun i j _ _ => rfl
end
section
variable {X : Cx} {W : WX} {a b e : Expr} {ta tb te : DTE} {pos : Pos}
theorem de_add (ha : DE X W a ta) (hb : DE X W b tb) : DE X W (.BinOp a .Add b pos) (dOp dAdd ta tb) := de_op (op_add.or (op_add_str.or (op_catA.or op_cat))) add_ok ha hb
theorem de_sub (ha : DE X W a ta) (hb : DE X W b tb) : DE X W (.BinOp a .Sub b pos) (dOp dSub ta tb) := de_op op_sub sub_ok ha hb
theorem de_mul (ha : DE X W a ta) (hb : DE X W b tb) : DE X W (.BinOp a .Mult b pos) (dOp dMul ta tb) := de_op op_mul mul_ok ha hb
theorem de_div (ha : DE X W a ta) (hb : DE X W b tb) : DE X W (.BinOp a .FloorDiv b pos) (dOp dDiv ta tb) := de_op op_fdiv div_ok ha hb
theorem de_mod (ha : DE X W a ta) (hb : DE X W b tb) : DE X W (.BinOp a .Mod b pos) (dOp dMod ta tb) := de_op op_mod mod_ok ha hb
theorem de_pow (ha : DE X W a ta) (hb : DE X W b tb) : DE X W (.BinOp a .Pow b pos) (dOp dPow ta tb) := de_op op_pow pow_ok ha hb
end
end DL
namespace DL
open PySem L2 PySem.Spec
open PyProof.Rows hiding St
variable [TC : TabCtx]
def pdF (st : Sto) : Nat → D → Option PyData
  | _, .non => some .none
  | _, .bl b => some (.bool b)
  | _, .int i => some (.int i)
  | _, .str x => some (.str x)
  | n + 1, .tup ds => (ds.mapM (pdF st n)).map .tuple
  | n + 1, .fls ds => (ds.mapM (pdF st n)).map .list
  | n + 1, .loc m => match st[m]? with
    | some (.lst ds) => (ds.mapM (pdF st n)).map .list
    | _ => none
  | _, _ => none
section
variable {K : PySem.W.Frag} {H : Hp} {μ : List Addr} {st : Sto}
theorem mapM_cons_some {α β : Type} {f : α → Option β} {x : α} {xs : List α} {ps : List β} (h : (x :: xs).mapM f = some ps) : ∃ p qs, ps = p :: qs ∧ f x = some p ∧ xs.mapM f = some qs := by
  rw [List.mapM_cons] at h
  cases e1 : f x with
  | none => rw [e1] at h; cases h
  | some p =>
    cases e2 : xs.mapM f with
    | none => rw [e1, e2] at h; cases h
    | some qs =>
      rw [e1, e2] at h
      cases h
      exact ⟨p, qs, rfl, rfl, rfl⟩
theorem dpAll_of (s : SRep K st μ H) {n : Nat} (ih : ∀ d v p, Rep K H μ d v → pdF st n d = some p → Dp K H v p) : ∀ {ds : List D} {vs : List V} {ps : List PyData}, Reps K H μ ds vs → ds.mapM (pdF st n) = some ps → DpAll K H vs ps
  | [], _, _, r, h => by
    subst r
    cases h
    exact .nil
  | d :: ds, _, _, r, h => by
    obtain ⟨v, rs, rfl, r1, r2⟩ := r
    obtain ⟨p, qs, rfl, h1, h2⟩ := mapM_cons_some h
    exact .cons (ih d v p r1 h1) (dpAll_of s ih r2 h2)
theorem dp_of (s : SRep K st μ H) : ∀ (n : Nat) (d : D) (v : V) (p : PyData), Rep K H μ d v → pdF st n d = some p → Dp K H v p := by
  intro n
  induction n with
  | zero =>
    intro d v p r h
    cases d <;> simp only [pdF] at h <;> first | (cases h; rw [show v = _ from r]; constructor) | cases h
  | succ n ih =>
    intro d v p r h
    cases d with
    | non => cases h; rw [show v = _ from r]; constructor
    | bl b => cases h; rw [show v = _ from r]; constructor
    | int i => cases h; rw [show v = _ from r]; constructor
    | str x => cases h; rw [show v = _ from r]; constructor
    | tup ds =>
      obtain ⟨a, vs, rfl, hs, hr⟩ := r
      simp only [pdF, Option.map_eq_some_iff] at h
      obtain ⟨ps, h1, rfl⟩ := h
      exact .tup hs (dpAll_of s ih hr h1)
    | fls ds =>
      obtain ⟨a, vs, rfl, hs, hr⟩ := r
      simp only [pdF, Option.map_eq_some_iff] at h
      obtain ⟨ps, h1, rfl⟩ := h
      exact .lst hs.sq (dpAll_of s ih hr h1)
    | loc m =>
      obtain ⟨a, rfl, hm⟩ := r
      simp only [pdF] at h
      split at h
      · rename_i ds e
        obtain ⟨a', o, e1, e2, vs, rfl, hr⟩ := s.at' _ _ e
        rw [hm] at e1; cases e1
        simp only [Option.map_eq_some_iff] at h
        obtain ⟨ps, h1, rfl⟩ := h
        exact .lst (.inl (.inl e2)) (dpAll_of s ih hr h1)
      · cases h
    | adr a => cases h
    | ty t => cases h
def atomEq : D → D → Option Bool
  | .int i, .int j => some (decide (i = j))
  | .str x, .str y => some (decide (x = y))
  | .bl a, .bl b => some (decide (a = b))
  | .non, .non => some true
  | .non, .int _ => some false
  | .int _, .non => some false
  | .non, .str _ => some false
  | .str _, .non => some false
  | .non, .bl _ => some false
  | .bl _, .non => some false
  | .int _, .str _ => some false
  | .str _, .int _ => some false
  | _, _ => none
def dEqB (f : Bool → Bool) : D2 := fun x y st Q => match atomEq x y with
  | some b => Q (.bl (f b)) st
  | none => ∃ n d e, pdF st n x = some d ∧ pdF st n y = some e ∧ SeqAt.shaped d = true ∧ SeqAt.shaped e = true ∧ Q (.bl (f (PyData.eqv d e))) st
abbrev dEq : D2 := dEqB id
abbrev dNe : D2 := dEqB not
theorem atomEq_ok {x y : D} {v u : V} {b : Bool} (h : atomEq x y = some b) (rx : Rep K H μ x v) (ry : Rep K H μ y u) : scal v u = true ∧ decide (v = u) = b := by
  cases x <;> cases y <;> simp only [atomEq] at h <;> first | (cases h; done) | skip
  all_goals
    cases h
    rw [show v = _ from rx, show u = _ from ry]
    refine ⟨rfl, ?_⟩
    simp
theorem eq_ok : DOp K (fun x y H Q => rEq x y H Q ∨ rEqD K x y H Q) dEq := by
  intro H μ st x y v u Qd Q s rx ry h hQ
  unfold dEq dEqB at h
  split at h
  · rename_i b e
    obtain ⟨h1, h2⟩ := atomEq_ok e rx ry
    exact .inl ⟨h1, by rw [h2]; exact hQ _ _ _ _ _ h (Ext.refl _ _) s rfl⟩
  · obtain ⟨n, d, e, h1, h2, h3, h4, q⟩ := h
    exact .inr ⟨d, e, dp_of s n x v d rx h1, dp_of s n y u e ry h2, h3, h4, hQ _ _ _ _ _ q (Ext.refl _ _) s rfl⟩
theorem ne_ok : DOp K (fun x y H Q => rNe x y H Q ∨ rNeD K x y H Q) dNe := by
  intro H μ st x y v u Qd Q s rx ry h hQ
  unfold dNe dEqB at h
  split at h
  · rename_i b e
    obtain ⟨h1, h2⟩ := atomEq_ok e rx ry
    exact .inl ⟨h1, by rw [h2]; exact hQ _ _ _ _ _ h (Ext.refl _ _) s rfl⟩
  · obtain ⟨n, d, e, h1, h2, h3, h4, q⟩ := h
    exact .inr ⟨d, e, dp_of s n x v d rx h1, dp_of s n y u e ry h2, h3, h4, hQ _ _ _ _ _ q (Ext.refl _ _) s rfl⟩
/-- an order of ints; of texts, tuples, lists by dataLt -/
def dOrd (f : Int → Int → Bool) (g : PyData → PyData → Bool) : D2 := fun x y st Q => match x, y with
  | .int i, .int j => Q (.bl (f i j)) st
  | x, y => ∃ n d e, pdF st n x = some d ∧ pdF st n y = some e ∧ PySem.W.alike d e = true ∧ d ≠ .none ∧ d.depth ≤ 64 ∧ Q (.bl (g d e)) st
abbrev dLt : D2 := dOrd (fun i j => decide (i < j)) PySem.W.dataLt
abbrev dGt : D2 := dOrd (fun i j => decide (j < i)) fun d e => PySem.W.dataLt e d
abbrev dLe : D2 := dOrd (fun i j => decide (i ≤ j)) fun d e => !PySem.W.dataLt e d
abbrev dGe : D2 := dOrd (fun i j => decide (j ≤ i)) fun d e => !PySem.W.dataLt d e
def rOrdD (K : PySem.W.Frag) (g : PyData → PyData → Bool) : R2 := fun x y H Q => ∃ d e, Dp K H x d ∧ Dp K H y e ∧ PySem.W.alike d e = true ∧ d ≠ .none ∧ d.depth ≤ 64 ∧ Q (.bl (g d e)) H
theorem ord_ok {f : Int → Int → Bool} {g : PyData → PyData → Bool} : DOp K (fun x y H Q => rI0 (fun i j => .bl (f i j)) x y H Q ∨ rOrdD K g x y H Q) (dOrd f g) := by
  intro H μ st x y v u Qd Q s rx ry h hQ
  unfold dOrd at h
  split at h
  · exact .inl ⟨_, _, rx, ry, hQ _ _ _ _ _ h (Ext.refl _ _) s rfl⟩
  · obtain ⟨n, d, e, h1, h2, h3, h4, h5, q⟩ := h
    exact .inr ⟨d, e, dp_of s n _ v d rx h1, dp_of s n _ u e ry h2, h3, h4, h5, hQ _ _ _ _ _ q (Ext.refl _ _) s rfl⟩
end
section
variable {X : Cx}
theorem op_ordD {op : CmpOp} {g : PyData → PyData → Bool} (hu : X.A.units + 64 < cLine)
    (rule : ∀ (s : Shared) (E : Value → Shared → Prop) (a b : Value) (da db : PyData) (as bs : List Addr) (Q : Value → Shared → Prop), Reads s.heap a da as → Reads s.heap b db bs → PySem.W.alike da db = true → da ≠ .none → X.A.units + min da.depth db.depth < cLine → Q (.bool (g da db)) s → wpAny (model X.prog X.w) X.A (compareOp op a b) Q E s) :
    OpR X (compareOp op) (rOrdD X.K g) := by
  intro pins s σ H x y v u Q I rx ry h
  obtain ⟨d, e, hd, he, ha, hn, hdp, q⟩ := h
  obtain ⟨as, r1⟩ := Dp.reads I d x v hd rx
  obtain ⟨bs, r2⟩ := Dp.reads I e y u he ry
  have hm : min d.depth e.depth ≤ d.depth := Nat.min_le_left _ _
  exact rule s _ v u d e as bs _ r1 r2 ha hn (by omega) ⟨.bl _, H, I, rfl, q⟩
theorem op_ltA (hu : X.A.units + 64 < cLine) : OpR X (compareOp .Lt) (rOrdD X.K PySem.W.dataLt) := op_ordD hu fun _ _ _ _ _ _ _ _ _ h1 h2 h3 h4 h5 q => PySem.W.lt_data h1 h2 h3 h4 h5 q
theorem op_gtA (hu : X.A.units + 64 < cLine) : OpR X (compareOp .Gt) (rOrdD X.K fun d e => PySem.W.dataLt e d) := op_ordD hu fun _ _ _ _ _ _ _ _ _ h1 h2 h3 h4 h5 q => PySem.W.gt_data h1 h2 h3 h4 h5 q
theorem op_leA (hu : X.A.units + 64 < cLine) : OpR X (compareOp .LtE) (rOrdD X.K fun d e => !PySem.W.dataLt e d) := op_ordD hu fun _ _ _ _ _ _ _ _ _ h1 h2 h3 h4 h5 q => PySem.W.le_data h1 h2 h3 h4 h5 q
theorem op_geA (hu : X.A.units + 64 < cLine) : OpR X (compareOp .GtE) (rOrdD X.K fun d e => !PySem.W.dataLt d e) := op_ordD hu fun _ _ _ _ _ _ _ _ _ h1 h2 h3 h4 h5 q => PySem.W.ge_data h1 h2 h3 h4 h5 q
/-- a comparison, by values: the operator's rule and its data form -/
structure Cm (X : Cx) (op : CmpOp) (dr : D2) : Prop where
  ex : ∃ r, OpR X (compareOp op) r ∧ DOp X.K r dr
theorem cm_eq (hu : X.A.units + 64 < cLine) : Cm X .Eq dEq := ⟨_, op_eq.or (op_eqD hu), eq_ok⟩
theorem cm_ne (hu : X.A.units + 64 < cLine) : Cm X .NotEq dNe := ⟨_, op_ne.or (op_neD hu), ne_ok⟩
theorem cm_lt (hu : X.A.units + 64 < cLine) : Cm X .Lt dLt := ⟨_, op_lt.or (op_ltA hu), ord_ok⟩
theorem cm_gt (hu : X.A.units + 64 < cLine) : Cm X .Gt dGt := ⟨_, op_gt.or (op_gtA hu), ord_ok⟩
theorem cm_le (hu : X.A.units + 64 < cLine) : Cm X .LtE dLe := ⟨_, op_le.or (op_leA hu), ord_ok⟩
theorem cm_ge (hu : X.A.units + 64 < cLine) : Cm X .GtE dGe := ⟨_, op_ge.or (op_geA hu), ord_ok⟩
/-- is None, is not None -/
def isNonD : D → Bool
  | .non => true
  | _ => false
def dIsN (f : Bool → Bool) : D2 := fun x y st Q => match y with | .non => Q (.bl (f (isNonD x))) st | _ => False
theorem isNon_ok {K : PySem.W.Frag} {H : Hp} {μ : List Addr} {x : D} {v : V} (r : Rep K H μ x v) : decide (v = .non) = isNonD x := by
  cases x with
  | non => rw [show v = _ from r]; rfl
  | bl _ => rw [show v = _ from r]; rfl
  | int _ => rw [show v = _ from r]; rfl
  | str _ => rw [show v = _ from r]; rfl
  | adr _ => rw [show v = _ from r]; rfl
  | ty _ => rw [show v = _ from r]; rfl
  | tup _ => obtain ⟨a, vs, rfl, _⟩ := r; rfl
  | fls _ => obtain ⟨a, vs, rfl, _⟩ := r; rfl
  | loc _ => obtain ⟨a, rfl, _⟩ := r; rfl
theorem cm_is : Cm X .Is (dIsN id) := ⟨_, op_isN, fun {H μ st x y v u Qd Q} s rx ry h hQ => by
  cases y <;> first | exact (show False from h).elim | skip
  exact ⟨ry, by rw [isNon_ok rx]; exact hQ _ _ _ _ _ h (Ext.refl _ _) s rfl⟩⟩
theorem cm_isnot : Cm X .IsNot (dIsN not) := ⟨_, op_notN, fun {H μ st x y v u Qd Q} s rx ry h hQ => by
  cases y <;> first | exact (show False from h).elim | skip
  exact ⟨ry, by rw [isNon_ok rx]; exact hQ _ _ _ _ _ h (Ext.refl _ _) s rfl⟩⟩
/-- x in (a, b, ..), [a, b, ..]: flat items -/
def flatD : D → Bool
  | .non => true
  | .bl _ => true
  | .int _ => true
  | .str _ => true
  | _ => false
/-- a flat datum as a value -/
def flatVal : D → V
  | .bl b => .bl b
  | .int i => .int i
  | .str x => .str x
  | _ => .non
def inD (x : D) (ds : List D) : Bool := inV (flatVal x) (ds.map flatVal)
def itemsD (st : Sto) : D → Option (List D)
  | .tup ds => some ds
  | .fls ds => some ds
  | .loc n => match st[n]? with | some (.lst ds) => some ds | _ => none
  | _ => none
def dIn (neg : Bool) : D2 := fun x y st Q => ∃ ds, itemsD st y = some ds ∧ flatD x = true ∧ ds.all flatD = true ∧ Q (.bl (if neg then !inD x ds else inD x ds)) st
theorem flat_rep {K : PySem.W.Frag} {H : Hp} {μ : List Addr} {x : D} {v : V} (r : Rep K H μ x v) (h : flatD x = true) : v = flatVal x ∧ flatV v = true := by
  cases x <;> first | (cases h; done) | skip
  all_goals
    rw [show v = _ from r]
    exact ⟨rfl, rfl⟩
theorem flats_rep {K : PySem.W.Frag} {H : Hp} {μ : List Addr} : ∀ {ds : List D} {vs : List V}, Reps K H μ ds vs → ds.all flatD = true → vs = ds.map flatVal ∧ vs.all flatV = true
  | [], _, r, _ => by subst r; exact ⟨rfl, rfl⟩
  | d :: ds, _, r, h => by
    obtain ⟨v, rs, rfl, r1, r2⟩ := r
    simp only [List.all_cons, Bool.and_eq_true] at h
    obtain ⟨e1, e2⟩ := flat_rep r1 h.1
    obtain ⟨e3, e4⟩ := flats_rep r2 h.2
    subst e1 e3
    exact ⟨rfl, by simp only [List.all_cons, Bool.and_eq_true]; exact ⟨e2, e4⟩⟩
theorem items_ok {K : PySem.W.Frag} {H : Hp} {μ : List Addr} {st : Sto} {y : D} {u : V} {ds : List D} (s : SRep K st μ H) (r : Rep K H μ y u) (h : itemsD st y = some ds) : ∃ p vs, u = .ref p ∧ (SqL K H p vs ∨ SqT K H p vs) ∧ Reps K H μ ds vs := by
  cases y <;> simp only [itemsD] at h <;> first | (cases h; done) | skip
  · cases h
    obtain ⟨a, vs, rfl, hs, hr⟩ := r
    exact ⟨a, vs, rfl, .inr hs, hr⟩
  · cases h
    obtain ⟨a, vs, rfl, hs, hr⟩ := r
    exact ⟨a, vs, rfl, .inl hs.sq, hr⟩
  · obtain ⟨a, rfl, hn⟩ := r
    split at h
    · rename_i ds' e
      cases h
      obtain ⟨a', o, e1, e2, vs, rfl, hr⟩ := s.at' _ _ e
      rw [hn] at e1; cases e1
      exact ⟨a, vs, rfl, .inl (.inl (.inl e2)), hr⟩
    · cases h
theorem in_ok {K : PySem.W.Frag} {neg : Bool} : DOp K (rIn K neg) (dIn neg) := by
  intro H μ st x y v u Qd Q s rx ry h hQ
  obtain ⟨ds, h1, h2, h3, q⟩ := h
  obtain ⟨p, vs, rfl, hs, hr⟩ := items_ok s ry h1
  obtain ⟨e1, f1⟩ := flat_rep rx h2
  obtain ⟨e2, f2⟩ := flats_rep hr h3
  refine ⟨p, vs, rfl, hs, f1, f2, ?_⟩
  subst e1 e2
  exact hQ _ _ _ _ _ q (Ext.refl _ _) s rfl
theorem cm_in : Cm X .In (dIn false) := ⟨_, op_in_seq, in_ok⟩
theorem cm_notin : Cm X .NotIn (dIn true) := ⟨_, op_notIn_seq, in_ok⟩
end
section
variable {X : Cx} {W : WX} {a b c e : Expr} {ta tb tc : DTE} {pos : Pos} {op op' : CmpOp} {dr dr' : D2}
theorem de_cm (C : Cm X op dr) (hm : behindInMarks op b = false) (ha : DE X W a ta) (hb : DE X W b tb) : DE X W (.Compare a [op] [b] pos) (dOp dr ta tb) := by
  obtain ⟨r, ho, hr⟩ := C.ex
  exact de_cmp ho hr hm ha hb
theorem dt_cm (C : Cm X op dr) (hm : behindInMarks op b = false) (ha : DE X W a ta) (hb : DE X W b tb) : DT X W (.Compare a [op] [b] pos) (dTest (dOp dr ta tb)) := by
  obtain ⟨r, ho, hr⟩ := C.ex
  exact dt_cmp ho hr hm ha hb
theorem de_cm2 (C : Cm X op dr) (C' : Cm X op' dr') (ha : DE X W a ta) (hb : DE X W b tb) (hc : DE X W c tc) (hm : lastMarks [op, op'] [b, c] = false := by with_unfolding_all rfl) : DE X W (.Compare a [op, op'] [b, c] pos) (dChain dr dr' ta tb tc) := by
  obtain ⟨r, ho, hr⟩ := C.ex
  obtain ⟨r', ho', hr'⟩ := C'.ex
  exact de_chain ho hr ho' hr' ha hb hc hm
theorem dt_cm2 (C : Cm X op dr) (C' : Cm X op' dr') (ha : DE X W a ta) (hb : DE X W b tb) (hc : DE X W c tc) (hm : lastMarks [op, op'] [b, c] = false := by with_unfolding_all rfl) : DT X W (.Compare a [op, op'] [b, c] pos) (dTest (dChain dr dr' ta tb tc)) := by
  obtain ⟨r, ho, hr⟩ := C.ex
  obtain ⟨r', ho', hr'⟩ := C'.ex
  exact dt_chain ho hr ho' hr' ha hb hc hm
end
end DL
namespace DL
open PySem L2 PySem.Spec
open PyProof.Rows hiding St
variable [TC : TabCtx]
section
variable {K : PySem.W.Frag} {H : Hp} {μ : List Addr} {st : Sto}
theorem CallR.or {X : Cx} {f : Value} {r r' : List V → Hp → VK → Prop} (h : CallR X f r) (h' : CallR X f r') : CallR X f (fun xs H Q => r xs H Q ∨ r' xs H Q) := by
  intro pins s σ H xs us Q I r q
  rcases q with q | q
  · exact h pins s σ H xs us Q I r q
  · exact h' pins s σ H xs us Q I r q
theorem reps1 {d : D} {vs : List V} (h : Reps K H μ [d] vs) : ∃ v, vs = [v] ∧ Rep K H μ d v := by
  obtain ⟨v, r, rfl, h1, h2⟩ := h
  exact ⟨v, by rw [show r = [] from h2], h1⟩
/-- len -/
def lenD (st : Sto) : D → (Nat → Prop) → Prop
  | .str z, Q => z.length ≤ sizeLine ∧ Q z.length
  | .tup ds, Q => Q ds.length
  | .fls ds, Q => Q ds.length
  | .loc n, Q => match st[n]? with | some (.lst ds) => Q ds.length | _ => False
  | _, _ => False
def dLen : DN := fun ds st Q => match ds with | [d] => lenD st d fun n => Q (.int n) st | _ => False
theorem len_ok : DCl K (fun xs H Q => (∃ p ys, xs = [.ref p] ∧ (SqL K H p ys ∨ SqT K H p ys) ∧ Q (.int ys.length) H) ∨ ∃ z, xs = [.str z] ∧ z.length ≤ sizeLine ∧ Q (.int z.length) H) dLen := by
  intro H μ st ds vs Qd Q s r h hQ
  match ds, r, h with
  | [d], r, h =>
    obtain ⟨v, rfl, r1⟩ := reps1 r
    cases d with
    | str z => rw [show v = _ from r1]; exact .inr ⟨z, rfl, h.1, hQ _ _ _ _ _ h.2 (Ext.refl _ _) s rfl⟩
    | tup ds =>
      obtain ⟨a, vs, rfl, hs, hr⟩ := r1
      exact .inl ⟨a, vs, rfl, .inr hs, by rw [← hr.length]; exact hQ _ _ _ _ _ h (Ext.refl _ _) s rfl⟩
    | fls ds =>
      obtain ⟨a, vs, rfl, hs, hr⟩ := r1
      exact .inl ⟨a, vs, rfl, .inl hs.sq, by rw [← hr.length]; exact hQ _ _ _ _ _ h (Ext.refl _ _) s rfl⟩
    | loc n =>
      obtain ⟨a, rfl, hn⟩ := r1
      simp only [dLen, lenD] at h
      split at h
      · rename_i ds e
        obtain ⟨a', o, e1, e2, vs, rfl, hr⟩ := s.at' _ _ e
        rw [hn] at e1; cases e1
        exact .inl ⟨a, vs, rfl, .inl (.inl (.inl e2)), by rw [← hr.length]; exact hQ _ _ _ _ _ h (Ext.refl _ _) s rfl⟩
      · exact h.elim
    | _ => exact (show False from h).elim
/-- abs, int -/
def dAbs : DN := fun ds st Q => match ds with | [.int i] => Q (.int (if i < 0 then -i else i)) st | _ => False
theorem abs_ok : DCl K (fun xs H Q => ∃ i, xs = [.int i] ∧ Q (.int (if i < 0 then -i else i)) H) dAbs := by
  intro H μ st ds vs Qd Q s r h hQ
  unfold dAbs at h
  split at h
  · exact ⟨_, r.ints1, hQ _ _ _ _ _ h (Ext.refl _ _) s rfl⟩
  · exact h.elim
def dInt : DN := fun ds st Q => match ds with
  | [.int i] => Q (.int i) st
  | [.bl k] => Q (.int (if k then 1 else 0)) st
  | [.str a] => ∃ n, PySem.intText? a = some n ∧ a.length ≤ 640 ∧ Q (.int n) st
  | _ => False
theorem int_ok : DCl K (fun xs H Q => ((∃ i, xs = [.int i] ∧ Q (.int i) H) ∨ ∃ k, xs = [.bl k] ∧ Q (.int (if k then 1 else 0)) H) ∨ ∃ a n, xs = [.str a] ∧ PySem.intText? a = some n ∧ a.length ≤ 640 ∧ Q (.int n) H) dInt := by
  intro H μ st ds vs Qd Q s r h hQ
  unfold dInt at h
  split at h
  · exact .inl (.inl ⟨_, r.ints1, hQ _ _ _ _ _ h (Ext.refl _ _) s rfl⟩)
  · obtain ⟨v, rfl, r1⟩ := reps1 r
    exact .inl (.inr ⟨_, by rw [show v = _ from r1], hQ _ _ _ _ _ h (Ext.refl _ _) s rfl⟩)
  · obtain ⟨v, rfl, r1⟩ := reps1 r
    obtain ⟨n, h1, h2, q⟩ := h
    exact .inr ⟨_, n, by rw [show v = _ from r1], h1, h2, hQ _ _ _ _ _ q (Ext.refl _ _) s rfl⟩
  · exact h.elim
/-- tuple(..), list(..) -/
def dTupOf : DN := fun ds st Q => match ds with | [d] => (match itemsD st d with | some es => Q (.tup es) st | none => False) | _ => False
theorem tupOf_ok : DCl K (fun xs H Q => ∃ p ys, xs = [.ref p] ∧ ((SqL K H p ys ∧ ∀ l, H l = none → Q (.ref l) (upd H l (.tup ys))) ∨ (SqT K H p ys ∧ Q (.ref p) H))) dTupOf := by
  intro H μ st ds vs Qd Q s r h hQ
  match ds, r, h with
  | [d], r, h =>
    obtain ⟨v, rfl, r1⟩ := reps1 r
    simp only [dTupOf] at h
    split at h
    · rename_i es e
      obtain ⟨p, vs, rfl, hs, hr⟩ := items_ok s r1 e
      refine ⟨p, vs, rfl, ?_⟩
      rcases hs with hs | hs
      · exact .inl ⟨hs, fun l hl => hQ.tup (Ext.refl _ _) s hr h hl⟩
      · exact .inr ⟨hs, hQ _ _ _ _ _ h (Ext.refl _ _) s ⟨p, vs, rfl, hs, hr⟩⟩
    · exact h.elim
def dLstOf : DN := fun ds st Q => match ds with | [d] => (match itemsD st d with | some es => Q (.loc st.length) (st ++ [.lst es]) | none => False) | _ => False
/-- all, any of bools -/
theorem reps_bools : ∀ {bs : List Bool} {vs : List V}, Reps K H μ (bs.map D.bl) vs → vs = bs.map V.bl
  | [], _, r => r
  | b :: bs, _, r => by
    obtain ⟨v, rs, rfl, r1, r2⟩ := r
    rw [show v = _ from r1, reps_bools r2]
    rfl
def dAll : DN := fun ds st Q => match ds with | [.loc n] => ∃ bs : List Bool, st[n]? = some (.lst (bs.map .bl)) ∧ Q (.bl (bs.all id)) st | _ => False
def dAny : DN := fun ds st Q => match ds with | [.loc n] => ∃ bs : List Bool, st[n]? = some (.lst (bs.map .bl)) ∧ Q (.bl (bs.any id)) st | _ => False
theorem all_ok : DCl K (rAll K) dAll := by
  intro H μ st ds vs Qd Q s r h hQ
  unfold dAll at h
  split at h
  · obtain ⟨v, rfl, a, rfl, hn⟩ := reps1 r
    obtain ⟨bs, hb, q⟩ := h
    obtain ⟨a', o, e1, e2, vs, rfl, hr⟩ := s.at' _ _ hb
    rw [hn] at e1; cases e1
    rw [reps_bools hr] at e2
    exact ⟨a, bs, rfl, .inl (.inl e2), hQ _ _ _ _ _ q (Ext.refl _ _) s rfl⟩
  · exact h.elim
/-- append, extend, pop, clear, reverse of a list of the store -/
def dAppend : DM := fun x ds st Q => match x, ds with | .loc n, [d] => ∃ es, st[n]? = some (.lst es) ∧ es.length < sizeLine ∧ Q .non (st.set n (.lst (es ++ [d]))) | _, _ => False
theorem append_ok : DMt K rAppend dAppend := by
  intro H μ st x v ds vs Qd Q s rx rs h hQ
  unfold dAppend at h
  split at h
  · obtain ⟨u, rfl, ru⟩ := reps1 rs
    obtain ⟨a, rfl, hn⟩ := rx
    obtain ⟨es, he, hz, q⟩ := h
    obtain ⟨a', o, e1, e2, vs, rfl, hr⟩ := s.at' _ _ he
    rw [hn] at e1; cases e1
    have w := s.write (o' := .lst (vs ++ [u])) (b := .lst (es ++ [_])) hn e2 ⟨_, rfl, hr.append (Reps.one ru)⟩
    exact ⟨a, vs, u, rfl, rfl, e2, by rw [← hr.length]; exact hz, hQ _ _ _ _ _ q w.1 w.2 rfl⟩
  · exact h.elim
def dExtend : DM := fun x ds st Q => match x, ds with | .loc n, [.loc m] => ∃ es fs, st[n]? = some (.lst es) ∧ st[m]? = some (.lst fs) ∧ es.length + fs.length ≤ sizeLine ∧ Q .non (st.set n (.lst (es ++ fs))) | _, _ => False
def dPop : DM := fun x ds st Q => match x, ds with | .loc n, [] => ∃ es d, st[n]? = some (.lst es) ∧ es[es.length - 1]? = some d ∧ Q d (st.set n (.lst es.dropLast)) | _, _ => False
theorem reps_dropLast {ds : List D} {vs : List V} (h : Reps K H μ ds vs) : Reps K H μ ds.dropLast vs.dropLast := by
  rw [List.dropLast_eq_take, List.dropLast_eq_take, h.length]
  exact h.take _
theorem pop_ok : DMt K rPop dPop := by
  intro H μ st x v ds vs Qd Q s rx rs h hQ
  unfold dPop at h
  split at h
  · obtain ⟨a, rfl, hn⟩ := rx
    obtain ⟨es, d, he, hd, q⟩ := h
    obtain ⟨a', o, e1, e2, vs', rfl, hr⟩ := s.at' _ _ he
    rw [hn] at e1; cases e1
    obtain ⟨u, hu, ru⟩ := hr.get hd
    have w := s.write (o' := .lst vs'.dropLast) (b := .lst es.dropLast) hn e2 ⟨_, rfl, reps_dropLast hr⟩
    exact ⟨a, vs', u, rfl, show vs = [] from rs, e2, by rw [← hr.length]; exact hu, hQ _ _ _ _ _ q w.1 w.2 (ru.mono w.1)⟩
  · exact h.elim
end
section
variable {X : Cx} {W : WX} {e : Expr} {es : List Expr} {t : DTA} {pos p apos : Pos} {o : Expr} {to : DTE}
/-- the calls; each x is a built-in's name that the module does not take -/
theorem de_len (hg : Gl X "len") (hm : X.mg "len" = none) (ha : DA X W (e :: es) t) (he : starEach (e :: es) X.env = (false, eval e X.env) :: starEach es X.env := by rfl) (hpl : (backTo pos (starEach es X.env)).any (·.1) = false := by rfl) :
    DE X W (.Call (.Name "len" p) (e :: es) [] pos) (dCB dLen t) := de_callB (CallR.or call_len_seq call_len_str) len_ok hg hm PySem.boot_len ha (by decide) (by decide) he hpl
theorem de_abs (hg : Gl X "abs") (hm : X.mg "abs" = none) (ha : DA X W (e :: es) t) (he : starEach (e :: es) X.env = (false, eval e X.env) :: starEach es X.env := by rfl) (hpl : (backTo pos (starEach es X.env)).any (·.1) = false := by rfl) :
    DE X W (.Call (.Name "abs" p) (e :: es) [] pos) (dCB dAbs t) := de_callB call_abs abs_ok hg hm PyProof.Rows.boot_abs ha (by decide) (by decide) he hpl
theorem de_int' (hg : Gl X "int") (hm : X.mg "int" = none) (ha : DA X W (e :: es) t) (he : starEach (e :: es) X.env = (false, eval e X.env) :: starEach es X.env := by rfl) (hpl : (backTo pos (starEach es X.env)).any (·.1) = false := by rfl) :
    DE X W (.Call (.Name "int" p) (e :: es) [] pos) (dCB dInt t) := de_callTy (CallR.or call_int1 call_int_str) int_ok hg hm PyProof.Rows.boot_int ha (by decide) (by decide) he hpl
theorem de_tuple (hg : Gl X "tuple") (hm : X.mg "tuple" = none) (ha : DA X W (e :: es) t) (he : starEach (e :: es) X.env = (false, eval e X.env) :: starEach es X.env := by rfl) (hpl : (backTo pos (starEach es X.env)).any (·.1) = false := by rfl) :
    DE X W (.Call (.Name "tuple" p) (e :: es) [] pos) (dCB dTupOf t) := de_callTy call_tuple_of tupOf_ok hg hm PyProof.Rows.boot_tuple ha (by decide) (by decide) he hpl
theorem de_all (hc : X.calm = true) (hg : Gl X "all") (hm : X.mg "all" = none) (ha : DA X W (e :: es) t) (he : starEach (e :: es) X.env = (false, eval e X.env) :: starEach es X.env := by rfl) (hpl : (backTo pos (starEach es X.env)).any (·.1) = false := by rfl) :
    DE X W (.Call (.Name "all" p) (e :: es) [] pos) (dCB dAll t) := de_callB (cr_all hc) all_ok hg hm PyProof.Rows.boot_all ha (by decide) (by decide) he hpl
theorem de_append (ho : DE X W o to) (ha : DA X W [e] t) (hbase : attributeBase o "append" X.env (eval o X.env) = eval o X.env := by rfl)
    (hfew : ((backTo pos (starEach [e] X.env)).all (fun x => !x.1) && (backToKw pos (keywordEach [] X.env)).all (fun x => x.1.isSome) && decide ([e].length + ([] : List Keyword).length + (if ([] : List Keyword).isEmpty then 0 else 1) < 30)) = true := by rfl)
    (hline : (apos.endLine == pos.line) = true := by rfl) (hs : starEach [e] X.env = (false, eval e X.env) :: starEach [] X.env := by rfl) (hplain : (backTo pos (starEach [] X.env)).any (·.1) = false := by rfl) :
    DE X W (.Call (.Attribute o "append" apos) [e] [] pos) (dBM "list" dAppend to t) := de_bm PySem.F.plainAttrs_list PySem.F.slot_list_append PySem.F.type_list_append mt_append append_ok ho ha hbase hfew hline hs hplain
end
end DL
namespace DL
open PySem L2 PySem.Spec
open PyProof.Rows hiding St
variable [TC : TabCtx]
/-- a datum's type, where it is a built-in one -/
def tyN (st : Sto) : D → Option String
  | .non => some "NoneType"
  | .bl _ => some "bool"
  | .int _ => some "int"
  | .str _ => some "str"
  | .tup _ => some "tuple"
  | .fls _ => some "list"
  | .loc n => match st[n]? with
    | some (.lst _) => some "list"
    | some (.dK _) => some "dict"
    | some (.dkF _ _) => some "dict"
    | _ => none
  | _ => none
def tySub (a b : String) : Bool := a == b || (a == "bool" && b == "int")
theorem kitB_ok : ∀ a ∈ ["NoneType", "bool", "int", "str", "tuple", "list", "dict"], ∀ b ∈ ["bool", "int", "str", "tuple", "list", "dict"], kitB a b = some (tySub a b) := by decide +kernel
section
variable {K : PySem.W.Frag} {H : Hp} {μ : List Addr} {st : Sto}
theorem tyN_mem {d : D} {a : String} (h : tyN st d = some a) : a ∈ ["NoneType", "bool", "int", "str", "tuple", "list", "dict"] := by
  cases d <;> simp only [tyN] at h <;> first | (cases h; done) | (cases h; simp; done) | skip
  split at h <;> first | (cases h; simp; done) | cases h
theorem tyN_ok {d : D} {v : V} {a : String} (s : SRep K st μ H) (r : Rep K H μ d v) (h : tyN st d = some a) : TyX K H v (.type a) := by
  cases d with
  | non => cases h; rw [show v = _ from r]; exact .base .non
  | bl b => cases h; rw [show v = _ from r]; exact .base (.bl b)
  | int b => cases h; rw [show v = _ from r]; exact .base (.int b)
  | str b => cases h; rw [show v = _ from r]; exact .base (.str b)
  | tup ds =>
    cases h
    obtain ⟨a, vs, rfl, hs, hr⟩ := r
    rcases hs with (hs | ⟨o, hs⟩) | ⟨o, its, n, hk, hc, _⟩
    · exact .base (.tup hs)
    · exact .fTuple hs
    · exact .kTuple hk hc
  | fls ds =>
    cases h
    obtain ⟨a, vs, rfl, hs, hr⟩ := r
    rcases hs with ⟨o, hs⟩ | ⟨o, its, n, hk, hc, _⟩
    · exact .base (.frz hs)
    · exact .kList hk hc
  | loc n =>
    obtain ⟨a, rfl, hn⟩ := r
    simp only [tyN] at h
    split at h
    · rename_i ds e
      cases h
      obtain ⟨a', o, e1, e2, vs, rfl, hr⟩ := s.at' _ _ e
      rw [hn] at e1; cases e1
      exact .base (.lst e2)
    · rename_i kvs e
      cases h
      obtain ⟨a', o, e1, e2, gs, rfl, hk, hr⟩ := s.at' _ _ e
      rw [hn] at e1; cases e1
      exact .base (.dK e2)
    · rename_i od kvs e
      cases h
      obtain ⟨a', o, e1, e2, gs, rfl, hk, hr⟩ := s.at' _ _ e
      rw [hn] at e1; cases e1
      exact .fDict e2
    · cases h
  | _ => cases h
end
/-- the classes as written: built-in types' names -/
def dIsi (ta : DTE) (Ts : List String) : DTE := fun ρ st Q Z => ta ρ st (fun x st1 => match tyN st1 x with | some a => Q (.bl (Ts.any (tySub a))) st1 | none => False) Z
section
variable {X : Cx} {W : WX} {e c c1 c2 : Expr} {es : List Expr} {ta : DTE} {pos p tpos : Pos} {T T1 T2 : String}
theorem de_isi (hg : Gl X "isinstance") (hm : X.mg "isinstance" = none) (ha : DE X W e ta) (hc : PE X c (tC (.ty T))) (hT : T ∈ ["bool", "int", "str", "tuple", "list", "dict"] := by decide)
    (hs1 : starEach [e, c] X.env = (false, eval e X.env) :: starEach [c] X.env := by rfl) (hs2 : starEach [c] X.env = (false, eval c X.env) :: starEach [] X.env := by rfl) (hpl : (backTo pos (starEach [c] X.env)).any (·.1) = false := by rfl) :
    DE X W (.Call (.Name "isinstance" p) [e, c] [] pos) (dIsi ta [T]) :=
  pe_weak (pe_callB call_isi hg hm PyProof.Rows.boot_isinstance (pa_cons ha (pa_cons hc pa_nil hs2) hs1) (by decide) (by decide) hs1 hpl) fun σ H Q ⟨ρ, st, μ, Qd, Z, hS, ht, hQ, hZ⟩ =>
    ⟨ρ, st, μ, _, Z, hS, ht, fun x st1 H1 μ1 v hx e1 s1 rv => by
      dsimp only at hx
      split at hx
      · rename_i a ea
        have h1 := kitB_ok a (tyN_mem ea) T hT
        have h2 : ([T].any (tySub a)) = tySub a T := by simp
        rw [h2] at hx
        exact ⟨v, .ty T, .type a, .type T, tySub a T, rfl, .ty T, tyN_ok s1 rv ea, kit_ty h1, hQ _ _ _ _ _ hx e1 s1 rfl⟩
      · exact hx.elim, hZ⟩
/-- a built-in type's name, a built-in as a value -/
theorem pe_ty {x : Str} (hg : Gl X x) (hm : X.mg x = none) (hv : bootBuiltins x = some (.type T)) (hn : x ≠ "__name__" := by decide) (hd : (x == ("__debug__" : Str)) = false := by decide) : PE X (.Name x pos) (tC (.ty T)) := pe_bltn hg hm hv rfl hn hd
end
end DL
namespace DL
open PySem L2 PySem.Spec
open PyProof.Rows hiding St
open PySem.W (AllAlike Sortable dataLe EachIs)
variable [TC : TabCtx]
section
variable {K : PySem.W.Frag} {H : Hp} {μ : List Addr} {st : Sto}
omit TC in
theorem sort_map {α β : Type} (f : α → β) (k : β → PyData) (ts : List α) : (ts.map f).mergeSort (dataLe false k) = (ts.mergeSort (dataLe false fun t => k (f t))).map f :=
  by
  refine (List.map_mergeSort (f := f) (l := ts) (fun _ _ _ _ => ?_)).symm
  rfl
end
end DL
namespace DL
open PySem L2 PySem.Spec
open PyProof.Rows hiding St
open PySem.W (AllAlike Sortable dataLe EachIs)
end DL
namespace DL
open PySem L2 PySem.Spec
open PyProof.Rows hiding St
variable [TC : TabCtx]
section
variable {K : PySem.W.Frag} {H : Hp} {μ : List Addr} {st : Sto}
theorem reps_ints : ∀ {is : List Int} {vs : List V}, Reps K H μ (is.map D.int) vs → vs = is.map V.int
  | [], _, r => r
  | i :: is, _, r => by
    obtain ⟨v, rs, rfl, r1, r2⟩ := r
    rw [show v = _ from r1, reps_ints r2]
    rfl
end
end DL
namespace DL
open PySem L2 PySem.Spec
open PyProof.Rows hiding St
variable [TC : TabCtx]
def alike2 (d e : PyData) : Prop := PySem.W.alike d d = true ∧ PySem.W.alike d e = true ∧ PySem.W.alike e d = true ∧ PySem.W.alike e e = true
def dMax2 : DN := fun ds st Q => match ds with
  | [x, y] => ∃ n d e, pdF st n x = some d ∧ pdF st n y = some e ∧ alike2 d e ∧ d ≠ .none ∧ e ≠ .none ∧ d.depth ≤ 60 ∧ e.depth ≤ 60 ∧ Q (if PySem.W.dataLt d e = true then y else x) st
  | _ => False
end DL
namespace DL
open PySem L2 PySem.Spec
open PyProof.Rows hiding St
variable [TC : TabCtx]
set_option maxHeartbeats 1000000 in
theorem meets_enum1 {v : Value} {o : Obj} {H : Heap → Prop} (B : Begins v o H) :
    Meets (Builtin.«enumerate.__new__» ⟨[.type "enumerate", v], []⟩) (fun _ R s => H s.heap ∧
      R (.ok (.ret (.ref (s.heap.push o).objs.size))) { s with heap := (s.heap.push o).push { cls := .type "enumerate", data := .fields #[.none, .bool false, .ref s.heap.objs.size, rawInt 0, .none, .none] } }) :=
  .of_wp fun prog w A R s h => by
    obtain ⟨hp, g, d, tk, os⟩ := s
    obtain ⟨h1, h⟩ := h
    have hsub := sub_enumerate
    have q1 : ∀ {A' : Around} {E : Value → Shared → Prop} {Q : Value → Shared → Prop}, Q (.ref hp.objs.size) ⟨hp.push o, g, d, tk, os⟩ → wpAny (model prog w) A' (pyIter v) Q E ⟨hp, g, d, tk, os⟩ :=
      fun q => B.iter prog w _ _ ⟨hp, g, d, tk, os⟩ _ h1 q
    wp_walk using q1
    refine wpAny_stack_any fun st => wpAny_pure ?_
    split
    · rename_i c _ _ _ _ _
      cases (c == Value.type "enumerate") <;> (wp_walk using q1; exact ⟨_, rfl, h⟩)
    · wp_walk using q1
      exact ⟨_, rfl, h⟩
section
variable {prog : Program} {w : World} {A : Around} {E : Value → Shared → Prop} {s : Shared}
theorem enum_begins1 {v : Value} {o : Obj} {H : Heap → Prop} {Q : Value → Shared → Prop} (B : Begins v o H) (h1 : H s.heap)
    (h : ∀ h', IsEnum h' (s.heap.objs.size + 1) s.heap.objs.size 0 .none → h'.get? s.heap.objs.size = some o → h'.objs.size = s.heap.objs.size + 2 → (∀ b o, s.heap.get? b = some o → h'.get? b = some o) → Q (.ref (s.heap.objs.size + 1)) { s with heap := h' }) :
    wpAny (model prog w) A (call (.type "enumerate") [v]) Q E s := by
  refine callType_new PySem.F.called_enumerate (by decide) (PySem.F.typeCall_enumerate_1 _) (PySem.F.newCall_enumerate_1 _) (fun obj => PySem.F.args_object_init_2 obj _) PySem.F.entry_enumerate_new (meets_enum1 B) ⟨h1, ?_⟩
  have hz : (s.heap.push o).objs.size = s.heap.objs.size + 1 := Heap.size_push ..
  show _ ∧ _
  rw [hz]
  have he : IsEnum ((s.heap.push o).push { cls := .type "enumerate", data := .fields #[.none, .bool false, .ref s.heap.objs.size, rawInt 0, .none, .none] }) (s.heap.objs.size + 1) s.heap.objs.size 0 .none := by
    have := Heap.get?_push_size (s.heap.push o) (o := { cls := .type "enumerate", data := .fields #[.none, .bool false, .ref s.heap.objs.size, rawInt 0, .none, .none] }) rfl
    rw [hz] at this
    exact this
  exact ⟨⟨_, he, rfl⟩, h _ he (Heap.get?_push_of_some _ (Heap.get?_push_size _ B.free)) (by rw [Heap.size_push, hz]) fun b o x => Heap.get?_push_of_some _ (Heap.get?_push_of_some _ x)⟩
end
/-- the tuple at a, each item in a new pair -/
def IteT (K : PySem.W.Frag) (a : Addr) : It :=
  ⟨fun i H => ∃ (xs : List V) (x : V), SqT K H a xs ∧ xs[i]? = some x, fun i H v H' => ∃ T x, v = .ref T ∧ H T = none ∧ H' = upd H T (.tup [.int (i : Nat), x]) ∧ ∀ xs, SqT K H a xs → xs[i]? = some x, fun i H => ∃ xs : List V, SqT K H a xs ∧ xs.length = i⟩
theorem turn_enumT {P : Program} {w : World} {K : PySem.W.Frag} {elts : List Expr} {kk : Nat} {tpos : Pos} (a e it : Addr) :
    Turn P w K (.Tuple elts kk tpos) (IteT K a) [e, it] e (fun i h => (∃ old, IsEnum h e it ((i : Nat) : Int) old) ∧ h.IsTupleIter it a i ∧ e ≠ it ∧ a ≠ it ∧ e ≠ a) where
  mem := by simp
  obj := fun i h st b hb => by
    obtain ⟨⟨old, he⟩, ⟨o, ho, hc, hd⟩, _⟩ := st
    have e' : b = e ∨ b = it := by simpa using hb
    rcases e' with z | z
    · rw [z]; exact ⟨_, he, fun v q => nomatch q⟩
    · rw [z]; exact ⟨o, ho, fun v q => by rw [hd] at q; cases q⟩
  keep := fun i h h' st k => let ⟨⟨old, he⟩, hi, hne⟩ := st; ⟨⟨old, k e (by simp) _ he⟩, hi.at fun o q => k it (by simp) o q, hne⟩
  item := by
    intro X hP hw hK hc i pins s σ H E I hf st hg
    subst hP hw hK
    obtain ⟨⟨old, he⟩, hit, hne, hai, hea⟩ := st
    obtain ⟨xs, x, hq, hx⟩ := hg
    obtain ⟨its, rv, p, hz⟩ := I.tuple hq
    obtain ⟨u, hu, ru⟩ := rv.get hx
    have hel : e < s.heap.objs.size := Heap.lt_size he
    have hil : it < s.heap.objs.size := by obtain ⟨_, q, _⟩ := hit; exact Heap.lt_size q
    have pt : s.heap.IsTuple a its.toArray := p
    have hlt : i < its.toArray.size := by
      have := (List.getElem?_eq_some_iff.mp hu).1
      simpa using this
    refine wpAny_pyNext_enum_itemD (Draws.tuple (A := X.A.in1) (I.ok.hd hc) it a hai its.toArray) he ⟨hit, pt⟩ hlt hne (by simp [hne, hea]) fun y h' tk hy ho hst hT hsz hk => ?_
    have hyu : y = u := by
      have h2 : its.toArray[i]? = some y := hy
      have h3 : its.toArray[i]? = some u := by simpa using hu
      rw [h2] at h3
      exact Option.some.inj h3
    subst hyu
    refine ⟨_, rfl, wpAny_letOwnedTupleGo_enum (s := { s with heap := h', toks := tk + 1 }) ho fun h'' he' sb => ?_⟩
    have hT2 : h''.get? s.heap.objs.size = some { cls := .type "tuple", data := .seq #[.int i tk, y] } := (sb.2 _ (Nat.ne_of_gt hel)).trans hT
    have new : ObjOk X.prog X.w (upd H s.heap.objs.size (.tup [.int (i : Nat), x])) h'' s.heap.objs.size (.tup [.int (i : Nat), x]) :=
      ⟨by show 2 ≤ sizeLine; decide, [.int i tk, y], .cons ⟨_, rfl⟩ (.cons ru .nil), ⟨_, hT2, rfl, _, rfl⟩⟩
    have I1 : Inv X pins σ (upd H s.heap.objs.size (.tup [.int (i : Nat), x])) { s with heap := h'', toks := tk + 1 } :=
      I.turnedNew (t' := tk + 1) (ch := [e, it]) (fun b ob hb q => (sb.2 b (fun z => hb (by simp [z]))).trans (hk b ob (fun z => hb (by simp [z])) (fun z => hb (by simp [z])) q)) hf (Nat.le_refl _) new
    refine ⟨.ref s.heap.objs.size, _, I1, rfl, ⟨_, x, rfl, I.hok.fresh (Nat.le_refl _), rfl, fun ys hy => by rw [I.tuple_inj hy hq]; exact hx⟩, ⟨⟨y, ?_⟩, hst.1.at fun o q => (sb.2 it (Ne.symm hne)).trans q, hne, hai, hea⟩, fun b hb => ?_⟩
    · have e1 : ((i + 1 : Nat) : Int) = (i : Int) + 1 := by omega
      rw [e1]; exact he'
    · have hb' : b < s.heap.objs.size := by
        have e' : b = e ∨ b = it := by simpa using hb
        rcases e' with z | z
        · rw [z]; exact hel
        · rw [z]; exact hil
      rw [upd_ne (Nat.ne_of_lt hb')]
      exact (hf b hb).1
  done := by
    intro X hP hw hK hc i pins s σ H E I hf st hg
    subst hP hw hK
    obtain ⟨⟨old, he⟩, hit, hne, hai, hea⟩ := st
    obtain ⟨xs, hq, hx⟩ := hg
    obtain ⟨its, rv, p, hz⟩ := I.tuple hq
    obtain ⟨f0, f1, f2, f3, f4, f5⟩ := hf it (by simp)
    have pt : s.heap.IsTuple a its.toArray := p
    have hn : its.toArray.size = i := by rw [List.size_toArray, ← rv.length]; exact hx
    refine wpAny_pyNext_enum_endD (Draws.tuple (A := X.A.in1) (I.ok.hd hc) it a hai its.toArray) he ⟨by rw [hn]; exact hit, pt⟩ fun h' eb => ⟨rfl, I.turned (t' := s.toks) (fun b o hb q => eb b o hb q) f0 f1 f3 f4 f5⟩
  self := fun A i s Q E st h => let ⟨⟨_, he⟩, _⟩ := st; wpAny_pyIter_enum he h
def iEnumA (K : PySem.W.Frag) (ta : TA) : TI := fun σ H R => ta σ H fun vs H1 => ∃ a, vs = [.ref a] ∧ (((∃ xs, SqL K H1 a xs) ∧ R (Ite K a) H1) ∨ ((∃ xs, SqT K H1 a xs) ∧ R (IteT K a) H1))
section
variable {X : Cx} {W : WX} {e : Expr} {p pos tpos : Pos} {elts : List Expr} {kk : Nat}
theorem pi_enumA {ta : TA} (hg : Gl X "enumerate") (hm : X.mg "enumerate" = none) (ha : PA X [e] ta) (hs : starEach [e] X.env = [(false, eval e X.env)] := by rfl) :
    PI X (.Tuple elts kk tpos) (.Call (.Name "enumerate" p) [e] [] pos) (iEnumA X.K ta) := by
  refine ⟨fun pins s σ H R I h => ?_⟩
  refine Call_ (ld_blt I hg hm boot_enumerate (PyProof.Rows.callWith_type1 (thn (ha.run pos pins s σ H _ I h) fun us s1 ⟨vs, H1, I1, r1, q1⟩ => ?_) hs rfl))
  obtain ⟨a, rfl, q1⟩ := q1
  rw [Vals.ref1 r1]
  have fresh2 : ∀ b, b ∈ [s1.heap.objs.size + 1, s1.heap.objs.size] → FpOk X pins H1 b := fun b hb => by
    have e' : b = s1.heap.objs.size + 1 ∨ b = s1.heap.objs.size := by simpa using hb
    have hle : s1.heap.objs.size ≤ b := by
      rcases e' with z | z
      · rw [z]; exact Nat.le_add_right _ _
      · rw [z]; exact Nat.le_refl _
    exact I1.fpOk hle (I1.hok.fresh hle)
  rcases q1 with ⟨⟨xs, hq⟩, q⟩ | ⟨⟨xs, hq⟩, q⟩
  · obtain ⟨its, rv, p', hz⟩ := I1.list hq
    refine call_enumerate_list p'.isList fun h' he hit hsz hk => wpAny_pyIter_enum he ?_
    exact ⟨s1.heap.objs.size + 1, [s1.heap.objs.size + 1, s1.heap.objs.size], _, _, H1, rfl, (I1.kept (t' := s1.toks) hk : Inv X pins σ H1 { s1 with heap := h' }), turn_enum a (s1.heap.objs.size + 1) s1.heap.objs.size, ⟨⟨.none, he⟩, hit, Nat.succ_ne_self _⟩, fresh2, q⟩
  · obtain ⟨its, rv, p', hz⟩ := I1.tuple hq
    have pt : s1.heap.IsTuple a its.toArray := p'
    have hlt : a < s1.heap.objs.size := by obtain ⟨_, q, _⟩ := pt; exact Heap.lt_size q
    refine enum_begins1 (begins_tuple a its.toArray) pt fun h' he hit hsz hk => wpAny_pyIter_enum he ?_
    exact ⟨s1.heap.objs.size + 1, [s1.heap.objs.size + 1, s1.heap.objs.size], _, _, H1, rfl, (I1.kept (t' := s1.toks) hk : Inv X pins σ H1 { s1 with heap := h' }), turn_enumT a (s1.heap.objs.size + 1) s1.heap.objs.size, ⟨⟨.none, he⟩, ⟨_, hit, rfl, rfl⟩, Nat.succ_ne_self _, Nat.ne_of_lt hlt, Nat.ne_of_gt (Nat.lt_succ_of_lt hlt)⟩, fresh2, q⟩
end
def enumItems (ds : List D) : List D := ds.mapIdx fun i d => .tup [.int (i : Nat), d]
theorem enumItems_get {ds : List D} {i : Nat} {y : D} (h : (enumItems ds)[i]? = some y) : ∃ d, ds[i]? = some d ∧ y = .tup [.int (i : Nat), d] := by
  unfold enumItems at h
  rw [List.getElem?_mapIdx, Option.map_eq_some_iff] at h
  obtain ⟨d, h1, h2⟩ := h
  exact ⟨d, h1, h2.symm⟩
section
variable {K : PySem.W.Frag} {H : Hp} {μ : List Addr} {st : Sto}
theorem pair_laid {i : Int} {d : D} {x : V} {T : Addr} (s : SRep K st μ H) (r : Rep K H μ d x) (hT : H T = none) :
    Ext H (upd H T (.tup [.int i, x])) μ μ ∧ SRep K st μ (upd H T (.tup [.int i, x])) ∧ Rep K (upd H T (.tup [.int i, x])) μ (.tup [.int i, d]) (.ref T) ∧ (∀ b o, H b = some o → upd H T (.tup [.int i, x]) b = some o) :=
  ⟨Ext.laid hT, s.laid hT, ⟨T, [.int i, x], rfl, .inl (.inl upd_same), ⟨_, _, rfl, rfl, ⟨_, _, rfl, r.mono (Ext.laid hT), rfl⟩⟩⟩, fun b o q => by rw [upd_ne (ne_of_none q hT)]; exact q⟩
theorem ItRep.enumT {a : Addr} {ds : List D} {vs : List V} (hs : SqT K H a vs) (hr : Reps K H μ ds vs) : ItRep K (IteT K a) (enumItems ds) (fun _ => True) H μ where
  go i H1 μ1 st y x s _ e := by
    obtain ⟨d, hd, rfl⟩ := enumItems_get e
    obtain ⟨v, hv, rv⟩ := (hr.mono x).get hd
    refine ⟨⟨vs, v, x.sqT hs, hv⟩, fun y H' hy => ?_⟩
    obtain ⟨T, z, rfl, hT, rfl, hz⟩ := hy
    have := hz vs (x.sqT hs)
    rw [hv] at this; cases this
    exact pair_laid s rv hT
  stop H1 μ1 st x s _ := ⟨vs, x.sqT hs, by simp [enumItems, hr.length]⟩
theorem ItRep.enumF {a : Addr} {ds : List D} {vs : List V} (hs : FzL K H a vs) (hr : Reps K H μ ds vs) : ItRep K (Ite K a) (enumItems ds) (fun _ => True) H μ where
  go i H1 μ1 st y x s _ e := by
    obtain ⟨d, hd, rfl⟩ := enumItems_get e
    obtain ⟨v, hv, rv⟩ := (hr.mono x).get hd
    refine ⟨⟨vs, v, (x.fzL hs).sq, hv⟩, fun y H' hy => ?_⟩
    obtain ⟨T, z, rfl, hT, rfl, hz⟩ := hy
    have := hz vs (x.fzL hs).sq
    rw [hv] at this; cases this
    exact pair_laid s rv hT
  stop H1 μ1 st x s _ := ⟨vs, (x.fzL hs).sq, by simp [enumItems, hr.length]⟩
theorem ItRep.enumL {a : Addr} {n : Nat} {ds : List D} (hn : μ[n]? = some a) : ItRep K (Ite K a) (enumItems ds) (fun st => st[n]? = some (.lst ds)) H μ where
  go i H1 μ1 st y x s g e := by
    obtain ⟨d, hd, rfl⟩ := enumItems_get e
    obtain ⟨a', o, e1, e2, vs, rfl, hr⟩ := s.at' _ _ g
    rw [x.pre n a hn] at e1; cases e1
    obtain ⟨v, hv, rv⟩ := hr.get hd
    refine ⟨⟨vs, v, .inl (.inl e2), hv⟩, fun y H' hy => ?_⟩
    obtain ⟨T, z, rfl, hT, rfl, hz⟩ := hy
    have := hz vs (.inl (.inl e2))
    rw [hv] at this; cases this
    exact pair_laid s rv hT
  stop H1 μ1 st x s g := by
    obtain ⟨a', o, e1, e2, vs, rfl, hr⟩ := s.at' _ _ g
    rw [x.pre n a hn] at e1; cases e1
    exact ⟨vs, .inl (.inl e2), by simp [enumItems, hr.length]⟩
end
/-- enumerate(x) -/
def enumD (st : Sto) : D → (List D → (Sto → Prop) → Prop) → Prop
  | .tup ds, Q => Q (enumItems ds) fun _ => True
  | .fls ds, Q => Q (enumItems ds) fun _ => True
  | .loc n, Q => ∃ ds, st[n]? = some (.lst ds) ∧ Q (enumItems ds) fun st => st[n]? = some (.lst ds)
  | _, _ => False
def iEn (ta : DTA) : DTI := fun ρ st Q Z => ta ρ st (fun xs st1 => match xs with | [x] => enumD st1 x fun items G => Q items G st1 | _ => False) Z
section
variable {X : Cx} {W : WX} {e : Expr} {t : DTA} {p pos tpos : Pos} {elts : List Expr} {kk : Nat}
theorem di_enum (hg : Gl X "enumerate") (hm : X.mg "enumerate" = none) (ha : DA X W [e] t) (hs : starEach [e] X.env = [(false, eval e X.env)] := by rfl) : DI X W (.Tuple elts kk tpos) (.Call (.Name "enumerate" p) [e] [] pos) (iEn t) :=
  pi_weak (pi_enumA hg hm ha hs) fun σ H R ⟨ρ, st, μ, Qd, Z, hS, ht, hZ, hk⟩ => ⟨ρ, st, μ, _, Z, hS, ht, fun ds st1 H1 μ1 vs hx e1 s1 rv => by
    match ds, rv, hx with
    | [x], rv, hx =>
      obtain ⟨v, rfl, rx⟩ := reps1 rv
      cases x with
      | tup ds =>
        obtain ⟨a, vs, rfl, hs, hr⟩ := rx
        exact ⟨a, rfl, .inr ⟨⟨vs, hs⟩, hk _ _ _ _ _ _ hx e1 s1 (ItRep.enumT hs hr)⟩⟩
      | fls ds =>
        obtain ⟨a, vs, rfl, hs, hr⟩ := rx
        exact ⟨a, rfl, .inl ⟨⟨vs, hs.sq⟩, hk _ _ _ _ _ _ hx e1 s1 (ItRep.enumF hs hr)⟩⟩
      | loc n =>
        obtain ⟨a, rfl, hn⟩ := rx
        obtain ⟨ds, hds, q⟩ := hx
        obtain ⟨a', o, q1, q2, vs, rfl, hr⟩ := s1.at' _ _ hds
        rw [hn] at q1; cases q1
        exact ⟨a, rfl, .inl ⟨⟨vs, .inl (.inl q2)⟩, hk _ _ _ _ _ _ q e1 s1 (ItRep.enumL hn)⟩⟩
      | _ => exact (show False from hx).elim, hZ⟩
end
end DL
namespace DL
open PySem L2 PySem.Spec
open PyProof.Rows hiding St
variable [TC : TabCtx]
def dRev (te : DTE) : DTE := fun ρ st Q Z => te ρ st (fun x st1 => match x with
  | .tup ds => Q (.tup ds.reverse) st1
  | x => ∃ ds, itemsD st1 x = some ds ∧ Q (.loc st1.length) (st1 ++ [.lst ds.reverse])) Z
def zipItems (ds es : List D) : List D := List.zipWith (fun a b => .tup [a, b]) ds es
def iZp (ta : DTA) : DTI := fun ρ st Q Z => ta ρ st (fun xs st1 => match xs with | [.tup ds, .tup es] => Q (zipItems ds es) (fun _ => True) st1 | _ => False) Z
end DL
namespace DL
open PySem L2 PySem.Spec
open PyProof.Rows hiding St
variable [TC : TabCtx]
section
variable {X : Cx} {W : WX} {a e : Expr} {ta : DTE} {pos p : Pos} {x : Str}
/-- -a -/
def dNegV : D → Sto → DK → Prop := fun x st Q => match x with | .int i => Q (.int (-i)) st | _ => False
theorem de_neg (ha : DE X W a ta) : DE X W (.UnaryOp .USub a pos) (dUn dNegV ta) := de_un un_neg (fun {H μ st x v Qd Q} s r h hQ => by
  cases x <;> first | exact (show False from h).elim | skip
  exact ⟨_, r, hQ _ _ _ _ _ h (Ext.refl _ _) s rfl⟩) ha
/-- {} -/
def dDict0 : DTE := fun _ st Q _ => Q (.loc st.length) (st ++ [.dK []])
/-- a constant of the module -/
def Cst (K : PySem.W.Frag) (mg : Str → Option Value) (x : Str) (d : D) : Prop := ∃ v u, mg x = some u ∧ RelV v u ∧ ∀ H μ, Rep K H μ d v
theorem de_cst {d : D} (hg : Gl X x) (h : Cst X.K X.mg x d) (hd : (x == ("__debug__" : Str)) = false := by decide) : DE X W (.Name x pos) (dC d) := by
  obtain ⟨v, u, hm, r, hr⟩ := h
  exact de_c (pe_glob hg hm r hd) hr
end
mutual
/-- a datum of the written part -/
def KRep (K : PySem.W.Frag) : D → Value → Prop
  | .non, u => u = .none
  | .bl b, u => u = .bool b
  | .int i, u => ∃ t, u = .int i t
  | .str x, u => ∃ t, u = .str x t
  | .tup ds, u => ∃ (a : Addr) (o : Obj) (us : Array Value) (n : Nat), u = .ref a ∧ K.lookup a = some o ∧ o.cls = .type "tuple" ∧ o.data = .seq us n ∧ us.size ≤ sizeLine ∧ KReps K ds us.toList
  | _, _ => False
def KReps (K : PySem.W.Frag) : List D → List Value → Prop
  | [], us => us = []
  | d :: ds, us => ∃ u r, us = u :: r ∧ KRep K d u ∧ KReps K ds r
end
mutual
theorem KRep.rep {K : PySem.W.Frag} : ∀ {d : D} {u : Value}, KRep K d u → ∃ v, RelV v u ∧ ∀ H μ, Rep K H μ d v
  | .non, _, h => by subst h; exact ⟨.non, rfl, fun _ _ => rfl⟩
  | .bl b, _, h => by subst h; exact ⟨.bl b, rfl, fun _ _ => rfl⟩
  | .int i, _, h => by obtain ⟨t, rfl⟩ := h; exact ⟨.int i, ⟨t, rfl⟩, fun _ _ => rfl⟩
  | .str x, _, h => by obtain ⟨t, rfl⟩ := h; exact ⟨.str x, ⟨t, rfl⟩, fun _ _ => rfl⟩
  | .tup ds, _, h => by
    obtain ⟨a, o, us, n, rfl, h1, h2, h3, h4, h5⟩ := h
    obtain ⟨vs, r1, r2⟩ := KReps.reps h5
    exact ⟨.ref a, rfl, fun H μ => ⟨a, vs, rfl, .inr ⟨o, us, n, h1, h2, h3, h4, r1⟩, r2 H μ⟩⟩
  | .fls _, _, h => h.elim
  | .loc _, _, h => h.elim
  | .adr _, _, h => h.elim
  | .ty _, _, h => h.elim
theorem KReps.reps {K : PySem.W.Frag} : ∀ {ds : List D} {us : List Value}, KReps K ds us → ∃ vs, Vals vs us ∧ ∀ H μ, Reps K H μ ds vs
  | [], _, h => by subst h; exact ⟨[], .nil, fun _ _ => rfl⟩
  | d :: ds, _, h => by
    obtain ⟨u, r, rfl, h1, h2⟩ := h
    obtain ⟨v, r1, r2⟩ := KRep.rep h1
    obtain ⟨vs, q1, q2⟩ := KReps.reps h2
    exact ⟨v :: vs, .cons r1 q1, fun H μ => ⟨v, vs, rfl, r2 H μ, q2 H μ⟩⟩
end
theorem Cst.of {K : PySem.W.Frag} {mg : Str → Option Value} {x : Str} {d : D} {u : Value} (h : mg x = some u) (r : KRep K d u) : Cst K mg x d := by
  obtain ⟨v, r1, r2⟩ := r.rep
  exact ⟨v, u, h, r1, r2⟩
end DL
namespace DL
open PySem L2 PySem.Spec
open PyProof.Rows hiding St
variable [TC : TabCtx]
/-- a reading serves a promise -/
def Rd (n : Nat) (dsp : DSp) (t : DTS) (N : List Str) : Prop :=
  ∀ ds st Q Z, ds.length = n → dsp ds st Q Z → t { nx := fun _ st1 => Back st Q .non st1, rt := Back st Q, xs := fun x _ st1 => BackX st Z x st1 } (startD N ds) st
section
variable {P : Program} {w : World} {K : PySem.W.Frag} {mg : Str → Option Value} {base : Heap} {k n : Nat} {x : Str} {s : Stmt} {N ps : List Str} {dsp : DSp} {c : Addr}
variable {h : Heap}
theorem def_mk {f : Addr} {oc : Value} {od an : Option Addr} {osl : Array (Option Value)} {kV doc pm cdv ct : Value} (KX : K.In h) (G : h.Ns mainGlobals mg) (a : PySem.W.nsIn K mainGlobals x = some (some (.ref f)))
    (l : K.lookup f = some ⟨oc, od, .func (PySem.W.fnOf x x (defArgs s) (defBody s) (defScope s) .none kV doc pm an cdv ct), osl⟩) (cd : PySem.W.codeIn K cdv x = true) (kp : PySem.W.keepIn K (.ref f) = true)
    (hb : ∀ (kV doc pm : Value) (an : Option Addr) (cdv ct : Value) (us : List Value), us.length = ps.length → bindArgs (PySem.W.fnOf x x (defArgs s) (defBody s) (defScope s) .none kV doc pm an cdv ct) ⟨us, []⟩ = pure (ps.zip us)) : DefIn K mg x s ps := by
  have F := fun_mk (st := s) l cd kp
  exact ⟨f, _, F, PySem.W.mg_of KX G a, F.binds hb⟩
end
end DL
namespace DL
open PySem L2 PySem.Spec
open PyProof.Rows hiding St
section
variable {i j : Nat} {ρ : Env'} {st : Sto} {Q : DK} {Z : DZ} {d x y z : D} {ds es : List D} {te ta tb tc : DTE} {t u : DTA} {c c' : DTT} {QT : Bool → Sto → Prop} {QA : List D → Sto → Prop} {E : DEnds} {s r : DTS}
@[simp] theorem s_var : dVar i ρ st Q Z = (match ρ[i]? with | some (some d) => Q d st | _ => False) := rfl
@[simp] theorem s_c : dC d ρ st Q Z = Q d st := rfl
@[simp] theorem s_op {dr : D2} : dOp dr ta tb ρ st Q Z = ta ρ st (fun x st1 => tb ρ st1 (fun y st2 => dr x y st2 Q) Z) Z := rfl
@[simp] theorem s_un {f : D → Sto → DK → Prop} : dUn f ta ρ st Q Z = ta ρ st (fun x st1 => f x st1 Q) Z := rfl
@[simp] theorem s_test : dTest ta ρ st QT Z = ta ρ st (fun x st1 => match x with | .bl b => QT b st1 | _ => False) Z := rfl
@[simp] theorem s_chain {r r' : D2} : dChain r r' ta tb tc ρ st Q Z = ta ρ st (fun x st1 => tb ρ st1 (fun y st2 => r x y st2 fun z st3 => match z with
  | .bl k => if k = true then tc ρ st3 (fun w st4 => r' y w st4 Q) Z else Q (.bl false) st3
  | _ => False) Z) Z := rfl
@[simp] theorem s_tru_non {Qb : Bool → Prop} : truD st .non Qb = Qb false := rfl
@[simp] theorem s_tru_bl {b : Bool} {Qb : Bool → Prop} : truD st (.bl b) Qb = Qb b := rfl
@[simp] theorem s_tru_int {b : Int} {Qb : Bool → Prop} : truD st (.int b) Qb = Qb (b != 0) := rfl
@[simp] theorem s_tru_tup {Qb : Bool → Prop} : truD st (.tup ds) Qb = Qb (!ds.isEmpty) := rfl
@[simp] theorem s_tru_fls {Qb : Bool → Prop} : truD st (.fls ds) Qb = Qb (!ds.isEmpty) := rfl
@[simp] theorem s_tru_loc {n : Nat} {Qb : Bool → Prop} : truD st (.loc n) Qb = (match st[n]? with | some (.lst ds) => Qb (!ds.isEmpty) | some (.dK kvs) => Qb (!kvs.isEmpty) | _ => False) := rfl
@[simp] theorem s_tru : dTru ta ρ st QT Z = ta ρ st (fun x st1 => truD st1 x fun b => QT b st1) Z := rfl
@[simp] theorem s_not : dNot c ρ st QT Z = c ρ st (fun b st1 => QT (!b) st1) Z := rfl
@[simp] theorem s_and : dAnd c c' ρ st QT Z = c ρ st (fun b st1 => if b = true then c' ρ st1 QT Z else QT false st1) Z := rfl
@[simp] theorem s_or : dOr c c' ρ st QT Z = c ρ st (fun b st1 => if b = true then QT true st1 else c' ρ st1 QT Z) Z := rfl
@[simp] theorem s_if : dIf c ta tb ρ st Q Z = c ρ st (fun k st1 => if k = true then ta ρ st1 Q Z else tb ρ st1 Q Z) Z := rfl
@[simp] theorem s_andV : dAndV ta tb ρ st Q Z = ta ρ st (fun x st1 => truD st1 x fun k => if k = true then tb ρ st1 Q Z else Q x st1) Z := rfl
@[simp] theorem s_orV : dOrV ta tb ρ st Q Z = ta ρ st (fun x st1 => truD st1 x fun k => if k = true then Q x st1 else tb ρ st1 Q Z) Z := rfl
@[simp] theorem s_notV : dNotV ta ρ st Q Z = ta ρ st (fun x st1 => truD st1 x fun k => Q (.bl (!k)) st1) Z := rfl
@[simp] theorem s_nil : dNil ρ st QA Z = QA [] st := rfl
@[simp] theorem s_cons : dCons ta t ρ st QA Z = ta ρ st (fun x st1 => t ρ st1 (fun xs st2 => QA (x :: xs) st2) Z) Z := rfl
@[simp] theorem s_dtup : dTup t ρ st Q Z = t ρ st (fun xs st1 => xs.length ≤ sizeLine ∧ Q (.tup xs) st1) Z := rfl
@[simp] theorem s_dlst : dLst t ρ st Q Z = t ρ st (fun xs st1 => xs.length ≤ sizeLine ∧ Q (.loc st1.length) (st1 ++ [.lst xs])) Z := rfl
@[simp] theorem s_dict0 : dDict0 ρ st Q Z = Q (.loc st.length) (st ++ [.dK []]) := rfl
@[simp] theorem s_cb {dr : DN} : dCB dr t ρ st Q Z = t ρ st (fun xs st1 => dr xs st1 Q) Z := rfl
@[simp] theorem s_bm {T : String} {dm : DM} : dBM T dm ta t ρ st Q Z = ta ρ st (fun x st1 => tyD st1 T x ∧ t ρ st1 (fun xs st2 => dm x xs st2 Q) Z) Z := rfl
@[simp] theorem s_call {n : Nat} {dsp : DSp} : dCall n dsp t ρ st Q Z = t ρ st (fun ds st1 => ds.length = n ∧ dsp ds st1 Q fun x st2 => Z x ρ st2) Z := rfl
@[simp] theorem s_isi {Ts : List String} : dIsi ta Ts ρ st Q Z = ta ρ st (fun x st1 => match tyN st1 x with | some a => Q (.bl (Ts.any (tySub a))) st1 | none => False) Z := rfl
@[simp] theorem s_sl {tl th : DTO} : dSl ta tl th ρ st Q Z = ta ρ st (fun x st1 => tl ρ st1 (fun l st2 => th ρ st2 (fun u st3 => dSlV x l u st3 Q) Z) Z) Z := rfl
@[simp] theorem s_noPart {QO : Option Int → Sto → Prop} : dNoPart ρ st QO Z = QO none st := rfl
@[simp] theorem s_part {QO : Option Int → Sto → Prop} : dPart ta ρ st QO Z = ta ρ st (fun x st1 => match x with | .int i => QO (some i) st1 | _ => False) Z := rfl
@[simp] theorem s_slv_tup {l u : Option Int} : dSlV (.tup ds) l u st Q = Q (.tup (cutL ds l u)) st := rfl
@[simp] theorem s_slv_fls {l u : Option Int} : dSlV (.fls ds) l u st Q = Q (.loc st.length) (st ++ [.lst (cutL ds l u)]) := rfl
@[simp] theorem s_slv_loc {n : Nat} {l u : Option Int} : dSlV (.loc n) l u st Q = ∃ ds, st[n]? = some (.lst ds) ∧ Q (.loc st.length) (st ++ [.lst (cutL ds l u)]) := rfl
@[simp] theorem s_rev : dRev ta ρ st Q Z = ta ρ st (fun x st1 => match x with
  | .tup ds => Q (.tup ds.reverse) st1
  | x => ∃ ds, itemsD st1 x = some ds ∧ Q (.loc st1.length) (st1 ++ [.lst ds.reverse])) Z := rfl
@[simp] theorem s_neg {i : Int} : dNegV (.int i) st Q = Q (.int (-i)) st := rfl
@[simp] theorem s_add_int {i j : Int} : dAdd (.int i) (.int j) st Q = Q (.int (i + j)) st := rfl
@[simp] theorem s_add_str {a b : Str} : dAdd (.str a) (.str b) st Q = (a.length + b.length ≤ sizeLine ∧ Q (.str (a ++ b)) st) := rfl
@[simp] theorem s_add_tup {a b : List D} : dAdd (.tup a) (.tup b) st Q = (a.length + b.length ≤ sizeLine ∧ Q (.tup (a ++ b)) st) := rfl
@[simp] theorem s_add_loc {m n : Nat} : dAdd (.loc m) (.loc n) st Q = ∃ a b, st[m]? = some (.lst a) ∧ st[n]? = some (.lst b) ∧ a.length + b.length ≤ sizeLine ∧ Q (.loc st.length) (st ++ [.lst (a ++ b)]) := rfl
@[simp] theorem s_sub {i j : Int} : dSub (.int i) (.int j) st Q = Q (.int (i - j)) st := rfl
@[simp] theorem s_mul {i j : Int} : dMul (.int i) (.int j) st Q = (CMul i j ∧ Q (.int (i * j)) st) := rfl
@[simp] theorem s_div {i j : Int} : dDiv (.int i) (.int j) st Q = (CDiv i j ∧ Q (.int (i / j)) st) := rfl
@[simp] theorem s_mod {i j : Int} : dMod (.int i) (.int j) st Q = (0 < j ∧ Q (.int (i % j)) st) := rfl
@[simp] theorem s_pow {i j : Int} : dPow (.int i) (.int j) st Q = (CPow i j ∧ Q (.int (i ^ j.toNat)) st) := rfl
@[simp] theorem s_eq_int {f : Bool → Bool} {i j : Int} : dEqB f (.int i) (.int j) st Q = Q (.bl (f (decide (i = j)))) st := rfl
@[simp] theorem s_eq_str {f : Bool → Bool} {i j : Str} : dEqB f (.str i) (.str j) st Q = Q (.bl (f (decide (i = j)))) st := rfl
@[simp] theorem s_eq_bl {f : Bool → Bool} {i j : Bool} : dEqB f (.bl i) (.bl j) st Q = Q (.bl (f (decide (i = j)))) st := rfl
@[simp] theorem s_ord_int {f : Int → Int → Bool} {g : PyData → PyData → Bool} {i j : Int} : dOrd f g (.int i) (.int j) st Q = Q (.bl (f i j)) st := rfl
@[simp] theorem s_is {f : Bool → Bool} : dIsN f x .non st Q = Q (.bl (f (isNonD x))) st := rfl
@[simp] theorem isNon_non : isNonD .non = true := rfl
@[simp] theorem isNon_int {i : Int} : isNonD (.int i) = false := rfl
@[simp] theorem isNon_str {i : Str} : isNonD (.str i) = false := rfl
@[simp] theorem isNon_bl {i : Bool} : isNonD (.bl i) = false := rfl
@[simp] theorem isNon_tup : isNonD (.tup ds) = false := rfl
@[simp] theorem isNon_loc {n : Nat} : isNonD (.loc n) = false := rfl
@[simp] theorem isNon_fls : isNonD (.fls ds) = false := rfl
@[simp] theorem s_ix_tup {i : Int} : dIx (.tup ds) (.int i) st Q = ∃ d, atI ds i = some d ∧ Q d st := rfl
@[simp] theorem s_ix_fls {i : Int} : dIx (.fls ds) (.int i) st Q = ∃ d, atI ds i = some d ∧ Q d st := rfl
@[simp] theorem s_ix_loc {n : Nat} {i : Int} : dIx (.loc n) (.int i) st Q = ∃ ds d, st[n]? = some (.lst ds) ∧ atI ds i = some d ∧ Q d st := rfl
@[simp] theorem s_ix_str {z : Str} {i : Int} : dIx (.str z) (.int i) st Q = ∃ c, z.length ≤ sizeLine ∧ atI z.cps.toList i = some c ∧ Q (.str ⟨#[c]⟩) st := rfl
@[simp] theorem s_len_tup : dLen [.tup ds] st Q = Q (.int ds.length) st := rfl
@[simp] theorem s_len_fls : dLen [.fls ds] st Q = Q (.int ds.length) st := rfl
@[simp] theorem s_len_loc {n : Nat} : dLen [.loc n] st Q = (match st[n]? with | some (.lst ds) => Q (.int ds.length) st | _ => False) := by
  first
    | (simp only [dLen, lenD]; done)
    | (simp only [dLen, lenD]
       cases st[n]? with
       | none => rfl
       | some b => cases b <;> rfl)
@[simp] theorem s_len_str {a : Str} : dLen [.str a] st Q = (a.length ≤ sizeLine ∧ Q (.int a.length) st) := rfl
@[simp] theorem s_abs {i : Int} : dAbs [.int i] st Q = Q (.int (if i < 0 then -i else i)) st := rfl
@[simp] theorem s_int {i : Int} : dInt [.int i] st Q = Q (.int i) st := rfl
@[simp] theorem s_int_bl {b : Bool} : dInt [.bl b] st Q = Q (.int (if b then 1 else 0)) st := rfl
@[simp] theorem s_tupOf : dTupOf [d] st Q = (match itemsD st d with | some es => Q (.tup es) st | none => False) := rfl
@[simp] theorem s_lstOf : dLstOf [d] st Q = (match itemsD st d with | some es => Q (.loc st.length) (st ++ [.lst es]) | none => False) := rfl
@[simp] theorem s_items_tup : itemsD st (.tup ds) = some ds := rfl
@[simp] theorem s_items_fls : itemsD st (.fls ds) = some ds := rfl
@[simp] theorem s_items_loc {n : Nat} : itemsD st (.loc n) = (match st[n]? with | some (.lst ds) => some ds | _ => none) := rfl
@[simp] theorem s_all {n : Nat} : dAll [.loc n] st Q = ∃ bs : List Bool, st[n]? = some (.lst (bs.map .bl)) ∧ Q (.bl (bs.all id)) st := rfl
@[simp] theorem s_any {n : Nat} : dAny [.loc n] st Q = ∃ bs : List Bool, st[n]? = some (.lst (bs.map .bl)) ∧ Q (.bl (bs.any id)) st := rfl
@[simp] theorem s_append {n : Nat} : dAppend (.loc n) [d] st Q = ∃ es, st[n]? = some (.lst es) ∧ es.length < sizeLine ∧ Q .non (st.set n (.lst (es ++ [d]))) := rfl
@[simp] theorem s_extend {n m : Nat} : dExtend (.loc n) [.loc m] st Q = ∃ es fs, st[n]? = some (.lst es) ∧ st[m]? = some (.lst fs) ∧ es.length + fs.length ≤ sizeLine ∧ Q .non (st.set n (.lst (es ++ fs))) := rfl
@[simp] theorem s_tyD_loc {T : String} {n : Nat} : tyD st T (.loc n) = (match st[n]? with | some (.lst _) => T = "list" | some (.dK _) => T = "dict" | _ => False) := rfl
@[simp] theorem tyN_non : tyN st .non = some "NoneType" := rfl
@[simp] theorem tyN_bl {b : Bool} : tyN st (.bl b) = some "bool" := rfl
@[simp] theorem tyN_int {b : Int} : tyN st (.int b) = some "int" := rfl
@[simp] theorem tyN_str {b : Str} : tyN st (.str b) = some "str" := rfl
@[simp] theorem tyN_tup : tyN st (.tup ds) = some "tuple" := rfl
@[simp] theorem tyN_fls : tyN st (.fls ds) = some "list" := rfl
@[simp] theorem s_next : dNext E ρ st = E.nx ρ st := rfl
@[simp] theorem s_seq : dSeq s r E ρ st = s { E with nx := r E } ρ st := rfl
@[simp] theorem s_break : dBreak E ρ st = E.bk ρ st := rfl
@[simp] theorem s_drop : dDrop te E ρ st = te ρ st (fun _ st1 => E.nx ρ st1) E.xs := rfl
@[simp] theorem s_ret : dRet te E ρ st = te ρ st E.rt E.xs := rfl
@[simp] theorem s_ifS : dIfS c s r E ρ st = c ρ st (fun b st1 => if b = true then s E ρ st1 else r E ρ st1) E.xs := rfl
@[simp] theorem s_gN {i : Nat} {Qn : Env' → Sto → Prop} : gN i d ρ st Qn = Qn (ρ.set i (some d)) st := rfl
@[simp] theorem s_gNil {Qn : Env' → Sto → Prop} : gNil' [] ρ st Qn = Qn ρ st := rfl
@[simp] theorem s_gCons {g : DTG} {h : DTGs} {Qn : Env' → Sto → Prop} : gCons' g h (d :: ds) ρ st Qn = g d ρ st fun ρ' st' => h ds ρ' st' Qn := rfl
@[simp] theorem s_gTup {n : Nat} {h : DTGs} {Qn : Env' → Sto → Prop} : gTup' n h (.tup ds) ρ st Qn = (ds.length = n ∧ h ds ρ st Qn) := rfl
@[simp] theorem s_asg {g : DTG} : dAsg te g E ρ st = te ρ st (fun x st1 => g x ρ st1 E.nx) E.xs := rfl
@[simp] theorem s_par {i j : Nat} : dPar i j t E ρ st = t ρ st (fun vs st1 => match vs with | [v, w] => E.nx ((ρ.set i (some v)).set j (some w)) st1 | _ => False) E.xs := rfl
@[simp] theorem s_gSub {to ti : DTE} {dr : D3} {Qn : Env' → Sto → Prop} : gSub' to ti dr d ρ st Qn = to ρ st (fun o st1 => ti ρ st1 (fun i st2 => dr o i d st2 fun st3 => Qn ρ st3) fun _ _ _ => False) fun _ _ _ => False := rfl
@[simp] theorem s_setL {n : Nat} {k : Int} {Qs : Sto → Prop} : dSetL (.loc n) (.int k) x st Qs = ∃ ds j, st[n]? = some (.lst ds) ∧ ixN ds.length k = some j ∧ Qs (st.set n (.lst (ds.set j x))) := rfl
@[simp] theorem s_start {N : List Str} : startD N ds = ds.map some ++ List.replicate (N.length - ds.length) none := rfl
@[simp] theorem s_for {it : DTI} {g : DTG} {body : DTS} : dFor it g body E ρ st = it ρ st (fun items G st1 => runG g body E G items ρ st1) E.xs := rfl
theorem runG_nil {g : DTG} {body : DTS} {G : Sto → Prop} : runG g body E G [] ρ st = (G st ∧ E.nx ρ st) := rfl
theorem runG_cons {g : DTG} {body : DTS} {G : Sto → Prop} : runG g body E G (d :: ds) ρ st = (G st ∧ g d ρ st fun ρ2 st2 => body { E with nx := runG g body E G ds, ct := runG g body E G ds, bk := E.nx } ρ2 st2) := rfl
@[simp] theorem s_iD {QI : List D → (Sto → Prop) → Sto → Prop} : iD te ρ st QI Z = te ρ st (fun x st1 => walkD st1 x fun items G => QI items G st1) Z := rfl
@[simp] theorem s_walk_tup {QI : List D → (Sto → Prop) → Prop} : walkD st (.tup ds) QI = QI ds fun _ => True := rfl
@[simp] theorem s_walk_fls {QI : List D → (Sto → Prop) → Prop} : walkD st (.fls ds) QI = QI ds fun _ => True := rfl
@[simp] theorem s_walk_loc {n : Nat} {QI : List D → (Sto → Prop) → Prop} : walkD st (.loc n) QI = ∃ ds, st[n]? = some (.lst ds) ∧ QI ds fun st => st[n]? = some (.lst ds) := rfl
@[simp] theorem s_iR1 {QI : List D → (Sto → Prop) → Sto → Prop} : iR1 t ρ st QI Z = t ρ st (fun xs st1 => match xs with | [.int j] => -(2 ^ 62) ≤ j ∧ j < 2 ^ 62 ∧ QI (rngItems 0 j.toNat) (fun _ => True) st1 | _ => False) Z := rfl
@[simp] theorem s_iR2 {QI : List D → (Sto → Prop) → Sto → Prop} : iR2 t ρ st QI Z = t ρ st (fun xs st1 => match xs with | [.int i, .int j] => (-(2 ^ 62) ≤ i ∧ i < 2 ^ 62 ∧ -(2 ^ 62) ≤ j ∧ j < 2 ^ 62) ∧ QI (rngItems i (j - i).toNat) (fun _ => True) st1 | _ => False) Z := rfl
@[simp] theorem s_iEn {QI : List D → (Sto → Prop) → Sto → Prop} : iEn t ρ st QI Z = t ρ st (fun xs st1 => match xs with | [x] => enumD st1 x fun items G => QI items G st1 | _ => False) Z := rfl
@[simp] theorem s_iZp {QI : List D → (Sto → Prop) → Sto → Prop} : iZp t ρ st QI Z = t ρ st (fun xs st1 => match xs with | [.tup ds, .tup es] => QI (zipItems ds es) (fun _ => True) st1 | _ => False) Z := rfl
@[simp] theorem s_en_tup {QI : List D → (Sto → Prop) → Prop} : enumD st (.tup ds) QI = QI (enumItems ds) fun _ => True := rfl
@[simp] theorem s_en_fls {QI : List D → (Sto → Prop) → Prop} : enumD st (.fls ds) QI = QI (enumItems ds) fun _ => True := rfl
@[simp] theorem s_en_loc {n : Nat} {QI : List D → (Sto → Prop) → Prop} : enumD st (.loc n) QI = ∃ ds, st[n]? = some (.lst ds) ∧ QI (enumItems ds) fun st => st[n]? = some (.lst ds) := rfl
@[simp] theorem s_lc {it : DTI} {g : DTG} {tt : DTT} {own : List Nat} : dLc it g tt te own ρ st Q Z = it ρ st (fun items G st1 => runC g tt te (wipeD ρ own) Q G items [] st1) Z := rfl
theorem runC_nil {g : DTG} {tt : DTT} {G : Sto → Prop} : runC g tt te ρ Q G [] es st = (G st ∧ Q (.loc st.length) (st ++ [.lst es])) := rfl
theorem runC_cons {g : DTG} {tt : DTT} {G : Sto → Prop} : runC g tt te ρ Q G (d :: ds) es st = (G st ∧ g d ρ st fun ρ2 st2 => tt ρ2 st2 (fun b st3 => if b = true then te ρ2 st3 (fun y st4 => es.length < sizeLine ∧ runC g tt te ρ Q G ds (es ++ [y]) st4) Z0 else runC g tt te ρ Q G ds es st3) Z0) := rfl
@[simp] theorem s_wipe0 : wipeD ρ [] = ρ := rfl
@[simp] theorem s_wipe {v : Nat} {vs : List Nat} : wipeD ρ (v :: vs) = (wipeD ρ vs).set v none := rfl
@[simp] theorem s_yes : dYes ρ st QT Z = QT true st := rfl
end
end DL
namespace DL
open PySem L2 PySem.Spec
open PyProof.Rows hiding St
section
variable [TC : TabCtx] {P : Program} {w : World} {K : PySem.W.Frag} {mg : Str → Option Value} {base : Heap} {k n : Nat} {x : Str} {s : Stmt} {N ps : List Str} {dsp : DSp} {f : Addr} {fd : FuncData}
theorem fn_mk (F : Fun K x x s f fd) (S : FnScope N ps (defScope s)) (hn : ps.length = n)
    (body : ∀ (f : Addr) (cdv : Value) (A : Around) (outer : List Env) (s0 : Shared) (H : Hp) (E : XK), Room k (A.deeper (envOfC x (defScope s) s0.heap.objs.size f cdv)) →
      ∃ t, DSs (XDef P w K mg base N x s f cdv A outer s0 H E) (WDef E) (defBody s) t ∧ ∀ ds st Q Z, ds.length = n → dsp ds st Q Z → t { nx := fun _ st' => Back st Q .non st', rt := Back st Q, xs := fun x _ st' => BackX st Z x st' } (startD N ds) st) :
    FnOk P w K mg base (L2.CX P w) (k + 1) f fd ps (liftSp K n dsp) := by
  refine F.okX S (fun vs H Q E h => by rw [hn]; exact h.1) (fun cdv A outer s0 H vs Q E hr h => ?_)
  obtain ⟨t, ht, hd⟩ := body f cdv A outer s0 H E hr
  obtain ⟨hl, ds, st, μ, Qd, Z, r, sr, hsp, hQ, hZ⟩ := h
  refine ⟨_, ht, startD N ds, st, μ, _, ⟨start_rep N r, sr⟩, hd ds st Qd Z (by rw [r.length]; exact hl) hsp, ?_, Back.ok sr hQ, ?_, ?_, ?_⟩
  · exact fun ρ' st' σ' H' μ' q e s' => Back.ok sr hQ _ _ _ _ _ q e s'.s rfl
  · exact fun ρ' st' σ' H' μ' q e s' => q.elim
  · exact fun ρ' st' σ' H' μ' q e s' => q.elim
  · exact fun x' ρ' st' σ' H' μ' c dx q e s' r' => BackX.ok sr hZ _ _ _ _ _ _ q e s'.s r'
end
/-- what a law's own def promises: of a script it tells True -/
def IsL (st : Sto) (d : D) (ns : List Int) : Prop := d = .fls (ns.map .int) ∨ ∃ n, d = .loc n ∧ st[n]? = some (.lst (ns.map .int))
def sp_law : DSp := fun ds st Q _ => match ds with
  | [d] => ∃ ns : List Int, IsL st d ns ∧ ns.length ≤ 63 ∧ (∀ z ∈ ns, Builtin.Int.intBits z ≤ 1048576) ∧ ∀ st', Q (.bl true) st'
  | _ => False
theorem reps_ints0 {K : PySem.W.Frag} {H : Hp} {μ : List Addr} : ∀ ns : List Int, Reps K H μ (ns.map .int) (ns.map V.int)
  | [] => rfl
  | n :: ns => ⟨.int n, ns.map V.int, rfl, rfl, reps_ints0 ns⟩
theorem law_at {l : PySem.W.OpenLaw} {w : World} {K : PySem.W.Frag} {k : Nat} {mg : Str → Option Value} {fa : Addr} {fd : FuncData} {h : Heap} (T : List (Addr × Str)) (cs : List (Addr × Addr))
    (hT : ∀ p ∈ T, p.1 ∈ cs.map (·.2)) (ht : ∀ p ∈ cs, h.get? p.2 = some { cls := .none, data := .fields #[] }) (nk : ∀ p ∈ cs, K.lookup p.2 = none) (cd : ∀ p ∈ cs, PySem.W.CodeHd h p.1 p.2)
    (hb : ∀ (s : Shared) (u : Value), BindsTo s fd ⟨[u], []⟩ [("script", u)])
    (F : ∀ base : Heap, K.In base → base.Ns mainGlobals mg → (∀ p ∈ cs, LamX.TabB base mg p.1 p.2) → FnOk l.prog w K mg base (L2.CX l.prog w) k fa fd ["script"] (@liftSp ⟨T, []⟩ K 1 sp_law)) :
    LamX.LawAtS l w K (L2.CX l.prog w) k 63 "script" mg fa h := by
  letI : TabCtx := ⟨T, []⟩
  refine ⟨fd, cs, liftSp K 1 sp_law, ht, nk, cd, hb, fun H a ns hl hbits hts hS => ⟨rfl, ?_⟩, F⟩
  have tabs : LamX.Tabs T H := fun p hp => by
    obtain ⟨q, hq, e⟩ := List.mem_map.mp (hT p hp)
    rw [show p.1 = q.2 from e.symm]
    exact LamX.TabS.nil (hts q hq)
  have eok : ∀ {μ : List Addr}, EOk K (fun d _ => d = .bl true) (fun v _ => v = .bl true) H μ := fun d st' H' μ' v q _ _ r => by
    subst q
    exact r
  have xok : ∀ {μ : List Addr}, XOk K (fun _ _ => False) (fun _ _ _ => False) H μ := fun x st' H' μ' c dx q _ _ _ => q.elim
  have fz : FzL K H a (ns.map V.int) → ∃ ds st μ Qd Z, Reps K H μ ds [V.ref a] ∧ SRep K st μ H ∧ sp_law ds st Qd Z ∧ EOk K Qd (fun v _ => v = .bl true) H μ ∧ XOk K Z (fun _ _ _ => False) H μ := fun z =>
    ⟨[.fls (ns.map .int)], [], [], fun d _ => d = .bl true, fun _ _ => False, Reps.one ⟨a, _, rfl, z, reps_ints0 ns⟩,
      ⟨rfl, List.nodup_nil, fun n b e => by simp at e, tabs, fun _ h => nomatch h⟩, ⟨ns, .inl rfl, hl, hbits, fun _ => rfl⟩, eok, xok⟩
  rcases hS with (hS | hS) | hS
  · refine ⟨[.loc 0], [.lst (ns.map .int)], [a], fun d _ => d = .bl true, fun _ _ => False, Reps.one ⟨a, rfl, rfl⟩, ⟨rfl, by simp, fun n b e => ?_, tabs, fun _ h => nomatch h⟩, ⟨ns, .inr ⟨0, rfl, rfl⟩, hl, hbits, fun _ => rfl⟩, eok, xok⟩
    cases n with
    | zero =>
      cases e
      exact ⟨a, _, rfl, hS, _, rfl, reps_ints0 ns⟩
    | succ n => simp at e
  · exact fz (.inl hS)
  · exact fz (.inr hS)
theorem cx_false {P : Program} {w : World} {outer : List Env} {H : Hp} {s s' : Shared} {u : Value} (h : L2.CX P w outer H s (fun _ _ _ => False) u s') : False := by
  obtain ⟨a, B, H', cls, d, _, _, _, _, _, _, _, z⟩ := h
  exact z
end DL
namespace RD
open PySem L2 PySem.Spec DL
open PyProof.Rows hiding St
abbrev N_is_integer : List Str := ["thing"]
def t_is_integer : DTS := (dRet (dAndV (dIsi (dVar 0) ["int"]) (dNotV (dIsi (dVar 0) ["bool"]))))
abbrev N_is_number : List Str := ["thing"]
def t_is_number (s_is_integer : DSp) : DTS := (dRet (dAndV (dCall 1 s_is_integer (dCons (dVar 0) dNil)) (dOp dGe (dVar 0) (dC (.int 0)))))
abbrev N_is_names : List Str := ["thing", "ahead", "name"]
def b_is_names_1 (s_is_name : DSp) : DTS := (dSeq (dIfS (dOr (dNot (dTru (dCall 1 s_is_name (dCons (dVar 2) dNil)))) (dTest (dOp dLe (dVar 2) (dVar 1)))) (dRet (dC (.bl false))) dNext)
    (dAsg (dVar 2) (gN 1)))
def t_is_names (s_is_name : DSp) : DTS := (dSeq (dIfS (dNot (dTru (dIsi (dVar 0) ["tuple"]))) (dRet (dC (.bl false))) dNext)
    (dSeq (dAsg (dC (.str "")) (gN 1))
    (dSeq (dFor (iD (dVar 0)) (gN 2) (b_is_names_1 s_is_name))
    (dRet (dC (.bl true))))))
abbrev N_is_wanted : List Str := ["thing"]
def t_is_wanted (s_is_names : DSp) : DTS := (dRet (dAndV (dCall 1 s_is_names (dCons (dVar 0) dNil)) (dOp dLe (dCB dLen (dCons (dVar 0) dNil)) (dC (.int 4)))))
abbrev N_is_tuple_of : List Str := ["many", "thing"]
def t_is_tuple_of : DTS := (dRet (dAndV (dIsi (dVar 1) ["tuple"]) (dOp dEq (dCB dLen (dCons (dVar 1) dNil)) (dVar 0))))
abbrev N_is_tuple_within : List Str := ["most", "thing"]
def t_is_tuple_within : DTS := (dRet (dAndV (dIsi (dVar 1) ["tuple"]) (dOp dLe (dCB dLen (dCons (dVar 1) dNil)) (dVar 0))))
abbrev N_is_version : List Str := ["thing", "number"]
def b_is_version_1 (s_is_number : DSp) (s_is_tuple_of : DSp) : DTS := (dIfS (dOr (dNot (dTru (dCall 1 s_is_number (dCons (dVar 1) dNil)))) (dTest (dOp dGt (dVar 1) (dC (.int 1000000))))) (dRet (dC (.bl false))) dNext)
def t_is_version (s_is_number : DSp) (s_is_tuple_of : DSp) : DTS := (dSeq (dIfS (dNot (dTru (dCall 2 s_is_tuple_of (dCons (dC (.int 3)) (dCons (dVar 0) dNil))))) (dRet (dC (.bl false))) dNext)
    (dSeq (dFor (iD (dVar 0)) (gN 1) (b_is_version_1 s_is_number s_is_tuple_of))
    (dRet (dC (.bl true)))))
abbrev N_is_stretch : List Str := ["thing", "low", "high"]
def t_is_stretch (s_is_tuple_of : DSp) (s_is_version : DSp) : DTS := (dSeq (dIfS (dNot (dTru (dCall 2 s_is_tuple_of (dCons (dC (.int 2)) (dCons (dVar 0) dNil))))) (dRet (dC (.bl false))) dNext)
    (dSeq (dAsg (dVar 0) (gTup' 2 (gCons' (gN 1) (gCons' (gN 2) gNil'))))
    (dSeq (dIfS (dNot (dTru (dCall 1 s_is_version (dCons (dVar 1) dNil)))) (dRet (dC (.bl false))) dNext)
    (dRet (dOrV (dOp (dIsN id) (dVar 2) (dC (.non))) (dAndV (dCall 1 s_is_version (dCons (dVar 2) dNil)) (dOp dLt (dVar 1) (dVar 2))))))))
abbrev N_is_range : List Str := ["thing", "at", "pair"]
def b_is_range_1 (s_is_stretch : DSp) (s_reaches : DSp) : DTS := (dSeq (dIfS (dNot (dTru (dCall 1 s_is_stretch (dCons (dVar 2) dNil)))) (dRet (dC (.bl false))) dNext)
    (dIfS (dAnd (dTest (dOp dGt (dVar 1) (dC (.int 0)))) (dTru (dCall 2 s_reaches (dCons (dOp dIx (dOp dIx (dVar 0) (dOp dSub (dVar 1) (dC (.int 1)))) (dC (.int 1))) (dCons (dOp dIx (dVar 2) (dC (.int 0))) dNil))))) (dRet (dC (.bl false))) dNext))
def t_is_range (s_is_stretch : DSp) (s_reaches : DSp) : DTS := (dSeq (dIfS (dNot (dTru (dIsi (dVar 0) ["tuple"]))) (dRet (dC (.bl false))) dNext)
    (dSeq (dFor (iEn (dCons (dVar 0) dNil)) (gTup' 2 (gCons' (gN 1) (gCons' (gN 2) gNil'))) (b_is_range_1 s_is_stretch s_reaches))
    (dRet (dC (.bl true)))))
abbrev N_reaches : List Str := ["high", "low"]
def t_reaches : DTS := (dRet (dOrV (dOp (dIsN id) (dVar 0) (dC (.non))) (dOp dLe (dVar 1) (dVar 0))))
abbrev N_is_other : List Str := ["name", "thing"]
def t_is_other (s_is_name : DSp) : DTS := (dRet (dAndV (dCall 1 s_is_name (dCons (dVar 1) dNil)) (dOp dNe (dVar 1) (dVar 0))))
abbrev N_is_feature : List Str := ["thing"]
def t_is_feature (s_is_name : DSp) (s_is_names : DSp) (s_is_tuple_of : DSp) : DTS := (dRet (dAndV (dCall 2 s_is_tuple_of (dCons (dC (.int 2)) (dCons (dVar 0) dNil))) (dAndV (dCall 1 s_is_name (dCons (dOp dIx (dVar 0) (dC (.int 0))) dNil)) (dAndV (dCall 1 s_is_names (dCons (dOp dIx (dVar 0) (dC (.int 1))) dNil)) (dOp (dIn true) (dOp dIx (dVar 0) (dC (.int 0))) (dOp dIx (dVar 0) (dC (.int 1))))))))
abbrev N_lacking : List Str := ["features", "names", "pair", "other"]
def e_lacking_1 : DTE := (dOp dIx (dVar 2) (dC (.int 0)))
def b_lacking_2 : DTS := (dIfS (dTest (dOp (dIn true) (dVar 3) (dVar 1))) (dRet (dC (.bl true))) dNext)
def b_lacking_3 : DTS := (dFor (iD (dOp dIx (dVar 2) (dC (.int 1)))) (gN 3) (b_lacking_2))
def t_lacking : DTS := (dSeq (dAsg (dLc (iD (dVar 0)) (gN 2) dYes (e_lacking_1) [2]) (gN 1))
    (dSeq (dFor (iD (dVar 0)) (gN 2) (b_lacking_3))
    (dRet (dC (.bl false)))))
abbrev N_is_features : List Str := ["thing", "pair"]
def b_is_features_1 (s_is_names : DSp) (s_is_tuple_within : DSp) (s_is_feature : DSp) (s_lacking : DSp) : DTS := (dIfS (dNot (dTru (dCall 1 s_is_feature (dCons (dVar 1) dNil)))) (dRet (dC (.bl false))) dNext)
def e_is_features_2 (s_is_names : DSp) (s_is_tuple_within : DSp) (s_is_feature : DSp) (s_lacking : DSp) : DTE := (dOp dIx (dVar 1) (dC (.int 0)))
def t_is_features (s_is_names : DSp) (s_is_tuple_within : DSp) (s_is_feature : DSp) (s_lacking : DSp) : DTS := (dSeq (dIfS (dNot (dTru (dCall 2 s_is_tuple_within (dCons (dC (.int 6)) (dCons (dVar 0) dNil))))) (dRet (dC (.bl false))) dNext)
    (dSeq (dFor (iD (dVar 0)) (gN 1) (b_is_features_1 s_is_names s_is_tuple_within s_is_feature s_lacking))
    (dRet (dAndV (dCall 1 s_is_names (dCons (dCB dTupOf (dCons (dLc (iD (dVar 0)) (gN 1) dYes (e_is_features_2 s_is_names s_is_tuple_within s_is_feature s_lacking) [1]) dNil)) dNil)) (dNotV (dCall 1 s_lacking (dCons (dVar 0) dNil)))))))
abbrev N_is_need : List Str := ["name", "features", "thing", "feature", "other", "rng", "wanted", "pair"]
def e_is_need_1 (s_is_wanted : DSp) (s_is_tuple_of : DSp) (s_is_range : DSp) (s_is_other : DSp) : DTE := (dOp dIx (dVar 7) (dC (.int 0)))
def t_is_need (s_is_wanted : DSp) (s_is_tuple_of : DSp) (s_is_range : DSp) (s_is_other : DSp) : DTS := (dSeq (dIfS (dNot (dTru (dCall 2 s_is_tuple_of (dCons (dC (.int 4)) (dCons (dVar 2) dNil))))) (dRet (dC (.bl false))) dNext)
    (dSeq (dAsg (dVar 2) (gTup' 4 (gCons' (gN 3) (gCons' (gN 4) (gCons' (gN 5) (gCons' (gN 6) gNil'))))))
    (dSeq (dIfS (dAnd (dTest (dOp dNe (dVar 3) (dC (.str "")))) (dTest (dOp (dIn true) (dVar 3) (dLc (iD (dVar 1)) (gN 7) dYes (e_is_need_1 s_is_wanted s_is_tuple_of s_is_range s_is_other) [7])))) (dRet (dC (.bl false))) dNext)
    (dRet (dAndV (dCall 2 s_is_other (dCons (dVar 0) (dCons (dVar 4) dNil))) (dAndV (dCall 1 s_is_range (dCons (dVar 5) dNil)) (dCall 1 s_is_wanted (dCons (dVar 6) dNil))))))))
abbrev N_is_bar : List Str := ["name", "thing"]
def t_is_bar (s_is_tuple_of : DSp) (s_is_range : DSp) (s_is_other : DSp) : DTS := (dRet (dAndV (dCall 2 s_is_tuple_of (dCons (dC (.int 2)) (dCons (dVar 1) dNil))) (dAndV (dCall 2 s_is_other (dCons (dVar 0) (dCons (dOp dIx (dVar 1) (dC (.int 0))) dNil))) (dCall 1 s_is_range (dCons (dOp dIx (dVar 1) (dC (.int 1))) dNil)))))
abbrev N_wrong_need : List Str := ["name", "features", "needs", "at", "need"]
def b_wrong_need_1 (s_is_tuple_within : DSp) (s_is_need : DSp) : DTS := (dIfS (dNot (dTru (dCall 3 s_is_need (dCons (dVar 0) (dCons (dVar 1) (dCons (dVar 4) dNil)))))) (dRet (dTup (dCons (dC (.str "need")) (dCons (dVar 3) dNil)))) dNext)
def t_wrong_need (s_is_tuple_within : DSp) (s_is_need : DSp) : DTS := (dSeq (dIfS (dNot (dTru (dCall 2 s_is_tuple_within (dCons (dC (.int 8)) (dCons (dVar 2) dNil))))) (dRet (dC (.str "needs"))) dNext)
    (dSeq (dFor (iEn (dCons (dVar 2) dNil)) (gTup' 2 (gCons' (gN 3) (gCons' (gN 4) gNil'))) (b_wrong_need_1 s_is_tuple_within s_is_need))
    (dRet (dC (.non)))))
abbrev N_wrong_bar : List Str := ["name", "bars", "at", "bar"]
def b_wrong_bar_1 (s_is_tuple_within : DSp) (s_is_bar : DSp) : DTS := (dIfS (dNot (dTru (dCall 2 s_is_bar (dCons (dVar 0) (dCons (dVar 3) dNil))))) (dRet (dTup (dCons (dC (.str "bar")) (dCons (dVar 2) dNil)))) dNext)
def t_wrong_bar (s_is_tuple_within : DSp) (s_is_bar : DSp) : DTS := (dSeq (dIfS (dNot (dTru (dCall 2 s_is_tuple_within (dCons (dC (.int 6)) (dCons (dVar 1) dNil))))) (dRet (dC (.str "bars"))) dNext)
    (dSeq (dFor (iEn (dCons (dVar 1) dNil)) (gTup' 2 (gCons' (gN 2) (gCons' (gN 3) gNil'))) (b_wrong_bar_1 s_is_tuple_within s_is_bar))
    (dRet (dC (.non)))))
abbrev N_wrong_part : List Str := ["name", "version", "features", "needs", "bars", "part"]
def t_wrong_part (s_is_name : DSp) (s_is_release : DSp) (s_is_features : DSp) (s_wrong_need : DSp) (s_wrong_bar : DSp) : DTS := (dSeq (dIfS (dNot (dTru (dCall 1 s_is_name (dCons (dVar 0) dNil)))) (dRet (dC (.str "name"))) dNext)
    (dSeq (dIfS (dNot (dTru (dCall 1 s_is_release (dCons (dVar 1) dNil)))) (dRet (dC (.str "version"))) dNext)
    (dSeq (dIfS (dNot (dTru (dCall 1 s_is_features (dCons (dVar 2) dNil)))) (dRet (dC (.str "features"))) dNext)
    (dSeq (dAsg (dCall 3 s_wrong_need (dCons (dVar 0) (dCons (dVar 2) (dCons (dVar 3) dNil)))) (gN 5))
    (dSeq (dIfS (dTest (dOp (dIsN id) (dVar 5) (dC (.non)))) (dAsg (dCall 2 s_wrong_bar (dCons (dVar 0) (dCons (dVar 4) dNil))) (gN 5)) dNext)
    (dRet (dVar 5)))))))
abbrev N_is_triple : List Str := ["thing"]
def t_is_triple (s_is_name : DSp) (s_is_names : DSp) (s_is_tuple_of : DSp) (s_is_version : DSp) : DTS := (dRet (dAndV (dCall 2 s_is_tuple_of (dCons (dC (.int 3)) (dCons (dVar 0) dNil))) (dAndV (dCall 1 s_is_name (dCons (dOp dIx (dVar 0) (dC (.int 0))) dNil)) (dAndV (dCall 1 s_is_version (dCons (dOp dIx (dVar 0) (dC (.int 1))) dNil)) (dCall 1 s_is_names (dCons (dOp dIx (dVar 0) (dC (.int 2))) dNil))))))
end RD
namespace DL
open PySem L2 PySem.Spec
open PyProof.Rows hiding St
variable [TC : TabCtx]
section
variable {K : PySem.W.Frag}
def dStr0 (f : Str → Bool) : DM := fun x ds st Q => match x, ds with | .str a, [] => Q (.bl (f a)) st | _, _ => False
theorem str0_ok {f : Str → Bool} : DMt K (fun x xs H Q => ∃ a, x = .str a ∧ xs = [] ∧ True ∧ Q (.bl (f a)) H) (dStr0 f) := by
  intro H μ st x v ds vs Qd Q s rx rs h hQ
  unfold dStr0 at h
  split at h
  · exact ⟨_, rx, rs, trivial, hQ _ _ _ _ _ h (Ext.refl _ _) s rfl⟩
  · exact h.elim
def dStr1 (f : Str → Str → Bool) : DM := fun x ds st Q => match x, ds with | .str a, [.str b] => Q (.bl (f a b)) st | _, _ => False
theorem str1_ok {f : Str → Str → Bool} : DMt K (fun x xs H Q => ∃ a b, x = .str a ∧ xs = [.str b] ∧ Q (.bl (f a b)) H) (dStr1 f) := by
  intro H μ st x v ds vs Qd Q s rx rs h hQ
  unfold dStr1 at h
  split at h
  · obtain ⟨u, rfl, ru⟩ := reps1 rs
    rw [show u = _ from ru]
    exact ⟨_, _, rx, rfl, hQ _ _ _ _ _ h (Ext.refl _ _) s rfl⟩
  · exact h.elim
theorem reps_strs0 {H : Hp} {μ : List Addr} : ∀ ys : List Str, Reps K H μ (ys.map D.str) (ys.map V.str)
  | [] => rfl
  | y :: ys => ⟨.str y, ys.map V.str, rfl, rfl, reps_strs0 ys⟩
theorem reps_strs {H : Hp} {μ : List Addr} : ∀ {ys : List Str} {vs : List V}, Reps K H μ (ys.map D.str) vs → vs = ys.map V.str
  | [], _, h => h
  | y :: ys, _, h => by
    obtain ⟨v, r, rfl, h1, h2⟩ := h
    rw [reps_strs h2, show v = _ from h1]
    rfl
def dSplit : DM := fun x ds st Q => match x, ds with | .str a, [.str b] => (b.length == 0) = false ∧ a.length + 2 ≤ sizeLine ∧ Q (.loc st.length) (st ++ [.lst ((Txt.split a b).map .str)]) | _, _ => False
theorem split_ok : DMt K (fun x xs H Q => ∃ a b, x = .str a ∧ xs = [.str b] ∧ (b.length == 0) = false ∧ a.length + 2 ≤ sizeLine ∧ rNewStrs (Txt.split a b) H Q) dSplit := by
  intro H μ st x v ds vs Qd Q s rx rs h hQ
  unfold dSplit at h
  split at h
  · obtain ⟨u, rfl, ru⟩ := reps1 rs
    rw [show u = _ from ru]
    exact ⟨_, _, rx, rfl, h.1, h.2.1, fun p hp => hQ.lst (Ext.refl _ _) s (reps_strs0 _) h.2.2 hp⟩
  · exact h.elim
def dJoin : DM := fun x ds st Q => match x, ds with
  | .str a, [d] => ∃ ys : List Str, itemsD st d = some (ys.map .str) ∧ (ys.map (·.length)).sum + ys.length * a.length ≤ 16777216 ∧ Q (.str (Txt.join a ys)) st
  | _, _ => False
theorem join_ok : DMt K (fun x xs H Q => ∃ a p, ∃ ys : List Str, x = .str a ∧ xs = [.ref p] ∧ (SqL K H p (ys.map V.str) ∨ SqT K H p (ys.map V.str)) ∧ (ys.map (·.length)).sum + ys.length * a.length ≤ 16777216 ∧ Q (.str (Txt.join a ys)) H) dJoin := by
  intro H μ st x v ds vs Qd Q s rx rs h hQ
  unfold dJoin at h
  split at h
  · obtain ⟨u, rfl, ru⟩ := reps1 rs
    obtain ⟨ys, h1, h2, q⟩ := h
    obtain ⟨p, vs, rfl, hs, hr⟩ := items_ok s ru h1
    rw [reps_strs hr] at hs
    exact ⟨_, p, ys, rx, rfl, hs, h2, hQ _ _ _ _ _ q (Ext.refl _ _) s rfl⟩
  · exact h.elim
def dPartition : DM := fun x ds st Q => match x, ds with
  | .str a, [.str b] => (b.length == 0) = false ∧ a.length ≤ sizeLine ∧ Q (.tup [.str (Txt.partition a b).1, .str (Txt.partition a b).2.1, .str (Txt.partition a b).2.2]) st
  | _, _ => False
theorem partition_ok : DMt K (fun x xs H Q => ∃ a b, x = .str a ∧ xs = [.str b] ∧ (b.length == 0) = false ∧ a.length ≤ sizeLine ∧ ∀ p, H p = none → Q (.ref p) (upd H p (.tup [.str (Txt.partition a b).1, .str (Txt.partition a b).2.1, .str (Txt.partition a b).2.2]))) dPartition := by
  intro H μ st x v ds vs Qd Q s rx rs h hQ
  unfold dPartition at h
  split at h
  · obtain ⟨u, rfl, ru⟩ := reps1 rs
    rw [show u = _ from ru]
    exact ⟨_, _, rx, rfl, h.1, h.2.1, fun p hp => hQ.tup (Ext.refl _ _) s (reps_strs0 [_, _, _]) h.2.2 hp⟩
  · exact h.elim
/-- extend by a tuple -/
def rExtendT (K : PySem.W.Frag) : V → List V → Hp → VK → Prop := fun x vs H Q => ∃ l b xs zs, x = .ref l ∧ vs = [.ref b] ∧ H l = some (.lst xs) ∧ SqT K H b zs ∧ xs.length + zs.length ≤ sizeLine ∧ Q .non (upd H l (.lst (xs ++ zs)))
end
/-- a list grown by a tuple of whatever kind -/
theorem grown_by_tup {l b : Addr} {xs ys : Array Value} {n m : Nat} {dt : Option Addr} {sl : Array (Option Value)} (h0 : ¬(!xs.isEmpty && Builtin.List.listTooLong (xs.size + ys.size)) = true) (h1 : xs.size ≤ sizeLine) (h2 : xs.size + ys.size ≤ sizeLine + 1) :
    Meets (Builtin.«list.extend» ⟨[.ref l, .ref b], []⟩) (fun _ R s => s.heap.get? l = some { cls := .type "list", data := .seq xs n } ∧ s.heap.get? b = some { cls := .type "tuple", dict := dt, data := .seq ys m, slots := sl } ∧
      R (.ok (.ret Value.none)) { s with heap := s.heap.update l (Obj.mapSeq fun x => x ++ ys), toks := s.toks }) :=
  .of_wp fun prog w A R s h => by
    obtain ⟨hp, g, d, tk, os⟩ := s
    obtain ⟨hl, hb, h⟩ := h
    have f2 := sub_tuple_tuple
    have f3 := sub_list_list
    have f4 := sub_tuple_list
    have f5 := sub_list_tuple
    have hz' : (xs ++ ys).size ≤ sizeLine + 1 := by rw [Array.size_append]; exact h2
    wp_walk using (wpAny_updateSeq hl rfl (hz := h1) (_hz' := hz')), wpAny_loadPart' hl, wpAny_loadPart' hb
    exact ⟨_, rfl, h⟩
section
variable {X : Cx}
theorem mt_extendT : MtM X "list.extend" (rExtendT X.K) := by
  intro pins s σ H x vs v us Q I rx rv h
  obtain ⟨l, b, xs, zs, rfl, rfl, hH, hB, hz, q⟩ := h
  cases rx
  obtain ⟨u, rfl, ru⟩ := rv.one
  cases ru
  obtain ⟨z, its, n, r, hl, e⟩ := I.lstM hH
  obtain ⟨its2, r2, ⟨o2, e2, hc2, n2, hd2⟩, _⟩ := I.tuple hB
  obtain ⟨c2, d2, da2, sl2⟩ := o2
  cases hc2
  cases hd2
  have hl2 := r2.length
  have hsz : its.toArray.size + its2.toArray.size ≤ sizeLine := by rw [List.size_toArray, List.size_toArray]; omega
  have hlong : ¬ (!its.toArray.isEmpty && Builtin.List.listTooLong (its.toArray.size + its2.toArray.size)) = true := by
    rw [notLongL hsz, Bool.and_false]
    exact Bool.false_ne_true
  refine call_meets PySem.F.slot_list_extend ⟨_, e, rfl⟩ PySem.F.entry_list_extend (PySem.F.args_list_extend_2 _ _) (grown_by_tup hlong (by rw [List.size_toArray]; omega) (by omega)) ⟨e, e2, ?_⟩
  refine ⟨.non, _, I.lset (its' := its ++ its2) hH e (by simp) (r.append r2) ?_, rfl, q⟩
  rw [List.length_append]
  omega
/-- the greatest number of a tuple -/
theorem dpAll_ints {K : PySem.W.Frag} {H : Hp} : ∀ ns : List Int, DpAll K H (ns.map V.int) (ns.map PyData.int)
  | [] => .nil
  | n :: ns => .cons (.int n) (dpAll_ints ns)
theorem fold_max (n : Int) : ∀ ns : List Int, (ns.foldl max n = n ∨ ns.foldl max n ∈ ns) ∧ n ≤ ns.foldl max n ∧ ∀ y ∈ ns, y ≤ ns.foldl max n
  | [] => ⟨.inl rfl, Int.le_refl _, fun _ h => nomatch h⟩
  | k :: ns => by
    obtain ⟨h1, h2, h3⟩ := fold_max (max n k) ns
    rw [List.foldl_cons]
    refine ⟨?_, by omega, fun y hy => ?_⟩
    · rcases h1 with h1 | h1
      · rw [h1]
        by_cases hk : n ≤ k
        · right; rw [Int.max_eq_right hk]; exact List.mem_cons_self
        · left; exact Int.max_eq_left (by omega)
      · exact .inr (List.mem_cons_of_mem _ h1)
    · rcases List.mem_cons.mp hy with rfl | hy
      · omega
      · exact h3 y hy
theorem depth_ints : ∀ ns : List Int, PyData.depthAll (ns.map PyData.int) = 0
  | [] => by simp [PyData.depthAll]
  | n :: ns => by simp [PyData.depthAll, PyData.depth, depth_ints ns]
def rMaxT (K : PySem.W.Frag) : List V → Hp → VK → Prop := fun vs H Q => ∃ (a : Addr) (ns : List Int), vs = [V.ref a] ∧ SqT K H a (ns.map V.int) ∧ 0 < ns.length ∧ ∀ m, m ∈ ns → (∀ y ∈ ns, y ≤ m) → Q (.int m) H
theorem cr_maxT (hc : X.calm = true) (hu : X.A.units + 64 < cLine) : CallR X (.builtin "max") (rMaxT X.K) := by
  intro pins s σ H vs us Q I r h
  obtain ⟨a, ns, rfl, hs, hne, q⟩ := h
  obtain ⟨its, rv, hl, _⟩ := I.tuple hs
  rw [Vals.ref1 r]
  cases ns with
  | nil => simp at hne
  | cons n ns =>
    obtain ⟨as, ra⟩ := Dp.readsAll I ((n :: ns).map PyData.int) _ _ (dpAll_ints (n :: ns)) rv
    have hal : PySem.W.AlikeAll (PyData.int n :: ns.map PyData.int) := by
      have key : ∀ d ∈ (PyData.int n :: ns.map PyData.int), ∃ i, d = .int i := fun d hd => by
        rcases List.mem_cons.mp hd with rfl | hd
        · exact ⟨_, rfl⟩
        · obtain ⟨i, _, rfl⟩ := List.mem_map.mp hd
          exact ⟨i, rfl⟩
      refine ⟨fun x hx y hy => ?_, fun x hx => ?_⟩
      · obtain ⟨i, rfl⟩ := key x hx
        obtain ⟨j, rfl⟩ := key y hy
        rfl
      · obtain ⟨i, rfl⟩ := key x hx
        exact fun z => nomatch z
    have hd : PyData.depthAll (PyData.int n :: ns.map PyData.int) = 0 := depth_ints (n :: ns)
    refine PySem.W.max_tuple_data (I.ok.hd hc) hl ra hal (by rw [hd]; omega) fun i v h' tk bs hv hr hk => ?_
    rw [PySem.W.maxD_ints] at hr
    cases hr
    obtain ⟨f1, f2, f3⟩ := fold_max n ns
    refine ⟨.int _, H, I.kept hk, ⟨_, rfl⟩, q _ ?_ fun y hy => ?_⟩
    · rcases f1 with f1 | f1
      · rw [f1]; exact List.mem_cons_self
      · exact List.mem_cons_of_mem _ f1
    · rcases List.mem_cons.mp hy with rfl | hy
      · exact f2
      · exact f3 y hy
end
section
variable {K : PySem.W.Frag}
/-- extend by a list or a tuple -/
def dExtendA : DM := fun x ds st Q => match x, ds with
  | .loc n, [d] => ∃ es fs, st[n]? = some (.lst es) ∧ (d = .tup fs ∨ ∃ m, d = .loc m ∧ st[m]? = some (.lst fs)) ∧ es.length + fs.length ≤ sizeLine ∧ Q .non (st.set n (.lst (es ++ fs)))
  | _, _ => False
theorem extendA_ok : DMt K (fun x xs H Q => rExtend x xs H Q ∨ rExtendT K x xs H Q) dExtendA := by
  intro H μ st x v ds vs Qd Q s rx rs h hQ
  unfold dExtendA at h
  split at h
  · obtain ⟨u, rfl, ru⟩ := reps1 rs
    obtain ⟨a, rfl, hn⟩ := rx
    obtain ⟨es, fs, he, hd, hz, q⟩ := h
    obtain ⟨a', o, e1, e2, vs, rfl, hr⟩ := s.at' _ _ he
    rw [hn] at e1; cases e1
    rcases hd with rfl | ⟨m, rfl, hm⟩
    · obtain ⟨b, us, rfl, ht, hr'⟩ := ru
      have w := s.write (o' := .lst (vs ++ us)) (b := .lst (es ++ fs)) hn e2 ⟨_, rfl, hr.append hr'⟩
      exact .inr ⟨a, b, vs, us, rfl, rfl, e2, ht, by rw [← hr.length, ← hr'.length]; exact hz, hQ _ _ _ _ _ q w.1 w.2 rfl⟩
    · obtain ⟨b, rfl, hb⟩ := ru
      obtain ⟨b', o, e1, e3, us, rfl, hr'⟩ := s.at' _ _ hm
      rw [hb] at e1; cases e1
      have w := s.write (o' := .lst (vs ++ us)) (b := .lst (es ++ fs)) hn e2 ⟨_, rfl, hr.append hr'⟩
      exact .inl ⟨a, b, vs, us, rfl, rfl, e2, e3, by rw [← hr.length, ← hr'.length]; exact hz, hQ _ _ _ _ _ q w.1 w.2 rfl⟩
  · exact h.elim
/-- int(text), str(number) -/
def dIntS : DN := fun ds st Q => match ds with | [.str a] => ∃ n, PySem.intText? a = some n ∧ a.length ≤ 640 ∧ Q (.int n) st | _ => False
theorem intS_ok : DCl K (fun xs H Q => ∃ a n, xs = [.str a] ∧ PySem.intText? a = some n ∧ a.length ≤ 640 ∧ Q (.int n) H) dIntS := by
  intro H μ st ds vs Qd Q s r h hQ
  unfold dIntS at h
  split at h
  · obtain ⟨v, rfl, rv⟩ := reps1 r
    obtain ⟨n, h1, h2, q⟩ := h
    exact ⟨_, n, by rw [show v = _ from rv], h1, h2, hQ _ _ _ _ _ q (Ext.refl _ _) s rfl⟩
  · exact h.elim
def dStrI : DN := fun ds st Q => match ds with | [.int i] => i.natAbs.log2 < 1920 ∧ Q (.str (toString i)) st | _ => False
theorem strI_ok : DCl K (fun xs H Q => ∃ i, xs = [.int i] ∧ i.natAbs.log2 < 1920 ∧ Q (.str (toString i)) H) dStrI := by
  intro H μ st ds vs Qd Q s r h hQ
  unfold dStrI at h
  split at h
  · obtain ⟨v, rfl, rv⟩ := reps1 r
    exact ⟨_, by rw [show v = _ from rv], h.1, hQ _ _ _ _ _ h.2 (Ext.refl _ _) s rfl⟩
  · exact h.elim
def dMaxT : DN := fun ds st Q => match ds with | [.tup es] => ∃ ns : List Int, es = ns.map .int ∧ 0 < ns.length ∧ ∀ m, m ∈ ns → (∀ y ∈ ns, y ≤ m) → Q (.int m) st | _ => False
theorem maxT_ok : DCl K (rMaxT K) dMaxT := by
  intro H μ st ds vs Qd Q s r h hQ
  unfold dMaxT at h
  split at h
  · obtain ⟨v, rfl, a, us, rfl, ht, hr⟩ := reps1 r
    obtain ⟨ns, rfl, h1, q⟩ := h
    rw [reps_ints hr] at ht
    exact ⟨a, ns, rfl, ht, h1, fun m hm hy => hQ _ _ _ _ _ (q m hm hy) (Ext.refl _ _) s rfl⟩
  · exact h.elim
end
section
variable {X : Cx} {W : WX} {e : Expr} {es : List Expr} {t : DTA} {pos p : Pos}
theorem de_intS (hg : Gl X "int") (hm : X.mg "int" = none) (ha : DA X W (e :: es) t) (he : starEach (e :: es) X.env = (false, eval e X.env) :: starEach es X.env := by rfl) (hpl : (backTo pos (starEach es X.env)).any (·.1) = false := by rfl) :
    DE X W (.Call (.Name "int" p) (e :: es) [] pos) (dCB dIntS t) := de_callTy call_int_str intS_ok hg hm PyProof.Rows.boot_int ha (by decide) (by decide) he hpl
theorem de_strI (hg : Gl X "str") (hm : X.mg "str" = none) (ha : DA X W (e :: es) t) (he : starEach (e :: es) X.env = (false, eval e X.env) :: starEach es X.env := by rfl) (hpl : (backTo pos (starEach es X.env)).any (·.1) = false := by rfl) :
    DE X W (.Call (.Name "str" p) (e :: es) [] pos) (dCB dStrI t) := de_callTy call_str_int strI_ok hg hm PyProof.Rows.boot_str ha (by decide) (by decide) he hpl
theorem de_maxT (hc : X.calm = true) (hu : X.A.units + 64 < cLine) (hg : Gl X "max") (hm : X.mg "max" = none) (ha : DA X W (e :: es) t) (he : starEach (e :: es) X.env = (false, eval e X.env) :: starEach es X.env := by rfl) (hpl : (backTo pos (starEach es X.env)).any (·.1) = false := by rfl) :
    DE X W (.Call (.Name "max" p) (e :: es) [] pos) (dCB dMaxT t) := de_callB (cr_maxT hc hu) maxT_ok hg hm PyProof.Rows.boot_max ha (by decide) (by decide) he hpl
end
end DL
namespace DL
open PySem L2 PySem.Spec
open PyProof.Rows hiding St
variable [TC : TabCtx]
section
variable {X : Cx} {W : WX} {e e1 e2 : Expr} {es : List Expr} {t te : DTE} {pos : Pos}
def dFmt (te : DTE) : DTE := fun ρ st Q Z => te ρ st (fun x st1 => match x with
  | .str y => y.length ≤ sizeLine ∧ Q (.str y) st1
  | .int i => i.natAbs.log2 < 1920 ∧ Q (.str (toString i)) st1
  | _ => False) Z
theorem de_fmt (h : DE X W e te) : DE X W (.FormattedValue e (-1) none pos) (dFmt te) := pe_weak (pe_fmt h) fun σ H Q ⟨ρ, st, μ, Qd, Z, hS, ht, hQ, hZ⟩ =>
  ⟨ρ, st, μ, _, Z, hS, ht, fun x st1 H1 μ1 v hx e1 s1 rv => by
    cases x <;> first | exact (show False from hx).elim | skip
    · exact .inr ⟨_, rv, hx.1, hQ _ _ _ _ _ hx.2 e1 s1 rfl⟩
    · exact .inl ⟨_, rv, hx.1, hQ _ _ _ _ _ hx.2 e1 s1 rfl⟩, hZ⟩
def dJs : List DTE → Str → Env' → Sto → (Str → Sto → Prop) → DZ → Prop
  | [], acc, _, st, Q, _ => Q acc st
  | t :: ts, acc, ρ, st, Q, Z => t ρ st (fun x st1 => match x with | .str y => (acc ++ y).length ≤ sizeLine ∧ dJs ts (acc ++ y) ρ st1 Q Z | _ => False) Z
inductive DJ (X : Cx) (W : WX) : List Expr → List DTE → Prop where
  | nil : DJ X W [] []
  | cons {e : Expr} {t : DTE} {es : List Expr} {ts : List DTE} (h : DE X W e t) (r : DJ X W es ts) : DJ X W (e :: es) (t :: ts)
theorem DJ.pj {ts : List DTE} (h : DJ X W es ts) : PJ X es (ts.map (liftE X.K W)) := by
  induction h with
  | nil => exact .nil
  | cons h r ih => exact .cons h ih
theorem js_lift {K : PySem.W.Frag} {ρ : Env'} {Z : DZ} {Qd : Str → Sto → Prop} {σ : St} {Q : Str → Hp → Prop} : ∀ {ts : List DTE} {acc : Str} {st : Sto} {H : Hp} {μ : List Addr}, Stt K ρ st μ σ H → dJs ts acc ρ st Qd Z →
    (∀ out st' H' μ', Qd out st' → Ext H H' μ μ' → SRep K st' μ' H' → Q out H') → ZOk K W Z H μ → tJs (ts.map (liftE K W)) acc σ H Q
  | [], acc, st, H, μ, hS, h, hQ, hZ => hQ _ _ _ _ h (Ext.refl _ _) hS.s
  | t :: ts, acc, st, H, μ, hS, h, hQ, hZ => ⟨ρ, st, μ, _, Z, hS, h, fun x st1 H1 μ1 v hx e1 s1 rv => by
    cases x <;> first | exact (show False from hx).elim | skip
    rename_i y
    exact ⟨y, rv, hx.1, js_lift (hS.mono e1 s1) hx.2 (fun out st' H' μ' q e2 s2 => hQ out st' H' μ' q (e1.trans e2) s2) (hZ.mono e1)⟩, hZ⟩
def dJoined (ts : List DTE) : DTE := fun ρ st Q Z => dJs ts Str.empty ρ st (fun out st1 => Q (.str out) st1) Z
theorem de_joined {ts : List DTE} (h : DJ X W (e1 :: e2 :: es) ts) : DE X W (.JoinedStr (e1 :: e2 :: es) pos) (dJoined ts) := pe_weak (pe_joined h.pj) fun σ H Q ⟨ρ, st, μ, Qd, Z, hS, ht, hQ, hZ⟩ =>
  js_lift hS ht (fun out st' H' μ' q e1 s1 => hQ _ _ _ _ _ q e1 s1 rfl) hZ
end
def keyD : D → Option Key
  | .int i => some (.inl i)
  | .str x => some (.inr x)
  | _ => none
def valD (kvs : List (Key × D)) (k : Key) : Option D := (kvs.find? fun kv => decide (kv.1 = k)).map (·.2)
def putD (kvs : List (Key × D)) (k : Key) (v : D) : List (Key × D) :=
  if (kvs.any fun kv => decide (kv.1 = k)) = true then kvs.map (fun kv => if kv.1 = k then (kv.1, v) else kv) else kvs ++ [(k, v)]
def mergeD (kvs more : List (Key × D)) : List (Key × D) := more.foldl (fun acc kv => putD acc kv.1 kv.2) kvs
section
variable {K : PySem.W.Frag} {H : Hp} {μ : List Addr}
theorem key_rep {d : D} {k : Key} {v : V} (h : keyD d = some k) (r : Rep K H μ d v) : v = kV k := by
  cases d <;> simp [keyD] at h <;> subst h <;> exact r
theorem okv_nil {gs : List (Key × V)} (h : OKv K H μ [] gs) : gs = [] := by
  have := h.1
  cases gs with
  | nil => rfl
  | cons g gs => simp at this
theorem okv_cons {p : Key × D} {kvs : List (Key × D)} {gs : List (Key × V)} (h : OKv K H μ (p :: kvs) gs) : ∃ v gs', gs = (p.1, v) :: gs' ∧ Rep K H μ p.2 v ∧ OKv K H μ kvs gs' := by
  obtain ⟨h1, v, r, h2, h3, h4⟩ := h
  cases gs with
  | nil => simp at h1
  | cons g gs =>
    simp only [List.map_cons, List.cons.injEq] at h1 h2
    obtain ⟨gk, gv⟩ := g
    obtain ⟨e1, e2⟩ := h1
    obtain ⟨e3, e4⟩ := h2
    dsimp only at e1 e3
    subst e1 e3
    exact ⟨gv, gs, rfl, h3, e2, by rw [e4]; exact h4⟩
theorem okv_mk {p : Key × D} {kvs : List (Key × D)} {gs : List (Key × V)} {v : V} (r : Rep K H μ p.2 v) (h : OKv K H μ kvs gs) : OKv K H μ (p :: kvs) ((p.1, v) :: gs) :=
  ⟨by simp [h.1], v, gs.map (·.2), rfl, r, h.2⟩
theorem okv_app {kvs kvs' : List (Key × D)} {gs gs' : List (Key × V)} (h : OKv K H μ kvs gs) (h' : OKv K H μ kvs' gs') : OKv K H μ (kvs ++ kvs') (gs ++ gs') := by
  refine ⟨by simp [h.1, h'.1], ?_⟩
  simp only [List.map_append]
  exact h.2.append h'.2
theorem okv_val {k : Key} : ∀ {kvs : List (Key × D)} {gs : List (Key × V)}, OKv K H μ kvs gs → (valD kvs k = none ∧ valV gs k = none) ∨ ∃ d v, valD kvs k = some d ∧ valV gs k = some v ∧ Rep K H μ d v
  | [], gs, h => by rw [okv_nil h]; exact .inl ⟨rfl, rfl⟩
  | p :: kvs, gs, h => by
    obtain ⟨v, gs', rfl, r, h'⟩ := okv_cons h
    by_cases e : p.1 = k
    · exact .inr ⟨p.2, v, by simp [valD, e], by simp [valV, e], r⟩
    · rcases okv_val (k := k) h' with ⟨h1, h2⟩ | ⟨d, u, h1, h2, h3⟩
      · exact .inl ⟨by simpa [valD, e] using h1, by simpa [valV, e] using h2⟩
      · exact .inr ⟨d, u, by simpa [valD, e] using h1, by simpa [valV, e] using h2, h3⟩
theorem okv_any {k : Key} : ∀ {kvs : List (Key × D)} {gs : List (Key × V)}, OKv K H μ kvs gs → (kvs.any fun kv => decide (kv.1 = k)) = gs.any fun kv => decide (kv.1 = k)
  | [], gs, h => by rw [okv_nil h]; rfl
  | p :: kvs, gs, h => by
    obtain ⟨v, gs', rfl, r, h'⟩ := okv_cons h
    simp only [List.any_cons, okv_any (k := k) h']
theorem okv_upd {k : Key} {d : D} {v : V} (r : Rep K H μ d v) : ∀ {kvs : List (Key × D)} {gs : List (Key × V)}, OKv K H μ kvs gs → OKv K H μ (kvs.map fun kv => if kv.1 = k then (kv.1, d) else kv) (gs.map fun kv => if kv.1 = k then (kv.1, v) else kv)
  | [], gs, h => by rw [okv_nil h]; exact ⟨rfl, rfl⟩
  | p :: kvs, gs, h => by
    obtain ⟨u, gs', rfl, ru, h'⟩ := okv_cons h
    have ih := okv_upd (k := k) r h'
    simp only [List.map_cons]
    by_cases e : p.1 = k
    · rw [if_pos e, if_pos e]
      exact okv_mk (p := (p.1, d)) r ih
    · rw [if_neg e, if_neg e]
      exact okv_mk ru ih
theorem okv_put {k : Key} {d : D} {v : V} (r : Rep K H μ d v) {kvs : List (Key × D)} {gs : List (Key × V)} (h : OKv K H μ kvs gs) : OKv K H μ (putD kvs k d) (putK gs k v) := by
  unfold putD putK
  rw [okv_any h]
  split
  · exact okv_upd r h
  · exact okv_app h (okv_mk (p := (k, d)) r ⟨rfl, rfl⟩)
theorem okv_merge : ∀ {more : List (Key × D)} {ms : List (Key × V)} {kvs : List (Key × D)} {gs : List (Key × V)}, OKv K H μ more ms → OKv K H μ kvs gs → OKv K H μ (mergeD kvs more) (mergeK gs ms)
  | [], ms, kvs, gs, h, g => by rw [okv_nil h]; exact g
  | p :: more, ms, kvs, gs, h, g => by
    obtain ⟨v, ms', rfl, r, h'⟩ := okv_cons h
    show OKv K H μ (mergeD (putD kvs p.1 p.2) more) (mergeK (putK gs p.1 v) ms')
    exact okv_merge (more := more) h' (okv_put r g)
theorem okv_len {kvs : List (Key × D)} {gs : List (Key × V)} (h : OKv K H μ kvs gs) : kvs.length = gs.length := by
  have := congrArg List.length h.1
  simpa using this
end
section
variable {X : Cx} {W : WX} {a b o i e : Expr} {keys : List (Option Expr)} {values : List Expr} {ta tb td ti : DTE} {pos : Pos}
/-- d[k] -/
def dDGet (td ti : DTE) : DTE := fun ρ st Q Z => td ρ st (fun x st1 => ti ρ st1 (fun y st2 => ∃ n kvs k v, x = .loc n ∧ st2[n]? = some (.dK kvs) ∧ keyD y = some k ∧ valD kvs k = some v ∧ Q v st2) Z) Z
theorem de_dget (hu : X.A.units + 1 < cLine) (ho : DE X W o td) (hi : DE X W i ti) (hs : NoSl i := by intro _ _; rfl) : DE X W (.Subscript o i pos) (dDGet td ti) := pe_weak (pe_dget hu ho hi hs) fun σ H Q ⟨ρ, st, μ, Qd, Z, hS, ht, hQ, hZ⟩ =>
  ⟨ρ, st, μ, _, Z, hS, ht, fun x st1 H1 μ1 v hx e1 s1 rv => ⟨ρ, st1, μ1, _, Z, hS.mono e1 s1, hx, fun y st2 H2 μ2 u hy e2 s2 ru => by
    obtain ⟨n, kvs, k, d, rfl, hn, hk, hv, q⟩ := hy
    obtain ⟨a, rfl, ha⟩ := rv.mono e2
    obtain ⟨a', ob, q1, q2, gs, rfl, okv⟩ := s2.at' _ _ hn
    rw [ha] at q1; cases q1
    rcases okv_val (k := k) okv with ⟨h1, _⟩ | ⟨d', w, h1, h2, r⟩
    · rw [h1] at hv; cases hv
    · rw [h1] at hv; cases hv
      refine ⟨a, w, rfl, ?_, hQ _ _ _ _ _ q (e1.trans e2) s2 r⟩
      have := DGet.k (k := k) q2
      rw [h2] at this
      rw [key_rep hk ru]
      exact this, hZ.mono e1⟩, hZ⟩
/-- {k: v, ..} -/
def dPairs : List (DTE × DTE) → Env' → Sto → (List (D × D) → Sto → Prop) → DZ → Prop
  | [], _, st, Q, _ => Q [] st
  | (tk, tv) :: r, ρ, st, Q, Z => tk ρ st (fun x st1 => tv ρ st1 (fun y st2 => dPairs r ρ st2 (fun ps st3 => Q ((x, y) :: ps) st3) Z) Z) Z
inductive DPs (X : Cx) (W : WX) : List (Option Expr) → List Expr → List (DTE × DTE) → Prop where
  | nil : DPs X W [] [] []
  | cons {k v : Expr} {ks : List (Option Expr)} {vs : List Expr} {tk tv : DTE} {ts : List (DTE × DTE)} (hk : DE X W k tk) (hv : DE X W v tv) (r : DPs X W ks vs ts) : DPs X W (some k :: ks) (v :: vs) ((tk, tv) :: ts)
theorem DPs.pps {ts : List (DTE × DTE)} (h : DPs X W keys values ts) : PPs X pos keys values (ts.map fun p => (liftE X.K W p.1, liftE X.K W p.2)) := by
  induction h with
  | nil => exact pps_nil
  | cons hk hv r ih => exact pps_cons hk hv ih
/-- pairs as they are told -/
def Pairs (K : PySem.W.Frag) (H : Hp) (μ : List Addr) : List (D × D) → List (V × V) → Prop
  | [], ps => ps = []
  | p :: ds, ps => ∃ q r, ps = q :: r ∧ Rep K H μ p.1 q.1 ∧ Rep K H μ p.2 q.2 ∧ Pairs K H μ ds r
theorem pairs_lift {K : PySem.W.Frag} {ρ : Env'} {Z : DZ} {σ : St} : ∀ {ts : List (DTE × DTE)} {Qd : List (D × D) → Sto → Prop} {Q : List (V × V) → Hp → Prop} {st : Sto} {H : Hp} {μ : List Addr}, Stt K ρ st μ σ H → dPairs ts ρ st Qd Z →
    (∀ ps st' H' μ' vs, Qd ps st' → Ext H H' μ μ' → SRep K st' μ' H' → Pairs K H' μ' ps vs → Q vs H') → ZOk K W Z H μ → tPairs (ts.map fun p => (liftE K W p.1, liftE K W p.2)) σ H Q
  | [], Qd, Q, st, H, μ, hS, h, hQ, hZ => hQ _ _ _ _ _ h (Ext.refl _ _) hS.s rfl
  | (tk, tv) :: ts, Qd, Q, st, H, μ, hS, h, hQ, hZ => ⟨ρ, st, μ, _, Z, hS, h, fun x st1 H1 μ1 v hx e1 s1 rv => ⟨ρ, st1, μ1, _, Z, hS.mono e1 s1, hx, fun y st2 H2 μ2 u hy e2 s2 ru =>
    pairs_lift (hS.mono (e1.trans e2) s2) hy (fun ps st' H' μ' vs q e3 s3 rp => hQ _ _ _ _ _ q ((e1.trans e2).trans e3) s3 ⟨(v, u), vs, rfl, (rv.mono e2).mono e3, ru.mono e3, rp⟩) (hZ.mono (e1.trans e2)), hZ.mono e1⟩, hZ⟩
theorem pairs_kv {K : PySem.W.Frag} {H : Hp} {μ : List Addr} : ∀ {ps : List (D × D)} {vs : List (V × V)} {kvs : List (Key × D)}, Pairs K H μ ps vs → ps.map (fun p => (keyD p.1, p.2)) = kvs.map (fun p => (some p.1, p.2)) →
    ∃ gs : List (Key × V), vs = gs.map (fun kv => (kV kv.1, kv.2)) ∧ OKv K H μ kvs gs
  | [], vs, kvs, h, e => by
    cases kvs with
    | nil => rw [show vs = [] from h]; exact ⟨[], rfl, rfl, rfl⟩
    | cons p kvs => simp at e
  | p :: ps, vs, kvs, h, e => by
    obtain ⟨q, r, rfl, h1, h2, h3⟩ := h
    cases kvs with
    | nil => simp at e
    | cons g kvs =>
      obtain ⟨gk, gv⟩ := g
      simp only [List.map_cons, List.cons.injEq, Prod.mk.injEq] at e
      obtain ⟨⟨e1, e2⟩, e3⟩ := e
      obtain ⟨gs, rfl, hg⟩ := pairs_kv h3 e3
      obtain ⟨qk, qv⟩ := q
      refine ⟨(gk, qv) :: gs, ?_, okv_mk (p := (gk, gv)) (by rw [← e2]; exact h2) hg⟩
      dsimp only at h1
      rw [key_rep e1 h1]
      rfl
def dDisp (ts : List (DTE × DTE)) : DTE := fun ρ st Q Z => dPairs ts ρ (st ++ [.dK []]) (fun ps st1 => st1[st.length]? = some (.dK []) ∧ ∃ kvs : List (Key × D), ps.map (fun p => (keyD p.1, p.2)) = kvs.map (fun p => (some p.1, p.2)) ∧ kvs.length ≤ 15 ∧
  Q (.loc st.length) (st1.set st.length (.dK (mergeD [] kvs)))) Z
theorem de_disp {ts : List (DTE × DTE)} (h : DPs X W keys values ts) (hall : keys.all (·.isSome) = true := by rfl) (hl : keys.length = values.length := by rfl) (h0 : keys ≠ [] := by exact fun z => nomatch z) (h15 : keys.length ≤ 15 := by decide) :
    DE X W (.Dict keys values pos) (dDisp ts) := pe_weak (pe_disp h.pps hall hl h0 h15) fun σ H Q ⟨ρ, st, μ, Qd, Z, hS, ht, hQ, hZ⟩ p hp => by
  have x0 := Ext.push (μ := μ) (o := .dK []) hp
  have s0 := hS.s.push (o := .dK []) (b := .dK []) hp ⟨[], rfl, rfl, rfl⟩
  refine pairs_lift (hS.mono x0 s0) ht (fun ps st1 H1 μ1 vs hq e1 s1 rp => ?_) (hZ.mono x0)
  obtain ⟨hat, kvs, hk, h15', q⟩ := hq
  have hp1 : μ1[st.length]? = some p := e1.pre _ _ (by rw [hS.s.len]; exact getElem?_end _ _)
  obtain ⟨a, ob, q1, q2, gs0, rfl, okv⟩ := s1.at' _ _ hat
  rw [hp1] at q1; cases q1
  rw [okv_nil okv] at q2
  obtain ⟨gs, rfl, hg⟩ := pairs_kv rp hk
  refine ⟨q2, gs, rfl, by rw [← okv_len hg]; exact h15', ?_⟩
  have w := s1.write (o' := .dK (mergeK [] gs)) (b := .dK (mergeD [] kvs)) hp1 q2 ⟨_, rfl, okv_merge hg ⟨rfl, rfl⟩⟩
  exact hQ _ _ _ _ _ q ((x0.trans e1).trans w.1) w.2 ⟨p, rfl, hp1⟩
end
end DL
namespace DL
open PySem L2 PySem.Spec
open PyProof.Rows hiding St
section
variable {ρ : Env'} {st : Sto} {Q : DK} {Z : DZ} {d x y z : D} {ds es : List D} {te ta tb tc td ti : DTE}
@[simp] theorem s_str0 {f : Str → Bool} {a : Str} : dStr0 f (.str a) [] st Q = Q (.bl (f a)) st := rfl
@[simp] theorem s_str1 {f : Str → Str → Bool} {a b : Str} : dStr1 f (.str a) [.str b] st Q = Q (.bl (f a b)) st := rfl
@[simp] theorem s_split {a b : Str} : dSplit (.str a) [.str b] st Q = ((b.length == 0) = false ∧ a.length + 2 ≤ sizeLine ∧ Q (.loc st.length) (st ++ [.lst ((Txt.split a b).map .str)])) := rfl
@[simp] theorem s_join {a : Str} : dJoin (.str a) [d] st Q = ∃ ys : List Str, itemsD st d = some (ys.map .str) ∧ (ys.map (·.length)).sum + ys.length * a.length ≤ 16777216 ∧ Q (.str (Txt.join a ys)) st := rfl
@[simp] theorem s_extendA {n : Nat} : dExtendA (.loc n) [d] st Q = ∃ es fs, st[n]? = some (.lst es) ∧ (d = .tup fs ∨ ∃ m, d = .loc m ∧ st[m]? = some (.lst fs)) ∧ es.length + fs.length ≤ sizeLine ∧ Q .non (st.set n (.lst (es ++ fs))) := rfl
@[simp] theorem s_tyD_str {T : String} {a : Str} : tyD st T (.str a) = (T = "str") := rfl
@[simp] theorem s_intS {a : Str} : dIntS [.str a] st Q = ∃ n, PySem.intText? a = some n ∧ a.length ≤ 640 ∧ Q (.int n) st := rfl
@[simp] theorem s_strI {i : Int} : dStrI [.int i] st Q = (i.natAbs.log2 < 1920 ∧ Q (.str (toString i)) st) := rfl
@[simp] theorem s_maxT : dMaxT [.tup es] st Q = ∃ ns : List Int, es = ns.map .int ∧ 0 < ns.length ∧ ∀ m, m ∈ ns → (∀ y ∈ ns, y ≤ m) → Q (.int m) st := rfl
@[simp] theorem s_fmt : dFmt te ρ st Q Z = te ρ st (fun x st1 => match x with
  | .str y => y.length ≤ sizeLine ∧ Q (.str y) st1
  | .int i => i.natAbs.log2 < 1920 ∧ Q (.str (toString i)) st1
  | _ => False) Z := rfl
@[simp] theorem s_joined {ts : List DTE} : dJoined ts ρ st Q Z = dJs ts Str.empty ρ st (fun out st1 => Q (.str out) st1) Z := rfl
@[simp] theorem s_js0 {acc : Str} {QS : Str → Sto → Prop} : dJs [] acc ρ st QS Z = QS acc st := rfl
@[simp] theorem s_js {t : DTE} {ts : List DTE} {acc : Str} {QS : Str → Sto → Prop} : dJs (t :: ts) acc ρ st QS Z = t ρ st (fun x st1 => match x with | .str y => (acc ++ y).length ≤ sizeLine ∧ dJs ts (acc ++ y) ρ st1 QS Z | _ => False) Z := rfl
@[simp] theorem s_aug {i : Nat} {dr : D2} {E : DEnds} : dAug i te dr E ρ st = (match ρ[i]? with
  | some (some x) => te ρ st (fun y st1 => dr x y st1 fun z st2 => E.nx (ρ.set i (some z)) st2) E.xs
  | _ => False) := rfl
@[simp] theorem s_walk_str {z : Str} {QI : List D → (Sto → Prop) → Prop} : walkD st (.str z) QI = QI (strItems z) fun _ => True := rfl
@[simp] theorem s_slv_str {z : Str} {l u : Option Int} : dSlV (.str z) l u st Q = (z.length ≤ sizeLine ∧ Q (.str (cutS z l u)) st) := rfl
@[simp] theorem s_tru_str {z : Str} {Qb : Bool → Prop} : truD st (.str z) Qb = (z.length ≤ sizeLine ∧ Qb ((z.length : Int) != 0)) := rfl
end
end DL
namespace RD
open PySem L2 PySem.Spec DL
open PyProof.Rows hiding St
abbrev N_is_name : List Str := ["thing"]
def t_is_name : DTS := (dSeq (dIfS (dOr (dNot (dTru (dIsi (dVar 0) ["str"]))) (dTest (dOp dGt (dCB dLen (dCons (dVar 0) dNil)) (dC (.int 12))))) (dRet (dC (.bl false))) dNext)
    (dRet (dAndV (dBM "str" (dStr0 Txt.isascii) (dVar 0) dNil) (dAndV (dBM "str" (dStr0 Txt.isalpha) (dVar 0) dNil) (dBM "str" (dStr0 Txt.islower) (dVar 0) dNil)))))
abbrev N_is_release : List Str := ["thing"]
def t_is_release (s_is_version : DSp) : DTS := (dRet (dAndV (dCall 1 s_is_version (dCons (dVar 0) dNil)) (dOp dLe (dCB dMaxT (dCons (dVar 0) dNil)) (dC (.int 999999)))))
abbrev N_told_number : List Str := ["digits", "text"]
def t_told_number : DTS := (dSeq (dIfS (dOr (dTest (dOp dGt (dCB dLen (dCons (dVar 1) dNil)) (dVar 0))) (dOr (dNot (dTru (dBM "str" (dStr0 Txt.isascii) (dVar 1) dNil))) (dNot (dTru (dBM "str" (dStr0 Txt.isdigit) (dVar 1) dNil))))) (dRet (dC (.non))) dNext)
    (dSeq (dIfS (dAnd (dTest (dOp dNe (dVar 1) (dC (.str "0")))) (dTru (dBM "str" (dStr1 Txt.startswith) (dVar 1) (dCons (dC (.str "0")) dNil)))) (dRet (dC (.non))) dNext)
    (dRet (dCB dIntS (dCons (dVar 1) dNil)))))
abbrev N_told_version : List Str := ["text", "numbers", "word"]
def e_told_version_1 (s_is_version : DSp) (s_told_number : DSp) : DTE := (dCall 2 s_told_number (dCons (dC (.int 7)) (dCons (dVar 2) dNil)))
def t_told_version (s_is_version : DSp) (s_told_number : DSp) : DTS := (dSeq (dAsg (dCB dTupOf (dCons (dLc (iD (dBM "str" dSplit (dVar 0) (dCons (dC (.str ".")) dNil))) (gN 2) dYes (e_told_version_1 s_is_version s_told_number) [2]) dNil)) (gN 1))
    (dSeq (dIfS (dNot (dTru (dCall 1 s_is_version (dCons (dVar 1) dNil)))) (dRet (dC (.non))) dNext)
    (dRet (dVar 1))))
abbrev N_text_of : List Str := ["lines", "line"]
def e_text_of_1 : DTE := (dJoined [(dFmt (dVar 1)), (dC (.str "\n"))])
def t_text_of : DTS := (dRet (dBM "str" dJoin (dC (.str "")) (dCons (dLc (iD (dVar 0)) (gN 1) dYes (e_text_of_1) [1]) dNil)))
end RD
set_option maxHeartbeats 4000000
namespace L2
open PySem PySem.Spec PyProof.Rows
end L2
namespace DL
open PySem L2 PySem.Spec
open PyProof.Rows hiding St
class ErrCtx where
  A : Nat → Addr
def errA [EC : ErrCtx] (m : Nat) : Addr := EC.A m
def errX [EC : ErrCtx] (m : Nat) (fs : List (Str × D)) : DX := ⟨.ref (errA m), fs⟩
def spI1 (C : Addr) (f : Str) : Sp := fun vs H Q _ => ∃ (a : Addr) (y : V), vs = [.ref a, y] ∧ H a = some (exo a C none) ∧ ∀ dx, H dx = none → dx ≠ a → Q .non (upd (upd H dx (exd dx [(f, y)])) a (exo a C (some dx)))
/-- a statement within a class -/
def mthS (s : Stmt) (j : Nat) : Stmt := match s with
  | .ClassDef _ _ _ b _ _ _ _ _ _ _ => b.getD j (.Pass ⟨0, 0, 0, 0⟩)
  | _ => .Pass ⟨0, 0, 0, 0⟩
section
variable {P : Program} {w : World} {K : PySem.W.Frag} {mg : Str → Option Value} {base : Heap} {k : Nat} {s : Stmt} {f : Addr} {fd : FuncData} {qual fld : Str} {C : Addr}
theorem init1_ok {p1 p2 p3 p4 : Pos} (F : Fun K "__init__" qual s f fd) (S : FnScope ["self", fld] ["self", fld] (defScope s)) (hb : defBody s = [.Assign [.Attribute (.Name "self" p1) fld p2] (.Name fld p3) p4]) (T : OexC K C) (hno : PySem.W.findIn K (.ref C) fld = some none)
    (hd : (fld == ("__debug__" : Str)) = false) (hcd : (fld == ("__classdict__" : Str)) = false)
    (hv0 : Vis (defScope s) "self") (hv1 : Vis (defScope s) fld)
    (hs : ∀ env : Env, swapsWith (.Name fld p3) (some (.Attribute (.Name "self" p1) fld p2)) p4.line env = pure false) :
    FnOk P w K mg base (L2.CX P w) (k + 1) f fd ["self", fld] (spI1 C fld) := by
  refine F.okX S (fun vs H Q E h => by obtain ⟨a, y, rfl, _⟩ := h; rfl) (fun cdv A outer s0 H vs Q E hr h => ⟨tOst K fld (tVar 0) (tVar 1), ?_, ?_⟩)
  · rw [hb]
    exact pss_one (ps_ost (pe_var rfl hv0 (by decide) (by decide)) (pe_var rfl hv1 hd hcd) (hs _))
  · obtain ⟨a, y, rfl, ha, q⟩ := h
    refine ⟨y, rfl, .ref a, rfl, a, C, rfl, T, hno, .inl ⟨ha, q⟩⟩
end
/-- an error's class, made with one thing -/
structure Er1 [EC : ErrCtx] (P : Program) (w : World) (K : PySem.W.Frag) (mg : Str → Option Value) (base : Heap) (m : Nat) (x f : Str) : Prop where
  g : mg x = some (.ref (errA m))
  T : OexC K (errA m)
  i : ∃ fI fd, PySem.W.findIn K (.ref (errA m)) "__init__" = some (some (.ref fI)) ∧ PySem.W.typeIn K (.ref fI) = some (.type "function") ∧ FnOk P w K mg base (L2.CX P w) 1 fI fd ["self", f] (spI1 (errA m) f) ∧ Binds K fd ["self", f] []
section
variable [TC : TabCtx] [EC : ErrCtx] {X : Cx} {W : WX} {e : Expr} {es : List Expr} {te : DTE} {pos p pos2 : Pos} {x f : Str} {m k : Nat}
theorem passes0 {X : Cx} : Passes (L2.CX X.prog X.w) X (fun _ _ _ => False) := fun _ _ _ _ _ _ _ h => by
  obtain ⟨_, _, _, _, _, _, _, _, _, _, _, _, z⟩ := h
  exact z.elim
/-- raise X(e) -/
def dRaise1 (m : Nat) (f : Str) (te : DTE) : DTS := fun E ρ st => te ρ st (fun y st1 => E.xs (errX m [(f, y)]) ρ st1) E.xs
def dRaise0 (m : Nat) : DTS := fun E ρ st => E.xs (errX m []) ρ st
theorem ds_raise1 (hc : X.calm = true) (tk : Takes X W) (R : Er1 X.prog X.w X.K X.mg X.base m x f) (hr : Room k X.A) (hk : 2 ≤ k) (hg : Gl X x) (ha : DE X W e te)
    (hdb : (x == ("__debug__" : Str)) = false := by decide) (hs : starEach [e] X.env = (false, eval e X.env) :: starEach [] X.env := by rfl) (hpl : (backTo pos (starEach [] X.env)).any (·.1) = false := by rfl) :
    DS X W (.Raise (some (.Call (.Name x p) [e] [] pos)) none pos2) (dRaise1 m f te) := by
  obtain ⟨g, T, fI, fd, i1, i2, F, hb⟩ := R
  refine ps_weak (ps_raise hc tk (pmk_oex (ds := []) (dvs := []) T i1 i2 F (hr.mono hk) hb .nil passes0 hg g (da_cons ha da_nil hs) hdb hs hpl)) fun D σ H ⟨ρ, st, μ, DD, hS, ht, hO⟩ => ?_
  refine ⟨ρ, st, μ, fun ds st1 => ∃ y, ds = [y] ∧ DD.xs (errX m [(f, y)]) ρ st1, _, hS, ?_, fun ds st1 H1 μ1 vs hx e1 s1 rv => ?_, hO.xs⟩
  · show te ρ st _ _
    have : (fun x st1 => dNil ρ st1 (fun xs st2 => ∃ y, x :: xs = [y] ∧ DD.xs (errX m [(f, y)]) ρ st2) DD.xs) = fun y st1 => DD.xs (errX m [(f, y)]) ρ st1 := by
      funext y st1
      apply propext
      constructor
      · rintro ⟨z, e, h⟩
        cases e
        exact h
      · intro h
        exact ⟨y, rfl, h⟩
    rw [this]
    exact ht
  · obtain ⟨y, rfl, hx⟩ := hx
    obtain ⟨v, r, rfl, rv1, rfl⟩ := rv
    refine ⟨by show 1 ≤ 1000; decide, fun a ha => ⟨a, v, rfl, upd_same, fun dx hdx hne => ⟨rfl, dx, [(f, v)], upd_same, ?_, ?_, ?_⟩⟩⟩
    · rw [upd_ne hne, upd_same]
    · rw [upd_ne hne] at hdx
      exact hdx
    · rw [upd_ne hne] at hdx
      have eH : upd (del (upd (upd (upd H1 a (exo a (errA m) none)) dx (exd dx [(f, v)])) a (exo a (errA m) (some dx))) a) dx (.xd [(f, v)]) = upd H1 dx (.xd [(f, v)]) := by
        funext b
        by_cases hb : b = dx
        · rw [hb, upd_same, upd_same]
        · rw [upd_ne hb, upd_ne hb]
          by_cases hba : b = a
          · rw [hba, del_same, ha]
          · rw [del_ne hba, upd_ne hba, upd_ne hb, upd_ne hba]
      rw [eH]
      have e2 := Ext.laid (μ := μ1) (o := .xd [(f, v)]) hdx
      exact hO.xs _ _ _ σ _ μ1 _ _ hx (e1.trans e2) ⟨(hS.e.mono e1).mono e2, s1.laid hdx⟩ ⟨rfl, .inr ⟨dx, [(f, v)], rfl, upd_same, rfl, (Reps.one rv1).mono e2⟩⟩
end
/-- what a suite knows beside -/
abbrev tcx (TC : TabCtx) (d : Option Addr) (fs : List (Str × D)) : TabCtx := ⟨TC.T, match d with | some dd => (dd, fs) :: TC.xs | none => TC.xs⟩
def Caught [EC : ErrCtx] (ms : List Nat) (x : DX) : Prop := ∃ m ∈ ms, x.cls = .ref (errA m)
section
variable {TC : TabCtx} {K : PySem.W.Frag} {H : Hp} {μ : List Addr} {st : Sto} {d : Option Addr} {fs : List (Str × D)}
theorem SRep.drop (s : @SRep (tcx TC d fs) K st μ H) : @SRep TC K st μ H := by
  obtain ⟨h1, h2, h3, h4, h5⟩ := s
  refine @SRep.mk TC K st μ H h1 h2 h3 h4 fun p hp => h5 p ?_
  cases d with
  | none => exact hp
  | some dd => exact List.mem_cons_of_mem _ hp
theorem SRep.no_xd (s : @SRep TC K st μ H) {a : Addr} {gs : List (Str × V)} (h : H a = some (.xd gs)) : a ∉ μ := fun hm => by
  obtain ⟨n, b, o, _, _, ho, r⟩ := s.mem hm
  rw [h] at ho
  cases ho
  cases b with
  | lst ds => obtain ⟨vs, z, _⟩ := r; cases z
  | ins C fs => obtain ⟨dx, gs, z, _⟩ := r; cases z
  | dK fs => obtain ⟨gs, z, _⟩ := r; cases z
  | err e C d => have z : HO.xd _ = HO.ext _ := r; cases z
  | xdt dx fs => obtain ⟨gs, z, _⟩ := r; have z' : HO.xd _ = HO.ext _ := z; cases z'
  | dkF od fs => obtain ⟨gs, z, _⟩ := r; cases z
theorem SRep.hold (s : @SRep TC K st μ H) (h : ∀ dd, d = some dd → ∃ gs, H dd = some (.xd gs) ∧ OFs K H μ fs gs) : @SRep (tcx TC d fs) K st μ H := by
  have hno := fun (a : Addr) gs h => SRep.no_xd (a := a) (gs := gs) s h
  obtain ⟨h1, h2, h3, h4, h5⟩ := s
  refine @SRep.mk (tcx TC d fs) K st μ H h1 h2 h3 h4 fun p hp => ?_
  cases d with
  | none => exact h5 p hp
  | some dd =>
    rcases List.mem_cons.mp (show p ∈ (dd, fs) :: TC.xs from hp) with e | hp
    · obtain ⟨gs, e1, e2⟩ := h dd rfl
      rw [e]
      exact ⟨hno _ _ e1, gs, e1, e2⟩
    · exact h5 p hp
theorem OFs.lookup {fs : List (Str × D)} {gs : List (Str × V)} {n : Str} {y : D} : OFs K H μ fs gs → fs.lookup n = some y → ∃ v, gs.lookup n = some v ∧ Rep K H μ y v := by
  induction fs generalizing gs with
  | nil => intro _ h; cases h
  | cons p fs ih =>
    rintro ⟨h1, h2⟩ hl
    cases gs with
    | nil => cases h1
    | cons q gs =>
      obtain ⟨pn, pd⟩ := p
      obtain ⟨qn, qv⟩ := q
      simp only [List.map_cons, List.cons.injEq] at h1
      obtain ⟨v, r, e, r1, r2⟩ := h2
      simp only [List.map_cons, List.cons.injEq] at e
      obtain ⟨rfl, rfl⟩ := e
      obtain ⟨rfl, h1⟩ := h1
      by_cases e : n = pn
      · subst e
        simp [List.lookup] at hl ⊢
        subst hl
        exact r1
      · have e' : (n == pn) = false := by simpa using e
        simp only [List.lookup, e'] at hl ⊢
        exact ih ⟨h1, r2⟩ hl
end
section
variable [TC : TabCtx] [EC : ErrCtx] {X : Cx} {W : WX} {body suite : List Stmt} {b₀ : Stmt} {np pos pos' : Pos} {x n : Str} {i m : Nat} {ms : List Nat} {tb : DTS} {ts : Addr → DX → DTS}
/-- try: body, except C as n: suite -/
def dTryAs (ms : List Nat) (i : Nat) (tb : DTS) (ts : Addr → DX → DTS) : DTS := fun E ρ st => tb { E with xs := fun x ρ1 st1 => Caught ms x ∧ ∀ a, ts a x { nx := fun ρ2 st2 => E.nx (ρ2.set i none) st2, rt := E.rt, bk := fun ρ2 st2 => E.bk (ρ2.set i none) st2, ct := fun ρ2 st2 => E.ct (ρ2.set i none) st2 } (ρ1.set i (some (.adr a))) st1 } ρ st
/-- try: body, except C: suite -/
def dTryOnly (ms : List Nat) (tb : DTS) (ts : Addr → DX → DTS) : DTS := fun E ρ st => tb { E with xs := fun x ρ1 st1 => Caught ms x ∧ ∀ a, ts a x { nx := E.nx, rt := E.rt, bk := E.bk, ct := E.ct } ρ1 st1 } ρ st
theorem ds_try_as (hs : X.stack = X.env :: X.outer) (hf : X.env.frame = some X.env.locals) (hN : X.N.Nodup) (hi : X.N[i]? = some n) (hln : X.env.kindOf n = some .local) (hc : Names X x (.ref (errA m))) (tk : Takes X W)
    (hm : ∀ q ∈ ms, PySem.W.exmOne X.K (.ref (errA q)) (.ref (errA m)) = some true)
    (hb : ∀ (W : WX) (pn : List (Addr × Obj)) (xe : Value → Shared → Prop), Takes (X.tr pn xe) W → PassesOwn (model X.prog X.w) X.A X.env xe → DSs (X.tr pn xe) W body tb)
    (hsu : ∀ (TC' : TabCtx) (a : Addr) (oe : Obj) (x : DX) (d : Option Addr) (pn : List (Addr × Obj)), (∀ dd, d = some dd → (dd, x.fs) ∈ TC'.xs) → Zc x.cls d oe → (∃ vs, oe.data = .fields vs) → (d = none → x.fs = []) → @DSs TC' (X.suite a ((a, oe) :: pn)) W0 (b₀ :: suite) (ts a x)) :
    DS X W (.Try body [.ExceptHandler (some (.Name x np)) (some n) (b₀ :: suite) pos'] [] [] pos) (dTryAs ms i tb ts) := by
  refine ps_weak (ps_try_as (tb := fun W => liftS X.K W tb) (ts := fun a cls d D σ H => ∃ x : DX, cls = x.cls ∧ (d = none → x.fs = []) ∧ @liftS (tcx TC d x.fs) X.K W0 (ts a x) D σ H) (Wout := W) hs hf hN hi hln hc tk (fun W pn xe tk pw => hb W pn xe tk pw) fun a oe cls d pn hz hv => ?_) fun D σ H ⟨ρ, st, μ, DD, hS, ht, hO⟩ => ?_
  · exact ⟨fun pins s σ H D I ⟨x, ec, hd, h⟩ => (hsu (tcx TC d x.fs) a oe x d pn (fun dd e => by subst e; exact List.mem_cons_self) (ec ▸ hz) hv hd).run pins s σ H D I h⟩
  · refine ⟨ρ, st, μ, _, hS, ht, hO.nx, hO.rt, hO.bk, hO.ct, ?_⟩
    rintro x ρ1 st1 σ1 H1 μ1 c dx ⟨⟨q, hq, ec⟩, hx⟩ e1 hS1 ⟨rc, rx⟩
    refine ⟨true, by rw [rc, ec]; exact hm q hq, fun _ a ha => ⟨x, rc, ?_, ?_⟩, fun z => nomatch z⟩
    · intro hd
      rcases rx with ⟨_, h⟩ | ⟨dd, gs, h, _⟩
      · exact h
      · rw [hd] at h; cases h
    · have sh : @SRep (tcx TC dx x.fs) X.K st1 μ1 H1 := hS1.s.hold fun dd hd => by
        rcases rx with ⟨h, _⟩ | ⟨d2, gs, h, h1, h2⟩
        · rw [hd] at h; cases h
        · rw [hd] at h; cases h
          exact ⟨gs, h1, h2⟩
      have back : ∀ {st' : Sto} {H' : Hp} {μ' : List Addr} {ρ' : Env'} {σ' : St}, @Stt (tcx TC dx x.fs) X.K ρ' st' μ' σ' H' → Stt X.K (ρ'.set i none) st' μ' (σ'.set i none) H' := fun z => by
        obtain ⟨z1, z2⟩ := z
        exact ⟨z1.unset i, z2.drop⟩
      have hS2 : @Stt (tcx TC dx x.fs) X.K (ρ1.set i (some (.adr a))) st1 μ1 (σ1.set i (some (.ref a))) H1 := @Stt.mk (tcx TC dx x.fs) _ _ _ _ _ _ (hS1.e.set i (show Rep X.K H1 μ1 (.adr a) (.ref a) from rfl)) sh
      refine ⟨ρ1.set i (some (.adr a)), st1, μ1, _, hS2, hx a, @SOk.mk (tcx TC dx x.fs) _ _ _ _ _ _ ?_ ?_ ?_ ?_ (fun _ _ _ _ _ _ _ _ (z : False) => z.elim)⟩
      · exact fun ρ2 st2 σ2 H2 μ2 q e2 s2 => hO.nx _ _ _ _ _ q (e1.trans e2) (back s2)
      · exact fun y st2 H2 μ2 v q e2 s2 r => hO.rt _ _ _ _ _ q (e1.trans e2) s2.drop r
      · exact fun ρ2 st2 σ2 H2 μ2 q e2 s2 => hO.bk _ _ _ _ _ q (e1.trans e2) (back s2)
      · exact fun ρ2 st2 σ2 H2 μ2 q e2 s2 => hO.ct _ _ _ _ _ q (e1.trans e2) (back s2)
end
end DL
namespace L2
open PySem PySem.Spec PyProof.Rows
/-- isinstance(e, c), e the exception that the suite holds, its dict told -/
theorem call_isEd {X : Cx} {a D : Addr} {oe : Obj} {pn : List (Addr × Obj)} {d : Option Addr} (C : ExcC X.K D) (hz : Zc (.ref D) d oe) (hf : ∃ vs, oe.data = .fields vs) : CallR (X.suite a ((a, oe) :: pn)) (.builtin "isinstance")
    (fun xs H Q => (∀ dd, d = some dd → ∃ gs, H dd = some (.xd gs)) ∧ rIsE X.K D a xs H Q) := by
  intro pins s σ H xs us Q I r h
  obtain ⟨hdd, c, cv, b, rfl, hcv, e, q⟩ := h
  cases r with
  | cons rx rr =>
    cases rr with
    | cons rt rr =>
      cases rr
      cases rx
      have ec := hcv _ rt
      subst ec
      obtain ⟨hget, _⟩ := I.pin (a, oe) (List.mem_append.mpr (.inl List.mem_cons_self))
      obtain ⟨vs, hv⟩ := hf
      have hcl : (PySem.W.clsIn X.K D).isSome = true := by
        obtain ⟨cd, hc, _⟩ := PySem.W.any_some C.hd
        rw [hc]; rfl
      have J : ∃ od, PySem.W.InstAt s.heap a oe D od := by
        cases d with
        | none =>
          refine ⟨none, hget, hz.1, ?_, ?_⟩
          · unfold PySem.W.notCls; rw [hv] <;> rfl
          · rw [hz.2]; trivial
        | some dd =>
          obtain ⟨gs, ea⟩ := hdd dd rfl
          have hx : ObjOk X.prog X.w H s.heap dd (.xd gs) := I.hok dd _ ea
          obtain ⟨mA, hns, hr⟩ := hx
          obtain ⟨od, ho, hl⟩ := lookIn_ns hns
          exact ⟨some od, hget, hz.1, by unfold PySem.W.notCls; rw [hv] <;> rfl, by rw [hz.2]; exact ho⟩
      obtain ⟨od, J⟩ := J
      exact PySem.W.kia_one (PySem.W.kitx_exc hcl C.hg C.hk C.hs C.ha C.hn C.ht C.hm) I.kIn J e (fun z => nomatch z) fun tk => ⟨.bl b, H, I.kept (t' := tk) fun _ _ z => z, rfl, q⟩
end L2
namespace DL
open PySem L2 PySem.Spec
open PyProof.Rows hiding St
theorem kit_own {K : PySem.W.Frag} {q x : Addr} {b : Bool} (hd : PySem.W.hasDictIn K x = true) (ht : PySem.W.typeIn K (.ref x) = some (.type "type")) (h0 : PySem.W.subIn K (.ref q) (.ref q) = some true) (hs : PySem.W.subIn K (.ref q) (.ref x) = some b) : PySem.W.kitOne K (.ref q) (.ref x) = some b := by
  obtain ⟨cd, hc, _⟩ := PySem.W.any_some hd
  unfold PySem.W.kitOne
  by_cases e : (Value.ref q == Value.ref x) = true
  · rw [if_pos e]
    have : q = x := Value.ref.inj (beq_iff_eq.mp e)
    subst this
    exact h0.symm.trans hs
  · rw [if_neg e]
    unfold PySem.W.kitCls
    dsimp only
    rw [if_pos (by rw [hc, ht]; rfl)]
    exact hs
theorem kit_ve {K : PySem.W.Frag} {q : Addr} (hs : PySem.W.subIn K (.ref q) (.type "ValueError") = some true) : PySem.W.kitOne K (.ref q) (.type "ValueError") = some true := by
  unfold PySem.W.kitOne
  rw [if_neg (by simp)]
  unfold PySem.W.kitCls
  dsimp only
  rw [if_pos (by decide +kernel)]
  exact hs
/-- a sign in a text -/
def dInC : D2 := fun x y st Q => ∃ (c : Nat) (z : Str), x = .str ⟨#[c]⟩ ∧ y = .str z ∧ Q (.bl (decide (c ∈ z.cps.toList))) st
theorem cm_inC [TC : TabCtx] {X : Cx} : Cm X .In dInC := ⟨_, op_in_sign, fun {H μ st x y v u Qd Q} s rx ry h hQ => by
  obtain ⟨c, z, rfl, rfl, q⟩ := h
  exact ⟨c, z, rx, ry, hQ _ _ _ _ _ q (Ext.refl _ _) s rfl⟩⟩
/-- what is read of a held error -/
structure ErF [EC : ErrCtx] (K : PySem.W.Frag) (m : Nat) : Prop where
  xf : XfC K (errA m)
  ex : ExcC K (errA m)
section
variable [TC : TabCtx] [EC : ErrCtx] {X : Cx} {W : WX} {e c : Expr} {te : DTE} {pos p : Pos} {x n : Str} {m : Nat} {a : Addr} {oe : Obj} {xx : DX} {d : Option Addr} {pn : List (Addr × Obj)}
/-- e.f, e the exception held -/
def dXf (a : Addr) (x : DX) (m : Nat) (n : Str) (te : DTE) : DTE := fun ρ st Q Z => te ρ st (fun y st1 => y = .adr a ∧ x.cls = .ref (errA m) ∧ ∃ v, x.fs.lookup n = some v ∧ Q v st1) Z
theorem de_xf (hT : ∀ dd, d = some dd → (dd, xx.fs) ∈ TC.xs) (T : XfC X.K (errA m)) (hno : PySem.W.findIn X.K (.ref (errA m)) n = some none) (hz : Zc xx.cls d oe) (hf : ∃ vs, oe.data = .fields vs) (hd : d = none → xx.fs = []) (he : DE (X.suite a ((a, oe) :: pn)) W e te)
    (hb : attributeBase e n X.env (eval e X.env) = eval e X.env := by rfl) : DE (X.suite a ((a, oe) :: pn)) W (.Attribute e n pos) (dXf a xx m n te) :=
  pe_weak (pe_xf T hno hz hf he hb) fun σ H Q ⟨ρ, st, μ, Qd, Z, hS, ht, hQ, hZ⟩ => ⟨ρ, st, μ, _, Z, hS, ht, fun y st1 H1 μ1 v hx e1 s1 rv => by
    obtain ⟨rfl, ec, dv, hl, q⟩ := hx
    refine ⟨rv, ec, ?_⟩
    cases d with
    | none => rw [hd rfl] at hl; cases hl
    | some dd =>
      obtain ⟨h1, h2, h3, h4, h5⟩ := s1
      obtain ⟨hn, gs, eg, r⟩ := h5 (dd, xx.fs) (hT dd rfl)
      obtain ⟨w, hw, rw'⟩ := OFs.lookup r hl
      exact ⟨dd, gs, w, rfl, eg, hw, hQ _ _ _ _ _ q e1 ⟨h1, h2, h3, h4, h5⟩ rw'⟩, hZ⟩
/-- isinstance(e, c), e the exception held; tbl: its class, the answer -/
def dXi (a : Addr) (x : DX) (tbl : List (Nat × Bool)) (te : DTE) : DTE := fun ρ st Q Z => ∃ p ∈ tbl, x.cls = .ref (errA p.1) ∧ te ρ st (fun y st1 => y = .adr a ∧ Q (.bl p.2) st1) Z
theorem de_xi {tbl : List (Nat × Bool)} {cv : V} {cu : Value} (hT : ∀ dd, d = some dd → (dd, xx.fs) ∈ TC.xs) (hg : Gl X "isinstance") (hm : X.mg "isinstance" = none) (ht : ∀ p ∈ tbl, ErF X.K p.1 ∧ PySem.W.kitOne X.K (.ref (errA p.1)) cu = some p.2) (hcv : ∀ u, RelV cv u → u = cu)
    (hz : Zc xx.cls d oe) (hf : ∃ vs, oe.data = .fields vs) (he : DE (X.suite a ((a, oe) :: pn)) W e te) (hc : PE (X.suite a ((a, oe) :: pn)) c (tC cv))
    (hs1 : starEach [e, c] X.env = (false, eval e X.env) :: starEach [c] X.env := by rfl) (hs2 : starEach [c] X.env = (false, eval c X.env) :: starEach [] X.env := by rfl) (hpl : (backTo pos (starEach [c] X.env)).any (·.1) = false := by rfl) :
    DE (X.suite a ((a, oe) :: pn)) W (.Call (.Name "isinstance" p) [e, c] [] pos) (dXi a xx tbl te) := by
  refine ⟨fun pins s σ H Q I ⟨ρ, st, μ, Qd, Z, hS, ⟨q, hq, ec, hx⟩, hQ, hZ⟩ => ?_⟩
  have hz' : Zc (.ref (errA q.1)) d oe := ec ▸ hz
  have R := pe_callB (call_isEd (X := X) (pn := pn) (ht q hq).1.ex hz' hf) hg hm PyProof.Rows.boot_isinstance (pa_cons he (pa_cons hc pa_nil hs2) hs1) (by decide) (by decide) hs1 hpl (p := p) (pos := pos)
  refine R.run pins s σ H Q I ⟨ρ, st, μ, _, Z, hS, hx, fun y st1 H1 μ1 v hy e1 s1 rv => ?_, hZ⟩
  obtain ⟨rfl, qq⟩ := hy
  have qq' := hQ _ _ _ _ _ qq e1 s1 rfl
  refine ⟨fun dd hdd => ?_, cv, cu, q.2, ?_, hcv, (ht q hq).2, qq'⟩
  · obtain ⟨h1, h2, h3, h4, h5⟩ := s1
    subst hdd
    obtain ⟨hn, gs, eg, r⟩ := h5 (dd, xx.fs) (hT dd rfl)
    exact ⟨gs, eg⟩
  · rw [show v = _ from rv]
end
section
variable [EC : ErrCtx] {st : Sto} {ρ : Env'} {Q : DK} {Z : DZ} {E : DEnds} {te : DTE} {tb : DTS} {ts : Addr → DX → DTS} {m i : Nat} {ms : List Nat} {f : Str} {a : Addr} {x : DX}
@[simp] theorem s_raise1 : dRaise1 m f te E ρ st = te ρ st (fun y st1 => E.xs (errX m [(f, y)]) ρ st1) E.xs := rfl
@[simp] theorem s_raise0 : dRaise0 m E ρ st = E.xs (errX m []) ρ st := rfl
@[simp] theorem s_tryAs : dTryAs ms i tb ts E ρ st = tb { E with xs := fun x ρ1 st1 => Caught ms x ∧ ∀ a, ts a x { nx := fun ρ2 st2 => E.nx (ρ2.set i none) st2, rt := E.rt, bk := fun ρ2 st2 => E.bk (ρ2.set i none) st2, ct := fun ρ2 st2 => E.ct (ρ2.set i none) st2 } (ρ1.set i (some (.adr a))) st1 } ρ st := rfl
@[simp] theorem s_tryOnly : dTryOnly ms tb ts E ρ st = tb { E with xs := fun x ρ1 st1 => Caught ms x ∧ ∀ a, ts a x { nx := E.nx, rt := E.rt, bk := E.bk, ct := E.ct } ρ1 st1 } ρ st := rfl
@[simp] theorem s_xf {n : Str} : dXf a x m n te ρ st Q Z = te ρ st (fun y st1 => y = .adr a ∧ x.cls = .ref (errA m) ∧ ∃ v, x.fs.lookup n = some v ∧ Q v st1) Z := rfl
@[simp] theorem s_xi {tbl : List (Nat × Bool)} : dXi a x tbl te ρ st Q Z = ∃ p ∈ tbl, x.cls = .ref (errA p.1) ∧ te ρ st (fun y st1 => y = .adr a ∧ Q (.bl p.2) st1) Z := rfl
@[simp] theorem errX_cls {fs : List (Str × D)} : (errX m fs).cls = .ref (errA m) := rfl
@[simp] theorem errX_fs {fs : List (Str × D)} : (errX m fs).fs = fs := rfl
theorem all_cons {α : Type} {P : α → Prop} {a : α} {as : List α} (h : P a) (hs : ∀ q ∈ as, P q) : ∀ q ∈ a :: as, P q := fun q hq => by
  rcases List.mem_cons.mp hq with e | hq
  · rw [e]; exact h
  · exact hs q hq
theorem caught {fs : List (Str × D)} (h : m ∈ ms) : Caught ms (errX m fs) := ⟨m, h, rfl⟩
end
end DL
namespace DL
open PySem L2 PySem.Spec
open PyProof.Rows hiding St
def putFD (f : Str) (v : D) : List (Str × D) → List (Str × D)
  | [] => [(f, v)]
  | (g, x) :: r => if g = f then (g, v) :: r else (g, x) :: putFD f v r
section
variable {K : PySem.W.Frag} {H : Hp} {μ : List Addr}
theorem ofs_nil : OFs K H μ [] [] := ⟨rfl, rfl⟩
theorem ofs_cons {p : Str × D} {fs : List (Str × D)} {gs : List (Str × V)} (h : OFs K H μ (p :: fs) gs) : ∃ v gs', gs = (p.1, v) :: gs' ∧ Rep K H μ p.2 v ∧ OFs K H μ fs gs' := by
  obtain ⟨h1, h2⟩ := h
  cases gs with
  | nil => cases h1
  | cons q gs =>
    simp only [List.map_cons, List.cons.injEq] at h1
    obtain ⟨v, r, e, r1, r2⟩ := h2
    simp only [List.map_cons, List.cons.injEq] at e
    obtain ⟨e1, e2⟩ := e
    subst e1 e2
    obtain ⟨qn, qv⟩ := q
    exact ⟨qv, gs, by rw [h1.1], r1, h1.2, r2⟩
theorem ofs_mk {p : Str × D} {fs : List (Str × D)} {gs : List (Str × V)} {v : V} (r : Rep K H μ p.2 v) (h : OFs K H μ fs gs) : OFs K H μ (p :: fs) ((p.1, v) :: gs) :=
  ⟨by simp [h.1], v, _, rfl, r, h.2⟩
theorem ofs_put {f : Str} {d : D} {v : V} (r : Rep K H μ d v) : ∀ {fs : List (Str × D)} {gs : List (Str × V)}, OFs K H μ fs gs → OFs K H μ (putFD f d fs) (putF f v gs)
  | [], gs, h => by
    obtain ⟨h1, h2⟩ := h
    cases gs with
    | nil => exact ofs_mk (p := (f, d)) r ofs_nil
    | cons q gs => cases h1
  | p :: fs, gs, h => by
    obtain ⟨w, gs', rfl, r1, h'⟩ := ofs_cons h
    obtain ⟨g, x⟩ := p
    unfold putFD putF
    by_cases e : g = f
    · simp only [e, if_true]
      exact ofs_mk (p := (f, d)) r h'
    · simp only [e, if_false]
      exact ofs_mk (p := (g, x)) r1 (ofs_put r h')
theorem ofs_len {fs : List (Str × D)} {gs : List (Str × V)} (h : OFs K H μ fs gs) : fs.length = gs.length := by
  have := congrArg List.length h.1
  simpa using this
end
/-- what is told of an own class -/
structure ClF [EC : ErrCtx] (K : PySem.W.Frag) (m : Nat) : Prop where
  c : Cls K (errA m)
  ha : PySem.W.findIn K (.ref (errA m)) "__class__" = some (some (.builtin "object.__class__"))
  hn : PySem.W.specialIn K (.builtin "object.__class__") "__get__" = some (some (.builtin "getset_descriptor.__get__"))
  ht : PySem.W.takesIn K (.builtin "object.__class__") = some true
  hm : PySem.W.mroIn K (errA m) (.type "object") = some true
  hi : PySem.W.isClsIn K (errA m) = true
  ty : PySem.W.typeIn K (.ref (errA m)) = some (.type "type")
/-- a method keeps its promise -/
def HasM [TC : TabCtx] [EC : ErrCtx] (P : Program) (w : World) (K : PySem.W.Frag) (mg : Str → Option Value) (base : Heap) (k : Nat) (m : Nat) (x : Str) (n : Nat) (dsp : DSp) : Prop :=
  ∃ f fd ps, FnOk P w K mg base (L2.CX P w) k f fd ps (liftSp K n dsp) ∧ Meth K (errA m) x f ∧ Binds K fd ps []
theorem HasM.mono [TC : TabCtx] [EC : ErrCtx] {P : Program} {w : World} {K : PySem.W.Frag} {mg : Str → Option Value} {base : Heap} {j k m : Nat} {x : Str} {n : Nat} {dsp : DSp} (h : HasM P w K mg base j m x n dsp) (hk : j ≤ k) : HasM P w K mg base k m x n dsp := by
  obtain ⟨f, fd, ps, F, r⟩ := h
  exact ⟨f, fd, ps, F.mono hk, r⟩
/-- where a method of the text stands -/
def MthIn [EC : ErrCtx] (K : PySem.W.Frag) (m : Nat) (x qual : Str) (s : Stmt) (ps : List Str) : Prop := ∃ f fd, Fun K x qual s f fd ∧ Meth K (errA m) x f ∧ Binds K fd ps []
section
variable [TC : TabCtx] [EC : ErrCtx] {P : Program} {w : World} {K : PySem.W.Frag} {mg : Str → Option Value} {base : Heap} {k n m : Nat} {x qual : Str} {s : Stmt} {N ps : List Str} {dsp : DSp}
theorem has_mkM (F : MthIn K m x qual s ps) (S : FnScope N ps (defScope s)) (hn : ps.length = n)
    (body : ∀ (f : Addr) (cdv : Value) (A : Around) (outer : List Env) (s0 : Shared) (H : Hp) (E : XK), Room k (A.deeper (envOfC qual (defScope s) s0.heap.objs.size f cdv)) →
      ∃ t, DSs (XDef P w K mg base N qual s f cdv A outer s0 H E) (WDef E) (defBody s) t ∧ ∀ ds st Q Z, ds.length = n → dsp ds st Q Z → t { nx := fun _ st' => Back st Q .non st', rt := Back st Q, xs := fun x _ st' => BackX st Z x st' } (startD N ds) st) :
    HasM P w K mg base (k + 1) m x n dsp := by
  obtain ⟨f, fd, F, hm, hb⟩ := F
  refine ⟨f, fd, ps, F.okX S (fun vs H Q E h => by rw [hn]; exact h.1) (fun cdv A outer s0 H vs Q E hr h => ?_), hm, hb⟩
  obtain ⟨t, ht, hd⟩ := body f cdv A outer s0 H E hr
  obtain ⟨hl, ds, st, μ, Qd, Z, r, sr, hsp, hQ, hZ⟩ := h
  refine ⟨_, ht, startD N ds, st, μ, _, ⟨start_rep N r, sr⟩, hd ds st Qd Z (by rw [r.length]; exact hl) hsp, ?_, Back.ok sr hQ, ?_, ?_, ?_⟩
  · exact fun ρ' st' σ' H' μ' q e s' => Back.ok sr hQ _ _ _ _ _ q e s'.s rfl
  · exact fun ρ' st' σ' H' μ' q e s' => q.elim
  · exact fun ρ' st' σ' H' μ' q e s' => q.elim
  · exact fun x' ρ' st' σ' H' μ' c dx q e s' r' => BackX.ok sr hZ _ _ _ _ _ _ q e s'.s r'
end
section
variable [TC : TabCtx] [EC : ErrCtx] {X : Cx} {W : WX} {e o : Expr} {es : List Expr} {te to : DTE} {t : DTA} {pos p pos2 : Pos} {x f : Str} {m k n : Nat} {dsp : DSp}
/-- o.f -/
def dFld (f : Str) (ms : List Nat) (te : DTE) : DTE := fun ρ st Q Z => te ρ st (fun y st1 => ∃ n m fs v, y = .loc n ∧ m ∈ ms ∧ st1[n]? = some (.ins (errA m) fs) ∧ fs.lookup f = some v ∧ Q v st1) Z
theorem de_fld {ms : List Nat} (C : ∀ m ∈ ms, ClF X.K m ∧ NoAttr X.K (errA m) f) (he : DE X W e te) (hb : attributeBase e f X.env (eval e X.env) = eval e X.env := by rfl) : DE X W (.Attribute e f pos) (dFld f ms te) :=
  pe_weak (pe_fld he hb) fun σ H Q ⟨ρ, st, μ, Qd, Z, hS, ht, hQ, hZ⟩ => ⟨ρ, st, μ, _, Z, hS, ht, fun y st1 H1 μ1 v hx e1 s1 rv => by
    obtain ⟨n, m, fs, w, rfl, hm, hn, hl, q⟩ := hx
    obtain ⟨a, rfl, ha⟩ := rv
    obtain ⟨a', ob, q1, q2, dx, gs, rfl, r⟩ := s1.at' _ _ hn
    rw [ha] at q1; cases q1
    obtain ⟨u, hu, ru⟩ := OFs.lookup r hl
    exact ⟨a, _, dx, gs, u, rfl, q2, (C m hm).1.c, (C m hm).2, hu, hQ _ _ _ _ _ q e1 s1 ru⟩, hZ⟩
/-- o.f = e -/
def dSetF (f : Str) (ms : List Nat) (to te : DTE) : DTS := fun E ρ st => te ρ st (fun y st1 => to ρ st1 (fun z st2 => ∃ n m fs, z = .loc n ∧ m ∈ ms ∧ st2[n]? = some (.ins (errA m) fs) ∧ fs.length < 1000 ∧ E.nx ρ (st2.set n (.ins (errA m) (putFD f y fs)))) E.xs) E.xs
theorem ds_setF {ms : List Nat} (C : ∀ m ∈ ms, ClF X.K m ∧ NoAttr X.K (errA m) f) (ho : DE X W o to) (he : DE X W e te) (hs : swapsWith e (some (.Attribute o f p)) pos.line X.env = pure false := by rfl) : DS X W (.Assign [.Attribute o f p] e pos) (dSetF f ms to te) :=
  ps_weak (ps_fld ho he hs) fun D σ H ⟨ρ, st, μ, DD, hS, ht, hO⟩ => ⟨ρ, st, μ, _, _, hS, ht, fun y st1 H1 μ1 v hx e1 s1 rv => ⟨ρ, st1, μ1, _, _, hS.mono e1 s1, hx, fun z st2 H2 μ2 w hz e2 s2 rw' => by
    obtain ⟨n, m, fs, rfl, hm, hn, hl, q⟩ := hz
    obtain ⟨a, rfl, ha⟩ := rw'
    obtain ⟨a', ob, q1, q2, dx, gs, rfl, r⟩ := s2.at' _ _ hn
    rw [ha] at q1; cases q1
    refine ⟨a, _, dx, gs, rfl, q2, (C m hm).1.c, (C m hm).2, by rw [← ofs_len r]; exact hl, ?_⟩
    obtain ⟨e3, s3⟩ := s2.write ha q2 (b := .ins (errA m) (putFD f y fs)) (o' := .ins (errA m) dx (putF f v gs)) ⟨dx, _, rfl, ofs_put (rv.mono e2) r⟩
    exact hO.nx _ _ _ _ _ q ((e1.trans e2).trans e3) ⟨hS.e.mono ((e1.trans e2).trans e3), s3⟩, hO.xs.mono e1⟩, hO.xs⟩
/-- C(e, ..) -/
def dMake (m : Nat) (n : Nat) (dsp : DSp) (t : DTA) : DTE := fun ρ st Q Z => t ρ st (fun ds st1 => ds.length + 1 = n ∧ dsp (.loc st1.length :: ds) (st1 ++ [.ins (errA m) []]) (fun v st2 => v = .non ∧ Q (.loc st1.length) st2) fun x st2 => Z x ρ st2) Z
structure MkF [EC : ErrCtx] (K : PySem.W.Frag) (mg : Str → Option Value) (m : Nat) (x : Str) : Prop where
  g : mg x = some (.ref (errA m))
  mks : PySem.W.makesIn K (errA m) = true
  kp : PySem.W.keepIn K (.ref (errA m)) = true
theorem PassesAt.all {E : XK} (h : ∀ σ, PassesAt (L2.CX X.prog X.w) X σ E) : Passes (L2.CX X.prog X.w) X E := fun pins σ H s e s' I c => h σ pins H s e s' I c
/-- C(e, ..), the exceptions of its __init__ wished for at the caller's slots -/
theorem run_makeS {CX : CXT} {fI C : Addr} {fd : FuncData} {ps : List Str} {sp : Sp} {E : XK} {pins : List (Addr × Obj)} {σ : St} {H : Hp} {s : Shared} {Q : VK} {us : List Value} {vs : List V} (M : Mk X.K C fI) (F : FnOk X.prog X.w X.K X.mg X.base CX k fI fd ps sp) (hr : Room (k + 1) X.A) (hb : Binds X.K fd ps [])
    (hx : PassesAt CX X σ E) (I : Inv X pins σ H s) (r : Vals vs us)
    (h : ∀ x dx, H x = none → H dx = none → dx ≠ x → sp (.ref x :: vs) (upd (upd H dx (.own x)) x (.ins C dx [])) (fun v H2 => v = .non ∧ Q (.ref x) H2) E) :
    wpAny (model X.prog X.w) X.A (call (.ref C) us) (EP X pins σ Q) X.xe s := by
  have hq := h (s.heap.objs.size + 1) s.heap.objs.size (I.hok.fresh (Nat.le_succ _)) (I.hok.fresh (Nat.le_refl _)) (Nat.ne_of_lt (Nat.lt_succ_self _))
  have I2 := Inv.made (C := C) I
  have r2 : Vals (V.ref (s.heap.objs.size + 1) :: vs) (Value.ref (s.heap.objs.size + 1) :: us) := .cons rfl r
  have hl : (Value.ref (s.heap.objs.size + 1) :: us ++ []).length = ps.length := by
    have e := r2.length
    rw [F.len _ _ _ _ hq] at e
    simpa using e.symm
  have hbd := hb _ (Value.ref (s.heap.objs.size + 1) :: us) I2.kIn hl
  rw [List.append_nil] at hbd
  refine wpAny_call (make_map (f := fI) I.kIn M.makes M.init (beq_iff_eq.mp M.fn) (codeAny_mono (F.run _ X.stack _ _ ⟨Value.ref (s.heap.objs.size + 1) :: us, []⟩ (Value.ref (s.heap.objs.size + 1) :: us) _ _ E (hr.make C us [])
    (I2.env0.make C us []) hbd r2 hq) fun r s' hq' => ?_))
  cases r with
  | error e => exact hx pins _ _ e s' I2 hq'
  | ok fl =>
    cases fl with
    | ret u =>
      obtain ⟨v, H', I3, rv, ev, q3⟩ := I2.after hq'
      subst ev
      exact ⟨rv, ⟨V.ref (s.heap.objs.size + 1), H', I3, rfl, q3⟩⟩
    | next => exact False.elim hq'
    | brk => exact False.elim hq'
    | cont => exact False.elim hq'
def tMakeS (C : Addr) (sp : Sp) (E : St → XK) (t : TA) : TE := fun σ H Q => t σ H fun vs H1 => ∀ x dx, H1 x = none → H1 dx = none → dx ≠ x →
  sp (.ref x :: vs) (upd (upd H1 dx (.own x)) x (.ins C dx [])) (fun v H2 => v = .non ∧ Q (.ref x) H2) (E σ)
theorem pe_makeS {CX : CXT} {fI C : Addr} {fd : FuncData} {ps : List Str} {sp : Sp} {E : St → XK} {ta : TA} (M : Mk X.K C fI) (F : FnOk X.prog X.w X.K X.mg X.base CX k fI fd ps sp) (hr : Room (k + 1) X.A) (hg : Gl X x) (hm : X.mg x = some (.ref C)) (hb : Binds X.K fd ps []) (hx : ∀ σ, PassesAt CX X σ (E σ))
    (ha : PA X (e :: es) ta) (hdb : (x == ("__debug__" : Str)) = false := by decide) (he : starEach (e :: es) X.env = (false, eval e X.env) :: starEach es X.env := by rfl) (hpl : (backTo pos (starEach es X.env)).any (·.1) = false := by rfl) :
    PE X (.Call (.Name x p) (e :: es) [] pos) (tMakeS C sp E ta) := by
  refine ⟨fun pins s σ H Q I h => ?_⟩
  refine wpAny_Call_Name_kw (ld_glob I hg hm ?_ hdb)
  refine PySem.W.callWith_K (h₀ := X.base) I.ok.mod.kin M.kp (thn (ha.run pos pins s σ H _ I h) fun us s1 ⟨vs, H1, I1, r, q⟩ => ⟨I1.kIn, ?_⟩) he hpl
  exact run_makeS M F hr hb (hx σ) I1 r q
theorem de_make (M : MkF X.K X.mg m x) (I : HasM X.prog X.w X.K X.mg X.base k m "__init__" n dsp) (hr : Room (k + 1) X.A) (hg : Gl X x) (hx : Pas X W) (ha : DA X W (e :: es) t)
    (hdb : (x == ("__debug__" : Str)) = false := by decide) (he : starEach (e :: es) X.env = (false, eval e X.env) :: starEach es X.env := by rfl) (hpl : (backTo pos (starEach es X.env)).any (·.1) = false := by rfl) :
    DE X W (.Call (.Name x p) (e :: es) [] pos) (dMake m n dsp t) := by
  obtain ⟨f, fd, ps, F, hm, hb⟩ := I
  refine pe_weak (pe_makeS ⟨M.mks, hm.at_, hm.fn, M.kp⟩ F hr hg M.g hb hx ha hdb he hpl) fun σ H Q ⟨ρ, st, μ, Qd, Z, hS, ht, hQ, hZ⟩ => ?_
  refine ⟨ρ, st, μ, _, Z, hS, ht, fun ds st1 H1 μ1 vs hx e1 s1 rv a dx ha hdx hne => ?_, hZ⟩
  obtain ⟨hl, hx⟩ := hx
  have ha' : upd H1 dx (.own a) a = none := by rw [upd_ne (Ne.symm hne)]; exact ha
  have e2 : Ext H1 (upd H1 dx (.own a)) μ1 μ1 := Ext.laid hdx
  have s2 : SRep X.K st1 μ1 (upd H1 dx (.own a)) := s1.laid hdx
  have e3 : Ext (upd H1 dx (.own a)) (upd (upd H1 dx (.own a)) a (.ins (errA m) dx [])) μ1 (μ1 ++ [a]) := Ext.push ha'
  have s3 : SRep X.K (st1 ++ [.ins (errA m) []]) (μ1 ++ [a]) (upd (upd H1 dx (.own a)) a (.ins (errA m) dx [])) := s2.push ha' ⟨dx, [], rfl, ofs_nil⟩
  have e := e2.trans e3
  refine ⟨?_, .loc st1.length :: ds, st1 ++ [.ins (errA m) []], μ1 ++ [a], fun v st2 => v = .non ∧ Qd (.loc st1.length) st2, fun x st2 => Z x ρ st2, ⟨.ref a, vs, rfl, ⟨a, rfl, by rw [s1.len]; exact getElem?_end _ _⟩, rv.mono e⟩, s3, hx, ?_, ?_⟩
  · simp only [List.length_cons, ← rv.length]
    exact hl
  · intro d st4 H4 μ4 v hd e4 s4 r4
    obtain ⟨hdn, hq⟩ := hd
    rw [hdn] at r4
    refine ⟨r4, hQ _ _ _ _ _ hq ((e1.trans e).trans e4) s4 ⟨a, rfl, ?_⟩⟩
    exact e4.pre _ _ (by rw [s1.len]; exact getElem?_end _ _)
  · exact XOk.of hS hZ (e1.trans e)
end
end DL
set_option maxHeartbeats 4000000
namespace L2
open PySem PySem.Spec PyProof.Rows
end L2
set_option maxHeartbeats 4000000
namespace L2
open PySem PySem.Spec PyProof.Rows
end L2
namespace DL
open PySem L2 PySem.Spec
open PyProof.Rows hiding St
/-- an exception in the store: at a, of class q, its fields -/
def ErrAt [EC : ErrCtx] (st : Sto) (a : Addr) (q : Nat) (fs : List (Str × D)) : Prop := ∃ (n : Nat) (d : Option Addr), st[n]? = some (.err a (errA q) d) ∧ ((d = none ∧ fs = []) ∨ ∃ (dd : Addr) (k : Nat), d = some dd ∧ st[k]? = some (.xdt dd fs))
section
variable [TC : TabCtx] [EC : ErrCtx] {X : Cx} {W : WX} {e c : Expr} {es : List Expr} {te ta tb : DTE} {tA : DTA} {pos p : Pos} {x f : Str} {m k : Nat}
/-- X(e), kept -/
def dMkE1 (m : Nat) (f : Str) (te : DTE) : DTE := fun ρ st Q Z => te ρ st (fun y st1 => ∀ a dx, Q (.adr a) (st1 ++ [.xdt dx [(f, y)], .err a (errA m) (some dx)])) Z
def dMkE0 (m : Nat) : DTE := fun _ st Q _ => ∀ a, Q (.adr a) (st ++ [.err a (errA m) none])
theorem ErrAt.get {K : PySem.W.Frag} {st : Sto} {μ : List Addr} {H : Hp} {a : Addr} {q : Nat} {fs : List (Str × D)} (h : ErrAt st a q fs) (s : SRep K st μ H) :
    ∃ b d, H b = some (exo a (errA q) d) ∧ ((d = none ∧ fs = []) ∨ ∃ dd qq gs, d = some dd ∧ H qq = some (exd dd gs) ∧ OFs K H μ fs gs) := by
  obtain ⟨n, d, h1, h2⟩ := h
  obtain ⟨b, o, e1, e2, r⟩ := s.at' _ _ h1
  rw [show o = exo a (errA q) d from r] at e2
  refine ⟨b, d, e2, ?_⟩
  rcases h2 with h2 | ⟨dd, k, e, h2⟩
  · exact .inl h2
  · obtain ⟨qq, o, e3, e4, gs, rfl, r⟩ := s.at' _ _ h2
    exact .inr ⟨dd, qq, gs, e, e4, r⟩
/-- isinstance(e, c), e an exception of the store -/
def dIsE (ms : List Nat) (g : Nat → Bool) (te : DTE) : DTE := fun ρ st Q Z => te ρ st (fun y st1 => ∃ a q fs, y = .adr a ∧ q ∈ ms ∧ ErrAt st1 a q fs ∧ Q (.bl (g q)) st1) Z
/-- e.f, e an exception of the store -/
def dErF (f : Str) (ms : List Nat) (te : DTE) : DTE := fun ρ st Q Z => te ρ st (fun y st1 => ∃ a q fs v, y = .adr a ∧ q ∈ ms ∧ ErrAt st1 a q fs ∧ fs.lookup f = some v ∧ Q v st1) Z
/-- a dict that is written once -/
def dFrz (te : DTE) : DTE := fun ρ st Q Z => te ρ st (fun y st1 => ∃ n kvs, y = .loc n ∧ st1[n]? = some (.dK kvs) ∧ ∀ od, Q (.loc n) (st1.set n (.dkF od kvs))) Z
/-- d[k] of it -/
def dDGetF (td ti : DTE) : DTE := fun ρ st Q Z => td ρ st (fun x st1 => ti ρ st1 (fun y st2 => ∃ n od kvs k v, x = .loc n ∧ st2[n]? = some (.dkF od kvs) ∧ keyD y = some k ∧ valD kvs k = some v ∧ Q v st2) Z) Z
/-- its keys -/
def dKeyD : Key → D
  | .inl i => .int i
  | .inr x => .str x
def iKF (te : DTE) : DTI := fun ρ st Q Z => te ρ st (fun x st1 => ∃ n od kvs, x = .loc n ∧ st1[n]? = some (.dkF od kvs) ∧ Q (kvs.map fun p => dKeyD p.1) (fun _ => True) st1) Z
/-- isinstance(e, C), e an instance of C -/
def dIsC1 (m : Nat) (te : DTE) : DTE := fun ρ st Q Z => te ρ st (fun y st1 => ∃ n fs, y = .loc n ∧ st1[n]? = some (.ins (errA m) fs) ∧ Q (.bl true) st1) Z
end
section
variable [EC : ErrCtx] {st : Sto} {ρ : Env'} {Q : DK} {Z : DZ} {E : DEnds} {te td ti : DTE} {m n : Nat} {ms : List Nat} {f : Str} {x y : D} {g : Nat → Bool}
@[simp] theorem s_mkE1 : dMkE1 m f te ρ st Q Z = te ρ st (fun y st1 => ∀ a dx, Q (.adr a) (st1 ++ [.xdt dx [(f, y)], .err a (errA m) (some dx)])) Z := rfl
@[simp] theorem s_mkE0 : dMkE0 m ρ st Q Z = ∀ a, Q (.adr a) (st ++ [.err a (errA m) none]) := rfl
@[simp] theorem s_isE : dIsE ms g te ρ st Q Z = te ρ st (fun y st1 => ∃ a q fs, y = .adr a ∧ q ∈ ms ∧ ErrAt st1 a q fs ∧ Q (.bl (g q)) st1) Z := rfl
@[simp] theorem s_erF : dErF f ms te ρ st Q Z = te ρ st (fun y st1 => ∃ a q fs v, y = .adr a ∧ q ∈ ms ∧ ErrAt st1 a q fs ∧ fs.lookup f = some v ∧ Q v st1) Z := rfl
omit [EC : ErrCtx] in
@[simp] theorem s_frz : dFrz te ρ st Q Z = te ρ st (fun y st1 => ∃ n kvs, y = .loc n ∧ st1[n]? = some (.dK kvs) ∧ ∀ od, Q (.loc n) (st1.set n (.dkF od kvs))) Z := rfl
omit [EC : ErrCtx] in
@[simp] theorem s_dgetF : dDGetF td ti ρ st Q Z = td ρ st (fun x st1 => ti ρ st1 (fun y st2 => ∃ n od kvs k v, x = .loc n ∧ st2[n]? = some (.dkF od kvs) ∧ keyD y = some k ∧ valD kvs k = some v ∧ Q v st2) Z) Z := rfl
omit [EC : ErrCtx] in
@[simp] theorem s_iKF {QI : List D → (Sto → Prop) → Sto → Prop} : iKF te ρ st QI Z = te ρ st (fun x st1 => ∃ n od kvs, x = .loc n ∧ st1[n]? = some (.dkF od kvs) ∧ QI (kvs.map fun p => dKeyD p.1) (fun _ => True) st1) Z := rfl
@[simp] theorem s_isC1 : dIsC1 m te ρ st Q Z = te ρ st (fun y st1 => ∃ n fs, y = .loc n ∧ st1[n]? = some (.ins (errA m) fs) ∧ Q (.bl true) st1) Z := rfl
@[simp] theorem s_fld {ms : List Nat} : dFld f ms te ρ st Q Z = te ρ st (fun y st1 => ∃ n m fs v, y = .loc n ∧ m ∈ ms ∧ st1[n]? = some (.ins (errA m) fs) ∧ fs.lookup f = some v ∧ Q v st1) Z := rfl
end
end DL
namespace DL
open PySem L2 PySem.Spec
open PyProof.Rows hiding St
end DL
set_option maxHeartbeats 4000000
namespace DL
open PySem L2 PySem.Spec
open PyProof.Rows hiding St
variable [TC : TabCtx]
section
variable [EC : ErrCtx] {X : Cx} {W : WX} {e c : Expr} {te : DTE} {pos p p2 : Pos} {x : Str} {m : Nat}
/-- isinstance(e, C), C an own class -/
def dIsC (ms : List Nat) (m : Nat) (te : DTE) : DTE := fun ρ st Q Z => te ρ st (fun y st1 => (∃ a, tyN st1 y = some a ∧ Q (.bl false) st1) ∨ ∃ n q fs, y = .loc n ∧ q ∈ ms ∧ st1[n]? = some (.ins (errA q) fs) ∧ Q (.bl (q == m)) st1) Z
theorem de_isC {ms : List Nat} (hB : ∀ a ∈ ["NoneType", "bool", "int", "str", "tuple", "list", "dict"], PySem.W.kitOne X.K (.type a) (.ref (errA m)) = some false) (hC : ∀ q ∈ ms, ClF X.K q ∧ PySem.W.kitOne X.K (.ref (errA q)) (.ref (errA m)) = some (q == m))
    (hg : Gl X "isinstance") (hm : X.mg "isinstance" = none) (hgx : Gl X x) (hmx : X.mg x = some (.ref (errA m))) (ha : DE X W e te)
    (hdb : (x == ("__debug__" : Str)) = false := by decide)
    (hs1 : starEach [e, .Name x p] X.env = (false, eval e X.env) :: starEach [.Name x p] X.env := by rfl) (hs2 : starEach [.Name x p] X.env = (false, eval (.Name x p) X.env) :: starEach [] X.env := by rfl) (hpl : (backTo pos (starEach [.Name x p] X.env)).any (·.1) = false := by rfl) :
    DE X W (.Call (.Name "isinstance" p2) [e, .Name x p] [] pos) (dIsC ms m te) :=
  pe_weak (pe_callB call_isi hg hm PyProof.Rows.boot_isinstance (pa_cons ha (pa_cons (pe_glob hgx hmx (show RelV (.ref (errA m)) (.ref (errA m)) from rfl) hdb) pa_nil hs2) hs1) (by decide) (by decide) hs1 hpl) fun σ H Q ⟨ρ, st, μ, Qd, Z, hS, ht, hQ, hZ⟩ =>
    ⟨ρ, st, μ, _, Z, hS, ht, fun y st1 H1 μ1 v hx e1 s1 rv => by
      rcases hx with ⟨a, hy, q⟩ | ⟨n, q, fs, rfl, hq, hn, qq⟩
      · exact ⟨v, .ref (errA m), .type a, .ref (errA m), false, rfl, .own _, tyN_ok s1 rv hy, hB a (tyN_mem hy), hQ _ _ _ _ _ q e1 s1 rfl⟩
      · obtain ⟨a, rfl, ha⟩ := rv
        obtain ⟨a', o, q1, q2, dx, gs, rfl, r⟩ := s1.at' _ _ hn
        rw [ha] at q1; cases q1
        obtain ⟨F, hk⟩ := hC q hq
        exact ⟨.ref a, .ref (errA m), .ref (errA q), .ref (errA m), q == m, rfl, .own _, .base (.ins q2 F.c F.ha F.hn F.ht F.hm), hk, hQ _ _ _ _ _ qq e1 s1 rfl⟩, hZ⟩
end
end DL
namespace RD
open PySem L2 PySem.Spec DL
open PyProof.Rows hiding St
abbrev N_Entry___init__ : List Str := ["self", "name", "version", "features", "needs", "bars", "part"]
def t_Entry___init__ [ErrCtx] (s_wrong_part : DSp) : DTS := (dSeq (dAsg (dCall 5 s_wrong_part (dCons (dVar 1) (dCons (dVar 2) (dCons (dVar 3) (dCons (dVar 4) (dCons (dVar 5) dNil)))))) (gN 6))
    (dSeq (dIfS (dTest (dOp (dIsN not) (dVar 6) (dC (.non)))) (dRaise1 2 "part" (dVar 6)) dNext)
    (dSeq (dSetF "name" [100] (dVar 0) (dVar 1))
    (dSeq (dSetF "version" [100] (dVar 0) (dVar 2))
    (dSeq (dSetF "features" [100] (dVar 0) (dVar 3))
    (dSeq (dSetF "needs" [100] (dVar 0) (dVar 4))
    (dSetF "bars" [100] (dVar 0) (dVar 5))))))))
end RD
set_option maxHeartbeats 4000000
namespace L2
open PySem PySem.Spec PyProof.Rows
end L2
namespace DL
open PySem L2 PySem.Spec
open PyProof.Rows hiding St
variable [TC : TabCtx]
def dRemP : DM := fun x ds st Q => match x, ds with
  | .str a, [.str b] => a.length ≤ sizeLine ∧ Q (.str (Txt.removeprefix a b)) st
  | _, _ => False
def dFind : DM := fun x ds st Q => match x, ds with
  | .str a, [.str b] => Q (.int (Txt.find a b)) st
  | _, _ => False
def dStar (te : DTE) (t : DTA) : DTA := fun ρ st Q Z => te ρ st (fun x st1 => ∃ xs, itemsD st1 x = some xs ∧ t ρ st1 (fun ys st2 => Q (xs ++ ys) st2) Z) Z
end DL
namespace DL
open PySem L2 PySem.Spec
open PyProof.Rows hiding St
section
variable {st : Sto} {ρ : Env'} {Q : DK} {Z : DZ} {te : DTE} {t : DTA} {QA : List D → Sto → Prop} {a b : Str} {n : Nat}
@[simp] theorem s_star : dStar te t ρ st QA Z = te ρ st (fun x st1 => ∃ xs, itemsD st1 x = some xs ∧ t ρ st1 (fun ys st2 => QA (xs ++ ys) st2) Z) Z := rfl
@[simp] theorem s_remP : dRemP (.str a) [.str b] st Q = (a.length ≤ sizeLine ∧ Q (.str (Txt.removeprefix a b)) st) := rfl
@[simp] theorem s_find : dFind (.str a) [.str b] st Q = Q (.int (Txt.find a b)) st := rfl
@[simp] theorem s_pop : dPop (.loc n) [] st Q = ∃ es d, st[n]? = some (.lst es) ∧ es[es.length - 1]? = some d ∧ Q d (st.set n (.lst es.dropLast)) := rfl
end
end DL
namespace DL
open PySem L2 PySem.Spec
/-- a thing of a built-in type is no instance of an own class -/
theorem kit_ty {K : PySem.W.Frag} {x : Addr} (hd : PySem.W.hasDictIn K x = true) (ht : PySem.W.typeIn K (.ref x) = some (.type "type")) : ∀ a ∈ ["NoneType", "bool", "int", "str", "tuple", "list", "dict"], PySem.W.kitOne K (.type a) (.ref x) = some false := by
  intro a ha
  obtain ⟨cd, hc, _⟩ := PySem.W.any_some hd
  unfold PySem.W.kitOne
  rw [if_neg (by simp)]
  unfold PySem.W.kitCls
  dsimp only
  rw [if_pos (by rw [hc, ht]; rfl)]
  have e : ∀ a ∈ ["NoneType", "bool", "int", "str", "tuple", "list", "dict"], ∃ l, fastBuiltinMro a = some l ∧ ∀ z ∈ l, ∃ n, z = .type n := by
    intro a ha
    simp only [List.mem_cons, List.not_mem_nil, or_false] at ha
    rcases ha with rfl | rfl | rfl | rfl | rfl | rfl | rfl
    · exact ⟨[.type "NoneType", .type "object"], by decide +kernel, by simp⟩
    · exact ⟨[.type "bool", .type "int", .type "object"], by decide +kernel, by simp⟩
    · exact ⟨[.type "int", .type "object"], by decide +kernel, by simp⟩
    · exact ⟨[.type "str", .type "object"], by decide +kernel, by simp⟩
    · exact ⟨[.type "tuple", .type "object"], by decide +kernel, by simp⟩
    · exact ⟨[.type "list", .type "object"], by decide +kernel, by simp⟩
    · exact ⟨[.type "dict", .type "object"], by decide +kernel, by simp⟩
  obtain ⟨l, h1, h2⟩ := e a ha
  have h3 : PySem.W.subIn K (.type a) (.ref x) = some false := by
    show (fastBuiltinMro a).map (·.contains (.ref x)) = some false
    rw [h1]
    simp only [Option.map_some, Option.some.injEq]
    rw [Bool.eq_false_iff]
    intro hc
    obtain ⟨n, e⟩ := h2 _ (List.contains_iff_mem.mp hc)
    cases e
  exact h3
end DL
set_option maxHeartbeats 4000000
namespace TxS
open PySem PySem.Spec PyProof.Rows L2
/-- the text of a row -/
def txt (e : Int × Value) : Str := match e.2 with
  | .str x _ => x
  | _ => Str.empty
def Row (P : Program) (w : World) (e : Int × Value) : Prop := ∃ x tk, e.2 = Value.str x tk ∧ e.1 = (PySem.strKind P w).hash x
/-- the set at a holds the texts L -/
structure Tx (P : Program) (w : World) (h : Heap) (a : Addr) (L : List Str) : Prop where
  ex : ∃ (o : Obj) (rows : Array (Int × Value)) (ep : Nat) (tab : SetTable), h.get? a = some o ∧ o.ExactSet ∧ o.data = .set rows ep tab ∧ (∀ e ∈ rows.toList, Row P w e) ∧ (rows.toList.map txt).Perm L ∧ L.Nodup ∧
    rows.size < scanBound ∧ tab.fits rows.size = true ∧ Ris tab.place.toList ∧ (w.params.followText "set-order" = true ∨ tab.led = true)
section
variable {P : Program} {w : World} {h h' : Heap} {a : Addr} {L : List Str}
theorem Tx.at (R : Tx P w h a L) (k : ∀ o, h.get? a = some o → h'.get? a = some o) : Tx P w h' a L := by
  obtain ⟨o, rows, ep, tab, ho, r⟩ := R.ex
  exact ⟨o, rows, ep, tab, k o ho, r⟩
theorem row_is {e : Int × Value} (g : Row P w e) (x : Str) : (PySem.strKind P w).is x e.2 = true ↔ txt e = x := by
  obtain ⟨y, tk, h1, _⟩ := g
  unfold txt
  rw [h1]
  show Value.isStrOf x (.str y tk) = true ↔ y = x
  simp [Value.isStrOf]
theorem rows_of {l : List (Int × Value)} (g : ∀ e ∈ l, Row P w e) : ElemsOf (PySem.strKind P w) l := fun e he => by
  obtain ⟨y, tk, h1, h2⟩ := g e he
  exact ⟨⟨y, by rw [h1]; exact strKind_is P w y tk, h2⟩, by rw [h1]; rfl⟩
theorem rows_mem {l : List (Int × Value)} (g : ∀ e ∈ l, Row P w e) (x : Str) : x ∈ l.map txt ↔ ∃ e ∈ l, (PySem.strKind P w).is x e.2 = true := by
  rw [List.mem_map]
  exact ⟨fun ⟨e, he, q⟩ => ⟨e, he, (row_is (g e he) x).2 q⟩, fun ⟨e, he, q⟩ => ⟨e, he, (row_is (g e he) x).1 q⟩⟩
theorem Tx.none {o : Obj} (ho : h.get? a = some o) (hx : o.ExactSet) (hd : o.data = .set #[] 0 (.fresh 0 0 (!w.params.followText "set-order"))) : Tx P w h a [] :=
  ⟨o, #[], 0, _, ho, hx, hd, fun e he => by simp at he, by simp, List.nodup_nil, by unfold scanBound; simp, by generalize (!w.params.followText "set-order") = b; cases b <;> rfl, by simp [SetTable.fresh, Ris], by
    cases hq : w.params.followText "set-order"
    · exact .inr rfl
    · exact .inl rfl⟩
end
section
variable {P : Program} {w : World} {A : Around} {E : Value → Shared → Prop} {s : Shared} {a : Addr} {L : List Str}
/-- what a text leaves: the rows with it, laid, perhaps all laid anew -/
theorem stored {say : Bool → Sem Unit} (hsay : ∀ (b : Bool) (s₁ : Shared) (Q' : Unit → Shared → Prop), Q' () s₁ → wpAny (model P w) A (say b) Q' E s₁)
    {o : Obj} {rows : Array (Int × Value)} {ep : Nat} {tab : SetTable} (ho : s.heap.get? a = some o) (hex : o.ExactSet) (hd : o.data = .set rows ep tab)
    {rows1 : Array (Int × Value)} {tab2 : SetTable} {M : List Str} (g1 : ∀ e ∈ rows1.toList, Row P w e) (p1 : (rows1.toList.map txt).Perm M) (nd : M.Nodup)
    (hb1 : rows1.size < scanBound) (hf2 : tab2.fits rows1.size = true) (hr2 : Ris tab2.place.toList) (hl2 : w.params.followText "set-order" = true ∨ tab2.led = true) {wasDummy : Bool} {R : Option Bool → Shared → Prop}
    (hR : ∀ h', Heap.SameBut a s.heap h' → Tx P w h' a M → R (some true) { s with heap := h' }) :
    wpAny (model P w) A (do
        storeSet a rows1 tab2
        if (!wasDummy && tab2.tooFull) = true then do
            say (relayAll tab2 rows1 (SetTable.grown rows1.size)).2.2
            storeSet a (relayAll tab2 rows1 (SetTable.grown rows1.size)).1 (relayAll tab2 rows1 (SetTable.grown rows1.size)).2.1
            pure (some true)
          else pure (some true)) R E s := by
  refine wpAny_bind (wpAny_storeSet_of ho hd ?_ (fits_of_scanBound hb1))
  have at1 := store_at (es' := rows1) (t' := tab2) ho hd
  have same1 := Heap.SameBut.update s.heap a (Obj.putSet rows1 tab2)
  split
  · have z1 := relayAll_perm tab2 rows1 (SetTable.grown rows1.size)
    have z2 := relayAll_fits tab2 rows1 (SetTable.grown rows1.size)
    have z3 := relayAll_ris tab2 rows1 (SetTable.grown rows1.size)
    have z4 := relayAll_led tab2 rows1 (SetTable.grown rows1.size)
    generalize relayAll tab2 rows1 (SetTable.grown rows1.size) = Y at z1 z2 z3 z4 ⊢
    obtain ⟨rows2, tab3, gave⟩ := Y
    dsimp only at z1 z2 z3 z4 ⊢
    have hsz : rows2.size = rows1.size := by rw [← Array.length_toList, z1.length_eq, Array.length_toList]
    refine wpAny_bind (hsay _ _ _ (wpAny_bind (wpAny_storeSet_of at1 rfl ?_ (fits_of_scanBound (by rw [hsz]; exact hb1)))))
    refine wpAny_pure (hR _ (same1.trans (Heap.SameBut.update _ a _)) ⟨_, rows2, _, tab3, store_at (es' := rows2) (t' := tab3) at1 rfl, hex, rfl, fun e he => g1 e (z1.mem_iff.mp he), (z1.map txt).trans p1, nd, by rw [hsz]; exact hb1, z2, z3, hl2.imp id fun z => by rw [z4]; exact z⟩)
  · exact wpAny_pure (hR _ same1 ⟨_, rows1, _, tab2, at1, hex, rfl, g1, p1, nd, hb1, hf2, hr2, hl2⟩)
/-- one more text -/
theorem added {x : Str} {tk : Tok} {Q : Bool → Shared → Prop} (R : Tx P w s.heap a L) (room : L.length + 1 < scanBound)
    (hQ : ∀ h' b, Heap.SameBut a s.heap h' → Tx P w h' a (if x ∈ L then L else x :: L) → Q b { s with heap := h' }) :
    wpAny (model P w) A (setAddHashed a (.str x tk) ((PySem.strKind P w).hash x)) Q E s := by
  obtain ⟨o, rows, ep, tab, ho, hex, hd, g, pm, nd, hb, hf, hr, hl⟩ := R.ex
  have hkey : (PySem.strKind P w).is x (.str x tk) = true := strKind_is P w x tk
  have hscan : (Value.str x tk).scannable = true := rfl
  have hel : ElemsOf (PySem.strKind P w) rows.toList := rows_of g
  unfold setAddHashed setAddHashedIn
  refine wpAny_holding (wpAny_bind (wpAny_setState_of ho hd hf ?_))
  dsimp only
  rw [byScan_of hscan hb hel]
  simp only [↓reduceIte]
  unfold setAddByScan
  refine wpAny_bind (wpAny_bind (wpAny_rule (wpAny_bind (wpAny_setScan_of hkey ho hd hf hel ?_))))
  cases hfi : List.findIdx? (fun e => (PySem.strKind P w).is x e.2) rows.toList with
  | some j =>
    dsimp only
    obtain ⟨hj, pj, _⟩ := List.findIdx?_eq_some_iff_getElem.mp hfi
    have hin : x ∈ L := pm.mem_iff.mp ((rows_mem g x).2 ⟨rows.toList[j], List.getElem_mem hj, pj⟩)
    exact wpAny_pure (wpAny_pure (hQ s.heap false (Heap.SameBut.refl a s.heap) (by rw [if_pos hin]; exact R)))
  | none =>
    dsimp only
    have hno : x ∉ L := fun z => by
      obtain ⟨e, he, q⟩ := (rows_mem g x).1 (pm.mem_iff.mpr z)
      have := List.findIdx?_eq_none_iff.mp hfi e he
      rw [q] at this
      cases this
    have told : ∀ (b : Bool) {s₁ : Shared} {Q' : Unit → Shared → Prop}, Q' () s₁ → wpAny (model P w) A (match b with | true => rule "set.scan.the-table-gave-way" | false => pure ()) Q' E s₁ :=
      fun b s₁ Q' q => match b with
        | true => wpAny_rule q
        | false => wpAny_pure q
    have z1 := layNew_perm tab rows ((PySem.strKind P w).hash x) (.str x tk)
    have z2 := layNew_fits tab rows ((PySem.strKind P w).hash x) (.str x tk)
    have z3 := layNew_ris tab rows ((PySem.strKind P w).hash x) (.str x tk) hr
    have z4 := layNew_led tab rows ((PySem.strKind P w).hash x) (.str x tk)
    generalize layNew tab rows ((PySem.strKind P w).hash x) (.str x tk) = Y at z1 z2 z3 z4 ⊢
    obtain ⟨rows1, tab1, wasDummy, gave⟩ := Y
    dsimp only at z1 z2 z3 z4 ⊢
    rw [Array.toList_push] at z1
    have pc : rows1.toList.Perm (((PySem.strKind P w).hash x, Value.str x tk) :: rows.toList) := z1.trans (List.perm_append_singleton _ _)
    have p1 : (rows1.toList.map txt).Perm (x :: L) := (pc.map txt).trans (pm.cons x)
    have g1 : ∀ e ∈ rows1.toList, Row P w e := fun e he => by
      rcases List.mem_cons.mp (pc.mem_iff.mp he) with z | z
      · rw [z]; exact ⟨x, tk, rfl, rfl⟩
      · exact g e z
    have nd1 : (x :: L).Nodup := List.nodup_cons.mpr ⟨hno, nd⟩
    have hsz : rows1.size = L.length + 1 := by
      have e1 := p1.length_eq
      rw [List.length_map, Array.length_toList] at e1
      exact e1
    have hb1 : rows1.size < scanBound := by rw [hsz]; exact room
    have led1 : w.params.followText "set-order" = true ∨ tab1.led = true := hl.imp id fun z => by rw [z4]; exact z
    have fin : ∀ h', Heap.SameBut a s.heap h' → Tx P w h' a (x :: L) → Q true { s with heap := h' } := fun h' sb r => hQ h' true sb (by rw [if_neg hno]; exact r)
    refine wpAny_bind (told _ ?_)
    split
    · refine wpAny_bind ?_
      rw [hashByValue_scannable 8 hscan]
      refine wpAny_pure (stored ?_ ho hex hd g1 p1 nd1 hb1 ?_ ?_ ?_ ?_)
      · exact fun b s₁ Q' q => told b q
      · first | (split <;> first | exact z2 | exact SetTable.fits_plain_off z2) | exact z2
      · first | (split <;> exact z3) | exact z3
      · first | (split <;> exact led1) | exact led1
      · exact fun h' sb r => wpAny_pure (fin h' sb r)
    · refine wpAny_bind (wpAny_pure ?_)
      simp only [↓reduceIte]
      exact stored (fun b s₁ Q' q => told b q) ho hex hd g1 p1 nd1 hb1 z2 z3 led1 fun h' sb r => wpAny_pure (fin h' sb r)
end
section
variable {prog : Program} {w : World} {A : Around} {R : Result → Shared → Prop} {I : Addr} {fp wr : List Addr} {G : Array GenState → Array GenState → Prop} {n : Nat} {P : Nat → Value → Prop} {St : Nat → Shared → Prop}
/-- all texts of a walk are put in -/
theorem putAll (W : WalksS prog w A.in1 I fp wr G n P St) (D : Addr) (hD : D ∉ fp) (xs : List Str) (hsz : xs.length = n) (hval : ∀ i v, P i v → ∃ t, v = .str (xs.getD i Str.empty) t) (room : n + 1 < scanBound) :
    ∀ (todo i : Nat) (s : Shared) (L : List Str), n - i = todo → i ≤ n → St i s → L.length ≤ i → (∀ x, x ∈ L ↔ x ∈ xs.take i) → Tx prog w s.heap D L →
      (∀ s' L', Moved (D :: wr) G s s' → (∀ x, x ∈ L' ↔ x ∈ xs) → L'.length ≤ n → Tx prog w s'.heap D L' → R (.ok (.ret .none)) s') →
      codeAny (model prog w) A (.builtin "set.update.loop" ⟨[.ref D, .ref I], []⟩) R s := by
  have hDw : D ∉ wr := fun z => hD (W.sub _ z)
  have hsub : ∀ b ∈ wr, b ∈ D :: wr := fun b hb => List.mem_cons_of_mem _ hb
  intro todo
  induction todo with
  | zero =>
    intro i s L hk hi hst hll hmem hL hR
    obtain rfl : i = n := by omega
    refine codeAny_builtin PyProof.Rows.F.entry_set_update_loop ?_
    rw [Around.under_plainId PyProof.Rows.F.plain_set_update_loop _]
    show wpAny _ A.in1 (pyNext (.ref I) >>= _) _ _ s
    refine wpAny_bind (W.done s _ _ hst fun s' hm => ?_)
    show wpAny _ A.in1 (ret Value.none) _ _ s'
    exact wpAny_pure (hR s' L (hm.mono hsub) (fun x => by rw [hmem x, ← hsz, List.take_length]) hll (hL.at fun u hu => hm.heap D _ hDw hu))
  | succ todo ih =>
    intro i s L hk hi hst hll hmem hL hR
    have hlt : i < n := by omega
    refine codeAny_builtin PyProof.Rows.F.entry_set_update_loop ?_
    rw [Around.under_plainId PyProof.Rows.F.plain_set_update_loop _]
    show wpAny _ A.in1 (pyNext (.ref I) >>= _) _ _ s
    refine wpAny_bind (W.item i s _ _ hlt hst fun v s' hP hst' hm => ?_)
    obtain ⟨t, rfl⟩ := hval i v hP
    have hx : xs[i]? = some (xs.getD i Str.empty) := by
      rw [List.getD_eq_getElem?_getD, List.getElem?_eq_getElem (by omega)]
      rfl
    generalize xs.getD i Str.empty = x at hx ⊢
    have hL' : Tx prog w s'.heap D L := hL.at fun u hu => hm.heap D _ hDw hu
    show wpAny _ A.in1 (holding [Value.str x t] (setAdd D (.str x t)) >>= _) _ _ s'
    refine wpAny_bind (wpAny_holding ?_)
    unfold setAdd
    refine wpAny_holding (wpAny_bind ((PySem.strKind prog w).pyHash (k := x) (strKind_is _ _ _ _) ?_))
    refine added (s := { s' with toks := s'.toks + 1 }) hL' (by omega) fun h' b same hnew => ?_
    have hmem' : ∀ y, y ∈ (if x ∈ L then L else x :: L) ↔ y ∈ xs.take (i + 1) := fun y => by
      have e1 : xs.take (i + 1) = xs.take i ++ [x] := by rw [List.take_add_one, hx]; rfl
      rw [e1, List.mem_append, List.mem_singleton, ← hmem y]
      split
      · rename_i hin
        exact ⟨.inl, fun z => z.elim id fun e => e ▸ hin⟩
      · rw [List.mem_cons]
        exact Or.comm
    have hlen' : (if x ∈ L then L else x :: L).length ≤ i + 1 := by
      split
      · omega
      · simp only [List.length_cons]; omega
    refine wpAny_pure ⟨plainId_quiet PyProof.Rows.F.plain_set_update_loop _, ih (i + 1) _ _ (by omega) hlt (W.frame _ s' _ _ hst' (Nat.le_succ _) fun c hc u e => ?_) hlen' hmem' hnew fun s2 L2 m2 h2 l2 t2 => ?_⟩
    · rw [same.2 c fun z : c = D => hD (by rw [← z]; exact hc)]
      exact e
    · refine hR s2 L2 (Moved.trans W.gtrans ((hm.mono hsub).then_heap (Nat.le_succ _) fun c u hc e => ?_) m2) h2 l2 t2
      rw [same.2 c fun z : c = D => hc (by rw [z]; exact List.mem_cons_self)]
      exact e
end
end TxS
set_option maxHeartbeats 4000000
namespace TxS
open PySem PySem.Spec PyProof.Rows L2
section
variable {prog : Program} {w : World} {A : Around} {E : Value → Shared → Prop} {s : Shared}
theorem made_list {l : Addr} {items : Array Value} {xs : List Str} {Q : Value → Shared → Prop} (free : A.handled = none) (hl : s.heap.IsList l items) (hi : PyProof.Rows.StrsAre items.toList xs) (room : xs.length + 1 < scanBound)
    (h : ∀ (h' : Heap) (tk : Nat) (L : List Str), Tx prog w h' s.heap.objs.size L → (∀ x, x ∈ L ↔ x ∈ xs) → L.length ≤ xs.length → (∀ b o, b < s.heap.objs.size → s.heap.get? b = some o → h'.get? b = some o) → Q (.ref s.heap.objs.size) { s with heap := h', toks := tk }) :
    wpAny (model prog w) A (call (.type "set") [.ref l]) Q E s := by
  obtain ⟨c, tl, k1⟩ := PySem.F.called_set.mro
  have k2 := PySem.F.called_set.made
  have k3 := PySem.F.called_set.sub
  refine wpAny_call (codeAny_of_tree (?_ : wpAny _ _ (callAny (.type "set") _) _ _ _))
  refine wpAny_pure ⟨Code.quiet_builtin _ (by decide +kernel), codeAny_builtin PySem.F.entry_type_call ?_⟩
  rw [Around.under_plain (weight_type_call_type "set" [.ref l] []) rfl]
  have k4 := PySem.F.called_set.notType
  have k5 := PySem.F.called_set.canCreate
  have k6 := PySem.F.typeCall_set_1 (.ref l)
  repeat (any_goals (first | assumption | wp_step))
  let fresh : Obj := { cls := .type "set", dict := none, data := .set #[] 0 (.fresh 0 0 (!w.params.followText "set-order")) }
  refine codeAny_mono (code_set_led1 (.ref l) (E := E) (Q₁ := fun u s₁ => u = .ref s.heap.objs.size ∧ s₁ = { s with heap := s.heap.push fresh }) ⟨rfl, rfl⟩) fun r s₁ hr => ?_
  cases r
  case error => exact hr
  rename_i fl
  cases fl
  case next => exact hr.elim
  case brk => exact hr.elim
  case cont => exact hr.elim
  case ret =>
    obtain ⟨rfl, rfl⟩ := hr
    have hat : (s.heap.push fresh).get? s.heap.objs.size = some fresh := Heap.get?_push_size _ rfl
    have hty : Shared.TypeIs { s with heap := s.heap.push fresh } (.ref s.heap.objs.size) "set" := ⟨_, hat, rfl⟩
    have k7 := PySem.F.called_set.init.lookup
    have k8 := PySem.F.called_set.init.bind (.ref s.heap.objs.size)
    repeat (any_goals (first | assumption | wp_step))
    refine codeAny_mono (codeAny_call_builtin (R := wants (fun u s₂ => u = .none ∧ ∃ h' tk L, s₂ = { s with heap := h', toks := tk } ∧ Tx prog w h' s.heap.objs.size L ∧ (∀ x, x ∈ L ↔ x ∈ xs) ∧ L.length ≤ xs.length ∧ (∀ b o, b < s.heap.objs.size → s.heap.get? b = some o → h'.get? b = some o)) E)
      PySem.F.called_set.init.plain PySem.F.entry_set_init (check_set_init_1 hty ?_)) fun r₂ s₂ hr₂ => ?_
    · obtain ⟨⟨_, od, _, osl⟩, hol, hcl, nl, hdl⟩ := hl
      simp only at hcl hdl
      subst hcl hdl
      have hol' : (s.heap.push fresh).get? l = some { cls := .type "list", dict := od, data := .seq items nl, slots := osl } := Heap.get?_push_of_some _ hol
      have k9 := PySem.F.sub_list_set
      have k10 := PySem.F.sub_list_frozenset
      have k11 : (Value.type "list" == Value.type "dict") = false := by decide
      have hl1 : (s.heap.push fresh).IsList l items := ⟨_, hol', rfl, nl, rfl⟩
      unfold Builtin.«set.__init__» noKeywords Builtin.Frozenset.updateFrom
      generalize hPI : pyIter = PI
      wp_walk
      subst hPI
      refine wpAny_pyIter_list hl1 (wpAny_bind (wpAny_runValue ?_))
      have lsz : l < s.heap.objs.size := Heap.lt_size hol
      have free3 : A.in1.in1.in1.handled = none := by simp [free]
      have psz : (s.heap.push fresh).objs.size = s.heap.objs.size + 1 := Heap.size_push ..
      have far : l ≠ (s.heap.push fresh).objs.size := by rw [psz]; exact Nat.ne_of_lt (Nat.lt_succ_of_lt lsz)
      have out : s.heap.objs.size ∉ [(s.heap.push fresh).objs.size, l] := by
        rw [psz]
        simp only [List.mem_cons, List.not_mem_nil, or_false, not_or]
        exact ⟨Nat.ne_of_lt (Nat.lt_succ_self _), Nat.ne_of_gt lsz⟩
      have cnt : xs.length = items.size := by rw [← StrsAre.len_eq hi, Array.length_toList]
      refine putAll ((Walks.list free3 _ l far items).toS) s.heap.objs.size out xs cnt (fun i v hv => SS.strs_at hi i v (by rw [Array.getElem?_toList]; exact hv)) (by omega) (items.size - 0) 0 _ [] (by omega) (Nat.zero_le _)
        ⟨⟨_, Heap.get?_push_size _ rfl, rfl, rfl⟩, (hl1.push _)⟩ (Nat.le_refl _) (fun x => by simp) ?one ?two
      case one =>
        have at2 : ((s.heap.push fresh).push { cls := .type "list_iterator", data := .fields #[.ref l, .int 0 0] }).get? s.heap.objs.size = some fresh := Heap.get?_push_of_some _ hat
        exact Tx.none at2 ⟨rfl, rfl, rfl⟩ rfl
      case two =>
        rintro ⟨h2, g2, d2, tk2, os2⟩ L2 hm hmem hlen hTx
        obtain rfl : g2 = s.gens := hm.gens
        obtain rfl : d2 = s.drawn := hm.drawn
        obtain rfl : os2 = s.os := hm.os
        refine wpAny_pure (show wpAny _ _ (ret Value.none) _ _ _ from wpAny_pure ⟨rfl, h2, tk2, L2, rfl, hTx, hmem, by omega, fun b u hb e => ?_⟩)
        exact hm.heap b u (by
          rw [psz]
          simp only [List.mem_cons, List.not_mem_nil, or_false, not_or]
          exact ⟨Nat.ne_of_lt hb, Nat.ne_of_lt (Nat.lt_succ_of_lt hb)⟩) (Heap.get?_push_of_some _ (Heap.get?_push_of_some _ e))
    · cases r₂
      case error => exact hr₂
      rename_i fl₂
      cases fl₂
      case next => exact hr₂.elim
      case brk => exact hr₂.elim
      case cont => exact hr₂.elim
      case ret =>
        obtain ⟨rfl, h2, tk2, L2, rfl, t1, t2, t3, t4⟩ := hr₂
        repeat (any_goals (first | assumption | wp_step))
        exact h _ _ _ t1 t2 t3 t4
end
end TxS
set_option maxHeartbeats 4000000
namespace TxS
open PySem PySem.Spec PyProof.Rows L2
section
variable {prog : Program} {w : World} {A : Around} {E : Value → Shared → Prop} {s : Shared}
theorem made_tuple {l : Addr} {items : Array Value} {xs : List Str} {Q : Value → Shared → Prop} (free : A.handled = none) (hl : s.heap.IsTuple l items) (hi : PyProof.Rows.StrsAre items.toList xs) (room : xs.length + 1 < scanBound)
    (h : ∀ (h' : Heap) (tk : Nat) (L : List Str), Tx prog w h' s.heap.objs.size L → (∀ x, x ∈ L ↔ x ∈ xs) → L.length ≤ xs.length → (∀ b o, b < s.heap.objs.size → s.heap.get? b = some o → h'.get? b = some o) → Q (.ref s.heap.objs.size) { s with heap := h', toks := tk }) :
    wpAny (model prog w) A (call (.type "set") [.ref l]) Q E s := by
  obtain ⟨c, tl, k1⟩ := PySem.F.called_set.mro
  have k2 := PySem.F.called_set.made
  have k3 := PySem.F.called_set.sub
  refine wpAny_call (codeAny_of_tree (?_ : wpAny _ _ (callAny (.type "set") _) _ _ _))
  refine wpAny_pure ⟨Code.quiet_builtin _ (by decide +kernel), codeAny_builtin PySem.F.entry_type_call ?_⟩
  rw [Around.under_plain (weight_type_call_type "set" [.ref l] []) rfl]
  have k4 := PySem.F.called_set.notType
  have k5 := PySem.F.called_set.canCreate
  have k6 := PySem.F.typeCall_set_1 (.ref l)
  repeat (any_goals (first | assumption | wp_step))
  let fresh : Obj := { cls := .type "set", dict := none, data := .set #[] 0 (.fresh 0 0 (!w.params.followText "set-order")) }
  refine codeAny_mono (code_set_led1 (.ref l) (E := E) (Q₁ := fun u s₁ => u = .ref s.heap.objs.size ∧ s₁ = { s with heap := s.heap.push fresh }) ⟨rfl, rfl⟩) fun r s₁ hr => ?_
  cases r
  case error => exact hr
  rename_i fl
  cases fl
  case next => exact hr.elim
  case brk => exact hr.elim
  case cont => exact hr.elim
  case ret =>
    obtain ⟨rfl, rfl⟩ := hr
    have hat : (s.heap.push fresh).get? s.heap.objs.size = some fresh := Heap.get?_push_size _ rfl
    have hty : Shared.TypeIs { s with heap := s.heap.push fresh } (.ref s.heap.objs.size) "set" := ⟨_, hat, rfl⟩
    have k7 := PySem.F.called_set.init.lookup
    have k8 := PySem.F.called_set.init.bind (.ref s.heap.objs.size)
    repeat (any_goals (first | assumption | wp_step))
    refine codeAny_mono (codeAny_call_builtin (R := wants (fun u s₂ => u = .none ∧ ∃ h' tk L, s₂ = { s with heap := h', toks := tk } ∧ Tx prog w h' s.heap.objs.size L ∧ (∀ x, x ∈ L ↔ x ∈ xs) ∧ L.length ≤ xs.length ∧ (∀ b o, b < s.heap.objs.size → s.heap.get? b = some o → h'.get? b = some o)) E)
      PySem.F.called_set.init.plain PySem.F.entry_set_init (check_set_init_1 hty ?_)) fun r₂ s₂ hr₂ => ?_
    · obtain ⟨⟨_, od, _, osl⟩, hol, hcl, nl, hdl⟩ := hl
      simp only at hcl hdl
      subst hcl hdl
      have hol' : (s.heap.push fresh).get? l = some { cls := .type "tuple", dict := od, data := .seq items nl, slots := osl } := Heap.get?_push_of_some _ hol
      have k9 := PySem.F.sub_tuple_set
      have k10 := PySem.F.sub_tuple_frozenset
      have k11 : (Value.type "tuple" == Value.type "dict") = false := by decide
      have hl1 : (s.heap.push fresh).IsTuple l items := ⟨_, hol', rfl, nl, rfl⟩
      unfold Builtin.«set.__init__» noKeywords Builtin.Frozenset.updateFrom
      generalize hPI : pyIter = PI
      wp_walk
      subst hPI
      refine wpAny_pyIter_tuple hl1 (wpAny_bind (wpAny_runValue ?_))
      have lsz : l < s.heap.objs.size := Heap.lt_size hol
      have free3 : A.in1.in1.in1.handled = none := by simp [free]
      have psz : (s.heap.push fresh).objs.size = s.heap.objs.size + 1 := Heap.size_push ..
      have far : l ≠ (s.heap.push fresh).objs.size := by rw [psz]; exact Nat.ne_of_lt (Nat.lt_succ_of_lt lsz)
      have out : s.heap.objs.size ∉ [(s.heap.push fresh).objs.size, l] := by
        rw [psz]
        simp only [List.mem_cons, List.not_mem_nil, or_false, not_or]
        exact ⟨Nat.ne_of_lt (Nat.lt_succ_self _), Nat.ne_of_gt lsz⟩
      have cnt : xs.length = items.size := by rw [← StrsAre.len_eq hi, Array.length_toList]
      refine putAll ((Walks.tuple free3 _ l far items).toS) s.heap.objs.size out xs cnt (fun i v hv => SS.strs_at hi i v (by rw [Array.getElem?_toList]; exact hv)) (by omega) (items.size - 0) 0 _ [] (by omega) (Nat.zero_le _)
        ⟨⟨_, Heap.get?_push_size _ rfl, rfl, rfl⟩, (hl1.push _)⟩ (Nat.le_refl _) (fun x => by simp) ?one ?two
      case one =>
        have at2 : ((s.heap.push fresh).push { cls := .type "tuple_iterator", data := .fields #[.ref l, .int 0 0] }).get? s.heap.objs.size = some fresh := Heap.get?_push_of_some _ hat
        exact Tx.none at2 ⟨rfl, rfl, rfl⟩ rfl
      case two =>
        rintro ⟨h2, g2, d2, tk2, os2⟩ L2 hm hmem hlen hTx
        obtain rfl : g2 = s.gens := hm.gens
        obtain rfl : d2 = s.drawn := hm.drawn
        obtain rfl : os2 = s.os := hm.os
        refine wpAny_pure (show wpAny _ _ (ret Value.none) _ _ _ from wpAny_pure ⟨rfl, h2, tk2, L2, rfl, hTx, hmem, by omega, fun b u hb e => ?_⟩)
        exact hm.heap b u (by
          rw [psz]
          simp only [List.mem_cons, List.not_mem_nil, or_false, not_or]
          exact ⟨Nat.ne_of_lt hb, Nat.ne_of_lt (Nat.lt_succ_of_lt hb)⟩) (Heap.get?_push_of_some _ (Heap.get?_push_of_some _ e))
    · cases r₂
      case error => exact hr₂
      rename_i fl₂
      cases fl₂
      case next => exact hr₂.elim
      case brk => exact hr₂.elim
      case cont => exact hr₂.elim
      case ret =>
        obtain ⟨rfl, h2, tk2, L2, rfl, t1, t2, t3, t4⟩ := hr₂
        repeat (any_goals (first | assumption | wp_step))
        exact h _ _ _ t1 t2 t3 t4
end
end TxS
set_option maxHeartbeats 4000000
namespace TxS
open PySem PySem.Spec PyProof.Rows L2
open PySem.W (AllAlike Sortable dataLe EachIs)
/-- a text and its datum -/
def said (v : Value) : PyData × V := match v with
  | .str x _ => (.str x, .str x)
  | _ => (.none, .non)
def word (v : Value) : Str := match v with
  | .str x _ => x
  | _ => Str.empty
theorem vals_said : ∀ {ps : List (PyData × V)} {us : List Value}, EachIs (fun u p => RelV p.2 u) us ps → Vals (ps.map (·.2)) us
  | [], _, .nil => .nil
  | p :: ps, _, .cons r t => .cons r (vals_said t)
def asc (xs : List Str) : List Str := xs.mergeSort (dataLe false PyData.str)
section
variable {prog : Program} {w : World} {A : Around} {E : Value → Shared → Prop} {s : Shared} {a : Addr} {L : List Str}
theorem told_up (R : Tx prog w s.heap a L) (free : A.handled = none) (hu : A.units + 64 < cLine) {Q : Value → Shared → Prop}
    (hQ : ∀ s' p (out : Array Value) (c : Nat) (M : List Str), (∀ b o, s.heap.get? b = some o → s'.heap.get? b = some o) → s'.gens = s.gens → s'.os = s.os → s.heap.objs.size ≤ p → s'.heap.get? p = some (seqObj "list" out c) →
      Vals ((asc M).map V.str) out.toList → M.Perm L → Q (.ref p) s') :
    wpAny (model prog w) A (call (.builtin "sorted") [.ref a]) Q E s := by
  obtain ⟨o, rows, ep, tab, ho, hex, hd, g, pm, nd, hb, hf, hr, hl⟩ := R.ex
  refine Calls.call_function_entry kind_sorted plain_sorted entry_sorted (args_sorted1 _) ?_
  unfold Builtin.«sorted»
  refine wpAny_bind (m := checkCount "sorted" 1 1 _) (wpAny_pure ?_)
  refine wpAny_bind (collect_set (A := A.in1) free ⟨o, ho, hex.1, hd⟩ hf hb hr hl fun s1 vs k1 hz g1 o1 pv => ?_)
  have isStr : ∀ v ∈ vs, ∃ x tk, v = Value.str x tk := fun v hv => by
    obtain ⟨e, he, q⟩ := List.mem_map.mp (pv.mem_iff.mp hv)
    obtain ⟨x, tk, h1, _⟩ := g e he
    exact ⟨x, tk, by rw [← q]; exact h1⟩
  have hwords : (vs.map word).Perm L := by
    have q := pv.map word
    rw [List.map_map] at q
    exact q.trans pm
  have hvl : vs.length ≤ sizeLine := by
    have e0 : vs.length = rows.size := by rw [pv.length_eq, List.length_map, Array.length_toList]
    rw [e0, sizeLine_eq]
    unfold scanBound at hb
    omega
  refine wpAny_bind (wpAny_newList ?_ hvl)
  have hat : (s1.heap.push (seqObj "list" vs.toArray 0)).get? s1.heap.objs.size = some (seqObj "list" vs.toArray 0) := Heap.get?_push_size _ rfl
  have rd : ∀ (h : Heap) (us : List Value), (∀ v ∈ us, ∃ x tk, v = Value.str x tk) → EachIs (fun u (p : PyData × V) => ∃ as, Reads h u p.1 as) us (us.map said) := fun h us => by
    induction us with
    | nil => exact fun _ => .nil
    | cons u us ih =>
      intro hs
      obtain ⟨x, tk, rfl⟩ := hs u List.mem_cons_self
      exact .cons ⟨[], .str x tk⟩ (ih fun v hv => hs v (List.mem_cons_of_mem _ hv))
  have rl : ∀ (us : List Value), (∀ v ∈ us, ∃ x tk, v = Value.str x tk) → EachIs (fun u (p : PyData × V) => RelV p.2 u) us (us.map said) := fun us => by
    induction us with
    | nil => exact fun _ => .nil
    | cons u us ih =>
      intro hs
      obtain ⟨x, tk, rfl⟩ := hs u List.mem_cons_self
      exact .cons ⟨tk, rfl⟩ (ih fun v hv => hs v (List.mem_cons_of_mem _ hv))
  have sd : ∀ p ∈ vs.map said, ∃ x, p = (PyData.str x, V.str x) := fun p hp => by
    obtain ⟨v, hv, rfl⟩ := List.mem_map.mp hp
    obtain ⟨x, tk, rfl⟩ := isStr v hv
    exact ⟨x, rfl⟩
  have hal : AllAlike ((vs.map said).map (·.1)) := fun d hd d' hd' => by
    obtain ⟨p, hp, rfl⟩ := List.mem_map.mp hd
    obtain ⟨p', hp', rfl⟩ := List.mem_map.mp hd'
    obtain ⟨x, rfl⟩ := sd p hp
    obtain ⟨x', rfl⟩ := sd p' hp'
    rfl
  have hso : Sortable ((vs.map said).map (·.1)) := .inr fun d hd => by
    obtain ⟨p, hp, rfl⟩ := List.mem_map.mp hd
    obtain ⟨x, rfl⟩ := sd p hp
    exact ⟨nofun, nofun⟩
  have er := rd (PySem.W.sortingHeap (s1.heap.push (seqObj "list" vs.toArray 0)) s1.heap.objs.size vs) vs isStr
  have el := rl vs isStr
  refine wpAny_bind (wpAny_holding (wpAny_call_entry_kw slot_list_sort ⟨_, hat, rfl⟩ entry_list_sort ?_ (args_list_sort _)))
  suffices body : wpAny (model prog w) A.in1.in1 (Builtin.«list.sort» ⟨[.ref s1.heap.objs.size], []⟩) (fun f s' => f = .done (.ret .none) ∧ Q (.ref s1.heap.objs.size) s') _ { s1 with heap := s1.heap.push (seqObj "list" vs.toArray 0) } by
    refine wpAny_mono body (fun f s' hf => ?_) fun _ _ e => e
    obtain ⟨rfl, hq⟩ := hf
    exact ⟨_, rfl, wpAny_pure ⟨_, rfl, hq⟩⟩
  refine PySem.W.list_sort_vals (s := { s1 with heap := s1.heap.push (seqObj "list" vs.toArray 0) }) hat
    (PySem.W.SortsAt.data (s := { s1 with heap := PySem.W.sortingHeap (s1.heap.push (seqObj "list" vs.toArray 0)) s1.heap.objs.size vs }) (PySem.W.each_map (β := PyData × V) (R := fun v d => ∃ as, Reads (PySem.W.sortingHeap (s1.heap.push (seqObj "list" vs.toArray 0)) s1.heap.objs.size vs) v d as) (·.1) er) hal hso
      (PySem.W.bound_map fun b hb => by
        obtain ⟨x, rfl⟩ := sd b hb
        show A.units + 1 + 1 + _ < _
        simp only [PyData.depth]
        omega)) hvl ⟨rfl, ?_⟩
  · have eo : EachIs (fun u (p : PyData × V) => RelV p.2 u) _ ((vs.map said).mergeSort (dataLe false (·.1))) := PySem.W.sortVals_data false el er hal
    obtain ⟨c, hcc⟩ := sortedHeap_at (h := s1.heap.push (seqObj "list" vs.toArray 0)) (vs := vs) (out := (PySem.W.sortVals (PySem.W.dataKind (PySem.W.sortingHeap (s1.heap.push (seqObj "list" vs.toArray 0)) s1.heap.objs.size vs) ((vs.map said).map (·.1))) false vs vs).toArray) (n := 0) hat
    have kept : ∀ b ob, s.heap.get? b = some ob → (sortedHeap (s1.heap.push (seqObj "list" vs.toArray 0)) s1.heap.objs.size vs (PySem.W.sortVals (PySem.W.dataKind (PySem.W.sortingHeap (s1.heap.push (seqObj "list" vs.toArray 0)) s1.heap.objs.size vs) ((vs.map said).map (·.1))) false vs vs).toArray).get? b = some ob := fun b ob eb => by
      have hb' := k1 b ob eb
      rw [sortedHeap_old (Nat.ne_of_lt (Heap.lt_size hb')) (by rw [size_push']; exact Nat.lt_succ_of_lt (Heap.lt_size hb'))]
      exact Heap.get?_push_of_some _ hb'
    refine hQ _ s1.heap.objs.size _ c (vs.map word) kept g1 o1 hz hcc ?_ hwords
    have e1 : (vs.map said).mergeSort (dataLe false (·.1)) = (asc (vs.map word)).map fun x => (PyData.str x, V.str x) := by
      have e2 : vs.map said = (vs.map word).map fun x => (PyData.str x, V.str x) := by
        rw [List.map_map]
        refine List.map_congr_left fun v hv => ?_
        obtain ⟨x, tk, rfl⟩ := isStr v hv
        rfl
      rw [e2, DL.sort_map]
      rfl
    rw [e1] at eo
    have := vals_said eo
    rw [List.map_map] at this
    exact this
end
end TxS
namespace L2
open PySem PySem.Spec PyProof.Rows
/-- sorted(set(e)), e a list or a tuple of texts -/
def tSortTx (K : PySem.W.Frag) (ta : TE) : TE := fun σ H Q => ta σ H fun x H1 => ∃ (l : Addr) (xs : List Str), x = .ref l ∧ (SqL K H1 l (xs.map V.str) ∨ SqT K H1 l (xs.map V.str)) ∧ xs.length < 4000 ∧
  ∀ (M : List Str) (p : Addr), M.Nodup → (∀ y, y ∈ M ↔ y ∈ xs) → H1 p = none → Q (.ref p) (upd H1 p (.lst ((TxS.asc M).map V.str)))
theorem pe_sortTx {X : Cx} {a : Expr} {ta : TE} {p p2 q pos : Pos} (hc : X.calm = true) (hu : X.A.units + 64 < cLine) (hg : Gl X "sorted") (hm : X.mg "sorted" = none) (hg2 : Gl X "set") (hm2 : X.mg "set" = none) (ha : PE X a ta)
    (na : starEach [a] X.env = (false, eval a X.env) :: starEach [] X.env := by rfl) : PE X (.Call (.Name "sorted" p) [.Call (.Name "set" p2) [a] [] q] [] pos) (tSortTx X.K ta) := by
  refine ⟨fun pins s σ H Q I h => ?_⟩
  refine Call_ (ld_blt I hg hm boot_sorted ?_)
  refine PyProof.Rows.callWith_builtin1 (PyProof.Rows.args_cons ?_ rfl) rfl rfl
  refine Call_ (ld_blt I hg2 hm2 boot_set ?_)
  refine PyProof.Rows.callWith_type1 (PyProof.Rows.args_cons (thn (ha.run pins s σ H _ I h) fun v s1 ⟨x, H1, I1, r1, q1⟩ => PyProof.Rows.args_nil ?_) na) na rfl
  obtain ⟨l, xs, rfl, hq, few, q1⟩ := q1
  cases r1
  have fin : ∀ (h' : Heap) (tk : Nat) (L : List Str), TxS.Tx X.prog X.w h' s1.heap.objs.size L → (∀ x, x ∈ L ↔ x ∈ xs) → L.length ≤ xs.length → (∀ b o, b < s1.heap.objs.size → s1.heap.get? b = some o → h'.get? b = some o) →
      wpAny (model X.prog X.w) X.A (spliced (backTo pos (starEach [] X.env))) (fun vs s₂ => wpAny (model X.prog X.w) X.A (call (.builtin "sorted") (Value.ref s1.heap.objs.size :: vs)) (EP X pins σ Q) X.xe s₂) X.xe { s1 with heap := h', toks := tk } := fun h' tk L hT hmem hlen hk => by
    refine PyProof.Rows.args_nil ?_
    have kp : ∀ b o, s1.heap.get? b = some o → h'.get? b = some o := fun b o e => hk b o (Heap.lt_size e) e
    have ndL : L.Nodup := by
      obtain ⟨_, _, _, _, _, _, _, _, _, nd, _⟩ := hT.ex
      exact nd
    refine TxS.told_up (s := { s1 with heap := h', toks := tk }) hT (I1.ok.hd hc) hu fun s' p out c M k g o hp hgt hv pm => ?_
    have kept : ∀ b ob, s1.heap.get? b = some ob → s'.heap.get? b = some ob := fun b ob e => k b ob (kp b ob e)
    have hp0 : s1.heap.get? p = none := by
      cases eb : s1.heap.get? p with
      | none => rfl
      | some ob =>
        have z1 := Heap.lt_size eb
        have z2 : s1.heap.objs.size < h'.objs.size := by
          obtain ⟨_, _, _, _, ho, _⟩ := hT.ex
          exact Heap.lt_size ho
        exact absurd (Nat.lt_of_lt_of_le (Nat.lt_trans z1 z2) hp) (Nat.lt_irrefl _)
    have hn : H1 p = none := I1.hok.gone hp0
    have hlen' : ((TxS.asc M).map V.str).length ≤ sizeLine := by
      rw [List.length_map]
      unfold TxS.asc
      rw [List.length_mergeSort, pm.length_eq, sizeLine_eq]
      omega
    have eg : s'.gens = s1.gens := g
    have J : Inv X pins σ (upd H1 p (.lst ((TxS.asc M).map V.str))) { s1 with heap := s'.heap, toks := s'.toks, gens := s'.gens, drawn := s'.drawn } :=
      I1.call (ch := []) (Un.laidN kept hp0 hn) (I1.hok.laidN kept hn ⟨hlen', out.toList, c, hv, hgt⟩) (by rw [eg]; exact I1.bare) (fun _ z => nomatch z)
    have e : s' = { s1 with heap := s'.heap, toks := s'.toks, gens := s'.gens, drawn := s'.drawn } := by
      cases s'
      cases s1
      cases o
      rfl
    refine ⟨.ref p, _, ?_, rfl, q1 M p (pm.nodup_iff.mpr ndL) (fun y => (pm.mem_iff).trans (hmem y)) hn⟩
    rw [e]
    exact J
  rcases hq with hq | hq
  · obtain ⟨its, r, pl, hz⟩ := I1.list hq
    exact TxS.made_list (I1.ok.hd hc) pl.isList (by simpa using strsAre_of r) (by unfold scanBound; omega) fin
  · obtain ⟨its, r, pl, hz⟩ := I1.tuple hq
    exact TxS.made_tuple (I1.ok.hd hc) pl (by simpa using strsAre_of r) (by unfold scanBound; omega) fin
end L2
namespace DL
open PySem L2 PySem.Spec
open PyProof.Rows hiding St
variable [TC : TabCtx]
def dSortTx : DN := fun ds st Q => match ds with
  | [x] => ∃ xs : List Str, itemsD st x = some (xs.map .str) ∧ xs.length < 4000 ∧ ∀ M : List Str, M.Nodup → (∀ y, y ∈ M ↔ y ∈ xs) → Q (.loc st.length) (st ++ [.lst ((TxS.asc M).map .str)])
  | _ => False
section
variable {X : Cx} {W : WX} {e : Expr} {te : DTE} {p p2 q pos : Pos}
theorem de_sortTx (hc : X.calm = true) (hu : X.A.units + 64 < cLine) (hg : Gl X "sorted") (hm : X.mg "sorted" = none) (hg2 : Gl X "set") (hm2 : X.mg "set" = none) (ha : DE X W e te)
    (na : starEach [e] X.env = (false, eval e X.env) :: starEach [] X.env := by rfl) : DE X W (.Call (.Name "sorted" p) [.Call (.Name "set" p2) [e] [] q] [] pos) (dCB dSortTx (dCons te dNil)) :=
  pe_weak (pe_sortTx hc hu hg hm hg2 hm2 ha na) fun σ H Q ⟨ρ, st, μ, Qd, Z, hS, ht, hQ, hZ⟩ =>
    ⟨ρ, st, μ, _, Z, hS, ht, fun x st1 H1 μ1 v hx e1 s1 rv => by
      obtain ⟨xs, hi, few, q⟩ := hx
      obtain ⟨a, vs, rfl, hsq, hv⟩ := items_ok s1 rv hi
      rw [reps_strs hv] at hsq
      exact ⟨a, xs, rfl, hsq, few, fun M l nd hmem hl => hQ.lst e1 s1 (reps_strs0 _) (q M nd hmem) hl⟩, hZ⟩
end
end DL
namespace DL
open PySem L2 PySem.Spec
open PyProof.Rows hiding St
@[simp] theorem s_sortTx {x : D} {st : Sto} {Q : DK} : dSortTx [x] st Q = ∃ xs : List Str, itemsD st x = some (xs.map .str) ∧ xs.length < 4000 ∧ ∀ M : List Str, M.Nodup → (∀ y, y ∈ M ↔ y ∈ xs) → Q (.loc st.length) (st ++ [.lst ((TxS.asc M).map .str)]) := rfl
end DL
namespace DL
open PySem L2 PySem.Spec
open PyProof.Rows hiding St
section
variable {K : PySem.W.Frag} {H : Hp} {μ : List Addr}
theorem reps_intsS : ∀ {bs : List Int} {vs : List V}, Reps K H μ (bs.map D.int) vs → vs = bs.map V.int
  | [], _, r => r
  | b :: bs, _, r => by
    obtain ⟨v, rs, rfl, r1, r2⟩ := r
    rw [show v = _ from r1, reps_intsS r2]
    rfl
end
def dSum : DN := fun ds st Q => match ds with | [.loc n] => ∃ ns : List Int, st[n]? = some (.lst (ns.map .int)) ∧ Q (.int ns.sum) st | _ => False
def dOrdS : DN := fun ds st Q => match ds with | [.str x] => x.length = 1 ∧ Q (.int (x.cps.getD 0 0 : Nat)) st | _ => False
def dUpper : DM := fun x ds st Q => match x, ds with | .str a, [] => a.length ≤ 5592405 ∧ Q (.str (Txt.upper a)) st | _, _ => False
def dSetK : D3 := fun o i x st Q => match o with | .loc n => ∃ kvs k, st[n]? = some (.dK kvs) ∧ keyD i = some k ∧ kvs.length < sizeLine ∧ Q (st.set n (.dK (putD kvs k x))) | _ => False
section
variable {st : Sto} {Q : DK} {a : Str} {i j : Int} {n : Nat} {x d : D} {Qs : Sto → Prop}
@[simp] theorem s_sum : dSum [.loc n] st Q = ∃ ns : List Int, st[n]? = some (.lst (ns.map .int)) ∧ Q (.int ns.sum) st := rfl
@[simp] theorem s_ordS : dOrdS [.str a] st Q = (a.length = 1 ∧ Q (.int (a.cps.getD 0 0 : Nat)) st) := rfl
@[simp] theorem s_upper : dUpper (.str a) [] st Q = (a.length ≤ 5592405 ∧ Q (.str (Txt.upper a)) st) := rfl
@[simp] theorem s_setK : dSetK (.loc n) d x st Qs = ∃ kvs k, st[n]? = some (.dK kvs) ∧ keyD d = some k ∧ kvs.length < sizeLine ∧ Qs (st.set n (.dK (putD kvs k x))) := rfl
end
variable [TC : TabCtx]
section
variable {K : PySem.W.Frag}
theorem sum_ok : DCl K (rSum K) dSum := by
  intro H μ st ds vs Qd Q s r h hQ
  unfold dSum at h
  split at h
  · obtain ⟨v, rfl, a, rfl, hn⟩ := reps1 r
    obtain ⟨bs, hb, q⟩ := h
    obtain ⟨a', o, e1, e2, vs, rfl, hr⟩ := s.at' _ _ hb
    rw [hn] at e1; cases e1
    rw [reps_intsS hr] at e2
    exact ⟨a, bs, rfl, .inl (.inl e2), hQ _ _ _ _ _ q (Ext.refl _ _) s rfl⟩
  · exact h.elim
theorem ordS_ok : DCl K (fun xs H Q => ∃ x, xs = [.str x] ∧ x.length = 1 ∧ Q (.int (x.cps.getD 0 0 : Nat)) H) dOrdS := by
  intro H μ st ds vs Qd Q s r h hQ
  unfold dOrdS at h
  split at h
  · obtain ⟨v, rfl, rv⟩ := reps1 r
    rw [show v = _ from rv]
    exact ⟨_, rfl, h.1, hQ _ _ _ _ _ h.2 (Ext.refl _ _) s rfl⟩
  · exact h.elim
theorem upper_ok : DMt K (fun x xs H Q => ∃ a, x = .str a ∧ xs = [] ∧ a.length ≤ 5592405 ∧ Q (.str (Txt.upper a)) H) dUpper := by
  intro H μ st x v ds vs Qd Q s rx rs h hQ
  unfold dUpper at h
  split at h
  · exact ⟨_, rx, show vs = [] from rs, h.1, hQ _ _ _ _ _ h.2 (Ext.refl _ _) s rfl⟩
  · exact h.elim
theorem setK_ok : DSet K rSetD dSetK := by
  intro H μ st o i x vo vi v Qd Q s ro ri rv h hQ
  cases o <;> try exact (show False from h).elim
  rename_i n
  obtain ⟨a, rfl, hn⟩ := ro
  obtain ⟨kvs, k, hk, hi, hl, q⟩ := h
  obtain ⟨a', o, e1, e2, gs, rfl, okv⟩ := s.at' _ _ hk
  rw [hn] at e1; cases e1
  have w := s.write (o' := .dK (putK gs k v)) (b := .dK (putD kvs k x)) hn e2 ⟨_, rfl, okv_put rv okv⟩
  refine ⟨a, _, rfl, ?_, hQ _ _ _ q w.1 w.2⟩
  rw [key_rep hi ri]
  exact DPut.k e2 (by rw [← okv_len okv]; exact hl)
end
section
variable {X : Cx} {W : WX} {e : Expr} {es : List Expr} {t : DTA} {pos p apos : Pos}
theorem de_sum (hc : X.calm = true) (hg : Gl X "sum") (hm : X.mg "sum" = none) (ha : DA X W (e :: es) t) (he : starEach (e :: es) X.env = (false, eval e X.env) :: starEach es X.env := by rfl) (hpl : (backTo pos (starEach es X.env)).any (·.1) = false := by rfl) :
    DE X W (.Call (.Name "sum" p) (e :: es) [] pos) (dCB dSum t) := de_callB (cr_sum hc) sum_ok hg hm PyProof.Rows.boot_sum ha (by decide) (by decide) he hpl
theorem de_ordS (hg : Gl X "ord") (hm : X.mg "ord" = none) (ha : DA X W (e :: es) t) (he : starEach (e :: es) X.env = (false, eval e X.env) :: starEach es X.env := by rfl) (hpl : (backTo pos (starEach es X.env)).any (·.1) = false := by rfl) :
    DE X W (.Call (.Name "ord" p) (e :: es) [] pos) (dCB dOrdS t) := de_callB call_ord ordS_ok hg hm PyProof.Rows.boot_ord ha (by decide) (by decide) he hpl
end
end DL
namespace DL
open PySem L2 PySem.Spec
open PyProof.Rows hiding St
def revS (z : Str) : Str := ⟨z.cps.toList.reverse.toArray⟩
theorem rev_by (z : Str) (u : Tok) : Txt.sliceBy z none none (-1, u) = revS z := by
  have h := step_rev_list z u
  generalize Txt.sliceBy z none none (-1, u) = y at h ⊢
  obtain ⟨⟨y⟩⟩ := y
  obtain ⟨⟨c⟩⟩ := z
  unfold revS
  congr 2
  dsimp only at h ⊢
  rw [h]
  refine List.ext_getElem (by simp [Str.length]) fun k h1 h2 => ?_
  simp only [List.length_map, List.length_range, Str.length, List.size_toArray] at h1
  simp only [List.getElem_map, List.getElem_range, Str.length, List.size_toArray, List.getElem_reverse]
  simp [Array.getD, h1]
  have : c.length - 1 - k < c.length := by omega
  simp [this]
def tRevS (te : TE) : TE := fun σ H Q => te σ H fun x H1 => ∃ z, x = .str z ∧ z.length ≤ sizeLine ∧ Q (.str (revS z)) H1
def dRevS (te : DTE) : DTE := fun ρ st Q Z => te ρ st (fun x st1 => match x with
  | .str z => z.length ≤ sizeLine ∧ Q (.str (revS z)) st1
  | _ => False) Z
section
variable {ρ : Env'} {st : Sto} {Q : DK} {Z : DZ} {te : DTE}
@[simp] theorem s_revS : dRevS te ρ st Q Z = te ρ st (fun x st1 => match x with
  | .str z => z.length ≤ sizeLine ∧ Q (.str (revS z)) st1
  | _ => False) Z := rfl
end
variable [TC : TabCtx]
section
variable {X : Cx} {W : WX} {e : Expr} {k : Nat} {p1 p2 p3 pos : Pos}
theorem pe_revS {te : TE} (he : PE X e te) : PE X (.Subscript e (.Slice none none (some (.UnaryOp .USub (.Constant (.int 1) k p1) p2)) p3) pos) (tRevS te) := by
  refine ⟨fun pins s σ H Q I h => ?_⟩
  refine Subscript_ (thn (he.run pins s σ H _ I h) fun v s1 ⟨x, H1, I1, r1, q1⟩ => ?_)
  obtain ⟨z, rfl, hz, q1⟩ := q1
  obtain ⟨t, rfl⟩ := r1
  have hst : PO X (some (.UnaryOp .USub (.Constant (.int 1) k p1) p2)) (tPart (tUn (rU fun i => .int (-i)) (tC (.int 1)))) := po_some (pe_un un_neg pe_int)
  refine wpAny_Slice (thn (po_none.run pins s1 σ H1 (fun o H2 => o = none ∧ H2 = H1) I1 ⟨rfl, rfl⟩) fun vl s2 ⟨l, H2, I2, pl, el, e2⟩ => ?_)
  subst el e2
  refine thn (po_none.run pins s2 σ H2 (fun o H3 => o = none ∧ H3 = H2) I2 ⟨rfl, rfl⟩) fun vu s3 ⟨u, H3, I3, pu, eu, e3⟩ => ?_
  subst eu e3
  refine thn (hst.run pins s3 σ H3 (fun o H4 => o = some (-1) ∧ H4 = H3) I3 ⟨1, rfl, -1, rfl, rfl, rfl⟩) fun vs s4 ⟨o, H4, I4, ps, eo, e4⟩ => ?_
  subst eo e4
  cases pl
  cases pu
  cases ps with
  | int _ uk =>
    have I5 : Inv X pins σ H4 { s4 with heap := s4.heap.push { cls := .type "slice", data := .fields #[.none, .none, .int (-1) uk] } } := I4.kept (t' := s4.toks) fun b ob q => Heap.get?_push_of_some _ q
    show wpAny (model X.prog X.w) X.A (subscriptTail e (.Slice none none (some (.UnaryOp .USub (.Constant (.int 1) k p1) p2)) p3) (.str z t) (.ref s4.heap.objs.size)) (EP X pins σ Q) X.xe { s4 with heap := s4.heap.push { cls := .type "slice", data := .fields #[.none, .none, .int (-1) uk] } }
    refine tail_any (ops := [.ref s4.heap.objs.size, .str z t]) (typeIs_str _ _ _) F.slot_str_getitem.lookup ?_ (by with_unfolding_all rfl)
    refine wpAny_getItem_str_slice (l := none) (u := none) (st := some (-1, uk)) ⟨_, Heap.get?_push_size _ rfl, rfl, rfl⟩ rfl ?_
    refine post_val_or_str ⟨Nat.le_trans (Txt.sliceBy_le z _ _ (-1, uk) (by simp)) hz, fun t' c => ?_⟩
    have e := rev_by z uk
    unfold Txt.sliceBy at e
    show EP X pins σ Q (Value.str (Txt.sliceBy z none none (-1, uk)) t') _
    rw [rev_by]
    exact ⟨.str (revS z), H4, I5.tok _, ⟨_, rfl⟩, q1⟩
theorem de_revS {te : DTE} (he : DE X W e te) : DE X W (.Subscript e (.Slice none none (some (.UnaryOp .USub (.Constant (.int 1) k p1) p2)) p3) pos) (dRevS te) := pe_weak (pe_revS he) fun σ H Q ⟨ρ, st, μ, Qd, Z, hS, ht, hQ, hZ⟩ =>
  ⟨ρ, st, μ, _, Z, hS, ht, fun x st1 H1 μ1 v hx e1 s1 rv => (by
    dsimp only at hx
    cases x <;> first | exact hx.elim | skip
    rw [show v = _ from rv]
    exact ⟨_, rfl, hx.1, hQ _ _ _ _ _ hx.2 e1 s1 rfl⟩), hZ⟩
end
end DL
namespace DL
open PySem L2 PySem.Spec
open PyProof.Rows hiding St
def IteS (z : Str) : It :=
  ⟨fun i _ => i < z.cps.size, fun i H v H' => ∃ T c, v = .ref T ∧ H T = none ∧ H' = upd H T (.tup [.int (i : Nat), .str ⟨#[c]⟩]) ∧ z.cps[i]? = some c, fun i _ => z.cps.size = i⟩
def iEnS (te : DTE) : DTI := fun ρ st Q Z => te ρ st (fun x st1 => match x with | .str z => Q (enumItems (strItems z)) (fun _ => True) st1 | _ => False) Z
section
variable {ρ : Env'} {st : Sto} {Z : DZ} {te : DTE}
@[simp] theorem s_iEnS {QI : List D → (Sto → Prop) → Sto → Prop} : iEnS te ρ st QI Z = te ρ st (fun x st1 => match x with | .str z => QI (enumItems (strItems z)) (fun _ => True) st1 | _ => False) Z := rfl
end
variable [TC : TabCtx]
theorem turn_enumS {P : Program} {w : World} {K : PySem.W.Frag} {elts : List Expr} {kk : Nat} {tpos : Pos} (z : Str) (tz : Tok) (e it : Addr) :
    Turn P w K (.Tuple elts kk tpos) (IteS z) [e, it] e (fun i h => (∃ old, IsEnum h e it ((i : Nat) : Int) old) ∧ h.IsStrIter it (strIterType z) z tz i ∧ e ≠ it) where
  mem := by simp
  obj := fun i h st b hb => by
    obtain ⟨⟨old, he⟩, ⟨o, ho, hc, hd⟩, _⟩ := st
    have e' : b = e ∨ b = it := by simpa using hb
    rcases e' with z | z
    · rw [z]; exact ⟨_, he, fun v q => nomatch q⟩
    · rw [z]; exact ⟨o, ho, fun v q => by rw [hd] at q; cases q⟩
  keep := fun i h h' st k => let ⟨⟨old, he⟩, ⟨o, ho, r⟩, hne⟩ := st; ⟨⟨old, k e (by simp) _ he⟩, ⟨o, k it (by simp) o ho, r⟩, hne⟩
  item := by
    intro X hP hw hK hc i pins s σ H E I hf st hg
    subst hP hw hK
    obtain ⟨⟨old, he⟩, hit, hne⟩ := st
    have hlt : i < z.cps.size := hg
    have hel : e < s.heap.objs.size := Heap.lt_size he
    have hil : it < s.heap.objs.size := by obtain ⟨_, q, _⟩ := hit; exact Heap.lt_size q
    refine wpAny_pyNext_enum_itemD (Draws.text (A := X.A.in1) (I.ok.hd hc) it z tz) he hit hlt hne (by simp [hne]) fun y h' tk hy ho hst hT hsz hk => ?_
    obtain ⟨c, u, hcx, rfl⟩ := hy
    refine ⟨_, rfl, wpAny_letOwnedTupleGo_enum (s := { s with heap := h', toks := tk + 1 }) ho fun h'' he' sb => ?_⟩
    have hT2 : h''.get? s.heap.objs.size = some { cls := .type "tuple", data := .seq #[.int i tk, .str ⟨#[c]⟩ u] } := (sb.2 _ (Nat.ne_of_gt hel)).trans hT
    have new : ObjOk X.prog X.w (upd H s.heap.objs.size (.tup [.int (i : Nat), .str ⟨#[c]⟩])) h'' s.heap.objs.size (.tup [.int (i : Nat), .str ⟨#[c]⟩]) :=
      ⟨by show 2 ≤ sizeLine; decide, [.int i tk, .str ⟨#[c]⟩ u], .cons ⟨_, rfl⟩ (.cons ⟨_, rfl⟩ .nil), ⟨_, hT2, rfl, _, rfl⟩⟩
    have I1 : Inv X pins σ (upd H s.heap.objs.size (.tup [.int (i : Nat), .str ⟨#[c]⟩])) { s with heap := h'', toks := tk + 1 } :=
      I.turnedNew (t' := tk + 1) (ch := [e, it]) (fun b ob hb q => (sb.2 b (fun z => hb (by simp [z]))).trans (hk b ob (fun z => hb (by simp [z])) (fun z => hb (by simp [z])) q)) hf (Nat.le_refl _) new
    obtain ⟨oi, hoi, hci, hdi⟩ := hst
    refine ⟨.ref s.heap.objs.size, _, I1, rfl, ⟨_, c, rfl, I.hok.fresh (Nat.le_refl _), rfl, hcx⟩, ⟨⟨.str ⟨#[c]⟩ u, ?_⟩, ⟨oi, (sb.2 it (Ne.symm hne)).trans hoi, hci, hdi⟩, hne⟩, fun b hb => ?_⟩
    · have e1 : ((i + 1 : Nat) : Int) = (i : Int) + 1 := by omega
      rw [e1]; exact he'
    · have hb' : b < s.heap.objs.size := by
        have e' : b = e ∨ b = it := by simpa using hb
        rcases e' with z | z
        · rw [z]; exact hel
        · rw [z]; exact hil
      rw [upd_ne (Nat.ne_of_lt hb')]
      exact (hf b hb).1
  done := by
    intro X hP hw hK hc i pins s σ H E I hf st hg
    subst hP hw hK
    obtain ⟨⟨old, he⟩, hit, hne⟩ := st
    obtain ⟨f0, f1, f2, f3, f4, f5⟩ := hf it (by simp)
    have hn : z.cps.size = i := hg
    exact wpAny_pyNext_enum_endD (Draws.text (A := X.A.in1) (I.ok.hd hc) it z tz) he (by rw [hn]; exact hit) fun h' eb => ⟨rfl, I.turned (t' := s.toks) (fun b o hb q => eb b o hb q) f0 f1 f3 f4 f5⟩
  self := fun A i s Q E st h => let ⟨⟨_, he⟩, _⟩ := st; wpAny_pyIter_enum he h
def iEnumS (ta : TA) : TI := fun σ H R => ta σ H fun vs H1 => ∃ z, vs = [.str z] ∧ R (IteS z) H1
section
variable {X : Cx} {W : WX} {e : Expr} {p pos tpos : Pos} {elts : List Expr} {kk : Nat}
theorem pi_enumS {ta : TA} (hg : Gl X "enumerate") (hm : X.mg "enumerate" = none) (ha : PA X [e] ta) (hs : starEach [e] X.env = [(false, eval e X.env)] := by rfl) :
    PI X (.Tuple elts kk tpos) (.Call (.Name "enumerate" p) [e] [] pos) (iEnumS ta) := by
  refine ⟨fun pins s σ H R I h => ?_⟩
  refine Call_ (ld_blt I hg hm boot_enumerate (PyProof.Rows.callWith_type1 (thn (ha.run pos pins s σ H _ I h) fun us s1 ⟨vs, H1, I1, r1, q1⟩ => ?_) hs rfl))
  obtain ⟨z, rfl, q⟩ := q1
  obtain ⟨u, rfl, t, rfl⟩ := vals1 r1
  have fresh2 : ∀ b, b ∈ [s1.heap.objs.size + 1, s1.heap.objs.size] → FpOk X pins H1 b := fun b hb => by
    have e' : b = s1.heap.objs.size + 1 ∨ b = s1.heap.objs.size := by simpa using hb
    have hle : s1.heap.objs.size ≤ b := by
      rcases e' with z | z
      · rw [z]; exact Nat.le_add_right _ _
      · rw [z]; exact Nat.le_refl _
    exact I1.fpOk hle (I1.hok.fresh hle)
  refine call_enumerate_str fun h' he hit hsz hk => wpAny_pyIter_enum he ?_
  exact ⟨s1.heap.objs.size + 1, [s1.heap.objs.size + 1, s1.heap.objs.size], _, _, H1, rfl, (I1.kept (t' := s1.toks) hk : Inv X pins σ H1 { s1 with heap := h' }), turn_enumS z t (s1.heap.objs.size + 1) s1.heap.objs.size, ⟨⟨.none, he⟩, hit, Nat.succ_ne_self _⟩, fresh2, q⟩
end
section
variable {K : PySem.W.Frag} {H : Hp} {μ : List Addr} {st : Sto}
theorem ItRep.enumS {z : Str} : ItRep K (IteS z) (enumItems (strItems z)) (fun _ => True) H μ where
  go i H1 μ1 st y x s _ e := by
    obtain ⟨d, hd, rfl⟩ := enumItems_get e
    have hi : i < z.cps.size := by
      have := (List.getElem?_eq_some_iff.mp hd).1
      simpa [strItems] using this
    refine ⟨hi, fun y H' hy => ?_⟩
    obtain ⟨T, c, rfl, hT, rfl, hc⟩ := hy
    have hc' : z.cps.toList[i]? = some c := by rw [Array.getElem?_toList]; exact hc
    have : d = .str ⟨#[c]⟩ := by
      simp [strItems, hc'] at hd
      exact hd.symm
    subst this
    exact pair_laid s rfl hT
  stop H1 μ1 st x s _ := by
    show z.cps.size = (enumItems (strItems z)).length
    simp [enumItems, strItems]
end
section
variable {X : Cx} {W : WX} {e : Expr} {te : DTE} {p pos tpos : Pos} {elts : List Expr} {kk : Nat}
theorem di_enumS (hg : Gl X "enumerate") (hm : X.mg "enumerate" = none) (ha : DE X W e te) (hs : starEach [e] X.env = [(false, eval e X.env)] := by rfl) : DI X W (.Tuple elts kk tpos) (.Call (.Name "enumerate" p) [e] [] pos) (iEnS te) :=
  pi_weak (pi_enumS hg hm (pa_cons ha pa_nil hs) hs) fun σ H R ⟨ρ, st, μ, Qd, Z, hS, ht, hZ, hk⟩ => ⟨ρ, st, μ, _, Z, hS, ht, fun x st1 H1 μ1 v hx e1 s1 rv => by
    cases x with
    | str z =>
      rw [show v = _ from rv]
      exact ⟨z, rfl, hk _ _ _ _ _ _ hx e1 s1 ItRep.enumS⟩
    | _ => exact (show False from hx).elim, hZ⟩
end
end DL
namespace RD
open PySem L2 PySem.Spec DL
open PyProof.Rows hiding St
abbrev N_check_line : List Str := ["text", "total", "at", "sign"]
def e_check_line_1 : DTE := (dOp dMul (dCB dOrdS (dCons (dVar 3) dNil)) (dOp dAdd (dVar 2) (dC (.int 1))))
def t_check_line : DTS := (dSeq (dAsg (dCB dSum (dCons (dLc (iEnS (dVar 0)) (gTup' 2 (gCons' (gN 2) (gCons' (gN 3) gNil'))) dYes (e_check_line_1) [2, 3]) dNil)) (gN 1))
    (dRet (dJoined [(dC (.str "check ")), (dFmt (dOp dMod (dVar 1) (dC (.int 99991))))])))
abbrev N_told_triple : List Str := ["line", "name", "_", "behind", "words", "triple"]
def t_told_triple (s_told_version : DSp) (s_is_triple : DSp) : DTS := (dSeq (dAsg (dBM "str" dPartition (dVar 0) (dCons (dC (.str " ")) dNil)) (gTup' 3 (gCons' (gN 1) (gCons' (gN 2) (gCons' (gN 3) gNil')))))
    (dSeq (dAsg (dBM "str" dSplit (dVar 3) (dCons (dC (.str " ")) dNil)) (gN 4))
    (dSeq (dAsg (dTup (dCons (dVar 1) (dCons (dCall 1 s_told_version (dCons (dOp dIx (dVar 4) (dC (.int 0))) dNil)) (dCons (dCB dTupOf (dCons (dSl (dVar 4) (dPart (dC (.int 1))) dNoPart) dNil)) dNil)))) (gN 5))
    (dSeq (dIfS (dNot (dTru (dCall 1 s_is_triple (dCons (dVar 5) dNil)))) (dRet (dC (.non))) dNext)
    (dRet (dVar 5))))))
abbrev N_read_lock : List Str := ["text", "lines", "rest", "found", "line", "triple", "many"]
def b_read_lock_1 [ErrCtx] (s_lines_of : DSp) (s_text_of : DSp) (s_check_line : DSp) (s_told_triple : DSp) : DTS := (dSeq (dAsg (dCall 1 s_told_triple (dCons (dVar 4) dNil)) (gN 5))
    (dSeq (dIfS (dOr (dTest (dOp (dIsN id) (dVar 5) (dC (.non)))) (dAnd (dTru (dVar 3)) (dTest (dOp dLe (dOp dIx (dVar 5) (dC (.int 0))) (dOp dIx (dOp dIx (dVar 3) (dUn dNegV (dC (.int 1)))) (dC (.int 0))))))) dBreak dNext)
    (dDrop (dBM "list" dAppend (dVar 3) (dCons (dVar 5) dNil)))))
def t_read_lock [ErrCtx] (s_lines_of : DSp) (s_text_of : DSp) (s_check_line : DSp) (s_told_triple : DSp) : DTS := (dSeq (dAsg (dCall 1 s_lines_of (dCons (dVar 0) dNil)) (gTup' 2 (gCons' (gN 1) (gCons' (gN 2) gNil'))))
    (dSeq (dAsg (dLst dNil) (gN 3))
    (dSeq (dFor (iD (dVar 1)) (gN 4) (b_read_lock_1 s_lines_of s_text_of s_check_line s_told_triple))
    (dSeq (dAsg (dCB dLen (dCons (dVar 3) dNil)) (gN 6))
    (dSeq (dIfS (dOr (dTest (dOp dEq (dVar 6) (dCB dLen (dCons (dVar 1) dNil)))) (dTest (dOp dNe (dOp dIx (dVar 1) (dVar 6)) (dCall 1 s_check_line (dCons (dCall 1 s_text_of (dCons (dSl (dVar 1) dNoPart (dPart (dVar 6))) dNil)) dNil))))) (dRaise1 4 "number" (dOp dAdd (dVar 6) (dC (.int 1)))) dNext)
    (dSeq (dIfS (dOr (dTest (dOp dLt (dOp dAdd (dVar 6) (dC (.int 1))) (dCB dLen (dCons (dVar 1) dNil)))) (dTest (dOp dNe (dVar 2) (dC (.str ""))))) (dRaise1 4 "number" (dOp dAdd (dVar 6) (dC (.int 2)))) dNext)
    (dRet (dCB dTupOf (dCons (dVar 3) dNil)))))))))
abbrev N__law_hand_k41 : List Str := ["script", "cells", "cell"]
def e__law_hand_k41_1 : DTE := (dCB dAbs (dCons (dCB dInt (dCons (dVar 2) dNil)) dNil))
def t__law_hand_k41 : DTS := (dSeq (dAsg (dLc (iD (dSl (dVar 0) dNoPart (dPart (dC (.int 63))))) (gN 2) dYes (e__law_hand_k41_1) [2]) (gN 1))
    (dRet (dDisp [((dC (.str "cells")), (dVar 1)), ((dC (.str "at")), (dC (.int 0))), ((dC (.str "left")), (dC (.int 0))), ((dC (.str "seed")), (dOp dAdd (dC (.int 40961)) (dCB dLen (dCons (dVar 1) dNil)))), ((dC (.str "turn")), (dC (.int 0)))])))
abbrev N__law_draw_k41 : List Str := ["hand", "many", "cell", "digit", "number"]
def t__law_draw_k41 : DTS := (dSeq (dIfS (dAnd (dTest (dOp dEq (dDGet (dVar 0) (dC (.str "left"))) (dC (.int 0)))) (dTest (dOp dLt (dDGet (dVar 0) (dC (.str "at"))) (dCB dLen (dCons (dDGet (dVar 0) (dC (.str "cells"))) dNil))))) (dSeq (dAsg (dOp dIx (dDGet (dVar 0) (dC (.str "cells"))) (dDGet (dVar 0) (dC (.str "at")))) (gN 2))
    (dSeq (dAsg (dOp dAdd (dDGet (dVar 0) (dC (.str "at"))) (dC (.int 1))) (gSub' (dVar 0) (dC (.str "at")) dSetK))
    (dSeq (dAsg (dOp dMod (dCB dInt (dCons (dOp dAdd (dOp dAdd (dOp dMul (dDGet (dVar 0) (dC (.str "seed"))) (dC (.int 69621))) (dVar 2)) (dC (.int 11))) dNil)) (dC (.int 2147483629))) (gSub' (dVar 0) (dC (.str "seed")) dSetK))
    (dAsg (dIf (dTest (dOp dGe (dVar 2) (dOp dPow (dC (.int 10)) (dC (.int 18))))) (dVar 2) (dC (.int 0))) (gSub' (dVar 0) (dC (.str "left")) dSetK))))) dNext)
    (dSeq (dIfS (dTest (dOp dGt (dDGet (dVar 0) (dC (.str "left"))) (dC (.int 0)))) (dSeq (dAsg (dOp dMod (dCB dInt (dCons (dDGet (dVar 0) (dC (.str "left"))) dNil)) (dVar 1)) (gN 3))
    (dSeq (dAsg (dOp dDiv (dDGet (dVar 0) (dC (.str "left"))) (dVar 1)) (gSub' (dVar 0) (dC (.str "left")) dSetK))
    (dRet (dVar 3)))) dNext)
    (dSeq (dAsg (dOp dAdd (dDGet (dVar 0) (dC (.str "turn"))) (dC (.int 1))) (gSub' (dVar 0) (dC (.str "turn")) dSetK))
    (dSeq (dAsg (dOp dMod (dCB dInt (dCons (dOp dMul (dCB dInt (dCons (dOp dAdd (dDGet (dVar 0) (dC (.str "seed"))) (dOp dMul (dC (.int 7927)) (dDGet (dVar 0) (dC (.str "turn"))))) dNil)) (dC (.int 48271))) dNil)) (dC (.int 2147483647))) (gN 4))
    (dSeq (dAsg (dOp dMod (dCB dInt (dCons (dOp dMul (dVar 4) (dOp dAdd (dOp dDiv (dVar 4) (dC (.int 1013))) (dC (.int 69623)))) dNil)) (dC (.int 2147483587))) (gN 4))
    (dSeq (dAsg (dOp dMod (dCB dInt (dCons (dOp dAdd (dOp dMul (dVar 4) (dOp dAdd (dOp dDiv (dVar 4) (dC (.int 2011))) (dC (.int 40693)))) (dDGet (dVar 0) (dC (.str "turn")))) dNil)) (dC (.int 2147483399))) (gN 4))
    (dRet (dOp dMod (dCB dInt (dCons (dOp dDiv (dVar 4) (dC (.int 32))) dNil)) (dVar 1)))))))))
abbrev N__law_any : List Str := ["hand", "things"]
def t__law_any (s__law_draw : DSp) : DTS := (dRet (dOp dIx (dVar 1) (dCall 2 s__law_draw (dCons (dVar 0) (dCons (dCB dLen (dCons (dVar 1) dNil)) dNil)))))
abbrev N__law_name : List Str := ["hand", "letters", "k"]
def e__law_name_1 (s__law_draw : DSp) (s__law_any : DSp) : DTE := (dOp dIx (dVar 1) (dCall 2 s__law_draw (dCons (dVar 0) (dCons (dC (.int 26)) dNil))))
def t__law_name (s__law_draw : DSp) (s__law_any : DSp) : DTS := (dSeq (dAsg (dC (.str "abcdefghijklmnopqrstuvwxyz")) (gN 1))
    (dSeq (dIfS (dTest (dOp dEq (dCall 2 s__law_draw (dCons (dVar 0) (dCons (dC (.int 9)) dNil))) (dC (.int 0)))) (dRet (dCall 2 s__law_any (dCons (dVar 0) (dCons (dLst (dCons (dC (.str "check")) (dCons (dC (.str "edition")) (dCons (dC (.str "done")) (dCons (dC (.str "a")) (dCons (dC (.str "zz")) (dCons (dC (.str "checkcheckab")) dNil))))))) dNil)))) dNext)
    (dRet (dBM "str" dJoin (dC (.str "")) (dCons (dLc (iR1 (dCons (dOp dAdd (dC (.int 1)) (dCall 2 s__law_any (dCons (dVar 0) (dCons (dLst (dCons (dC (.int 0)) (dCons (dC (.int 0)) (dCons (dC (.int 1)) (dCons (dC (.int 2)) (dCons (dC (.int 4)) (dCons (dC (.int 11)) dNil))))))) dNil)))) dNil)) (gN 2) dYes (e__law_name_1 s__law_draw s__law_any) [2]) dNil)))))
abbrev N__law_installation : List Str := ["hand", "found", "name", "k", "numbers", "features"]
def e__law_installation_1 (s__law_draw : DSp) (s__law_any : DSp) (s__law_name : DSp) : DTE := (dCall 1 s__law_name (dCons (dVar 0) dNil))
def e__law_installation_2 (s__law_draw : DSp) (s__law_any : DSp) (s__law_name : DSp) : DTE := (dCall 2 s__law_any (dCons (dVar 0) (dCons (dLst (dCons (dC (.int 0)) (dCons (dC (.int 1)) (dCons (dC (.int 9)) (dCons (dC (.int 10)) (dCons (dC (.int 1000000)) (dCons (dCall 2 s__law_draw (dCons (dVar 0) (dCons (dC (.int 1000001)) dNil))) dNil))))))) dNil)))
def e__law_installation_3 (s__law_draw : DSp) (s__law_any : DSp) (s__law_name : DSp) : DTE := (dCall 1 s__law_name (dCons (dVar 0) dNil))
def b__law_installation_4 (s__law_draw : DSp) (s__law_any : DSp) (s__law_name : DSp) : DTS := (dSeq (dAsg (dLc (iR1 (dCons (dC (.int 3)) dNil)) (gN 3) dYes (e__law_installation_2 s__law_draw s__law_any s__law_name) [3]) (gN 4))
    (dSeq (dAsg (dCB dSortTx (dCons (dLc (iR1 (dCons (dCall 2 s__law_any (dCons (dVar 0) (dCons (dLst (dCons (dC (.int 0)) (dCons (dC (.int 0)) (dCons (dC (.int 0)) (dCons (dC (.int 0)) (dCons (dC (.int 1)) (dCons (dC (.int 2)) (dCons (dC (.int 3)) (dCons (dC (.int 9)) dNil))))))))) dNil))) dNil)) (gN 3) dYes (e__law_installation_3 s__law_draw s__law_any s__law_name) [3]) dNil)) (gN 5))
    (dDrop (dBM "list" dAppend (dVar 1) (dCons (dTup (dCons (dVar 2) (dCons (dCB dTupOf (dCons (dVar 4) dNil)) (dCons (dCB dTupOf (dCons (dVar 5) dNil)) dNil)))) dNil)))))
def t__law_installation (s__law_draw : DSp) (s__law_any : DSp) (s__law_name : DSp) : DTS := (dSeq (dAsg (dLst dNil) (gN 1))
    (dSeq (dFor (iD (dCB dSortTx (dCons (dLc (iR1 (dCons (dCall 2 s__law_any (dCons (dVar 0) (dCons (dLst (dCons (dC (.int 0)) (dCons (dC (.int 1)) (dCons (dC (.int 1)) (dCons (dC (.int 2)) (dCons (dC (.int 2)) (dCons (dC (.int 3)) (dCons (dC (.int 3)) (dCons (dC (.int 4)) (dCons (dC (.int 4)) (dCons (dC (.int 5)) (dCons (dC (.int 6)) (dCons (dC (.int 60)) dNil))))))))))))) dNil))) dNil)) (gN 3) dYes (e__law_installation_1 s__law_draw s__law_any s__law_name) [3]) dNil))) (gN 2) (b__law_installation_4 s__law_draw s__law_any s__law_name))
    (dRet (dCB dTupOf (dCons (dVar 1) dNil)))))
abbrev N__law_check : List Str := ["text", "tail", "total", "sign"]
def b__law_check_1 : DTS := (dSeq (dAsg (dOp dAdd (dVar 1) (dCB dOrdS (dCons (dVar 3) dNil))) (gN 1))
    (dAsg (dOp dAdd (dVar 2) (dVar 1)) (gN 2)))
def t__law_check : DTS := (dSeq (dAsg (dTup (dCons (dC (.int 0)) (dCons (dC (.int 0)) dNil))) (gTup' 2 (gCons' (gN 1) (gCons' (gN 2) gNil'))))
    (dSeq (dFor (iD (dRevS (dVar 0))) (gN 3) (b__law_check_1))
    (dRet (dOp dMod (dCB dInt (dCons (dVar 2) dNil)) (dC (.int 99991))))))
abbrev N__law_line : List Str := ["triple", "name", "version", "features", "line", "feature"]
def e__law_line_1 : DTE := (dOp dAdd (dC (.str " ")) (dVar 5))
def t__law_line : DTS := (dSeq (dAsg (dVar 0) (gTup' 3 (gCons' (gN 1) (gCons' (gN 2) (gCons' (gN 3) gNil')))))
    (dSeq (dAsg (dOp dAdd (dOp dAdd (dOp dAdd (dOp dAdd (dOp dAdd (dOp dAdd (dVar 1) (dC (.str " "))) (dCB dStrI (dCons (dOp dIx (dVar 2) (dC (.int 0))) dNil))) (dC (.str "."))) (dCB dStrI (dCons (dOp dIx (dVar 2) (dC (.int 1))) dNil))) (dC (.str "."))) (dCB dStrI (dCons (dOp dIx (dVar 2) (dC (.int 2))) dNil))) (gN 4))
    (dRet (dOp dAdd (dOp dAdd (dVar 4) (dBM "str" dJoin (dC (.str "")) (dCons (dLc (iD (dVar 3)) (gN 5) dYes (e__law_line_1) [5]) dNil))) (dC (.str "\n"))))))
end RD
namespace RD
open PySem L2 PySem.Spec DL
open PyProof.Rows hiding St
abbrev N__law_is_name_k42 : List Str := ["word", "sign"]
def e__law_is_name_k42_1 : DTE := (dOp dInC (dVar 1) (dC (.str "abcdefghijklmnopqrstuvwxyz")))
def t__law_is_name_k42 : DTS := (dRet (dAndV (dChain dLe dLe (dC (.int 1)) (dCB dLen (dCons (dVar 0) dNil)) (dC (.int 12))) (dCB dAll (dCons (dLc (iD (dVar 0)) (gN 1) dYes (e__law_is_name_k42_1) [1]) dNil))))
abbrev N__law_number : List Str := ["word", "most", "sign"]
def e__law_number_1 : DTE := (dOp dInC (dVar 2) (dC (.str "0123456789")))
def t__law_number : DTS := (dSeq (dIfS (dOr (dNot (dTest (dChain dLe dLe (dC (.int 1)) (dCB dLen (dCons (dVar 0) dNil)) (dC (.int 12))))) (dOr (dNot (dTru (dCB dAll (dCons (dLc (iD (dVar 0)) (gN 2) dYes (e__law_number_1) [2]) dNil)))) (dTest (dOp dNe (dVar 0) (dCB dStrI (dCons (dCB dIntS (dCons (dVar 0) dNil)) dNil)))))) (dRet (dC (.non))) dNext)
    (dRet (dIf (dTest (dOp dLe (dCB dIntS (dCons (dVar 0) dNil)) (dVar 1))) (dCB dIntS (dCons (dVar 0) dNil)) (dC (.non)))))
abbrev N__law_triple : List Str := ["line", "words", "word", "numbers", "features"]
def e__law_triple_1 (s__law_is_name : DSp) (s__law_number : DSp) : DTE := (dCall 1 s__law_is_name (dCons (dVar 2) dNil))
def e__law_triple_2 (s__law_is_name : DSp) (s__law_number : DSp) : DTE := (dCall 2 s__law_number (dCons (dVar 2) (dCons (dC (.int 1000000)) dNil)))
def t__law_triple (s__law_is_name : DSp) (s__law_number : DSp) : DTS := (dSeq (dAsg (dBM "str" dSplit (dVar 0) (dCons (dC (.str " ")) dNil)) (gN 1))
    (dSeq (dIfS (dOr (dTest (dOp dLt (dCB dLen (dCons (dVar 1) dNil)) (dC (.int 2)))) (dNot (dTru (dCB dAll (dCons (dLc (iD (dOp dAdd (dSl (dVar 1) dNoPart (dPart (dC (.int 1)))) (dSl (dVar 1) (dPart (dC (.int 2))) dNoPart))) (gN 2) dYes (e__law_triple_1 s__law_is_name s__law_number) [2]) dNil))))) (dRet (dC (.non))) dNext)
    (dSeq (dPar 3 4 (dCons (dLc (iD (dBM "str" dSplit (dOp dIx (dVar 1) (dC (.int 1))) (dCons (dC (.str ".")) dNil))) (gN 2) dYes (e__law_triple_2 s__law_is_name s__law_number) [2]) (dCons (dSl (dVar 1) (dPart (dC (.int 2))) dNoPart) dNil)))
    (dSeq (dIfS (dOr (dTest (dOp dNe (dCB dLen (dCons (dVar 3) dNil)) (dC (.int 3)))) (dOr (dTest (dOp (dIn false) (dC (.non)) (dVar 3))) (dTest (dOp dNe (dVar 4) (dCB dSortTx (dCons (dVar 4) dNil)))))) (dRet (dC (.non))) dNext)
    (dRet (dTup (dCons (dOp dIx (dVar 1) (dC (.int 0))) (dCons (dCB dTupOf (dCons (dVar 3) dNil)) (dCons (dCB dTupOf (dCons (dVar 4) dNil)) dNil)))))))))
abbrev N__law_due_k42 : List Str := ["text", "rows", "found", "body", "number", "line", "triple"]
def b__law_due_k42_1 (s__law_check : DSp) (s__law_number : DSp) (s__law_triple : DSp) : DTS := (dSeq (dAsg (dOp dIx (dVar 1) (dOp dSub (dVar 4) (dC (.int 1)))) (gN 5))
    (dSeq (dAsg (dCall 1 s__law_triple (dCons (dVar 5) dNil)) (gN 6))
    (dIfS (dTest (dOp (dIsN not) (dVar 6) (dC (.non)))) (dSeq (dIfS (dAnd (dTest (dOp dGt (dCB dLen (dCons (dVar 2) dNil)) (dC (.int 0)))) (dTest (dOp dGe (dOp dIx (dOp dIx (dVar 2) (dUn dNegV (dC (.int 1)))) (dC (.int 0))) (dOp dIx (dVar 6) (dC (.int 0)))))) (dRet (dTup (dCons (dC (.str "refused")) (dCons (dVar 4) dNil)))) dNext)
    (dSeq (dDrop (dBM "list" dAppend (dVar 2) (dCons (dVar 6) dNil)))
    (dAsg (dOp dAdd (dOp dAdd (dVar 3) (dVar 5)) (dC (.str "\n"))) (gN 3)))) (dIfS (dOr (dTest (dOp dNe (dSl (dVar 5) dNoPart (dPart (dC (.int 6)))) (dC (.str "check ")))) (dTest (dOp dNe (dCall 2 s__law_number (dCons (dSl (dVar 5) (dPart (dC (.int 6))) dNoPart) (dCons (dC (.int 99990)) dNil))) (dCall 1 s__law_check (dCons (dVar 3) dNil))))) (dRet (dTup (dCons (dC (.str "refused")) (dCons (dVar 4) dNil)))) (dIfS (dTest (dOp dNe (dVar 0) (dOp dAdd (dOp dAdd (dVar 3) (dVar 5)) (dC (.str "\n"))))) (dRet (dTup (dCons (dC (.str "refused")) (dCons (dOp dAdd (dVar 4) (dC (.int 1))) dNil)))) (dRet (dTup (dCons (dC (.str "told")) (dCons (dCB dTupOf (dCons (dVar 2) dNil)) dNil)))))))))
def t__law_due_k42 (s__law_check : DSp) (s__law_number : DSp) (s__law_triple : DSp) : DTS := (dSeq (dAsg (dBM "str" dSplit (dVar 0) (dCons (dC (.str "\n")) dNil)) (gN 1))
    (dSeq (dPar 2 3 (dCons (dLst dNil) (dCons (dC (.str "")) dNil)))
    (dSeq (dFor (iR2 (dCons (dC (.int 1)) (dCons (dCB dLen (dCons (dVar 1) dNil)) dNil))) (gN 4) (b__law_due_k42_1 s__law_check s__law_number s__law_triple))
    (dRet (dTup (dCons (dC (.str "refused")) (dCons (dCB dLen (dCons (dVar 1) dNil)) dNil)))))))
abbrev N__law_read : List Str := ["text", "answer", "e"]
def b__law_read_1 [ErrCtx] (s_read_lock : DSp) : DTS := (dAsg (dTup (dCons (dC (.str "told")) (dCons (dCall 1 s_read_lock (dCons (dVar 0) dNil)) dNil))) (gN 1))
def s__law_read_2 [ErrCtx] (s_read_lock : DSp) : Addr → DX → DTS := fun a x => (dIfS (dAnd (dTru (dXi a x [(4, true)] (dVar 2))) (dAnd (dTru (dXi a x [(4, true)] (dVar 2))) (dNot (dTru (dXi a x [(4, false)] (dVar 2)))))) (dAsg (dTup (dCons (dC (.str "refused")) (dCons (dXf a x 4 "number" (dVar 2)) dNil))) (gN 1)) dNext)
def t__law_read [ErrCtx] (s_read_lock : DSp) : DTS := (dSeq (dAsg (dTup (dCons (dC (.non)) (dCons (dC (.non)) dNil))) (gN 1))
    (dSeq (dTryAs [4] 2 (b__law_read_1 s_read_lock) ((s__law_read_2 s_read_lock)))
    (dSeq (dIfS (dAnd (dTest (dOp dEq (dOp dIx (dVar 1) (dC (.int 0))) (dC (.str "refused")))) (dOr (dNot (dTru (dIsi (dOp dIx (dVar 1) (dC (.int 1))) ["int"]))) (dTru (dIsi (dOp dIx (dVar 1) (dC (.int 1))) ["bool"])))) (dRet (dTup (dCons (dC (.non)) (dCons (dC (.non)) dNil)))) dNext)
    (dRet (dVar 1)))))
end RD
set_option maxHeartbeats 4000000
namespace DL
open PySem L2 PySem.Spec
open PyProof.Rows hiding St
def repS (a : Str) (n : Nat) : Str := ⟨(List.replicate n a.cps).foldl (· ++ ·) #[]⟩
theorem foldl_apps : ∀ (l : List (Array Nat)) (acc : Array Nat), (l.foldl (· ++ ·) acc).toList = acc.toList ++ (l.map Array.toList).flatten
  | [], acc => by simp
  | x :: l, acc => by
    rw [List.foldl_cons, foldl_apps l (acc ++ x)]
    simp
theorem repS_list (a : Str) (n : Nat) : (repS a n).cps.toList = (List.replicate n a.cps.toList).flatten := by
  unfold repS
  rw [foldl_apps]
  simp [List.map_replicate]
def rMulS : R2 := fun x y H Q => ∃ a, ∃ n : Nat, x = .str a ∧ y = .int (n : Int) ∧ (2 ≤ n ∧ n ≤ 1000 ∧ 0 < a.length ∧ a.length ≤ 1000) ∧ Q (.str (repS a n)) H
theorem op_mulS {X : Cx} : OpR X (binaryOp .Mult) rMulS := by
  intro pins s σ H x y v u Q I rx ry h
  obtain ⟨a, n, rfl, rfl, ⟨h2, h3, h0, h1⟩, q⟩ := h
  obtain ⟨t, rfl⟩ := rx
  obtain ⟨t', rfl⟩ := ry
  have hz : a.length * n ≤ 1000 * 1000 := Nat.mul_le_mul h1 h3
  refine P.mul_str ?_ (fun _ _ => ?_) (fun _ _ => ?_) ?_
  · rw [decide_eq_false (by omega), decide_eq_false (by omega)]; rfl
  · have : (1000 : Int) ≤ (2 ^ 63 - 1) / (n : Int) := by
      rw [Int.le_ediv_iff_mul_le (by omega)]
      have : (1000 : Int) * n ≤ 1000 * 1000 := by omega
      omega
    omega
  · refine short24 ?_
    simp only [Int.toNat_natCast]
    omega
  · rw [if_neg (by omega), if_neg (by simp; constructor <;> omega)]
    have hl : (repS a n).length = n * a.length := by
      show (repS a n).cps.size = _
      rw [← Array.length_toList, repS_list]
      simp [Str.length]
    refine ⟨?_, ⟨.str (repS a n), H, I.tok _, ⟨_, rfl⟩, q⟩⟩
    show (repS a ((n : Int)).toNat).length ≤ sizeLine
    rw [Int.toNat_natCast, hl, Nat.mul_comm]
    exact Nat.le_trans hz (by decide)
def dMulS : D2 := fun x y st Q => match x, y with
  | .str a, .int k => 2 ≤ k ∧ k ≤ 1000 ∧ 0 < a.length ∧ a.length ≤ 1000 ∧ Q (.str (repS a k.toNat)) st
  | _, _ => False
variable [TC : TabCtx] in
theorem mulS_ok {K : PySem.W.Frag} : DOp K rMulS dMulS := by
  intro H μ st x y v u Qd Q s rx ry h hQ
  unfold dMulS at h
  split at h
  · rename_i a k
    obtain ⟨h1, h2, h3, h4, q⟩ := h
    exact ⟨a, k.toNat, rx, by rw [show ((k.toNat : Nat) : Int) = k by omega]; exact ry, ⟨by omega, by omega, h3, h4⟩, hQ _ _ _ _ _ q (Ext.refl _ _) s rfl⟩
  · exact h.elim
@[simp] theorem s_mulS {a : Str} {k : Int} {st : Sto} {Q : DK} : dMulS (.str a) (.int k) st Q = (2 ≤ k ∧ k ≤ 1000 ∧ 0 < a.length ∧ a.length ≤ 1000 ∧ Q (.str (repS a k.toNat)) st) := rfl
section
variable [TC : TabCtx] {X : Cx} {W : WX} {a b : Expr} {ta tb : DTE} {pos : Pos}
theorem de_mulS (ha : DE X W a ta) (hb : DE X W b tb) : DE X W (.BinOp a .Mult b pos) (dOp dMulS ta tb) := de_op op_mulS mulS_ok ha hb
end
theorem kit_sf {K : PySem.W.Frag} {q : Addr} (hs : PySem.W.subIn K (.ref q) (.type "str") = some false) : PySem.W.kitOne K (.ref q) (.type "str") = some false := by
  unfold PySem.W.kitOne
  rw [if_neg (by simp)]
  unfold PySem.W.kitCls
  dsimp only
  rw [if_pos (by decide +kernel)]
  exact hs
section
variable [TC : TabCtx] [EC : ErrCtx] {X : Cx} {W : WX} {e c : Expr} {ta : DTE} {pos p : Pos} {T : String}
def dIsiI (ms : List Nat) (ta : DTE) (T : String) : DTE := fun ρ st Q Z => ta ρ st (fun x st1 => (∃ a, tyN st1 x = some a ∧ Q (.bl (tySub a T)) st1) ∨ ∃ n q fs, x = .loc n ∧ q ∈ ms ∧ st1[n]? = some (.ins (errA q) fs) ∧ Q (.bl false) st1) Z
theorem de_isiI {ms : List Nat} (hC : ∀ q ∈ ms, ClF X.K q ∧ PySem.W.kitOne X.K (.ref (errA q)) (.type T) = some false) (hg : Gl X "isinstance") (hm : X.mg "isinstance" = none) (ha : DE X W e ta) (hc : PE X c (tC (.ty T))) (hT : T ∈ ["bool", "int", "str", "tuple", "list", "dict"] := by decide)
    (hs1 : starEach [e, c] X.env = (false, eval e X.env) :: starEach [c] X.env := by rfl) (hs2 : starEach [c] X.env = (false, eval c X.env) :: starEach [] X.env := by rfl) (hpl : (backTo pos (starEach [c] X.env)).any (·.1) = false := by rfl) :
    DE X W (.Call (.Name "isinstance" p) [e, c] [] pos) (dIsiI ms ta T) :=
  pe_weak (pe_callB call_isi hg hm PyProof.Rows.boot_isinstance (pa_cons ha (pa_cons hc pa_nil hs2) hs1) (by decide) (by decide) hs1 hpl) fun σ H Q ⟨ρ, st, μ, Qd, Z, hS, ht, hQ, hZ⟩ =>
    ⟨ρ, st, μ, _, Z, hS, ht, fun x st1 H1 μ1 v hx e1 s1 rv => by
      rcases hx with ⟨a, ea, q⟩ | ⟨n, q, fs, rfl, hq, hn, qq⟩
      · have h1 := kitB_ok a (tyN_mem ea) T hT
        exact ⟨v, .ty T, .type a, .type T, tySub a T, rfl, .ty T, tyN_ok s1 rv ea, (show PySem.W.kitOne X.K (.type a) (.type T) = some (tySub a T) from h1), hQ _ _ _ _ _ q e1 s1 rfl⟩
      · obtain ⟨a, rfl, ha⟩ := rv
        obtain ⟨a', o, q1, q2, dx, gs, rfl, r⟩ := s1.at' _ _ hn
        rw [ha] at q1; cases q1
        obtain ⟨F, hk⟩ := hC q hq
        exact ⟨.ref a, .ty T, .ref (errA q), .type T, false, rfl, .ty T, .base (.ins q2 F.c F.ha F.hn F.ht F.hm), hk, hQ _ _ _ _ _ qq e1 s1 rfl⟩, hZ⟩
end
end DL
namespace RD
open PySem L2 PySem.Spec DL
open PyProof.Rows hiding St
abbrev N_lines_of_k42 : List Str := ["text", "lines", "rest"]
def t_lines_of_k42 [ErrCtx] : DTS := (dSeq (dIfS (dNot (dTru (dIsiI [100] (dVar 0) "str"))) (dRaise1 4 "number" (dC (.int 0))) dNext)
    (dSeq (dAsg (dBM "str" dSplit (dVar 0) (dCons (dC (.str "\n")) dNil)) (gN 1))
    (dSeq (dAsg (dBM "list" dPop (dVar 1) dNil) (gN 2))
    (dRet (dTup (dCons (dVar 1) (dCons (dVar 2) dNil)))))))
abbrev N__law_bent_word : List Str := ["hand", "word", "short", "sign", "at", "some"]
def t__law_bent_word (s__law_draw : DSp) (s__law_any : DSp) : DTS := (dSeq (dPar 2 3 (dCons (dSl (dVar 1) (dPart (dC (.int 1))) dNoPart) (dCons (dCall 2 s__law_any (dCons (dVar 0) (dCons (dLst (dCons (dC (.str "")) (dCons (dC (.str " ")) (dCons (dC (.str "A")) (dCons (dC (.str "0")) (dCons (dC (.str ".")) (dCons (dC (.str "-")) (dCons (dC (.str "+")) (dCons (dC (.str "~")) (dCons (dC (.str "_")) (dCons (dC (.str "9")) (dCons (dC (.str "q")) dNil)))))))))))) dNil))) dNil)))
    (dSeq (dAsg (dCall 2 s__law_draw (dCons (dVar 0) (dCons (dOp dAdd (dCB dLen (dCons (dVar 1) dNil)) (dC (.int 1))) dNil))) (gN 4))
    (dSeq (dAsg (dLst (dCons (dOp dAdd (dOp dAdd (dSl (dVar 1) dNoPart (dPart (dVar 4))) (dVar 3)) (dSl (dVar 1) (dPart (dVar 4)) dNoPart)) (dCons (dOp dAdd (dOp dAdd (dSl (dVar 1) dNoPart (dPart (dVar 4))) (dVar 3)) (dSl (dVar 1) (dPart (dOp dAdd (dVar 4) (dC (.int 1)))) dNoPart)) (dCons (dVar 2) (dCons (dBM "str" dUpper (dVar 1) dNil) (dCons (dOp dAdd (dC (.str "0")) (dVar 1)) (dCons (dOp dAdd (dVar 1) (dVar 1)) dNil))))))) (gN 5))
    (dSeq (dDrop (dBM "list" dExtendA (dVar 5) (dCons (dLst (dCons (dOp dAdd (dVar 1) (dC (.str ".0"))) (dCons (dSl (dVar 1) dNoPart (dPart (dUn dNegV (dC (.int 2))))) (dCons (dOp dAdd (dVar 1) (dC (.str " "))) (dCons (dOp dAdd (dC (.str " ")) (dVar 1)) (dCons (dC (.str "1000001.0.0")) (dCons (dC (.str "0.1000000.1000000")) (dCons (dC (.str "1.2")) (dCons (dC (.str "1.2.3.4")) (dCons (dC (.str "")) dNil)))))))))) dNil)))
    (dSeq (dDrop (dBM "list" dExtendA (dVar 5) (dCons (dLst (dCons (dOp dAdd (dC (.str "0.0.")) (dOp dMulS (dC (.str "9")) (dC (.int 12)))) (dCons (dOp dAdd (dC (.str "0.0.")) (dOp dMulS (dC (.str "9")) (dC (.int 400)))) (dCons (dC (.str "00.1.1")) (dCons (dC (.str "1.01.1")) (dCons (dC (.str "-1.0.0")) (dCons (dC (.str "1.0.0 b a")) (dCons (dC (.str "1.0.0 a a")) (dCons (dC (.str "1.0.0 a b")) (dCons (dC (.str "abcdefghijklm")) dNil)))))))))) dNil)))
    (dRet (dCall 2 s__law_any (dCons (dVar 0) (dCons (dVar 5) dNil)))))))))
abbrev N__law_bent_line_k42 : List Str := ["hand", "line", "words", "at"]
def t__law_bent_line_k42 (s__law_draw : DSp) (s__law_bent_word : DSp) : DTS := (dSeq (dAsg (dBM "str" dSplit (dVar 1) (dCons (dC (.str " ")) dNil)) (gN 2))
    (dSeq (dAsg (dCall 2 s__law_draw (dCons (dVar 0) (dCons (dCB dLen (dCons (dVar 2) dNil)) dNil))) (gN 3))
    (dRet (dBM "str" dJoin (dC (.str " ")) (dCons (dOp dAdd (dOp dAdd (dSl (dVar 2) dNoPart (dPart (dVar 3))) (dLst (dCons (dCall 2 s__law_bent_word (dCons (dVar 0) (dCons (dOp dIx (dVar 2) (dVar 3)) dNil))) dNil))) (dSl (dVar 2) (dPart (dOp dAdd (dVar 3) (dC (.int 1)))) dNoPart)) dNil)))))
abbrev N__law_bent_lines : List Str := ["hand", "lines", "at", "to", "rest", "some", "line", "kind"]
def e__law_bent_lines_1 (s__law_draw : DSp) (s__law_any : DSp) (s__law_check : DSp) (s__law_bent_line : DSp) : DTE := (dOp dAdd (dVar 6) (dC (.str "\n")))
def t__law_bent_lines (s__law_draw : DSp) (s__law_any : DSp) (s__law_check : DSp) (s__law_bent_line : DSp) : DTS := (dSeq (dPar 2 3 (dCons (dCall 2 s__law_draw (dCons (dVar 0) (dCons (dOp dAdd (dCB dLen (dCons (dVar 1) dNil)) (dC (.int 1))) dNil))) (dCons (dCall 2 s__law_draw (dCons (dVar 0) (dCons (dOp dAdd (dCB dLen (dCons (dVar 1) dNil)) (dC (.int 1))) dNil))) dNil)))
    (dSeq (dPar 4 5 (dCons (dOp dAdd (dSl (dVar 1) dNoPart (dPart (dVar 2))) (dSl (dVar 1) (dPart (dOp dAdd (dVar 2) (dC (.int 1)))) dNoPart)) (dCons (dLst (dCons (dC (.str "")) (dCons (dC (.str " ")) (dCons (dC (.str "check")) (dCons (dC (.str "check 0")) (dCons (dC (.str "a 0.0.0")) (dCons (dC (.str "zzz 1.0.0")) (dCons (dC (.str "check 1.0.0")) (dCons (dC (.str "~")) (dCons (dC (.str "a")) dNil)))))))))) dNil)))
    (dSeq (dDrop (dBM "list" dAppend (dVar 5) (dCons (dOp dAdd (dC (.str "check ")) (dCB dStrI (dCons (dCall 1 s__law_check (dCons (dBM "str" dJoin (dC (.str "")) (dCons (dLc (iD (dSl (dVar 1) dNoPart (dPart (dVar 2)))) (gN 6) dYes (e__law_bent_lines_1 s__law_draw s__law_any s__law_check s__law_bent_line) [6]) dNil)) dNil)) dNil))) dNil)))
    (dSeq (dAsg (dCall 2 s__law_draw (dCons (dVar 0) (dCons (dC (.int 8)) dNil))) (gN 7))
    (dSeq (dIfS (dAnd (dTest (dOp dLt (dVar 7) (dC (.int 4)))) (dTest (dOp dLt (dVar 2) (dCB dLen (dCons (dVar 1) dNil))))) (dRet (dOp dAdd (dOp dAdd (dSl (dVar 1) dNoPart (dPart (dVar 2))) (dLst (dCons (dCall 2 s__law_bent_line (dCons (dVar 0) (dCons (dOp dIx (dVar 1) (dVar 2)) dNil))) dNil))) (dSl (dVar 1) (dPart (dOp dAdd (dVar 2) (dC (.int 1)))) dNoPart))) dNext)
    (dSeq (dIfS (dTest (dOp dEq (dVar 7) (dC (.int 4)))) (dRet (dVar 4)) dNext)
    (dSeq (dIfS (dTest (dOp dEq (dVar 7) (dC (.int 5)))) (dRet (dOp dAdd (dOp dAdd (dSl (dVar 4) dNoPart (dPart (dVar 3))) (dSl (dVar 1) (dPart (dVar 2)) (dPart (dOp dAdd (dVar 2) (dC (.int 1)))))) (dSl (dVar 4) (dPart (dVar 3)) dNoPart))) dNext)
    (dRet (dOp dAdd (dOp dAdd (dSl (dVar 1) dNoPart (dPart (dVar 2))) (dLst (dCons (dIf (dTest (dOp dLt (dVar 7) (dC (.int 7)))) (dCall 2 s__law_any (dCons (dVar 0) (dCons (dVar 5) dNil))) (dBM "str" dJoin (dC (.str "")) (dCons (dSl (dVar 1) dNoPart (dPart (dC (.int 1)))) dNil))) dNil))) (dSl (dVar 1) (dPart (dVar 2)) dNoPart))))))))))
abbrev N__law_end : List Str := ["hand", "lines", "elder", "body", "line", "right", "other", "kind", "some"]
def e__law_end_1 (s__law_draw : DSp) (s__law_any : DSp) (s__law_check : DSp) : DTE := (dOp dAdd (dVar 4) (dC (.str "\n")))
def e__law_end_2 (s__law_draw : DSp) (s__law_any : DSp) (s__law_check : DSp) : DTE := (dOp dAdd (dVar 4) (dC (.str "\n")))
def t__law_end (s__law_draw : DSp) (s__law_any : DSp) (s__law_check : DSp) : DTS := (dSeq (dAsg (dBM "str" dJoin (dC (.str "")) (dCons (dLc (iD (dVar 1)) (gN 4) dYes (e__law_end_1 s__law_draw s__law_any s__law_check) [4]) dNil)) (gN 3))
    (dSeq (dPar 5 6 (dCons (dCB dStrI (dCons (dCall 1 s__law_check (dCons (dVar 3) dNil)) dNil)) (dCons (dCB dStrI (dCons (dCall 1 s__law_check (dCons (dBM "str" dJoin (dC (.str "")) (dCons (dLc (iD (dVar 2)) (gN 4) dYes (e__law_end_2 s__law_draw s__law_any s__law_check) [4]) dNil)) dNil)) dNil)) dNil)))
    (dSeq (dAsg (dCall 2 s__law_draw (dCons (dVar 0) (dCons (dC (.int 8)) dNil))) (gN 7))
    (dSeq (dIfS (dTest (dOp dLt (dVar 7) (dC (.int 4)))) (dRet (dOp dAdd (dOp dAdd (dC (.str "check ")) (dVar 5)) (dC (.str "\n")))) dNext)
    (dSeq (dAsg (dLst (dCons (dOp dAdd (dOp dAdd (dC (.str "check ")) (dVar 6)) (dC (.str "\n"))) (dCons (dOp dAdd (dOp dAdd (dC (.str "check 0")) (dVar 5)) (dC (.str "\n"))) (dCons (dOp dAdd (dOp dAdd (dC (.str "check  ")) (dVar 5)) (dC (.str "\n"))) (dCons (dOp dAdd (dC (.str "check ")) (dVar 5)) (dCons (dC (.str "")) (dCons (dC (.str "check\n")) dNil))))))) (gN 8))
    (dSeq (dDrop (dBM "list" dExtendA (dVar 8) (dCons (dLst (dCons (dOp dAdd (dOp dAdd (dC (.str "check ")) (dVar 5)) (dC (.str " \n"))) (dCons (dOp dAdd (dOp dAdd (dC (.str " check ")) (dVar 5)) (dC (.str "\n"))) (dCons (dOp dAdd (dOp dAdd (dC (.str "Check ")) (dVar 5)) (dC (.str "\n"))) (dCons (dOp dAdd (dOp dAdd (dC (.str "check -")) (dVar 5)) (dC (.str "\n"))) dNil))))) dNil)))
    (dSeq (dDrop (dBM "list" dExtendA (dVar 8) (dCons (dLst (dCons (dOp dAdd (dOp dAdd (dC (.str "check ")) (dCB dStrI (dCons (dOp dAdd (dCall 1 s__law_check (dCons (dVar 3) dNil)) (dC (.int 1))) dNil))) (dC (.str "\n"))) (dCons (dOp dAdd (dOp dAdd (dC (.str "check ")) (dCB dStrI (dCons (dOp dAdd (dCall 1 s__law_check (dCons (dVar 3) dNil)) (dC (.int 99991))) dNil))) (dC (.str "\n"))) dNil))) dNil)))
    (dSeq (dDrop (dBM "list" dExtendA (dVar 8) (dCons (dLst (dCons (dOp dMulS (dOp dAdd (dOp dAdd (dC (.str "check ")) (dVar 5)) (dC (.str "\n"))) (dC (.int 2))) (dCons (dOp dAdd (dOp dAdd (dC (.str "check ")) (dVar 5)) (dC (.str "\n\n"))) (dCons (dOp dAdd (dOp dAdd (dC (.str "check ")) (dVar 5)) (dC (.str "\na 1.0.0\n"))) (dCons (dC (.str "\n")) dNil))))) dNil)))
    (dRet (dCall 2 s__law_any (dCons (dVar 0) (dCons (dOp dAdd (dVar 8) (dLst (dCons (dOp dAdd (dOp dAdd (dC (.str "check ")) (dVar 5)) (dC (.str "\nx"))) (dCons (dOp dAdd (dOp dAdd (dOp dAdd (dC (.str "check ")) (dVar 5)) (dOp dMulS (dC (.str "0")) (dC (.int 14)))) (dC (.str "\n"))) (dCons (dOp dAdd (dOp dAdd (dC (.str "check")) (dVar 5)) (dC (.str "\n"))) dNil))))) dNil))))))))))))
abbrev N__law_strange : List Str := ["hand", "signs", "text", "k", "one"]
def e__law_strange_1 [ErrCtx] (s_Entry___init__ : DSp) (s__law_draw : DSp) (s__law_any : DSp) : DTE := (dOp dIx (dVar 1) (dCall 2 s__law_draw (dCons (dVar 0) (dCons (dCB dLen (dCons (dVar 1) dNil)) dNil))))
def t__law_strange [ErrCtx] (s_Entry___init__ : DSp) (s__law_draw : DSp) (s__law_any : DSp) : DTS := (dSeq (dAsg (dC (.str " !\"#$&'()*+,-./0123456789:;<=>?@ABCXYZ[\\]^_`abcxyz{|}~\n\n")) (gN 1))
    (dSeq (dAsg (dBM "str" dJoin (dC (.str "")) (dCons (dLc (iR1 (dCons (dCall 2 s__law_draw (dCons (dVar 0) (dCons (dC (.int 12)) dNil))) dNil)) (gN 3) dYes (e__law_strange_1 s_Entry___init__ s__law_draw s__law_any) [3]) dNil)) (gN 2))
    (dSeq (dAsg (dMake 100 6 s_Entry___init__ (dCons (dC (.str "a")) (dCons (dTup (dCons (dC (.int 1)) (dCons (dC (.int 0)) (dCons (dC (.int 0)) dNil)))) (dCons (dTup dNil) (dCons (dTup dNil) (dCons (dTup dNil) dNil)))))) (gN 4))
    (dRet (dCall 2 s__law_any (dCons (dVar 0) (dCons (dLst (dCons (dC (.non)) (dCons (dC (.int 0)) (dCons (dC (.bl true)) (dCons (dTup dNil) (dCons (dLst (dCons (dC (.str "check 0")) dNil)) (dCons (dDisp [((dC (.str "check 0")), (dC (.int 0)))]) (dCons (dTup (dCons (dTup (dCons (dC (.str "a")) (dCons (dTup (dCons (dC (.int 0)) (dCons (dC (.int 0)) (dCons (dC (.int 0)) dNil)))) (dCons (dTup dNil) dNil)))) dNil)) (dCons (dVar 4) (dCons (dVar 2) (dCons (dVar 2) (dCons (dOp dAdd (dVar 2) (dC (.str "\n"))) dNil)))))))))))) dNil)))))))
abbrev N_law_k42 : List Str := ["script", "hand", "turn", "elder", "triple", "lines", "bend", "text", "line", "strange"]
def e_law_k42_1 [ErrCtx] (s__law_hand : DSp) (s__law_any : DSp) (s__law_installation : DSp) (s__law_line : DSp) (s__law_due : DSp) (s__law_read : DSp) (s__law_bent_lines : DSp) (s__law_end : DSp) (s__law_strange : DSp) : DTE := (dSl (dCall 1 s__law_line (dCons (dVar 4) dNil)) dNoPart (dPart (dUn dNegV (dC (.int 1)))))
def b_law_k42_2 [ErrCtx] (s__law_hand : DSp) (s__law_any : DSp) (s__law_installation : DSp) (s__law_line : DSp) (s__law_due : DSp) (s__law_read : DSp) (s__law_bent_lines : DSp) (s__law_end : DSp) (s__law_strange : DSp) : DTS := (dAsg (dCall 2 s__law_bent_lines (dCons (dVar 1) (dCons (dVar 5) dNil))) (gN 5))
def e_law_k42_3 [ErrCtx] (s__law_hand : DSp) (s__law_any : DSp) (s__law_installation : DSp) (s__law_line : DSp) (s__law_due : DSp) (s__law_read : DSp) (s__law_bent_lines : DSp) (s__law_end : DSp) (s__law_strange : DSp) : DTE := (dOp dAdd (dVar 8) (dC (.str "\n")))
def b_law_k42_4 [ErrCtx] (s__law_hand : DSp) (s__law_any : DSp) (s__law_installation : DSp) (s__law_line : DSp) (s__law_due : DSp) (s__law_read : DSp) (s__law_bent_lines : DSp) (s__law_end : DSp) (s__law_strange : DSp) : DTS := (dSeq (dAsg (dLc (iD (dSl (dCall 1 s__law_installation (dCons (dVar 1) dNil)) dNoPart (dPart (dC (.int 9))))) (gN 4) dYes (e_law_k42_1 s__law_hand s__law_any s__law_installation s__law_line s__law_due s__law_read s__law_bent_lines s__law_end s__law_strange) [4]) (gN 3))
    (dSeq (dAsg (dVar 3) (gN 5))
    (dSeq (dFor (iR1 (dCons (dCall 2 s__law_any (dCons (dVar 1) (dCons (dLst (dCons (dC (.int 0)) (dCons (dC (.int 1)) (dCons (dC (.int 1)) (dCons (dC (.int 1)) (dCons (dC (.int 1)) (dCons (dC (.int 2)) (dCons (dC (.int 3)) dNil)))))))) dNil))) dNil)) (gN 6) (b_law_k42_2 s__law_hand s__law_any s__law_installation s__law_line s__law_due s__law_read s__law_bent_lines s__law_end s__law_strange))
    (dSeq (dAsg (dOp dAdd (dBM "str" dJoin (dC (.str "")) (dCons (dLc (iD (dVar 5)) (gN 8) dYes (e_law_k42_3 s__law_hand s__law_any s__law_installation s__law_line s__law_due s__law_read s__law_bent_lines s__law_end s__law_strange) [8]) dNil)) (dCall 3 s__law_end (dCons (dVar 1) (dCons (dVar 5) (dCons (dVar 3) dNil))))) (gN 7))
    (dSeq (dIfS (dTest (dOp dNe (dCall 1 s__law_read (dCons (dVar 7) dNil)) (dCall 1 s__law_due (dCons (dVar 7) dNil)))) (dRet (dC (.bl false))) dNext)
    (dSeq (dAsg (dCall 1 s__law_strange (dCons (dVar 1) dNil)) (gN 9))
    (dIfS (dTest (dOp dNe (dCall 1 s__law_read (dCons (dVar 9) dNil)) (dIf (dTru (dIsiI [100] (dVar 9) "str")) (dCall 1 s__law_due (dCons (dVar 9) dNil)) (dTup (dCons (dC (.str "refused")) (dCons (dC (.int 0)) dNil)))))) (dRet (dC (.bl false))) dNext)))))))
def t_law_k42 [ErrCtx] (s__law_hand : DSp) (s__law_any : DSp) (s__law_installation : DSp) (s__law_line : DSp) (s__law_due : DSp) (s__law_read : DSp) (s__law_bent_lines : DSp) (s__law_end : DSp) (s__law_strange : DSp) : DTS := (dSeq (dAsg (dCall 1 s__law_hand (dCons (dVar 0) dNil)) (gN 1))
    (dSeq (dFor (iR1 (dCons (dC (.int 6)) dNil)) (gN 2) (b_law_k42_4 s__law_hand s__law_any s__law_installation s__law_line s__law_due s__law_read s__law_bent_lines s__law_end s__law_strange))
    (dRet (dC (.bl true)))))
abbrev N_Entry___eq___k42 : List Str := ["self", "other"]
def t_Entry___eq___k42 [ErrCtx] : DTS := (dRet (dAndV (dIsC [100] 100 (dVar 1)) (dAndV (dOp dEq (dFld "name" [100] (dVar 0)) (dFld "name" [100] (dVar 1))) (dAndV (dOp dEq (dFld "version" [100] (dVar 0)) (dFld "version" [100] (dVar 1))) (dAndV (dOp dEq (dFld "features" [100] (dVar 0)) (dFld "features" [100] (dVar 1))) (dAndV (dOp dEq (dFld "needs" [100] (dVar 0)) (dFld "needs" [100] (dVar 1))) (dOp dEq (dFld "bars" [100] (dVar 0)) (dFld "bars" [100] (dVar 1)))))))))
end RD
namespace Lk42
open PySem L2 PySem.Spec DL
open PyProof.Rows hiding St
def topS (i : Nat) : Stmt := PySem.Challenge.pw_lockwright_k42_whole_first_wrong_lines.main.body.getD i (.Pass ⟨0, 0, 0, 0⟩)
abbrev S_is_integer : Stmt := topS 8
abbrev N_is_integer : List Str := RD.N_is_integer
theorem sc_is_integer : FnScope N_is_integer ["thing"] (defScope S_is_integer) := ⟨rfl, rfl, rfl, by decide +kernel, rfl, by decide +kernel, by decide +kernel⟩
abbrev S_is_number : Stmt := topS 9
abbrev N_is_number : List Str := RD.N_is_number
theorem sc_is_number : FnScope N_is_number ["thing"] (defScope S_is_number) := ⟨rfl, rfl, rfl, by decide +kernel, rfl, by decide +kernel, by decide +kernel⟩
abbrev S_is_name : Stmt := topS 10
abbrev N_is_name : List Str := RD.N_is_name
theorem sc_is_name : FnScope N_is_name ["thing"] (defScope S_is_name) := ⟨rfl, rfl, rfl, by decide +kernel, rfl, by decide +kernel, by decide +kernel⟩
abbrev S_is_names : Stmt := topS 11
abbrev N_is_names : List Str := RD.N_is_names
theorem sc_is_names : FnScope N_is_names ["thing"] (defScope S_is_names) := ⟨rfl, rfl, rfl, by decide +kernel, rfl, by decide +kernel, by decide +kernel⟩
abbrev S_is_wanted : Stmt := topS 12
abbrev N_is_wanted : List Str := RD.N_is_wanted
theorem sc_is_wanted : FnScope N_is_wanted ["thing"] (defScope S_is_wanted) := ⟨rfl, rfl, rfl, by decide +kernel, rfl, by decide +kernel, by decide +kernel⟩
abbrev S_is_tuple_of : Stmt := topS 13
abbrev N_is_tuple_of : List Str := RD.N_is_tuple_of
theorem sc_is_tuple_of : FnScope N_is_tuple_of ["many", "thing"] (defScope S_is_tuple_of) := ⟨rfl, rfl, rfl, by decide +kernel, rfl, by decide +kernel, by decide +kernel⟩
abbrev S_is_tuple_within : Stmt := topS 14
abbrev N_is_tuple_within : List Str := RD.N_is_tuple_within
theorem sc_is_tuple_within : FnScope N_is_tuple_within ["most", "thing"] (defScope S_is_tuple_within) := ⟨rfl, rfl, rfl, by decide +kernel, rfl, by decide +kernel, by decide +kernel⟩
abbrev S_is_version : Stmt := topS 18
abbrev N_is_version : List Str := RD.N_is_version
theorem sc_is_version : FnScope N_is_version ["thing"] (defScope S_is_version) := ⟨rfl, rfl, rfl, by decide +kernel, rfl, by decide +kernel, by decide +kernel⟩
abbrev S_is_stretch : Stmt := topS 19
abbrev N_is_stretch : List Str := RD.N_is_stretch
theorem sc_is_stretch : FnScope N_is_stretch ["thing"] (defScope S_is_stretch) := ⟨rfl, rfl, rfl, by decide +kernel, rfl, by decide +kernel, by decide +kernel⟩
abbrev S_is_range : Stmt := topS 20
abbrev N_is_range : List Str := RD.N_is_range
theorem sc_is_range : FnScope N_is_range ["thing"] (defScope S_is_range) := ⟨rfl, rfl, rfl, by decide +kernel, rfl, by decide +kernel, by decide +kernel⟩
abbrev S_reaches : Stmt := topS 21
abbrev N_reaches : List Str := RD.N_reaches
theorem sc_reaches : FnScope N_reaches ["high", "low"] (defScope S_reaches) := ⟨rfl, rfl, rfl, by decide +kernel, rfl, by decide +kernel, by decide +kernel⟩
abbrev S_told_number : Stmt := topS 22
abbrev N_told_number : List Str := RD.N_told_number
theorem sc_told_number : FnScope N_told_number ["digits", "text"] (defScope S_told_number) := ⟨rfl, rfl, rfl, by decide +kernel, rfl, by decide +kernel, by decide +kernel⟩
abbrev S_told_version : Stmt := topS 23
abbrev N_told_version : List Str := RD.N_told_version
theorem sc_told_version : FnScope N_told_version ["text"] (defScope S_told_version) := ⟨rfl, rfl, rfl, by decide +kernel, rfl, by decide +kernel, by decide +kernel⟩
abbrev S_is_release : Stmt := topS 29
abbrev N_is_release : List Str := RD.N_is_release
theorem sc_is_release : FnScope N_is_release ["thing"] (defScope S_is_release) := ⟨rfl, rfl, rfl, by decide +kernel, rfl, by decide +kernel, by decide +kernel⟩
abbrev S_is_other : Stmt := topS 30
abbrev N_is_other : List Str := RD.N_is_other
theorem sc_is_other : FnScope N_is_other ["name", "thing"] (defScope S_is_other) := ⟨rfl, rfl, rfl, by decide +kernel, rfl, by decide +kernel, by decide +kernel⟩
abbrev S_is_feature : Stmt := topS 31
abbrev N_is_feature : List Str := RD.N_is_feature
theorem sc_is_feature : FnScope N_is_feature ["thing"] (defScope S_is_feature) := ⟨rfl, rfl, rfl, by decide +kernel, rfl, by decide +kernel, by decide +kernel⟩
abbrev S_lacking : Stmt := topS 32
abbrev N_lacking : List Str := RD.N_lacking
theorem sc_lacking : FnScope N_lacking ["features"] (defScope S_lacking) := ⟨rfl, rfl, rfl, by decide +kernel, rfl, by decide +kernel, by decide +kernel⟩
abbrev S_is_features : Stmt := topS 33
abbrev N_is_features : List Str := RD.N_is_features
theorem sc_is_features : FnScope N_is_features ["thing"] (defScope S_is_features) := ⟨rfl, rfl, rfl, by decide +kernel, rfl, by decide +kernel, by decide +kernel⟩
abbrev S_is_need : Stmt := topS 34
abbrev N_is_need : List Str := RD.N_is_need
theorem sc_is_need : FnScope N_is_need ["name", "features", "thing"] (defScope S_is_need) := ⟨rfl, rfl, rfl, by decide +kernel, rfl, by decide +kernel, by decide +kernel⟩
abbrev S_is_bar : Stmt := topS 35
abbrev N_is_bar : List Str := RD.N_is_bar
theorem sc_is_bar : FnScope N_is_bar ["name", "thing"] (defScope S_is_bar) := ⟨rfl, rfl, rfl, by decide +kernel, rfl, by decide +kernel, by decide +kernel⟩
abbrev S_wrong_need : Stmt := topS 36
abbrev N_wrong_need : List Str := RD.N_wrong_need
theorem sc_wrong_need : FnScope N_wrong_need ["name", "features", "needs"] (defScope S_wrong_need) := ⟨rfl, rfl, rfl, by decide +kernel, rfl, by decide +kernel, by decide +kernel⟩
abbrev S_wrong_bar : Stmt := topS 37
abbrev N_wrong_bar : List Str := RD.N_wrong_bar
theorem sc_wrong_bar : FnScope N_wrong_bar ["name", "bars"] (defScope S_wrong_bar) := ⟨rfl, rfl, rfl, by decide +kernel, rfl, by decide +kernel, by decide +kernel⟩
abbrev S_wrong_part : Stmt := topS 38
abbrev N_wrong_part : List Str := RD.N_wrong_part
theorem sc_wrong_part : FnScope N_wrong_part ["name", "version", "features", "needs", "bars"] (defScope S_wrong_part) := ⟨rfl, rfl, rfl, by decide +kernel, rfl, by decide +kernel, by decide +kernel⟩
abbrev S_is_triple : Stmt := topS 41
abbrev N_is_triple : List Str := RD.N_is_triple
theorem sc_is_triple : FnScope N_is_triple ["thing"] (defScope S_is_triple) := ⟨rfl, rfl, rfl, by decide +kernel, rfl, by decide +kernel, by decide +kernel⟩
abbrev S_lines_of : Stmt := topS 43
abbrev N_lines_of : List Str := RD.N_lines_of_k42
theorem sc_lines_of : FnScope N_lines_of ["text"] (defScope S_lines_of) := ⟨rfl, rfl, rfl, by decide +kernel, rfl, by decide +kernel, by decide +kernel⟩
abbrev S_text_of : Stmt := topS 44
abbrev N_text_of : List Str := RD.N_text_of
theorem sc_text_of : FnScope N_text_of ["lines"] (defScope S_text_of) := ⟨rfl, rfl, rfl, by decide +kernel, rfl, by decide +kernel, by decide +kernel⟩
abbrev S_check_line : Stmt := topS 47
abbrev N_check_line : List Str := RD.N_check_line
theorem sc_check_line : FnScope N_check_line ["text"] (defScope S_check_line) := ⟨rfl, rfl, rfl, by decide +kernel, rfl, by decide +kernel, by decide +kernel⟩
abbrev S_told_triple : Stmt := topS 48
abbrev N_told_triple : List Str := RD.N_told_triple
theorem sc_told_triple : FnScope N_told_triple ["line"] (defScope S_told_triple) := ⟨rfl, rfl, rfl, by decide +kernel, rfl, by decide +kernel, by decide +kernel⟩
abbrev S_read_lock : Stmt := topS 49
abbrev N_read_lock : List Str := RD.N_read_lock
theorem sc_read_lock : FnScope N_read_lock ["text"] (defScope S_read_lock) := ⟨rfl, rfl, rfl, by decide +kernel, rfl, by decide +kernel, by decide +kernel⟩
abbrev S__law_hand : Stmt := topS 51
abbrev N__law_hand : List Str := RD.N__law_hand_k41
theorem sc__law_hand : FnScope N__law_hand ["script"] (defScope S__law_hand) := ⟨rfl, rfl, rfl, by decide +kernel, rfl, by decide +kernel, by decide +kernel⟩
abbrev S__law_draw : Stmt := topS 52
abbrev N__law_draw : List Str := RD.N__law_draw_k41
theorem sc__law_draw : FnScope N__law_draw ["hand", "many"] (defScope S__law_draw) := ⟨rfl, rfl, rfl, by decide +kernel, rfl, by decide +kernel, by decide +kernel⟩
abbrev S__law_any : Stmt := topS 53
abbrev N__law_any : List Str := RD.N__law_any
theorem sc__law_any : FnScope N__law_any ["hand", "things"] (defScope S__law_any) := ⟨rfl, rfl, rfl, by decide +kernel, rfl, by decide +kernel, by decide +kernel⟩
abbrev S__law_name : Stmt := topS 54
abbrev N__law_name : List Str := RD.N__law_name
theorem sc__law_name : FnScope N__law_name ["hand"] (defScope S__law_name) := ⟨rfl, rfl, rfl, by decide +kernel, rfl, by decide +kernel, by decide +kernel⟩
abbrev S__law_installation : Stmt := topS 55
abbrev N__law_installation : List Str := RD.N__law_installation
theorem sc__law_installation : FnScope N__law_installation ["hand"] (defScope S__law_installation) := ⟨rfl, rfl, rfl, by decide +kernel, rfl, by decide +kernel, by decide +kernel⟩
abbrev S__law_check : Stmt := topS 56
abbrev N__law_check : List Str := RD.N__law_check
theorem sc__law_check : FnScope N__law_check ["text"] (defScope S__law_check) := ⟨rfl, rfl, rfl, by decide +kernel, rfl, by decide +kernel, by decide +kernel⟩
abbrev S__law_line : Stmt := topS 57
abbrev N__law_line : List Str := RD.N__law_line
theorem sc__law_line : FnScope N__law_line ["triple"] (defScope S__law_line) := ⟨rfl, rfl, rfl, by decide +kernel, rfl, by decide +kernel, by decide +kernel⟩
abbrev S__law_is_name : Stmt := topS 59
abbrev N__law_is_name : List Str := RD.N__law_is_name_k42
theorem sc__law_is_name : FnScope N__law_is_name ["word"] (defScope S__law_is_name) := ⟨rfl, rfl, rfl, by decide +kernel, rfl, by decide +kernel, by decide +kernel⟩
abbrev S__law_number : Stmt := topS 60
abbrev N__law_number : List Str := RD.N__law_number
theorem sc__law_number : FnScope N__law_number ["word", "most"] (defScope S__law_number) := ⟨rfl, rfl, rfl, by decide +kernel, rfl, by decide +kernel, by decide +kernel⟩
abbrev S__law_triple : Stmt := topS 61
abbrev N__law_triple : List Str := RD.N__law_triple
theorem sc__law_triple : FnScope N__law_triple ["line"] (defScope S__law_triple) := ⟨rfl, rfl, rfl, by decide +kernel, rfl, by decide +kernel, by decide +kernel⟩
abbrev S__law_due : Stmt := topS 62
abbrev N__law_due : List Str := RD.N__law_due_k42
theorem sc__law_due : FnScope N__law_due ["text"] (defScope S__law_due) := ⟨rfl, rfl, rfl, by decide +kernel, rfl, by decide +kernel, by decide +kernel⟩
abbrev S__law_read : Stmt := topS 63
abbrev N__law_read : List Str := RD.N__law_read
theorem sc__law_read : FnScope N__law_read ["text"] (defScope S__law_read) := ⟨rfl, rfl, rfl, by decide +kernel, rfl, by decide +kernel, by decide +kernel⟩
abbrev S__law_bent_word : Stmt := topS 64
abbrev N__law_bent_word : List Str := RD.N__law_bent_word
theorem sc__law_bent_word : FnScope N__law_bent_word ["hand", "word"] (defScope S__law_bent_word) := ⟨rfl, rfl, rfl, by decide +kernel, rfl, by decide +kernel, by decide +kernel⟩
abbrev S__law_bent_line : Stmt := topS 65
abbrev N__law_bent_line : List Str := RD.N__law_bent_line_k42
theorem sc__law_bent_line : FnScope N__law_bent_line ["hand", "line"] (defScope S__law_bent_line) := ⟨rfl, rfl, rfl, by decide +kernel, rfl, by decide +kernel, by decide +kernel⟩
abbrev S__law_bent_lines : Stmt := topS 66
abbrev N__law_bent_lines : List Str := RD.N__law_bent_lines
theorem sc__law_bent_lines : FnScope N__law_bent_lines ["hand", "lines"] (defScope S__law_bent_lines) := ⟨rfl, rfl, rfl, by decide +kernel, rfl, by decide +kernel, by decide +kernel⟩
abbrev S__law_end : Stmt := topS 67
abbrev N__law_end : List Str := RD.N__law_end
theorem sc__law_end : FnScope N__law_end ["hand", "lines", "elder"] (defScope S__law_end) := ⟨rfl, rfl, rfl, by decide +kernel, rfl, by decide +kernel, by decide +kernel⟩
abbrev S__law_strange : Stmt := topS 68
abbrev N__law_strange : List Str := RD.N__law_strange
theorem sc__law_strange : FnScope N__law_strange ["hand"] (defScope S__law_strange) := ⟨rfl, rfl, rfl, by decide +kernel, rfl, by decide +kernel, by decide +kernel⟩
abbrev S_law : Stmt := topS 69
abbrev N_law : List Str := RD.N_law_k42
theorem sc_law : FnScope N_law ["script"] (defScope S_law) := ⟨rfl, rfl, rfl, by decide +kernel, rfl, by decide +kernel, by decide +kernel⟩
abbrev S_Entry___init__ : Stmt := mthS (topS 39) 0
abbrev N_Entry___init__ : List Str := RD.N_Entry___init__
theorem sc_Entry___init__ : FnScope N_Entry___init__ ["self", "name", "version", "features", "needs", "bars"] (defScope S_Entry___init__) := ⟨rfl, rfl, rfl, by decide +kernel, rfl, by decide +kernel, by decide +kernel⟩
abbrev S_Entry___eq__ : Stmt := mthS (topS 39) 1
abbrev N_Entry___eq__ : List Str := RD.N_Entry___eq___k42
theorem sc_Entry___eq__ : FnScope N_Entry___eq__ ["self", "other"] (defScope S_Entry___eq__) := ⟨rfl, rfl, rfl, by decide +kernel, rfl, by decide +kernel, by decide +kernel⟩
abbrev SI_BadEntry : Stmt := mthS (topS 3) 0
theorem sci_BadEntry : FnScope ["self", "part"] ["self", "part"] (defScope SI_BadEntry) := ⟨rfl, rfl, rfl, by decide +kernel, rfl, by decide +kernel, by decide +kernel⟩
abbrev SI_BadLine : Stmt := mthS (topS 4) 0
theorem sci_BadLine : FnScope ["self", "number"] ["self", "number"] (defScope SI_BadLine) := ⟨rfl, rfl, rfl, by decide +kernel, rfl, by decide +kernel, by decide +kernel⟩
structure Glob [ErrCtx] (K : PySem.W.Frag) (mg : Str → Option Value) : Prop where
  g_BadEntry : mg "BadEntry" = some (.ref (errA 2))
  g_BadLine : mg "BadLine" = some (.ref (errA 4))
  g_BadText : mg "BadText" = some (.ref (errA 1))
  g_Entry : mg "Entry" = some (.ref (errA 100))
  g_LockError : mg "LockError" = some (.ref (errA 0))
  xm_BadLine_BadLine : PySem.W.exmOne K (.ref (errA 4)) (.ref (errA 4)) = some true
  ef_BadLine : ErF K 4
  no_BadLine : PySem.W.findIn K (.ref (errA 4)) "number" = some none
  kt_BadLine_BadText : PySem.W.kitOne K (.ref (errA 4)) (.ref (errA 1)) = some false
  kt_BadLine_LockError : PySem.W.kitOne K (.ref (errA 4)) (.ref (errA 0)) = some true
  kt_BadLine_ValueError : PySem.W.kitOne K (.ref (errA 4)) (.type "ValueError") = some true
  kb_Entry : ∀ a ∈ ["NoneType", "bool", "int", "str", "tuple", "list", "dict"], PySem.W.kitOne K (.type a) (.ref (errA 100)) = some false
  ko_Entry_Entry : PySem.W.kitOne K (.ref (errA 100)) (.ref (errA 100)) = some (100 == 100)
  ks_Entry : PySem.W.kitOne K (.ref (errA 100)) (.type "str") = some false
  cl_Entry : ClF K 100
  in_Entry : C8.InsC K (errA 100)
  mk_Entry : MkF K mg 100 "Entry"
  na_Entry_bars : NoAttr K (errA 100) "bars"
  na_Entry_features : NoAttr K (errA 100) "features"
  na_Entry_name : NoAttr K (errA 100) "name"
  na_Entry_needs : NoAttr K (errA 100) "needs"
  na_Entry_version : NoAttr K (errA 100) "version"
  d_is_integer : DefIn K mg "is_integer" S_is_integer ["thing"]
  d_is_number : DefIn K mg "is_number" S_is_number ["thing"]
  d_is_name : DefIn K mg "is_name" S_is_name ["thing"]
  d_is_names : DefIn K mg "is_names" S_is_names ["thing"]
  d_is_wanted : DefIn K mg "is_wanted" S_is_wanted ["thing"]
  d_is_tuple_of : DefIn K mg "is_tuple_of" S_is_tuple_of ["many", "thing"]
  d_is_tuple_within : DefIn K mg "is_tuple_within" S_is_tuple_within ["most", "thing"]
  d_is_version : DefIn K mg "is_version" S_is_version ["thing"]
  d_is_stretch : DefIn K mg "is_stretch" S_is_stretch ["thing"]
  d_is_range : DefIn K mg "is_range" S_is_range ["thing"]
  d_reaches : DefIn K mg "reaches" S_reaches ["high", "low"]
  d_told_number : DefIn K mg "told_number" S_told_number ["digits", "text"]
  d_told_version : DefIn K mg "told_version" S_told_version ["text"]
  d_is_release : DefIn K mg "is_release" S_is_release ["thing"]
  d_is_other : DefIn K mg "is_other" S_is_other ["name", "thing"]
  d_is_feature : DefIn K mg "is_feature" S_is_feature ["thing"]
  d_lacking : DefIn K mg "lacking" S_lacking ["features"]
  d_is_features : DefIn K mg "is_features" S_is_features ["thing"]
  d_is_need : DefIn K mg "is_need" S_is_need ["name", "features", "thing"]
  d_is_bar : DefIn K mg "is_bar" S_is_bar ["name", "thing"]
  d_wrong_need : DefIn K mg "wrong_need" S_wrong_need ["name", "features", "needs"]
  d_wrong_bar : DefIn K mg "wrong_bar" S_wrong_bar ["name", "bars"]
  d_wrong_part : DefIn K mg "wrong_part" S_wrong_part ["name", "version", "features", "needs", "bars"]
  d_is_triple : DefIn K mg "is_triple" S_is_triple ["thing"]
  d_lines_of : DefIn K mg "lines_of" S_lines_of ["text"]
  d_text_of : DefIn K mg "text_of" S_text_of ["lines"]
  d_check_line : DefIn K mg "check_line" S_check_line ["text"]
  d_told_triple : DefIn K mg "told_triple" S_told_triple ["line"]
  d_read_lock : DefIn K mg "read_lock" S_read_lock ["text"]
  d__law_hand : DefIn K mg "_law_hand" S__law_hand ["script"]
  d__law_draw : DefIn K mg "_law_draw" S__law_draw ["hand", "many"]
  d__law_any : DefIn K mg "_law_any" S__law_any ["hand", "things"]
  d__law_name : DefIn K mg "_law_name" S__law_name ["hand"]
  d__law_installation : DefIn K mg "_law_installation" S__law_installation ["hand"]
  d__law_check : DefIn K mg "_law_check" S__law_check ["text"]
  d__law_line : DefIn K mg "_law_line" S__law_line ["triple"]
  d__law_is_name : DefIn K mg "_law_is_name" S__law_is_name ["word"]
  d__law_number : DefIn K mg "_law_number" S__law_number ["word", "most"]
  d__law_triple : DefIn K mg "_law_triple" S__law_triple ["line"]
  d__law_due : DefIn K mg "_law_due" S__law_due ["text"]
  d__law_read : DefIn K mg "_law_read" S__law_read ["text"]
  d__law_bent_word : DefIn K mg "_law_bent_word" S__law_bent_word ["hand", "word"]
  d__law_bent_line : DefIn K mg "_law_bent_line" S__law_bent_line ["hand", "line"]
  d__law_bent_lines : DefIn K mg "_law_bent_lines" S__law_bent_lines ["hand", "lines"]
  d__law_end : DefIn K mg "_law_end" S__law_end ["hand", "lines", "elder"]
  d__law_strange : DefIn K mg "_law_strange" S__law_strange ["hand"]
  d_law : DefIn K mg "law" S_law ["script"]
  m_Entry___init__ : MthIn K 100 "__init__" "Entry.__init__" S_Entry___init__ ["self", "name", "version", "features", "needs", "bars"]
  m_Entry___eq__ : MthIn K 100 "__eq__" "Entry.__eq__" S_Entry___eq__ ["self", "other"]
  z_ValueError : mg "ValueError" = none
  z_abs : mg "abs" = none
  z_all : mg "all" = none
  z_bool : mg "bool" = none
  z_enumerate : mg "enumerate" = none
  z_int : mg "int" = none
  z_isinstance : mg "isinstance" = none
  z_len : mg "len" = none
  z_max : mg "max" = none
  z_ord : mg "ord" = none
  z_range : mg "range" = none
  z_set : mg "set" = none
  z_sorted : mg "sorted" = none
  z_str : mg "str" = none
  z_sum : mg "sum" = none
  z_tuple : mg "tuple" = none
  c_NAME_MOST : Cst K mg "NAME_MOST" (.int 12)
  c_WANTED_MOST : Cst K mg "WANTED_MOST" (.int 4)
  c_NUMBER_MOST : Cst K mg "NUMBER_MOST" (.int 1000000)
  c_NUMBER_DIGITS : Cst K mg "NUMBER_DIGITS" (.int 7)
  c_RELEASE_MOST : Cst K mg "RELEASE_MOST" (.int 999999)
  c_FEATURES_MOST : Cst K mg "FEATURES_MOST" (.int 6)
  c_NEEDS_MOST : Cst K mg "NEEDS_MOST" (.int 8)
  c_BARS_MOST : Cst K mg "BARS_MOST" (.int 6)
  c_CHECK_MODULUS : Cst K mg "CHECK_MODULUS" (.int 99991)
section
variable [TC : TabCtx] [EC : ErrCtx] {P : Program} {w : World} {K : PySem.W.Frag} {mg : Str → Option Value} {base : Heap} {k : Nat}
theorem h_is_integer {dsp : DSp} (G : Glob K mg) (hd : Rd 1 dsp (RD.t_is_integer) N_is_integer) : Has P w K mg base (k + 1) "is_integer" 1 dsp :=
  has_mk G.d_is_integer sc_is_integer rfl fun f cdv A outer s0 H E hr => by
    have hu := hr.units
    have hu1 : _ + 1 < cLine := Nat.lt_of_le_of_lt (Nat.add_le_add_left (by decide : 1 ≤ 64) _) hu
    exact ⟨RD.t_is_integer, (dss_one (ds_ret (de_and (de_isi (by rfl) G.z_isinstance (dv 0) (pe_ty (by rfl) G.z_int PyProof.Rows.boot_int)) (de_one (de_not (de_isi (by rfl) G.z_isinstance (dv 0) (pe_ty (by rfl) G.z_bool PyProof.Rows.boot_bool))))))), hd⟩
theorem h_is_number {dsp : DSp} {s_is_integer : DSp} (G : Glob K mg) (H_is_integer : Has P w K mg base k "is_integer" 1 s_is_integer) (hd : Rd 1 dsp (RD.t_is_number s_is_integer) N_is_number) : Has P w K mg base (k + 1) "is_number" 1 dsp :=
  has_mk G.d_is_number sc_is_number rfl fun f cdv A outer s0 H E hr => by
    have hu := hr.units
    have hu1 : _ + 1 < cLine := Nat.lt_of_le_of_lt (Nat.add_le_add_left (by decide : 1 ≤ 64) _) hu
    exact ⟨RD.t_is_number s_is_integer, (dss_one (ds_ret (de_and (de_call H_is_integer hr (by rfl) (pasT (takes_of rfl rfl rfl rfl)) (da_cons (dv 0) da_nil)) (de_one (de_cm (cm_ge hu) (nomark _) (dv 0) de_int))))), hd⟩
theorem h_is_name {dsp : DSp} (G : Glob K mg) (hd : Rd 1 dsp (RD.t_is_name) N_is_name) : Has P w K mg base (k + 1) "is_name" 1 dsp :=
  has_mk G.d_is_name sc_is_name rfl fun f cdv A outer s0 H E hr => by
    have hu := hr.units
    have hu1 : _ + 1 < cLine := Nat.lt_of_le_of_lt (Nat.add_le_add_left (by decide : 1 ≤ 64) _) hu
    exact ⟨RD.t_is_name, (dss_cons (ds_if (dw_pt (dw_or (dt_not (dt_tru (de_isi (by rfl) G.z_isinstance (dv 0) (pe_ty (by rfl) G.z_str PyProof.Rows.boot_str)))) (dw_or1 (dt_cm (cm_gt hu) (nomark _) (de_len (by rfl) G.z_len (da_cons (dv 0) da_nil)) (de_cst (by rfl) G.c_NAME_MOST))))) (dss_one (ds_ret de_bl)) dss_nil)
      (dss_one (ds_ret (de_and (de_bm0 PySem.F.plainAttrs_str PySem.F.slot_str_isascii PySem.F.type_str_isascii mt_isascii str0_ok (dv 0)) (de_and (de_bm0 PySem.F.plainAttrs_str PySem.F.slot_str_isalpha PySem.F.type_str_isalpha mt_isalpha str0_ok (dv 0)) (de_one (de_bm0 PySem.F.plainAttrs_str PySem.F.slot_str_islower PySem.F.type_str_islower mt_islower str0_ok (dv 0)))))))), hd⟩
theorem h_is_names {dsp : DSp} {s_is_name : DSp} (G : Glob K mg) (H_is_name : Has P w K mg base k "is_name" 1 s_is_name) (hd : Rd 1 dsp (RD.t_is_names s_is_name) N_is_names) : Has P w K mg base (k + 1) "is_names" 1 dsp :=
  has_mk G.d_is_names sc_is_names rfl fun f cdv A outer s0 H E hr => by
    have hu := hr.units
    have hu1 : _ + 1 < cLine := Nat.lt_of_le_of_lt (Nat.add_le_add_left (by decide : 1 ≤ 64) _) hu
    exact ⟨RD.t_is_names s_is_name, (dss_cons (ds_if (dt_not (dt_tru (de_isi (by rfl) G.z_isinstance (dv 0) (pe_ty (by rfl) G.z_tuple PyProof.Rows.boot_tuple)))) (dss_one (ds_ret de_bl)) dss_nil)
      (dss_cons (ds_set (i := 1) sc_is_names.nd rfl (by first | exact .inl rfl | exact .inr rfl) de_str)
      (dss_cons (ds_for (passes_of rfl) rfl (di_seq (dv 0)) (dg_name (i := 2) sc_is_names.nd rfl (by first | exact .inl rfl | exact .inr rfl)) (dss_cons (ds_if (dw_pt (dw_or (dt_not (dt_tru (de_call H_is_name hr (by rfl) (pasT (takes_of rfl rfl rfl rfl)) (da_cons (dv 2) da_nil)))) (dw_or1 (dt_cm (cm_le hu) (nomark _) (dv 2) (dv 1))))) (dss_one (ds_ret de_bl)) dss_nil)
      (dss_one (ds_set (i := 1) sc_is_names.nd rfl (by first | exact .inl rfl | exact .inr rfl) (dv 2)))))
      (dss_one (ds_ret de_bl))))), hd⟩
theorem h_is_wanted {dsp : DSp} {s_is_names : DSp} (G : Glob K mg) (H_is_names : Has P w K mg base k "is_names" 1 s_is_names) (hd : Rd 1 dsp (RD.t_is_wanted s_is_names) N_is_wanted) : Has P w K mg base (k + 1) "is_wanted" 1 dsp :=
  has_mk G.d_is_wanted sc_is_wanted rfl fun f cdv A outer s0 H E hr => by
    have hu := hr.units
    have hu1 : _ + 1 < cLine := Nat.lt_of_le_of_lt (Nat.add_le_add_left (by decide : 1 ≤ 64) _) hu
    exact ⟨RD.t_is_wanted s_is_names, (dss_one (ds_ret (de_and (de_call H_is_names hr (by rfl) (pasT (takes_of rfl rfl rfl rfl)) (da_cons (dv 0) da_nil)) (de_one (de_cm (cm_le hu) (nomark _) (de_len (by rfl) G.z_len (da_cons (dv 0) da_nil)) (de_cst (by rfl) G.c_WANTED_MOST)))))), hd⟩
theorem h_is_tuple_of {dsp : DSp} (G : Glob K mg) (hd : Rd 2 dsp (RD.t_is_tuple_of) N_is_tuple_of) : Has P w K mg base (k + 1) "is_tuple_of" 2 dsp :=
  has_mk G.d_is_tuple_of sc_is_tuple_of rfl fun f cdv A outer s0 H E hr => by
    have hu := hr.units
    have hu1 : _ + 1 < cLine := Nat.lt_of_le_of_lt (Nat.add_le_add_left (by decide : 1 ≤ 64) _) hu
    exact ⟨RD.t_is_tuple_of, (dss_one (ds_ret (de_and (de_isi (by rfl) G.z_isinstance (dv 1) (pe_ty (by rfl) G.z_tuple PyProof.Rows.boot_tuple)) (de_one (de_cm (cm_eq hu) (nomark _) (de_len (by rfl) G.z_len (da_cons (dv 1) da_nil)) (dv 0)))))), hd⟩
theorem h_is_tuple_within {dsp : DSp} (G : Glob K mg) (hd : Rd 2 dsp (RD.t_is_tuple_within) N_is_tuple_within) : Has P w K mg base (k + 1) "is_tuple_within" 2 dsp :=
  has_mk G.d_is_tuple_within sc_is_tuple_within rfl fun f cdv A outer s0 H E hr => by
    have hu := hr.units
    have hu1 : _ + 1 < cLine := Nat.lt_of_le_of_lt (Nat.add_le_add_left (by decide : 1 ≤ 64) _) hu
    exact ⟨RD.t_is_tuple_within, (dss_one (ds_ret (de_and (de_isi (by rfl) G.z_isinstance (dv 1) (pe_ty (by rfl) G.z_tuple PyProof.Rows.boot_tuple)) (de_one (de_cm (cm_le hu) (nomark _) (de_len (by rfl) G.z_len (da_cons (dv 1) da_nil)) (dv 0)))))), hd⟩
theorem h_is_version {dsp : DSp} {s_is_number : DSp} {s_is_tuple_of : DSp} (G : Glob K mg) (H_is_number : Has P w K mg base k "is_number" 1 s_is_number) (H_is_tuple_of : Has P w K mg base k "is_tuple_of" 2 s_is_tuple_of) (hd : Rd 1 dsp (RD.t_is_version s_is_number s_is_tuple_of) N_is_version) : Has P w K mg base (k + 1) "is_version" 1 dsp :=
  has_mk G.d_is_version sc_is_version rfl fun f cdv A outer s0 H E hr => by
    have hu := hr.units
    have hu1 : _ + 1 < cLine := Nat.lt_of_le_of_lt (Nat.add_le_add_left (by decide : 1 ≤ 64) _) hu
    exact ⟨RD.t_is_version s_is_number s_is_tuple_of, (dss_cons (ds_if (dt_not (dt_tru (de_call H_is_tuple_of hr (by rfl) (pasT (takes_of rfl rfl rfl rfl)) (da_cons de_int (da_cons (dv 0) da_nil))))) (dss_one (ds_ret de_bl)) dss_nil)
      (dss_cons (ds_for (passes_of rfl) rfl (di_seq (dv 0)) (dg_name (i := 1) sc_is_version.nd rfl (by first | exact .inl rfl | exact .inr rfl)) (dss_one (ds_if (dw_pt (dw_or (dt_not (dt_tru (de_call H_is_number hr (by rfl) (pasT (takes_of rfl rfl rfl rfl)) (da_cons (dv 1) da_nil)))) (dw_or1 (dt_cm (cm_gt hu) (nomark _) (dv 1) (de_cst (by rfl) G.c_NUMBER_MOST))))) (dss_one (ds_ret de_bl)) dss_nil)))
      (dss_one (ds_ret de_bl)))), hd⟩
theorem h_is_stretch {dsp : DSp} {s_is_tuple_of : DSp} {s_is_version : DSp} (G : Glob K mg) (H_is_tuple_of : Has P w K mg base k "is_tuple_of" 2 s_is_tuple_of) (H_is_version : Has P w K mg base k "is_version" 1 s_is_version) (hd : Rd 1 dsp (RD.t_is_stretch s_is_tuple_of s_is_version) N_is_stretch) : Has P w K mg base (k + 1) "is_stretch" 1 dsp :=
  has_mk G.d_is_stretch sc_is_stretch rfl fun f cdv A outer s0 H E hr => by
    have hu := hr.units
    have hu1 : _ + 1 < cLine := Nat.lt_of_le_of_lt (Nat.add_le_add_left (by decide : 1 ≤ 64) _) hu
    exact ⟨RD.t_is_stretch s_is_tuple_of s_is_version, (dss_cons (ds_if (dt_not (dt_tru (de_call H_is_tuple_of hr (by rfl) (pasT (takes_of rfl rfl rfl rfl)) (da_cons de_int (da_cons (dv 0) da_nil))))) (dss_one (ds_ret de_bl)) dss_nil)
      (dss_cons (ds_asg (dv 0) (dg_tup (n := 2) rfl (dgs_cons (dg_name (i := 1) sc_is_stretch.nd rfl (by first | exact .inl rfl | exact .inr rfl)) (dgs_cons (dg_name (i := 2) sc_is_stretch.nd rfl (by first | exact .inl rfl | exact .inr rfl)) dgs_nil))))
      (dss_cons (ds_if (dt_not (dt_tru (de_call H_is_version hr (by rfl) (pasT (takes_of rfl rfl rfl rfl)) (da_cons (dv 1) da_nil)))) (dss_one (ds_ret de_bl)) dss_nil)
      (dss_one (ds_ret (de_or (de_cm cm_is (nomark _) (dv 2) de_non) (de_one (de_and (de_call H_is_version hr (by rfl) (pasT (takes_of rfl rfl rfl rfl)) (da_cons (dv 2) da_nil)) (de_one (de_cm (cm_lt hu) (nomark _) (dv 1) (dv 2))))))))))), hd⟩
theorem h_is_range {dsp : DSp} {s_is_stretch : DSp} {s_reaches : DSp} (G : Glob K mg) (H_is_stretch : Has P w K mg base k "is_stretch" 1 s_is_stretch) (H_reaches : Has P w K mg base k "reaches" 2 s_reaches) (hd : Rd 1 dsp (RD.t_is_range s_is_stretch s_reaches) N_is_range) : Has P w K mg base (k + 1) "is_range" 1 dsp :=
  has_mk G.d_is_range sc_is_range rfl fun f cdv A outer s0 H E hr => by
    have hu := hr.units
    have hu1 : _ + 1 < cLine := Nat.lt_of_le_of_lt (Nat.add_le_add_left (by decide : 1 ≤ 64) _) hu
    exact ⟨RD.t_is_range s_is_stretch s_reaches, (dss_cons (ds_if (dt_not (dt_tru (de_isi (by rfl) G.z_isinstance (dv 0) (pe_ty (by rfl) G.z_tuple PyProof.Rows.boot_tuple)))) (dss_one (ds_ret de_bl)) dss_nil)
      (dss_cons (ds_for (passes_of rfl) rfl (di_enum (by rfl) G.z_enumerate (da_cons (dv 0) da_nil)) (dg_tup (n := 2) rfl (dgs_cons (dg_name (i := 1) sc_is_range.nd rfl (by first | exact .inl rfl | exact .inr rfl)) (dgs_cons (dg_name (i := 2) sc_is_range.nd rfl (by first | exact .inl rfl | exact .inr rfl)) dgs_nil))) (dss_cons (ds_if (dt_not (dt_tru (de_call H_is_stretch hr (by rfl) (pasT (takes_of rfl rfl rfl rfl)) (da_cons (dv 2) da_nil)))) (dss_one (ds_ret de_bl)) dss_nil)
      (dss_one (ds_if (dw_pt (dw_and (dt_cm (cm_gt hu) (nomark _) (dv 1) de_int) (dw_and1 (dt_tru (de_call H_reaches hr (by rfl) (pasT (takes_of rfl rfl rfl rfl)) (da_cons (de_ix (de_ix (dv 0) (de_sub (dv 1) de_int)) de_int) (da_cons (de_ix (dv 2) de_int) da_nil))))))) (dss_one (ds_ret de_bl)) dss_nil))))
      (dss_one (ds_ret de_bl)))), hd⟩
theorem h_reaches {dsp : DSp} (G : Glob K mg) (hd : Rd 2 dsp (RD.t_reaches) N_reaches) : Has P w K mg base (k + 1) "reaches" 2 dsp :=
  has_mk G.d_reaches sc_reaches rfl fun f cdv A outer s0 H E hr => by
    have hu := hr.units
    have hu1 : _ + 1 < cLine := Nat.lt_of_le_of_lt (Nat.add_le_add_left (by decide : 1 ≤ 64) _) hu
    exact ⟨RD.t_reaches, (dss_one (ds_ret (de_or (de_cm cm_is (nomark _) (dv 0) de_non) (de_one (de_cm (cm_le hu) (nomark _) (dv 1) (dv 0)))))), hd⟩
theorem h_told_number {dsp : DSp} (G : Glob K mg) (hd : Rd 2 dsp (RD.t_told_number) N_told_number) : Has P w K mg base (k + 1) "told_number" 2 dsp :=
  has_mk G.d_told_number sc_told_number rfl fun f cdv A outer s0 H E hr => by
    have hu := hr.units
    have hu1 : _ + 1 < cLine := Nat.lt_of_le_of_lt (Nat.add_le_add_left (by decide : 1 ≤ 64) _) hu
    exact ⟨RD.t_told_number, (dss_cons (ds_if (dw_pt (dw_or (dt_cm (cm_gt hu) (nomark _) (de_len (by rfl) G.z_len (da_cons (dv 1) da_nil)) (dv 0)) (dw_or (dt_not (dt_tru (de_bm0 PySem.F.plainAttrs_str PySem.F.slot_str_isascii PySem.F.type_str_isascii mt_isascii str0_ok (dv 1)))) (dw_or1 (dt_not (dt_tru (de_bm0 PySem.F.plainAttrs_str PySem.F.slot_str_isdigit PySem.F.type_str_isdigit mt_isdigit str0_ok (dv 1)))))))) (dss_one (ds_ret de_non)) dss_nil)
      (dss_cons (ds_if (dw_pt (dw_and (dt_cm (cm_ne hu) (nomark _) (dv 1) de_str) (dw_and1 (dt_tru (de_bm PySem.F.plainAttrs_str PySem.F.slot_str_startswith PySem.F.type_str_startswith mt_startswith str1_ok (dv 1) (da_cons de_str da_nil)))))) (dss_one (ds_ret de_non)) dss_nil)
      (dss_one (ds_ret (de_intS (by rfl) G.z_int (da_cons (dv 1) da_nil)))))), hd⟩
theorem h_told_version {dsp : DSp} {s_is_version : DSp} {s_told_number : DSp} (G : Glob K mg) (H_is_version : Has P w K mg base k "is_version" 1 s_is_version) (H_told_number : Has P w K mg base k "told_number" 2 s_told_number) (hd : Rd 1 dsp (RD.t_told_version s_is_version s_told_number) N_told_version) : Has P w K mg base (k + 1) "told_version" 1 dsp :=
  has_mk G.d_told_version sc_told_version rfl fun f cdv A outer s0 H E hr => by
    have hu := hr.units
    have hu1 : _ + 1 < cLine := Nat.lt_of_le_of_lt (Nat.add_le_add_left (by decide : 1 ≤ 64) _) hu
    exact ⟨RD.t_told_version s_is_version s_told_number, (dss_cons (ds_set (i := 1) sc_told_version.nd rfl (by first | exact .inl rfl | exact .inr rfl) (de_tuple (by rfl) G.z_tuple (da_cons (de_lc (own := [("word", 2)]) rfl sc_told_version.nd (di_seq (de_bm PySem.F.plainAttrs_str PySem.F.slot_str_split PySem.F.type_str_split mt_split split_ok (dv 0) (da_cons de_str da_nil))) (blkOk_by (N := N_told_version) (sc := defScope S_told_version) (own := [("word", 2)]) (by decide +kernel)) (by decide) (fun _ _ _ _ _ => (dg_name (i := 2) sc_told_version.nd rfl (by first | exact .inl rfl | exact .inr rfl))) (fun _ _ _ _ _ => dts_nil) (fun _ _ _ _ _ => (de_call H_told_number hr (by rfl) pas0 (da_cons (de_cst (by rfl) G.c_NUMBER_DIGITS) (da_cons (dv 2) da_nil))))) da_nil)))
      (dss_cons (ds_if (dt_not (dt_tru (de_call H_is_version hr (by rfl) (pasT (takes_of rfl rfl rfl rfl)) (da_cons (dv 1) da_nil)))) (dss_one (ds_ret de_non)) dss_nil)
      (dss_one (ds_ret (dv 1))))), hd⟩
theorem h_is_release {dsp : DSp} {s_is_version : DSp} (G : Glob K mg) (H_is_version : Has P w K mg base k "is_version" 1 s_is_version) (hd : Rd 1 dsp (RD.t_is_release s_is_version) N_is_release) : Has P w K mg base (k + 1) "is_release" 1 dsp :=
  has_mk G.d_is_release sc_is_release rfl fun f cdv A outer s0 H E hr => by
    have hu := hr.units
    have hu1 : _ + 1 < cLine := Nat.lt_of_le_of_lt (Nat.add_le_add_left (by decide : 1 ≤ 64) _) hu
    exact ⟨RD.t_is_release s_is_version, (dss_one (ds_ret (de_and (de_call H_is_version hr (by rfl) (pasT (takes_of rfl rfl rfl rfl)) (da_cons (dv 0) da_nil)) (de_one (de_cm (cm_le hu) (nomark _) (de_maxT rfl hu (by rfl) G.z_max (da_cons (dv 0) da_nil)) (de_cst (by rfl) G.c_RELEASE_MOST)))))), hd⟩
theorem h_is_other {dsp : DSp} {s_is_name : DSp} (G : Glob K mg) (H_is_name : Has P w K mg base k "is_name" 1 s_is_name) (hd : Rd 2 dsp (RD.t_is_other s_is_name) N_is_other) : Has P w K mg base (k + 1) "is_other" 2 dsp :=
  has_mk G.d_is_other sc_is_other rfl fun f cdv A outer s0 H E hr => by
    have hu := hr.units
    have hu1 : _ + 1 < cLine := Nat.lt_of_le_of_lt (Nat.add_le_add_left (by decide : 1 ≤ 64) _) hu
    exact ⟨RD.t_is_other s_is_name, (dss_one (ds_ret (de_and (de_call H_is_name hr (by rfl) (pasT (takes_of rfl rfl rfl rfl)) (da_cons (dv 1) da_nil)) (de_one (de_cm (cm_ne hu) (nomark _) (dv 1) (dv 0)))))), hd⟩
theorem h_is_feature {dsp : DSp} {s_is_name : DSp} {s_is_names : DSp} {s_is_tuple_of : DSp} (G : Glob K mg) (H_is_name : Has P w K mg base k "is_name" 1 s_is_name) (H_is_names : Has P w K mg base k "is_names" 1 s_is_names) (H_is_tuple_of : Has P w K mg base k "is_tuple_of" 2 s_is_tuple_of) (hd : Rd 1 dsp (RD.t_is_feature s_is_name s_is_names s_is_tuple_of) N_is_feature) : Has P w K mg base (k + 1) "is_feature" 1 dsp :=
  has_mk G.d_is_feature sc_is_feature rfl fun f cdv A outer s0 H E hr => by
    have hu := hr.units
    have hu1 : _ + 1 < cLine := Nat.lt_of_le_of_lt (Nat.add_le_add_left (by decide : 1 ≤ 64) _) hu
    exact ⟨RD.t_is_feature s_is_name s_is_names s_is_tuple_of, (dss_one (ds_ret (de_and (de_call H_is_tuple_of hr (by rfl) (pasT (takes_of rfl rfl rfl rfl)) (da_cons de_int (da_cons (dv 0) da_nil))) (de_and (de_call H_is_name hr (by rfl) (pasT (takes_of rfl rfl rfl rfl)) (da_cons (de_ix (dv 0) de_int) da_nil)) (de_and (de_call H_is_names hr (by rfl) (pasT (takes_of rfl rfl rfl rfl)) (da_cons (de_ix (dv 0) de_int) da_nil)) (de_one (de_cm cm_notin (by rfl) (de_ix (dv 0) de_int) (de_ix (dv 0) de_int)))))))), hd⟩
theorem h_lacking {dsp : DSp} (G : Glob K mg) (hd : Rd 1 dsp (RD.t_lacking) N_lacking) : Has P w K mg base (k + 1) "lacking" 1 dsp :=
  has_mk G.d_lacking sc_lacking rfl fun f cdv A outer s0 H E hr => by
    have hu := hr.units
    have hu1 : _ + 1 < cLine := Nat.lt_of_le_of_lt (Nat.add_le_add_left (by decide : 1 ≤ 64) _) hu
    exact ⟨RD.t_lacking, (dss_cons (ds_setLc (i := 1) (own := [("pair", 2)]) rfl sc_lacking.nd rfl rfl (sw_true rfl rfl rfl (by decide +kernel)) (di_seq (dv 0)) (blkOk_by (N := N_lacking) (sc := defScope S_lacking) (own := [("pair", 2)]) (by decide +kernel)) (by decide) (fun _ _ _ _ _ => (dg_name (i := 2) sc_lacking.nd rfl (by first | exact .inl rfl | exact .inr rfl))) (fun _ _ _ _ _ => dts_nil) (fun _ _ _ _ _ => (de_ix (dv 2) de_int)))
      (dss_cons (ds_for (passes_of rfl) rfl (di_seq (dv 0)) (dg_name (i := 2) sc_lacking.nd rfl (by first | exact .inl rfl | exact .inr rfl)) (dss_one (ds_for (passes_of rfl) rfl (di_seq (de_ix (dv 2) de_int)) (dg_name (i := 3) sc_lacking.nd rfl (by first | exact .inl rfl | exact .inr rfl)) (dss_one (ds_if (dt_cm cm_notin (by rfl) (dv 3) (dv 1)) (dss_one (ds_ret de_bl)) dss_nil)))))
      (dss_one (ds_ret de_bl)))), hd⟩
theorem h_is_features {dsp : DSp} {s_is_names : DSp} {s_is_tuple_within : DSp} {s_is_feature : DSp} {s_lacking : DSp} (G : Glob K mg) (H_is_names : Has P w K mg base k "is_names" 1 s_is_names) (H_is_tuple_within : Has P w K mg base k "is_tuple_within" 2 s_is_tuple_within) (H_is_feature : Has P w K mg base k "is_feature" 1 s_is_feature) (H_lacking : Has P w K mg base k "lacking" 1 s_lacking) (hd : Rd 1 dsp (RD.t_is_features s_is_names s_is_tuple_within s_is_feature s_lacking) N_is_features) : Has P w K mg base (k + 1) "is_features" 1 dsp :=
  has_mk G.d_is_features sc_is_features rfl fun f cdv A outer s0 H E hr => by
    have hu := hr.units
    have hu1 : _ + 1 < cLine := Nat.lt_of_le_of_lt (Nat.add_le_add_left (by decide : 1 ≤ 64) _) hu
    exact ⟨RD.t_is_features s_is_names s_is_tuple_within s_is_feature s_lacking, (dss_cons (ds_if (dt_not (dt_tru (de_call H_is_tuple_within hr (by rfl) (pasT (takes_of rfl rfl rfl rfl)) (da_cons (de_cst (by rfl) G.c_FEATURES_MOST) (da_cons (dv 0) da_nil))))) (dss_one (ds_ret de_bl)) dss_nil)
      (dss_cons (ds_for (passes_of rfl) rfl (di_seq (dv 0)) (dg_name (i := 1) sc_is_features.nd rfl (by first | exact .inl rfl | exact .inr rfl)) (dss_one (ds_if (dt_not (dt_tru (de_call H_is_feature hr (by rfl) (pasT (takes_of rfl rfl rfl rfl)) (da_cons (dv 1) da_nil)))) (dss_one (ds_ret de_bl)) dss_nil)))
      (dss_one (ds_ret (de_and (de_call H_is_names hr (by rfl) (pasT (takes_of rfl rfl rfl rfl)) (da_cons (de_tuple (by rfl) G.z_tuple (da_cons (de_lc (own := [("pair", 1)]) rfl sc_is_features.nd (di_seq (dv 0)) (blkOk_by (N := N_is_features) (sc := defScope S_is_features) (own := [("pair", 1)]) (by decide +kernel)) (by decide) (fun _ _ _ _ _ => (dg_name (i := 1) sc_is_features.nd rfl (by first | exact .inl rfl | exact .inr rfl))) (fun _ _ _ _ _ => dts_nil) (fun _ _ _ _ _ => (de_ix (dv 1) de_int))) da_nil)) da_nil)) (de_one (de_not (de_call H_lacking hr (by rfl) (pasT (takes_of rfl rfl rfl rfl)) (da_cons (dv 0) da_nil))))))))), hd⟩
theorem h_is_need {dsp : DSp} {s_is_wanted : DSp} {s_is_tuple_of : DSp} {s_is_range : DSp} {s_is_other : DSp} (G : Glob K mg) (H_is_wanted : Has P w K mg base k "is_wanted" 1 s_is_wanted) (H_is_tuple_of : Has P w K mg base k "is_tuple_of" 2 s_is_tuple_of) (H_is_range : Has P w K mg base k "is_range" 1 s_is_range) (H_is_other : Has P w K mg base k "is_other" 2 s_is_other) (hd : Rd 3 dsp (RD.t_is_need s_is_wanted s_is_tuple_of s_is_range s_is_other) N_is_need) : Has P w K mg base (k + 1) "is_need" 3 dsp :=
  has_mk G.d_is_need sc_is_need rfl fun f cdv A outer s0 H E hr => by
    have hu := hr.units
    have hu1 : _ + 1 < cLine := Nat.lt_of_le_of_lt (Nat.add_le_add_left (by decide : 1 ≤ 64) _) hu
    exact ⟨RD.t_is_need s_is_wanted s_is_tuple_of s_is_range s_is_other, (dss_cons (ds_if (dt_not (dt_tru (de_call H_is_tuple_of hr (by rfl) (pasT (takes_of rfl rfl rfl rfl)) (da_cons de_int (da_cons (dv 2) da_nil))))) (dss_one (ds_ret de_bl)) dss_nil)
      (dss_cons (ds_asg (dv 2) (dg_tup (n := 4) rfl (dgs_cons (dg_name (i := 3) sc_is_need.nd rfl (by first | exact .inl rfl | exact .inr rfl)) (dgs_cons (dg_name (i := 4) sc_is_need.nd rfl (by first | exact .inl rfl | exact .inr rfl)) (dgs_cons (dg_name (i := 5) sc_is_need.nd rfl (by first | exact .inl rfl | exact .inr rfl)) (dgs_cons (dg_name (i := 6) sc_is_need.nd rfl (by first | exact .inl rfl | exact .inr rfl)) dgs_nil))))))
      (dss_cons (ds_if (dw_pt (dw_and (dt_cm (cm_ne hu) (nomark _) (dv 3) de_str) (dw_and1 (dt_cm cm_notin (by rfl) (dv 3) (de_lc (own := [("pair", 7)]) rfl sc_is_need.nd (di_seq (dv 1)) (blkOk_by (N := N_is_need) (sc := defScope S_is_need) (own := [("pair", 7)]) (by decide +kernel)) (by decide) (fun _ _ _ _ _ => (dg_name (i := 7) sc_is_need.nd rfl (by first | exact .inl rfl | exact .inr rfl))) (fun _ _ _ _ _ => dts_nil) (fun _ _ _ _ _ => (de_ix (dv 7) de_int))))))) (dss_one (ds_ret de_bl)) dss_nil)
      (dss_one (ds_ret (de_and (de_call H_is_other hr (by rfl) (pasT (takes_of rfl rfl rfl rfl)) (da_cons (dv 0) (da_cons (dv 4) da_nil))) (de_and (de_call H_is_range hr (by rfl) (pasT (takes_of rfl rfl rfl rfl)) (da_cons (dv 5) da_nil)) (de_one (de_call H_is_wanted hr (by rfl) (pasT (takes_of rfl rfl rfl rfl)) (da_cons (dv 6) da_nil)))))))))), hd⟩
theorem h_is_bar {dsp : DSp} {s_is_tuple_of : DSp} {s_is_range : DSp} {s_is_other : DSp} (G : Glob K mg) (H_is_tuple_of : Has P w K mg base k "is_tuple_of" 2 s_is_tuple_of) (H_is_range : Has P w K mg base k "is_range" 1 s_is_range) (H_is_other : Has P w K mg base k "is_other" 2 s_is_other) (hd : Rd 2 dsp (RD.t_is_bar s_is_tuple_of s_is_range s_is_other) N_is_bar) : Has P w K mg base (k + 1) "is_bar" 2 dsp :=
  has_mk G.d_is_bar sc_is_bar rfl fun f cdv A outer s0 H E hr => by
    have hu := hr.units
    have hu1 : _ + 1 < cLine := Nat.lt_of_le_of_lt (Nat.add_le_add_left (by decide : 1 ≤ 64) _) hu
    exact ⟨RD.t_is_bar s_is_tuple_of s_is_range s_is_other, (dss_one (ds_ret (de_and (de_call H_is_tuple_of hr (by rfl) (pasT (takes_of rfl rfl rfl rfl)) (da_cons de_int (da_cons (dv 1) da_nil))) (de_and (de_call H_is_other hr (by rfl) (pasT (takes_of rfl rfl rfl rfl)) (da_cons (dv 0) (da_cons (de_ix (dv 1) de_int) da_nil))) (de_one (de_call H_is_range hr (by rfl) (pasT (takes_of rfl rfl rfl rfl)) (da_cons (de_ix (dv 1) de_int) da_nil))))))), hd⟩
theorem h_wrong_need {dsp : DSp} {s_is_tuple_within : DSp} {s_is_need : DSp} (G : Glob K mg) (H_is_tuple_within : Has P w K mg base k "is_tuple_within" 2 s_is_tuple_within) (H_is_need : Has P w K mg base k "is_need" 3 s_is_need) (hd : Rd 3 dsp (RD.t_wrong_need s_is_tuple_within s_is_need) N_wrong_need) : Has P w K mg base (k + 1) "wrong_need" 3 dsp :=
  has_mk G.d_wrong_need sc_wrong_need rfl fun f cdv A outer s0 H E hr => by
    have hu := hr.units
    have hu1 : _ + 1 < cLine := Nat.lt_of_le_of_lt (Nat.add_le_add_left (by decide : 1 ≤ 64) _) hu
    exact ⟨RD.t_wrong_need s_is_tuple_within s_is_need, (dss_cons (ds_if (dt_not (dt_tru (de_call H_is_tuple_within hr (by rfl) (pasT (takes_of rfl rfl rfl rfl)) (da_cons (de_cst (by rfl) G.c_NEEDS_MOST) (da_cons (dv 2) da_nil))))) (dss_one (ds_ret de_str)) dss_nil)
      (dss_cons (ds_for (passes_of rfl) rfl (di_enum (by rfl) G.z_enumerate (da_cons (dv 2) da_nil)) (dg_tup (n := 2) rfl (dgs_cons (dg_name (i := 3) sc_wrong_need.nd rfl (by first | exact .inl rfl | exact .inr rfl)) (dgs_cons (dg_name (i := 4) sc_wrong_need.nd rfl (by first | exact .inl rfl | exact .inr rfl)) dgs_nil))) (dss_one (ds_if (dt_not (dt_tru (de_call H_is_need hr (by rfl) (pasT (takes_of rfl rfl rfl rfl)) (da_cons (dv 0) (da_cons (dv 1) (da_cons (dv 4) da_nil)))))) (dss_one (ds_ret (de_tup (da_cons de_str (da_cons (dv 3) da_nil))))) dss_nil)))
      (dss_one (ds_ret de_non)))), hd⟩
theorem h_wrong_bar {dsp : DSp} {s_is_tuple_within : DSp} {s_is_bar : DSp} (G : Glob K mg) (H_is_tuple_within : Has P w K mg base k "is_tuple_within" 2 s_is_tuple_within) (H_is_bar : Has P w K mg base k "is_bar" 2 s_is_bar) (hd : Rd 2 dsp (RD.t_wrong_bar s_is_tuple_within s_is_bar) N_wrong_bar) : Has P w K mg base (k + 1) "wrong_bar" 2 dsp :=
  has_mk G.d_wrong_bar sc_wrong_bar rfl fun f cdv A outer s0 H E hr => by
    have hu := hr.units
    have hu1 : _ + 1 < cLine := Nat.lt_of_le_of_lt (Nat.add_le_add_left (by decide : 1 ≤ 64) _) hu
    exact ⟨RD.t_wrong_bar s_is_tuple_within s_is_bar, (dss_cons (ds_if (dt_not (dt_tru (de_call H_is_tuple_within hr (by rfl) (pasT (takes_of rfl rfl rfl rfl)) (da_cons (de_cst (by rfl) G.c_BARS_MOST) (da_cons (dv 1) da_nil))))) (dss_one (ds_ret de_str)) dss_nil)
      (dss_cons (ds_for (passes_of rfl) rfl (di_enum (by rfl) G.z_enumerate (da_cons (dv 1) da_nil)) (dg_tup (n := 2) rfl (dgs_cons (dg_name (i := 2) sc_wrong_bar.nd rfl (by first | exact .inl rfl | exact .inr rfl)) (dgs_cons (dg_name (i := 3) sc_wrong_bar.nd rfl (by first | exact .inl rfl | exact .inr rfl)) dgs_nil))) (dss_one (ds_if (dt_not (dt_tru (de_call H_is_bar hr (by rfl) (pasT (takes_of rfl rfl rfl rfl)) (da_cons (dv 0) (da_cons (dv 3) da_nil))))) (dss_one (ds_ret (de_tup (da_cons de_str (da_cons (dv 2) da_nil))))) dss_nil)))
      (dss_one (ds_ret de_non)))), hd⟩
theorem h_wrong_part {dsp : DSp} {s_is_name : DSp} {s_is_release : DSp} {s_is_features : DSp} {s_wrong_need : DSp} {s_wrong_bar : DSp} (G : Glob K mg) (H_is_name : Has P w K mg base k "is_name" 1 s_is_name) (H_is_release : Has P w K mg base k "is_release" 1 s_is_release) (H_is_features : Has P w K mg base k "is_features" 1 s_is_features) (H_wrong_need : Has P w K mg base k "wrong_need" 3 s_wrong_need) (H_wrong_bar : Has P w K mg base k "wrong_bar" 2 s_wrong_bar) (hd : Rd 5 dsp (RD.t_wrong_part s_is_name s_is_release s_is_features s_wrong_need s_wrong_bar) N_wrong_part) : Has P w K mg base (k + 1) "wrong_part" 5 dsp :=
  has_mk G.d_wrong_part sc_wrong_part rfl fun f cdv A outer s0 H E hr => by
    have hu := hr.units
    have hu1 : _ + 1 < cLine := Nat.lt_of_le_of_lt (Nat.add_le_add_left (by decide : 1 ≤ 64) _) hu
    exact ⟨RD.t_wrong_part s_is_name s_is_release s_is_features s_wrong_need s_wrong_bar, (dss_cons (ds_if (dt_not (dt_tru (de_call H_is_name hr (by rfl) (pasT (takes_of rfl rfl rfl rfl)) (da_cons (dv 0) da_nil)))) (dss_one (ds_ret de_str)) dss_nil)
      (dss_cons (ds_if (dt_not (dt_tru (de_call H_is_release hr (by rfl) (pasT (takes_of rfl rfl rfl rfl)) (da_cons (dv 1) da_nil)))) (dss_one (ds_ret de_str)) dss_nil)
      (dss_cons (ds_if (dt_not (dt_tru (de_call H_is_features hr (by rfl) (pasT (takes_of rfl rfl rfl rfl)) (da_cons (dv 2) da_nil)))) (dss_one (ds_ret de_str)) dss_nil)
      (dss_cons (ds_set (i := 5) sc_wrong_part.nd rfl (by first | exact .inl rfl | exact .inr rfl) (de_call H_wrong_need hr (by rfl) (pasT (takes_of rfl rfl rfl rfl)) (da_cons (dv 0) (da_cons (dv 2) (da_cons (dv 3) da_nil)))))
      (dss_cons (ds_if (dt_cm cm_is (nomark _) (dv 5) de_non) (dss_one (ds_set (i := 5) sc_wrong_part.nd rfl (by first | exact .inl rfl | exact .inr rfl) (de_call H_wrong_bar hr (by rfl) (pasT (takes_of rfl rfl rfl rfl)) (da_cons (dv 0) (da_cons (dv 4) da_nil))))) dss_nil)
      (dss_one (ds_ret (dv 5)))))))), hd⟩
theorem h_is_triple {dsp : DSp} {s_is_name : DSp} {s_is_names : DSp} {s_is_tuple_of : DSp} {s_is_version : DSp} (G : Glob K mg) (H_is_name : Has P w K mg base k "is_name" 1 s_is_name) (H_is_names : Has P w K mg base k "is_names" 1 s_is_names) (H_is_tuple_of : Has P w K mg base k "is_tuple_of" 2 s_is_tuple_of) (H_is_version : Has P w K mg base k "is_version" 1 s_is_version) (hd : Rd 1 dsp (RD.t_is_triple s_is_name s_is_names s_is_tuple_of s_is_version) N_is_triple) : Has P w K mg base (k + 1) "is_triple" 1 dsp :=
  has_mk G.d_is_triple sc_is_triple rfl fun f cdv A outer s0 H E hr => by
    have hu := hr.units
    have hu1 : _ + 1 < cLine := Nat.lt_of_le_of_lt (Nat.add_le_add_left (by decide : 1 ≤ 64) _) hu
    exact ⟨RD.t_is_triple s_is_name s_is_names s_is_tuple_of s_is_version, (dss_one (ds_ret (de_and (de_call H_is_tuple_of hr (by rfl) (pasT (takes_of rfl rfl rfl rfl)) (da_cons de_int (da_cons (dv 0) da_nil))) (de_and (de_call H_is_name hr (by rfl) (pasT (takes_of rfl rfl rfl rfl)) (da_cons (de_ix (dv 0) de_int) da_nil)) (de_and (de_call H_is_version hr (by rfl) (pasT (takes_of rfl rfl rfl rfl)) (da_cons (de_ix (dv 0) de_int) da_nil)) (de_one (de_call H_is_names hr (by rfl) (pasT (takes_of rfl rfl rfl rfl)) (da_cons (de_ix (dv 0) de_int) da_nil)))))))), hd⟩
theorem h_lines_of {dsp : DSp} (G : Glob K mg) (E_BadLine : Er1 P w K mg base 4 "BadLine" "number") (hk : 2 ≤ k) (hd : Rd 1 dsp (RD.t_lines_of_k42) N_lines_of) : Has P w K mg base (k + 1) "lines_of" 1 dsp :=
  has_mk G.d_lines_of sc_lines_of rfl fun f cdv A outer s0 H E hr => by
    have hu := hr.units
    have hu1 : _ + 1 < cLine := Nat.lt_of_le_of_lt (Nat.add_le_add_left (by decide : 1 ≤ 64) _) hu
    exact ⟨RD.t_lines_of_k42, (dss_cons (ds_if (dt_not (dt_tru (de_isiI (ms := [100]) (all_cons ⟨G.cl_Entry, G.ks_Entry⟩ (fun _ h => nomatch h)) (by rfl) G.z_isinstance (dv 0) (pe_ty (by rfl) G.z_str PyProof.Rows.boot_str)))) (dss_one (ds_raise1 rfl (takes_of rfl rfl rfl rfl) E_BadLine hr hk (by rfl) de_int)) dss_nil)
      (dss_cons (ds_set (i := 1) sc_lines_of.nd rfl (by first | exact .inl rfl | exact .inr rfl) (de_bm PySem.F.plainAttrs_str PySem.F.slot_str_split PySem.F.type_str_split mt_split split_ok (dv 0) (da_cons de_str da_nil)))
      (dss_cons (ds_set (i := 2) sc_lines_of.nd rfl (by first | exact .inl rfl | exact .inr rfl) (de_bm0 PySem.F.plainAttrs_list PySem.F.slot_list_pop PySem.F.type_list_pop mt_pop pop_ok (dv 1)))
      (dss_one (ds_ret (de_tup (da_cons (dv 1) (da_cons (dv 2) da_nil)))))))), hd⟩
theorem h_text_of {dsp : DSp} (G : Glob K mg) (hd : Rd 1 dsp (RD.t_text_of) N_text_of) : Has P w K mg base (k + 1) "text_of" 1 dsp :=
  has_mk G.d_text_of sc_text_of rfl fun f cdv A outer s0 H E hr => by
    have hu := hr.units
    have hu1 : _ + 1 < cLine := Nat.lt_of_le_of_lt (Nat.add_le_add_left (by decide : 1 ≤ 64) _) hu
    exact ⟨RD.t_text_of, (dss_one (ds_ret (de_bm PySem.F.plainAttrs_str PySem.F.slot_str_join PySem.F.type_str_join mt_join join_ok de_str (da_cons (de_lc (own := [("line", 1)]) rfl sc_text_of.nd (di_seq (dv 0)) (blkOk_by (N := N_text_of) (sc := defScope S_text_of) (own := [("line", 1)]) (by decide +kernel)) (by decide) (fun _ _ _ _ _ => (dg_name (i := 1) sc_text_of.nd rfl (by first | exact .inl rfl | exact .inr rfl))) (fun _ _ _ _ _ => dts_nil) (fun _ _ _ _ _ => (de_joined (DJ.cons (de_fmt (dv 1)) (DJ.cons de_str DJ.nil))))) da_nil)))), hd⟩
theorem h_check_line {dsp : DSp} (G : Glob K mg) (hd : Rd 1 dsp (RD.t_check_line) N_check_line) : Has P w K mg base (k + 1) "check_line" 1 dsp :=
  has_mk G.d_check_line sc_check_line rfl fun f cdv A outer s0 H E hr => by
    have hu := hr.units
    have hu1 : _ + 1 < cLine := Nat.lt_of_le_of_lt (Nat.add_le_add_left (by decide : 1 ≤ 64) _) hu
    exact ⟨RD.t_check_line, (dss_cons (ds_set (i := 1) sc_check_line.nd rfl (by first | exact .inl rfl | exact .inr rfl) (de_sum rfl (by rfl) G.z_sum (da_cons (de_lc (own := [("at", 2), ("sign", 3)]) rfl sc_check_line.nd (di_enumS (by rfl) G.z_enumerate (dv 0)) (blkOk_by (N := N_check_line) (sc := defScope S_check_line) (own := [("at", 2), ("sign", 3)]) (by decide +kernel)) (by decide) (fun _ _ _ _ _ => (dg_tup (n := 2) rfl (dgs_cons (dg_name (i := 2) sc_check_line.nd rfl (by first | exact .inl rfl | exact .inr rfl)) (dgs_cons (dg_name (i := 3) sc_check_line.nd rfl (by first | exact .inl rfl | exact .inr rfl)) dgs_nil)))) (fun _ _ _ _ _ => dts_nil) (fun _ _ _ _ _ => (de_mul (de_ordS (by rfl) G.z_ord (da_cons (dv 3) da_nil)) (de_add (dv 2) de_int)))) da_nil)))
      (dss_one (ds_ret (de_joined (DJ.cons de_str (DJ.cons (de_fmt (de_mod (dv 1) (de_cst (by rfl) G.c_CHECK_MODULUS))) DJ.nil)))))), hd⟩
theorem h_told_triple {dsp : DSp} {s_told_version : DSp} {s_is_triple : DSp} (G : Glob K mg) (H_told_version : Has P w K mg base k "told_version" 1 s_told_version) (H_is_triple : Has P w K mg base k "is_triple" 1 s_is_triple) (hd : Rd 1 dsp (RD.t_told_triple s_told_version s_is_triple) N_told_triple) : Has P w K mg base (k + 1) "told_triple" 1 dsp :=
  has_mk G.d_told_triple sc_told_triple rfl fun f cdv A outer s0 H E hr => by
    have hu := hr.units
    have hu1 : _ + 1 < cLine := Nat.lt_of_le_of_lt (Nat.add_le_add_left (by decide : 1 ≤ 64) _) hu
    exact ⟨RD.t_told_triple s_told_version s_is_triple, (dss_cons (ds_asg (de_bm PySem.F.plainAttrs_str PySem.F.slot_str_partition PySem.F.type_str_partition mt_partition partition_ok (dv 0) (da_cons de_str da_nil)) (dg_tup (n := 3) rfl (dgs_cons (dg_name (i := 1) sc_told_triple.nd rfl (by first | exact .inl rfl | exact .inr rfl)) (dgs_cons (dg_name (i := 2) sc_told_triple.nd rfl (by first | exact .inl rfl | exact .inr rfl)) (dgs_cons (dg_name (i := 3) sc_told_triple.nd rfl (by first | exact .inl rfl | exact .inr rfl)) dgs_nil)))))
      (dss_cons (ds_set (i := 4) sc_told_triple.nd rfl (by first | exact .inl rfl | exact .inr rfl) (de_bm PySem.F.plainAttrs_str PySem.F.slot_str_split PySem.F.type_str_split mt_split split_ok (dv 3) (da_cons de_str da_nil)))
      (dss_cons (ds_set (i := 5) sc_told_triple.nd rfl (by first | exact .inl rfl | exact .inr rfl) (de_tup (da_cons (dv 1) (da_cons (de_call H_told_version hr (by rfl) (pasT (takes_of rfl rfl rfl rfl)) (da_cons (de_ix (dv 4) de_int) da_nil)) (da_cons (de_tuple (by rfl) G.z_tuple (da_cons (de_slice (dv 4) (do_some de_int) do_none) da_nil)) da_nil)))))
      (dss_cons (ds_if (dt_not (dt_tru (de_call H_is_triple hr (by rfl) (pasT (takes_of rfl rfl rfl rfl)) (da_cons (dv 5) da_nil)))) (dss_one (ds_ret de_non)) dss_nil)
      (dss_one (ds_ret (dv 5))))))), hd⟩
theorem h_read_lock {dsp : DSp} {s_lines_of : DSp} {s_text_of : DSp} {s_check_line : DSp} {s_told_triple : DSp} (G : Glob K mg) (H_lines_of : Has P w K mg base k "lines_of" 1 s_lines_of) (H_text_of : Has P w K mg base k "text_of" 1 s_text_of) (H_check_line : Has P w K mg base k "check_line" 1 s_check_line) (H_told_triple : Has P w K mg base k "told_triple" 1 s_told_triple) (E_BadLine : Er1 P w K mg base 4 "BadLine" "number") (hk : 2 ≤ k) (hd : Rd 1 dsp (RD.t_read_lock s_lines_of s_text_of s_check_line s_told_triple) N_read_lock) : Has P w K mg base (k + 1) "read_lock" 1 dsp :=
  has_mk G.d_read_lock sc_read_lock rfl fun f cdv A outer s0 H E hr => by
    have hu := hr.units
    have hu1 : _ + 1 < cLine := Nat.lt_of_le_of_lt (Nat.add_le_add_left (by decide : 1 ≤ 64) _) hu
    exact ⟨RD.t_read_lock s_lines_of s_text_of s_check_line s_told_triple, (dss_cons (ds_asg (de_call H_lines_of hr (by rfl) (pasT (takes_of rfl rfl rfl rfl)) (da_cons (dv 0) da_nil)) (dg_tup (n := 2) rfl (dgs_cons (dg_name (i := 1) sc_read_lock.nd rfl (by first | exact .inl rfl | exact .inr rfl)) (dgs_cons (dg_name (i := 2) sc_read_lock.nd rfl (by first | exact .inl rfl | exact .inr rfl)) dgs_nil))))
      (dss_cons (ds_set (i := 3) sc_read_lock.nd rfl (by first | exact .inl rfl | exact .inr rfl) (de_lst da_nil))
      (dss_cons (ds_for (passes_of rfl) rfl (di_seq (dv 1)) (dg_name (i := 4) sc_read_lock.nd rfl (by first | exact .inl rfl | exact .inr rfl)) (dss_cons (ds_set (i := 5) sc_read_lock.nd rfl (by first | exact .inl rfl | exact .inr rfl) (de_call H_told_triple hr (by rfl) (pasT (takes_of rfl rfl rfl rfl)) (da_cons (dv 4) da_nil)))
      (dss_cons (ds_if (dw_pt (dw_or (dt_cm cm_is (nomark _) (dv 5) de_non) (dw_or1 (dw_pt (dw_and (dt_tru (dv 3)) (dw_and1 (dt_cm (cm_le hu) (nomark _) (de_ix (dv 5) de_int) (de_ix (de_ix (dv 3) (de_neg de_int)) de_int)))))))) (dss_one ds_break) dss_nil)
      (dss_one (ds_expr (de_append (dv 3) (da_cons (dv 5) da_nil)))))))
      (dss_cons (ds_set (i := 6) sc_read_lock.nd rfl (by first | exact .inl rfl | exact .inr rfl) (de_len (by rfl) G.z_len (da_cons (dv 3) da_nil)))
      (dss_cons (ds_if (dw_pt (dw_or (dt_cm (cm_eq hu) (nomark _) (dv 6) (de_len (by rfl) G.z_len (da_cons (dv 1) da_nil))) (dw_or1 (dt_cm (cm_ne hu) (nomark _) (de_ix (dv 1) (dv 6)) (de_call H_check_line hr (by rfl) (pasT (takes_of rfl rfl rfl rfl)) (da_cons (de_call H_text_of hr (by rfl) (pasT (takes_of rfl rfl rfl rfl)) (da_cons (de_slice (dv 1) do_none (do_some (dv 6))) da_nil)) da_nil)))))) (dss_one (ds_raise1 rfl (takes_of rfl rfl rfl rfl) E_BadLine hr hk (by rfl) (de_add (dv 6) de_int))) dss_nil)
      (dss_cons (ds_if (dw_pt (dw_or (dt_cm (cm_lt hu) (nomark _) (de_add (dv 6) de_int) (de_len (by rfl) G.z_len (da_cons (dv 1) da_nil))) (dw_or1 (dt_cm (cm_ne hu) (nomark _) (dv 2) de_str)))) (dss_one (ds_raise1 rfl (takes_of rfl rfl rfl rfl) E_BadLine hr hk (by rfl) (de_add (dv 6) de_int))) dss_nil)
      (dss_one (ds_ret (de_tuple (by rfl) G.z_tuple (da_cons (dv 3) da_nil)))))))))), hd⟩
theorem h__law_hand {dsp : DSp} (G : Glob K mg) (hd : Rd 1 dsp (RD.t__law_hand_k41) N__law_hand) : Has P w K mg base (k + 1) "_law_hand" 1 dsp :=
  has_mk G.d__law_hand sc__law_hand rfl fun f cdv A outer s0 H E hr => by
    have hu := hr.units
    have hu1 : _ + 1 < cLine := Nat.lt_of_le_of_lt (Nat.add_le_add_left (by decide : 1 ≤ 64) _) hu
    exact ⟨RD.t__law_hand_k41, (dss_cons (ds_setLc (i := 1) (own := [("cell", 2)]) rfl sc__law_hand.nd rfl rfl (sw_true rfl rfl rfl (by decide +kernel)) (di_seq (de_slice (dv 0) do_none (do_some de_int))) (blkOk_by (N := N__law_hand) (sc := defScope S__law_hand) (own := [("cell", 2)]) (by decide +kernel)) (by decide) (fun _ _ _ _ _ => (dg_name (i := 2) sc__law_hand.nd rfl (by first | exact .inl rfl | exact .inr rfl))) (fun _ _ _ _ _ => dts_nil) (fun _ _ _ _ _ => (de_abs (by rfl) G.z_abs (da_cons (de_int' (by rfl) G.z_int (da_cons (dv 2) da_nil)) da_nil))))
      (dss_one (ds_ret (de_disp (DPs.cons de_str (dv 1) (DPs.cons de_str de_int (DPs.cons de_str de_int (DPs.cons de_str (de_add de_int (de_len (by rfl) G.z_len (da_cons (dv 1) da_nil))) (DPs.cons de_str de_int DPs.nil))))))))), hd⟩
theorem h__law_draw {dsp : DSp} (G : Glob K mg) (hd : Rd 2 dsp (RD.t__law_draw_k41) N__law_draw) : Has P w K mg base (k + 1) "_law_draw" 2 dsp :=
  has_mk G.d__law_draw sc__law_draw rfl fun f cdv A outer s0 H E hr => by
    have hu := hr.units
    have hu1 : _ + 1 < cLine := Nat.lt_of_le_of_lt (Nat.add_le_add_left (by decide : 1 ≤ 64) _) hu
    exact ⟨RD.t__law_draw_k41, (dss_cons (ds_if (dw_pt (dw_and (dt_cm (cm_eq hu) (nomark _) (de_dget hu1 (dv 0) de_str) de_int) (dw_and1 (dt_cm (cm_lt hu) (nomark _) (de_dget hu1 (dv 0) de_str) (de_len (by rfl) G.z_len (da_cons (de_dget hu1 (dv 0) de_str) da_nil)))))) (dss_cons (ds_set (i := 2) sc__law_draw.nd rfl (by first | exact .inl rfl | exact .inr rfl) (de_ix (de_dget hu1 (dv 0) de_str) (de_dget hu1 (dv 0) de_str)))
      (dss_cons (ds_asg (de_add (de_dget hu1 (dv 0) de_str) de_int) (dg_sub (dv 0) de_str (set_dict hu1) setK_ok))
      (dss_cons (ds_asg (de_mod (de_int' (by rfl) G.z_int (da_cons (de_add (de_add (de_mul (de_dget hu1 (dv 0) de_str) de_int) (dv 2)) de_int) da_nil)) de_int) (dg_sub (dv 0) de_str (set_dict hu1) setK_ok))
      (dss_one (ds_asg (de_if (dt_cm (cm_ge hu) (nomark _) (dv 2) (de_pow de_int de_int)) (dv 2) de_int) (dg_sub (dv 0) de_str (set_dict hu1) setK_ok)))))) dss_nil)
      (dss_cons (ds_if (dt_cm (cm_gt hu) (nomark _) (de_dget hu1 (dv 0) de_str) de_int) (dss_cons (ds_set (i := 3) sc__law_draw.nd rfl (by first | exact .inl rfl | exact .inr rfl) (de_mod (de_int' (by rfl) G.z_int (da_cons (de_dget hu1 (dv 0) de_str) da_nil)) (dv 1)))
      (dss_cons (ds_asg (de_div (de_dget hu1 (dv 0) de_str) (dv 1)) (dg_sub (dv 0) de_str (set_dict hu1) setK_ok))
      (dss_one (ds_ret (dv 3))))) dss_nil)
      (dss_cons (ds_asg (de_add (de_dget hu1 (dv 0) de_str) de_int) (dg_sub (dv 0) de_str (set_dict hu1) setK_ok))
      (dss_cons (ds_set (i := 4) sc__law_draw.nd rfl (by first | exact .inl rfl | exact .inr rfl) (de_mod (de_int' (by rfl) G.z_int (da_cons (de_mul (de_int' (by rfl) G.z_int (da_cons (de_add (de_dget hu1 (dv 0) de_str) (de_mul de_int (de_dget hu1 (dv 0) de_str))) da_nil)) de_int) da_nil)) de_int))
      (dss_cons (ds_set (i := 4) sc__law_draw.nd rfl (by first | exact .inl rfl | exact .inr rfl) (de_mod (de_int' (by rfl) G.z_int (da_cons (de_mul (dv 4) (de_add (de_div (dv 4) de_int) de_int)) da_nil)) de_int))
      (dss_cons (ds_set (i := 4) sc__law_draw.nd rfl (by first | exact .inl rfl | exact .inr rfl) (de_mod (de_int' (by rfl) G.z_int (da_cons (de_add (de_mul (dv 4) (de_add (de_div (dv 4) de_int) de_int)) (de_dget hu1 (dv 0) de_str)) da_nil)) de_int))
      (dss_one (ds_ret (de_mod (de_int' (by rfl) G.z_int (da_cons (de_div (dv 4) de_int) da_nil)) (dv 1)))))))))), hd⟩
theorem h__law_any {dsp : DSp} {s__law_draw : DSp} (G : Glob K mg) (H__law_draw : Has P w K mg base k "_law_draw" 2 s__law_draw) (hd : Rd 2 dsp (RD.t__law_any s__law_draw) N__law_any) : Has P w K mg base (k + 1) "_law_any" 2 dsp :=
  has_mk G.d__law_any sc__law_any rfl fun f cdv A outer s0 H E hr => by
    have hu := hr.units
    have hu1 : _ + 1 < cLine := Nat.lt_of_le_of_lt (Nat.add_le_add_left (by decide : 1 ≤ 64) _) hu
    exact ⟨RD.t__law_any s__law_draw, (dss_one (ds_ret (de_ix (dv 1) (de_call H__law_draw hr (by rfl) (pasT (takes_of rfl rfl rfl rfl)) (da_cons (dv 0) (da_cons (de_len (by rfl) G.z_len (da_cons (dv 1) da_nil)) da_nil)))))), hd⟩
theorem h__law_name {dsp : DSp} {s__law_draw : DSp} {s__law_any : DSp} (G : Glob K mg) (H__law_draw : Has P w K mg base k "_law_draw" 2 s__law_draw) (H__law_any : Has P w K mg base k "_law_any" 2 s__law_any) (hd : Rd 1 dsp (RD.t__law_name s__law_draw s__law_any) N__law_name) : Has P w K mg base (k + 1) "_law_name" 1 dsp :=
  has_mk G.d__law_name sc__law_name rfl fun f cdv A outer s0 H E hr => by
    have hu := hr.units
    have hu1 : _ + 1 < cLine := Nat.lt_of_le_of_lt (Nat.add_le_add_left (by decide : 1 ≤ 64) _) hu
    exact ⟨RD.t__law_name s__law_draw s__law_any, (dss_cons (ds_set (i := 1) sc__law_name.nd rfl (by first | exact .inl rfl | exact .inr rfl) de_str)
      (dss_cons (ds_if (dt_cm (cm_eq hu) (nomark _) (de_call H__law_draw hr (by rfl) (pasT (takes_of rfl rfl rfl rfl)) (da_cons (dv 0) (da_cons de_int da_nil))) de_int) (dss_one (ds_ret (de_call H__law_any hr (by rfl) (pasT (takes_of rfl rfl rfl rfl)) (da_cons (dv 0) (da_cons (de_lst (da_cons de_str (da_cons de_str (da_cons de_str (da_cons de_str (da_cons de_str (da_cons de_str da_nil))))))) da_nil))))) dss_nil)
      (dss_one (ds_ret (de_bm PySem.F.plainAttrs_str PySem.F.slot_str_join PySem.F.type_str_join mt_join join_ok de_str (da_cons (de_lc (own := [("k", 2)]) rfl sc__law_name.nd (di_range1 (by rfl) G.z_range (da_cons (de_add de_int (de_call H__law_any hr (by rfl) (pasT (takes_of rfl rfl rfl rfl)) (da_cons (dv 0) (da_cons (de_lst (da_cons de_int (da_cons de_int (da_cons de_int (da_cons de_int (da_cons de_int (da_cons de_int da_nil))))))) da_nil)))) da_nil)) (blkOk_by (N := N__law_name) (sc := defScope S__law_name) (own := [("k", 2)]) (by decide +kernel)) (by decide) (fun _ _ _ _ _ => (dg_name (i := 2) sc__law_name.nd rfl (by first | exact .inl rfl | exact .inr rfl))) (fun _ _ _ _ _ => dts_nil) (fun _ _ _ _ _ => (de_ix (dv 1) (de_call H__law_draw hr (by rfl) pas0 (da_cons (dv 0) (da_cons de_int da_nil)))))) da_nil)))))), hd⟩
theorem h__law_installation {dsp : DSp} {s__law_draw : DSp} {s__law_any : DSp} {s__law_name : DSp} (G : Glob K mg) (H__law_draw : Has P w K mg base k "_law_draw" 2 s__law_draw) (H__law_any : Has P w K mg base k "_law_any" 2 s__law_any) (H__law_name : Has P w K mg base k "_law_name" 1 s__law_name) (hd : Rd 1 dsp (RD.t__law_installation s__law_draw s__law_any s__law_name) N__law_installation) : Has P w K mg base (k + 1) "_law_installation" 1 dsp :=
  has_mk G.d__law_installation sc__law_installation rfl fun f cdv A outer s0 H E hr => by
    have hu := hr.units
    have hu1 : _ + 1 < cLine := Nat.lt_of_le_of_lt (Nat.add_le_add_left (by decide : 1 ≤ 64) _) hu
    exact ⟨RD.t__law_installation s__law_draw s__law_any s__law_name, (dss_cons (ds_set (i := 1) sc__law_installation.nd rfl (by first | exact .inl rfl | exact .inr rfl) (de_lst da_nil))
      (dss_cons (ds_for (passes_of rfl) rfl (di_seq (de_sortTx rfl hu (by rfl) G.z_sorted (by rfl) G.z_set (de_lc (own := [("k", 3)]) rfl sc__law_installation.nd (di_range1 (by rfl) G.z_range (da_cons (de_call H__law_any hr (by rfl) (pasT (takes_of rfl rfl rfl rfl)) (da_cons (dv 0) (da_cons (de_lst (da_cons de_int (da_cons de_int (da_cons de_int (da_cons de_int (da_cons de_int (da_cons de_int (da_cons de_int (da_cons de_int (da_cons de_int (da_cons de_int (da_cons de_int (da_cons de_int da_nil))))))))))))) da_nil))) da_nil)) (blkOk_by (N := N__law_installation) (sc := defScope S__law_installation) (own := [("k", 3)]) (by decide +kernel)) (by decide) (fun _ _ _ _ _ => (dg_name (i := 3) sc__law_installation.nd rfl (by first | exact .inl rfl | exact .inr rfl))) (fun _ _ _ _ _ => dts_nil) (fun _ _ _ _ _ => (de_call H__law_name hr (by rfl) pas0 (da_cons (dv 0) da_nil)))))) (dg_name (i := 2) sc__law_installation.nd rfl (by first | exact .inl rfl | exact .inr rfl)) (dss_cons (ds_setLc (i := 4) (own := [("k", 3)]) rfl sc__law_installation.nd rfl rfl (sw_true rfl rfl rfl (by decide +kernel)) (di_range1 (by rfl) G.z_range (da_cons de_int da_nil)) (blkOk_by (N := N__law_installation) (sc := defScope S__law_installation) (own := [("k", 3)]) (by decide +kernel)) (by decide) (fun _ _ _ _ _ => (dg_name (i := 3) sc__law_installation.nd rfl (by first | exact .inl rfl | exact .inr rfl))) (fun _ _ _ _ _ => dts_nil) (fun _ _ _ _ _ => (de_call H__law_any hr (by rfl) pas0 (da_cons (dv 0) (da_cons (de_lst (da_cons de_int (da_cons de_int (da_cons de_int (da_cons de_int (da_cons de_int (da_cons (de_call H__law_draw hr (by rfl) pas0 (da_cons (dv 0) (da_cons de_int da_nil))) da_nil))))))) da_nil)))))
      (dss_cons (ds_set (i := 5) sc__law_installation.nd rfl (by first | exact .inl rfl | exact .inr rfl) (de_sortTx rfl hu (by rfl) G.z_sorted (by rfl) G.z_set (de_lc (own := [("k", 3)]) rfl sc__law_installation.nd (di_range1 (by rfl) G.z_range (da_cons (de_call H__law_any hr (by rfl) (pasT (takes_of rfl rfl rfl rfl)) (da_cons (dv 0) (da_cons (de_lst (da_cons de_int (da_cons de_int (da_cons de_int (da_cons de_int (da_cons de_int (da_cons de_int (da_cons de_int (da_cons de_int da_nil))))))))) da_nil))) da_nil)) (blkOk_by (N := N__law_installation) (sc := defScope S__law_installation) (own := [("k", 3)]) (by decide +kernel)) (by decide) (fun _ _ _ _ _ => (dg_name (i := 3) sc__law_installation.nd rfl (by first | exact .inl rfl | exact .inr rfl))) (fun _ _ _ _ _ => dts_nil) (fun _ _ _ _ _ => (de_call H__law_name hr (by rfl) pas0 (da_cons (dv 0) da_nil))))))
      (dss_one (ds_expr (de_append (dv 1) (da_cons (de_tup (da_cons (dv 2) (da_cons (de_tuple (by rfl) G.z_tuple (da_cons (dv 4) da_nil)) (da_cons (de_tuple (by rfl) G.z_tuple (da_cons (dv 5) da_nil)) da_nil)))) da_nil)))))))
      (dss_one (ds_ret (de_tuple (by rfl) G.z_tuple (da_cons (dv 1) da_nil)))))), hd⟩
theorem h__law_check {dsp : DSp} (G : Glob K mg) (hd : Rd 1 dsp (RD.t__law_check) N__law_check) : Has P w K mg base (k + 1) "_law_check" 1 dsp :=
  has_mk G.d__law_check sc__law_check rfl fun f cdv A outer s0 H E hr => by
    have hu := hr.units
    have hu1 : _ + 1 < cLine := Nat.lt_of_le_of_lt (Nat.add_le_add_left (by decide : 1 ≤ 64) _) hu
    exact ⟨RD.t__law_check, (dss_cons (ds_asg (de_tup (da_cons de_int (da_cons de_int da_nil))) (dg_tup (n := 2) rfl (dgs_cons (dg_name (i := 1) sc__law_check.nd rfl (by first | exact .inl rfl | exact .inr rfl)) (dgs_cons (dg_name (i := 2) sc__law_check.nd rfl (by first | exact .inl rfl | exact .inr rfl)) dgs_nil))))
      (dss_cons (ds_for (passes_of rfl) rfl (di_seq (de_revS (dv 0))) (dg_name (i := 3) sc__law_check.nd rfl (by first | exact .inl rfl | exact .inr rfl)) (dss_cons (ds_set (i := 1) sc__law_check.nd rfl (by first | exact .inl rfl | exact .inr rfl) (de_add (dv 1) (de_ordS (by rfl) G.z_ord (da_cons (dv 3) da_nil))))
      (dss_one (ds_set (i := 2) sc__law_check.nd rfl (by first | exact .inl rfl | exact .inr rfl) (de_add (dv 2) (dv 1))))))
      (dss_one (ds_ret (de_mod (de_int' (by rfl) G.z_int (da_cons (dv 2) da_nil)) de_int))))), hd⟩
theorem h__law_line {dsp : DSp} (G : Glob K mg) (hd : Rd 1 dsp (RD.t__law_line) N__law_line) : Has P w K mg base (k + 1) "_law_line" 1 dsp :=
  has_mk G.d__law_line sc__law_line rfl fun f cdv A outer s0 H E hr => by
    have hu := hr.units
    have hu1 : _ + 1 < cLine := Nat.lt_of_le_of_lt (Nat.add_le_add_left (by decide : 1 ≤ 64) _) hu
    exact ⟨RD.t__law_line, (dss_cons (ds_asg (dv 0) (dg_tup (n := 3) rfl (dgs_cons (dg_name (i := 1) sc__law_line.nd rfl (by first | exact .inl rfl | exact .inr rfl)) (dgs_cons (dg_name (i := 2) sc__law_line.nd rfl (by first | exact .inl rfl | exact .inr rfl)) (dgs_cons (dg_name (i := 3) sc__law_line.nd rfl (by first | exact .inl rfl | exact .inr rfl)) dgs_nil)))))
      (dss_cons (ds_set (i := 4) sc__law_line.nd rfl (by first | exact .inl rfl | exact .inr rfl) (de_add (de_add (de_add (de_add (de_add (de_add (dv 1) de_str) (de_strI (by rfl) G.z_str (da_cons (de_ix (dv 2) de_int) da_nil))) de_str) (de_strI (by rfl) G.z_str (da_cons (de_ix (dv 2) de_int) da_nil))) de_str) (de_strI (by rfl) G.z_str (da_cons (de_ix (dv 2) de_int) da_nil))))
      (dss_one (ds_ret (de_add (de_add (dv 4) (de_bm PySem.F.plainAttrs_str PySem.F.slot_str_join PySem.F.type_str_join mt_join join_ok de_str (da_cons (de_lc (own := [("feature", 5)]) rfl sc__law_line.nd (di_seq (dv 3)) (blkOk_by (N := N__law_line) (sc := defScope S__law_line) (own := [("feature", 5)]) (by decide +kernel)) (by decide) (fun _ _ _ _ _ => (dg_name (i := 5) sc__law_line.nd rfl (by first | exact .inl rfl | exact .inr rfl))) (fun _ _ _ _ _ => dts_nil) (fun _ _ _ _ _ => (de_add de_str (dv 5)))) da_nil))) de_str))))), hd⟩
theorem h__law_is_name {dsp : DSp} (G : Glob K mg) (hd : Rd 1 dsp (RD.t__law_is_name_k42) N__law_is_name) : Has P w K mg base (k + 1) "_law_is_name" 1 dsp :=
  has_mk G.d__law_is_name sc__law_is_name rfl fun f cdv A outer s0 H E hr => by
    have hu := hr.units
    have hu1 : _ + 1 < cLine := Nat.lt_of_le_of_lt (Nat.add_le_add_left (by decide : 1 ≤ 64) _) hu
    exact ⟨RD.t__law_is_name_k42, (dss_one (ds_ret (de_and (de_cm2 (cm_le hu) (cm_le hu) de_int (de_len (by rfl) G.z_len (da_cons (dv 0) da_nil)) de_int) (de_one (de_all rfl (by rfl) G.z_all (da_cons (de_lc (own := [("sign", 1)]) rfl sc__law_is_name.nd (di_seq (dv 0)) (blkOk_by (N := N__law_is_name) (sc := defScope S__law_is_name) (own := [("sign", 1)]) (by decide +kernel)) (by decide) (fun _ _ _ _ _ => (dg_name (i := 1) sc__law_is_name.nd rfl (by first | exact .inl rfl | exact .inr rfl))) (fun _ _ _ _ _ => dts_nil) (fun _ _ _ _ _ => (de_cm cm_inC (by rfl) (dv 1) de_str))) da_nil)))))), hd⟩
theorem h__law_number {dsp : DSp} (G : Glob K mg) (hd : Rd 2 dsp (RD.t__law_number) N__law_number) : Has P w K mg base (k + 1) "_law_number" 2 dsp :=
  has_mk G.d__law_number sc__law_number rfl fun f cdv A outer s0 H E hr => by
    have hu := hr.units
    have hu1 : _ + 1 < cLine := Nat.lt_of_le_of_lt (Nat.add_le_add_left (by decide : 1 ≤ 64) _) hu
    exact ⟨RD.t__law_number, (dss_cons (ds_if (dw_pt (dw_or (dt_not (dt_cm2 (cm_le hu) (cm_le hu) de_int (de_len (by rfl) G.z_len (da_cons (dv 0) da_nil)) de_int)) (dw_or (dt_not (dt_tru (de_all rfl (by rfl) G.z_all (da_cons (de_lc (own := [("sign", 2)]) rfl sc__law_number.nd (di_seq (dv 0)) (blkOk_by (N := N__law_number) (sc := defScope S__law_number) (own := [("sign", 2)]) (by decide +kernel)) (by decide) (fun _ _ _ _ _ => (dg_name (i := 2) sc__law_number.nd rfl (by first | exact .inl rfl | exact .inr rfl))) (fun _ _ _ _ _ => dts_nil) (fun _ _ _ _ _ => (de_cm cm_inC (by rfl) (dv 2) de_str))) da_nil)))) (dw_or1 (dt_cm (cm_ne hu) (nomark _) (dv 0) (de_strI (by rfl) G.z_str (da_cons (de_intS (by rfl) G.z_int (da_cons (dv 0) da_nil)) da_nil))))))) (dss_one (ds_ret de_non)) dss_nil)
      (dss_one (ds_ret (de_if (dt_cm (cm_le hu) (nomark _) (de_intS (by rfl) G.z_int (da_cons (dv 0) da_nil)) (dv 1)) (de_intS (by rfl) G.z_int (da_cons (dv 0) da_nil)) de_non)))), hd⟩
theorem h__law_triple {dsp : DSp} {s__law_is_name : DSp} {s__law_number : DSp} (G : Glob K mg) (H__law_is_name : Has P w K mg base k "_law_is_name" 1 s__law_is_name) (H__law_number : Has P w K mg base k "_law_number" 2 s__law_number) (hd : Rd 1 dsp (RD.t__law_triple s__law_is_name s__law_number) N__law_triple) : Has P w K mg base (k + 1) "_law_triple" 1 dsp :=
  has_mk G.d__law_triple sc__law_triple rfl fun f cdv A outer s0 H E hr => by
    have hu := hr.units
    have hu1 : _ + 1 < cLine := Nat.lt_of_le_of_lt (Nat.add_le_add_left (by decide : 1 ≤ 64) _) hu
    exact ⟨RD.t__law_triple s__law_is_name s__law_number, (dss_cons (ds_set (i := 1) sc__law_triple.nd rfl (by first | exact .inl rfl | exact .inr rfl) (de_bm PySem.F.plainAttrs_str PySem.F.slot_str_split PySem.F.type_str_split mt_split split_ok (dv 0) (da_cons de_str da_nil)))
      (dss_cons (ds_if (dw_pt (dw_or (dt_cm (cm_lt hu) (nomark _) (de_len (by rfl) G.z_len (da_cons (dv 1) da_nil)) de_int) (dw_or1 (dt_not (dt_tru (de_all rfl (by rfl) G.z_all (da_cons (de_lc (own := [("word", 2)]) rfl sc__law_triple.nd (di_seq (de_add (de_slice (dv 1) do_none (do_some de_int)) (de_slice (dv 1) (do_some de_int) do_none))) (blkOk_by (N := N__law_triple) (sc := defScope S__law_triple) (own := [("word", 2)]) (by decide +kernel)) (by decide) (fun _ _ _ _ _ => (dg_name (i := 2) sc__law_triple.nd rfl (by first | exact .inl rfl | exact .inr rfl))) (fun _ _ _ _ _ => dts_nil) (fun _ _ _ _ _ => (de_call H__law_is_name hr (by rfl) pas0 (da_cons (dv 2) da_nil)))) da_nil))))))) (dss_one (ds_ret de_non)) dss_nil)
      (dss_cons (ds_par (i := 3) (j := 4) rfl sc__law_triple.nd rfl rfl (by decide) rfl rfl (da_cons (de_lc (own := [("word", 2)]) rfl sc__law_triple.nd (di_seq (de_bm PySem.F.plainAttrs_str PySem.F.slot_str_split PySem.F.type_str_split mt_split split_ok (de_ix (dv 1) de_int) (da_cons de_str da_nil))) (blkOk_by (N := N__law_triple) (sc := defScope S__law_triple) (own := [("word", 2)]) (by decide +kernel)) (by decide) (fun _ _ _ _ _ => (dg_name (i := 2) sc__law_triple.nd rfl (by first | exact .inl rfl | exact .inr rfl))) (fun _ _ _ _ _ => dts_nil) (fun _ _ _ _ _ => (de_call H__law_number hr (by rfl) pas0 (da_cons (dv 2) (da_cons de_int da_nil))))) (da_cons (de_slice (dv 1) (do_some de_int) do_none) da_nil)) (by rfl))
      (dss_cons (ds_if (dw_pt (dw_or (dt_cm (cm_ne hu) (nomark _) (de_len (by rfl) G.z_len (da_cons (dv 3) da_nil)) de_int) (dw_or (dt_cm cm_in (by rfl) de_non (dv 3)) (dw_or1 (dt_cm (cm_ne hu) (nomark _) (dv 4) (de_sortTx rfl hu (by rfl) G.z_sorted (by rfl) G.z_set (dv 4))))))) (dss_one (ds_ret de_non)) dss_nil)
      (dss_one (ds_ret (de_tup (da_cons (de_ix (dv 1) de_int) (da_cons (de_tuple (by rfl) G.z_tuple (da_cons (dv 3) da_nil)) (da_cons (de_tuple (by rfl) G.z_tuple (da_cons (dv 4) da_nil)) da_nil)))))))))), hd⟩
theorem h__law_due {dsp : DSp} {s__law_check : DSp} {s__law_number : DSp} {s__law_triple : DSp} (G : Glob K mg) (H__law_check : Has P w K mg base k "_law_check" 1 s__law_check) (H__law_number : Has P w K mg base k "_law_number" 2 s__law_number) (H__law_triple : Has P w K mg base k "_law_triple" 1 s__law_triple) (hd : Rd 1 dsp (RD.t__law_due_k42 s__law_check s__law_number s__law_triple) N__law_due) : Has P w K mg base (k + 1) "_law_due" 1 dsp :=
  has_mk G.d__law_due sc__law_due rfl fun f cdv A outer s0 H E hr => by
    have hu := hr.units
    have hu1 : _ + 1 < cLine := Nat.lt_of_le_of_lt (Nat.add_le_add_left (by decide : 1 ≤ 64) _) hu
    exact ⟨RD.t__law_due_k42 s__law_check s__law_number s__law_triple, (dss_cons (ds_set (i := 1) sc__law_due.nd rfl (by first | exact .inl rfl | exact .inr rfl) (de_bm PySem.F.plainAttrs_str PySem.F.slot_str_split PySem.F.type_str_split mt_split split_ok (dv 0) (da_cons de_str da_nil)))
      (dss_cons (ds_par (i := 2) (j := 3) rfl sc__law_due.nd rfl rfl (by decide) rfl rfl (da_cons (de_lst da_nil) (da_cons de_str da_nil)) (by rfl))
      (dss_cons (ds_for (passes_of rfl) rfl (di_range2 (by rfl) G.z_range (da_cons de_int (da_cons (de_len (by rfl) G.z_len (da_cons (dv 1) da_nil)) da_nil))) (dg_name (i := 4) sc__law_due.nd rfl (by first | exact .inl rfl | exact .inr rfl)) (dss_cons (ds_set (i := 5) sc__law_due.nd rfl (by first | exact .inl rfl | exact .inr rfl) (de_ix (dv 1) (de_sub (dv 4) de_int)))
      (dss_cons (ds_set (i := 6) sc__law_due.nd rfl (by first | exact .inl rfl | exact .inr rfl) (de_call H__law_triple hr (by rfl) (pasT (takes_of rfl rfl rfl rfl)) (da_cons (dv 5) da_nil)))
      (dss_one (ds_if (dt_cm cm_isnot (nomark _) (dv 6) de_non) (dss_cons (ds_if (dw_pt (dw_and (dt_cm (cm_gt hu) (nomark _) (de_len (by rfl) G.z_len (da_cons (dv 2) da_nil)) de_int) (dw_and1 (dt_cm (cm_ge hu) (nomark _) (de_ix (de_ix (dv 2) (de_neg de_int)) de_int) (de_ix (dv 6) de_int))))) (dss_one (ds_ret (de_tup (da_cons de_str (da_cons (dv 4) da_nil))))) dss_nil)
      (dss_cons (ds_expr (de_append (dv 2) (da_cons (dv 6) da_nil)))
      (dss_one (ds_set (i := 3) sc__law_due.nd rfl (by first | exact .inl rfl | exact .inr rfl) (de_add (de_add (dv 3) (dv 5)) de_str))))) (dss_one (ds_if (dw_pt (dw_or (dt_cm (cm_ne hu) (nomark _) (de_slice (dv 5) do_none (do_some de_int)) de_str) (dw_or1 (dt_cm (cm_ne hu) (nomark _) (de_call H__law_number hr (by rfl) (pasT (takes_of rfl rfl rfl rfl)) (da_cons (de_slice (dv 5) (do_some de_int) do_none) (da_cons de_int da_nil))) (de_call H__law_check hr (by rfl) (pasT (takes_of rfl rfl rfl rfl)) (da_cons (dv 3) da_nil)))))) (dss_one (ds_ret (de_tup (da_cons de_str (da_cons (dv 4) da_nil))))) (dss_one (ds_if (dt_cm (cm_ne hu) (nomark _) (dv 0) (de_add (de_add (dv 3) (dv 5)) de_str)) (dss_one (ds_ret (de_tup (da_cons de_str (da_cons (de_add (dv 4) de_int) da_nil))))) (dss_one (ds_ret (de_tup (da_cons de_str (da_cons (de_tuple (by rfl) G.z_tuple (da_cons (dv 2) da_nil)) da_nil))))))))))))))
      (dss_one (ds_ret (de_tup (da_cons de_str (da_cons (de_len (by rfl) G.z_len (da_cons (dv 1) da_nil)) da_nil)))))))), hd⟩
theorem h__law_read {dsp : DSp} {s_read_lock : DSp} (G : Glob K mg) (H_read_lock : Has P w K mg base k "read_lock" 1 s_read_lock) (hd : Rd 1 dsp (RD.t__law_read s_read_lock) N__law_read) : Has P w K mg base (k + 1) "_law_read" 1 dsp :=
  has_mk G.d__law_read sc__law_read rfl fun f cdv A outer s0 H E hr => by
    have hu := hr.units
    have hu1 : _ + 1 < cLine := Nat.lt_of_le_of_lt (Nat.add_le_add_left (by decide : 1 ≤ 64) _) hu
    exact ⟨RD.t__law_read s_read_lock, (dss_cons (ds_set (i := 1) sc__law_read.nd rfl (by first | exact .inl rfl | exact .inr rfl) (de_tup (da_cons de_non (da_cons de_non da_nil))))
      (dss_cons (ds_try_as (ms := [4]) (i := 2) rfl rfl sc__law_read.nd rfl rfl ⟨by rfl, by decide, .inl G.g_BadLine⟩ (takes_of rfl rfl rfl rfl) (all_cons G.xm_BadLine_BadLine (fun _ h => nomatch h)) (fun W pn xe tk po => (dss_one (ds_set (i := 1) sc__law_read.nd rfl (by first | exact .inl rfl | exact .inr rfl) (de_tup (da_cons de_str (da_cons (de_call H_read_lock hr (by rfl) (pasT tk) (da_cons (dv 0) da_nil)) da_nil)))))) (fun TC' a oe x d pn hT hz hv hd => by exact ((dss_one (ds_if (dw_pt (dw_and (dt_tru (de_xi (X := XDef P w K mg base N__law_read "_law_read" S__law_read f cdv A outer s0 H E) (a := a) (oe := oe) (pn := pn) (xx := x) (d := d) (tbl := [(4, true)]) (cv := .ref (errA 0)) (cu := .ref (errA 0)) hT (by rfl) G.z_isinstance (all_cons ⟨G.ef_BadLine, G.kt_BadLine_LockError⟩ (fun _ h => nomatch h)) (fun u r => r) hz hv (dv 2) (pe_glob (by rfl) G.g_LockError (show RelV (.ref (errA 0)) (.ref (errA 0)) from rfl)))) (dw_and (dt_tru (de_xi (X := XDef P w K mg base N__law_read "_law_read" S__law_read f cdv A outer s0 H E) (a := a) (oe := oe) (pn := pn) (xx := x) (d := d) (tbl := [(4, true)]) (cv := .ty "ValueError") (cu := .type "ValueError") hT (by rfl) G.z_isinstance (all_cons ⟨G.ef_BadLine, G.kt_BadLine_ValueError⟩ (fun _ h => nomatch h)) (fun u r => r) hz hv (dv 2) (pe_bltn (by rfl) G.z_ValueError boot_ValueError (show RelV (.ty "ValueError") (.type "ValueError") from rfl)))) (dw_and1 (dt_not (dt_tru (de_xi (X := XDef P w K mg base N__law_read "_law_read" S__law_read f cdv A outer s0 H E) (a := a) (oe := oe) (pn := pn) (xx := x) (d := d) (tbl := [(4, false)]) (cv := .ref (errA 1)) (cu := .ref (errA 1)) hT (by rfl) G.z_isinstance (all_cons ⟨G.ef_BadLine, G.kt_BadLine_BadText⟩ (fun _ h => nomatch h)) (fun u r => r) hz hv (dv 2) (pe_glob (by rfl) G.g_BadText (show RelV (.ref (errA 1)) (.ref (errA 1)) from rfl))))))))) (dss_one (ds_set (i := 1) sc__law_read.nd rfl (by first | exact .inl rfl | exact .inr rfl) (de_tup (da_cons de_str (da_cons (de_xf (X := XDef P w K mg base N__law_read "_law_read" S__law_read f cdv A outer s0 H E) (a := a) (oe := oe) (pn := pn) (xx := x) (d := d) (m := 4) hT G.ef_BadLine.xf G.no_BadLine hz hv hd (dv 2)) da_nil))))) dss_nil)))))
      (dss_cons (ds_if (dw_pt (dw_and (dt_cm (cm_eq hu) (nomark _) (de_ix (dv 1) de_int) de_str) (dw_and1 (dw_pt (dw_or (dt_not (dt_tru (de_isi (by rfl) G.z_isinstance (de_ix (dv 1) de_int) (pe_ty (by rfl) G.z_int PyProof.Rows.boot_int)))) (dw_or1 (dt_tru (de_isi (by rfl) G.z_isinstance (de_ix (dv 1) de_int) (pe_ty (by rfl) G.z_bool PyProof.Rows.boot_bool))))))))) (dss_one (ds_ret (de_tup (da_cons de_non (da_cons de_non da_nil))))) dss_nil)
      (dss_one (ds_ret (dv 1)))))), hd⟩
theorem h__law_bent_word {dsp : DSp} {s__law_draw : DSp} {s__law_any : DSp} (G : Glob K mg) (H__law_draw : Has P w K mg base k "_law_draw" 2 s__law_draw) (H__law_any : Has P w K mg base k "_law_any" 2 s__law_any) (hd : Rd 2 dsp (RD.t__law_bent_word s__law_draw s__law_any) N__law_bent_word) : Has P w K mg base (k + 1) "_law_bent_word" 2 dsp :=
  has_mk G.d__law_bent_word sc__law_bent_word rfl fun f cdv A outer s0 H E hr => by
    have hu := hr.units
    have hu1 : _ + 1 < cLine := Nat.lt_of_le_of_lt (Nat.add_le_add_left (by decide : 1 ≤ 64) _) hu
    exact ⟨RD.t__law_bent_word s__law_draw s__law_any, (dss_cons (ds_par (i := 2) (j := 3) rfl sc__law_bent_word.nd rfl rfl (by decide) rfl rfl (da_cons (de_slice (dv 1) (do_some de_int) do_none) (da_cons (de_call H__law_any hr (by rfl) (pasT (takes_of rfl rfl rfl rfl)) (da_cons (dv 0) (da_cons (de_lst (da_cons de_str (da_cons de_str (da_cons de_str (da_cons de_str (da_cons de_str (da_cons de_str (da_cons de_str (da_cons de_str (da_cons de_str (da_cons de_str (da_cons de_str da_nil)))))))))))) da_nil))) da_nil)) (by rfl))
      (dss_cons (ds_set (i := 4) sc__law_bent_word.nd rfl (by first | exact .inl rfl | exact .inr rfl) (de_call H__law_draw hr (by rfl) (pasT (takes_of rfl rfl rfl rfl)) (da_cons (dv 0) (da_cons (de_add (de_len (by rfl) G.z_len (da_cons (dv 1) da_nil)) de_int) da_nil))))
      (dss_cons (ds_set (i := 5) sc__law_bent_word.nd rfl (by first | exact .inl rfl | exact .inr rfl) (de_lst (da_cons (de_add (de_add (de_slice (dv 1) do_none (do_some (dv 4))) (dv 3)) (de_slice (dv 1) (do_some (dv 4)) do_none)) (da_cons (de_add (de_add (de_slice (dv 1) do_none (do_some (dv 4))) (dv 3)) (de_slice (dv 1) (do_some (de_add (dv 4) de_int)) do_none)) (da_cons (dv 2) (da_cons (de_bm0 PySem.F.plainAttrs_str PySem.F.slot_str_upper PySem.F.type_str_upper mt_upper upper_ok (dv 1)) (da_cons (de_add de_str (dv 1)) (da_cons (de_add (dv 1) (dv 1)) da_nil))))))))
      (dss_cons (ds_expr (de_bm PySem.F.plainAttrs_list PySem.F.slot_list_extend PySem.F.type_list_extend (MtR.or mt_extend mt_extendT) extendA_ok (dv 5) (da_cons (de_lst (da_cons (de_add (dv 1) de_str) (da_cons (de_slice (dv 1) do_none (do_some (de_neg de_int))) (da_cons (de_add (dv 1) de_str) (da_cons (de_add de_str (dv 1)) (da_cons de_str (da_cons de_str (da_cons de_str (da_cons de_str (da_cons de_str da_nil)))))))))) da_nil)))
      (dss_cons (ds_expr (de_bm PySem.F.plainAttrs_list PySem.F.slot_list_extend PySem.F.type_list_extend (MtR.or mt_extend mt_extendT) extendA_ok (dv 5) (da_cons (de_lst (da_cons (de_add de_str (de_mulS de_str de_int)) (da_cons (de_add de_str (de_mulS de_str de_int)) (da_cons de_str (da_cons de_str (da_cons de_str (da_cons de_str (da_cons de_str (da_cons de_str (da_cons de_str da_nil)))))))))) da_nil)))
      (dss_one (ds_ret (de_call H__law_any hr (by rfl) (pasT (takes_of rfl rfl rfl rfl)) (da_cons (dv 0) (da_cons (dv 5) da_nil)))))))))), hd⟩
theorem h__law_bent_line {dsp : DSp} {s__law_draw : DSp} {s__law_bent_word : DSp} (G : Glob K mg) (H__law_draw : Has P w K mg base k "_law_draw" 2 s__law_draw) (H__law_bent_word : Has P w K mg base k "_law_bent_word" 2 s__law_bent_word) (hd : Rd 2 dsp (RD.t__law_bent_line_k42 s__law_draw s__law_bent_word) N__law_bent_line) : Has P w K mg base (k + 1) "_law_bent_line" 2 dsp :=
  has_mk G.d__law_bent_line sc__law_bent_line rfl fun f cdv A outer s0 H E hr => by
    have hu := hr.units
    have hu1 : _ + 1 < cLine := Nat.lt_of_le_of_lt (Nat.add_le_add_left (by decide : 1 ≤ 64) _) hu
    exact ⟨RD.t__law_bent_line_k42 s__law_draw s__law_bent_word, (dss_cons (ds_set (i := 2) sc__law_bent_line.nd rfl (by first | exact .inl rfl | exact .inr rfl) (de_bm PySem.F.plainAttrs_str PySem.F.slot_str_split PySem.F.type_str_split mt_split split_ok (dv 1) (da_cons de_str da_nil)))
      (dss_cons (ds_set (i := 3) sc__law_bent_line.nd rfl (by first | exact .inl rfl | exact .inr rfl) (de_call H__law_draw hr (by rfl) (pasT (takes_of rfl rfl rfl rfl)) (da_cons (dv 0) (da_cons (de_len (by rfl) G.z_len (da_cons (dv 2) da_nil)) da_nil))))
      (dss_one (ds_ret (de_bm PySem.F.plainAttrs_str PySem.F.slot_str_join PySem.F.type_str_join mt_join join_ok de_str (da_cons (de_add (de_add (de_slice (dv 2) do_none (do_some (dv 3))) (de_lst (da_cons (de_call H__law_bent_word hr (by rfl) (pasT (takes_of rfl rfl rfl rfl)) (da_cons (dv 0) (da_cons (de_ix (dv 2) (dv 3)) da_nil))) da_nil))) (de_slice (dv 2) (do_some (de_add (dv 3) de_int)) do_none)) da_nil)))))), hd⟩
theorem h__law_bent_lines {dsp : DSp} {s__law_draw : DSp} {s__law_any : DSp} {s__law_check : DSp} {s__law_bent_line : DSp} (G : Glob K mg) (H__law_draw : Has P w K mg base k "_law_draw" 2 s__law_draw) (H__law_any : Has P w K mg base k "_law_any" 2 s__law_any) (H__law_check : Has P w K mg base k "_law_check" 1 s__law_check) (H__law_bent_line : Has P w K mg base k "_law_bent_line" 2 s__law_bent_line) (hd : Rd 2 dsp (RD.t__law_bent_lines s__law_draw s__law_any s__law_check s__law_bent_line) N__law_bent_lines) : Has P w K mg base (k + 1) "_law_bent_lines" 2 dsp :=
  has_mk G.d__law_bent_lines sc__law_bent_lines rfl fun f cdv A outer s0 H E hr => by
    have hu := hr.units
    have hu1 : _ + 1 < cLine := Nat.lt_of_le_of_lt (Nat.add_le_add_left (by decide : 1 ≤ 64) _) hu
    exact ⟨RD.t__law_bent_lines s__law_draw s__law_any s__law_check s__law_bent_line, (dss_cons (ds_par (i := 2) (j := 3) rfl sc__law_bent_lines.nd rfl rfl (by decide) rfl rfl (da_cons (de_call H__law_draw hr (by rfl) (pasT (takes_of rfl rfl rfl rfl)) (da_cons (dv 0) (da_cons (de_add (de_len (by rfl) G.z_len (da_cons (dv 1) da_nil)) de_int) da_nil))) (da_cons (de_call H__law_draw hr (by rfl) (pasT (takes_of rfl rfl rfl rfl)) (da_cons (dv 0) (da_cons (de_add (de_len (by rfl) G.z_len (da_cons (dv 1) da_nil)) de_int) da_nil))) da_nil)) (by rfl))
      (dss_cons (ds_par (i := 4) (j := 5) rfl sc__law_bent_lines.nd rfl rfl (by decide) rfl rfl (da_cons (de_add (de_slice (dv 1) do_none (do_some (dv 2))) (de_slice (dv 1) (do_some (de_add (dv 2) de_int)) do_none)) (da_cons (de_lst (da_cons de_str (da_cons de_str (da_cons de_str (da_cons de_str (da_cons de_str (da_cons de_str (da_cons de_str (da_cons de_str (da_cons de_str da_nil)))))))))) da_nil)) (by rfl))
      (dss_cons (ds_expr (de_append (dv 5) (da_cons (de_add de_str (de_strI (by rfl) G.z_str (da_cons (de_call H__law_check hr (by rfl) (pasT (takes_of rfl rfl rfl rfl)) (da_cons (de_bm PySem.F.plainAttrs_str PySem.F.slot_str_join PySem.F.type_str_join mt_join join_ok de_str (da_cons (de_lc (own := [("line", 6)]) rfl sc__law_bent_lines.nd (di_seq (de_slice (dv 1) do_none (do_some (dv 2)))) (blkOk_by (N := N__law_bent_lines) (sc := defScope S__law_bent_lines) (own := [("line", 6)]) (by decide +kernel)) (by decide) (fun _ _ _ _ _ => (dg_name (i := 6) sc__law_bent_lines.nd rfl (by first | exact .inl rfl | exact .inr rfl))) (fun _ _ _ _ _ => dts_nil) (fun _ _ _ _ _ => (de_add (dv 6) de_str))) da_nil)) da_nil)) da_nil))) da_nil)))
      (dss_cons (ds_set (i := 7) sc__law_bent_lines.nd rfl (by first | exact .inl rfl | exact .inr rfl) (de_call H__law_draw hr (by rfl) (pasT (takes_of rfl rfl rfl rfl)) (da_cons (dv 0) (da_cons de_int da_nil))))
      (dss_cons (ds_if (dw_pt (dw_and (dt_cm (cm_lt hu) (nomark _) (dv 7) de_int) (dw_and1 (dt_cm (cm_lt hu) (nomark _) (dv 2) (de_len (by rfl) G.z_len (da_cons (dv 1) da_nil)))))) (dss_one (ds_ret (de_add (de_add (de_slice (dv 1) do_none (do_some (dv 2))) (de_lst (da_cons (de_call H__law_bent_line hr (by rfl) (pasT (takes_of rfl rfl rfl rfl)) (da_cons (dv 0) (da_cons (de_ix (dv 1) (dv 2)) da_nil))) da_nil))) (de_slice (dv 1) (do_some (de_add (dv 2) de_int)) do_none)))) dss_nil)
      (dss_cons (ds_if (dt_cm (cm_eq hu) (nomark _) (dv 7) de_int) (dss_one (ds_ret (dv 4))) dss_nil)
      (dss_cons (ds_if (dt_cm (cm_eq hu) (nomark _) (dv 7) de_int) (dss_one (ds_ret (de_add (de_add (de_slice (dv 4) do_none (do_some (dv 3))) (de_slice (dv 1) (do_some (dv 2)) (do_some (de_add (dv 2) de_int)))) (de_slice (dv 4) (do_some (dv 3)) do_none)))) dss_nil)
      (dss_one (ds_ret (de_add (de_add (de_slice (dv 1) do_none (do_some (dv 2))) (de_lst (da_cons (de_if (dt_cm (cm_lt hu) (nomark _) (dv 7) de_int) (de_call H__law_any hr (by rfl) (pasT (takes_of rfl rfl rfl rfl)) (da_cons (dv 0) (da_cons (dv 5) da_nil))) (de_bm PySem.F.plainAttrs_str PySem.F.slot_str_join PySem.F.type_str_join mt_join join_ok de_str (da_cons (de_slice (dv 1) do_none (do_some de_int)) da_nil))) da_nil))) (de_slice (dv 1) (do_some (dv 2)) do_none))))))))))), hd⟩
theorem h__law_end {dsp : DSp} {s__law_draw : DSp} {s__law_any : DSp} {s__law_check : DSp} (G : Glob K mg) (H__law_draw : Has P w K mg base k "_law_draw" 2 s__law_draw) (H__law_any : Has P w K mg base k "_law_any" 2 s__law_any) (H__law_check : Has P w K mg base k "_law_check" 1 s__law_check) (hd : Rd 3 dsp (RD.t__law_end s__law_draw s__law_any s__law_check) N__law_end) : Has P w K mg base (k + 1) "_law_end" 3 dsp :=
  has_mk G.d__law_end sc__law_end rfl fun f cdv A outer s0 H E hr => by
    have hu := hr.units
    have hu1 : _ + 1 < cLine := Nat.lt_of_le_of_lt (Nat.add_le_add_left (by decide : 1 ≤ 64) _) hu
    exact ⟨RD.t__law_end s__law_draw s__law_any s__law_check, (dss_cons (ds_set (i := 3) sc__law_end.nd rfl (by first | exact .inl rfl | exact .inr rfl) (de_bm PySem.F.plainAttrs_str PySem.F.slot_str_join PySem.F.type_str_join mt_join join_ok de_str (da_cons (de_lc (own := [("line", 4)]) rfl sc__law_end.nd (di_seq (dv 1)) (blkOk_by (N := N__law_end) (sc := defScope S__law_end) (own := [("line", 4)]) (by decide +kernel)) (by decide) (fun _ _ _ _ _ => (dg_name (i := 4) sc__law_end.nd rfl (by first | exact .inl rfl | exact .inr rfl))) (fun _ _ _ _ _ => dts_nil) (fun _ _ _ _ _ => (de_add (dv 4) de_str))) da_nil)))
      (dss_cons (ds_par (i := 5) (j := 6) rfl sc__law_end.nd rfl rfl (by decide) rfl rfl (da_cons (de_strI (by rfl) G.z_str (da_cons (de_call H__law_check hr (by rfl) (pasT (takes_of rfl rfl rfl rfl)) (da_cons (dv 3) da_nil)) da_nil)) (da_cons (de_strI (by rfl) G.z_str (da_cons (de_call H__law_check hr (by rfl) (pasT (takes_of rfl rfl rfl rfl)) (da_cons (de_bm PySem.F.plainAttrs_str PySem.F.slot_str_join PySem.F.type_str_join mt_join join_ok de_str (da_cons (de_lc (own := [("line", 4)]) rfl sc__law_end.nd (di_seq (dv 2)) (blkOk_by (N := N__law_end) (sc := defScope S__law_end) (own := [("line", 4)]) (by decide +kernel)) (by decide) (fun _ _ _ _ _ => (dg_name (i := 4) sc__law_end.nd rfl (by first | exact .inl rfl | exact .inr rfl))) (fun _ _ _ _ _ => dts_nil) (fun _ _ _ _ _ => (de_add (dv 4) de_str))) da_nil)) da_nil)) da_nil)) da_nil)) (by rfl))
      (dss_cons (ds_set (i := 7) sc__law_end.nd rfl (by first | exact .inl rfl | exact .inr rfl) (de_call H__law_draw hr (by rfl) (pasT (takes_of rfl rfl rfl rfl)) (da_cons (dv 0) (da_cons de_int da_nil))))
      (dss_cons (ds_if (dt_cm (cm_lt hu) (nomark _) (dv 7) de_int) (dss_one (ds_ret (de_add (de_add de_str (dv 5)) de_str))) dss_nil)
      (dss_cons (ds_set (i := 8) sc__law_end.nd rfl (by first | exact .inl rfl | exact .inr rfl) (de_lst (da_cons (de_add (de_add de_str (dv 6)) de_str) (da_cons (de_add (de_add de_str (dv 5)) de_str) (da_cons (de_add (de_add de_str (dv 5)) de_str) (da_cons (de_add de_str (dv 5)) (da_cons de_str (da_cons de_str da_nil))))))))
      (dss_cons (ds_expr (de_bm PySem.F.plainAttrs_list PySem.F.slot_list_extend PySem.F.type_list_extend (MtR.or mt_extend mt_extendT) extendA_ok (dv 8) (da_cons (de_lst (da_cons (de_add (de_add de_str (dv 5)) de_str) (da_cons (de_add (de_add de_str (dv 5)) de_str) (da_cons (de_add (de_add de_str (dv 5)) de_str) (da_cons (de_add (de_add de_str (dv 5)) de_str) da_nil))))) da_nil)))
      (dss_cons (ds_expr (de_bm PySem.F.plainAttrs_list PySem.F.slot_list_extend PySem.F.type_list_extend (MtR.or mt_extend mt_extendT) extendA_ok (dv 8) (da_cons (de_lst (da_cons (de_add (de_add de_str (de_strI (by rfl) G.z_str (da_cons (de_add (de_call H__law_check hr (by rfl) (pasT (takes_of rfl rfl rfl rfl)) (da_cons (dv 3) da_nil)) de_int) da_nil))) de_str) (da_cons (de_add (de_add de_str (de_strI (by rfl) G.z_str (da_cons (de_add (de_call H__law_check hr (by rfl) (pasT (takes_of rfl rfl rfl rfl)) (da_cons (dv 3) da_nil)) de_int) da_nil))) de_str) da_nil))) da_nil)))
      (dss_cons (ds_expr (de_bm PySem.F.plainAttrs_list PySem.F.slot_list_extend PySem.F.type_list_extend (MtR.or mt_extend mt_extendT) extendA_ok (dv 8) (da_cons (de_lst (da_cons (de_mulS (de_add (de_add de_str (dv 5)) de_str) de_int) (da_cons (de_add (de_add de_str (dv 5)) de_str) (da_cons (de_add (de_add de_str (dv 5)) de_str) (da_cons de_str da_nil))))) da_nil)))
      (dss_one (ds_ret (de_call H__law_any hr (by rfl) (pasT (takes_of rfl rfl rfl rfl)) (da_cons (dv 0) (da_cons (de_add (dv 8) (de_lst (da_cons (de_add (de_add de_str (dv 5)) de_str) (da_cons (de_add (de_add (de_add de_str (dv 5)) (de_mulS de_str de_int)) de_str) (da_cons (de_add (de_add de_str (dv 5)) de_str) da_nil))))) da_nil))))))))))))), hd⟩
theorem h__law_strange {dsp : DSp} {s_Entry___init__ : DSp} {s__law_draw : DSp} {s__law_any : DSp} (G : Glob K mg) {j_Entry___init__ : Nat} (H_Entry___init__ : HasM P w K mg base j_Entry___init__ 100 "__init__" 6 s_Entry___init__) (hk1_Entry___init__ : j_Entry___init__ + 1 ≤ k) (H__law_draw : Has P w K mg base k "_law_draw" 2 s__law_draw) (H__law_any : Has P w K mg base k "_law_any" 2 s__law_any) (hd : Rd 1 dsp (RD.t__law_strange s_Entry___init__ s__law_draw s__law_any) N__law_strange) : Has P w K mg base (k + 1) "_law_strange" 1 dsp :=
  has_mk G.d__law_strange sc__law_strange rfl fun f cdv A outer s0 H E hr => by
    have hu := hr.units
    have hu1 : _ + 1 < cLine := Nat.lt_of_le_of_lt (Nat.add_le_add_left (by decide : 1 ≤ 64) _) hu
    exact ⟨RD.t__law_strange s_Entry___init__ s__law_draw s__law_any, (dss_cons (ds_set (i := 1) sc__law_strange.nd rfl (by first | exact .inl rfl | exact .inr rfl) de_str)
      (dss_cons (ds_set (i := 2) sc__law_strange.nd rfl (by first | exact .inl rfl | exact .inr rfl) (de_bm PySem.F.plainAttrs_str PySem.F.slot_str_join PySem.F.type_str_join mt_join join_ok de_str (da_cons (de_lc (own := [("k", 3)]) rfl sc__law_strange.nd (di_range1 (by rfl) G.z_range (da_cons (de_call H__law_draw hr (by rfl) (pasT (takes_of rfl rfl rfl rfl)) (da_cons (dv 0) (da_cons de_int da_nil))) da_nil)) (blkOk_by (N := N__law_strange) (sc := defScope S__law_strange) (own := [("k", 3)]) (by decide +kernel)) (by decide) (fun _ _ _ _ _ => (dg_name (i := 3) sc__law_strange.nd rfl (by first | exact .inl rfl | exact .inr rfl))) (fun _ _ _ _ _ => dts_nil) (fun _ _ _ _ _ => (de_ix (dv 1) (de_call H__law_draw hr (by rfl) pas0 (da_cons (dv 0) (da_cons (de_len (by rfl) G.z_len (da_cons (dv 1) da_nil)) da_nil)))))) da_nil)))
      (dss_cons (ds_set (i := 4) sc__law_strange.nd rfl (by first | exact .inl rfl | exact .inr rfl) (de_make G.mk_Entry H_Entry___init__ (hr.mono hk1_Entry___init__) (by rfl) (pasT (takes_of rfl rfl rfl rfl)) (da_cons de_str (da_cons (de_tup (da_cons de_int (da_cons de_int (da_cons de_int da_nil)))) (da_cons (de_tup da_nil) (da_cons (de_tup da_nil) (da_cons (de_tup da_nil) da_nil)))))))
      (dss_one (ds_ret (de_call H__law_any hr (by rfl) (pasT (takes_of rfl rfl rfl rfl)) (da_cons (dv 0) (da_cons (de_lst (da_cons de_non (da_cons de_int (da_cons de_bl (da_cons (de_tup da_nil) (da_cons (de_lst (da_cons de_str da_nil)) (da_cons (de_disp (DPs.cons de_str de_int DPs.nil)) (da_cons (de_tup (da_cons (de_tup (da_cons de_str (da_cons (de_tup (da_cons de_int (da_cons de_int (da_cons de_int da_nil)))) (da_cons (de_tup da_nil) da_nil)))) da_nil)) (da_cons (dv 4) (da_cons (dv 2) (da_cons (dv 2) (da_cons (de_add (dv 2) de_str) da_nil)))))))))))) da_nil)))))))), hd⟩
theorem h_law {dsp : DSp} {s__law_hand : DSp} {s__law_any : DSp} {s__law_installation : DSp} {s__law_line : DSp} {s__law_due : DSp} {s__law_read : DSp} {s__law_bent_lines : DSp} {s__law_end : DSp} {s__law_strange : DSp} {f : Addr} {fd : FuncData} (G : Glob K mg) (F : Fun K "law" "law" S_law f fd) (H__law_hand : Has P w K mg base k "_law_hand" 1 s__law_hand) (H__law_any : Has P w K mg base k "_law_any" 2 s__law_any) (H__law_installation : Has P w K mg base k "_law_installation" 1 s__law_installation) (H__law_line : Has P w K mg base k "_law_line" 1 s__law_line) (H__law_due : Has P w K mg base k "_law_due" 1 s__law_due) (H__law_read : Has P w K mg base k "_law_read" 1 s__law_read) (H__law_bent_lines : Has P w K mg base k "_law_bent_lines" 2 s__law_bent_lines) (H__law_end : Has P w K mg base k "_law_end" 3 s__law_end) (H__law_strange : Has P w K mg base k "_law_strange" 1 s__law_strange) (hd : Rd 1 dsp (RD.t_law_k42 s__law_hand s__law_any s__law_installation s__law_line s__law_due s__law_read s__law_bent_lines s__law_end s__law_strange) N_law) : FnOk P w K mg base (L2.CX P w) (k + 1) f fd ["script"] (liftSp K 1 dsp) :=
  fn_mk F sc_law rfl fun f cdv A outer s0 H E hr => by
    have hu := hr.units
    have hu1 : _ + 1 < cLine := Nat.lt_of_le_of_lt (Nat.add_le_add_left (by decide : 1 ≤ 64) _) hu
    exact ⟨RD.t_law_k42 s__law_hand s__law_any s__law_installation s__law_line s__law_due s__law_read s__law_bent_lines s__law_end s__law_strange, (dss_cons (ds_set (i := 1) sc_law.nd rfl (by first | exact .inl rfl | exact .inr rfl) (de_call H__law_hand hr (by rfl) (pasT (takes_of rfl rfl rfl rfl)) (da_cons (dv 0) da_nil)))
      (dss_cons (ds_for (passes_of rfl) rfl (di_range1 (by rfl) G.z_range (da_cons de_int da_nil)) (dg_name (i := 2) sc_law.nd rfl (by first | exact .inl rfl | exact .inr rfl)) (dss_cons (ds_setLc (i := 3) (own := [("triple", 4)]) rfl sc_law.nd rfl rfl (sw_true rfl rfl rfl (by decide +kernel)) (di_seq (de_slice (de_call H__law_installation hr (by rfl) (pasT (takes_of rfl rfl rfl rfl)) (da_cons (dv 1) da_nil)) do_none (do_some de_int))) (blkOk_by (N := N_law) (sc := defScope S_law) (own := [("triple", 4)]) (by decide +kernel)) (by decide) (fun _ _ _ _ _ => (dg_name (i := 4) sc_law.nd rfl (by first | exact .inl rfl | exact .inr rfl))) (fun _ _ _ _ _ => dts_nil) (fun _ _ _ _ _ => (de_slice (de_call H__law_line hr (by rfl) pas0 (da_cons (dv 4) da_nil)) do_none (do_some (de_neg de_int)))))
      (dss_cons (ds_set (i := 5) sc_law.nd rfl (by first | exact .inl rfl | exact .inr rfl) (dv 3))
      (dss_cons (ds_for (passes_of rfl) rfl (di_range1 (by rfl) G.z_range (da_cons (de_call H__law_any hr (by rfl) (pasT (takes_of rfl rfl rfl rfl)) (da_cons (dv 1) (da_cons (de_lst (da_cons de_int (da_cons de_int (da_cons de_int (da_cons de_int (da_cons de_int (da_cons de_int (da_cons de_int da_nil)))))))) da_nil))) da_nil)) (dg_name (i := 6) sc_law.nd rfl (by first | exact .inl rfl | exact .inr rfl)) (dss_one (ds_set (i := 5) sc_law.nd rfl (by first | exact .inl rfl | exact .inr rfl) (de_call H__law_bent_lines hr (by rfl) (pasT (takes_of rfl rfl rfl rfl)) (da_cons (dv 1) (da_cons (dv 5) da_nil))))))
      (dss_cons (ds_set (i := 7) sc_law.nd rfl (by first | exact .inl rfl | exact .inr rfl) (de_add (de_bm PySem.F.plainAttrs_str PySem.F.slot_str_join PySem.F.type_str_join mt_join join_ok de_str (da_cons (de_lc (own := [("line", 8)]) rfl sc_law.nd (di_seq (dv 5)) (blkOk_by (N := N_law) (sc := defScope S_law) (own := [("line", 8)]) (by decide +kernel)) (by decide) (fun _ _ _ _ _ => (dg_name (i := 8) sc_law.nd rfl (by first | exact .inl rfl | exact .inr rfl))) (fun _ _ _ _ _ => dts_nil) (fun _ _ _ _ _ => (de_add (dv 8) de_str))) da_nil)) (de_call H__law_end hr (by rfl) (pasT (takes_of rfl rfl rfl rfl)) (da_cons (dv 1) (da_cons (dv 5) (da_cons (dv 3) da_nil))))))
      (dss_cons (ds_if (dt_cm (cm_ne hu) (nomark _) (de_call H__law_read hr (by rfl) (pasT (takes_of rfl rfl rfl rfl)) (da_cons (dv 7) da_nil)) (de_call H__law_due hr (by rfl) (pasT (takes_of rfl rfl rfl rfl)) (da_cons (dv 7) da_nil))) (dss_one (ds_ret de_bl)) dss_nil)
      (dss_cons (ds_set (i := 9) sc_law.nd rfl (by first | exact .inl rfl | exact .inr rfl) (de_call H__law_strange hr (by rfl) (pasT (takes_of rfl rfl rfl rfl)) (da_cons (dv 1) da_nil)))
      (dss_one (ds_if (dt_cm (cm_ne hu) (nomark _) (de_call H__law_read hr (by rfl) (pasT (takes_of rfl rfl rfl rfl)) (da_cons (dv 9) da_nil)) (de_if (dt_tru (de_isiI (ms := [100]) (all_cons ⟨G.cl_Entry, G.ks_Entry⟩ (fun _ h => nomatch h)) (by rfl) G.z_isinstance (dv 9) (pe_ty (by rfl) G.z_str PyProof.Rows.boot_str))) (de_call H__law_due hr (by rfl) (pasT (takes_of rfl rfl rfl rfl)) (da_cons (dv 9) da_nil)) (de_tup (da_cons de_str (da_cons de_int da_nil))))) (dss_one (ds_ret de_bl)) dss_nil)))))))))
      (dss_one (ds_ret de_bl)))), hd⟩
theorem h_Entry___init__ {dsp : DSp} {s_wrong_part : DSp} (G : Glob K mg) (H_wrong_part : Has P w K mg base k "wrong_part" 5 s_wrong_part) (E_BadEntry : Er1 P w K mg base 2 "BadEntry" "part") (hk : 2 ≤ k) (hd : Rd 6 dsp (RD.t_Entry___init__ s_wrong_part) N_Entry___init__) : HasM P w K mg base (k + 1) 100 "__init__" 6 dsp :=
  has_mkM G.m_Entry___init__ sc_Entry___init__ rfl fun f cdv A outer s0 H E hr => by
    have hu := hr.units
    have hu1 : _ + 1 < cLine := Nat.lt_of_le_of_lt (Nat.add_le_add_left (by decide : 1 ≤ 64) _) hu
    exact ⟨RD.t_Entry___init__ s_wrong_part, (dss_cons (ds_set (i := 6) sc_Entry___init__.nd rfl (by first | exact .inl rfl | exact .inr rfl) (de_call H_wrong_part hr (by rfl) (pasT (takes_of rfl rfl rfl rfl)) (da_cons (dv 1) (da_cons (dv 2) (da_cons (dv 3) (da_cons (dv 4) (da_cons (dv 5) da_nil)))))))
      (dss_cons (ds_if (dt_cm cm_isnot (nomark _) (dv 6) de_non) (dss_one (ds_raise1 rfl (takes_of rfl rfl rfl rfl) E_BadEntry hr hk (by rfl) (dv 6))) dss_nil)
      (dss_cons (ds_setF (ms := [100]) (all_cons ⟨G.cl_Entry, G.na_Entry_name⟩ (fun _ h => nomatch h)) (dv 0) (dv 1))
      (dss_cons (ds_setF (ms := [100]) (all_cons ⟨G.cl_Entry, G.na_Entry_version⟩ (fun _ h => nomatch h)) (dv 0) (dv 2))
      (dss_cons (ds_setF (ms := [100]) (all_cons ⟨G.cl_Entry, G.na_Entry_features⟩ (fun _ h => nomatch h)) (dv 0) (dv 3))
      (dss_cons (ds_setF (ms := [100]) (all_cons ⟨G.cl_Entry, G.na_Entry_needs⟩ (fun _ h => nomatch h)) (dv 0) (dv 4))
      (dss_one (ds_setF (ms := [100]) (all_cons ⟨G.cl_Entry, G.na_Entry_bars⟩ (fun _ h => nomatch h)) (dv 0) (dv 5))))))))), hd⟩
theorem h_Entry___eq__ {dsp : DSp} (G : Glob K mg) (hd : Rd 2 dsp (RD.t_Entry___eq___k42) N_Entry___eq__) : HasM P w K mg base (k + 1) 100 "__eq__" 2 dsp :=
  has_mkM G.m_Entry___eq__ sc_Entry___eq__ rfl fun f cdv A outer s0 H E hr => by
    have hu := hr.units
    have hu1 : _ + 1 < cLine := Nat.lt_of_le_of_lt (Nat.add_le_add_left (by decide : 1 ≤ 64) _) hu
    exact ⟨RD.t_Entry___eq___k42, (dss_one (ds_ret (de_and (de_isC (ms := [100]) G.kb_Entry (all_cons ⟨G.cl_Entry, G.ko_Entry_Entry⟩ (fun _ h => nomatch h)) (by rfl) G.z_isinstance (by rfl) G.g_Entry (dv 1)) (de_and (de_cm (cm_eq hu) (nomark _) (de_fld (ms := [100]) (all_cons ⟨G.cl_Entry, G.na_Entry_name⟩ (fun _ h => nomatch h)) (dv 0)) (de_fld (ms := [100]) (all_cons ⟨G.cl_Entry, G.na_Entry_name⟩ (fun _ h => nomatch h)) (dv 1))) (de_and (de_cm (cm_eq hu) (nomark _) (de_fld (ms := [100]) (all_cons ⟨G.cl_Entry, G.na_Entry_version⟩ (fun _ h => nomatch h)) (dv 0)) (de_fld (ms := [100]) (all_cons ⟨G.cl_Entry, G.na_Entry_version⟩ (fun _ h => nomatch h)) (dv 1))) (de_and (de_cm (cm_eq hu) (nomark _) (de_fld (ms := [100]) (all_cons ⟨G.cl_Entry, G.na_Entry_features⟩ (fun _ h => nomatch h)) (dv 0)) (de_fld (ms := [100]) (all_cons ⟨G.cl_Entry, G.na_Entry_features⟩ (fun _ h => nomatch h)) (dv 1))) (de_and (de_cm (cm_eq hu) (nomark _) (de_fld (ms := [100]) (all_cons ⟨G.cl_Entry, G.na_Entry_needs⟩ (fun _ h => nomatch h)) (dv 0)) (de_fld (ms := [100]) (all_cons ⟨G.cl_Entry, G.na_Entry_needs⟩ (fun _ h => nomatch h)) (dv 1))) (de_one (de_cm (cm_eq hu) (nomark _) (de_fld (ms := [100]) (all_cons ⟨G.cl_Entry, G.na_Entry_bars⟩ (fun _ h => nomatch h)) (dv 0)) (de_fld (ms := [100]) (all_cons ⟨G.cl_Entry, G.na_Entry_bars⟩ (fun _ h => nomatch h)) (dv 1))))))))))), hd⟩
end
end Lk42
namespace CM
open PySem L2 PySem.Spec DL
open PyProof.Rows hiding St
mutual
def pu : D → Bool
  | .non => true
  | .int _ => true
  | .str x => PyData.strOk x
  | .tup ds => pus ds
  | _ => false
def pus : List D → Bool
  | [] => true
  | d :: ds => pu d && pus ds
end
mutual
def dp : D → Nat
  | .tup ds => dps ds + 1
  | _ => 0
def dps : List D → Nat
  | [] => 0
  | d :: ds => max (dp d) (dps ds)
end
mutual
def pd : D → PyData
  | .int i => .int i
  | .str x => .str x
  | .bl b => .bool b
  | .tup ds => .tuple (pds ds)
  | _ => .none
def pds : List D → List PyData
  | [] => []
  | d :: ds => pd d :: pds ds
end
mutual
theorem pd_depth : ∀ d, (pd d).depth = dp d
  | .non => by simp [pd, dp, PyData.depth]
  | .bl _ => by simp [pd, dp, PyData.depth]
  | .int _ => by simp [pd, dp, PyData.depth]
  | .str _ => by simp [pd, dp, PyData.depth]
  | .fls _ => by simp [pd, dp, PyData.depth]
  | .loc _ => by simp [pd, dp, PyData.depth]
  | .adr _ => by simp [pd, dp, PyData.depth]
  | .ty _ => by simp [pd, dp, PyData.depth]
  | .tup ds => by simp [pd, dp, PyData.depth, pds_depth ds]
theorem pds_depth : ∀ ds, PyData.depthAll (pds ds) = dps ds
  | [] => by simp [pds, dps, PyData.depthAll]
  | d :: ds => by simp [pds, dps, PyData.depthAll, pd_depth d, pds_depth ds]
end
mutual
theorem pd_lay : ∀ d, pu d = true → (pd d).canLay0 = true
  | .non, _ => by simp [pd, PyData.canLay0]
  | .int _, _ => by simp [pd, PyData.canLay0]
  | .str x, h => by simpa [pd, PyData.canLay0, pu] using h
  | .tup ds, h => by simpa [pd, PyData.canLay0] using pds_lay ds (by simpa [pu] using h)
  | .bl _, h => by simp [pu] at h
  | .fls _, h => by simp [pu] at h
  | .loc _, h => by simp [pu] at h
  | .adr _, h => by simp [pu] at h
  | .ty _, h => by simp [pu] at h
theorem pds_lay : ∀ ds, pus ds = true → PyData.canLayAll0 (pds ds) = true
  | [], _ => by simp [pds, PyData.canLayAll0]
  | d :: ds, h => by
    simp only [pus, Bool.and_eq_true] at h
    simp [pds, PyData.canLayAll0, pd_lay d h.1, pds_lay ds h.2]
end
theorem shaped_pd {d : D} (h : pu d = true) (hd : dp d ≤ 60) : SeqAt.shaped (pd d) = true := by
  unfold SeqAt.shaped
  rw [pd_lay d h, pd_depth d]
  simp
  omega
theorem mapM_pds {st : Sto} {n : Nat} (ih : ∀ d, pu d = true → dp d ≤ n → pdF st n d = some (pd d)) : ∀ ds : List D, pus ds = true → dps ds ≤ n → ds.mapM (pdF st n) = some (pds ds)
  | [], _, _ => rfl
  | d :: ds, h, hd => by
    simp only [pus, Bool.and_eq_true] at h
    simp only [dps] at hd
    rw [List.mapM_cons, ih d h.1 (by omega), mapM_pds ih ds h.2 (by omega)]
    rfl
theorem pdF_pd (st : Sto) : ∀ (n : Nat) (d : D), pu d = true → dp d ≤ n → pdF st n d = some (pd d) := by
  intro n
  induction n with
  | zero =>
    intro d h hd
    cases d <;> simp [pu, dp] at h hd <;> simp [pdF, pd]
  | succ n ih =>
    intro d h hd
    cases d <;> simp [pu, dp] at h hd <;> try simp [pdF, pd]
    rename_i ds
    rw [mapM_pds ih ds h (by omega)]
mutual
theorem eqv_pd : ∀ x y : D, pu x = true → pu y = true → (PyData.eqv (pd x) (pd y) = true ↔ x = y)
  | .non, y, _, hy => by cases y <;> simp [pu] at hy <;> simp [pd, PyData.eqv]
  | .int i, y, _, hy => by cases y <;> simp [pu] at hy <;> simp [pd, PyData.eqv]
  | .str x, y, _, hy => by cases y <;> simp [pu] at hy <;> simp [pd, PyData.eqv]
  | .tup ds, y, hx, hy => by
    cases y <;> simp [pu] at hx hy <;> simp [pd, PyData.eqv]
    exact eqv_pds ds _ hx hy
  | .bl _, _, h, _ => by simp [pu] at h
  | .fls _, _, h, _ => by simp [pu] at h
  | .loc _, _, h, _ => by simp [pu] at h
  | .adr _, _, h, _ => by simp [pu] at h
  | .ty _, _, h, _ => by simp [pu] at h
theorem eqv_pds : ∀ xs ys : List D, pus xs = true → pus ys = true → (PyData.eqvAll (pds xs) (pds ys) = true ↔ xs = ys)
  | [], [], _, _ => by simp [pds, PyData.eqvAll]
  | [], y :: ys, _, _ => by simp [pds, PyData.eqvAll]
  | x :: xs, [], _, _ => by simp [pds, PyData.eqvAll]
  | x :: xs, y :: ys, hx, hy => by
    simp only [pus, Bool.and_eq_true] at hx hy
    simp only [pds, PyData.eqvAll, Bool.and_eq_true, eqv_pd x y hx.1 hy.1, eqv_pds xs ys hx.2 hy.2, List.cons.injEq]
end
/-- == of plain data -/
theorem eq_plain {f : Bool → Bool} {x y : D} {st : Sto} {Q : DK} {b : Bool} (hx : pu x = true) (hy : pu y = true) (dx : dp x ≤ 60) (dy : dp y ≤ 60) (hb : b = true ↔ x = y) (q : Q (.bl (f b)) st) : dEqB f x y st Q := by
  unfold dEqB
  split
  · rename_i b' e
    have : b' = b := by
      cases x <;> cases y <;> simp [atomEq] at e <;> cases b <;> simp_all
    rw [this]; exact q
  · refine ⟨60, pd x, pd y, pdF_pd st 60 x hx dx, pdF_pd st 60 y hy dy, shaped_pd hx dx, shaped_pd hy dy, ?_⟩
    have : PyData.eqv (pd x) (pd y) = b := by
      have h := eqv_pd x y hx hy
      cases b <;> cases e : PyData.eqv (pd x) (pd y) <;> simp_all
    rw [this]; exact q
def vA (n : Nat) : Nat := n / 1000001 / 1000001
def vB (n : Nat) : Nat := n / 1000001 % 1000001
def vC (n : Nat) : Nat := n % 1000001
def mkV (a b c : Nat) : Nat := (a * 1000001 + b) * 1000001 + c
def vI (n : Nat) : List Int := [(vA n : Int), (vB n : Int), (vC n : Int)]
def encV (n : Nat) : D := .tup [.int (vA n), .int (vB n), .int (vC n)]
theorem mkV_eq (n : Nat) : mkV (vA n) (vB n) (vC n) = n := by unfold mkV vA vB vC; omega
theorem vA_mk {a b c : Nat} (hb : b < 1000001) (hc : c < 1000001) : vA (mkV a b c) = a := by unfold mkV vA; omega
theorem vB_mk {a b c : Nat} (hb : b < 1000001) (hc : c < 1000001) : vB (mkV a b c) = b := by unfold mkV vB; omega
theorem vC_mk {a b c : Nat} (hc : c < 1000001) : vC (mkV a b c) = c := by unfold mkV vC; omega
theorem vI_lt (m n : Nat) : vI m < vI n ↔ m < n := by
  unfold vI
  simp only [List.cons_lt_cons_iff, List.not_lt_nil, and_false, or_false]
  unfold vA vB vC
  omega
theorem vI_inj {m n : Nat} : vI m = vI n ↔ m = n := by
  constructor
  · intro h
    unfold vI at h
    simp only [List.cons.injEq, and_true] at h
    obtain ⟨h1, h2, h3⟩ := h
    rw [← mkV_eq m, ← mkV_eq n, Int.ofNat_inj.mp h1, Int.ofNat_inj.mp h2, Int.ofNat_inj.mp h3]
  · intro h; rw [h]
theorem encV_inj {m n : Nat} : encV m = encV n ↔ m = n := by
  rw [← vI_inj]
  unfold encV vI
  simp
theorem pu_encV (n : Nat) : pu (encV n) = true := by simp [encV, pu, pus]
theorem dp_encV (n : Nat) : dp (encV n) = 1 := by simp [encV, dp, dps]
theorem pd_encV (n : Nat) : pd (encV n) = .tuple ((vI n).map .int) := by simp [encV, pd, pds, vI]
theorem dataLt_encV (m n : Nat) : PySem.W.dataLt (pd (encV m)) (pd (encV n)) = decide (m < n) := by
  rw [pd_encV, pd_encV, PySem.W.dataLt_tuple]
  refine (PySem.W.dataLt_ints (vI m) (vI n)).trans ?_
  simp only [vI_lt]
theorem alike_encV (m n : Nat) : PySem.W.alike (pd (encV m)) (pd (encV n)) = true := by
  rw [pd_encV, pd_encV]
  simp [vI, PySem.W.alike, PySem.W.alikeAll]
section
variable {st : Sto} {Q : DK} {m n : Nat}
theorem pdF_encV (k : Nat) : pdF st k (encV n) = if k = 0 then none else some (pd (encV n)) := by
  cases k with
  | zero => rfl
  | succ k => rw [if_neg (Nat.succ_ne_zero k)]; exact pdF_pd st (k + 1) _ (pu_encV n) (by rw [dp_encV]; omega)
theorem ord_encV {f : Int → Int → Bool} {g : PyData → PyData → Bool} : dOrd f g (encV m) (encV n) st Q = Q (.bl (g (pd (encV m)) (pd (encV n)))) st := by
  show (∃ k d e, pdF st k (encV m) = some d ∧ pdF st k (encV n) = some e ∧ PySem.W.alike d e = true ∧ d ≠ .none ∧ d.depth ≤ 64 ∧ Q (.bl (g d e)) st) = _
  apply propext
  constructor
  · rintro ⟨k, d, e, h1, h2, _, _, _, q⟩
    rw [pdF_encV] at h1 h2
    split at h1
    · cases h1
    · rename_i hk
      rw [if_neg hk] at h2
      cases h1
      cases h2
      exact q
  · intro q
    refine ⟨1, _, _, pdF_encV 1, pdF_encV 1, alike_encV m n, ?_, ?_, q⟩
    · rw [pd_encV]; simp
    · rw [pd_depth, dp_encV]; decide
@[simp] theorem lt_encV : dLt (encV m) (encV n) st Q = Q (.bl (decide (m < n))) st := by rw [dLt, ord_encV, dataLt_encV]
@[simp] theorem gt_encV : dGt (encV m) (encV n) st Q = Q (.bl (decide (n < m))) st := by rw [dGt, ord_encV, dataLt_encV]
@[simp] theorem le_encV : dLe (encV m) (encV n) st Q = Q (.bl (decide (m ≤ n))) st := by
  rw [dLe, ord_encV, dataLt_encV]
  have : (!decide (n < m)) = decide (m ≤ n) := by
    by_cases h : n < m
    · simp [h]
    · simp [h]; omega
  rw [this]
end
@[simp] theorem isNon_encV {n : Nat} : isNonD (encV n) = false := rfl
def encO : Option Nat → D
  | none => .non
  | some n => encV n
abbrev Rng := List (Nat × Option Nat)
def encP (p : Nat × Option Nat) : D := .tup [encV p.1, encO p.2]
def encR (r : Rng) : D := .tup (r.map encP)
@[simp] theorem isNon_encO {o : Option Nat} : isNonD (encO o) = o.isNone := by cases o <;> rfl
theorem encO_inj {a b : Option Nat} : encO a = encO b ↔ a = b := by
  cases a <;> cases b <;> simp [encO, encV_inj] <;> simp [encV]
theorem encP_inj {p q : Nat × Option Nat} : encP p = encP q ↔ p = q := by
  obtain ⟨a, b⟩ := p
  obtain ⟨c, d⟩ := q
  simp [encP, encV_inj, encO_inj]
theorem encR_inj {r s : Rng} : encR r = encR s ↔ r = s := by
  unfold encR
  simp only [D.tup.injEq]
  constructor
  · intro h
    exact (List.map_inj_right fun _ _ h => encP_inj.mp h).mp h
  · intro h; rw [h]
end CM
namespace CM
open PySem L2 PySem.Spec DL
open PyProof.Rows hiding St
mutual
def ok (st : Sto) : D → Prop
  | .tup ds => oks st ds
  | .loc n => (∃ es, st[n]? = some (.lst es)) ∨ ∃ es, st[n]? = some (.dK es)
  | .adr _ => False
  | .ty _ => False
  | _ => True
def oks (st : Sto) : List D → Prop
  | [] => True
  | d :: ds => ok st d ∧ oks st ds
end
theorem oks_iff {st : Sto} : ∀ {ds : List D}, oks st ds ↔ ∀ d ∈ ds, ok st d
  | [] => by simp [oks]
  | d :: ds => by simp [oks, oks_iff (ds := ds)]
theorem ok_cases {st : Sto} {d : D} (h : ok st d) : d = .non ∨ (∃ b, d = .bl b) ∨ (∃ i, d = .int i) ∨ (∃ x, d = .str x) ∨ (∃ ds, d = .tup ds ∧ oks st ds) ∨ (∃ ds, d = .fls ds) ∨ (∃ n es, d = .loc n ∧ st[n]? = some (.lst es)) ∨ ∃ n es, d = .loc n ∧ st[n]? = some (.dK es) := by
  cases d <;> simp [ok] at h ⊢
  · exact h
  · exact h
/-- lists stay lists, dicts stay dicts -/
structure Kin (st st' : Sto) : Prop where
  lst : ∀ (n : Nat) es, st[n]? = some (.lst es) → ∃ es', st'[n]? = some (.lst es')
  dK : ∀ (n : Nat) es, st[n]? = some (.dK es) → ∃ es', st'[n]? = some (.dK es')
theorem Kin.app (st g : Sto) : Kin st (st ++ g) :=
  ⟨fun n es h => ⟨es, by rw [List.getElem?_append_left (List.getElem?_eq_some_iff.mp h).1]; exact h⟩, fun n es h => ⟨es, by rw [List.getElem?_append_left (List.getElem?_eq_some_iff.mp h).1]; exact h⟩⟩
theorem Kin.trans {st st1 st2 : Sto} (a : Kin st st1) (b : Kin st1 st2) : Kin st st2 :=
  ⟨fun n es h => let ⟨_, h1⟩ := a.lst n es h; b.lst n _ h1, fun n es h => let ⟨_, h1⟩ := a.dK n es h; b.dK n _ h1⟩
mutual
theorem ok_mono {st st' : Sto} (h : Kin st st') : ∀ {d : D}, ok st d → ok st' d
  | .tup ds, hd => by simp only [ok] at hd ⊢; exact oks_mono h hd
  | .loc n, hd => by
    simp only [ok] at hd ⊢
    rcases hd with ⟨es, e⟩ | ⟨es, e⟩
    · exact .inl (h.lst n es e)
    · exact .inr (h.dK n es e)
  | .non, _ => by simp [ok]
  | .bl _, _ => by simp [ok]
  | .int _, _ => by simp [ok]
  | .str _, _ => by simp [ok]
  | .fls _, _ => by simp [ok]
  | .adr _, hd => by simp [ok] at hd
  | .ty _, hd => by simp [ok] at hd
theorem oks_mono {st st' : Sto} (h : Kin st st') : ∀ {ds : List D}, oks st ds → oks st' ds
  | [], _ => by simp [oks]
  | d :: ds, hd => by
    simp only [oks] at hd ⊢
    exact ⟨ok_mono h hd.1, oks_mono h hd.2⟩
end
def numOf : D → Option Nat
  | .int i => if 0 ≤ i then some i.toNat else none
  | _ => none
def numMost (most : Nat) (d : D) : Option Nat := match numOf d with
  | some n => if n ≤ most then some n else none
  | none => none
def verM (most : Nat) : D → Option Nat
  | .tup [a, b, c] => match numMost most a, numMost most b, numMost most c with
    | some x, some y, some z => some (mkV x y z)
    | _, _, _ => none
  | _ => none
def intIs : D → Bool
  | .int _ => true
  | _ => false
def sp_is_integer : DSp := fun ds st Q _ => match ds with
  | [d] => ok st d ∧ Q (.bl (intIs d)) st
  | _ => False
def sp_is_number : DSp := fun ds st Q _ => match ds with
  | [d] => ok st d ∧ Q (.bl (numOf d).isSome) st
  | _ => False
def lenIs (i : Int) : D → Bool
  | .tup es => decide ((es.length : Int) = i)
  | _ => false
def sp_is_tuple_of : DSp := fun ds st Q _ => match ds with
  | [.int i, d] => ok st d ∧ Q (.bl (lenIs i d)) st
  | _ => False
def sp_is_version : DSp := fun ds st Q _ => match ds with
  | [d] => ok st d ∧ Q (.bl (verM 1000000 d).isSome) st
  | _ => False
section
variable {st : Sto} {Q : DK} {Z : DX → Sto → Prop} {d : D} {i : Int} {ds : List D}
@[simp] theorem e_is_integer : sp_is_integer [d] st Q Z = (ok st d ∧ Q (.bl (intIs d)) st) := rfl
@[simp] theorem e_is_number : sp_is_number [d] st Q Z = (ok st d ∧ Q (.bl (numOf d).isSome) st) := rfl
@[simp] theorem e_is_tuple_of : sp_is_tuple_of [.int i, d] st Q Z = (ok st d ∧ Q (.bl (lenIs i d)) st) := rfl
@[simp] theorem e_is_version : sp_is_version [d] st Q Z = (ok st d ∧ Q (.bl (verM 1000000 d).isSome) st) := rfl
@[simp] theorem lenIs_tup : lenIs i (.tup ds) = decide ((ds.length : Int) = i) := rfl
@[simp] theorem lenIs_non : lenIs i .non = false := rfl
@[simp] theorem lenIs_bl {b : Bool} : lenIs i (.bl b) = false := rfl
@[simp] theorem lenIs_int {b : Int} : lenIs i (.int b) = false := rfl
@[simp] theorem lenIs_str {b : Str} : lenIs i (.str b) = false := rfl
@[simp] theorem lenIs_fls : lenIs i (.fls ds) = false := rfl
@[simp] theorem lenIs_loc {n : Nat} : lenIs i (.loc n) = false := rfl
@[simp] theorem ok_non : ok st .non = True := rfl
@[simp] theorem ok_bl {b : Bool} : ok st (.bl b) = True := rfl
@[simp] theorem ok_int {b : Int} : ok st (.int b) = True := rfl
@[simp] theorem ok_str {b : Str} : ok st (.str b) = True := rfl
@[simp] theorem ok_fls : ok st (.fls ds) = True := rfl
@[simp] theorem ok_tup : ok st (.tup ds) = oks st ds := rfl
@[simp] theorem oks_nil : oks st [] = True := rfl
@[simp] theorem oks_cons : oks st (d :: ds) = (ok st d ∧ oks st ds) := rfl
end
theorem r_is_integer : Rd 1 sp_is_integer RD.t_is_integer RD.N_is_integer := by
  intro ds st Q Z hl h
  match ds, hl with
  | [d], _ =>
    obtain ⟨ht, q⟩ := h
    unfold RD.t_is_integer
    rcases ok_cases ht with rfl | ⟨b, rfl⟩ | ⟨i, rfl⟩ | ⟨s, rfl⟩ | ⟨ds, rfl, _⟩ | ⟨ds, rfl⟩ | ⟨n, es, rfl, e⟩ | ⟨n, es, rfl, e⟩ <;> simp [tySub, *, tyN] <;> exact .inl q
theorem r_is_number : Rd 1 sp_is_number (RD.t_is_number sp_is_integer) RD.N_is_number := by
  intro ds st Q Z hl h
  match ds, hl with
  | [d], _ =>
    obtain ⟨ht, q⟩ := h
    unfold RD.t_is_number
    rcases ok_cases ht with rfl | ⟨b, rfl⟩ | ⟨i, rfl⟩ | ⟨s, rfl⟩ | ⟨ds, rfl, ho⟩ | ⟨ds, rfl⟩ | ⟨n, es, rfl, e⟩ | ⟨n, es, rfl, e⟩
    case inr.inr.inl =>
      simp [intIs]
      refine .inl ?_
      have : (numOf (.int i)).isSome = decide (0 ≤ i) := by
        unfold numOf
        by_cases hi : 0 ≤ i <;> simp [hi]
      rw [this] at q
      exact q
    all_goals simp [intIs, ht]; exact .inl q
theorem r_is_tuple_of : Rd 2 sp_is_tuple_of RD.t_is_tuple_of RD.N_is_tuple_of := by
  intro ds st Q Z hl h
  match ds, hl, h with
  | [.int i, d], _, h =>
    obtain ⟨ht, q⟩ := h
    unfold RD.t_is_tuple_of
    rcases ok_cases ht with rfl | ⟨b, rfl⟩ | ⟨i, rfl⟩ | ⟨s, rfl⟩ | ⟨ds, rfl, _⟩ | ⟨ds, rfl⟩ | ⟨n, es, rfl, e⟩ | ⟨n, es, rfl, e⟩ <;> simp [tySub, *, tyN] <;> exact .inl q
theorem verM_len {most : Nat} {ds : List D} (h : ds.length ≠ 3) : verM most (.tup ds) = none := by
  match ds, h with
  | [], _ => rfl
  | [_], _ => rfl
  | [_, _], _ => rfl
  | [_, _, _], h => exact absurd rfl h
  | _ :: _ :: _ :: _ :: _, _ => rfl
theorem num_some {d : D} {n : Nat} (h : numOf d = some n) : d = .int n := by
  unfold numOf at h
  split at h
  · rename_i i
    split at h
    · cases h
      rw [Int.toNat_of_nonneg (by assumption)]
    · cases h
  · cases h
theorem num_int {n : Nat} : numOf (.int n) = some n := by
  unfold numOf
  simp
theorem most_some {d : D} {most n : Nat} (h : numMost most d = some n) : d = .int n ∧ n ≤ most := by
  unfold numMost at h
  split at h
  · rename_i m e
    split at h
    · cases h
      exact ⟨num_some e, by assumption⟩
    · cases h
  · cases h
theorem most_int {n most : Nat} (h : n ≤ most) : numMost most (.int n) = some n := by
  unfold numMost
  rw [num_int]
  simp [h]
theorem r_is_version : Rd 1 sp_is_version (RD.t_is_version sp_is_number sp_is_tuple_of) RD.N_is_version := by
  intro ds st Q Z hl h
  match ds, hl with
  | [d], _ =>
    obtain ⟨ht, q⟩ := h
    unfold RD.t_is_version
    rcases ok_cases ht with rfl | ⟨b, rfl⟩ | ⟨i, rfl⟩ | ⟨s, rfl⟩ | ⟨ds, rfl, ho⟩ | ⟨ds, rfl⟩ | ⟨n, es, rfl, e⟩ | ⟨n, es, rfl, e⟩
    case inr.inr.inr.inr.inl =>
      by_cases hl : ds.length = 3
      · match ds, hl with
        | [a, b, c], _ =>
          simp [ht, runG_nil, runG_cons, RD.b_is_version_1] at ho q ⊢
          have hv : ∀ (h : numMost 1000000 a = none ∨ numMost 1000000 b = none ∨ numMost 1000000 c = none), DL.Back st Q (.bl false) st := fun h => by
            have e : (verM 1000000 (.tup [a, b, c])).isSome = false := by
              unfold verM
              rcases h with h | h | h <;> simp only [h]
              · rfl
              · cases numMost 1000000 a <;> rfl
              · cases numMost 1000000 a <;> cases numMost 1000000 b <;> rfl
            rw [e] at q
            exact .inl q
          have big : ∀ {n : Nat}, ¬ n ≤ 1000000 → numMost 1000000 (.int n) = none := fun h => by unfold numMost; rw [num_int]; simp [h]
          have nn : ∀ {x : D}, numOf x = none → numMost 1000000 x = none := fun h => by unfold numMost; rw [h]
          refine ⟨ho.1, ?_⟩
          cases e1 : numOf a with
          | none => simp; exact hv (.inl (nn e1))
          | some x =>
            obtain rfl := num_some e1
            by_cases h1 : x ≤ 1000000
            · have h1' : ¬ (1000000 : Int) < x := by omega
              simp [h1']
              refine ⟨ho.2.1, ?_⟩
              cases e2 : numOf b with
              | none => simp; exact hv (.inr (.inl (nn e2)))
              | some y =>
                obtain rfl := num_some e2
                by_cases h2 : y ≤ 1000000
                · have h2' : ¬ (1000000 : Int) < y := by omega
                  simp [h2']
                  refine ⟨ho.2.2, ?_⟩
                  cases e3 : numOf c with
                  | none => simp; exact hv (.inr (.inr (nn e3)))
                  | some z =>
                    obtain rfl := num_some e3
                    by_cases h3 : z ≤ 1000000
                    · have h3' : ¬ (1000000 : Int) < z := by omega
                      simp [h3']
                      have e : (verM 1000000 (.tup [.int (x : Int), .int (y : Int), .int (z : Int)])).isSome = true := by
                        simp only [verM, most_int h1, most_int h2, most_int h3, Option.isSome_some]
                      rw [e] at q
                      exact .inl q
                    · have h3' : (1000000 : Int) < z := by omega
                      simp [h3']
                      exact hv (.inr (.inr (big h3)))
                · have h2' : (1000000 : Int) < y := by omega
                  simp [h2']
                  exact hv (.inr (.inl (big h2)))
            · have h1' : (1000000 : Int) < x := by omega
              simp [h1']
              exact hv (.inl (big h1))
      · have h3 : ¬ ((ds.length : Int) = 3) := by omega
        simp [ho, verM_len hl, h3] at q ⊢
        exact .inl q
    all_goals
      simp [*]
      exact .inl q
end CM
namespace CM
open PySem L2 PySem.Spec DL
open PyProof.Rows hiding St
theorem verM_some {most n : Nat} {d : D} (hm : most ≤ 1000000) (h : verM most d = some n) : d = encV n ∧ vA n ≤ most ∧ vB n ≤ most ∧ vC n ≤ most := by
  unfold verM at h
  split at h
  · rename_i a b c
    split at h
    · rename_i x y z e1 e2 e3
      cases h
      obtain ⟨rfl, h1⟩ := most_some e1
      obtain ⟨rfl, h2⟩ := most_some e2
      obtain ⟨rfl, h3⟩ := most_some e3
      unfold encV
      rw [vA_mk (by omega) (by omega), vB_mk (by omega) (by omega), vC_mk (by omega)]
      exact ⟨rfl, h1, h2, h3⟩
    · cases h
  · cases h
theorem verM_enc {most n : Nat} (h1 : vA n ≤ most) (h2 : vB n ≤ most) (h3 : vC n ≤ most) : verM most (encV n) = some n := by
  unfold verM encV
  simp only [most_int h1, most_int h2, most_int h3, mkV_eq]
/-- versions as they may stand -/
def okV (n : Nat) : Prop := vA n ≤ 1000000
theorem vB_le (n : Nat) : vB n ≤ 1000000 := by unfold vB; omega
theorem vC_le (n : Nat) : vC n ≤ 1000000 := by unfold vC; omega
theorem ver_enc {n : Nat} (h : okV n) : verM 1000000 (encV n) = some n := verM_enc h (vB_le n) (vC_le n)
theorem ver_some {n : Nat} {d : D} (h : verM 1000000 d = some n) : d = encV n ∧ okV n := let ⟨a, b, _⟩ := verM_some (Nat.le_refl _) h; ⟨a, b⟩
/-- a pair of a range -/
def endOf : D → Option (Option Nat)
  | .non => some none
  | d => match verM 1000000 d with | some x => some (some x) | none => none
def pairOf : D → Option (Nat × Option Nat)
  | .tup [a, b] => match verM 1000000 a, endOf b with
    | some l, some none => some (l, none)
    | some l, some (some h) => if l < h then some (l, some h) else none
    | _, _ => none
  | _ => none
theorem pairOf_len {ds : List D} (h : ds.length ≠ 2) : pairOf (.tup ds) = none := by
  match ds, h with
  | [], _ => rfl
  | [_], _ => rfl
  | [_, _], h => exact absurd rfl h
  | _ :: _ :: _ :: _, _ => rfl
theorem endOf_some {d : D} {o : Option Nat} (h : endOf d = some o) : d = encO o ∧ ∀ x, o = some x → okV x := by
  unfold endOf at h
  split at h
  · cases h
    exact ⟨rfl, fun _ e => by cases e⟩
  · split at h
    · rename_i x e
      cases h
      obtain ⟨h1, h2⟩ := ver_some e
      exact ⟨h1, fun _ e => by cases e; exact h2⟩
    · cases h
def okP (p : Nat × Option Nat) : Prop := okV p.1 ∧ ∀ x, p.2 = some x → okV x ∧ p.1 < x
theorem pairOf_some {d : D} {p : Nat × Option Nat} (h : pairOf d = some p) : d = encP p ∧ okP p := by
  unfold pairOf at h
  split at h
  · rename_i a b
    split at h
    · rename_i l e1 e2
      cases h
      obtain ⟨rfl, h1⟩ := ver_some e1
      obtain ⟨rfl, h2⟩ := endOf_some e2
      exact ⟨rfl, h1, fun _ e => by cases e⟩
    · rename_i l x e1 e2
      split at h
      · cases h
        obtain ⟨rfl, h1⟩ := ver_some e1
        obtain ⟨rfl, h2⟩ := endOf_some e2
        exact ⟨rfl, h1, fun _ e => by cases e; exact ⟨h2 _ rfl, by assumption⟩⟩
      · cases h
    · cases h
  · cases h
theorem endOf_enc {o : Option Nat} (h : ∀ x, o = some x → okV x) : endOf (encO o) = some o := by
  cases o with
  | none => rfl
  | some x =>
    have e := ver_enc (h x rfl)
    unfold endOf
    rw [show encO (some x) = encV x from rfl]
    split
    · rename_i e'; exact absurd e' (by simp [encV])
    · rw [e]
theorem pairOf_enc {p : Nat × Option Nat} (h : okP p) : pairOf (encP p) = some p := by
  obtain ⟨l, o⟩ := p
  unfold pairOf encP
  dsimp only
  rw [ver_enc h.1, endOf_enc fun x e => (h.2 x e).1]
  cases o with
  | none => rfl
  | some x =>
    have := (h.2 x rfl).2
    dsimp only at this ⊢
    rw [if_pos this]
/-- a pair touches the one ahead -/
def touch : Option (Option Nat) → Nat → Bool
  | none, _ => false
  | some none, _ => true
  | some (some x), l => decide (l ≤ x)
def rngL : Option (Option Nat) → List D → Option Rng
  | _, [] => some []
  | prev, d :: ds => match pairOf d with
    | none => none
    | some (l, h) => if touch prev l then none else (rngL (some h) ds).map ((l, h) :: ·)
def rngOf : D → Option Rng
  | .tup ds => rngL none ds
  | _ => none
/-- each pair is one, and ends below the next -/
def okR : Option (Option Nat) → Rng → Prop
  | _, [] => True
  | prev, (l, h) :: r => okP (l, h) ∧ touch prev l = false ∧ okR (some h) r
theorem rngL_enc : ∀ {r : Rng} {prev : Option (Option Nat)}, okR prev r → rngL prev (r.map encP) = some r
  | [], _, _ => rfl
  | (l, o) :: r, prev, h => by
    obtain ⟨h1, h2, h3⟩ := h
    rw [List.map_cons, rngL, pairOf_enc h1]
    dsimp only
    rw [h2, rngL_enc h3]
    rfl
abbrev wf (r : Rng) : Prop := okR none r
theorem rngOf_enc {r : Rng} (h : wf r) : rngOf (encR r) = some r := rngL_enc h
def sp_is_stretch : DSp := fun ds st Q _ => match ds with
  | [d] => ok st d ∧ Q (.bl (pairOf d).isSome) st
  | _ => False
def sp_reaches : DSp := fun ds st Q _ => match ds with
  | [d, e] => ∃ o l, d = encO o ∧ e = encV l ∧ Q (.bl (touch (some o) l)) st
  | _ => False
def sp_is_range : DSp := fun ds st Q _ => match ds with
  | [d] => ok st d ∧ Q (.bl (rngOf d).isSome) st
  | _ => False
def sp_whole : DSp := fun ds st Q _ => match ds with
  | [d] => ok st d ∧ Q (.bl (match d with | .int _ => true | _ => false)) st
  | _ => False
def sp_law_is_version : DSp := fun ds st Q _ => match ds with
  | [d, .int m] => ok st d ∧ ∃ most : Nat, m = most ∧ Q (.bl (verM most d).isSome) st
  | _ => False
section
variable {st : Sto} {Q : DK} {Z : DX → Sto → Prop} {d : D} {i : Int} {ds : List D} {o : Option Nat} {l : Nat}
@[simp] theorem e_is_stretch : sp_is_stretch [d] st Q Z = (ok st d ∧ Q (.bl (pairOf d).isSome) st) := rfl
@[simp] theorem e_reaches : sp_reaches [encO o, encV l] st Q Z = Q (.bl (touch (some o) l)) st := by
  apply propext
  constructor
  · rintro ⟨o', l', h1, h2, q⟩
    rw [encO_inj] at h1
    rw [encV_inj] at h2
    subst h1 h2
    exact q
  · intro q
    exact ⟨o, l, rfl, rfl, q⟩
@[simp] theorem e_is_range : sp_is_range [d] st Q Z = (ok st d ∧ Q (.bl (rngOf d).isSome) st) := rfl
@[simp] theorem e_whole : sp_whole [d] st Q Z = (ok st d ∧ Q (.bl (match d with | .int _ => true | _ => false)) st) := rfl
@[simp] theorem e_law_is_version {m : Nat} : sp_law_is_version [d, .int m] st Q Z = (ok st d ∧ Q (.bl (verM m d).isSome) st) := by
  apply propext
  constructor
  · rintro ⟨h, most, e, q⟩
    have : m = most := Int.ofNat_inj.mp e
    subst this
    exact ⟨h, q⟩
  · rintro ⟨h, q⟩
    exact ⟨h, m, rfl, q⟩
@[simp] theorem e_law_is_version1 : sp_law_is_version [d, .int 1000000] st Q Z = (ok st d ∧ Q (.bl (verM 1000000 d).isSome) st) := e_law_is_version (m := 1000000)
@[simp] theorem e_law_is_version2 : sp_law_is_version [d, .int 999999] st Q Z = (ok st d ∧ Q (.bl (verM 999999 d).isSome) st) := e_law_is_version (m := 999999)
@[simp] theorem ok_encV {n : Nat} : ok st (encV n) = True := by simp [encV]
@[simp] theorem ok_encO : ok st (encO o) = True := by cases o <;> simp [encO]
theorem ok_encPs : ∀ {r : Rng}, oks st (r.map encP)
  | [] => trivial
  | p :: r => ⟨by simp [encP], ok_encPs⟩
@[simp] theorem ok_encR {r : Rng} : ok st (encR r) = True := by simp [encR, ok_encPs]
end
theorem r_reaches : Rd 2 sp_reaches RD.t_reaches RD.N_reaches := by
  intro ds st Q Z hl h
  match ds, hl, h with
  | [d, e], _, h =>
    obtain ⟨o, l, rfl, rfl, q⟩ := h
    unfold RD.t_reaches
    cases o with
    | none => simp [touch] at q ⊢; exact .inl q
    | some x => simp [touch, encO] at q ⊢; exact .inl q
theorem r_is_stretch : Rd 1 sp_is_stretch (RD.t_is_stretch sp_is_tuple_of sp_is_version) RD.N_is_stretch := by
  intro ds st Q Z hl h
  match ds, hl with
  | [d], _ =>
    obtain ⟨ht, q⟩ := h
    unfold RD.t_is_stretch
    rcases ok_cases ht with rfl | ⟨b, rfl⟩ | ⟨i, rfl⟩ | ⟨s, rfl⟩ | ⟨ds, rfl, ho⟩ | ⟨ds, rfl⟩ | ⟨n, es, rfl, e⟩ | ⟨n, es, rfl, e⟩
    case inr.inr.inr.inr.inl =>
      by_cases hl : ds.length = 2
      · match ds, hl with
        | [a, b], _ =>
          simp at ho
          simp [ho]
          cases e1 : verM 1000000 a with
          | none =>
            simp [pairOf, e1] at q ⊢
            exact .inl q
          | some l =>
            obtain ⟨rfl, h1⟩ := ver_some e1
            cases e2 : endOf b with
            | none =>
              simp [pairOf, e1, e2] at q ⊢
              have e3 : isNonD b = false := by
                cases b <;> first | rfl | (simp [endOf] at e2; done)
              have e4 : verM 1000000 b = none := by
                unfold endOf at e2
                split at e2
                · cases e2
                · split at e2
                  · cases e2
                  · assumption
              simp [e3, e4]
              exact .inl q
            | some o =>
              obtain ⟨rfl, h2⟩ := endOf_some e2
              cases o with
              | none =>
                simp [pairOf, e1, e2] at q ⊢
                exact .inl q
              | some x =>
                have e4 := ver_enc (h2 x rfl)
                simp [pairOf, e1, e2] at q ⊢
                simp [encO, e4]
                by_cases hx : l < x
                · simp [hx] at q ⊢
                  exact .inl q
                · simp [hx] at q ⊢
                  exact .inl q
      · have h3 : ¬ ((ds.length : Int) = 2) := by omega
        simp [ho, pairOf_len hl, h3] at q ⊢
        exact .inl q
    all_goals
      simp [*]
      exact .inl q
end CM
namespace CM
open PySem L2 PySem.Spec DL
open PyProof.Rows hiding St
def enumFrom : Nat → List D → List D
  | _, [] => []
  | n, d :: ds => .tup [.int (n : Nat), d] :: enumFrom (n + 1) ds
theorem enumFrom_eq : ∀ (ds : List D) (n : Nat), ds.mapIdx (fun i d => D.tup [.int ((n + i : Nat) : Int), d]) = enumFrom n ds
  | [], _ => rfl
  | d :: ds, n => by
    rw [List.mapIdx_cons, enumFrom, ← enumFrom_eq ds (n + 1)]
    congr 1
    refine congrArg (fun f => List.mapIdx f ds) ?_
    funext i x
    have : n + (i + 1) = n + 1 + i := by omega
    rw [this]
theorem enumItems_eq (ds : List D) : enumItems ds = enumFrom 0 ds := by
  rw [← enumFrom_eq]
  unfold enumItems
  refine congrArg (fun f => List.mapIdx f ds) ?_
  funext i x
  rw [Nat.zero_add]
theorem atI_end {pre suf : List D} {p : D} : atI (pre ++ p :: suf) (pre.length : Int) = some p := atI_nat (by simp)
section
variable {st : Sto} {Q : DK} {Z : DX → Sto → Prop}
@[simp] theorem atI_0 {a : D} {ds : List D} : atI (a :: ds) 0 = some a := atI_nat (j := 0) rfl
@[simp] theorem atI_1 {a b : D} {ds : List D} : atI (a :: b :: ds) 1 = some b := atI_nat (j := 1) rfl
@[simp] theorem atI_2 {a b c : D} {ds : List D} : atI (a :: b :: c :: ds) 2 = some c := atI_nat (j := 2) rfl
/-- what stands ahead of a place -/
def ahead (pre : List D) (prev : Option (Option Nat)) : Prop := (pre = [] ∧ prev = none) ∨ ∃ pr l h, pre = pr ++ [encP (l, h)] ∧ prev = some h
theorem lp_is_range (E : DEnds) : ∀ (suf pre : List D) (prev : Option (Option Nat)) (x1 x2 : Option D), oks st suf → ahead pre prev →
    ((rngL prev suf).isSome = true → ∀ y1 y2, E.nx [some (.tup (pre ++ suf)), y1, y2] st) → ((rngL prev suf).isSome = false → E.rt (.bl false) st) →
    runG (gTup' 2 (gCons' (gN 1) (gCons' (gN 2) gNil'))) (RD.b_is_range_1 sp_is_stretch sp_reaches) E (fun _ => True) (enumFrom pre.length suf) [some (.tup (pre ++ suf)), x1, x2] st := by
  intro suf
  induction suf with
  | nil =>
    intro pre prev x1 x2 _ _ hy hn
    simp [enumFrom, runG_nil]
    simpa using hy rfl x1 x2
  | cons d suf ih =>
    intro pre prev x1 x2 ho hp hy hn
    simp at ho
    rw [enumFrom, runG_cons]
    refine ⟨trivial, ?_⟩
    simp only [s_gTup, s_gCons, s_gN, s_gNil]
    refine ⟨rfl, ?_⟩
    simp [RD.b_is_range_1, ho]
    cases e : pairOf d with
    | none => simp; exact hn (by simp [rngL, e])
    | some p =>
      obtain ⟨l, h⟩ := p
      obtain ⟨rfl, h1⟩ := pairOf_some e
      have no : touch prev l = true → E.rt (.bl false) st := fun ht => hn (by simp [rngL, e, ht])
      have go : touch prev l = false → ∀ x1 x2, runG (gTup' 2 (gCons' (gN 1) (gCons' (gN 2) gNil'))) (RD.b_is_range_1 sp_is_stretch sp_reaches) E (fun _ => True) (enumFrom (pre.length + 1) suf) [some (.tup (pre ++ encP (l, h) :: suf)), x1, x2] st := fun ht x1 x2 => by
        have := ih (pre ++ [encP (l, h)]) (some h) x1 x2 ho.2 (.inr ⟨pre, l, h, rfl, rfl⟩) (fun h' y1 y2 => by
          have := hy (by simpa [rngL, e, ht] using h') y1 y2
          simpa using this) fun h' => hn (by simpa [rngL, e, ht] using h')
        simpa using this
      rcases hp with ⟨rfl, rfl⟩ | ⟨pr, l0, h0, rfl, rfl⟩
      · simp
        exact go rfl _ _
      · have hat : atI (pr ++ encP (l0, h0) :: encP (l, h) :: suf) (pr.length : Int) = some (encP (l0, h0)) := atI_end
        have hix : (pr.length : Int) + 1 - 1 = pr.length := by omega
        simp [hat, hix]
        simp only [encP, s_ix_tup, atI_1, atI_0]
        simp
        cases ht : touch (some h0) l with
        | true => simp; exact no ht
        | false =>
          have := go ht (some (.int ((pr.length : Int) + 1))) (some (encP (l, h)))
          simp [encP] at this ⊢
          exact this
theorem r_is_range : Rd 1 sp_is_range (RD.t_is_range sp_is_stretch sp_reaches) RD.N_is_range := by
  intro ds st Q Z hl h
  match ds, hl with
  | [d], _ =>
    obtain ⟨ht, q⟩ := h
    unfold RD.t_is_range
    rcases ok_cases ht with rfl | ⟨b, rfl⟩ | ⟨i, rfl⟩ | ⟨s, rfl⟩ | ⟨ds, rfl, ho⟩ | ⟨ds, rfl⟩ | ⟨n, es, rfl, e⟩ | ⟨n, es, rfl, e⟩
    case inr.inr.inr.inr.inl =>
      simp [tySub, enumItems_eq]
      refine lp_is_range _ ds [] none none none ho (.inl ⟨rfl, rfl⟩) (fun h y1 y2 => ?_) fun h => ?_
      · simp [rngOf, h] at q ⊢
        exact .inl q
      · simp only [rngOf, h] at q
        exact .inl q
    all_goals
      simp [tySub, tyN, *]
      exact .inl q
end
end CM
namespace CM
open PySem L2 PySem.Spec DL
open PyProof.Rows hiding St
theorem getElem?_push {α : Type} {l : List α} {x : α} : (l ++ [x])[l.length]? = some x := by simp
end CM
namespace CM
def inP (p : Nat × Option Nat) (v : Nat) : Prop := p.1 ≤ v ∧ ∀ x, p.2 = some x → v < x
instance (p : Nat × Option Nat) (v : Nat) : Decidable (inP p v) := by
  unfold inP
  cases e : p.2 with
  | none => exact if h : p.1 ≤ v then .isTrue ⟨h, fun _ e => by cases e⟩ else .isFalse fun q => h q.1
  | some x => exact if h : p.1 ≤ v ∧ v < x then .isTrue ⟨h.1, fun _ e => by cases e; exact h.2⟩ else .isFalse fun q => h ⟨q.1, q.2 x rfl⟩
def Has : Rng → Nat → Prop
  | [], _ => False
  | p :: r, v => inP p v ∨ Has r v
instance decHas : ∀ (r : Rng) (v : Nat), Decidable (Has r v)
  | [], _ => .isFalse id
  | p :: r, v => match (inferInstance : Decidable (inP p v)), decHas r v with
    | .isTrue h, _ => .isTrue (.inl h)
    | .isFalse _, .isTrue h => .isTrue (.inr h)
    | .isFalse h, .isFalse k => .isFalse fun q => q.elim h k
theorem has_append : ∀ {r s : Rng} {v : Nat}, Has (r ++ s) v ↔ Has r v ∨ Has s v
  | [], s, v => by simp [Has]
  | p :: r, s, v => by simp [Has, has_append (r := r), or_assoc]
theorem has_iff {r : Rng} {v : Nat} : Has r v ↔ ∃ p ∈ r, inP p v := by
  induction r with
  | nil => simp [Has]
  | cons p r ih => simp [Has, ih]
/-- all lows are beyond what is ahead -/
theorem okR_low : ∀ {r : Rng} {prev : Option (Option Nat)}, okR prev r → ∀ p ∈ r, okP p ∧ touch prev p.1 = false
  | [], _, _, p, hp => by simp at hp
  | (l, h) :: r, prev, ⟨h1, h2, h3⟩, p, hp => by
    rcases List.mem_cons.mp hp with rfl | hp
    · exact ⟨h1, h2⟩
    · obtain ⟨q1, q2⟩ := okR_low h3 p hp
      refine ⟨q1, ?_⟩
      cases prev with
      | none => rfl
      | some o =>
        cases o with
        | none => exact h2
        | some x =>
          have hx : ¬ l ≤ x := by simpa [touch] using h2
          cases h with
          | none => simp [touch] at q2
          | some y =>
            have hy : ¬ p.1 ≤ y := by simpa [touch] using q2
            have := (h1.2 y rfl).2
            dsimp only at this
            simp [touch]
            omega
theorem okR_has {r : Rng} {x v : Nat} (h : okR (some (some x)) r) (hv : Has r v) : x < v := by
  obtain ⟨p, hp, h1, _⟩ := has_iff.mp hv
  have := (okR_low h p hp).2
  have : ¬ p.1 ≤ x := by simpa [touch] using this
  omega
theorem okR_none {r : Rng} (h : okR (some none) r) : r = [] := by
  cases r with
  | nil => rfl
  | cons p r => obtain ⟨l, o⟩ := p; have := h.2.1; simp [touch] at this
def outF : Option Nat → Rng → Rng
  | none, _ => []
  | some b, [] => [(b, none)]
  | some b, (l, h) :: r => if b < l then (b, some l) :: outF h r else outF h r
theorem outF_spec : ∀ (r : Rng) (b : Nat) (prev : Option (Option Nat)), okR prev r → okV b → ((prev = none ∧ b = 0) ∨ prev = some (some b)) →
    (∀ v, Has (outF (some b) r) v ↔ b ≤ v ∧ ¬ Has r v) ∧ ∀ q : Option (Option Nat), touch q b = false → okR q (outF (some b) r)
  | [], b, prev, _, hb, _ => by
    refine ⟨fun v => ?_, fun q hq => ⟨⟨hb, fun _ e => by cases e⟩, hq, trivial⟩⟩
    simp [outF, Has, inP]
  | (l, h) :: r, b, prev, ho, hb, hp => by
    have hbl : b ≤ l := by
      rcases hp with ⟨_, rfl⟩ | rfl
      · exact Nat.zero_le _
      · have := ho.2.1
        simp [touch] at this
        omega
    have step : (∀ v, Has (outF h r) v ↔ (∃ x, h = some x ∧ x ≤ v) ∧ ¬ Has r v) ∧ ∀ q, (∀ x, h = some x → touch q x = false) → okR q (outF h r) := by
      cases h with
      | none =>
        rw [okR_none ho.2.2]
        refine ⟨fun v => ?_, fun q _ => trivial⟩
        simp [outF, Has]
      | some x =>
        obtain ⟨s1, s2⟩ := outF_spec r x (some (some x)) ho.2.2 (ho.1.2 x rfl).1 (.inr rfl)
        exact ⟨fun v => by rw [s1]; simp, fun q hq => s2 q (hq x rfl)⟩
    have lx : ∀ x, h = some x → l < x := fun x ex => (ho.1.2 x ex).2
    have nr : ∀ v, Has r v → ∃ x, h = some x ∧ x < v := fun v hv => by
      cases h with
      | none => rw [okR_none ho.2.2] at hv; exact hv.elim
      | some x => exact ⟨x, rfl, okR_has ho.2.2 hv⟩
    have main : ∀ v, (∃ x, h = some x ∧ x ≤ v) ∧ ¬ Has r v ↔ l ≤ v ∧ ¬ Has ((l, h) :: r) v := fun v => by
      constructor
      · rintro ⟨⟨x, ex, hx⟩, hn⟩
        have := lx x ex
        refine ⟨by omega, ?_⟩
        rintro (⟨_, q⟩ | q)
        · have := q x ex
          omega
        · exact hn q
      · rintro ⟨h1, hn⟩
        refine ⟨?_, fun q => hn (.inr q)⟩
        cases h with
        | none => exact (hn (.inl ⟨h1, fun _ e => by cases e⟩)).elim
        | some x =>
          refine ⟨x, rfl, ?_⟩
          refine Nat.le_of_not_lt fun c => hn (.inl ⟨h1, fun _ e => by cases e; exact c⟩)
    unfold outF
    by_cases c : b < l
    · rw [if_pos c]
      refine ⟨fun v => ?_, fun q hq => ⟨⟨hb, fun x e => by cases e; exact ⟨ho.1.1, c⟩⟩, hq, step.2 _ fun x ex => by simp [touch]; exact lx x ex⟩⟩
      show inP (b, some l) v ∨ Has (outF h r) v ↔ _
      rw [step.1, main]
      constructor
      · rintro (⟨h1, h2⟩ | ⟨h1, h2⟩)
        · have := h2 l rfl
          refine ⟨h1, ?_⟩
          rintro (⟨q, _⟩ | q)
          · dsimp only at q; omega
          · obtain ⟨x, ex, hx⟩ := nr v q
            have := lx x ex
            omega
        · exact ⟨by omega, h2⟩
      · rintro ⟨h1, h2⟩
        by_cases hv : v < l
        · exact .inl ⟨h1, fun _ e => by cases e; exact hv⟩
        · exact .inr ⟨by omega, h2⟩
    · rw [if_neg c]
      have : b = l := by omega
      subst this
      refine ⟨fun v => ?_, fun q hq => step.2 q fun x ex => ?_⟩
      · rw [step.1, main]
      · have := lx x ex
        cases q with
        | none => rfl
        | some o =>
          cases o with
          | none => simp [touch] at hq
          | some y => simp [touch] at hq ⊢; omega
abbrev outR (r : Rng) : Rng := outF (some 0) r
theorem okV0 : okV 0 := by unfold okV vA; omega
theorem has_out {r : Rng} (h : wf r) (v : Nat) : Has (outR r) v ↔ ¬ Has r v := by
  rw [(outF_spec r 0 none h okV0 (.inl ⟨rfl, rfl⟩)).1]
  simp
theorem wf_out {r : Rng} (h : wf r) : wf (outR r) := (outF_spec r 0 none h okV0 (.inl ⟨rfl, rfl⟩)).2 none rfl
end CM
namespace CM
def laterE : Option Nat → Option Nat → Option Nat
  | some x, some y => some (max x y)
  | _, _ => none
def mF : Nat × Option Nat → Rng → Rng
  | cur, [] => [cur]
  | (b, e), (l, h) :: r => if touch (some e) l = true then mF (b, laterE e h) r else (b, e) :: mF (l, h) r
theorem mF_spec : ∀ (ps : Rng) (b : Nat) (e : Option Nat), okP (b, e) → (∀ p ∈ ps, okP p ∧ b ≤ p.1) → ps.Pairwise (fun p q => p.1 ≤ q.1) →
    (∀ v, Has (mF (b, e) ps) v ↔ Has ((b, e) :: ps) v) ∧ ∀ q : Option (Option Nat), touch q b = false → okR q (mF (b, e) ps)
  | [], b, e, ho, _, _ => ⟨fun _ => Iff.rfl, fun q hq => ⟨ho, hq, trivial⟩⟩
  | (l, h) :: r, b, e, ho, ha, hs => by
    obtain ⟨hs1, hs2⟩ := List.pairwise_cons.mp hs
    obtain ⟨hp, hl⟩ := ha (l, h) List.mem_cons_self
    dsimp only at hl
    have hr : ∀ p ∈ r, okP p ∧ l ≤ p.1 := fun p hp => ⟨(ha p (List.mem_cons_of_mem _ hp)).1, hs1 p hp⟩
    unfold mF
    by_cases ht : touch (some e) l = true
    · rw [if_pos ht]
      have hok : okP (b, laterE e h) := by
        refine ⟨ho.1, fun x ex => ?_⟩
        cases e with
        | none => simp [laterE] at ex
        | some y =>
          cases h with
          | none => simp [laterE] at ex
          | some z =>
            simp only [laterE, Option.some.injEq] at ex
            have h1 := ho.2 y rfl
            have h2 := hp.2 z rfl
            dsimp only at h1 h2
            subst ex
            rcases Nat.le_total y z with c | c
            · rw [Nat.max_eq_right c]; exact ⟨h2.1, by omega⟩
            · rw [Nat.max_eq_left c]; exact ⟨h1.1, by omega⟩
      obtain ⟨m1, m2⟩ := mF_spec r b (laterE e h) hok (fun p hp' => ⟨(hr p hp').1, Nat.le_trans hl (hr p hp').2⟩) hs2
      refine ⟨fun v => ?_, m2⟩
      rw [m1]
      show inP (b, laterE e h) v ∨ Has r v ↔ inP (b, e) v ∨ inP (l, h) v ∨ Has r v
      rw [← or_assoc]
      have : inP (b, laterE e h) v ↔ inP (b, e) v ∨ inP (l, h) v := by
        unfold inP
        cases e with
        | none =>
          simp only [laterE]
          constructor
          · intro q; exact .inl ⟨q.1, fun _ e => by cases e⟩
          · rintro (q | q)
            · exact ⟨q.1, fun _ e => by cases e⟩
            · exact ⟨Nat.le_trans hl q.1, fun _ e => by cases e⟩
        | some y =>
          have hy : l ≤ y := by simpa [touch] using ht
          have hby := (ho.2 y rfl).2
          dsimp only at hby
          cases h with
          | none =>
            simp only [laterE]
            constructor
            · intro q
              by_cases c : v < y
              · exact .inl ⟨q.1, fun _ e => by cases e; exact c⟩
              · refine .inr ⟨?_, fun _ e => by cases e⟩
                show l ≤ v
                omega
            · rintro (q | q)
              · exact ⟨q.1, fun _ e => by cases e⟩
              · exact ⟨Nat.le_trans hl q.1, fun _ e => by cases e⟩
          | some z =>
            simp only [laterE, Option.some.injEq, forall_eq']
            omega
      rw [this]
    · rw [if_neg ht]
      obtain ⟨m1, m2⟩ := mF_spec r l h hp hr hs2
      refine ⟨fun v => ?_, fun q hq => ⟨ho, hq, m2 _ (by simpa using ht)⟩⟩
      show inP (b, e) v ∨ Has (mF (l, h) r) v ↔ _
      rw [m1]
      exact Iff.rfl
def leP (p q : Nat × Option Nat) : Bool := decide (p.1 ≤ q.1)
def sortP (ps : Rng) : Rng := ps.mergeSort leP
def stF : Rng → Rng
  | [] => []
  | p :: r => mF p r
def strR (ps : Rng) : Rng := stF (sortP ps)
theorem str_spec {ps : Rng} (h : ∀ p ∈ ps, okP p) : (∀ v, Has (strR ps) v ↔ Has ps v) ∧ wf (strR ps) := by
  have hp : (sortP ps).Perm ps := List.mergeSort_perm ps leP
  have hs : (sortP ps).Pairwise (fun p q => p.1 ≤ q.1) := by
    have := List.pairwise_mergeSort (le := leP) (fun a b c h1 h2 => by simp [leP] at h1 h2 ⊢; omega) (fun a b => by simp [leP]; omega) ps
    exact this.imp fun h => by simpa [leP] using h
  have hm : ∀ v, Has (sortP ps) v ↔ Has ps v := fun v => by
    rw [has_iff, has_iff]
    constructor
    · rintro ⟨p, h1, h2⟩; exact ⟨p, hp.mem_iff.mp h1, h2⟩
    · rintro ⟨p, h1, h2⟩; exact ⟨p, hp.mem_iff.mpr h1, h2⟩
  have ho : ∀ p ∈ sortP ps, okP p := fun p h' => h p (hp.mem_iff.mp h')
  unfold strR
  generalize sortP ps = qs at *
  cases qs with
  | nil => exact ⟨hm, trivial⟩
  | cons q r =>
    obtain ⟨b, e⟩ := q
    obtain ⟨h1, h2⟩ := List.pairwise_cons.mp hs
    obtain ⟨m1, m2⟩ := mF_spec r b e (ho _ List.mem_cons_self) (fun p hp => ⟨ho p (List.mem_cons_of_mem _ hp), h1 p hp⟩) h2
    exact ⟨fun v => by rw [show stF ((b, e) :: r) = mF (b, e) r from rfl, m1, hm], m2 none rfl⟩
abbrev eitherR (r s : Rng) : Rng := strR (r ++ s)
abbrev bothR (r s : Rng) : Rng := outR (eitherR (outR r) (outR s))
theorem okP_of {r : Rng} (h : wf r) : ∀ p ∈ r, okP p := fun p hp => (okR_low h p hp).1
theorem okP_app {r s : Rng} (h : wf r) (h2 : wf s) : ∀ p ∈ r ++ s, okP p := fun p hp => (List.mem_append.mp hp).elim (okP_of h p) (okP_of h2 p)
theorem has_either {r s : Rng} (h : wf r) (h2 : wf s) (v : Nat) : Has (eitherR r s) v ↔ Has r v ∨ Has s v := by
  rw [(str_spec (okP_app h h2)).1, has_append]
theorem wf_either {r s : Rng} (h : wf r) (h2 : wf s) : wf (eitherR r s) := (str_spec (okP_app h h2)).2
theorem has_both {r s : Rng} (h : wf r) (h2 : wf s) (v : Nat) : Has (bothR r s) v ↔ Has r v ∧ Has s v := by
  rw [has_out (wf_either (wf_out h) (wf_out h2)), has_either (wf_out h) (wf_out h2), has_out h, has_out h2]
  by_cases a : Has r v <;> by_cases b : Has s v <;> simp [a, b]
theorem wf_both {r s : Rng} (h : wf r) (h2 : wf s) : wf (bothR r s) := wf_out (wf_either (wf_out h) (wf_out h2))
def endsOf : Rng → List Nat
  | [] => []
  | (l, none) :: r => l :: endsOf r
  | (l, some x) :: r => l :: x :: endsOf r
theorem ends_mem {r : Rng} {m : Nat} : m ∈ endsOf r ↔ ∃ p ∈ r, m = p.1 ∨ p.2 = some m := by
  induction r with
  | nil => simp [endsOf]
  | cons p r ih =>
    obtain ⟨l, o⟩ := p
    cases o with
    | none => simp [endsOf, ih]
    | some x =>
      simp only [endsOf, List.mem_cons, ih]
      constructor
      · rintro (rfl | rfl | ⟨q, h1, h2⟩)
        · exact ⟨_, .inl rfl, .inl rfl⟩
        · exact ⟨_, .inl rfl, .inr rfl⟩
        · exact ⟨q, .inr h1, h2⟩
      · rintro ⟨q, rfl | h1, h2⟩
        · rcases h2 with h2 | h2
          · exact .inl h2
          · cases h2; exact .inr (.inl rfl)
        · exact .inr (.inr ⟨q, h1, h2⟩)
/-- stretches from marks and flags -/
def mkF (f : Nat → Bool) : Option Nat → List Nat → Rng
  | none, [] => []
  | some b, [] => [(b, none)]
  | none, m :: r => if f m = true then mkF f (some m) r else mkF f none r
  | some b, m :: r => if f m = true then mkF f (some b) r else (b, some m) :: mkF f none r
/-- the range of marks and flags -/
abbrev mkR (f : Nat → Bool) (ms : List Nat) : Rng := mkF f none ms
/-- marks: 0 and all ends, ascending, each once -/
def IsMarks (ms : List Nat) (rs : List Rng) : Prop := ms.Pairwise (· < ·) ∧ ∀ m, m ∈ ms ↔ m = 0 ∨ ∃ r ∈ rs, m ∈ endsOf r
end CM
namespace CM
open PySem L2 PySem.Spec DL
open PyProof.Rows hiding St
theorem sizeLine_big {n : Nat} (h : n < 1048577) : n < sizeLine := by
  have : sizeLine = 16777216 := by decide
  omega
/-- a tuple told from a list made apart: all else is as it was -/
theorem back_tup {st st' : Sto} {Q : DK} {d : D} (h : ∃ g, st' = st ++ g) (hb : D.blw st.length d = true) (q : Q d st) : DL.Back st Q d st' := by
  obtain ⟨g, rfl⟩ := h
  exact .inr ⟨st, g, rfl, rfl, fun b hb => .inl hb, .inl ⟨hb, q⟩⟩
theorem blw_encV (n m : Nat) : D.blw n (encV m) = true := by simp [encV, D.blw, D.blws]
def few (r : Rng) : Prop := r.length < 1048576
def sp_later_end : DSp := fun ds st Q _ => match ds with
  | [d, e] => ∃ a b, d = encO a ∧ e = encO b ∧ Q (encO (laterE a b)) st
  | _ => False
def sp_has : DSp := fun ds st Q _ => match ds with
  | [d, e] => ∃ r v, d = encR r ∧ e = encV v ∧ Q (.bl (decide (Has r v))) st
  | _ => False
def sp_stretched : DSp := fun ds st Q _ => match ds with
  | [d] => ∃ ps, itemsD st d = some (ps.map encP) ∧ few ps ∧ (∀ p ∈ ps, okP p) ∧ Q (encR (strR ps)) st
  | _ => False
def sp_outside : DSp := fun ds st Q _ => match ds with
  | [d] => ∃ r, d = encR r ∧ wf r ∧ few r ∧ Q (encR (outR r)) st
  | _ => False
def sp_either : DSp := fun ds st Q _ => match ds with
  | [d, e] => ∃ r s, d = encR r ∧ e = encR s ∧ wf r ∧ wf s ∧ r.length + s.length < 1048576 ∧ Q (encR (eitherR r s)) st
  | _ => False
def sp_both : DSp := fun ds st Q _ => match ds with
  | [d, e] => ∃ r s, d = encR r ∧ e = encR s ∧ wf r ∧ wf s ∧ r.length + s.length < 1000000 ∧ Q (encR (bothR r s)) st
  | _ => False
section
variable {st : Sto} {Q : DK} {Z : DX → Sto → Prop} {d : D} {r s : Rng} {a b : Option Nat} {v : Nat}
theorem ex1 {p : Rng → Prop} : (∃ t, encR r = encR t ∧ p t) = p r := by
  apply propext
  constructor
  · rintro ⟨t, e, h⟩
    rw [encR_inj] at e
    subst e
    exact h
  · intro h; exact ⟨r, rfl, h⟩
@[simp] theorem e_later_end : sp_later_end [encO a, encO b] st Q Z = Q (encO (laterE a b)) st := by
  apply propext
  constructor
  · rintro ⟨a', b', h1, h2, q⟩
    rw [encO_inj] at h1 h2
    subst h1 h2
    exact q
  · intro q; exact ⟨a, b, rfl, rfl, q⟩
@[simp] theorem e_has : sp_has [encR r, encV v] st Q Z = Q (.bl (decide (Has r v))) st := by
  apply propext
  constructor
  · rintro ⟨r', v', h1, h2, q⟩
    rw [encR_inj] at h1
    rw [encV_inj] at h2
    subst h1 h2
    exact q
  · intro q; exact ⟨r, v, rfl, rfl, q⟩
@[simp] theorem e_outside : sp_outside [encR r] st Q Z = (wf r ∧ few r ∧ Q (encR (outR r)) st) := ex1
@[simp] theorem e_either : sp_either [encR r, encR s] st Q Z = (wf r ∧ wf s ∧ r.length + s.length < 1048576 ∧ Q (encR (eitherR r s)) st) := by
  apply propext
  constructor
  · rintro ⟨r', s', h1, h2, q⟩
    rw [encR_inj] at h1 h2
    subst h1 h2
    exact q
  · intro q; exact ⟨r, s, rfl, rfl, q⟩
@[simp] theorem e_both : sp_both [encR r, encR s] st Q Z = (wf r ∧ wf s ∧ r.length + s.length < 1000000 ∧ Q (encR (bothR r s)) st) := by
  apply propext
  constructor
  · rintro ⟨r', s', h1, h2, q⟩
    rw [encR_inj] at h1 h2
    subst h1 h2
    exact q
  · intro q; exact ⟨r, s, rfl, rfl, q⟩
end
end CM
namespace CM
open PySem L2 PySem.Spec DL
open PyProof.Rows hiding St
theorem length_out : ∀ (r : Rng) (b : Option Nat), (outF b r).length ≤ r.length + 1
  | [], none => by simp [outF]
  | [], some b => by simp [outF]
  | (l, h) :: r, none => by simp [outF]
  | (l, h) :: r, some b => by
    have := length_out r h
    unfold outF
    split <;> simp <;> omega
@[simp] theorem atI_m1 {xs : List D} {v : D} : atI (xs ++ [v]) (-1) = some v := atI_last xs v
@[simp] theorem ixN_m1 {n : Nat} : ixN (n + 1) (-1) = some n := by
  unfold ixN
  rw [if_neg (by decide), if_pos (by omega)]
  congr 1
  omega
end CM
namespace CM
open PySem L2 PySem.Spec DL
open PyProof.Rows hiding St
@[simp] theorem e_stretched {st : Sto} {Q : DK} {Z : DX → Sto → Prop} {d : D} : sp_stretched [d] st Q Z = ∃ ps, itemsD st d = some (ps.map encP) ∧ few ps ∧ (∀ p ∈ ps, okP p) ∧ Q (encR (strR ps)) st := rfl
def sp_least_of : DSp := fun ds st Q _ => match ds with
  | [d] => ∃ r, d = encR r ∧ Q (encO (match r with | [] => none | p :: _ => some p.1)) st
  | _ => False
end CM
namespace CM
open PySem L2 PySem.Spec DL
open PyProof.Rows hiding St
section
variable {α : Type} {l g : List α} {x y : α}
theorem g0 : (l ++ x :: g)[l.length]? = some x := by simp
theorem s0 : (l ++ x :: g).set l.length y = l ++ y :: g := by
  rw [List.set_append_right _ _ (Nat.le_refl _)]
  simp
theorem gb {n : Nat} (h : l[n]? = some x) : (l ++ g)[n]? = some x := by
  rw [List.getElem?_append_left (List.getElem?_eq_some_iff.mp h).1]
  exact h
end
def allEnds (rs : List Rng) : List Nat := rs.flatMap endsOf
def sp_marks : DSp := fun ds st Q _ => match ds with
  | [d] => ∃ rs : List Rng, itemsD st d = some (rs.map encR) ∧ (∀ r ∈ rs, wf r) ∧ (allEnds rs).length < 63 ∧ ∀ ms, IsMarks ms rs → ms.length < 64 → Q (.loc st.length) (st ++ [.lst (ms.map encV)])
  | _ => False
theorem few_marks {ms ls : List Nat} (h1 : ms.Pairwise (· < ·)) (h2 : ∀ m ∈ ms, m ∈ ls) : ms.length ≤ ls.length := by
  induction ms generalizing ls with
  | nil => exact Nat.zero_le _
  | cons m ms ih =>
    obtain ⟨p1, p2⟩ := List.pairwise_cons.mp h1
    have hm := h2 m List.mem_cons_self
    have := ih (ls := ls.erase m) p2 fun k hk => by
      rw [List.mem_erase_of_ne (by have := p1 k hk; omega)]
      exact h2 k (List.mem_cons_of_mem _ hk)
    rw [List.length_erase_of_mem hm] at this
    have := List.length_pos_of_mem hm
    simp only [List.length_cons]
    omega
end CM
namespace CM
open PySem L2 PySem.Spec DL
open PyProof.Rows hiding St
/-- ints from a number on -/
def upFrom : Nat → Nat → List D
  | _, 0 => []
  | i, n + 1 => .int (i : Nat) :: upFrom (i + 1) n
theorem upFrom_eq : ∀ (n i : Nat), (List.range n).map (fun (j : Nat) => D.int ((i : Int) + (j : Int))) = upFrom i n
  | 0, _ => rfl
  | n + 1, i => by
    rw [List.range_succ_eq_map, List.map_cons, List.map_map, upFrom, ← upFrom_eq n (i + 1)]
    congr 1
    refine congrArg (fun f => List.map f (List.range n)) ?_
    funext j
    simp only [Function.comp]
    congr 1
    omega
theorem rngItems_up (n : Nat) : rngItems 0 n = upFrom 0 n := by
  rw [← upFrom_eq]
  unfold rngItems
  rfl
def sp_made : DSp := fun ds st Q _ => match ds with
  | [.loc a, .loc b] => ∃ (ms : List Nat) (f : Nat → Bool), st[a]? = some (.lst (ms.map encV)) ∧ st[b]? = some (.lst ((ms.map f).map .bl)) ∧ ms.length < 1000 ∧ Q (encR (mkR f ms)) st
  | _ => False
end CM
namespace CM
open PySem L2 PySem.Spec DL
open PyProof.Rows hiding St
/-- a comprehension whose turns leave the store be -/
theorem runC_pure {te : DTE} {ρ : Env'} {Q : DK} {G : Sto → Prop} {i : Nat} {α : Type} {inj : α → D} {out : α → D} {st : Sto} (hG : G st)
    (ht : ∀ x (QT : DK), QT (out x) st → te (ρ.set i (some (inj x))) st QT Z0) : ∀ (xs : List α) (acc : List D), acc.length + xs.length < 1048576 →
    Q (.loc st.length) (st ++ [.lst (acc ++ xs.map out)]) → runC (gN i) dYes te ρ Q G (xs.map inj) acc st
  | [], acc, _, q => by
    rw [List.map_nil, runC_nil]
    exact ⟨hG, by simpa using q⟩
  | x :: xs, acc, hl, q => by
    rw [List.map_cons, runC_cons]
    refine ⟨hG, ?_⟩
    simp only [List.length_cons] at hl
    simp
    refine ht x _ ⟨sizeLine_big (by omega), ?_⟩
    exact runC_pure hG ht xs (acc ++ [out x]) (by simp; omega) (by simpa using q)
def sp_law_both : DSp := fun ds st Q _ => match ds with
  | [d, e] => ∃ r s, d = encR r ∧ e = encR s ∧ wf r ∧ wf s ∧ (allEnds [r, s]).length < 63 ∧ Q (encR (bothR r s)) st
  | _ => False
def sp_law_either : DSp := fun ds st Q _ => match ds with
  | [d, e] => ∃ r s, d = encR r ∧ e = encR s ∧ wf r ∧ wf s ∧ (allEnds [r, s]).length < 63 ∧ Q (encR (eitherR r s)) st
  | _ => False
def sp_law_outside : DSp := fun ds st Q _ => match ds with
  | [d] => ∃ r, d = encR r ∧ wf r ∧ (allEnds [r]).length < 63 ∧ Q (encR (outR r)) st
  | _ => False
@[simp] theorem e_marks {st : Sto} {Q : DK} {Z : DX → Sto → Prop} {d : D} : sp_marks [d] st Q Z = ∃ rs : List Rng, itemsD st d = some (rs.map encR) ∧ (∀ r ∈ rs, wf r) ∧ (allEnds rs).length < 63 ∧ ∀ ms, IsMarks ms rs → ms.length < 64 → Q (.loc st.length) (st ++ [.lst (ms.map encV)]) := rfl
@[simp] theorem e_made {st : Sto} {Q : DK} {Z : DX → Sto → Prop} {a b : Nat} : sp_made [.loc a, .loc b] st Q Z = ∃ (ms : List Nat) (f : Nat → Bool), st[a]? = some (.lst (ms.map encV)) ∧ st[b]? = some (.lst ((ms.map f).map .bl)) ∧ ms.length < 1000 ∧ Q (encR (mkR f ms)) st := rfl
end CM
namespace CM
open PySem L2 PySem.Spec DL
open PyProof.Rows hiding St
def handOb (c : Nat) (a b d e : Int) : Ob := .lst [.loc c, .int a, .int b, .int d, .int e]
structure Hd (st : Sto) (h c : Nat) : Prop where
  ex : ∃ (cells : List Int) (a b d e : Int), st[h]? = some (handOb c a b d e) ∧ st[c]? = some (.lst (cells.map .int)) ∧ 0 ≤ a
theorem Hd.ne {st : Sto} {h c : Nat} (H : Hd st h c) : c ≠ h := by
  obtain ⟨cells, a, b, d, e, h1, h2, _⟩ := H.ex
  intro z
  rw [z, h1] at h2
  have h2 := Option.some.inj h2
  simp only [handOb, Ob.lst.injEq] at h2
  cases cells with
  | nil => simp at h2
  | cons x xs => simp at h2
theorem Hd.hlt {st : Sto} {h c : Nat} (H : Hd st h c) : h < st.length := by
  obtain ⟨cells, a, b, d, e, h1, h2, _⟩ := H.ex
  exact (List.getElem?_eq_some_iff.mp h1).1
theorem Hd.clt {st : Sto} {h c : Nat} (H : Hd st h c) : c < st.length := by
  obtain ⟨cells, a, b, d, e, h1, h2, _⟩ := H.ex
  exact (List.getElem?_eq_some_iff.mp h2).1
theorem Hd.app {st : Sto} {h c : Nat} (H : Hd st h c) (g : Sto) : Hd (st ++ g) h c := by
  obtain ⟨cells, a, b, d, e, h1, h2, h3⟩ := H.ex
  exact ⟨cells, a, b, d, e, gb h1, gb h2, h3⟩
/-- only the hand is another -/
structure Sm (h : Nat) (st st' : Sto) : Prop where
  len : st'.length = st.length
  same : ∀ n, n ≠ h → st'[n]? = st[n]?
theorem Sm.refl (h : Nat) (st : Sto) : Sm h st st := ⟨rfl, fun _ _ => rfl⟩
theorem Sm.trans {h : Nat} {st st1 st2 : Sto} (a : Sm h st st1) (b : Sm h st1 st2) : Sm h st st2 := ⟨b.len.trans a.len, fun n hn => (b.same n hn).trans (a.same n hn)⟩
theorem Sm.set {h : Nat} {st : Sto} {o : Ob} : Sm h st (st.set h o) := ⟨by simp, fun n hn => by rw [List.getElem?_set_ne (Ne.symm hn)]⟩
/-- grown: the old things but the hand stand -/
structure Gr (h c : Nat) (st st' : Sto) : Prop where
  len : st.length ≤ st'.length
  same : ∀ n, n < st.length → n ≠ h → st'[n]? = st[n]?
  hd : Hd st' h c
  hd0 : Hd st h c
theorem Gr.hlt {h c : Nat} {st st' : Sto} (g : Gr h c st st') : h < st.length := g.hd0.hlt
theorem Gr.clt {h c : Nat} {st st' : Sto} (g : Gr h c st st') : c < st.length := g.hd0.clt
theorem Gr.refl {h c : Nat} {st : Sto} (H : Hd st h c) : Gr h c st st := ⟨Nat.le_refl _, fun _ _ _ => rfl, H, H⟩
theorem Gr.trans {h c : Nat} {st st1 st2 : Sto} (a : Gr h c st st1) (b : Gr h c st1 st2) : Gr h c st st2 :=
  ⟨Nat.le_trans a.len b.len, fun n hn hne => (b.same n (Nat.lt_of_lt_of_le hn a.len) hne).trans (a.same n hn hne), b.hd, a.hd0⟩
theorem Gr.sm {h c : Nat} {st st1 st2 : Sto} (g : Gr h c st st1) (s : Sm h st1 st2) (H : Hd st2 h c) : Gr h c st st2 :=
  ⟨by rw [s.len]; exact g.len, fun n hn hne => (s.same n hne).trans (g.same n hn hne), H, g.hd0⟩
theorem Gr.app {h c : Nat} {st st1 : Sto} (g : Gr h c st st1) (x : Sto) : Gr h c st (st1 ++ x) :=
  ⟨by simp; have := g.len; omega, fun n hn hne => by rw [List.getElem?_append_left (by have := g.len; omega)]; exact g.same n hn hne, g.hd.app x, g.hd0⟩
theorem Gr.get {h c n : Nat} {st st1 : Sto} {b : Ob} (g : Gr h c st st1) (hb : st[n]? = some b) (hne : n ≠ h) : st1[n]? = some b := by
  rw [g.same n (List.getElem?_eq_some_iff.mp hb).1 hne]; exact hb
theorem Gr.kin {h c : Nat} {st st1 : Sto} (g : Gr h c st st1) : Kin st st1 :=
  ⟨fun n es e => by
    by_cases hn : n = h
    · subst hn
      obtain ⟨cells, a, b, d, e', h1, _, _⟩ := g.hd.ex
      exact ⟨_, h1⟩
    · exact ⟨es, g.get e hn⟩, fun n es e => by
    by_cases hn : n = h
    · subst hn
      obtain ⟨cells, a, b, d, e', h1, _, _⟩ := g.hd0.ex
      rw [h1] at e
      cases e
    · exact ⟨es, g.get e hn⟩⟩
def sp_draw : DSp := fun ds st Q _ => match ds with
  | [.loc h, .int m] => ∃ c, Hd st h c ∧ 0 < m ∧ m < 1000000000 ∧ ∀ r st', 0 ≤ r → r < m → Hd st' h c → Sm h st st' → Q (.int r) st'
  | _ => False
def sp_some : DSp := fun ds st Q _ => match ds with
  | [.loc h, t] => ∃ c es, Hd st h c ∧ itemsD st t = some es ∧ t ≠ .loc h ∧ 0 < es.length ∧ es.length < 1000000000 ∧ ∀ e st', e ∈ es → Hd st' h c → Sm h st st' → Q e st'
  | _ => False
def sp_flag : DSp := fun ds st Q _ => match ds with
  | [.bl a, .bl b] => Q (.bl (decide (a = b))) st
  | _ => False
theorem big_mul1 {i j : Int} (h : -(2 ^ 64) < j ∧ j < 2 ^ 64) : CMul i j := .inr h
theorem big_mul2 {i j : Int} (h : -(2 ^ 64) < i ∧ i < 2 ^ 64) : CMul i j := .inl h
@[simp] theorem atI_3 {a b c d : D} {ds : List D} : atI (a :: b :: c :: d :: ds) 3 = some d := atI_nat (j := 3) rfl
@[simp] theorem atI_4 {a b c d e : D} {ds : List D} : atI (a :: b :: c :: d :: e :: ds) 4 = some e := atI_nat (j := 4) rfl
theorem mod_in {x m : Int} (h : 0 < m) : 0 ≤ x % m ∧ x % m < m := ⟨Int.emod_nonneg _ (by omega), Int.emod_lt_of_pos _ h⟩
end CM
namespace CM
open PySem L2 PySem.Spec DL
open PyProof.Rows hiding St
@[simp] theorem e_draw {st : Sto} {Q : DK} {Z : DX → Sto → Prop} {h : Nat} {m : Int} : sp_draw [.loc h, .int m] st Q Z = ∃ c, Hd st h c ∧ 0 < m ∧ m < 1000000000 ∧ ∀ r st', 0 ≤ r → r < m → Hd st' h c → Sm h st st' → Q (.int r) st' := rfl
@[simp] theorem e_some {st : Sto} {Q : DK} {Z : DX → Sto → Prop} {h : Nat} {t : D} : sp_some [.loc h, t] st Q Z = ∃ c es, Hd st h c ∧ itemsD st t = some es ∧ t ≠ .loc h ∧ 0 < es.length ∧ es.length < 1000000000 ∧ ∀ e st', e ∈ es → Hd st' h c → Sm h st st' → Q e st' := rfl
@[simp] theorem e_flag {st : Sto} {Q : DK} {Z : DX → Sto → Prop} {a b : Bool} : sp_flag [.bl a, .bl b] st Q Z = Q (.bl (decide (a = b))) st := rfl
theorem at_mem {es : List D} {r : Int} (h0 : 0 ≤ r) (h1 : r < es.length) : ∃ e ∈ es, atI es r = some e := by
  have hl : r.toNat < es.length := by omega
  refine ⟨es[r.toNat], List.getElem_mem hl, ?_⟩
  have := atI_nat (List.getElem?_eq_getElem hl)
  rwa [Int.toNat_of_nonneg h0] at this
theorem cut63 {ns : List Int} (h : ns.length ≤ 63) : cutL (ns.map D.int) none (some 63) = ns.map .int := by
  have e : _root_.HT.sIx (ns.map D.int).length (ns.map D.int).length (some 63) = (ns.map D.int).length := by
    show (if (63 : Int) < 0 then ((63 : Int) + ((ns.map D.int).length : Int)).toNat else min (63 : Int).toNat (ns.map D.int).length) = _
    rw [if_neg (by decide)]
    simp
    omega
  unfold cutL
  rw [e, show _root_.HT.sIx (ns.map D.int).length 0 none = 0 from rfl]
  simp
  exact List.take_of_length_le (by simp)
end CM
namespace CM
open PySem L2 PySem.Spec DL
open PyProof.Rows hiding St
def smallV (n : Nat) : Prop := vA n ≤ 999999 ∧ vB n ≤ 999999 ∧ vC n ≤ 999999
theorem smallV.ok {n : Nat} (h : smallV n) : okV n := by unfold okV; have := h.1; omega
def sp_lversion : DSp := fun ds st Q _ => match ds with
  | [.loc h] => ∃ c, Hd st h c ∧ ∀ n st', smallV n → Hd st' h c → Sm h st st' → Q (encV n) st'
  | _ => False
@[simp] theorem e_lversion {st : Sto} {Q : DK} {Z : DX → Sto → Prop} {h : Nat} : sp_lversion [.loc h] st Q Z = ∃ c, Hd st h c ∧ ∀ n st', smallV n → Hd st' h c → Sm h st st' → Q (encV n) st' := rfl
/-- all ends are small -/
def smE (r : Rng) : Prop := ∀ e ∈ endsOf r, smallV e
def sp_lrange : DSp := fun ds st Q _ => match ds with
  | [.loc h] => ∃ c, Hd st h c ∧ ∀ r st', wf r → smE r → r.length ≤ 6 → Hd st' h c → Sm h st st' → Q (encR r) st'
  | _ => False
@[simp] theorem e_lrange {st : Sto} {Q : DK} {Z : DX → Sto → Prop} {h : Nat} : sp_lrange [.loc h] st Q Z = ∃ c, Hd st h c ∧ ∀ r st', wf r → smE r → r.length ≤ 6 → Hd st' h c → Sm h st st' → Q (encR r) st' := rfl
end CM
namespace CM
open PySem L2 PySem.Spec DL
open PyProof.Rows hiding St
def sp_deep : DSp := fun ds st Q _ => match ds with
  | [.int _] => ∀ d st', (∃ g, st' = st ++ g) → ok st' d → (∀ r, d ≠ encR r) → Q d st'
  | _ => False
@[simp] theorem e_deep {st : Sto} {Q : DK} {Z : DX → Sto → Prop} {k : Int} : sp_deep [.int k] st Q Z = ∀ d st', (∃ g, st' = st ++ g) → ok st' d → (∀ r, d ≠ encR r) → Q d st' := rfl
def sp_oddv : DSp := fun ds st Q _ => match ds with
  | [.loc h, v] => ∃ c n, Hd st h c ∧ v = encV n ∧ ∀ d st', Gr h c st st' → ok st' d → Q d st'
  | _ => False
def DrE (h c : Nat) (st0 : Sto) (ρ : Env') (p : D → Prop) (te : DTE) : Prop :=
  ∀ st1 Q Z, Gr h c st0 st1 → (∀ d st2, Gr h c st1 st2 → ok st2 d → p d → Q d st2) → te ρ st1 Q Z
def DrL (h c : Nat) (st0 : Sto) (ρ : Env') (p : D → Prop) (n : Nat) (t : DTA) : Prop :=
  ∀ st1 (QA : List D → Sto → Prop) Z, Gr h c st0 st1 → (∀ ds st2, Gr h c st1 st2 → oks st2 ds → (∀ d ∈ ds, p d) → ds.length = n → QA ds st2) → t ρ st1 QA Z
section
variable {h c : Nat} {st0 : Sto} {ρ : Env'} {p : D → Prop} {n : Nat} {te : DTE} {t : DTA}
theorem DrL.nil : DrL h c st0 ρ p 0 dNil := fun st1 QA Z g q => q [] st1 (Gr.refl g.hd) trivial (by simp) rfl
theorem DrL.cons (a : DrE h c st0 ρ p te) (b : DrL h c st0 ρ p n t) : DrL h c st0 ρ p (n + 1) (dCons te t) := fun st1 QA Z g q => by
  rw [s_cons]
  refine a st1 _ Z g fun d st2 g2 h2 hp => b st2 _ Z (g.trans g2) fun ds st3 g3 h3 hps hl => q (d :: ds) st3 (g2.trans g3) ⟨ok_mono g3.kin h2, h3⟩ (fun e he => ?_) (by simp [hl])
  rcases List.mem_cons.mp he with rfl | he
  · exact hp
  · exact hps e he
theorem DrE.vr {i : Nat} {d : D} (hi : ρ[i]? = some (some d)) (ho : ok st0 d) (hp : p d) : DrE h c st0 ρ p (dVar i) := fun st1 Q Z g q => by
  have := q d st1 (Gr.refl g.hd) (ok_mono g.kin ho) hp
  simp only [s_var, hi]
  exact this
theorem DrE.tup (a : DrL h c st0 ρ (fun _ => True) n t) (hn : n < 1000) (hp : ∀ ds, ds.length = n → p (.tup ds)) : DrE h c st0 ρ p (dTup t) := fun st1 Q Z g q => by
  rw [s_dtup]
  exact a st1 _ Z g fun ds st2 g2 h2 _ hl => ⟨by have := sizeLine_big (n := ds.length) (by omega); omega, q _ st2 g2 (by simpa [ok] using h2) (hp ds hl)⟩
theorem DrE.lst (a : DrL h c st0 ρ (fun _ => True) n t) (hn : n < 1000) (hp : ∀ m, p (.loc m)) : DrE h c st0 ρ p (dLst t) := fun st1 Q Z g q => by
  rw [s_dlst]
  exact a st1 _ Z g fun ds st2 g2 h2 _ hl => ⟨by have := sizeLine_big (n := ds.length) (by omega); omega, q _ _ (g2.app _) (.inl ⟨ds, by simp⟩) (hp _)⟩
theorem DrE.dict (hp : ∀ m, p (.loc m)) : DrE h c st0 ρ p dDict0 := fun st1 Q Z g q => by
  rw [s_dict0]
  exact q _ _ ((Gr.refl g.hd).app _) (.inr ⟨[], by simp⟩) (hp _)
end
end CM
namespace CM
open PySem L2 PySem.Spec DL
open PyProof.Rows hiding St
def leafD : D → Prop
  | .non => True
  | .bl _ => True
  | .int _ => True
  | .str _ => True
  | _ => False
def sam (st : Sto) : Nat → D → D → Prop
  | 0, t, d => t = d ∧ leafD d
  | n + 1, t, d => (t = d ∧ leafD d) ∨ ∃ ts ds, ((t = .tup ts ∧ d = .tup ds) ∨ ∃ a b, t = .loc a ∧ d = .loc b ∧ st[a]? = some (.lst ts) ∧ st[b]? = some (.lst ds)) ∧
      (ts.length = ds.length ∧ ∀ (k : Nat) x y, ts[k]? = some x → ds[k]? = some y → sam st n x y) ∧ ts.length < 1048576
def sp_is (n : Nat) : DSp := fun ds st Q _ => match ds with
  | [t, d] => sam st n t d ∧ Q (.bl true) st
  | _ => False
@[simp] theorem e_is {n : Nat} {st : Sto} {Q : DK} {Z : DX → Sto → Prop} {t d : D} : sp_is n [t, d] st Q Z = (sam st n t d ∧ Q (.bl true) st) := rfl
/-- a comprehension whose turns leave the store be, each item being one that was there -/
theorem runC_mem {te : DTE} {ρ : Env'} {Q : DK} {G : Sto → Prop} {i : Nat} {α : Type} {inj : α → D} {out : α → D} {st : Sto} (hG : G st) : ∀ (xs : List α) (acc : List D),
    (∀ x ∈ xs, ∀ (QT : DK), QT (out x) st → te (ρ.set i (some (inj x))) st QT Z0) → acc.length + xs.length < 1048576 →
    Q (.loc st.length) (st ++ [.lst (acc ++ xs.map out)]) → runC (gN i) dYes te ρ Q G (xs.map inj) acc st
  | [], acc, _, _, q => by
    rw [List.map_nil, runC_nil]
    exact ⟨hG, by simpa using q⟩
  | x :: xs, acc, ht, hl, q => by
    rw [List.map_cons, runC_cons]
    refine ⟨hG, ?_⟩
    simp only [List.length_cons] at hl
    simp
    refine ht x List.mem_cons_self _ ⟨sizeLine_big (by omega), ?_⟩
    exact runC_mem hG xs (acc ++ [out x]) (fun y hy => ht y (List.mem_cons_of_mem _ hy)) (by simp; omega) (by simpa using q)
end CM
namespace CM
open PySem L2 PySem.Spec DL
open PyProof.Rows hiding St
@[simp] theorem e_law_both {st : Sto} {Q : DK} {Z : DX → Sto → Prop} {r s : Rng} : sp_law_both [encR r, encR s] st Q Z = (wf r ∧ wf s ∧ (allEnds [r, s]).length < 63 ∧ Q (encR (bothR r s)) st) := by
  apply propext
  constructor
  · rintro ⟨r', s', h1, h2, q⟩
    obtain rfl := encR_inj.mp h1
    obtain rfl := encR_inj.mp h2
    exact q
  · exact fun q => ⟨r, s, rfl, rfl, q⟩
@[simp] theorem e_law_either {st : Sto} {Q : DK} {Z : DX → Sto → Prop} {r s : Rng} : sp_law_either [encR r, encR s] st Q Z = (wf r ∧ wf s ∧ (allEnds [r, s]).length < 63 ∧ Q (encR (eitherR r s)) st) := by
  apply propext
  constructor
  · rintro ⟨r', s', h1, h2, q⟩
    obtain rfl := encR_inj.mp h1
    obtain rfl := encR_inj.mp h2
    exact q
  · exact fun q => ⟨r, s, rfl, rfl, q⟩
@[simp] theorem e_law_outside {st : Sto} {Q : DK} {Z : DX → Sto → Prop} {r : Rng} : sp_law_outside [encR r] st Q Z = (wf r ∧ (allEnds [r]).length < 63 ∧ Q (encR (outR r)) st) := by
  apply propext
  constructor
  · rintro ⟨r', h1, q⟩
    obtain rfl := encR_inj.mp h1
    exact q
  · exact fun q => ⟨r, rfl, q⟩
@[simp] theorem e_least_of {st : Sto} {Q : DK} {Z : DX → Sto → Prop} {r : Rng} : sp_least_of [encR r] st Q Z = Q (encO (match r with | [] => none | p :: _ => some p.1)) st := ex1
theorem ends_len : ∀ (r : Rng), (endsOf r).length ≤ 2 * r.length
  | [] => by simp [endsOf]
  | (l, none) :: r => by have := ends_len r; simp [endsOf]; omega
  | (l, some x) :: r => by have := ends_len r; simp [endsOf]; omega
theorem out_len (r : Rng) : (outR r).length ≤ r.length + 1 := length_out r (some 0)
theorem ends_mF : ∀ (ps : Rng) (b : Nat) (e : Option Nat) (m : Nat), m ∈ endsOf (mF (b, e) ps) → m = b ∨ e = some m ∨ m ∈ endsOf ps
  | [], b, e, m, h => by
    simp only [mF] at h
    cases e with
    | none => simp [endsOf] at h; exact .inl h
    | some x =>
      simp [endsOf] at h
      rcases h with rfl | rfl
      · exact .inl rfl
      · exact .inr (.inl rfl)
  | (l, o) :: r, b, e, m, h => by
    have sub : m ∈ endsOf r → m ∈ endsOf ((l, o) :: r) := fun hx => by clear h; cases o <;> simp [endsOf, hx]
    have sub2 : o = some m → m ∈ endsOf ((l, o) :: r) := fun hx => by clear h; subst hx; simp [endsOf]
    have sub3 : m = l → m ∈ endsOf ((l, o) :: r) := fun hx => by clear h; cases o <;> simp [endsOf, hx]
    unfold mF at h
    split at h
    · rcases ends_mF r b (laterE e o) m h with h | h | h
      · exact .inl h
      · cases e with
        | none => cases h
        | some x =>
          cases o with
          | none => cases h
          | some y =>
            simp only [laterE, Option.some.injEq] at h
            by_cases hx : x ≤ y
            · rw [Nat.max_eq_right hx] at h
              exact .inr (.inr (sub2 (by rw [h])))
            · rw [Nat.max_eq_left (by omega)] at h
              exact .inr (.inl (by rw [h]))
      · exact .inr (.inr (sub h))
    · have h' : m = b ∨ e = some m ∨ m ∈ endsOf (mF (l, o) r) := by
        cases e with
        | none =>
          simp [endsOf] at h
          rcases h with h | h
          · exact .inl h
          · exact .inr (.inr h)
        | some x =>
          simp [endsOf] at h
          rcases h with h | h | h
          · exact .inl h
          · exact .inr (.inl (by rw [h]))
          · exact .inr (.inr h)
      rcases h' with h | h | h
      · exact .inl h
      · exact .inr (.inl h)
      · rcases ends_mF r l o m h with h | h | h
        · exact .inr (.inr (sub3 h))
        · exact .inr (.inr (sub2 h))
        · exact .inr (.inr (sub h))
theorem ends_str {ps : Rng} {m : Nat} (h : m ∈ endsOf (strR ps)) : m ∈ endsOf ps := by
  have hp : (sortP ps).Perm ps := List.mergeSort_perm ps leP
  have key : ∀ qs : Rng, m ∈ endsOf (stF qs) → m ∈ endsOf qs := fun qs h => by
    cases qs with
    | nil => exact h
    | cons q r =>
      obtain ⟨b, e⟩ := q
      rcases ends_mF r b e m h with hx | hx | hx
      · clear h; cases e <;> simp [endsOf, hx]
      · clear h; subst hx; simp [endsOf]
      · clear h; cases e <;> simp [endsOf, hx]
  have := key _ h
  rw [ends_mem] at this ⊢
  obtain ⟨p, h1, h2⟩ := this
  exact ⟨p, hp.mem_iff.mp h1, h2⟩
@[simp] theorem len_encR {r : Rng} {st : Sto} {Q : DK} : dLen [encR r] st Q = Q (.int r.length) st := by simp [encR]
@[simp] theorem ix0_encR {p : Nat × Option Nat} {r : Rng} {st : Sto} {Q : DK} : dIx (encR (p :: r)) (.int 0) st Q = Q (encP p) st := by simp [encR]
@[simp] theorem ix0_encP {p : Nat × Option Nat} {st : Sto} {Q : DK} : dIx (encP p) (.int 0) st Q = Q (encV p.1) st := by simp [encP]
@[simp] theorem max_int {i j : Int} {st : Sto} {Q : DK} : dMax2 [.int i, .int j] st Q ↔ Q (.int (if i < j then j else i)) st := by
  have hq : (if PySem.W.dataLt (.int i) (.int j) = true then D.int j else D.int i) = .int (if i < j then j else i) := by
    rw [PySem.W.dataLt_int]
    by_cases h : i < j
    · rw [if_pos h, if_pos (decide_eq_true h)]
    · rw [if_neg h, if_neg (by simpa using h)]
  constructor
  · rintro ⟨k, d, e, h1, h2, _, _, _, _, _, q⟩
    rw [show pdF st k (.int i) = some (.int i) by cases k <;> rfl] at h1
    rw [show pdF st k (.int j) = some (.int j) by cases k <;> rfl] at h2
    cases h1
    cases h2
    rwa [hq] at q
  · intro q
    refine ⟨0, .int i, .int j, rfl, rfl, ⟨by rfl, by rfl, by rfl, by rfl⟩, by simp, by simp, by simp [PyData.depth], by simp [PyData.depth], ?_⟩
    rw [hq]; exact q
end CM
namespace CM
open PySem L2 PySem.Spec DL
open PyProof.Rows hiding St
open TL (tl pre spl numL joinL)
theorem uni_dig : ∀ c, c < 128 → Unicode.isDigit c = (decide (48 ≤ c) && decide (c ≤ 57)) := by decide +kernel
/-- the number that signs tell -/
def okNum (l : List Nat) : Option Nat := if l ≠ [] ∧ l.length ≤ 7 ∧ (∀ c ∈ l, 48 ≤ c ∧ c ≤ 57) ∧ (l = [48] ∨ l.head? ≠ some 48) then some (NumText.digitsVal l) else none
theorem ascii_iff {x : Str} : Txt.isascii x = true ↔ ∀ c ∈ tl x, c < 128 := by
  unfold Txt.isascii tl
  rw [Array.all_eq_true']
  simp [Array.mem_toList_iff]
theorem dig_iff {x : Str} (h : Txt.isascii x = true) : Txt.isdigit x = true ↔ tl x ≠ [] ∧ ∀ c ∈ tl x, 48 ≤ c ∧ c ≤ 57 := by
  have ha := ascii_iff.mp h
  unfold Txt.isdigit
  rw [Bool.and_eq_true, Array.all_eq_true']
  have e1 : (decide (x.length > 0) = true) ↔ tl x ≠ [] := by
    rw [TL.len_tl]
    cases tl x <;> simp
  rw [e1]
  refine and_congr_right fun _ => ?_
  constructor
  · intro q c hc
    have := q c (Array.mem_toList_iff.mp hc)
    rw [uni_dig c (ha c hc)] at this
    simpa using this
  · intro q c hc
    have hc' : c ∈ tl x := Array.mem_toList_iff.mpr hc
    rw [uni_dig c (ha c hc')]
    simpa using q c hc'
theorem starts_pre (x y : Str) : Txt.startswith x y = pre (tl y) (tl x) := by
  have e : Txt.startswith x y = (decide (0 + y.length ≤ x.length) && Builtin.Str.subAt x y 0) := rfl
  rw [e, PySem.StrLaws.subAt_eq, List.drop_zero]
  have hx := TL.len_tl x
  have hy := TL.len_tl y
  show _ = ((tl x).take (tl y).length == tl y)
  rw [show x.cps.toList = tl x from rfl, show y.cps.toList = tl y from rfl, ← hy]
  by_cases h : 0 + y.length ≤ x.length
  · simp [h]
    intro _
    omega
  · have : ((tl x).take y.length == tl y) = false := by
      rw [beq_eq_false_iff_ne]
      intro z
      have := congrArg List.length z
      rw [List.length_take, ← hy, ← hx] at this
      omega
    rw [this, Bool.and_false]
def encN : Option Nat → D
  | none => .non
  | some n => .int n
/-- the number that signs tell, at most so many of them -/
def okNumD (m : Nat) (l : List Nat) : Option Nat := if l ≠ [] ∧ l.length ≤ m ∧ (∀ c ∈ l, 48 ≤ c ∧ c ≤ 57) ∧ (l = [48] ∨ l.head? ≠ some 48) then some (NumText.digitsVal l) else none
def sp_told_number : DSp := fun ds st Q _ => match ds with
  | [.int m, .str t] => 0 ≤ m ∧ m ≤ 100 ∧ t.length ≤ 1000000 ∧ Q (encN (okNumD m.toNat (tl t))) st
  | _ => False
@[simp] theorem e_told_numberD {st : Sto} {Q : DK} {Z : DX → Sto → Prop} {m : Int} {t : Str} : sp_told_number [.int m, .str t] st Q Z = (0 ≤ m ∧ m ≤ 100 ∧ t.length ≤ 1000000 ∧ Q (encN (okNumD m.toNat (tl t))) st) := rfl
theorem str_eq {x y : Str} : x = y ↔ tl x = tl y := ⟨fun h => by rw [h], TL.ext_tl⟩
theorem tl_0 : tl ("0" : Str) = [48] := by rw [show ("0" : Str) = Str.ofString "0" from rfl, TL.tl_ofString]; rfl
theorem r_told_number : Rd 2 sp_told_number RD.t_told_number RD.N_told_number := by
  intro ds st Q Z hl h
  match ds, hl, h with
  | [.int m, .str t], _, hx =>
    obtain ⟨hm0, hm1, ht, q⟩ := hx
    obtain ⟨M, rfl⟩ : ∃ M : Nat, m = M := ⟨m.toNat, by omega⟩
    rw [Int.toNat_natCast] at q
    have hsz : t.length ≤ sizeLine := by have := sizeLine_big (n := t.length) (by omega); omega
    have hlen := TL.len_tl t
    unfold RD.t_told_number
    have none' : okNumD M (tl t) = none → DL.Back st Q .non st := fun e => by rw [e] at q; exact .inl q
    by_cases h7 : (M : Int) < t.length
    · simp [hsz, h7]
      exact none' (by unfold okNumD; rw [if_neg]; rintro ⟨_, h, _⟩; omega)
    cases ha : Txt.isascii t with
    | false =>
      simp [hsz, h7, ha]
      refine none' ?_
      unfold okNumD
      rw [if_neg]
      rintro ⟨_, _, h, _⟩
      rw [ascii_iff.mpr fun c hc => by have := h c hc; omega] at ha
      cases ha
    | true =>
      have hd := dig_iff ha
      cases he : Txt.isdigit t with
      | false =>
        simp [hsz, h7, ha, he]
        refine none' ?_
        unfold okNumD
        rw [if_neg]
        rintro ⟨h1, _, h2, _⟩
        rw [hd.mpr ⟨h1, h2⟩] at he
        cases he
      | true =>
        obtain ⟨h1, h2⟩ := hd.mp he
        have hs0 : Txt.startswith t "0" = decide ((tl t).head? = some 48) := by
          rw [starts_pre, tl_0]
          cases e : tl t with
          | nil => exact absurd e h1
          | cons c r =>
            show ([c] == [48]) = _
            by_cases hc : c = 48 <;> simp [hc]
        have h0 : (t = "0") ↔ tl t = [48] := by rw [str_eq, tl_0]
        simp [hsz, h7, ha, he, hs0]
        by_cases hz : tl t = [48] ∨ (tl t).head? ≠ some 48
        · have e1 : ¬ (¬ t = "0" ∧ (tl t).head? = some 48) := fun ⟨a, b⟩ => hz.elim (fun z => a (h0.mpr z)) fun z => z b
          have e2 : okNumD M (tl t) = some (NumText.digitsVal (tl t)) := by
            unfold okNumD
            rw [if_pos ⟨h1, by omega, h2, hz⟩]
          have e3 : intText? t = some ((NumText.digitsVal (tl t) : Nat) : Int) := intText_digits (x := t) h2 h1 (by omega)
          rw [e2] at q
          by_cases a : t = "0"
          · simp [a]
            subst a
            exact ⟨_, e3, by omega, .inl q⟩
          · have b : ¬ (tl t).head? = some 48 := fun z => e1 ⟨a, z⟩
            simp [a, b]
            exact ⟨_, e3, by omega, .inl q⟩
        · have a : ¬ t = "0" := fun z => hz (.inl (h0.mp z))
          have b : (tl t).head? = some 48 := Decidable.not_not.mp fun z => hz (.inr z)
          simp [a, b]
          exact none' (by unfold okNumD; rw [if_neg]; rintro ⟨_, _, _, h⟩; exact hz h)
end CM
namespace CM
open PySem L2 PySem.Spec DL
open PyProof.Rows hiding St
open TL (tl pre spl numL joinL)
theorem joinL_len (S : List Nat) : ∀ {ps : List (List Nat)} {p : List Nat}, p ∈ ps → p.length ≤ (joinL S ps).length
  | [q], p, h => by rw [List.mem_singleton.mp h]; exact Nat.le_refl _
  | q :: q2 :: r, p, h => by
    show _ ≤ (q ++ (S ++ joinL S (q2 :: r))).length
    rw [List.length_append, List.length_append]
    rcases List.mem_cons.mp h with rfl | h
    · omega
    · have := joinL_len S h
      omega
theorem split_len {x y w : Str} (h : w ∈ Txt.split x y) : w.length ≤ x.length := by
  have e := PySem.StrLaws.join_split x y
  have e2 := TL.tl_join y (Txt.split x y)
  rw [e] at e2
  have := joinL_len (tl y) (List.mem_map_of_mem (f := tl) h)
  rw [← e2, ← TL.len_tl, ← TL.len_tl] at this
  exact this
theorem tl_dot : tl ("." : Str) = [46] := by rw [show ("." : Str) = Str.ofString "." from rfl, TL.tl_ofString]; rfl
theorem cps256 {y : Str} (h : ∀ c ∈ tl y, c < 256) : y.cps.all (· < 256) = true := by
  rw [Array.all_eq_true']
  intro c hc
  simpa using h c (Array.mem_toList_iff.mpr hc)
theorem split_tl {x y : Str} {S : List Nat} (e : tl y = S) (hS : S ≠ []) (h : ∀ c ∈ S, c < 256) : (Txt.split x y).map tl = spl S 0 [] (tl x) := by
  subst e
  exact TL.split_spl x y hS (TL.kind_ok (cps256 h))
/-- the version that signs tell -/
def verText (l : List Nat) : Option Nat := verM 1000000 (.tup ((spl [46] 0 [] l).map fun w => encN (okNum w)))
def sp_told_version : DSp := fun ds st Q _ => match ds with
  | [.str t] => t.length ≤ 1000000 ∧ Q (encO (verText (tl t))) st
  | _ => False
@[simp] theorem e_told_version {st : Sto} {Q : DK} {Z : DX → Sto → Prop} {t : Str} : sp_told_version [.str t] st Q Z = (t.length ≤ 1000000 ∧ Q (encO (verText (tl t))) st) := rfl
theorem ok_encN {st : Sto} {o : Option Nat} : ok st (encN o) := by cases o <;> simp [encN]
theorem sz1m {n : Nat} (h : n ≤ 1000000) : n + 2 ≤ sizeLine := by have := sizeLine_big (n := n + 2) (by omega); omega
theorem r_told_version : Rd 1 sp_told_version (RD.t_told_version sp_is_version sp_told_number) RD.N_told_version := by
  intro ds st Q Z hl h
  match ds, hl, h with
  | [.str t], _, hx =>
    obtain ⟨ht, q⟩ := hx
    unfold RD.t_told_version
    rw [s_seq]
    generalize hR : dSeq _ _ _ = R
    have hcut := split_tl (x := t) tl_dot (by simp) (by simp)
    simp
    refine ⟨by decide, sz1m ht, ?_⟩
    have hk : (st ++ [Ob.lst ((Txt.split t ".").map D.str)])[st.length]? = some (.lst ((Txt.split t ".").map D.str)) := getElem?_push
    have hcount : (Txt.split t ".").length ≤ t.length + 2 := PyProof.Rows.split_le t "."
    refine runC_mem (inj := D.str) (out := fun w => encN (okNum (tl w))) hk (Txt.split t ".") [] (fun w hw QT qt => ?_) (by simp; omega) ?_
    · unfold RD.e_told_version_1
      simp
      exact ⟨by have := split_len hw; omega, qt⟩
    have e : (Txt.split t ".").map (fun w => encN (okNum (tl w))) = (spl [46] 0 [] (tl t)).map fun w => encN (okNum w) := by rw [← hcut, List.map_map]; rfl
    simp [e]
    generalize hw : (spl [46] 0 [] (tl t)).map (fun w => encN (okNum w)) = ws
    have hok : ∀ st', ok st' (.tup ws) := fun st' => by
      simp only [ok, oks_iff]
      intro d hd
      rw [← hw] at hd
      obtain ⟨w, _, rfl⟩ := List.mem_map.mp hd
      exact ok_encN
    have hv : verText (tl t) = verM 1000000 (.tup ws) := by unfold verText; rw [hw]
    rw [hv] at q
    subst hR
    simp
    refine ⟨by simpa using hok _, ?_⟩
    cases ev : verM 1000000 (.tup ws) with
    | none =>
      rw [ev] at q
      simp
      exact back_tup ⟨_, rfl⟩ rfl q
    | some n =>
      obtain ⟨e1, _⟩ := ver_some ev
      rw [ev] at q
      rw [e1]
      simp
      exact back_tup ⟨_, rfl⟩ (blw_encV _ _) q
end CM
namespace CM
open PySem L2 PySem.Spec DL
open PyProof.Rows hiding St
open TL (tl pre spl numL joinL)
def t3 (a b c : Int) : D := .tup [.int a, .int b, .int c]
def behD (n : Nat) : D := t3 (vA n) (vB n) ((vC n : Int) + 1)
def carD (n : Nat) : D := if 0 < vA n then t3 ((vA n : Int) + 1) 0 0 else if 0 < vB n then t3 0 ((vB n : Int) + 1) 0 else t3 0 0 ((vC n : Int) + 1)
def sp_behind : DSp := fun ds st Q _ => match ds with
  | [d] => ∃ n, d = encV n ∧ Q (behD n) st
  | _ => False
def sp_caret : DSp := fun ds st Q _ => match ds with
  | [d] => ∃ n, d = encV n ∧ Q (carD n) st
  | _ => False
section
variable {st : Sto} {Q : DK} {Z : DX → Sto → Prop} {n : Nat}
theorem exV {p : Nat → Prop} : (∃ m, encV n = encV m ∧ p m) = p n := by
  apply propext
  constructor
  · rintro ⟨m, e, h⟩
    rw [encV_inj] at e
    subst e
    exact h
  · intro h; exact ⟨n, rfl, h⟩
@[simp] theorem e_behind : sp_behind [encV n] st Q Z = Q (behD n) st := exV
@[simp] theorem e_caret : sp_caret [encV n] st Q Z = Q (carD n) st := exV
end
def signs : List Str := ["<=", ">=", "<", ">", "!", "^", "~"]
def signOf (l : List Nat) : Str := (signs.find? fun s => pre (tl s) l).getD ""
def sp_sign_of : DSp := fun ds st Q _ => match ds with
  | [.str t] => Q (.str (signOf (tl t))) st
  | _ => False
@[simp] theorem e_sign_of {st : Sto} {Q : DK} {Z : DX → Sto → Prop} {t : Str} : sp_sign_of [.str t] st Q Z = Q (.str (signOf (tl t))) st := rfl
def rawOut (n : Nat) (d : D) : D := .tup ((if 0 < n then [.tup [encV 0, encV n]] else []) ++ [.tup [d, .non]])
def rosD (s : Str) (n : Nat) : D :=
  if s = "<" then encR (outR [(n, none)]) else
  if s = "<=" then .tup [.tup [encV 0, behD n]] else
  if s = ">" then .tup [.tup [behD n, .non]] else
  if s = ">=" then encR [(n, none)] else
  if s = "!" then rawOut n (behD n) else
  if s = "^" then .tup [.tup [encV n, carD n]] else
  if s = "~" then .tup [.tup [encV n, t3 (vA n) ((vB n : Int) + 1) 0]] else
  .tup [.tup [encV n, behD n]]
def sp_ros : DSp := fun ds st Q _ => match ds with
  | [.str s, d] => ∃ n, d = encV n ∧ okV n ∧ Q (rosD s n) st
  | _ => False
@[simp] theorem e_ros {st : Sto} {Q : DK} {Z : DX → Sto → Prop} {s : Str} {n : Nat} : sp_ros [.str s, encV n] st Q Z = (okV n ∧ Q (rosD s n) st) := exV
theorem szk (n : Nat) (h : n < 1000) : n ≤ sizeLine := Nat.le_of_lt (sizeLine_big (by omega))
end CM
namespace CM
open PySem L2 PySem.Spec DL
open PyProof.Rows hiding St
open TL (tl pre spl numL joinL)
def encOR : Option Rng → D
  | none => .non
  | some r => encR r
def everyR : Rng := [(0, none)]
def partOf (l : List Nat) : Option Rng := if l = [42] then some everyR else match verText (l.drop (tl (signOf l)).length) with
  | none => none
  | some n => rngOf (rosD (signOf l) n)
def sp_told_part : DSp := fun ds st Q _ => match ds with
  | [.str t] => t.length ≤ 1000000 ∧ Q (encOR (partOf (tl t))) st
  | _ => False
@[simp] theorem e_told_part {st : Sto} {Q : DK} {Z : DX → Sto → Prop} {t : Str} : sp_told_part [.str t] st Q Z = (t.length ≤ 1000000 ∧ Q (encOR (partOf (tl t))) st) := rfl
theorem tl_cut (t : Str) (k : Nat) : tl (cutS t (some (k : Int)) none) = (tl t).drop k := by
  have hl := TL.len_tl t
  show ((tl t).drop (_root_.HT.sIx t.length 0 (some (k : Int)))).take (_root_.HT.sIx t.length t.length none - _root_.HT.sIx t.length 0 (some (k : Int))) = _
  have e1 : _root_.HT.sIx t.length t.length none = t.length := rfl
  have e2 : _root_.HT.sIx t.length 0 (some (k : Int)) = min k t.length := by
    show (if ((k : Int)) < 0 then ((k : Int) + (t.length : Int)).toNat else min (k : Int).toNat t.length) = _
    rw [if_neg (by omega)]
    rfl
  rw [e1, e2]
  by_cases h : k ≤ t.length
  · rw [Nat.min_eq_left h]
    rw [List.take_of_length_le (by rw [List.length_drop]; omega)]
  · rw [Nat.min_eq_right (by omega), Nat.sub_self, List.take_zero, List.drop_eq_nil_of_le (by omega)]
end CM
namespace CM
open PySem L2 PySem.Spec DL
open PyProof.Rows hiding St
open TL (tl pre spl numL joinL)
/-- what the law tells of a word and a version -/
def lawPart (w : Str) (n : Nat) : Option Rng := if w = "*" then some everyR else rngOf (rosD w n)
def words : List Str := ["*", "<=", ">=", "<", ">", "!", "^", "~", ""]
def sp_law_part : DSp := fun ds st Q _ => match ds with
  | [.str w, d] => ∃ n, d = encV n ∧ w ∈ words ∧ okV n ∧ Q (encOR (lawPart w n)) st
  | _ => False
@[simp] theorem e_law_part {st : Sto} {Q : DK} {Z : DX → Sto → Prop} {w : Str} {n : Nat} : sp_law_part [.str w, encV n] st Q Z = (w ∈ words ∧ okV n ∧ Q (encOR (lawPart w n)) st) := exV
theorem beh_lt {n : Nat} (h : vC n < 1000000) : behD n = encV (n + 1) := by
  unfold behD t3 encV vA vB vC at *
  have h1 : (n + 1) / 1000001 / 1000001 = n / 1000001 / 1000001 := by omega
  have h2 : (n + 1) / 1000001 % 1000001 = n / 1000001 % 1000001 := by omega
  have h3 : (n + 1) % 1000001 = n % 1000001 + 1 := by omega
  rw [h1, h2, h3]
  rfl
theorem okV_lt {n : Nat} (h : okV n) (hc : vC n < 1000000) : okV (n + 1) := by
  unfold okV vA vC at *
  omega
theorem rngOf_one {d : D} : rngOf (.tup [d]) = (pairOf d).map fun p => [p] := by
  show rngL none [d] = _
  unfold rngL
  cases e : pairOf d with
  | none => rfl
  | some p =>
    obtain ⟨l, h⟩ := p
    rfl
theorem pair_enc {n : Nat} {d : D} (h : okV n) : pairOf (.tup [encV n, d]) = match endOf d with | some none => some (n, none) | some (some x) => if n < x then some (n, some x) else none | none => none := by
  unfold pairOf
  dsimp only
  rw [ver_enc h]
  cases endOf d with
  | none => rfl
  | some o => cases o <;> rfl
theorem end_t3 (a b c : Int) : endOf (t3 a b c) = (verM 1000000 (t3 a b c)).map some := by
  unfold endOf t3
  dsimp only
  cases verM 1000000 (.tup [.int a, .int b, .int c]) <;> rfl
theorem wf1 {n : Nat} (h : okV n) : wf [(n, none)] := ⟨⟨h, fun _ e => by cases e⟩, rfl, trivial⟩
theorem wf2 {n x : Nat} (h : okV n) (hx : okV x) (hl : n < x) : wf [(n, some x)] := ⟨⟨h, fun _ e => by cases e; exact ⟨hx, hl⟩⟩, rfl, trivial⟩
theorem ros_some {n : Nat} (hn : okV n) (hc : vC n < 1000000) : rngOf (rosD "" n) = some [(n, some (n + 1))] ∧ rngOf (rosD "!" n) = some (outR [(n, some (n + 1))]) ∧ rngOf (rosD "<=" n) = some [(0, some (n + 1))] ∧ rngOf (rosD ">" n) = some [(n + 1, none)] := by
  have hb := beh_lt hc
  have h1 := okV_lt hn hc
  refine ⟨?_, ?_, ?_, ?_⟩
  · show rngOf (.tup [.tup [encV n, behD n]]) = _
    rw [hb]
    exact rngOf_enc (r := [(n, some (n + 1))]) (wf2 hn h1 (by omega))
  · show rngOf (rawOut n (behD n)) = _
    rw [hb]
    have : rawOut n (encV (n + 1)) = encR (outR [(n, some (n + 1))]) := by
      unfold rawOut outR
      by_cases h0 : 0 < n
      · simp [h0, outF, encR, encP, encO]
      · simp [h0, outF, encR, encP, encO]
    rw [this]
    exact rngOf_enc (wf_out (wf2 hn h1 (by omega)))
  · show rngOf (.tup [.tup [encV 0, behD n]]) = _
    rw [hb]
    exact rngOf_enc (r := [(0, some (n + 1))]) (wf2 okV0 h1 (by omega))
  · show rngOf (.tup [.tup [behD n, .non]]) = _
    rw [hb]
    exact rngOf_enc (r := [(n + 1, none)]) (wf1 h1)
/-- where the end is a triple told -/
theorem ros_end {n a b c : Nat} (hn : okV n) (hlt : a ≤ 1000000 → b ≤ 1000000 → c ≤ 1000000 → n < mkV a b c) :
    rngOf (.tup [.tup [encV n, t3 a b c]]) = if a ≤ 1000000 ∧ b ≤ 1000000 ∧ c ≤ 1000000 then some [(n, some (mkV a b c))] else none := by
  have big : ∀ {k : Nat}, ¬ k ≤ 1000000 → numMost 1000000 (.int k) = none := fun h => by unfold numMost; rw [num_int]; simp [h]
  rw [rngOf_one, pair_enc hn, end_t3]
  by_cases ha : a ≤ 1000000
  · by_cases hb : b ≤ 1000000
    · by_cases hc : c ≤ 1000000
      · rw [if_pos ⟨ha, hb, hc⟩]
        have : verM 1000000 (t3 a b c) = some (mkV a b c) := by simp only [verM, t3, most_int ha, most_int hb, most_int hc]
        rw [this]
        simp [hlt ha hb hc]
      · rw [if_neg fun h => hc h.2.2]
        have : verM 1000000 (t3 a b c) = none := by simp only [verM, t3, most_int ha, most_int hb, big hc]
        rw [this]
        rfl
    · rw [if_neg fun h => hb h.2.1]
      have : verM 1000000 (t3 a b c) = none := by simp only [verM, t3, most_int ha, big hb]
      rw [this]
      rfl
  · rw [if_neg fun h => ha h.1]
    have : verM 1000000 (t3 a b c) = none := by simp only [verM, t3, big ha]
    rw [this]
    rfl
end CM
namespace CM
open PySem L2 PySem.Spec DL
open PyProof.Rows hiding St
open TL (tl pre spl numL joinL)
theorem k12 : (">=" : Str) ≠ "*" := by decide
theorem k13 : ("<" : Str) ≠ "*" := by decide
theorem car_nat (n : Nat) : ∃ a b c : Nat, carD n = t3 a b c ∧ (okV n → a ≤ 1000000 → b ≤ 1000000 → c ≤ 1000000 → n < mkV a b c) ∧
    (a, b, c) = (if 0 < vA n then (vA n + 1, 0, 0) else if 0 < vB n then (0, vB n + 1, 0) else (0, 0, vC n + 1)) := by
  have hm := mkV_eq n
  have hb := vB_le n
  have hc := vC_le n
  unfold carD
  by_cases h1 : 0 < vA n
  · rw [if_pos h1, if_pos h1]
    exact ⟨_, _, _, by rfl, fun _ _ _ _ => by unfold mkV at *; omega, rfl⟩
  · rw [if_neg h1, if_neg h1]
    by_cases h2 : 0 < vB n
    · rw [if_pos h2, if_pos h2]
      exact ⟨_, _, _, by rfl, fun _ _ _ _ => by unfold mkV at *; omega, rfl⟩
    · rw [if_neg h2, if_neg h2]
      exact ⟨_, _, _, by rfl, fun _ _ _ _ => by unfold mkV at *; omega, rfl⟩
theorem k1c : ("^" : Str) ≠ "*" := by decide
theorem k1t : ("~" : Str) ≠ "*" := by decide
end CM
namespace CM
open PySem L2 PySem.Spec DL
open PyProof.Rows hiding St
open TL (tl pre spl numL joinL)
theorem kxb : ("!" : Str) ≠ "*" := by decide
theorem kxl : ("<=" : Str) ≠ "*" := by decide
theorem kxg : (">" : Str) ≠ "*" := by decide
theorem kxe : ("" : Str) ≠ "*" := by decide
end CM
namespace CM
open PySem L2 PySem.Spec DL
open PyProof.Rows hiding St
open TL (tl pre spl numL joinL)
def SL (l : List Nat) : Str := ⟨l.toArray⟩
def vL (n : Nat) : List Nat := numL (vA n) ++ ([46] ++ (numL (vB n) ++ ([46] ++ numL (vC n))))
def vText (n : Nat) : Str := SL (vL n)
theorem num7 {n : Nat} (h : n ≤ 1000001) : (numL n).length ≤ 7 := TL.numL_len (by decide) (by omega)
theorem log_small {n : Nat} (h : n ≤ 1000001) : (n : Int).natAbs.log2 < 1920 := by
  rw [Int.natAbs_natCast]
  by_cases h0 : n = 0
  · rw [h0]; decide
  · refine (Nat.log2_lt h0).mpr (Nat.lt_of_le_of_lt h ?_)
    exact Nat.lt_of_lt_of_le (by decide : 1000001 < 2 ^ 20) (Nat.pow_le_pow_right (by decide) (by decide))
theorem vL_len {n : Nat} (h : okV n) : (vL n).length ≤ 23 := by
  have h1 := num7 (n := vA n) (by have : vA n ≤ 1000000 := h; omega)
  have h2 := num7 (n := vB n) (by have := vB_le n; omega)
  have h3 := num7 (n := vC n) (by have := vC_le n; omega)
  unfold vL
  simp only [List.length_append, List.length_singleton]
  omega
theorem vText_len {n : Nat} (h : okV n) : (vText n).length ≤ 23 := by rw [TL.len_tl]; exact vL_len h
def sp_vtext : DSp := fun ds st Q _ => match ds with
  | [d] => ∃ n, d = encV n ∧ okV n ∧ Q (.str (vText n)) st
  | _ => False
@[simp] theorem e_vtext {st : Sto} {Q : DK} {Z : DX → Sto → Prop} {n : Nat} : sp_vtext [encV n] st Q Z = (okV n ∧ Q (.str (vText n)) st) := exV
theorem tl_empty : tl Str.empty = [] := rfl
end CM
namespace CM
open PySem L2 PySem.Spec DL
open PyProof.Rows hiding St
open TL (tl pre spl numL joinL)
def pText (w : Str) (n : Nat) : Str := if w = "*" then "*" else w ++ vText n
def sp_ptext : DSp := fun ds st Q _ => match ds with
  | [.str w, d] => ∃ n, d = encV n ∧ okV n ∧ w ∈ words ∧ Q (.str (pText w n)) st
  | _ => False
@[simp] theorem e_ptext {st : Sto} {Q : DK} {Z : DX → Sto → Prop} {w : Str} {n : Nat} : sp_ptext [.str w, encV n] st Q Z = (okV n ∧ w ∈ words ∧ Q (.str (pText w n)) st) := exV
def sText (l : Nat) : Option Nat → Str
  | none => (">=" : Str) ++ vText l
  | some h => if vC l < 1000000 ∧ h = l + 1 then vText l else (">=" : Str) ++ vText l ++ (", <" : Str) ++ vText h
theorem app_len (a b : Str) : (a ++ b).length = a.length + b.length := by
  rw [TL.len_tl, TL.tl_append, List.length_append, ← TL.len_tl, ← TL.len_tl]
def sp_stext : DSp := fun ds st Q _ => match ds with
  | [d, e] => ∃ l o, d = encV l ∧ e = encO o ∧ okP (l, o) ∧ Q (.str (sText l o)) st
  | _ => False
@[simp] theorem e_stext {st : Sto} {Q : DK} {Z : DX → Sto → Prop} {l : Nat} {o : Option Nat} : sp_stext [encV l, encO o] st Q Z = (okP (l, o) ∧ Q (.str (sText l o)) st) := by
  apply propext
  constructor
  · rintro ⟨l', o', h1, h2, q⟩
    rw [encV_inj] at h1
    rw [encO_inj] at h2
    subst h1 h2
    exact q
  · exact fun q => ⟨l, o, rfl, rfl, q⟩
theorem emp_app (x : Str) : Str.empty ++ x = x := TL.ext_tl (by rw [TL.tl_append, tl_empty, List.nil_append])
end CM
namespace CM
open PySem L2 PySem.Spec DL
open PyProof.Rows hiding St
@[simp] theorem e_oddv {st : Sto} {Q : DK} {Z : DX → Sto → Prop} {h : Nat} {v : D} : sp_oddv [.loc h, v] st Q Z = ∃ c n, Hd st h c ∧ v = encV n ∧ ∀ d st', Gr h c st st' → ok st' d → Q d st' := rfl
def sp_oddr : DSp := fun ds st Q _ => match ds with
  | [.loc h, r] => ∃ c rng, Hd st h c ∧ r = encR rng ∧ wf rng ∧ rng.length ≤ 6 ∧ ∀ d st', Gr h c st st' → ok st' d → (∀ s, d = encR s → s.length ≤ 13) → Q d st'
  | _ => False
@[simp] theorem e_oddr {st : Sto} {Q : DK} {Z : DX → Sto → Prop} {h : Nat} {r : D} : sp_oddr [.loc h, r] st Q Z = ∃ c rng, Hd st h c ∧ r = encR rng ∧ wf rng ∧ rng.length ≤ 6 ∧ ∀ d st', Gr h c st st' → ok st' d → (∀ s, d = encR s → s.length ≤ 13) → Q d st' := rfl
def p8 (d : D) : Prop := ∀ s, d = encR s → s.length ≤ 13
section
variable {h c : Nat} {st0 : Sto} {ρ : Env'} {p : D → Prop} {n : Nat} {te : DTE} {t : DTA}
theorem DrE.some {i j m : Nat} {fs : List D} (hi : ρ[i]? = some (some (.loc h))) (hj : ρ[j]? = some (some (.loc m))) (hm : st0[m]? = some (.lst fs)) (hne : m ≠ h) (ho : oks st0 fs) (hl : 0 < fs.length ∧ fs.length < 1000000000) (hp : ∀ e ∈ fs, p e) : DrE h c st0 ρ p (dCall 2 sp_some (dCons (dVar i) (dCons (dVar j) dNil))) := fun st1 Q Z g q => by
  have k := g.get hm hne
  simp [hi, hj]
  refine ⟨c, g.hd, fs, by simp [k], fun e => hne e, hl.1, hl.2, fun e st' he H s => ?_⟩
  have g2 := (Gr.refl g.hd).sm s H
  exact q e st' g2 (ok_mono (g.trans g2).kin (oks_iff.mp ho e he)) (hp e he)
end
end CM
namespace CM
open PySem L2 PySem.Spec DL
open PyProof.Rows hiding St
def sp_near : DSp := fun ds st Q _ => match ds with
  | [.loc h, .loc m] => ∃ c rs, Hd st h c ∧ m ≠ h ∧ st[m]? = some (.lst (rs.map encR)) ∧ (∀ r ∈ rs, wf r ∧ smE r) ∧ (allEnds rs).length < 63 ∧ ∀ n st', Hd st' h c → Sm h st st' → Q (encV n) st'
  | _ => False
@[simp] theorem e_near {st : Sto} {Q : DK} {Z : DX → Sto → Prop} {h m : Nat} : sp_near [.loc h, .loc m] st Q Z = ∃ c rs, Hd st h c ∧ m ≠ h ∧ st[m]? = some (.lst (rs.map encR)) ∧ (∀ r ∈ rs, wf r ∧ smE r) ∧ (allEnds rs).length < 63 ∧ ∀ n st', Hd st' h c → Sm h st st' → Q (encV n) st' := rfl
end CM
namespace CM
open PySem L2 PySem.Spec DL
open PyProof.Rows hiding St
open TL (tl pre spl numL joinL)
def sTx (p : Nat × Option Nat) : Str := sText p.1 p.2
def rText (r : Rng) : Str := if r = everyR then "*" else if r = [] then "<0.0.0" else Txt.join " | " (r.map sTx)
def sp_rtext : DSp := fun ds st Q _ => match ds with
  | [d] => ∃ r, d = encR r ∧ wf r ∧ r.length ≤ 1000 ∧ Q (.str (rText r)) st
  | _ => False
@[simp] theorem e_rtext {st : Sto} {Q : DK} {Z : DX → Sto → Prop} {r : Rng} : sp_rtext [encR r] st Q Z = (wf r ∧ r.length ≤ 1000 ∧ Q (.str (rText r)) st) := ex1
theorem sum_le {α : Type} (f : α → Nat) (k : Nat) : ∀ xs : List α, (∀ x ∈ xs, f x ≤ k) → (xs.map f).sum ≤ xs.length * k
  | [], _ => by simp
  | x :: xs, h => by
    have h1 := h x List.mem_cons_self
    have h2 := sum_le f k xs fun y hy => h y (List.mem_cons_of_mem _ hy)
    simp only [List.map_cons, List.sum_cons, List.length_cons, Nat.succ_mul]
    omega
def sp_words : DSp := fun ds st Q _ => match ds with
  | [.loc h] => ∃ c, Hd st h c ∧ ∀ w n st', w ∈ words → smallV n → Hd st' h c → Sm h st st' → Q (.tup [.str w, encV n]) st'
  | _ => False
@[simp] theorem e_words {st : Sto} {Q : DK} {Z : DX → Sto → Prop} {h : Nat} : sp_words [.loc h] st Q Z = ∃ c, Hd st h c ∧ ∀ w n st', w ∈ words → smallV n → Hd st' h c → Sm h st st' → Q (.tup [.str w, encV n]) st' := rfl
end CM
namespace CM
open PySem L2 PySem.Spec DL
open PyProof.Rows hiding St
open TL (tl pre spl numL joinL)
theorem numL_head : ∀ n : Nat, 0 < n → (numL n).head? ≠ some 48 := by
  intro n
  induction n using Nat.strongRecOn with
  | _ n ih =>
    intro h
    by_cases h10 : n < 10
    · rw [TL.numL_lt h10]
      simp
      omega
    · rw [TL.numL_step (by omega)]
      have := ih (n / 10) (by omega) (by omega)
      have hne := TL.numL_ne (n / 10)
      cases e : numL (n / 10) with
      | nil => exact absurd e hne
      | cons c r =>
        rw [e] at this
        simpa using this
theorem dot_free (n : Nat) : 46 ∉ numL n := TL.numL_free (by omega)
end CM
namespace CM
open PySem L2 PySem.Spec DL
open PyProof.Rows hiding St
open TL (tl pre spl numL joinL)
def altsOf (l : List Nat) : List (List (Option Rng)) := (spl [32, 124, 32] 0 [] l).map fun a => (spl [44, 32] 0 [] a).map partOf
def altR (rs : List Rng) : Rng := outR (strR (rs.flatMap outR))
def readR (as : List (List Rng)) : Rng := strR (as.flatMap altR)
structure Mild (as : List (List Rng)) : Prop where
  len : as.length ≤ 1000
  each : ∀ a ∈ as, a.length ≤ 20 ∧ ∀ r ∈ a, wf r ∧ r.length ≤ 10
def sp_read : DSp := fun ds st Q _ => match ds with
  | [.str t] => ∃ as : List (List Rng), altsOf (tl t) = as.map (fun a => a.map some) ∧ t.length ≤ 1000000 ∧ Mild as ∧ Q (encR (readR as)) st
  | _ => False
/-- st0 stands at the beginning -/
def Pre (st0 st : Sto) : Prop := ∃ g, st = st0 ++ g
theorem Pre.app {st0 st : Sto} (h : Pre st0 st) (g : Sto) : Pre st0 (st ++ g) := by
  obtain ⟨x, rfl⟩ := h
  exact ⟨x ++ g, by simp⟩
theorem Pre.set {st0 st : Sto} (h : Pre st0 st) {n : Nat} (hn : st0.length ≤ n) (o : Ob) : Pre st0 (st.set n o) := by
  obtain ⟨x, rfl⟩ := h
  exact ⟨x.set (n - st0.length) o, by rw [List.set_append_right _ _ hn]⟩
theorem Pre.len {st0 st : Sto} (h : Pre st0 st) : st0.length ≤ st.length := by
  obtain ⟨x, rfl⟩ := h
  simp
end CM
namespace CM
open PySem L2 PySem.Spec DL
open PyProof.Rows hiding St
open TL (tl pre spl numL joinL)
theorem vL_in {n c : Nat} (h : c ∈ vL n) : (48 ≤ c ∧ c ≤ 57) ∨ c = 46 := by
  unfold vL at h
  simp only [List.mem_append, List.mem_singleton] at h
  rcases h with h | h | h | h | h
  · exact .inl (TL.numL_digits _ c h)
  · exact .inr h
  · exact .inl (TL.numL_digits _ c h)
  · exact .inr h
  · exact .inl (TL.numL_digits _ c h)
theorem mem_join {S : List Nat} {c : Nat} : ∀ {ps : List (List Nat)}, c ∈ joinL S ps → c ∈ S ∨ ∃ p ∈ ps, c ∈ p
  | [], h => by simp [joinL] at h
  | [p], h => .inr ⟨p, by simp, h⟩
  | p :: q :: r, h => by
    have h' : c ∈ p ++ (S ++ joinL S (q :: r)) := h
    simp only [List.mem_append] at h'
    rcases h' with h | h | h
    · exact .inr ⟨p, by simp, h⟩
    · exact .inl h
    · rcases mem_join h with h | ⟨z, hz, h⟩
      · exact .inl h
      · exact .inr ⟨z, List.mem_cons_of_mem _ hz, h⟩
theorem join_len {S : List Nat} {k : Nat} : ∀ {ps : List (List Nat)}, (∀ p ∈ ps, p.length ≤ k) → (joinL S ps).length ≤ ps.length * (k + S.length)
  | [], _ => by simp [joinL]
  | [p], h => by have := h p (by simp); simp [joinL]; omega
  | p :: q :: r, h => by
    have h1 := h p (by simp)
    have h2 := join_len (S := S) (ps := q :: r) fun z hz => h z (List.mem_cons_of_mem _ hz)
    show (p ++ (S ++ joinL S (q :: r))).length ≤ _
    simp only [List.length_append, List.length_cons, Nat.succ_mul] at h2 ⊢
    omega
theorem lawP_ge {n : Nat} (h : okV n) : lawPart ">=" n = some [(n, none)] := by
  unfold lawPart
  rw [if_neg k12]
  exact rngOf_enc (wf1 h)
theorem lawP_lt {n : Nat} (h : okV n) : lawPart "<" n = some (outR [(n, none)]) := by
  unfold lawPart
  rw [if_neg k13]
  exact rngOf_enc (wf_out (wf1 h))
theorem lawP_e {n : Nat} (h : okV n) (hc : vC n < 1000000) : lawPart "" n = some [(n, some (n + 1))] := by
  unfold lawPart
  rw [if_neg kxe]
  exact (ros_some h hc).1
end CM
namespace CM
open PySem L2 PySem.Spec DL
open PyProof.Rows hiding St
open TL (tl pre spl numL joinL)
theorem ends_asc : ∀ (r : Rng) (prev : Option (Option Nat)), okR prev r → (endsOf r).Pairwise (· < ·) ∧ ∀ e ∈ endsOf r, ∀ x, prev = some (some x) → x < e
  | [], _, _ => ⟨List.Pairwise.nil, fun _ h => nomatch h⟩
  | (l, none) :: r, prev, ⟨h1, h2, h3⟩ => by
    have : r = [] := okR_none h3
    subst this
    refine ⟨by simp [endsOf], fun e he x hx => ?_⟩
    subst hx
    simp [endsOf] at he
    subst he
    simpa [touch] using h2
  | (l, some y) :: r, prev, ⟨h1, h2, h3⟩ => by
    obtain ⟨a, b⟩ := ends_asc r _ h3
    have hly := (h1.2 y rfl).2
    dsimp only at hly
    have hy : ∀ e ∈ endsOf r, y < e := fun e he => b e he y rfl
    refine ⟨?_, fun e he x hx => ?_⟩
    · simp only [endsOf, List.pairwise_cons, List.mem_cons]
      refine ⟨fun e he => ?_, hy, a⟩
      rcases he with rfl | he
      · exact hly
      · exact Nat.lt_trans hly (hy e he)
    · subst hx
      have hx : x < l := by simpa [touch] using h2
      simp only [endsOf, List.mem_cons] at he
      rcases he with rfl | rfl | he
      · exact hx
      · omega
      · have := hy e he; omega
theorem ends_outF : ∀ (r : Rng) (b : Option Nat) (m : Nat), m ∈ endsOf (outF b r) → b = some m ∨ m ∈ endsOf r
  | [], none, m, h => by simp [outF, endsOf] at h
  | [], some b, m, h => by simp [outF, endsOf] at h; exact .inl (by rw [h])
  | (l, o) :: r, none, m, h => by simp [outF, endsOf] at h
  | (l, o) :: r, some b, m, h => by
    have up : o = some m ∨ m ∈ endsOf r → m ∈ endsOf ((l, o) :: r) := fun q => by
      clear h
      rcases q with rfl | q
      · simp [endsOf]
      · cases o <;> simp [endsOf, q]
    have hl : m = l → m ∈ endsOf ((l, o) :: r) := fun q => by clear h; cases o <;> simp [endsOf, q]
    unfold outF at h
    split at h
    · simp only [endsOf, List.mem_cons] at h
      rcases h with h | h | h
      · exact .inl (by rw [h])
      · exact .inr (hl h)
      · exact .inr (up (ends_outF r o m h))
    · exact .inr (up (ends_outF r o m h))
theorem ends_out {r : Rng} {m : Nat} (h : m ∈ endsOf (outR r)) : m = 0 ∨ m ∈ endsOf r := by
  rcases ends_outF r (some 0) m h with h | h
  · cases h; exact .inl rfl
  · exact .inr h
theorem ends_app {r s : Rng} {m : Nat} (h : m ∈ endsOf (r ++ s)) : m ∈ endsOf r ∨ m ∈ endsOf s := by
  rw [ends_mem] at h
  obtain ⟨p, h1, h2⟩ := h
  rcases List.mem_append.mp h1 with h1 | h1
  · exact .inl (ends_mem.mpr ⟨p, h1, h2⟩)
  · exact .inr (ends_mem.mpr ⟨p, h1, h2⟩)
theorem ends_eith {r s : Rng} {m : Nat} (h : m ∈ endsOf (eitherR r s)) : m ∈ endsOf r ∨ m ∈ endsOf s := ends_app (ends_str (ps := r ++ s) h)
theorem ends_both {r s : Rng} {m : Nat} (h : m ∈ endsOf (bothR r s)) : m = 0 ∨ m ∈ endsOf r ∨ m ∈ endsOf s := by
  rcases ends_out (r := eitherR (outR r) (outR s)) h with h | h
  · exact .inl h
  · rcases ends_eith h with h | h
    · rcases ends_out h with h | h
      · exact .inl h
      · exact .inr (.inl h)
    · rcases ends_out h with h | h
      · exact .inl h
      · exact .inr (.inr h)
theorem len_both {r s : Rng} (hr : wf r) (hs : wf s) : (endsOf (bothR r s)).length ≤ 1 + (endsOf r).length + (endsOf s).length := by
  have := few_marks (ls := 0 :: (endsOf r ++ endsOf s)) (ends_asc _ _ (wf_both hr hs)).1 fun m hm => by
    rcases ends_both hm with h | h | h
    · simp [h]
    · simp [h]
    · simp [h]
  simp at this
  omega
theorem len_either {r s : Rng} (hr : wf r) (hs : wf s) : (endsOf (eitherR r s)).length ≤ (endsOf r).length + (endsOf s).length := by
  have := few_marks (ls := endsOf r ++ endsOf s) (ends_asc _ _ (wf_either hr hs)).1 fun m hm => by
    rcases ends_eith hm with h | h
    · simp [h]
    · simp [h]
  simpa using this
def lpR (w : Str) (n : Nat) : Rng := (lawPart w n).getD []
theorem law_some {w : Str} {n : Nat} (hw : w ∈ words) (hn : smallV n) : lawPart w n = some (lpR w n) ∧ wf (lpR w n) ∧ (endsOf (lpR w n)).length ≤ 4 := by
  have ho := hn.ok
  have hc : vC n < 1000000 := by have := hn.2.2; omega
  have key : ∀ r, lawPart w n = some r → wf r → (endsOf r).length ≤ 4 → lawPart w n = some (lpR w n) ∧ wf (lpR w n) ∧ (endsOf (lpR w n)).length ≤ 4 := fun r e h1 h2 => by
    have : lpR w n = r := by unfold lpR; rw [e]; rfl
    rw [this]
    exact ⟨e, h1, h2⟩
  have h1 := okV_lt ho hc
  obtain ⟨r1, r2, r3, r4⟩ := ros_some ho hc
  simp only [words, List.mem_cons, List.not_mem_nil, or_false] at hw
  rcases hw with rfl | rfl | rfl | rfl | rfl | rfl | rfl | rfl | rfl
  · exact key everyR (by unfold lawPart; rw [if_pos rfl]) (wf1 okV0) (by decide)
  · exact key [(0, some (n + 1))] (by unfold lawPart; rw [if_neg kxl]; exact r3) (wf2 okV0 h1 (by omega)) (by simp [endsOf])
  · exact key [(n, none)] (lawP_ge ho) (wf1 ho) (by simp [endsOf])
  · refine key _ (lawP_lt ho) (wf_out (wf1 ho)) ?_
    have := ends_len (outR [(n, none)])
    have := out_len [(n, (none : Option Nat))]
    simp at *
    omega
  · exact key [(n + 1, none)] (by unfold lawPart; rw [if_neg kxg]; exact r4) (wf1 h1) (by simp [endsOf])
  · refine key _ (by unfold lawPart; rw [if_neg kxb]; exact r2) (wf_out (wf2 ho h1 (by omega))) ?_
    have := ends_len (outR [(n, some (n + 1))])
    have := out_len [(n, (some (n + 1) : Option Nat))]
    simp at *
    omega
  · obtain ⟨a, b, c, ec, hlt, habc⟩ := car_nat n
    have hle : a ≤ 1000000 ∧ b ≤ 1000000 ∧ c ≤ 1000000 := by
      have := hn.1
      have := hn.2.1
      split at habc
      · cases habc; omega
      · split at habc
        · cases habc; omega
        · cases habc; omega
    have e := ros_end ho (hlt ho)
    rw [if_pos hle] at e
    refine key [(n, some (mkV a b c))] ?_ (wf2 ho ?_ (hlt ho hle.1 hle.2.1 hle.2.2)) (by simp [endsOf])
    · unfold lawPart
      rw [if_neg k1c, ← e, ← ec]
      rfl
    · unfold okV
      rw [vA_mk (by omega) (by omega)]
      exact hle.1
  · have hm := mkV_eq n
    have hle : vA n ≤ 1000000 ∧ vB n + 1 ≤ 1000000 ∧ 0 ≤ 1000000 := by
      have := hn.1
      have := hn.2.1
      omega
    have hlt : n < mkV (vA n) (vB n + 1) 0 := by
      have := vC_le n
      unfold mkV at *
      omega
    have e := ros_end (a := vA n) (b := vB n + 1) (c := 0) ho fun _ _ _ => hlt
    rw [if_pos hle] at e
    refine key [(n, some (mkV (vA n) (vB n + 1) 0))] ?_ (wf2 ho ?_ hlt) (by simp [endsOf])
    · unfold lawPart
      rw [if_neg k1t, ← e]
      rfl
    · unfold okV
      rw [vA_mk (by omega) (by omega)]
      exact hle.1
  · exact key [(n, some (n + 1))] (lawP_e ho hc) (wf2 ho h1 (by omega)) (by simp [endsOf])
end CM
namespace CM
open PySem L2 PySem.Spec DL
open PyProof.Rows hiding St
open TL (tl pre spl numL joinL)
def wrong1 (os : List (Option Rng)) : Option Nat := os.findIdx? (·.isNone)
def wrongAt (as : List (List (Option Rng))) : Option Nat := wrong1 as.flatten
def gets (os : List (Option Rng)) : List Rng := os.map (·.getD [])
section
variable [ErrCtx]
def readT (l : List Nat) : Rng := readR ((altsOf l).map gets)
theorem backX_pre {st st' : Sto} {Z : DX → Sto → Prop} {x : DX} (h : Pre st st') (hb : D.blws st.length (x.fs.map (·.2)) = true) (q : Z x st) : DL.BackX st Z x st' := by
  obtain ⟨g, rfl⟩ := h
  exact .inr ⟨st, g, rfl, rfl, fun b hb => .inl hb, hb, q⟩
end
end CM
namespace CM
open PySem L2 PySem.Spec DL
open PyProof.Rows hiding St
open TL (tl pre spl numL joinL)
def okNumM (l : List Nat) : Option Nat := match okNum l with
  | some n => if n ≤ 1000000 then some n else none
  | none => none
def digs (l : List Nat) : Bool := l.all fun c => decide (48 ≤ c ∧ c ≤ 57)
theorem dig_mem (c : Nat) : decide (c ∈ ("0123456789" : Str).cps.toList) = decide (48 ≤ c ∧ c ≤ 57) := by
  have e : ("0123456789" : Str).cps.toList = [48, 49, 50, 51, 52, 53, 54, 55, 56, 57] := by decide
  rw [e]
  refine decide_eq_decide.mpr ?_
  simp only [List.mem_cons, List.not_mem_nil, or_false]
  omega
def sp_lnum : DSp := fun ds st Q _ => match ds with
  | [.str t] => t.length ≤ 20000 ∧ Q (encN (okNumM (tl t))) st
  | _ => False
@[simp] theorem e_lnum {st : Sto} {Q : DK} {Z : DX → Sto → Prop} {t : Str} : sp_lnum [.str t] st Q Z = (t.length ≤ 20000 ∧ Q (encN (okNumM (tl t))) st) := rfl
theorem str_items (t : Str) : strItems t = (tl t).map fun c => .str ⟨#[c]⟩ := rfl
end CM
namespace CM
open PySem L2 PySem.Spec DL
open PyProof.Rows hiding St
open TL (tl pre spl numL joinL)
def sp_ispart : DSp := fun ds st Q _ => match ds with
  | [.str t] => t.length ≤ 20000 ∧ Q (.bl (partOf (tl t)).isSome) st
  | _ => False
@[simp] theorem e_ispart {st : Sto} {Q : DK} {Z : DX → Sto → Prop} {t : Str} : sp_ispart [.str t] st Q Z = (t.length ≤ 20000 ∧ Q (.bl (partOf (tl t)).isSome) st) := rfl
theorem most_encN (w : List Nat) : numMost 1000000 (encN (okNum w)) = okNumM w := by
  unfold okNumM
  cases okNum w with
  | none => rfl
  | some n =>
    show numMost 1000000 (.int n) = _
    unfold numMost
    rw [num_int]
theorem okNumM_le {w : List Nat} {n : Nat} (h : okNumM w = some n) : n ≤ 1000000 := by
  unfold okNumM at h
  split at h
  · split at h
    · cases h; assumption
    · cases h
  · cases h
/-- the version by the numbers read -/
def verN : List (Option Nat) → Option Nat
  | [some a, some b, some c] => some (mkV a b c)
  | _ => none
theorem verText_eq (l : List Nat) : verText l = verN ((spl [46] 0 [] l).map okNumM) := by
  unfold verText
  generalize spl [46] 0 [] l = ws
  match ws with
  | [] => rfl
  | [a] => 
    show none = _
    cases h : okNumM a <;> simp [verN, h]
  | [a, b] =>
    show none = _
    cases h : okNumM a <;> cases h2 : okNumM b <;> simp [verN, h, h2]
  | [a, b, c] =>
    show (match numMost 1000000 (encN (okNum a)), numMost 1000000 (encN (okNum b)), numMost 1000000 (encN (okNum c)) with
      | some x, some y, some z => some (mkV x y z)
      | _, _, _ => none) = _
    rw [most_encN, most_encN, most_encN]
    simp only [List.map_cons, List.map_nil]
    cases okNumM a <;> cases okNumM b <;> cases okNumM c <;> rfl
  | a :: b :: c :: d :: r =>
    show none = _
    simp only [List.map_cons]
    cases okNumM a <;> cases okNumM b <;> cases okNumM c <;> rfl
theorem inD_non : ∀ os : List (Option Nat), inD .non (os.map encN) = decide (none ∈ os)
  | [] => rfl
  | o :: os => by
    have ih := inD_non os
    unfold inD inV at ih ⊢
    simp only [List.map_cons, List.any_cons]
    rw [ih]
    cases o with
    | none => simp [encN, flatVal, eqV]
    | some n => simp [encN, flatVal, eqV]
theorem flat_encN : ∀ os : List (Option Nat), (os.map encN).all flatD = true
  | [] => rfl
  | o :: os => by
    simp only [List.map_cons, List.all_cons, flat_encN os, Bool.and_true]
    cases o <;> rfl
theorem verN_some {os : List (Option Nat)} (h3 : os.length = 3) (hn : none ∉ os) : ∃ a b c, os = [some a, some b, some c] := by
  match os, h3 with
  | [x, y, z], _ =>
    cases x with
    | none => exact absurd (by simp) hn
    | some a =>
      cases y with
      | none => exact absurd (by simp) hn
      | some b =>
        cases z with
        | none => exact absurd (by simp) hn
        | some c => exact ⟨a, b, c, rfl⟩
theorem verN_none {os : List (Option Nat)} (h : os.length ≠ 3 ∨ none ∈ os) : verN os = none := by
  unfold verN
  split
  · rename_i a b c
    rcases h with h | h
    · exact absurd rfl h
    · simp at h
  · rfl
end CM
namespace CM
open PySem L2 PySem.Spec DL
open PyProof.Rows hiding St
def samF (st : Sto) : Nat → D → D → Prop
  | 0, t, d => t = d ∧ leafD d
  | n + 1, t, d => (t = d ∧ leafD d) ∨ (∃ ts ds, ((t = .tup ts ∧ d = .tup ds) ∨ ∃ a b, t = .loc a ∧ d = .loc b ∧ st[a]? = some (.lst ts) ∧ st[b]? = some (.lst ds)) ∧
      (ts.length = ds.length ∧ ∀ (k : Nat) x y, ts[k]? = some x → ds[k]? = some y → samF st n x y) ∧ ts.length < 1048576) ∨ ∃ a od k i, t = .loc a ∧ d = .loc a ∧ st[a]? = some (.dkF od [(k, .int i)])
def sp_isF (n : Nat) : DSp := fun ds st Q _ => match ds with
  | [t, d] => samF st n t d ∧ Q (.bl true) st
  | _ => False
@[simp] theorem e_isF {n : Nat} {st : Sto} {Q : DK} {Z : DX → Sto → Prop} {t d : D} : sp_isF n [t, d] st Q Z = (samF st n t d ∧ Q (.bl true) st) := rfl
end CM
namespace CM
open PySem L2 PySem.Spec DL
open PyProof.Rows hiding St
def nameS (s : Str) : Bool := decide (s.length ≤ 12) && (Txt.isascii s && (Txt.isalpha s && Txt.islower s))
def nameB : D → Bool
  | .str s => nameS s
  | _ => false
def fit (d : D) : Prop := ∀ s, d = .str s → s.length ≤ sizeLine
def sp_name : DSp := fun ds st Q _ => match ds with
  | [d] => ok st d ∧ fit d ∧ Q (.bl (nameB d)) st
  | _ => False
theorem r_is_name : Rd 1 sp_name RD.t_is_name RD.N_is_name := by
  intro ds st Q Z hl h
  match ds, hl, h with
  | [d], _, ⟨ho, hf, q⟩ =>
    unfold RD.t_is_name
    rcases ok_cases ho with rfl | ⟨b, rfl⟩ | ⟨i, rfl⟩ | ⟨x, rfl⟩ | ⟨ds, rfl, _⟩ | ⟨ds, rfl⟩ | ⟨n, es, rfl, e⟩ | ⟨n, es, rfl, e⟩
    case inr.inr.inr.inl =>
      have hx := hf x rfl
      simp [tySub, hx]
      by_cases h12 : x.length ≤ 12
      · have h12' : ¬ (12 : Int) < (x.length : Int) := by omega
        simp [h12']
        have q' : Q (.bl (Txt.isascii x && (Txt.isalpha x && Txt.islower x))) st := by simpa [nameB, nameS, h12] using q
        cases ha : Txt.isascii x <;> cases hb : Txt.isalpha x <;> rw [ha, hb] at q' <;> simp at q' ⊢ <;> exact .inl q'
      · have h12' : (12 : Int) < (x.length : Int) := by omega
        simp [h12']
        exact .inl (by simpa [nameB, nameS, h12] using q)
    all_goals
      simp [tySub, tyN, *]
      first
        | exact .inl q
        | (refine .inl ?_; simpa [nameB] using q)
end CM
namespace CM
open PySem L2 PySem.Spec DL
open PyProof.Rows hiding St
theorem blw_strs {n : Nat} (es : List Str) : D.blws n (es.map .str) = true := by
  induction es with
  | nil => rfl
  | cons e es ih => simp [D.blws, D.blw, ih]
end CM
namespace CM
open PySem L2 PySem.Spec DL
open PyProof.Rows hiding St
theorem enc3 {x y z : Nat} (hy : y < 1000001) (hz : z < 1000001) : encV (mkV x y z) = .tup [.int (x : Int), .int (y : Int), .int (z : Int)] := by
  unfold encV
  rw [vA_mk hy hz, vB_mk hy hz, vC_mk hz]
end CM
namespace CM
open PySem L2 PySem.Spec DL
open PyProof.Rows hiding St
structure RawE where
  name : Str
  ver : Nat
  feats : List (Str × List Str)
  needs : List (Str × Str × Rng × List Str)
  bars : List (Str × Rng)
def encL (l : List Str) : D := .tup (l.map .str)
def encF (p : Str × List Str) : D := .tup [.str p.1, encL p.2]
def encN4 (p : Str × Str × Rng × List Str) : D := .tup [.str p.1, .str p.2.1, encR p.2.2.1, encL p.2.2.2]
def encB (p : Str × Rng) : D := .tup [.str p.1, encR p.2]
def encRaw (e : RawE) : D := .tup [.str e.name, encV e.ver, .tup (e.feats.map encF), .tup (e.needs.map encN4), .tup (e.bars.map encB)]
theorem ne_strs {i j : Str} {st : Sto} {Q : DK} : dNe (.str i) (.str j) st Q = Q (.bl (!decide (i = j))) st := rfl
/-- the store while an entry is drawn: the hand, the three lists, things that stay -/
structure RI (h c : Nat) (st0 : Sto) (n8 n9 n10 : Nat) (K : List (Nat × Ob)) (F N B : List D) (st : Sto) : Prop where
  g : Gr h c st0 st
  h8 : st[n8]? = some (.lst F)
  h9 : st[n9]? = some (.lst N)
  h10 : st[n10]? = some (.lst B)
  keep : ∀ p ∈ K, st[p.1]? = some p.2
/-- where they stand -/
structure RP (st0 : Sto) (n8 n9 n10 : Nat) (K : List (Nat × Ob)) : Prop where
  a : st0.length ≤ n8 ∧ st0.length ≤ n9 ∧ st0.length ≤ n10
  d : n8 ≠ n9 ∧ n8 ≠ n10 ∧ n9 ≠ n10
  k : ∀ p ∈ K, st0.length ≤ p.1 ∧ p.1 ≠ n8 ∧ p.1 ≠ n9 ∧ p.1 ≠ n10
section
variable {h c n8 n9 n10 : Nat} {st0 st st1 : Sto} {K : List (Nat × Ob)} {F N B : List D}
theorem RI.sm (P : RP st0 n8 n9 n10 K) (r : RI h c st0 n8 n9 n10 K F N B st) (s : Sm h st st1) (H : Hd st1 h c) : RI h c st0 n8 n9 n10 K F N B st1 := by
  have hh := r.g.hlt
  refine ⟨r.g.sm s H, by rw [s.same n8 (by have := P.a; omega)]; exact r.h8, by rw [s.same n9 (by have := P.a; omega)]; exact r.h9, by rw [s.same n10 (by have := P.a; omega)]; exact r.h10, fun p hp => ?_⟩
  rw [s.same p.1 (by have := (P.k p hp).1; omega)]
  exact r.keep p hp
theorem RI.app (r : RI h c st0 n8 n9 n10 K F N B st) (x : Sto) : RI h c st0 n8 n9 n10 K F N B (st ++ x) := ⟨r.g.app x, gb r.h8, gb r.h9, gb r.h10, fun p hp => gb (r.keep p hp)⟩
theorem Gr.setY {n : Nat} {o : Ob} (g : Gr h c st0 st) (hn : st0.length ≤ n) : Gr h c st0 (st.set n o) := by
  refine ⟨by simpa using g.len, fun m hm hne => ?_, ?_, g.hd0⟩
  · rw [List.getElem?_set_ne (by omega)]
    exact g.same m hm hne
  · obtain ⟨cells, a, b, d, e, q1, q2, q3⟩ := g.hd.ex
    have := g.hlt
    have := g.clt
    exact ⟨cells, a, b, d, e, by rw [List.getElem?_set_ne (by omega)]; exact q1, by rw [List.getElem?_set_ne (by omega)]; exact q2, q3⟩
end
end CM
namespace CM
open PySem L2 PySem.Spec DL
open PyProof.Rows hiding St
theorem blw_encL (n : Nat) (l : List Str) : D.blw n (encL l) = true := by simp [encL, D.blw, blw_strs]
theorem cutL_map {α β : Type} (f : α → β) (xs : List α) (l u : Option Int) : cutL (xs.map f) l u = (cutL xs l u).map f := by
  unfold cutL
  simp [List.map_drop, List.map_take]
end CM
namespace CM
open PySem L2 PySem.Spec DL
open PyProof.Rows hiding St
/-- the store while a book is drawn -/
structure BI (h c : Nat) (st0 : Sto) (n2 n3 : Nat) (names : List Str) (rs : List RawE) (st : Sto) : Prop where
  g : Gr h c st0 st
  h2 : st[n2]? = some (.lst (names.map .str))
  h3 : st[n3]? = some (.lst (rs.map encRaw))
section
variable {h c n2 n3 : Nat} {st0 st st1 : Sto} {names : List Str} {rs : List RawE}
theorem BI.sm (hn : st0.length ≤ n2 ∧ st0.length ≤ n3) (r : BI h c st0 n2 n3 names rs st) (s : Sm h st st1) (H : Hd st1 h c) : BI h c st0 n2 n3 names rs st1 := by
  have hh := r.g.hlt
  exact ⟨r.g.sm s H, by rw [s.same n2 (by omega)]; exact r.h2, by rw [s.same n3 (by omega)]; exact r.h3⟩
theorem BI.app (r : BI h c st0 n2 n3 names rs st) (x : Sto) : BI h c st0 n2 n3 names rs (st ++ x) := ⟨r.g.app x, gb r.h2, gb r.h3⟩
theorem BI.set (hn : st0.length ≤ n2 ∧ st0.length ≤ n3 ∧ n2 ≠ n3) (r : BI h c st0 n2 n3 names rs st) (rs' : List RawE) : BI h c st0 n2 n3 names rs' (st.set n3 (.lst (rs'.map encRaw))) :=
  ⟨r.g.setY hn.2.1, by rw [List.getElem?_set_ne (Ne.symm hn.2.2)]; exact r.h2, List.getElem?_set_self (List.getElem?_eq_some_iff.mp r.h3).1⟩
end
end CM
namespace CM
open PySem L2 PySem.Spec DL
open PyProof.Rows hiding St
theorem szk' {n : Nat} (h : n ≤ 1000) : n ≤ sizeLine := Nat.le_of_lt (sizeLine_big (by omega))
def ltS (a b : Str) : Bool := PySem.W.dataLt (.str a) (.str b)
def namesF : Str → List Str → Bool
  | _, [] => true
  | p, s :: r => nameS s && (ltS p s && namesF s r)
theorem le_strs {a b : Str} {st : Sto} {Q : DK} (q : Q (.bl (!ltS b a)) st) : dLe (.str a) (.str b) st Q := by
  exact ⟨1, .str a, .str b, rfl, rfl, rfl, (fun z => by cases z), (by simp [PyData.depth]), q⟩
def sp_names : DSp := fun ds st Q _ => match ds with
  | [d] => ∃ l : List Str, d = encL l ∧ (∀ s ∈ l, s.length ≤ 1000) ∧ Q (.bl (namesF "" l)) st
  | _ => False
theorem lp_names (E : DEnds) {d : D} {st : Sto} : ∀ (l : List Str) (p : Str) (y : Option D), (∀ s ∈ l, s.length ≤ 1000) → (namesF p l = false → E.rt (.bl false) st) → (namesF p l = true → ∀ p' y', E.nx [some d, some (.str p'), y'] st) →
    runG (gN 2) (RD.b_is_names_1 sp_name) E (fun _ => True) (l.map .str) [some d, some (.str p), y] st
  | [], p, y, hl, h0, h1 => ⟨trivial, h1 rfl p y⟩
  | s :: l, p, y, hl, h0, h1 => by
    rw [List.map_cons, runG_cons]
    refine ⟨trivial, ?_⟩
    have ih := fun p y => lp_names E (d := d) (st := st) l p y (fun s hs => hl s (List.mem_cons_of_mem _ hs))
    generalize hR : runG (gN 2) (RD.b_is_names_1 sp_name) E (fun _ => True) (l.map .str) = R at ih ⊢
    rw [s_gN]
    unfold RD.b_is_names_1
    show dSeq _ _ _ [some d, some (.str p), some (.str s)] st
    rw [s_seq, s_ifS, s_or, s_not, s_tru, s_call, s_cons, s_var]
    show dNil _ _ _ _
    rw [s_nil]
    have hs := hl s List.mem_cons_self
    refine ⟨rfl, by simp [ok], fun x e => by cases e; exact szk' hs, ?_⟩
    show truD st (.bl (nameS s)) _
    rw [s_tru_bl]
    simp only [namesF] at h0 h1
    cases hn : nameS s with
    | false =>
      rw [hn] at h0
      rw [if_pos (by decide), if_pos rfl, s_ret, s_c]
      exact h0 rfl
    | true =>
      rw [hn] at h0 h1
      simp only [Bool.true_and] at h0 h1
      rw [if_neg (by decide), s_test, s_op, s_var]
      show dVar 1 _ _ _ _
      rw [s_var]
      show dLe (.str s) (.str p) st _
      refine le_strs ?_
      dsimp only
      cases hlt : ltS p s with
      | false =>
        rw [hlt] at h0
        rw [if_pos (by decide), s_ret, s_c]
        exact h0 rfl
      | true =>
        rw [hlt] at h0 h1
        simp only [Bool.true_and] at h0 h1
        rw [if_neg (by decide), s_next]
        dsimp only
        rw [s_asg, s_var]
        exact ih s (some (.str s)) h0 h1
theorem r_is_names : Rd 1 sp_names (RD.t_is_names sp_name) RD.N_is_names := by
  intro ds st Q Z hl h
  match ds, hl, h with
  | [d], _, ⟨l, hd, hlen, q⟩ =>
    subst hd
    unfold RD.t_is_names
    rw [s_seq, s_ifS, s_not, s_tru, s_isi, s_var]
    show truD st (.bl true) _
    rw [s_tru_bl, if_neg (by decide), s_next]
    dsimp only
    rw [s_seq, s_asg, s_c, s_gN]
    dsimp only
    show dSeq _ _ _ [some (encL l), some (.str ""), none] st
    rw [s_seq, s_for, s_iD, s_var]
    show walkD _ _ _
    unfold encL
    rw [s_walk_tup]
    refine lp_names _ l "" none hlen (fun e => ?_) fun e p' y' => ?_
    · rw [e] at q
      exact .inl q
    · rw [e] at q
      dsimp only
      rw [s_ret, s_c]
      exact .inl q
end CM
namespace CM
open PySem L2 PySem.Spec DL
open PyProof.Rows hiding St
open TL (tl pre spl par numL joinL)
def nameL (l : List Nat) : Bool := decide (l.length ≤ 12) && (decide (l ≠ []) && l.all fun c => decide (97 ≤ c ∧ c ≤ 122))
theorem uni_low : ∀ c, c < 128 → (Unicode.isAlpha c && !(Unicode.isUpper c || Unicode.isTitle c)) = decide (97 ≤ c ∧ c ≤ 122) := by decide +kernel
theorem uni_is : ∀ c, c < 128 → 97 ≤ c → c ≤ 122 → Unicode.isLower c = true := by decide +kernel
theorem nameS_eq (s : Str) : nameS s = nameL (tl s) := by
  have hl := TL.len_tl s
  unfold nameS nameL
  rw [← hl]
  congr 1
  have e1 : Txt.isascii s = (tl s).all fun c => decide (c < 128) := by
    unfold Txt.isascii
    rw [← Array.all_toList]
  have e2 : Txt.isalpha s = (decide (tl s ≠ []) && (tl s).all Unicode.isAlpha) := by
    unfold Txt.isalpha
    rw [← Array.all_toList]
    congr 1
    rw [Bool.eq_iff_iff]
    simp only [decide_eq_true_eq, gt_iff_lt]
    rw [hl]
    exact List.length_pos_iff
  have e3 : Txt.islower s = ((tl s).any Unicode.isLower && !(tl s).any fun c => Unicode.isUpper c || Unicode.isTitle c) := by
    unfold Txt.islower
    rw [← Array.any_toList, ← Array.any_toList]
  rw [e1, e2, e3]
  generalize tl s = l
  rw [Bool.eq_iff_iff]
  simp only [Bool.and_eq_true, List.all_eq_true, decide_eq_true_eq, Bool.not_eq_true', List.any_eq_false, List.any_eq_true]
  constructor
  · rintro ⟨h1, ⟨h2, h3⟩, h4, h5⟩
    refine ⟨h2, fun c hc => ?_⟩
    have := uni_low c (h1 c hc)
    rw [h3 c hc, Bool.eq_false_iff.mpr (h5 c hc)] at this
    simpa using this
  · rintro ⟨h1, h2⟩
    have hlt : ∀ c ∈ l, c < 128 := fun c hc => by have := h2 c hc; omega
    have hu : ∀ c ∈ l, Unicode.isAlpha c = true ∧ (Unicode.isUpper c || Unicode.isTitle c) = false := fun c hc => by
      have := uni_low c (hlt c hc)
      rw [decide_eq_true (h2 c hc)] at this
      simpa using this
    refine ⟨hlt, ⟨h1, fun c hc => (hu c hc).1⟩, ?_, fun c hc => by rw [(hu c hc).2]; decide⟩
    cases l with
    | nil => exact absurd rfl h1
    | cons c r => exact ⟨c, List.mem_cons_self, uni_is c (hlt c List.mem_cons_self) (h2 c List.mem_cons_self).1 (h2 c List.mem_cons_self).2⟩
theorem nameL_free {l : List Nat} (h : nameL l = true) : ∀ c ∈ l, 97 ≤ c ∧ c ≤ 122 := by
  unfold nameL at h
  simp only [Bool.and_eq_true, List.all_eq_true, decide_eq_true_eq] at h
  exact h.2.2
theorem pre_split {S l : List Nat} (h : pre S l = true) : l = S ++ l.drop S.length := by
  unfold pre at h
  have : l.take S.length = S := by simpa using h
  conv => lhs; rw [← List.take_append_drop S.length l, this]
theorem par_some {S : List Nat} : ∀ {l acc a r : List Nat}, par S acc l = some (a, r) → ∃ q, a = acc ++ q ∧ l = q ++ (S ++ r)
  | [], acc, a, r, h => by cases h
  | c :: l, acc, a, r, h => by
    cases hp : pre S (c :: l) with
    | true =>
      rw [TL.par_hit hp] at h
      obtain ⟨rfl, rfl⟩ := Prod.mk.inj (Option.some.inj h)
      exact ⟨[], by simp, by rw [List.nil_append]; exact pre_split hp⟩
    | false =>
      rw [TL.par_miss hp] at h
      obtain ⟨q, rfl, e⟩ := par_some h
      exact ⟨c :: q, by simp, by rw [e]; simp⟩
theorem par1_some {s : Nat} : ∀ {l acc a r : List Nat}, par [s] acc l = some (a, r) → ∃ q, a = acc ++ q ∧ l = q ++ s :: r ∧ s ∉ q
  | [], acc, a, r, h => by cases h
  | c :: l, acc, a, r, h => by
    by_cases hc : c = s
    · subst hc
      rw [TL.par_hit (by simp [pre])] at h
      obtain ⟨rfl, rfl⟩ := Prod.mk.inj (Option.some.inj h)
      exact ⟨[], by simp, by simp, by simp⟩
    · rw [TL.par_miss (TL.pre_of_head [] l hc)] at h
      obtain ⟨q, rfl, e, hq⟩ := par1_some h
      exact ⟨c :: q, by simp, by rw [e]; simp, by simp [hq]; exact fun z => hc z.symm⟩
theorem par1_none {s : Nat} : ∀ {l acc : List Nat}, par [s] acc l = none → s ∉ l
  | [], _, _ => by simp
  | c :: l, acc, h => by
    by_cases hc : c = s
    · subst hc
      rw [TL.par_hit (by simp [pre])] at h
      cases h
    · rw [TL.par_miss (TL.pre_of_head [] l hc)] at h
      simp [par1_none h]
      exact fun z => hc z.symm
theorem par1_at {s : Nat} {a r : List Nat} (h : s ∉ a) : par [s] [] (a ++ s :: r) = some (a, r) := by
  have := TL.par_part1 (S := []) (rest := r) (acc := []) h
  simpa using this
theorem spl1 {s : Nat} (l : List Nat) : spl [s] 0 [] l = match par [s] [] l with
    | some (a, r) => a :: spl [s] 0 [] r
    | none => [l] := by
  cases h : par [s] [] l with
  | none =>
    have := TL.spl_last1 (S := []) (acc := []) (par1_none h)
    simpa using this
  | some p =>
    obtain ⟨a, r⟩ := p
    obtain ⟨q, rfl, rfl, hq⟩ := par1_some h
    have := TL.spl_part1 (S := []) (rest := r) (acc := []) hq
    simpa using this
theorem spl_ne {S : List Nat} : ∀ (l acc : List Nat) (k : Nat), spl S k acc l ≠ []
  | [], acc, k => by cases k <;> simp [spl]
  | c :: r, acc, 0 => by
    unfold spl
    split
    · simp
    · exact spl_ne r _ 0
  | c :: r, acc, k + 1 => by
    unfold spl
    exact spl_ne r _ k
def SLs (l : List Nat) : Str := ⟨l.toArray⟩
theorem join_spl {S : List Nat} (hS : S ≠ []) (h : ∀ c ∈ S, c < 256) (l : List Nat) : joinL S (spl S 0 [] l) = l := by
  have e := PySem.StrLaws.join_split (SLs l) (SLs S)
  have e2 := TL.tl_join (SLs S) (Txt.split (SLs l) (SLs S))
  rw [e] at e2
  have e3 := split_tl (x := SLs l) (y := SLs S) (S := S) rfl hS h
  rw [e3] at e2
  exact e2.symm
theorem joinL_cons {S p : List Nat} {ps : List (List Nat)} (h : ps ≠ []) : joinL S (p :: ps) = p ++ (S ++ joinL S ps) := by
  cases ps with
  | nil => exact absurd rfl h
  | cons q r => rfl
theorem count_join {c : Nat} {S : List Nat} : ∀ ps : List (List Nat), ps ≠ [] → (joinL S ps).count c = (ps.map fun p => p.count c).sum + (ps.length - 1) * S.count c
  | [], h => absurd rfl h
  | [p], _ => by simp [joinL]
  | p :: q :: r, _ => by
    have ih := count_join (c := c) (S := S) (q :: r) (by simp)
    show (p ++ (S ++ joinL S (q :: r))).count c = _
    rw [List.count_append, List.count_append, ih]
    simp only [List.map_cons, List.sum_cons, List.length_cons, Nat.add_sub_cancel]
    rw [Nat.add_mul]
    omega
theorem count_spl {c : Nat} {S : List Nat} (hS : S ≠ []) (h : ∀ c ∈ S, c < 256) (l : List Nat) : ((spl S 0 [] l).map fun p => p.count c).sum + ((spl S 0 [] l).length - 1) * S.count c = l.count c := by
  have := count_join (c := c) (S := S) (spl S 0 [] l) (spl_ne _ _ _)
  rw [join_spl hS h] at this
  exact this.symm
end CM
namespace CM
open PySem L2 PySem.Spec DL
open PyProof.Rows hiding St
open TL (tl pre spl numL joinL)
@[simp] theorem e_read {st : Sto} {Q : DK} {Z : DX → Sto → Prop} {t : Str} : sp_read [.str t] st Q Z = ∃ as : List (List Rng), altsOf (tl t) = as.map (fun a => a.map some) ∧ t.length ≤ 1000000 ∧ Mild as ∧ Q (encR (readR as)) st := rfl
theorem Hd.set {st : Sto} {h c m : Nat} (H : Hd st h c) (h1 : m ≠ h) (h2 : m ≠ c) (o : Ob) : Hd (st.set m o) h c := by
  obtain ⟨cells, a, b, d, e, q1, q2, q3⟩ := H.ex
  exact ⟨cells, a, b, d, e, by rw [List.getElem?_set_ne h1]; exact q1, by rw [List.getElem?_set_ne h2]; exact q2, q3⟩
abbrev PW := List (Str × Nat)
def drawnP (ps : PW) : Prop := ∀ p ∈ ps, p.1 ∈ words ∧ smallV p.2
structure EvOk (ev : Rng) (ps : PW) : Prop where
  w : wf ev
  has : ∀ v, Has ev v ↔ ∀ p ∈ ps, Has (lpR p.1 p.2) v
  len : (endsOf ev).length ≤ 1 + 5 * ps.length
  dr : drawnP ps
def pT (p : Str × Nat) : Str := pText p.1 p.2
theorem EvOk.nil : EvOk everyR [] := ⟨wf1 okV0, fun v => by simp [everyR, Has, inP], by decide, fun p hp => nomatch hp⟩
theorem EvOk.cons {ev : Rng} {ps : PW} (e : EvOk ev ps) {w : Str} {n : Nat} (hw : w ∈ words) (hn : smallV n) : EvOk (bothR ev (lpR w n)) (ps ++ [(w, n)]) := by
  obtain ⟨h1, h2, h3⟩ := law_some hw hn
  refine ⟨wf_both e.w h2, fun v => ?_, ?_, fun p hp => ?_⟩
  · rw [has_both e.w h2, e.has]
    simp only [List.mem_append, List.mem_singleton]
    constructor
    · rintro ⟨a, b⟩ p (hp | rfl)
      · exact a p hp
      · exact b
    · intro q
      exact ⟨fun p hp => q p (.inl hp), q (w, n) (.inr rfl)⟩
  · have := len_both e.w h2
    have := e.len
    simp
    omega
  · rcases List.mem_append.mp hp with hp | hp
    · exact e.dr p hp
    · rw [List.mem_singleton.mp hp]; exact ⟨hw, hn⟩
def aT (ps : PW) : Str := Txt.join ", " (ps.map pT)
structure DueOk (due : Rng) (as : List PW) : Prop where
  w : wf due
  has : ∀ v, Has due v ↔ ∃ ps ∈ as, ∀ p ∈ ps, Has (lpR p.1 p.2) v
  len : (endsOf due).length ≤ 16 * as.length
  dr : ∀ ps ∈ as, ps ≠ [] ∧ ps.length ≤ 3 ∧ drawnP ps
theorem DueOk.nil : DueOk [] [] := ⟨trivial, fun v => by simp [Has], by simp [endsOf], fun p hp => nomatch hp⟩
theorem DueOk.cons {due : Rng} {as : List PW} (d : DueOk due as) {ev : Rng} {ps : PW} (e : EvOk ev ps) (h0 : ps ≠ []) (h3 : ps.length ≤ 3) : DueOk (eitherR due ev) (as ++ [ps]) := by
  refine ⟨wf_either d.w e.w, fun v => ?_, ?_, fun q hq => ?_⟩
  · rw [has_either d.w e.w, d.has, e.has]
    simp only [List.mem_append, List.mem_singleton]
    constructor
    · rintro (⟨p, h1, h2⟩ | h1)
      · exact ⟨p, .inl h1, h2⟩
      · exact ⟨ps, .inr rfl, h1⟩
    · rintro ⟨p, h1 | rfl, h2⟩
      · exact .inl ⟨p, h1, h2⟩
      · exact .inr h2
  · have := len_either d.w e.w
    have := d.len
    have := e.len
    simp
    omega
  · rcases List.mem_append.mp hq with hq | hq
    · exact d.dr q hq
    · rw [List.mem_singleton.mp hq]; exact ⟨h0, h3, e.dr⟩
end CM
namespace CM
open PySem L2 PySem.Spec DL
open PyProof.Rows hiding St
open TL (tl pre spl numL joinL)
def sp_bent : DSp := fun ds st Q _ => match ds with
  | [.loc h, .str t] => ∃ c, Hd st h c ∧ t.length ≤ 10000 ∧ ∀ t' st', t'.length ≤ 2 * t.length + 60 → Hd st' h c → Sm h st st' → Q (.str t') st'
  | _ => False
@[simp] theorem e_bent {st : Sto} {Q : DK} {Z : DX → Sto → Prop} {h : Nat} {t : Str} : sp_bent [.loc h, .str t] st Q Z = ∃ c, Hd st h c ∧ t.length ≤ 10000 ∧ ∀ t' st', t'.length ≤ 2 * t.length + 60 → Hd st' h c → Sm h st st' → Q (.str t') st' := rfl
theorem sz_big {n : Nat} (h : n < 1000000) : n ≤ sizeLine := Nat.le_of_lt (sizeLine_big (by omega))
end CM
namespace CM
open PySem L2 PySem.Spec DL
open PyProof.Rows hiding St
theorem r_is_wanted : Rd 1 (fun ds st Q Z => match ds with
  | [d] => ∃ l : List Str, d = encL l ∧ (∀ s ∈ l, s.length ≤ 1000) ∧ Q (.bl (namesF "" l && decide (l.length ≤ 4))) st
  | _ => False) (RD.t_is_wanted sp_names) RD.N_is_wanted := by
  intro ds st Q Z hl h
  match ds, hl, h with
  | [d], _, ⟨l, hd, hlen, q⟩ =>
    subst hd
    unfold RD.t_is_wanted
    rw [s_ret, s_andV, s_call, s_cons, s_var]
    show dNil _ _ _ _
    rw [s_nil]
    refine ⟨rfl, l, rfl, hlen, ?_⟩
    dsimp only
    rw [s_tru_bl]
    cases hb : namesF "" l with
    | false =>
      rw [hb] at q
      rw [if_neg (by decide)]
      exact .inl q
    | true =>
      rw [hb] at q
      rw [if_pos rfl, s_op, s_cb, s_cons, s_var]
      show dNil _ _ _ _
      rw [s_nil]
      show dLen [.tup (l.map .str)] st _
      rw [s_len_tup, s_c]
      refine .inl ?_
      have e : decide (((l.map D.str).length : Int) ≤ 4) = decide (l.length ≤ 4) := decide_eq_decide.mpr (by rw [List.length_map]; omega)
      show Q (.bl (decide (((l.map D.str).length : Int) ≤ 4))) st
      rw [e]
      simpa using q
def sp_withinT : DSp := fun ds st Q _ => match ds with
  | [.int m, .tup ds] => Q (.bl (decide ((ds.length : Int) ≤ m))) st
  | _ => False
theorem r_is_tuple_withinT : Rd 2 sp_withinT RD.t_is_tuple_within RD.N_is_tuple_within := by
  intro ds st Q Z hl h
  match ds, hl, h with
  | [.int m, .tup ds], _, q =>
    unfold RD.t_is_tuple_within
    rw [s_ret, s_andV, s_isi, s_var]
    show truD st (.bl true) _
    rw [s_tru_bl, if_pos rfl, s_op, s_cb, s_cons, s_var]
    show dNil _ _ _ _
    rw [s_nil]
    show dLen [.tup ds] st _
    rw [s_len_tup, s_var]
    exact .inl q
theorem inS {s : Str} {l : List Str} : inD (.str s) (l.map .str) = decide (s ∈ l) := by
  unfold inD
  induction l with
  | nil => rfl
  | cons n l ih =>
    simp only [List.map_cons, inV, List.any_cons, List.mem_cons, Bool.decide_or] at ih ⊢
    rw [ih]
    congr 1
    show (n == s) = decide (s = n)
    rw [Bool.beq_eq_decide_eq]
    exact decide_eq_decide.mpr eq_comm
/-- a feature as it should be -/
def FeatV (p : Str × List Str) : Prop := nameS p.1 = true ∧ namesF "" p.2 = true ∧ p.1 ∉ p.2 ∧ p.1.length ≤ 1000 ∧ ∀ s ∈ p.2, s.length ≤ 1000
def sp_featV : DSp := fun ds st Q _ => match ds with
  | [d] => ∃ p, d = encF p ∧ FeatV p ∧ Q (.bl true) st
  | _ => False
theorem r_is_feature : Rd 1 sp_featV (RD.t_is_feature sp_name sp_names sp_is_tuple_of) RD.N_is_feature := by
  intro ds st Q Z hl h
  match ds, hl, h with
  | [d], _, ⟨p, hd, ⟨h1, h2, h3, h4, h5⟩, q⟩ =>
    subst hd
    unfold RD.t_is_feature
    have i0 : ∀ (Q' : DK) (Z' : DZ), Q' (.str p.1) st → dOp dIx (dVar 0) (dC (.int 0)) [some (encF p)] st Q' Z' := fun Q' Z' k => by
      rw [s_op, s_var]
      show dC _ _ _ _ _
      rw [s_c]
      exact ⟨_, rfl, k⟩
    have i1 : ∀ (Q' : DK) (Z' : DZ), Q' (encL p.2) st → dOp dIx (dVar 0) (dC (.int 1)) [some (encF p)] st Q' Z' := fun Q' Z' k => by
      rw [s_op, s_var]
      show dC _ _ _ _ _
      rw [s_c]
      exact ⟨_, rfl, k⟩
    rw [s_ret, s_andV, s_call, s_cons, s_c, s_cons, s_var]
    show dNil _ _ _ _
    rw [s_nil]
    have hok : ok st (encF p) := by
      have : ∀ l : List Str, oks st (l.map .str) := fun l => by
        induction l with
        | nil => simp [oks]
        | cons a l ih => simp [oks, ok, ih]
      simp [encF, encL, ok, oks, this]
    refine ⟨rfl, hok, ?_⟩
    show truD st (.bl true) _
    rw [s_tru_bl, if_pos rfl, s_andV, s_call, s_cons]
    refine i0 _ _ ?_
    rw [s_nil]
    refine ⟨rfl, by simp [ok], fun s e => by cases e; exact szk' h4, ?_⟩
    show truD st (.bl (nameS p.1)) _
    rw [s_tru_bl, if_pos h1, s_andV, s_call, s_cons]
    refine i1 _ _ ?_
    rw [s_nil]
    refine ⟨rfl, p.2, rfl, h5, ?_⟩
    dsimp only
    rw [s_tru_bl, if_pos h2, s_op]
    refine i0 _ _ ?_
    refine i1 _ _ ?_
    refine ⟨p.2.map .str, rfl, rfl, ?_, ?_⟩
    · simp [flatD]
    · rw [inS]
      show DL.Back st Q (.bl (!decide (p.1 ∈ p.2))) st
      rw [decide_eq_false h3]
      exact .inl q
/-- none is lacking -/
def sp_lackV : DSp := fun ds st Q _ => match ds with
  | [d] => ∃ fs : List (Str × List Str), d = .tup (fs.map encF) ∧ fs.length ≤ 6 ∧ (∀ p ∈ fs, ∀ o ∈ p.2, o ∈ fs.map (·.1)) ∧ Q (.bl false) st
  | _ => False
theorem lk_in (E : DEnds) {n : Nat} {ns : List Str} {st : Sto} {x0 x2 : Option D} (hn : st[n]? = some (.lst (ns.map .str))) (hk : ∀ y3, E.nx [x0, some (.loc n), x2, y3] st) : ∀ (os : List Str) (y3 : Option D), (∀ o ∈ os, o ∈ ns) →
    runG (gN 3) RD.b_lacking_2 E (fun _ => True) (os.map .str) [x0, some (.loc n), x2, y3] st
  | [], y3, ho => ⟨trivial, hk y3⟩
  | o :: os, y3, ho => by
    rw [List.map_cons, runG_cons]
    refine ⟨trivial, ?_⟩
    have ih := lk_in E (x0 := x0) (x2 := x2) hn hk os (some (.str o)) fun o' h => ho o' (List.mem_cons_of_mem _ h)
    generalize hR : runG (gN 3) RD.b_lacking_2 E (fun _ => True) (os.map .str) = R at ih ⊢
    rw [s_gN]
    unfold RD.b_lacking_2
    rw [s_ifS, s_test, s_op, s_var]
    show dVar 1 _ _ _ _
    rw [s_var]
    refine ⟨ns.map .str, by simp [itemsD, hn], rfl, by simp [flatD], ?_⟩
    rw [inS]
    show (if (!decide (o ∈ ns)) = true then _ else _)
    rw [if_neg (by simp [ho o List.mem_cons_self]), s_next]
    exact ih
theorem lk_out (E : DEnds) {n : Nat} {ns : List Str} {st : Sto} {x0 : Option D} (hn : st[n]? = some (.lst (ns.map .str))) (hk : ∀ y2 y3, E.nx [x0, some (.loc n), y2, y3] st) : ∀ (fs : List (Str × List Str)) (y2 y3 : Option D), (∀ p ∈ fs, ∀ o ∈ p.2, o ∈ ns) →
    runG (gN 2) RD.b_lacking_3 E (fun _ => True) (fs.map encF) [x0, some (.loc n), y2, y3] st
  | [], y2, y3, ho => ⟨trivial, hk y2 y3⟩
  | p :: fs, y2, y3, ho => by
    rw [List.map_cons, runG_cons]
    refine ⟨trivial, ?_⟩
    have ih := fun y2 y3 => lk_out E (x0 := x0) hn hk fs y2 y3 fun p' h => ho p' (List.mem_cons_of_mem _ h)
    generalize hR : runG (gN 2) RD.b_lacking_3 E (fun _ => True) (fs.map encF) = R at ih ⊢
    rw [s_gN]
    unfold RD.b_lacking_3
    rw [s_for, s_iD, s_op, s_var]
    show dC _ _ _ _ _
    rw [s_c]
    refine ⟨_, rfl, ?_⟩
    show walkD st (encL p.2) _
    unfold encL
    rw [s_walk_tup]
    exact lk_in _ hn (fun y3 => ih _ y3) p.2 y3 (ho p List.mem_cons_self)
theorem lk_names {ρ : Env'} {st : Sto} {Q : DK} (h2 : 2 < ρ.length) : ∀ (fs : List (Str × List Str)) (acc : List D), acc.length + fs.length < 1000 → Q (.loc st.length) (st ++ [.lst (acc ++ (fs.map (·.1)).map .str)]) →
    runC (gN 2) dYes RD.e_lacking_1 ρ Q (fun _ => True) (fs.map encF) acc st
  | [], acc, _, q => ⟨trivial, by simpa using q⟩
  | p :: fs, acc, hl, q => by
    rw [List.map_cons, runC_cons]
    refine ⟨trivial, ?_⟩
    have e2 : (ρ.set 2 (some (encF p)))[2]? = some (some (encF p)) := List.getElem?_set_self h2
    rw [s_gN, s_yes, if_pos rfl]
    unfold RD.e_lacking_1
    rw [s_op, s_var, e2]
    show dC _ _ _ _ _
    rw [s_c]
    simp only [List.length_cons] at hl
    refine ⟨_, rfl, sizeLine_big (by omega), ?_⟩
    exact lk_names h2 fs _ (by simp; omega) (by simpa using q)
theorem r_lacking : Rd 1 sp_lackV RD.t_lacking RD.N_lacking := by
  intro ds st Q Z hl h
  match ds, hl, h with
  | [d], _, ⟨fs, hd, hlen, hall, q⟩ =>
    subst hd
    unfold RD.t_lacking
    rw [s_seq, s_asg, s_lc, s_iD, s_var]
    show walkD _ _ _
    rw [s_walk_tup]
    refine lk_names (by simp) fs [] (by simp; omega) ?_
    rw [s_gN]
    dsimp only
    rw [List.nil_append]
    show dSeq _ _ _ [some (.tup (fs.map encF)), some (.loc st.length), none, none] _
    rw [s_seq, s_for, s_iD, s_var]
    show walkD _ _ _
    rw [s_walk_tup]
    refine lk_out _ (ns := fs.map (·.1)) getElem?_push (fun y2 y3 => ?_) fs none none hall
    dsimp only
    rw [s_ret, s_c]
    exact back_tup ⟨_, rfl⟩ rfl q
/-- features as they should be -/
structure FeatsV (fs : List (Str × List Str)) : Prop where
  len : fs.length ≤ 6
  each : ∀ p ∈ fs, FeatV p
  up : namesF "" (fs.map (·.1)) = true
  in_ : ∀ p ∈ fs, ∀ o ∈ p.2, o ∈ fs.map (·.1)
def sp_featsV : DSp := fun ds st Q _ => match ds with
  | [d] => ∃ fs : List (Str × List Str), d = .tup (fs.map encF) ∧ FeatsV fs ∧ Q (.bl true) st
  | _ => False
theorem lp_featsV (E : DEnds) {st : Sto} {x0 : Option D} (hk : ∀ y1, E.nx [x0, y1] st) : ∀ (fs : List (Str × List Str)) (y1 : Option D), (∀ p ∈ fs, FeatV p) →
    runG (gN 1) (RD.b_is_features_1 sp_names sp_withinT sp_featV sp_lackV) E (fun _ => True) (fs.map encF) [x0, y1] st
  | [], y1, _ => ⟨trivial, hk y1⟩
  | p :: fs, y1, h => by
    rw [List.map_cons, runG_cons]
    refine ⟨trivial, ?_⟩
    have ih := lp_featsV E hk fs (some (encF p)) fun q hq => h q (List.mem_cons_of_mem _ hq)
    generalize hR : runG (gN 1) (RD.b_is_features_1 sp_names sp_withinT sp_featV sp_lackV) E (fun _ => True) (fs.map encF) = R at ih ⊢
    rw [s_gN]
    unfold RD.b_is_features_1
    rw [s_ifS, s_not, s_tru, s_call, s_cons, s_var]
    show dNil _ _ _ _
    rw [s_nil]
    refine ⟨rfl, p, rfl, h p List.mem_cons_self, ?_⟩
    show truD st (.bl true) _
    rw [s_tru_bl, if_neg (by decide), s_next]
    exact ih
theorem lk_names1 {ρ : Env'} {st : Sto} {Q : DK} (h1 : 1 < ρ.length) : ∀ (fs : List (Str × List Str)) (acc : List D), acc.length + fs.length < 1000 → Q (.loc st.length) (st ++ [.lst (acc ++ (fs.map (·.1)).map .str)]) →
    runC (gN 1) dYes (RD.e_is_features_2 sp_names sp_withinT sp_featV sp_lackV) ρ Q (fun _ => True) (fs.map encF) acc st
  | [], acc, _, q => ⟨trivial, by simpa using q⟩
  | p :: fs, acc, hl, q => by
    rw [List.map_cons, runC_cons]
    refine ⟨trivial, ?_⟩
    have e1 : (ρ.set 1 (some (encF p)))[1]? = some (some (encF p)) := List.getElem?_set_self h1
    rw [s_gN, s_yes, if_pos rfl]
    unfold RD.e_is_features_2
    rw [s_op, s_var, e1]
    show dC _ _ _ _ _
    rw [s_c]
    simp only [List.length_cons] at hl
    refine ⟨_, rfl, sizeLine_big (by omega), ?_⟩
    exact lk_names1 h1 fs _ (by simp; omega) (by simpa using q)
theorem r_is_features : Rd 1 sp_featsV (RD.t_is_features sp_names sp_withinT sp_featV sp_lackV) RD.N_is_features := by
  intro ds st Q Z hl h
  match ds, hl, h with
  | [d], _, ⟨fs, hd, hv, q⟩ =>
    subst hd
    unfold RD.t_is_features
    rw [s_seq, s_ifS, s_not, s_tru, s_call, s_cons, s_c, s_cons, s_var]
    show dNil _ _ _ _
    rw [s_nil]
    have e6 : decide (((fs.map encF).length : Int) ≤ 6) = true := by
      have := hv.len
      rw [List.length_map]
      simp
      omega
    have hw : ∀ (Q' : DK) (Z' : DX → Sto → Prop), Q' (.bl true) st → sp_withinT [.int 6, .tup (fs.map encF)] st Q' Z' := fun Q' Z' k => by
      show Q' (.bl (decide (((fs.map encF).length : Int) ≤ 6))) st
      rw [e6]
      exact k
    refine ⟨rfl, hw _ _ ?_⟩
    rw [s_tru_bl, if_neg (by decide), s_next]
    dsimp only
    show dSeq _ _ _ [some (.tup (fs.map encF)), none] st
    rw [s_seq, s_for, s_iD, s_var]
    show walkD _ _ _
    rw [s_walk_tup]
    refine lp_featsV _ (fun y1 => ?_) fs none hv.each
    dsimp only
    rw [s_ret, s_andV, s_call, s_cons, s_cb, s_cons, s_lc, s_iD]
    rw [s_var]
    show walkD _ _ _
    rw [s_walk_tup]
    refine lk_names1 (by simp) fs [] (by have := hv.len; simp; omega) ?_
    rw [List.nil_append, s_nil, s_tupOf]
    have hg : (st ++ [Ob.lst ((fs.map (·.1)).map D.str)])[st.length]? = some (.lst ((fs.map (·.1)).map .str)) := getElem?_push
    simp only [itemsD, hg]
    rw [s_nil]
    refine ⟨rfl, fs.map (·.1), rfl, fun s hs => ?_, ?_⟩
    · obtain ⟨p, hp, rfl⟩ := List.mem_map.mp hs
      exact (hv.each p hp).2.2.2.1
    · rw [hv.up]
      dsimp only
      rw [s_tru_bl, if_pos rfl, s_notV, s_call, s_cons, s_var]
      show dNil _ _ _ _
      rw [s_nil]
      refine ⟨rfl, fs, rfl, hv.len, hv.in_, ?_⟩
      show DL.Back st Q (.bl true) _
      exact back_tup ⟨_, rfl⟩ rfl q
end CM
namespace CM
open PySem L2 PySem.Spec DL
open PyProof.Rows hiding St
def sp_other : DSp := fun ds st Q _ => match ds with
  | [.str name, .str o] => o.length ≤ 1000 ∧ Q (.bl (nameS o && decide (o ≠ name))) st
  | _ => False
theorem r_is_other : Rd 2 sp_other (RD.t_is_other sp_name) RD.N_is_other := by
  intro ds st Q Z hl h
  match ds, hl, h with
  | [.str name, .str o], _, ⟨ho, q⟩ =>
    unfold RD.t_is_other
    rw [s_ret, s_andV, s_call, s_cons, s_var]
    show dNil _ _ _ _
    rw [s_nil]
    refine ⟨rfl, by simp [ok], fun s e => by cases e; exact szk' ho, ?_⟩
    show truD st (.bl (nameS o)) _
    rw [s_tru_bl]
    cases hn : nameS o with
    | false =>
      rw [hn] at q
      rw [if_neg (by decide)]
      show DL.Back st Q (.bl (nameS o)) st
      rw [hn]
      exact .inl q
    | true =>
      rw [hn] at q
      rw [if_pos rfl, s_op, s_var]
      show dVar 0 _ _ _ _
      rw [s_var]
      show dNe (.str o) (.str name) st _
      rw [ne_strs]
      refine .inl ?_
      have e : (!decide (o = name)) = decide (o ≠ name) := by simp
      rw [e]
      simpa using q
/-- a bar as it should be -/
def BarV (name : Str) (p : Str × Rng) : Prop := nameS p.1 = true ∧ p.1 ≠ name ∧ wf p.2 ∧ p.1.length ≤ 1000
def sp_barV : DSp := fun ds st Q _ => match ds with
  | [.str name, d] => ∃ p, d = encB p ∧ BarV name p ∧ Q (.bl true) st
  | _ => False
theorem r_is_bar : Rd 2 sp_barV (RD.t_is_bar sp_is_tuple_of sp_is_range sp_other) RD.N_is_bar := by
  intro ds st Q Z hl h
  match ds, hl, h with
  | [.str name, d], _, ⟨p, hd, ⟨h1, h2, h3, h4⟩, q⟩ =>
    subst hd
    unfold RD.t_is_bar
    rw [s_ret, s_andV, s_call, s_cons, s_c, s_cons, s_var]
    show dNil _ _ _ _
    rw [s_nil]
    refine ⟨rfl, by simp [encB, ok, oks], ?_⟩
    show truD st (.bl true) _
    rw [s_tru_bl, if_pos rfl, s_andV, s_call, s_cons, s_var]
    show dCons _ _ _ _ _ _
    rw [s_cons, s_op, s_var]
    show dC _ _ _ _ _
    rw [s_c]
    refine ⟨.str p.1, rfl, ?_⟩
    show dNil _ _ _ _
    rw [s_nil]
    refine ⟨rfl, h4, ?_⟩
    rw [h1]
    show truD st (.bl (true && decide (p.1 ≠ name))) _
    rw [decide_eq_true h2, s_tru_bl, if_pos (by decide), s_call, s_cons, s_op, s_var]
    show dC _ _ _ _ _
    rw [s_c]
    refine ⟨encR p.2, rfl, ?_⟩
    show dNil _ _ _ _
    rw [s_nil]
    refine ⟨rfl, by simp, ?_⟩
    rw [rngOf_enc h3]
    exact .inl q
def sp_wbarV : DSp := fun ds st Q _ => match ds with
  | [.str name, d] => ∃ bs : List (Str × Rng), d = .tup (bs.map encB) ∧ bs.length ≤ 6 ∧ (∀ p ∈ bs, BarV name p) ∧ Q .non st
  | _ => False
theorem lp_wbar (E : DEnds) {st : Sto} {name : Str} {x1 : Option D} (hk : ∀ y2 y3, E.nx [some (.str name), x1, y2, y3] st) : ∀ (bs : List (Str × Rng)) (n : Nat) (y2 y3 : Option D), (∀ p ∈ bs, BarV name p) →
    runG (gTup' 2 (gCons' (gN 2) (gCons' (gN 3) gNil'))) (RD.b_wrong_bar_1 sp_withinT sp_barV) E (fun _ => True) (enumFrom n (bs.map encB)) [some (.str name), x1, y2, y3] st
  | [], n, y2, y3, _ => ⟨trivial, hk y2 y3⟩
  | p :: bs, n, y2, y3, h => by
    rw [List.map_cons, enumFrom, runG_cons]
    refine ⟨trivial, ?_⟩
    have ih := fun y2 y3 => lp_wbar E (x1 := x1) hk bs (n + 1) y2 y3 fun q hq => h q (List.mem_cons_of_mem _ hq)
    generalize hR : runG (gTup' 2 (gCons' (gN 2) (gCons' (gN 3) gNil'))) (RD.b_wrong_bar_1 sp_withinT sp_barV) E (fun _ => True) (enumFrom (n + 1) (bs.map encB)) = R at ih ⊢
    simp only [s_gTup, s_gCons, s_gN, s_gNil]
    refine ⟨rfl, ?_⟩
    unfold RD.b_wrong_bar_1
    show dIfS _ _ _ _ [some (.str name), x1, some (.int (n : Nat)), some (encB p)] st
    rw [s_ifS, s_not, s_tru, s_call, s_cons, s_var]
    show dCons _ _ _ _ _ _
    rw [s_cons, s_var]
    show dNil _ _ _ _
    rw [s_nil]
    refine ⟨rfl, p, rfl, h p List.mem_cons_self, ?_⟩
    show truD st (.bl true) _
    rw [s_tru_bl, if_neg (by decide), s_next]
    exact ih _ _
theorem r_wrong_bar : Rd 2 sp_wbarV (RD.t_wrong_bar sp_withinT sp_barV) RD.N_wrong_bar := by
  intro ds st Q Z hl h
  match ds, hl, h with
  | [.str name, d], _, ⟨bs, hd, hlen, hall, q⟩ =>
    subst hd
    unfold RD.t_wrong_bar
    rw [s_seq, s_ifS, s_not, s_tru, s_call, s_cons, s_c, s_cons, s_var]
    show dNil _ _ _ _
    rw [s_nil]
    have e6 : decide (((bs.map encB).length : Int) ≤ 6) = true := by
      rw [List.length_map]
      simp
      omega
    have hw : ∀ (Q' : DK) (Z' : DX → Sto → Prop), Q' (.bl true) st → sp_withinT [.int 6, .tup (bs.map encB)] st Q' Z' := fun Q' Z' k => by
      show Q' (.bl (decide (((bs.map encB).length : Int) ≤ 6))) st
      rw [e6]
      exact k
    refine ⟨rfl, hw _ _ ?_⟩
    rw [s_tru_bl, if_neg (by decide), s_next]
    dsimp only
    show dSeq _ _ _ [some (.str name), some (.tup (bs.map encB)), none, none] st
    rw [s_seq, s_for, s_iEn, s_cons, s_var]
    show dNil _ _ _ _
    rw [s_nil]
    show enumD st (.tup (bs.map encB)) _
    rw [s_en_tup, enumItems_eq]
    refine lp_wbar _ (fun y2 y3 => ?_) bs 0 none none hall
    dsimp only
    rw [s_ret, s_c]
    exact .inl q
def sp_wanted : DSp := fun ds st Q _ => match ds with
  | [d] => ∃ l : List Str, d = encL l ∧ (∀ s ∈ l, s.length ≤ 1000) ∧ Q (.bl (namesF "" l && decide (l.length ≤ 4))) st
  | _ => False
/-- a need as it should be -/
structure NeedV (name : Str) (fs : List (Str × List Str)) (p : Str × Str × Rng × List Str) : Prop where
  ft : p.1 = "" ∨ p.1 ∈ fs.map (·.1)
  ot : nameS p.2.1 = true ∧ p.2.1 ≠ name ∧ p.2.1.length ≤ 1000
  rg : wf p.2.2.1
  wn : namesF "" p.2.2.2 = true ∧ p.2.2.2.length ≤ 4 ∧ ∀ s ∈ p.2.2.2, s.length ≤ 1000
def sp_needV : DSp := fun ds st Q _ => match ds with
  | [.str name, fd, d] => ∃ (fs : List (Str × List Str)) (p : Str × Str × Rng × List Str), fd = .tup (fs.map encF) ∧ fs.length ≤ 6 ∧ d = encN4 p ∧ NeedV name fs p ∧ Q (.bl true) st
  | _ => False
theorem lk_names7 {ρ : Env'} {st : Sto} {Q : DK} (h7 : 7 < ρ.length) : ∀ (fs : List (Str × List Str)) (acc : List D), acc.length + fs.length < 1000 → Q (.loc st.length) (st ++ [.lst (acc ++ (fs.map (·.1)).map .str)]) →
    runC (gN 7) dYes (RD.e_is_need_1 sp_wanted sp_is_tuple_of sp_is_range sp_other) ρ Q (fun _ => True) (fs.map encF) acc st
  | [], acc, _, q => ⟨trivial, by simpa using q⟩
  | p :: fs, acc, hl, q => by
    rw [List.map_cons, runC_cons]
    refine ⟨trivial, ?_⟩
    have e7 : (ρ.set 7 (some (encF p)))[7]? = some (some (encF p)) := List.getElem?_set_self h7
    rw [s_gN, s_yes, if_pos rfl]
    unfold RD.e_is_need_1
    rw [s_op, s_var, e7]
    show dC _ _ _ _ _
    rw [s_c]
    simp only [List.length_cons] at hl
    refine ⟨_, rfl, sizeLine_big (by omega), ?_⟩
    exact lk_names7 h7 fs _ (by simp; omega) (by simpa using q)
theorem r_is_need : Rd 3 sp_needV (RD.t_is_need sp_wanted sp_is_tuple_of sp_is_range sp_other) RD.N_is_need := by
  intro ds st Q Z hl h
  match ds, hl, h with
  | [.str name, fd, d], _, ⟨fs, p, hf, hfl, hd, hv, q⟩ =>
    subst hf hd
    unfold RD.t_is_need
    have hoks : ∀ l : List Str, oks st (l.map .str) := fun l => by
      induction l with
      | nil => simp [oks]
      | cons a l ih => simp [oks, ok, ih]
    rw [s_seq, s_ifS, s_not, s_tru, s_call, s_cons, s_c, s_cons, s_var]
    show dNil _ _ _ _
    rw [s_nil]
    refine ⟨rfl, by simp [encN4, encL, ok, oks, hoks], ?_⟩
    show truD st (.bl true) _
    rw [s_tru_bl, if_neg (by decide), s_next]
    dsimp only
    rw [s_seq, s_asg, s_var]
    show gTup' 4 _ (encN4 p) _ _ _
    unfold encN4
    simp only [s_gTup, s_gCons, s_gN, s_gNil]
    refine ⟨rfl, ?_⟩
    show dSeq _ _ _ [some (.str name), some (.tup (fs.map encF)), some (encN4 p), some (.str p.1), some (.str p.2.1), some (encR p.2.2.1), some (encL p.2.2.2), none] st
    have last : ∀ st', (∃ g, st' = st ++ g) → dRet (dAndV (dCall 2 sp_other (dCons (dVar 0) (dCons (dVar 4) dNil))) (dAndV (dCall 1 sp_is_range (dCons (dVar 5) dNil)) (dCall 1 sp_wanted (dCons (dVar 6) dNil))))
        { nx := fun x st1 => DL.Back st Q D.non st1, rt := DL.Back st Q, xs := fun x x_1 st1 => BackX st Z x st1 } [some (.str name), some (.tup (fs.map encF)), some (encN4 p), some (.str p.1), some (.str p.2.1), some (encR p.2.2.1), some (encL p.2.2.2), none] st' := fun st' hg => by
      rw [s_ret, s_andV, s_call, s_cons, s_var]
      show dCons _ _ _ _ _ _
      rw [s_cons, s_var]
      show dNil _ _ _ _
      rw [s_nil]
      refine ⟨rfl, hv.ot.2.2, ?_⟩
      rw [hv.ot.1, decide_eq_true hv.ot.2.1]
      show truD st' (.bl (true && true)) _
      rw [s_tru_bl, if_pos (by decide), s_andV, s_call, s_cons, s_var]
      show dNil _ _ _ _
      rw [s_nil]
      refine ⟨rfl, by simp, ?_⟩
      rw [rngOf_enc hv.rg]
      show truD st' (.bl true) _
      rw [s_tru_bl, if_pos rfl, s_call, s_cons, s_var]
      show dNil _ _ _ _
      rw [s_nil]
      refine ⟨rfl, p.2.2.2, rfl, hv.wn.2.2, ?_⟩
      rw [hv.wn.1, decide_eq_true hv.wn.2.1]
      exact back_tup hg rfl q
    rw [s_seq, s_ifS, s_and, s_test, s_op, s_var]
    show dC _ _ _ _ _
    rw [s_c]
    show dNe (.str p.1) (.str "") st _
    rw [ne_strs]
    dsimp only
    by_cases he : p.1 = ""
    · rw [if_neg (by simp [he])]
      simp only [he]
      exact last st ⟨[], by simp⟩
    · rw [if_pos (by simp [he]), s_test, s_op, s_var]
      show dLc _ _ _ _ _ _ _ _ _
      rw [s_lc, s_iD, s_var]
      show walkD _ _ _
      rw [s_walk_tup]
      refine lk_names7 (by simp) fs [] (by simp; omega) ?_
      rw [List.nil_append]
      have hg : (st ++ [Ob.lst ((fs.map (·.1)).map D.str)])[st.length]? = some (.lst ((fs.map (·.1)).map .str)) := getElem?_push
      refine ⟨(fs.map (·.1)).map .str, by simp only [itemsD, hg], rfl, by simp [flatD], ?_⟩
      rw [inS]
      rcases hv.ft with h1 | h1
      · exact absurd h1 he
      · rw [decide_eq_true h1]
        exact last _ ⟨_, rfl⟩
def sp_wneedV : DSp := fun ds st Q _ => match ds with
  | [.str name, fd, d] => ∃ (fs : List (Str × List Str)) (ns : List (Str × Str × Rng × List Str)), fd = .tup (fs.map encF) ∧ fs.length ≤ 6 ∧ d = .tup (ns.map encN4) ∧ ns.length ≤ 8 ∧ (∀ p ∈ ns, NeedV name fs p) ∧ Q .non st
  | _ => False
theorem lp_wneed (E : DEnds) {st : Sto} {name : Str} {fs : List (Str × List Str)} (hfl : fs.length ≤ 6) {x2 : Option D} (hk : ∀ y3 y4, E.nx [some (.str name), some (.tup (fs.map encF)), x2, y3, y4] st) : ∀ (ns : List (Str × Str × Rng × List Str)) (n : Nat) (y3 y4 : Option D), (∀ p ∈ ns, NeedV name fs p) →
    runG (gTup' 2 (gCons' (gN 3) (gCons' (gN 4) gNil'))) (RD.b_wrong_need_1 sp_withinT sp_needV) E (fun _ => True) (enumFrom n (ns.map encN4)) [some (.str name), some (.tup (fs.map encF)), x2, y3, y4] st
  | [], n, y3, y4, _ => ⟨trivial, hk y3 y4⟩
  | p :: ns, n, y3, y4, h => by
    rw [List.map_cons, enumFrom, runG_cons]
    refine ⟨trivial, ?_⟩
    have ih := fun y3 y4 => lp_wneed E (x2 := x2) hfl hk ns (n + 1) y3 y4 fun q hq => h q (List.mem_cons_of_mem _ hq)
    generalize hR : runG (gTup' 2 (gCons' (gN 3) (gCons' (gN 4) gNil'))) (RD.b_wrong_need_1 sp_withinT sp_needV) E (fun _ => True) (enumFrom (n + 1) (ns.map encN4)) = R at ih ⊢
    simp only [s_gTup, s_gCons, s_gN, s_gNil]
    refine ⟨rfl, ?_⟩
    unfold RD.b_wrong_need_1
    show dIfS _ _ _ _ [some (.str name), some (.tup (fs.map encF)), x2, some (.int (n : Nat)), some (encN4 p)] st
    rw [s_ifS, s_not, s_tru, s_call, s_cons, s_var]
    show dCons _ _ _ _ _ _
    rw [s_cons, s_var]
    show dCons _ _ _ _ _ _
    rw [s_cons, s_var]
    show dNil _ _ _ _
    rw [s_nil]
    refine ⟨rfl, fs, p, rfl, hfl, rfl, h p List.mem_cons_self, ?_⟩
    show truD st (.bl true) _
    rw [s_tru_bl, if_neg (by decide), s_next]
    exact ih _ _
theorem r_wrong_need : Rd 3 sp_wneedV (RD.t_wrong_need sp_withinT sp_needV) RD.N_wrong_need := by
  intro ds st Q Z hl h
  match ds, hl, h with
  | [.str name, fd, d], _, ⟨fs, ns, hf, hfl, hd, hlen, hall, q⟩ =>
    subst hf hd
    unfold RD.t_wrong_need
    rw [s_seq, s_ifS, s_not, s_tru, s_call, s_cons, s_c, s_cons, s_var]
    show dNil _ _ _ _
    rw [s_nil]
    have e8 : decide (((ns.map encN4).length : Int) ≤ 8) = true := by
      rw [List.length_map]
      simp
      omega
    have hw : ∀ (Q' : DK) (Z' : DX → Sto → Prop), Q' (.bl true) st → sp_withinT [.int 8, .tup (ns.map encN4)] st Q' Z' := fun Q' Z' k => by
      show Q' (.bl (decide (((ns.map encN4).length : Int) ≤ 8))) st
      rw [e8]
      exact k
    refine ⟨rfl, hw _ _ ?_⟩
    rw [s_tru_bl, if_neg (by decide), s_next]
    dsimp only
    show dSeq _ _ _ [some (.str name), some (.tup (fs.map encF)), some (.tup (ns.map encN4)), none, none] st
    rw [s_seq, s_for, s_iEn, s_cons, s_var]
    show dNil _ _ _ _
    rw [s_nil]
    show enumD st (.tup (ns.map encN4)) _
    rw [s_en_tup, enumItems_eq]
    refine lp_wneed _ hfl (fun y3 y4 => ?_) ns 0 none none hall
    dsimp only
    rw [s_ret, s_c]
    exact .inl q
end CM
namespace CM
open PySem L2 PySem.Spec DL
open PyProof.Rows hiding St
open TL (tl pre spl par numL joinL)
abbrev Wish := Str × Rng × List Str
abbrev Lock := Str × Nat
def encWish (w : Wish) : D := .tup [.str w.1, encR w.2.1, encL w.2.2]
def encLock (k : Lock) : D := .tup [.str k.1, encV k.2]
def encOL : Option (List Str) → D
  | none => .non
  | some l => encL l
def encOW : Option Wish → D
  | none => .non
  | some w => encWish w
def encOK : Option Lock → D
  | none => .non
  | some w => encLock w
def lotOk (ns : List Str) : Bool := namesF "" ns && decide (ns.length ≤ 4)
def namesOf (l : List Nat) : List Str := (spl [32] 0 [] l).map SL
def withL : List Nat := [32, 119, 105, 116, 104, 32]
def wantL (t : List Nat) : Option (List Str) := if t = [] then some [] else if pre withL t = true then (if lotOk (namesOf (t.drop 6)) = true then some (namesOf (t.drop 6)) else none) else none
def rangeL (l : List Nat) : Option Rng := if wrongAt (altsOf l) = none then some (readT l) else none
def targetB (n b : List Nat) : Option Wish := if nameL n = true then match par [41] [] b with
    | some (w, t) => match rangeL w, wantL t with
      | some r, some ns => some (SL n, r, ns)
      | _, _ => none
    | none => none
  else none
def targetL (l : List Nat) : Option Wish := match par [32] [] l with
  | some (n, 40 :: b) => targetB n b
  | _ => none
def placeL (l : List Nat) : Option Lock := match par [32] [] l with
  | some (n, b) => if nameL n = true then (verText b).map fun v => (SL n, v) else none
  | none => none
theorem partition_tl {x y : Str} {S : List Nat} (hy : tl y = S) (hS : S ≠ []) : Txt.partition x y = match par S [] (tl x) with
    | some (a, b) => (SL a, y, SL b)
    | none => (x, Str.empty, Str.empty) := by
  subst hy
  exact TL.partition_par x y hS
theorem tls2 : tl (" (" : Str) = [32, 40] ∧ tl (")" : Str) = [41] ∧ tl (" " : Str) = [32] ∧ tl (" with " : Str) = withL ∧ tl ("wish " : Str) = [119, 105, 115, 104, 32] ∧ tl ("lock " : Str) = [108, 111, 99, 107, 32] ∧ tl ("\n" : Str) = [10] ∧ tl ("with" : Str) = [119, 105, 116, 104] ∧ tl ("(" : Str) = [40] := by decide
theorem SL_tl (s : Str) : SL (tl s) = s := TL.ext_tl rfl
theorem map_SL_tl : ∀ l : List Str, (l.map tl).map SL = l
  | [] => rfl
  | s :: l => by rw [List.map_cons, List.map_cons, SL_tl, map_SL_tl l]
def sp_twant : DSp := fun ds st Q _ => match ds with
  | [.str t] => t.length ≤ 1000 ∧ Q (encOL (wantL (tl t))) st
  | _ => False
@[simp] theorem e_twant {st : Sto} {Q : DK} {Z : DX → Sto → Prop} {t : Str} : sp_twant [.str t] st Q Z = (t.length ≤ 1000 ∧ Q (encOL (wantL (tl t))) st) := rfl
theorem len0 {t : Str} : t = "" ↔ tl t = [] := by rw [str_eq]; rfl
end CM
namespace CM
open PySem L2 PySem.Spec DL
open PyProof.Rows hiding St
open TL (tl pre spl par numL joinL)
theorem s_partV {a b : Str} {st : Sto} {Q : DK} : dPartition (.str a) [.str b] st Q = ((b.length == 0) = false ∧ a.length ≤ sizeLine ∧ Q (.tup [.str (Txt.partition a b).1, .str (Txt.partition a b).2.1, .str (Txt.partition a b).2.2]) st) := rfl
def sp_trange : DSp := fun ds st Q _ => match ds with
  | [.str t] => t.length ≤ 1000 ∧ Q (encOR (rangeL (tl t))) st
  | _ => False
@[simp] theorem e_trange {st : Sto} {Q : DK} {Z : DX → Sto → Prop} {t : Str} : sp_trange [.str t] st Q Z = (t.length ≤ 1000 ∧ Q (encOR (rangeL (tl t))) st) := rfl
def sp_ttarget : DSp := fun ds st Q _ => match ds with
  | [.str t] => t.length ≤ 1000 ∧ Q (encOW (targetL (tl t))) st
  | _ => False
@[simp] theorem e_ttarget {st : Sto} {Q : DK} {Z : DX → Sto → Prop} {t : Str} : sp_ttarget [.str t] st Q Z = (t.length ≤ 1000 ∧ Q (encOW (targetL (tl t))) st) := rfl
theorem part3_len {l S : List Nat} (hS : S ≠ []) : (∀ a b, par S [] l = some (a, b) → a.length ≤ l.length ∧ b.length ≤ l.length) := fun a b h => by
  obtain ⟨q, e, rfl⟩ := par_some h
  simp only [List.nil_append] at e
  subst e
  simp only [List.length_append]
  omega
theorem str_of_par {x y : Str} {S : List Nat} (hy : tl y = S) (hS : S ≠ []) : (par S [] (tl x) = none ∧ Txt.partition x y = (x, Str.empty, Str.empty)) ∨ ∃ a b, par S [] (tl x) = some (a, b) ∧ Txt.partition x y = (SL a, y, SL b) ∧ (SL a).length ≤ x.length ∧ (SL b).length ≤ x.length := by
  rw [partition_tl hy hS]
  cases h : par S [] (tl x) with
  | none => exact .inl ⟨rfl, rfl⟩
  | some p =>
    obtain ⟨a, b⟩ := p
    have := part3_len hS a b h
    exact .inr ⟨a, b, rfl, rfl, by rw [TL.len_tl, TL.len_tl x]; exact this⟩
def sp_tplace : DSp := fun ds st Q _ => match ds with
  | [.str t] => t.length ≤ 1000 ∧ Q (encOK (placeL (tl t))) st
  | _ => False
@[simp] theorem e_tplace {st : Sto} {Q : DK} {Z : DX → Sto → Prop} {t : Str} : sp_tplace [.str t] st Q Z = (t.length ≤ 1000 ∧ Q (encOK (placeL (tl t))) st) := rfl
theorem verText_nil : verText [] = none := by decide +kernel
end CM
namespace CM
open PySem L2 PySem.Spec DL
open PyProof.Rows hiding St
open TL (tl pre spl par numL joinL)
def wishP : List Nat := [119, 105, 115, 104, 32]
def lockP : List Nat := [108, 111, 99, 107, 32]
end CM
namespace CM
open PySem L2 PySem.Spec DL
open PyProof.Rows hiding St
def sp_relV : DSp := fun ds st Q _ => match ds with
  | [d] => ∃ v, d = encV v ∧ smallV v ∧ Q (.bl true) st
  | _ => False
theorem r_is_release : Rd 1 sp_relV (RD.t_is_release sp_is_version) RD.N_is_release := by
  intro ds st Q Z hl h
  match ds, hl, h with
  | [d], _, ⟨v, hd, hv, q⟩ =>
    subst hd
    unfold RD.t_is_release
    rw [s_ret, s_andV, s_call, s_cons, s_var]
    show dNil _ _ _ _
    rw [s_nil]
    refine ⟨rfl, by simp [encV, ok, oks], ?_⟩
    rw [ver_enc hv.ok]
    show truD st (.bl true) _
    rw [s_tru_bl, if_pos rfl, s_op, s_cb, s_cons, s_var]
    show dNil _ _ _ _
    rw [s_nil]
    show dMaxT [.tup [.int (vA v), .int (vB v), .int (vC v)]] st _
    rw [s_maxT]
    refine ⟨[(vA v : Int), (vB v : Int), (vC v : Int)], rfl, by simp, fun m hm _ => ?_⟩
    rw [s_c]
    have hle : m ≤ 999999 := by
      simp only [List.mem_cons, List.not_mem_nil, or_false] at hm
      have := hv.1; have := hv.2.1; have := hv.2.2
      rcases hm with rfl | rfl | rfl <;> omega
    show DL.Back st Q (.bl (decide (m ≤ 999999))) st
    rw [decide_eq_true hle]
    exact .inl q
/-- an entry as it should be -/
structure EntryV (e : RawE) : Prop where
  nm : nameS e.name = true ∧ e.name.length ≤ 1000
  vr : smallV e.ver
  ft : FeatsV e.feats
  nd : e.needs.length ≤ 8 ∧ ∀ p ∈ e.needs, NeedV e.name e.feats p
  br : e.bars.length ≤ 6 ∧ ∀ p ∈ e.bars, BarV e.name p
def sp_wpartV : DSp := fun ds st Q _ => match ds with
  | [d1, d2, d3, d4, d5] => ∃ e : RawE, d1 = .str e.name ∧ d2 = encV e.ver ∧ d3 = .tup (e.feats.map encF) ∧ d4 = .tup (e.needs.map encN4) ∧ d5 = .tup (e.bars.map encB) ∧ EntryV e ∧ Q .non st
  | _ => False
theorem r_wrong_part : Rd 5 sp_wpartV (RD.t_wrong_part sp_name sp_relV sp_featsV sp_wneedV sp_wbarV) RD.N_wrong_part := by
  intro ds st Q Z hl h
  match ds, hl, h with
  | [d1, d2, d3, d4, d5], _, ⟨e, e1, e2, e3, e4, e5, hv, q⟩ =>
    subst e1 e2 e3 e4 e5
    unfold RD.t_wrong_part
    rw [s_seq, s_ifS, s_not, s_tru, s_call, s_cons, s_var]
    show dNil _ _ _ _
    rw [s_nil]
    refine ⟨rfl, by simp [ok], fun s e => by cases e; exact szk' hv.nm.2, ?_⟩
    show truD st (.bl (nameS e.name)) _
    rw [hv.nm.1, s_tru_bl, if_neg (by decide), s_next]
    dsimp only
    rw [s_seq, s_ifS, s_not, s_tru, s_call, s_cons, s_var]
    show dNil _ _ _ _
    rw [s_nil]
    refine ⟨rfl, e.ver, rfl, hv.vr, ?_⟩
    show truD st (.bl true) _
    rw [s_tru_bl, if_neg (by decide), s_next]
    dsimp only
    rw [s_seq, s_ifS, s_not, s_tru, s_call, s_cons, s_var]
    show dNil _ _ _ _
    rw [s_nil]
    refine ⟨rfl, e.feats, rfl, hv.ft, ?_⟩
    show truD st (.bl true) _
    rw [s_tru_bl, if_neg (by decide), s_next]
    dsimp only
    rw [s_seq, s_asg, s_call, s_cons, s_var]
    show dCons _ _ _ _ _ _
    rw [s_cons, s_var]
    show dCons _ _ _ _ _ _
    rw [s_cons, s_var]
    show dNil _ _ _ _
    rw [s_nil]
    refine ⟨rfl, e.feats, e.needs, rfl, hv.ft.len, rfl, hv.nd.1, hv.nd.2, ?_⟩
    dsimp only
    rw [s_gN]
    show dSeq _ _ _ [some (.str e.name), some (encV e.ver), some (.tup (e.feats.map encF)), some (.tup (e.needs.map encN4)), some (.tup (e.bars.map encB)), some .non] st
    rw [s_seq, s_ifS, s_test, s_op, s_var]
    show dC _ _ _ _ _
    rw [s_c]
    rw [show dIsN id (.non) .non st = fun Q => Q (.bl true) st from rfl]
    dsimp only
    rw [if_pos rfl, s_asg, s_call, s_cons, s_var]
    show dCons _ _ _ _ _ _
    rw [s_cons, s_var]
    show dNil _ _ _ _
    rw [s_nil]
    refine ⟨rfl, e.bars, rfl, hv.br.1, hv.br.2, ?_⟩
    dsimp only
    rw [s_gN]
    show dRet _ _ [some (.str e.name), some (encV e.ver), some (.tup (e.feats.map encF)), some (.tup (e.needs.map encN4)), some (.tup (e.bars.map encB)), some .non] st
    rw [s_ret, s_var]
    exact .inl q
theorem namesF_of : ∀ {l : List Str} {p : Str}, (∀ s ∈ l, nameS s = true) → (p :: l).Pairwise (fun a b => ltS a b = true) → namesF p l = true
  | [], _, _, _ => rfl
  | s :: r, p, h, hp => by
    obtain ⟨h1, h2⟩ := List.pairwise_cons.mp hp
    simp only [namesF, Bool.and_eq_true]
    exact ⟨h s List.mem_cons_self, h1 s List.mem_cons_self, namesF_of (fun q hq => h q (List.mem_cons_of_mem _ hq)) h2⟩
end CM
namespace CM
open PySem L2 PySem.Spec DL
open PyProof.Rows hiding St
section
variable [EC : ErrCtx]
omit [EC : ErrCtx] in
theorem putFD_new {f : Str} {d : D} : ∀ {fs : List (Str × D)}, (∀ p ∈ fs, p.1 ≠ f) → putFD f d fs = fs ++ [(f, d)]
  | [], _ => rfl
  | (g, x) :: r, h => by
    unfold putFD
    rw [if_neg (h (g, x) List.mem_cons_self), putFD_new fun p hp => h p (List.mem_cons_of_mem _ hp)]
    rfl
/-- an entry's fields -/
def entF (e : RawE) : List (Str × D) := [("name", .str e.name), ("version", encV e.ver), ("features", .tup (e.feats.map encF)), ("needs", .tup (e.needs.map encN4)), ("bars", .tup (e.bars.map encB))]
def sp_einit : DSp := fun ds st Q _ => match ds with
  | [.loc n, d1, d2, d3, d4, d5] => ∃ e : RawE, d1 = .str e.name ∧ d2 = encV e.ver ∧ d3 = .tup (e.feats.map encF) ∧ d4 = .tup (e.needs.map encN4) ∧ d5 = .tup (e.bars.map encB) ∧ EntryV e ∧ st[n]? = some (.ins (errA 100) []) ∧ Q .non (st.set n (.ins (errA 100) (entF e)))
  | _ => False
theorem s_setF {f : Str} {ms : List Nat} {to te : DTE} {E : DEnds} {ρ : Env'} {st : Sto} : dSetF f ms to te E ρ st = te ρ st (fun y st1 => to ρ st1 (fun z st2 => ∃ n m fs, z = .loc n ∧ m ∈ ms ∧ st2[n]? = some (.ins (errA m) fs) ∧ fs.length < 1000 ∧ E.nx ρ (st2.set n (.ins (errA m) (putFD f y fs)))) E.xs) E.xs := rfl
theorem setF_ok {f : Str} {i n : Nat} {d : D} {fs : List (Str × D)} {E : DEnds} {ρ : Env'} {st : Sto} (h0 : ρ[0]? = some (some (.loc n))) (hi : ρ[i]? = some (some d)) (hn : st[n]? = some (.ins (errA 100) fs)) (hl : fs.length < 1000) (k : E.nx ρ (st.set n (.ins (errA 100) (putFD f d fs)))) : dSetF f [100] (dVar 0) (dVar i) E ρ st := by
  rw [s_setF, s_var, hi]
  dsimp only
  rw [s_var, h0]
  exact ⟨n, 100, fs, rfl, by simp, hn, hl, k⟩
theorem r_Entry___init__ : Rd 6 sp_einit (RD.t_Entry___init__ sp_wpartV) RD.N_Entry___init__ := by
  intro ds st Q Z hl h
  match ds, hl, h with
  | [.loc n, d1, d2, d3, d4, d5], _, ⟨e, e1, e2, e3, e4, e5, hv, hn, q⟩ =>
    unfold RD.t_Entry___init__
    rw [s_seq, s_asg, s_call, s_cons, s_var]
    show dCons _ _ _ _ _ _
    rw [s_cons, s_var]
    show dCons _ _ _ _ _ _
    rw [s_cons, s_var]
    show dCons _ _ _ _ _ _
    rw [s_cons, s_var]
    show dCons _ _ _ _ _ _
    rw [s_cons, s_var]
    show dNil _ _ _ _
    rw [s_nil]
    refine ⟨rfl, e, e1, e2, e3, e4, e5, hv, ?_⟩
    subst e1 e2 e3 e4 e5
    dsimp only
    rw [s_gN]
    show dSeq _ _ _ [some (.loc n), some (.str e.name), some (encV e.ver), some (.tup (e.feats.map encF)), some (.tup (e.needs.map encN4)), some (.tup (e.bars.map encB)), some .non] st
    rw [s_seq, s_ifS, s_test, s_op, s_var]
    show dC _ _ _ _ _
    rw [s_c]
    rw [show dIsN not (.non) .non st = fun Q => Q (.bl false) st from rfl]
    dsimp only
    rw [if_neg (by decide), s_next]
    dsimp only
    have hlt : n < st.length := (List.getElem?_eq_some_iff.mp hn).1
    have at_ : ∀ o, (st.set n o)[n]? = some o := fun o => List.getElem?_set_self hlt
    rw [s_seq]
    refine setF_ok rfl rfl hn (by simp) ?_
    rw [show putFD "name" (.str e.name) [] = ([(("name" : Str), D.str e.name)] : List (Str × D)) from rfl]
    dsimp only
    rw [s_seq]
    refine setF_ok rfl rfl (at_ _) (by simp) ?_
    rw [putFD_new (f := "version") (fs := [(("name" : Str), (.str e.name : D))]) (by simp; decide), List.set_set]
    dsimp only
    rw [s_seq]
    refine setF_ok rfl rfl (at_ _) (by simp) ?_
    rw [putFD_new (f := "features") (fs := [(("name" : Str), (.str e.name : D))] ++ [(("version" : Str), (encV e.ver : D))]) (by simp; decide), List.set_set]
    dsimp only
    rw [s_seq]
    refine setF_ok rfl rfl (at_ _) (by simp) ?_
    rw [putFD_new (f := "needs") (fs := [(("name" : Str), (.str e.name : D))] ++ [(("version" : Str), (encV e.ver : D))] ++ [(("features" : Str), (.tup (e.feats.map encF) : D))]) (by simp; decide), List.set_set]
    dsimp only
    refine setF_ok rfl rfl (at_ _) (by simp) ?_
    rw [putFD_new (f := "bars") (fs := [(("name" : Str), (.str e.name : D))] ++ [(("version" : Str), (encV e.ver : D))] ++ [(("features" : Str), (.tup (e.feats.map encF) : D))] ++ [(("needs" : Str), (.tup (e.needs.map encN4) : D))]) (by simp; decide), List.set_set]
    exact .inl q
end
end CM
namespace CM
open PySem L2 PySem.Spec DL
open PyProof.Rows hiding St
open TL (tl pre spl par numL joinL)
structure AskV (ws : List Wish) (ls : List Lock) : Prop where
  w8 : ws.length ≤ 8
  wv : ∀ w ∈ ws, nameS w.1 = true ∧ wf w.2.1 ∧ lotOk w.2.2 = true ∧ ∀ s ∈ w.2.2, s.length ≤ 1000
  l40 : ls.length ≤ 40
  lv : ∀ k ∈ ls, okV k.2
  ln : namesF "" (ls.map (·.1)) = true
theorem AskV.nil : AskV [] [] := ⟨by simp, by simp, by simp, by simp, rfl⟩
theorem name12 {s : Str} (h : nameS s = true) : s.length ≤ 12 := by
  unfold nameS at h
  simp only [Bool.and_eq_true, decide_eq_true_eq] at h
  exact h.1
theorem namesF_names : ∀ {l : List Str} {p : Str}, namesF p l = true → ∀ s ∈ l, nameS s = true
  | s :: r, p, h, t, ht => by
    simp only [namesF, Bool.and_eq_true] at h
    rcases List.mem_cons.mp ht with rfl | ht
    · exact h.1
    · exact namesF_names h.2.2 t ht
theorem ltS_eq (a b : Str) : ltS a b = decide (tl a < tl b) := PySem.W.dataLt_str a b
theorem ltS_empty {s : Str} (h : nameS s = true) : ltS "" s = true := by
  rw [ltS_eq]
  rw [nameS_eq] at h
  have e : tl ("" : Str) = [] := rfl
  rw [e]
  cases hs : tl s with
  | nil => rw [hs] at h; exact absurd h (by decide)
  | cons c r => simp
theorem verM_okV {d : D} {n : Nat} (h : verM 1000000 d = some n) : okV n := by
  unfold verM at h
  split at h
  · split at h
    · rename_i x y z e1 e2 e3
      cases h
      have h1 := (most_some e1).2
      have h2 := (most_some e2).2
      have h3 := (most_some e3).2
      unfold okV
      rw [vA_mk (by omega) (by omega)]
      exact h1
    · cases h
  · cases h
theorem ok_encL {st : Sto} (l : List Str) : ok st (encL l) := by
  unfold encL
  rw [ok_tup]
  induction l with
  | nil => simp
  | cons s l ih => simp [ih]
end CM
namespace CM
open PySem L2 PySem.Spec DL
open PyProof.Rows hiding St
open TL (tl pre spl par numL joinL)
theorem strOk_name {s : Str} (h : nameS s = true) : PyData.strOk s = true := by
  rw [nameS_eq] at h
  have := nameL_free h
  unfold PyData.strOk
  rw [← Array.all_toList, List.all_eq_true]
  intro c hc
  have := this c hc
  simp
  omega
theorem pus_strs : ∀ {l : List Str}, (∀ s ∈ l, nameS s = true) → pus (l.map .str) = true
  | [], _ => rfl
  | s :: l, h => by
    simp only [List.map_cons, pus, pu, Bool.and_eq_true]
    exact ⟨strOk_name (h s List.mem_cons_self), pus_strs fun t ht => h t (List.mem_cons_of_mem _ ht)⟩
theorem dps_strs : ∀ l : List Str, dps (l.map .str) = 0
  | [] => rfl
  | s :: l => by simp only [List.map_cons, dps, dp, dps_strs l]; rfl
section
variable [EC : ErrCtx]
def lastS (l : List Str) : Str := l.getLast?.getD ""
theorem split_ne (t y : Str) (hy : tl y ≠ []) (h : ∀ c ∈ tl y, c < 256) : Txt.split t y ≠ [] := fun z => by
  have := split_tl (x := t) rfl hy h
  rw [z] at this
  exact spl_ne _ _ _ this.symm
end
end CM
namespace CM
open PySem L2 PySem.Spec DL
open PyProof.Rows hiding St
open TL (tl pre spl par numL joinL)
theorem var_ev {i : Nat} {d : D} {ρ : Env'} {st : Sto} {Q : DK} {Z : DZ} (h : ρ[i]? = some (some d)) (q : Q d st) : dVar i ρ st Q Z := by
  rw [s_var, h]
  exact q
theorem fmt_ev {te : DTE} {y : Str} {ρ : Env'} {st : Sto} {Q : DK} {Z : DZ} (he : ∀ (QE : DK) Z, QE (.str y) st → te ρ st QE Z) (hl : y.length ≤ sizeLine) (q : Q (.str y) st) : dFmt te ρ st Q Z := by
  rw [s_fmt]
  exact he _ _ ⟨hl, q⟩
theorem js_ev {te : DTE} {ts : List DTE} {acc y : Str} {ρ : Env'} {st : Sto} {Q : Str → Sto → Prop} {Z : DZ} (he : ∀ (QE : DK) Z, QE (.str y) st → te ρ st QE Z) (hl : (acc ++ y).length ≤ sizeLine) (q : dJs ts (acc ++ y) ρ st Q Z) : dJs (te :: ts) acc ρ st Q Z := by
  rw [s_js]
  exact he _ _ ⟨hl, q⟩
def lineS (s : Str) : Str := s ++ "\n"
def linesT (W : List Str) : Str := Txt.join "" (W.map lineS)
theorem lineS_len (s : Str) : (lineS s).length = s.length + 1 := by
  unfold lineS
  rw [app_len]
  rfl
end CM
namespace CM
open PySem L2 PySem.Spec DL
open PyProof.Rows hiding St
open TL (tl pre spl par numL joinL)
def placeT (k : Lock) : Str := (k.1 ++ " ") ++ vText k.2
theorem k1 : (" " : Str).length = 1 ∧ (" (" : Str).length = 2 ∧ (")" : Str).length = 1 ∧ ("with" : Str).length = 4 ∧ ("wish " : Str).length = 5 ∧ ("lock " : Str).length = 5 ∧ (" with " : Str).length = 6 := by decide
theorem placeT_len {k : Lock} (hn : nameS k.1 = true) (hk : okV k.2) : (placeT k).length ≤ 40 := by
  have h1 := name12 hn
  have h2 := vText_len hk
  unfold placeT
  simp only [app_len, k1.1]
  omega
end CM
namespace CM
open PySem L2 PySem.Spec DL
open PyProof.Rows hiding St
open TL (tl pre spl par numL joinL)
theorem low_mem (c : Nat) : decide (c ∈ ("abcdefghijklmnopqrstuvwxyz" : Str).cps.toList) = decide (97 ≤ c ∧ c ≤ 122) := by
  have e : ("abcdefghijklmnopqrstuvwxyz" : Str).cps.toList = [97, 98, 99, 100, 101, 102, 103, 104, 105, 106, 107, 108, 109, 110, 111, 112, 113, 114, 115, 116, 117, 118, 119, 120, 121, 122] := by decide
  rw [e]
  refine decide_eq_decide.mpr ?_
  simp only [List.mem_cons, List.not_mem_nil, or_false]
  omega
def sp_lname : DSp := fun ds st Q _ => match ds with
  | [.str t] => t.length ≤ 1000 ∧ Q (.bl (nameL (tl t))) st
  | _ => False
@[simp] theorem e_lname {st : Sto} {Q : DK} {Z : DX → Sto → Prop} {t : Str} : sp_lname [.str t] st Q Z = (t.length ≤ 1000 ∧ Q (.bl (nameL (tl t))) st) := rfl
theorem asc_perm (M : List Str) : (TxS.asc M).Perm M := List.mergeSort_perm _ _
theorem le_ltS (a b : Str) : PySem.W.dataLe false PyData.str a b = !ltS b a := rfl
theorem ltS_irrefl (a : Str) : ltS a a = false := by rw [ltS_eq]; simp
theorem ltS_trans {a b c : Str} (h1 : ltS a b = true) (h2 : ltS b c = true) : ltS a c = true := by
  rw [ltS_eq] at *
  simp only [decide_eq_true_eq] at *
  exact List.lt_trans h1 h2
theorem ltS_tri {a b : Str} (h1 : ltS a b = false) (h2 : ltS b a = false) : a = b := by
  rw [ltS_eq] at *
  simp only [decide_eq_false_iff_not] at *
  exact str_eq.mpr (List.le_antisymm h2 h1)
theorem asc_sorted (M : List Str) : (TxS.asc M).Pairwise fun a b => ltS b a = false := by
  have := List.pairwise_mergeSort (le := PySem.W.dataLe false PyData.str) (fun a b c h1 h2 => by
      rw [le_ltS] at *
      cases h : ltS c a with
      | false => rfl
      | true =>
        exfalso
        have h1' : ltS b a = false := by simpa using h1
        have h2' : ltS c b = false := by simpa using h2
        cases hab : ltS a b with
        | false => rw [ltS_tri hab h1'] at h; rw [h] at h2'; cases h2'
        | true => rw [ltS_trans h hab] at h2'; cases h2')
    (fun a b => by
      rw [le_ltS, le_ltS]
      cases h : ltS b a with
      | false => rfl
      | true =>
        cases h2 : ltS a b with
        | false => rfl
        | true => have := ltS_trans h h2; rw [ltS_irrefl] at this; cases this) M
  refine this.imp fun h => ?_
  rw [le_ltS] at h
  simpa using h
def up (l : List Str) : Prop := l.Pairwise fun a b => ltS a b = true
theorem asc_up {M : List Str} (h : M.Nodup) : up (TxS.asc M) := by
  have h1 := asc_sorted M
  have h2 : (TxS.asc M).Nodup := (asc_perm M).nodup_iff.mpr h
  refine (h1.and h2).imp fun {a b} hab => ?_
  cases h : ltS a b with
  | true => rfl
  | false => exact absurd (ltS_tri h hab.1) hab.2
theorem up_uniq : ∀ {l m : List Str}, up l → up m → (∀ x, x ∈ l ↔ x ∈ m) → l = m
  | [], [], _, _, _ => rfl
  | [], b :: m, _, _, h => absurd ((h b).mpr List.mem_cons_self) (by simp)
  | a :: l, [], _, _, h => absurd ((h a).mp List.mem_cons_self) (by simp)
  | a :: l, b :: m, hl, hm, h => by
    obtain ⟨l1, l2⟩ := List.pairwise_cons.mp hl
    obtain ⟨m1, m2⟩ := List.pairwise_cons.mp hm
    have e : a = b := by
      rcases List.mem_cons.mp ((h a).mp List.mem_cons_self) with e | ha
      · exact e
      rcases List.mem_cons.mp ((h b).mpr List.mem_cons_self) with e | hb
      · exact e.symm
      have := ltS_trans (l1 b hb) (m1 a ha)
      rw [ltS_irrefl] at this
      cases this
    subst e
    have na : a ∉ l := fun z => by have := l1 a z; rw [ltS_irrefl] at this; cases this
    have nb : a ∉ m := fun z => by have := m1 a z; rw [ltS_irrefl] at this; cases this
    congr 1
    refine up_uniq l2 m2 fun x => ?_
    have := h x
    simp only [List.mem_cons] at this
    constructor
    · intro hx
      rcases this.mp (.inr hx) with e | hx'
      · exact absurd (e ▸ hx) na
      · exact hx'
    · intro hx
      rcases this.mpr (.inr hx) with e | hx'
      · exact absurd (e ▸ hx) nb
      · exact hx'
theorem namesF_iff : ∀ {l : List Str} {p : Str}, (∀ s ∈ l, nameS s = true) → (namesF p l = true ↔ (p :: l).Pairwise fun a b => ltS a b = true) := fun {l p} hs =>
  ⟨fun h => by
    induction l generalizing p with
    | nil => simp
    | cons s r ih =>
      simp only [namesF, Bool.and_eq_true] at h
      have h2 := ih (p := s) (fun z hz => hs z (List.mem_cons_of_mem _ hz)) h.2.2
      refine List.pairwise_cons.mpr ⟨fun z hz => ?_, h2⟩
      rcases List.mem_cons.mp hz with rfl | hz
      · exact h.2.1
      · exact ltS_trans h.2.1 ((List.pairwise_cons.mp h2).1 z hz), fun h => namesF_of hs h⟩
theorem namesF_up {l : List Str} (hs : ∀ s ∈ l, nameS s = true) : namesF "" l = true ↔ up l := by
  rw [namesF_iff hs]
  exact ⟨fun h => (List.pairwise_cons.mp h).2, fun h => List.pairwise_cons.mpr ⟨fun z hz => ltS_empty (hs z hz), h⟩⟩
end CM
namespace CM
open PySem L2 PySem.Spec DL
open PyProof.Rows hiding St
open TL (tl pre spl par numL joinL)
/-- == of lists of plain data -/
theorem eq_lists {f : Bool → Bool} {a b : Nat} {ds es : List D} {st : Sto} {Q : DK} {r : Bool} (ha : st[a]? = some (.lst ds)) (hb : st[b]? = some (.lst es)) (hx : pus ds = true) (hy : pus es = true) (dx : dps ds ≤ 50) (dy : dps es ≤ 50) (hr : r = true ↔ ds = es) (q : Q (.bl (f r)) st) : dEqB f (.loc a) (.loc b) st Q := by
  unfold dEqB
  dsimp only [atomEq]
  have one : ∀ {m : Nat} {ds : List D}, st[m]? = some (.lst ds) → pus ds = true → dps ds ≤ 50 → pdF st 60 (.loc m) = some (.list (pds ds)) := fun {m ds} hm hp hd => by
    unfold pdF
    rw [hm]
    dsimp only
    rw [mapM_pds (n := 59) (fun d h1 h2 => pdF_pd st 59 d h1 h2) ds hp (by omega)]
    rfl
  have sh : ∀ {ds : List D}, pus ds = true → dps ds ≤ 50 → SeqAt.shaped (.list (pds ds)) = true := fun {ds} hp hd => by
    unfold SeqAt.shaped
    have h1 := pds_lay ds hp
    have h2 := pds_depth ds
    simp [PyData.canLay0, PyData.depth, h1, h2]
    omega
  refine ⟨60, _, _, one ha hx dx, one hb hy dy, sh hx dx, sh hy dy, ?_⟩
  have : PyData.eqv (.list (pds ds)) (.list (pds es)) = r := by
    have h := eqv_pds ds es hx hy
    have e : PyData.eqv (.list (pds ds)) (.list (pds es)) = PyData.eqvAll (pds ds) (pds es) := by simp [PyData.eqv]
    rw [e]
    cases r <;> cases e2 : PyData.eqvAll (pds ds) (pds es) <;> simp_all
  rw [this]
  exact q
end CM
namespace CM
open PySem L2 PySem.Spec DL
open PyProof.Rows hiding St
open TL (tl pre spl par numL joinL)
def sp_lrv : DSp := fun ds st Q _ => match ds with
  | [.str t] => t.length ≤ 1000 ∧ Q (encO (verText (tl t))) st
  | _ => False
@[simp] theorem e_lrv {st : Sto} {Q : DK} {Z : DX → Sto → Prop} {t : Str} : sp_lrv [.str t] st Q Z = (t.length ≤ 1000 ∧ Q (encO (verText (tl t))) st) := rfl
def sp_lrp : DSp := fun ds st Q _ => match ds with
  | [.str t] => t.length ≤ 1000 ∧ Q (encOR (partOf (tl t))) st
  | _ => False
@[simp] theorem e_lrp {st : Sto} {Q : DK} {Z : DX → Sto → Prop} {t : Str} : sp_lrp [.str t] st Q Z = (t.length ≤ 1000 ∧ Q (encOR (partOf (tl t))) st) := rfl
end CM
namespace CM
open PySem L2 PySem.Spec DL
open PyProof.Rows hiding St
open TL (tl pre spl par numL joinL)
def sp_lrr : DSp := fun ds st Q _ => match ds with
  | [.str t] => t.length ≤ 1000 ∧ (tl t).count 44 ≤ 6 ∧ (tl t).count 124 ≤ 2 ∧ Q (encOR (rangeL (tl t))) st
  | _ => False
@[simp] theorem e_lrr {st : Sto} {Q : DK} {Z : DX → Sto → Prop} {t : Str} : sp_lrr [.str t] st Q Z = (t.length ≤ 1000 ∧ (tl t).count 44 ≤ 6 ∧ (tl t).count 124 ≤ 2 ∧ Q (encOR (rangeL (tl t))) st) := rfl
end CM
namespace CM
open PySem L2 PySem.Spec DL
open PyProof.Rows hiding St
open TL (tl pre spl par numL joinL)
def wishLine (l : List Nat) : Option Wish := if pre wishP l = true then targetL (l.drop 5) else none
def lockLine (l : List Nat) : Option Lock := if pre lockP l = true then placeL (l.drop 5) else none
end CM
namespace CM
open PySem L2 PySem.Spec DL
open PyProof.Rows hiding St
open TL (tl pre spl par numL joinL)
def sp_lrk : DSp := fun ds st Q _ => match ds with
  | [.str t] => t.length ≤ 1000 ∧ Q (encOK (lockLine (tl t))) st
  | _ => False
@[simp] theorem e_lrk {st : Sto} {Q : DK} {Z : DX → Sto → Prop} {t : Str} : sp_lrk [.str t] st Q Z = (t.length ≤ 1000 ∧ Q (encOK (lockLine (tl t))) st) := rfl
def sp_lrw : DSp := fun ds st Q _ => match ds with
  | [.str t] => t.length ≤ 1000 ∧ (tl t).count 44 ≤ 6 ∧ (tl t).count 124 ≤ 2 ∧ Q (encOW (wishLine (tl t))) st
  | _ => False
@[simp] theorem e_lrw {st : Sto} {Q : DK} {Z : DX → Sto → Prop} {t : Str} : sp_lrw [.str t] st Q Z = (t.length ≤ 1000 ∧ (tl t).count 44 ≤ 6 ∧ (tl t).count 124 ≤ 2 ∧ Q (encOW (wishLine (tl t))) st) := rfl
end CM
namespace CM
open PySem L2 PySem.Spec DL
open PyProof.Rows hiding St
open TL (tl pre spl par numL joinL)
theorem sub2 {α : Type} {x y : α} {sub : List α} (h : List.Sublist sub [x, y]) : sub = [] ∨ sub = [x] ∨ sub = [y] ∨ sub = [x, y] := by
  cases h with
  | cons _ h => cases h with
    | cons _ h => cases h; simp
    | cons_cons _ h => cases h; simp
  | cons_cons _ h => cases h with
    | cons _ h => cases h; simp
    | cons_cons _ h => cases h; simp
end CM
namespace CM
open PySem L2 PySem.Spec DL
open PyProof.Rows hiding St
def kvsK (c : Nat) (a b d e : Int) : List (Key × D) := [(.inr "cells", .loc c), (.inr "at", .int a), (.inr "left", .int b), (.inr "seed", .int d), (.inr "turn", .int e)]
def handK (c : Nat) (a b d e : Int) : Ob := .dK (kvsK c a b d e)
section
variable {c : Nat} {a b d e x : Int}
theorem vk_cells : valD (kvsK c a b d e) (.inr "cells") = some (.loc c) := rfl
theorem vk_at : valD (kvsK c a b d e) (.inr "at") = some (.int a) := rfl
theorem vk_left : valD (kvsK c a b d e) (.inr "left") = some (.int b) := rfl
theorem vk_seed : valD (kvsK c a b d e) (.inr "seed") = some (.int d) := rfl
theorem vk_turn : valD (kvsK c a b d e) (.inr "turn") = some (.int e) := rfl
theorem pk_at : putD (kvsK c a b d e) (.inr "at") (.int x) = kvsK c x b d e := rfl
theorem pk_left : putD (kvsK c a b d e) (.inr "left") (.int x) = kvsK c a x d e := rfl
theorem pk_seed : putD (kvsK c a b d e) (.inr "seed") (.int x) = kvsK c a b x e := rfl
theorem pk_turn : putD (kvsK c a b d e) (.inr "turn") (.int x) = kvsK c a b d x := rfl
theorem len_kvsK : (kvsK c a b d e).length = 5 := rfl
end
structure HdK (st : Sto) (h c : Nat) : Prop where
  ex : ∃ (cells : List Int) (a b d e : Int), st[h]? = some (handK c a b d e) ∧ st[c]? = some (.lst (cells.map .int)) ∧ 0 ≤ a
section
variable {st st' : Sto} {h c : Nat}
theorem HdK.ne (H : HdK st h c) : c ≠ h := by
  obtain ⟨cells, a, b, d, e, h1, h2, _⟩ := H.ex
  intro z
  rw [z, h1] at h2
  cases h2
theorem HdK.hlt (H : HdK st h c) : h < st.length := by
  obtain ⟨cells, a, b, d, e, h1, h2, _⟩ := H.ex
  exact (List.getElem?_eq_some_iff.mp h1).1
theorem HdK.clt (H : HdK st h c) : c < st.length := by
  obtain ⟨cells, a, b, d, e, h1, h2, _⟩ := H.ex
  exact (List.getElem?_eq_some_iff.mp h2).1
theorem HdK.app (H : HdK st h c) (g : Sto) : HdK (st ++ g) h c := by
  obtain ⟨cells, a, b, d, e, h1, h2, h3⟩ := H.ex
  exact ⟨cells, a, b, d, e, gb h1, gb h2, h3⟩
end
structure GrK (h c : Nat) (st st' : Sto) : Prop where
  len : st.length ≤ st'.length
  same : ∀ n, n < st.length → n ≠ h → st'[n]? = st[n]?
  hd : HdK st' h c
  hd0 : HdK st h c
theorem GrK.hlt {h c : Nat} {st st' : Sto} (g : GrK h c st st') : h < st.length := g.hd0.hlt
theorem GrK.clt {h c : Nat} {st st' : Sto} (g : GrK h c st st') : c < st.length := g.hd0.clt
theorem GrK.refl {h c : Nat} {st : Sto} (H : HdK st h c) : GrK h c st st := ⟨Nat.le_refl _, fun _ _ _ => rfl, H, H⟩
theorem GrK.trans {h c : Nat} {st st1 st2 : Sto} (a : GrK h c st st1) (b : GrK h c st1 st2) : GrK h c st st2 :=
  ⟨Nat.le_trans a.len b.len, fun n hn hne => (b.same n (Nat.lt_of_lt_of_le hn a.len) hne).trans (a.same n hn hne), b.hd, a.hd0⟩
theorem GrK.sm {h c : Nat} {st st1 st2 : Sto} (g : GrK h c st st1) (s : Sm h st1 st2) (H : HdK st2 h c) : GrK h c st st2 :=
  ⟨by rw [s.len]; exact g.len, fun n hn hne => (s.same n hne).trans (g.same n hn hne), H, g.hd0⟩
theorem GrK.app {h c : Nat} {st st1 : Sto} (g : GrK h c st st1) (x : Sto) : GrK h c st (st1 ++ x) :=
  ⟨by simp; have := g.len; omega, fun n hn hne => by rw [List.getElem?_append_left (by have := g.len; omega)]; exact g.same n hn hne, g.hd.app x, g.hd0⟩
theorem GrK.get {h c n : Nat} {st st1 : Sto} {b : Ob} (g : GrK h c st st1) (hb : st[n]? = some b) (hne : n ≠ h) : st1[n]? = some b := by
  rw [g.same n (List.getElem?_eq_some_iff.mp hb).1 hne]; exact hb
/-- a thing of one's own, behind what stood, is changed -/
theorem GrK.set {h c n : Nat} {o : Ob} {st0 st : Sto} (g : GrK h c st0 st) (hn : st0.length ≤ n) : GrK h c st0 (st.set n o) := by
  have h1 := g.hlt
  have h2 := g.clt
  refine ⟨by simp; exact g.len, fun m hm hne => by rw [List.getElem?_set_ne (by omega)]; exact g.same m hm hne, ?_, g.hd0⟩
  obtain ⟨cells, a, b, d, e, q1, q2, q3⟩ := g.hd.ex
  exact ⟨cells, a, b, d, e, by rw [List.getElem?_set_ne (by omega)]; exact q1, by rw [List.getElem?_set_ne (by omega)]; exact q2, q3⟩
theorem below_handK {n c : Nat} {a b d e : Int} (h : c < n) : Ob.below n (handK c a b d e) = true := by
  simp [Ob.below, handK, kvsK, D.blws, D.blw, h]
theorem back_handK {h c : Nat} {st st' : Sto} {Q : DK} {d : D} (g : GrK h c st st') (hb : D.blw st.length d = true) (q : ∀ st1, HdK st1 h c → Sm h st st1 → Q d st1) : DL.Back st Q d st' := by
  have hl := g.len
  have htl : (st'.take st.length).length = st.length := by simp; omega
  have hg : ∀ n, n < st.length → (st'.take st.length)[n]? = st'[n]? := fun n hn => by rw [List.getElem?_take]; simp [hn]
  have hs : Sm h st (st'.take st.length) := ⟨htl, fun n hne => by
    by_cases hn : n < st.length
    · rw [hg n hn, g.same n hn hne]
    · rw [List.getElem?_eq_none (by omega), List.getElem?_eq_none (by omega)]⟩
  obtain ⟨cells, a, b, d', e, h1, h2, h3⟩ := g.hd.ex
  have hH : HdK (st'.take st.length) h c := ⟨cells, a, b, d', e, by rw [hg h g.hlt]; exact h1, by rw [hg c g.clt]; exact h2, h3⟩
  refine .inr ⟨st'.take st.length, st'.drop st.length, (List.take_append_drop _ _).symm, htl, fun x hx => ?_, .inl ⟨hb, q _ hH hs⟩⟩
  obtain ⟨n, hn⟩ := List.mem_iff_getElem?.mp hx
  have hlt : n < st.length := by
    have := (List.getElem?_eq_some_iff.mp hn).1
    omega
  by_cases hne : n = h
  · subst hne
    rw [hg n hlt, h1] at hn
    cases hn
    exact .inr (below_handK g.clt)
  · rw [hs.same n hne] at hn
    exact .inl (List.mem_of_getElem? hn)
/-- a list told, all else but the hand being forgotten -/
theorem back_handLK {h c m : Nat} {st st' : Sto} {Q : DK} {ds : List D} (g : GrK h c st st') (hm : st'[m]? = some (.lst ds)) (hge : st.length ≤ m) (hb : D.blws st.length ds = true) (q : ∀ st1, HdK st1 h c → Sm h st st1 → Q (.loc st.length) (st1 ++ [.lst ds])) : DL.Back st Q (.loc m) st' := by
  have hl := g.len
  have htl : (st'.take st.length).length = st.length := by simp; omega
  have hg : ∀ n, n < st.length → (st'.take st.length)[n]? = st'[n]? := fun n hn => by rw [List.getElem?_take]; simp [hn]
  have hs : Sm h st (st'.take st.length) := ⟨htl, fun n hne => by
    by_cases hn : n < st.length
    · rw [hg n hn, g.same n hn hne]
    · rw [List.getElem?_eq_none (by omega), List.getElem?_eq_none (by omega)]⟩
  obtain ⟨cells, a, b, d', e, h1, h2, h3⟩ := g.hd.ex
  have hH : HdK (st'.take st.length) h c := ⟨cells, a, b, d', e, by rw [hg h g.hlt]; exact h1, by rw [hg c g.clt]; exact h2, h3⟩
  refine .inr ⟨st'.take st.length, st'.drop st.length, (List.take_append_drop _ _).symm, htl, fun x hx => ?_, .inr ⟨m, ds, rfl, hm, hge, hb, q _ hH hs⟩⟩
  obtain ⟨n, hn⟩ := List.mem_iff_getElem?.mp hx
  have hlt : n < st.length := by
    have := (List.getElem?_eq_some_iff.mp hn).1
    omega
  by_cases hne : n = h
  · subst hne
    rw [hg n hlt, h1] at hn
    cases hn
    exact .inr (below_handK g.clt)
  · rw [hs.same n hne] at hn
    exact .inl (List.mem_of_getElem? hn)
def sp_handK : DSp := fun ds st Q _ => match ds with
  | [d] => ∃ ns : List Int, IsL st d ns ∧ ns.length ≤ 63 ∧ ∀ st' h c, (∃ g, st' = st ++ g) → HdK st' h c → st.length ≤ h → st.length ≤ c → Q (.loc h) st'
  | _ => False
def sp_drawK : DSp := fun ds st Q _ => match ds with
  | [.loc h, .int m] => ∃ c, HdK st h c ∧ 0 < m ∧ m < 1000000000 ∧ ∀ r st', 0 ≤ r → r < m → HdK st' h c → Sm h st st' → Q (.int r) st'
  | _ => False
def sp_anyK : DSp := fun ds st Q _ => match ds with
  | [.loc h, .loc n] => ∃ c es, HdK st h c ∧ st[n]? = some (.lst es) ∧ n ≠ h ∧ 0 < es.length ∧ es.length < 1000000000 ∧ ∀ e st', e ∈ es → HdK st' h c → Sm h st st' → Q e st'
  | [.loc h, .str t] => ∃ c, HdK st h c ∧ 0 < t.length ∧ t.length < 1000000 ∧ ∀ x st', x ∈ t.cps.toList → HdK st' h c → Sm h st st' → Q (.str ⟨#[x]⟩) st'
  | _ => False
theorem e_drawK {st : Sto} {Q : DK} {Z : DX → Sto → Prop} {h : Nat} {m : Int} : sp_drawK [.loc h, .int m] st Q Z = ∃ c, HdK st h c ∧ 0 < m ∧ m < 1000000000 ∧ ∀ r st', 0 ≤ r → r < m → HdK st' h c → Sm h st st' → Q (.int r) st' := rfl
theorem e_anyL {st : Sto} {Q : DK} {Z : DX → Sto → Prop} {h n : Nat} : sp_anyK [.loc h, .loc n] st Q Z = ∃ c es, HdK st h c ∧ st[n]? = some (.lst es) ∧ n ≠ h ∧ 0 < es.length ∧ es.length < 1000000000 ∧ ∀ e st', e ∈ es → HdK st' h c → Sm h st st' → Q e st' := rfl
end CM
namespace CM
open PySem L2 PySem.Spec DL
open PyProof.Rows hiding St
theorem k_ev {h : Nat} {x : Str} {c : Nat} {a b d e : Int} {v : D} {ρ : Env'} {st : Sto} {Q : DK} {Z : DZ} (h0 : ρ[0]? = some (some (.loc h))) (hk : st[h]? = some (handK c a b d e)) (hv : valD (kvsK c a b d e) (.inr x) = some v) (q : Q v st) : dDGet (dVar 0) (dC (.str x)) ρ st Q Z := by
  unfold dDGet
  rw [s_var, h0]
  show dC (.str x) ρ st _ _
  rw [s_c]
  exact ⟨h, _, _, _, rfl, hk, rfl, hv, q⟩
theorem ks_ev {h : Nat} {x : Str} {y : D} {kvs : List (Key × D)} {c : Nat} {a b d e : Int} {ρ : Env'} {st : Sto} {Qn : Env' → Sto → Prop} (h0 : ρ[0]? = some (some (.loc h))) (hk : st[h]? = some (handK c a b d e)) (hv : putD (kvsK c a b d e) (.inr x) y = kvs) (q : Qn ρ (st.set h (.dK kvs))) : gSub' (dVar 0) (dC (.str x)) dSetK y ρ st Qn := by
  rw [s_gSub, s_var, h0]
  show dC (.str x) ρ st _ _
  rw [s_c, s_setK]
  exact ⟨_, _, hk, rfl, by rw [len_kvsK]; decide, by rw [hv]; exact q⟩
theorem r__law_draw_k41 : Rd 2 sp_drawK RD.t__law_draw_k41 RD.N__law_draw_k41 := by
  intro ds st Q Z hl h
  match ds, hl, h with
  | [.loc h, .int m], _, hx =>
    obtain ⟨c, H, hm, hm2, q⟩ := hx
    have hlt := H.hlt
    have hne := H.ne
    obtain ⟨cells, a, b, d, e, h1, h2, h3⟩ := H.ex
    unfold RD.t__law_draw_k41
    have gs : ∀ x, (st.set h x)[h]? = some x := fun x => by rw [List.getElem?_set_self hlt]
    have gc : ∀ x, (st.set h x)[c]? = some (.lst (cells.map .int)) := fun x => by rw [List.getElem?_set_ne (Ne.symm hne)]; exact h2
    have ss : ∀ x y, (st.set h x).set h y = st.set h y := fun x y => List.set_set ..
    have hd : ∀ a b d e : Int, 0 ≤ a → HdK (st.set h (handK c a b d e)) h c := fun a b d e ha => ⟨cells, a, b, d, e, gs _, gc _, ha⟩
    have fin : ∀ (r a b d e : Int), 0 ≤ r → r < m → 0 ≤ a → DL.Back st Q (.int r) (st.set h (handK c a b d e)) := fun r a b d e h1 h2 h3 => .inl (q r _ h1 h2 (hd a b d e h3) Sm.set)
    have keep : st.set h (handK c a b d e) = st := by
      refine List.ext_getElem? fun n => ?_
      by_cases hn : n = h
      · subst hn; rw [gs]; exact h1.symm
      · rw [List.getElem?_set_ne (Ne.symm hn)]
    rw [s_seq]
    generalize hR : dSeq (dIfS (dTest (dOp dGt (dDGet (dVar 0) (dC (.str "left"))) (dC (.int 0)))) _ _) _ _ = R
    have tail : ∀ (a b d e : Int) (y2 : Option D), 0 ≤ a → R [some (.loc h), some (.int m), y2, none, none] (st.set h (handK c a b d e)) := by
      intro a b d e y2 ha
      subst hR
      rw [s_seq]
      generalize hR : dSeq _ _ _ = R
      rw [s_ifS, s_test, s_op]
      refine k_ev rfl (gs _) vk_left ?_
      rw [s_c]
      show dOrd _ _ (.int b) (.int 0) _ _
      rw [s_ord_int]
      by_cases hb : 0 < b
      · have e1 : (decide ((0 : Int) < b)) = true := decide_eq_true hb
        dsimp only
        rw [if_pos (by simpa using hb), s_seq, s_asg, s_op, s_cb, s_cons]
        refine k_ev rfl (gs _) vk_left ?_
        rw [s_nil, s_int, s_var]
        show dMod (.int b) (.int m) _ _
        rw [s_mod]
        refine ⟨hm, ?_⟩
        rw [s_gN]
        dsimp only
        show dSeq _ _ _ [some (.loc h), some (.int m), y2, some (.int (b % m)), none] _
        rw [s_seq, s_asg, s_op]
        refine k_ev rfl (gs _) vk_left ?_
        rw [s_var]
        show dDiv (.int b) (.int m) _ _
        rw [s_div]
        refine ⟨⟨hm, by omega⟩, ?_⟩
        refine ks_ev rfl (gs _) pk_left ?_
        rw [ss]
        dsimp only
        show dRet _ _ _ _
        rw [s_ret, s_var]
        obtain ⟨m1, m2⟩ := mod_in (x := b) hm
        exact fin _ a (b / m) d e m1 m2 ha
      · dsimp only
        rw [if_neg (by simpa using hb), s_next]
        dsimp only
        subst hR
        rw [s_seq]
        generalize hR : dSeq _ _ _ = R
        rw [s_asg, s_op]
        refine k_ev rfl (gs _) vk_turn ?_
        rw [s_c, s_add_int]
        refine ks_ev rfl (gs _) pk_turn ?_
        rw [ss]
        dsimp only
        show R _ (st.set h (handK c a b d (e + 1)))
        subst hR
        rw [s_seq]
        generalize hR : dSeq _ _ _ = R
        rw [s_asg, s_op, s_cb, s_cons, s_op, s_cb, s_cons, s_op]
        refine k_ev rfl (gs _) vk_seed ?_
        rw [s_op, s_c]
        refine k_ev rfl (gs _) vk_turn ?_
        rw [s_mul]
        refine ⟨big_mul2 ⟨by decide, by decide⟩, ?_⟩
        rw [s_add_int, s_nil, s_int, s_c, s_mul]
        refine ⟨big_mul1 ⟨by decide, by decide⟩, ?_⟩
        rw [s_nil, s_int, s_c, s_mod]
        refine ⟨by decide, ?_⟩
        generalize hx : (d + 7927 * (e + 1)) * 48271 % 2147483647 = x
        have hx1 := mod_in (x := (d + 7927 * (e + 1)) * 48271) (m := 2147483647) (by decide)
        rw [hx] at hx1
        rw [s_gN]
        dsimp only
        show R [some (.loc h), some (.int m), y2, none, some (.int x)] _
        subst hR
        rw [s_seq]
        generalize hR : dSeq _ _ _ = R
        rw [s_asg, s_op, s_cb, s_cons, s_op, s_var]
        show dOp _ _ _ _ _ _ _
        rw [s_op, s_op, s_var]
        show dC _ _ _ _ _
        rw [s_c, s_div]
        refine ⟨⟨by decide, by decide⟩, ?_⟩
        rw [s_c, s_add_int, s_mul]
        refine ⟨big_mul2 ⟨by omega, by omega⟩, ?_⟩
        rw [s_nil, s_int, s_c, s_mod]
        refine ⟨by decide, ?_⟩
        generalize hy : x * (x / 1013 + 69623) % 2147483587 = y
        have hy1 := mod_in (x := x * (x / 1013 + 69623)) (m := 2147483587) (by decide)
        rw [hy] at hy1
        rw [s_gN]
        dsimp only
        show R [some (.loc h), some (.int m), y2, none, some (.int y)] _
        subst hR
        rw [s_seq]
        generalize hR : dRet _ _ = R
        rw [s_asg, s_op, s_cb, s_cons, s_op, s_op, s_var]
        show dOp _ _ _ _ _ _ _
        rw [s_op, s_op, s_var]
        show dC _ _ _ _ _
        rw [s_c, s_div]
        refine ⟨⟨by decide, by decide⟩, ?_⟩
        rw [s_c, s_add_int, s_mul]
        refine ⟨big_mul2 ⟨by omega, by omega⟩, ?_⟩
        refine k_ev rfl (gs _) vk_turn ?_
        rw [s_add_int, s_nil, s_int, s_c, s_mod]
        refine ⟨by decide, ?_⟩
        generalize hz : (y * (y / 2011 + 40693) + (e + 1)) % 2147483399 = z
        rw [s_gN]
        dsimp only
        show R [some (.loc h), some (.int m), y2, none, some (.int z)] _
        subst hR
        rw [s_ret, s_op, s_cb, s_cons, s_op, s_var]
        show dC _ _ _ _ _
        rw [s_c, s_div]
        refine ⟨⟨by decide, by decide⟩, ?_⟩
        rw [s_nil, s_int, s_var]
        show dMod (.int (z / 32)) (.int m) _ _
        rw [s_mod]
        refine ⟨hm, ?_⟩
        obtain ⟨m1, m2⟩ := mod_in (x := z / 32) hm
        exact fin _ a b d (e + 1) m1 m2 ha
    have t0 := tail a b d e none h3
    rw [keep] at t0
    rw [s_ifS, s_and, s_test, s_op]
    refine k_ev rfl h1 vk_left ?_
    rw [s_c]
    show dEqB id (.int b) (.int 0) _ _
    rw [s_eq_int]
    by_cases hb : b = 0
    · dsimp only
      rw [if_pos (by simpa using hb), s_test, s_op]
      refine k_ev rfl h1 vk_at ?_
      rw [s_cb, s_cons]
      refine k_ev rfl h1 vk_cells ?_
      rw [s_nil, s_len_loc, h2]
      dsimp only
      show dOrd _ _ (.int a) (.int ((cells.map D.int).length : Int)) _ _
      rw [s_ord_int, List.length_map]
      by_cases ha : a < cells.length
      · have hcell : (cells.map D.int)[a.toNat]? = some (.int (cells[a.toNat]'(by omega))) := by
          rw [List.getElem?_map, List.getElem?_eq_getElem (by omega)]
          rfl
        have hat : atI (cells.map D.int) a = some (.int (cells[a.toNat]'(by omega))) := by
          have := atI_nat hcell
          rwa [Int.toNat_of_nonneg h3] at this
        generalize cells[a.toNat]'(by omega) = cell at hat
        dsimp only
        rw [if_pos (by simpa using ha), s_seq, s_asg, s_op]
        refine k_ev rfl h1 vk_cells ?_
        refine k_ev rfl h1 vk_at ?_
        rw [s_ix_loc]
        refine ⟨_, _, h2, hat, ?_⟩
        rw [s_gN]
        dsimp only
        show dSeq _ _ _ [some (.loc h), some (.int m), some (.int cell), none, none] _
        rw [s_seq, s_asg, s_op]
        refine k_ev rfl h1 vk_at ?_
        rw [s_c, s_add_int]
        refine ks_ev rfl h1 pk_at ?_
        dsimp only
        show dSeq _ _ _ _ (st.set h (handK c (a + 1) b d e))
        rw [s_seq, s_asg, s_op, s_cb, s_cons, s_op, s_op, s_op]
        refine k_ev rfl (gs _) vk_seed ?_
        rw [s_c, s_mul]
        refine ⟨big_mul1 ⟨by decide, by decide⟩, ?_⟩
        rw [s_var]
        show dAdd (.int (d * 69621)) (.int cell) _ _
        rw [s_add_int, s_c, s_add_int, s_nil, s_int, s_c, s_mod]
        refine ⟨by decide, ?_⟩
        refine ks_ev rfl (gs _) pk_seed ?_
        rw [ss]
        dsimp only
        show dAsg _ _ _ _ (st.set h (handK c (a + 1) b ((d * 69621 + cell + 11) % 2147483629) e))
        rw [s_asg, s_if, s_test, s_op, s_var]
        show dOp _ _ _ _ _ _ _
        rw [s_op, s_c, s_c, s_pow]
        refine ⟨⟨by decide, by decide, by decide⟩, ?_⟩
        show dOrd _ _ (.int cell) (.int _) _ _
        rw [s_ord_int]
        dsimp only
        split
        · rw [s_var]
          show gSub' _ _ _ (.int cell) _ _ _
          refine ks_ev rfl (gs _) pk_left ?_
          rw [ss]
          exact tail _ _ _ _ _ (by omega)
        · rw [s_c]
          refine ks_ev rfl (gs _) pk_left ?_
          rw [ss]
          exact tail _ _ _ _ _ (by omega)
      · dsimp only
        rw [if_neg (by simpa using ha), s_next]
        exact t0
    · dsimp only
      rw [if_neg (by simpa using hb), if_neg (by decide), s_next]
      exact t0
theorem r__law_any : Rd 2 sp_anyK (RD.t__law_any sp_drawK) RD.N__law_any := by
  intro ds st Q Z hl h
  match ds, hl, h with
  | [.loc h, .loc n], _, hx =>
    obtain ⟨c, es, H, hn, hne, hpos, hbig, q⟩ := hx
    unfold RD.t__law_any
    rw [s_ret, s_op, s_var]
    show dCall _ _ _ _ _ _ _
    rw [s_call, s_cons, s_var]
    show dCons _ _ _ _ _ _
    rw [s_cons, s_cb, s_cons, s_var]
    show dNil _ _ _ _
    rw [s_nil, s_len_loc, hn]
    dsimp only
    rw [s_nil, e_drawK]
    refine ⟨rfl, c, H, by omega, by omega, fun r st' h0 h1 H' s => ?_⟩
    obtain ⟨e, he, ha⟩ := at_mem h0 h1
    rw [s_ix_loc]
    exact ⟨es, e, by rw [s.same n hne]; exact hn, ha, .inl (q e st' he H' s)⟩
  | [.loc h, .str t], _, hx =>
    obtain ⟨c, H, hpos, hbig, q⟩ := hx
    have hz : t.length ≤ sizeLine := sz_big (by omega)
    unfold RD.t__law_any
    rw [s_ret, s_op, s_var]
    show dCall _ _ _ _ _ _ _
    rw [s_call, s_cons, s_var]
    show dCons _ _ _ _ _ _
    rw [s_cons, s_cb, s_cons, s_var]
    show dNil _ _ _ _
    rw [s_nil, s_len_str]
    refine ⟨hz, ?_⟩
    rw [s_nil, e_drawK]
    refine ⟨rfl, c, H, by omega, by omega, fun r st' h0 h1 H' s => ?_⟩
    rw [s_ix_str]
    have hr : r.toNat < t.cps.toList.length := by
      have : t.cps.toList.length = t.length := rfl
      omega
    have ha := atI_nat (List.getElem?_eq_getElem hr)
    rw [Int.toNat_of_nonneg h0] at ha
    exact ⟨_, hz, ha, .inl (q _ st' (List.getElem_mem hr) H' s)⟩
theorem r__law_hand_k41 : Rd 1 sp_handK RD.t__law_hand_k41 RD.N__law_hand_k41 := by
  intro ds st Q Z hl h
  match ds, hl, h with
  | [d], _, hx =>
    obtain ⟨ns, hd, hl, q⟩ := hx
    unfold RD.t__law_hand_k41
    have go : ∀ (g : Sto) (G : Sto → Prop), G (st ++ g) → runC (gN 2) dYes RD.e__law_hand_k41_1 (wipeD [some d, none, none] [2]) (fun x st1 => gN 1 x [some d, none, none] st1 fun ρ st2 => dRet (dDisp [((dC (.str "cells")), (dVar 1)), ((dC (.str "at")), (dC (.int 0))), ((dC (.str "left")), (dC (.int 0))), ((dC (.str "seed")), (dOp dAdd (dC (.int 40961)) (dCB dLen (dCons (dVar 1) dNil)))), ((dC (.str "turn")), (dC (.int 0)))]) { nx := fun _ st1 => DL.Back st Q .non st1, rt := DL.Back st Q, xs := fun x _ st1 => BackX st Z x st1 } ρ st2) G (ns.map .int) [] (st ++ g) := by
      intro g G hG
      refine runC_pure (out := fun i => .int (if i < 0 then -i else i)) (inj := D.int) hG (fun x QT hq => ?_) ns [] (by simp; omega) ?_
      · unfold RD.e__law_hand_k41_1
        simp
        exact hq
      · rw [s_gN, s_ret]
        generalize hcs : ns.map (fun i : Int => if i < 0 then -i else i) = cs
        have e0 : ([] : List D) ++ ns.map (fun i : Int => D.int (if i < 0 then -i else i)) = cs.map .int := by rw [← hcs]; simp
        rw [e0]
        generalize hn : (st ++ g).length = n
        have hnl : st.length ≤ n := by rw [← hn]; simp
        have hl2 : ∀ x : Sto, (st ++ g ++ [Ob.lst (cs.map D.int)] ++ x)[n]? = some (.lst (cs.map .int)) := fun x => gb (by rw [← hn]; exact getElem?_push)
        have hl1 : (st ++ g ++ [Ob.lst (cs.map D.int)]).length = n + 1 := by rw [List.length_append, hn]; rfl
        generalize hst1 : st ++ g ++ [Ob.lst (cs.map D.int)] = st1 at hl1 hl2 ⊢
        show dDisp _ [some d, some (.loc n), none] st1 _ _
        unfold dDisp
        rw [hl1]
        unfold dPairs
        rw [s_c, s_var]
        show dPairs _ _ _ _ _
        unfold dPairs
        rw [s_c, s_c]
        unfold dPairs
        rw [s_c, s_c]
        unfold dPairs
        rw [s_c, s_op, s_c, s_cb, s_cons, s_var]
        show dNil _ _ _ _
        rw [s_nil, s_len_loc, hl2]
        dsimp only
        rw [s_add_int]
        unfold dPairs
        rw [s_c, s_c]
        unfold dPairs
        generalize (40961 : Int) + ((cs.map D.int).length : Int) = sd
        refine ⟨by rw [← hl1]; exact getElem?_push, kvsK n 0 0 sd 0, rfl, by rw [len_kvsK]; decide, ?_⟩
        have em : mergeD [] (kvsK n 0 0 sd 0) = kvsK n 0 0 sd 0 := rfl
        rw [em]
        have es : (st1 ++ [Ob.dK []]).set (n + 1) (.dK (kvsK n 0 0 sd 0)) = st1 ++ [handK n 0 0 sd 0] := by
          rw [List.set_append_right _ _ (by omega), hl1]
          simp [handK]
        rw [es]
        refine .inl (q _ _ n ⟨g ++ [Ob.lst (cs.map D.int), handK n 0 0 sd 0], by rw [← hst1]; simp⟩ ⟨⟨cs, 0, 0, _, 0, by rw [← hl1]; exact getElem?_push, hl2 _, by decide⟩⟩ (by omega) hnl)
    rcases hd with rfl | ⟨m, rfl, hm⟩
    · rw [s_seq, s_asg, s_lc, s_iD, s_sl, s_var]
      show dNoPart _ _ _ _
      rw [s_noPart, s_part, s_c]
      dsimp only
      rw [s_slv_fls, cut63 hl, s_walk_loc]
      exact ⟨_, getElem?_push, go _ _ getElem?_push⟩
    · rw [s_seq, s_asg, s_lc, s_iD, s_sl, s_var]
      show dNoPart _ _ _ _
      rw [s_noPart, s_part, s_c]
      dsimp only
      rw [s_slv_loc]
      refine ⟨_, hm, ?_⟩
      rw [cut63 hl, s_walk_loc]
      exact ⟨_, getElem?_push, go _ _ getElem?_push⟩
end CM
namespace CM
open PySem L2 PySem.Spec DL
open PyProof.Rows hiding St
open TL (tl pre spl par numL joinL)
abbrev Trp := Str × Nat × List Str
def encT (t : Trp) : D := .tup [.str t.1, encV t.2.1, encL t.2.2]
def TrpV (t : Trp) : Prop := nameS t.1 = true ∧ okV t.2.1 ∧ namesF "" t.2.2 = true
def trpT (t : Trp) : Str := Txt.join " " (placeT (t.1, t.2.1) :: t.2.2)
theorem trpT_len {t : Trp} (h : TrpV t) {m : Nat} (hm : t.2.2.length ≤ m) : (trpT t).length ≤ 41 + 13 * m := by
  unfold trpT
  rw [TL.len_tl, TL.join_eq, TL.tl_join, tls2.2.2.1, List.map_cons]
  have hp := placeT_len (k := (t.1, t.2.1)) h.1 h.2.1
  have hj := join_len (S := [32]) (k := 12) (ps := t.2.2.map tl) fun q hq => by
    obtain ⟨s, hs, rfl⟩ := List.mem_map.mp hq
    rw [← TL.len_tl]
    exact name12 (namesF_names h.2.2 s hs)
  rw [TL.len_tl] at hp
  simp only [List.length_cons, List.length_map, List.length_nil] at hj
  cases hf : t.2.2.map tl with
  | nil =>
    simp only [joinL]
    omega
  | cons p ps =>
    rw [← hf]
    have hne : t.2.2.map tl ≠ [] := by rw [hf]; simp
    rw [joinL_cons hne]
    simp only [List.length_append, List.length_cons, List.length_nil]
    have := Nat.mul_le_mul_right 13 hm
    cases hl : t.2.2.length with
    | zero => rw [List.length_eq_zero_iff.mp hl] at hne; simp at hne
    | succ k =>
      rw [hl] at hj this
      omega
/-- the sum of the signs, each times its place -/
def wsum : Nat → List Nat → Nat
  | _, [] => 0
  | k, c :: r => c * (k + 1) + wsum (k + 1) r
def chk (l : List Nat) : Nat := wsum 0 l % 99991
def chkT (l : List Nat) : Str := ("check " : Str) ++ (toString ((chk l : Nat) : Int) : Str)
theorem tl_check : tl ("check " : Str) = [99, 104, 101, 99, 107, 32] := by decide
theorem tl_chkT (l : List Nat) : tl (chkT l) = [99, 104, 101, 99, 107, 32] ++ numL (chk l) := by
  unfold chkT
  rw [TL.tl_append, TL.tl_num, tl_check]
theorem chk_lt (l : List Nat) : chk l < 99991 := Nat.mod_lt _ (by decide)
theorem chkT_len (l : List Nat) : (chkT l).length ≤ 20 := by
  rw [TL.len_tl, tl_chkT, List.length_append]
  have := num7 (n := chk l) (by have := chk_lt l; omega)
  simp only [List.length_cons, List.length_nil]
  omega
def prods : Nat → List Nat → List Int
  | _, [] => []
  | k, c :: r => (c : Int) * ((k : Int) + 1) :: prods (k + 1) r
theorem wsum_items : ∀ (l : List Nat) (k : Nat), (prods k l).sum = ((wsum k l : Nat) : Int)
  | [], k => rfl
  | c :: r, k => by
    unfold prods wsum
    rw [List.sum_cons, wsum_items r (k + 1)]
    push_cast
    rfl
def sg (c : Nat) : D := .str ⟨#[c]⟩
/-- the products, one by one -/
theorem runC_chk {x0 x1 : Option D} {Q : DK} {st : Sto} : ∀ (l : List Nat) (k : Nat) (acc : List Int), acc.length + l.length < 1048576 → k + l.length < 1048576 →
    Q (.loc st.length) (st ++ [.lst ((acc ++ prods k l).map .int)]) →
    runC (gTup' 2 (gCons' (gN 2) (gCons' (gN 3) gNil'))) dYes RD.e_check_line_1 [x0, x1, none, none] Q (fun _ => True) (enumFrom k (l.map sg)) (acc.map .int) st
  | [], k, acc, _, _, q => by
    rw [List.map_nil, enumFrom, runC_nil]
    exact ⟨trivial, by simpa [prods] using q⟩
  | c :: r, k, acc, hl, hk, q => by
    rw [List.map_cons, enumFrom, runC_cons]
    refine ⟨trivial, ?_⟩
    have ih := runC_chk (x0 := x0) (x1 := x1) (Q := Q) (st := st) r (k + 1) (acc ++ [(c : Int) * ((k : Int) + 1)]) (by simp at hl ⊢; omega) (by simp at hk; omega)
    generalize hR : runC (gTup' 2 (gCons' (gN 2) (gCons' (gN 3) gNil'))) dYes RD.e_check_line_1 [x0, x1, none, none] Q (fun _ => True) (enumFrom (k + 1) (r.map sg)) = R at ih ⊢
    rw [s_gTup]
    refine ⟨rfl, ?_⟩
    rw [s_gCons, s_gN, s_gCons, s_gN, s_gNil, s_yes, if_pos rfl]
    unfold RD.e_check_line_1
    show dOp _ _ _ [x0, x1, some (.int (k : Int)), some (.str ⟨#[c]⟩)] _ _ _
    rw [s_op, s_cb, s_cons, s_var]
    show dNil _ _ _ _
    rw [s_nil, s_ordS]
    refine ⟨rfl, ?_⟩
    rw [s_op, s_var]
    show dC _ _ _ _ _
    rw [s_c, s_add_int, s_mul]
    simp only [List.length_cons] at hk hl
    refine ⟨big_mul1 ⟨by omega, by omega⟩, ?_⟩
    refine ⟨by rw [List.length_map]; exact sizeLine_big (by omega), ?_⟩
    have := ih (by unfold prods at q; simpa using q)
    rw [List.map_append] at this
    exact this
def sp_chkline : DSp := fun ds st Q _ => match ds with
  | [.str t] => t.length ≤ 1000000 ∧ Q (.str (chkT (tl t))) st
  | _ => False
theorem r_check_line : Rd 1 sp_chkline RD.t_check_line RD.N_check_line := by
  intro ds st Q Z hl h
  match ds, hl, h with
  | [.str t], _, ⟨ht, q⟩ =>
    have hlen := TL.len_tl t
    unfold RD.t_check_line
    rw [s_seq, s_asg, s_cb, s_cons, s_lc, s_iEnS, s_var]
    show runC _ _ _ _ _ _ (enumItems (strItems t)) _ _
    rw [enumItems_eq]
    have e0 : strItems t = (tl t).map sg := rfl
    rw [e0]
    refine runC_chk (tl t) 0 [] (by rw [List.length_nil]; omega) (by omega) ?_
    rw [List.nil_append, s_nil, s_sum]
    refine ⟨prods 0 (tl t), getElem?_push, ?_⟩
    rw [wsum_items, s_gN]
    dsimp only
    show dRet _ _ [some (.str t), some (.int ((wsum 0 (tl t) : Nat) : Int)), none, none] _
    have hc := chkT_len (tl t)
    have e1 : ("check " : Str).length = 6 := rfl
    rw [s_ret, s_joined]
    refine js_ev (y := "check ") (fun QE Z qe => qe) (by rw [emp_app, e1]; exact sz_big (by omega)) ?_
    rw [emp_app, s_js, s_fmt, s_op, s_var]
    show dC _ _ _ _ _
    rw [s_c]
    show dMod _ _ _ _
    rw [s_mod]
    refine ⟨by decide, ?_⟩
    have e2 : ((wsum 0 (tl t) : Nat) : Int) % 99991 = ((chk (tl t) : Nat) : Int) := by unfold chk; omega
    rw [e2]
    refine ⟨log_small (by have := chk_lt (tl t); omega), ?_⟩
    dsimp only
    refine ⟨sz_big (by have : (("check " : Str) ++ (toString ((chk (tl t) : Nat) : Int) : Str)) = chkT (tl t) := rfl; rw [this]; omega), ?_⟩
    exact back_tup ⟨_, rfl⟩ rfl q
def encI (l : List Trp) : D := .tup (l.map encT)
theorem linesT_one (s : Str) : linesT [s] = lineS s := by
  unfold linesT
  refine TL.ext_tl ?_
  rw [TL.join_eq, TL.tl_join]
  rfl
end CM
namespace CM
open PySem L2 PySem.Spec DL
open PyProof.Rows hiding St
open TL (tl pre spl par numL joinL)
def sp_namesB : DSp := fun ds st Q _ => match ds with
  | [d] => ∃ l : List Str, d = encL l ∧ (∀ s ∈ l, s.length ≤ 100000) ∧ Q (.bl (namesF "" l)) st
  | _ => False
theorem lp_namesB (E : DEnds) {d : D} {st : Sto} : ∀ (l : List Str) (p : Str) (y : Option D), (∀ s ∈ l, s.length ≤ 100000) → (namesF p l = false → E.rt (.bl false) st) → (namesF p l = true → ∀ p' y', E.nx [some d, some (.str p'), y'] st) →
    runG (gN 2) (RD.b_is_names_1 sp_name) E (fun _ => True) (l.map .str) [some d, some (.str p), y] st
  | [], p, y, hl, h0, h1 => ⟨trivial, h1 rfl p y⟩
  | s :: l, p, y, hl, h0, h1 => by
    rw [List.map_cons, runG_cons]
    refine ⟨trivial, ?_⟩
    have ih := fun p y => lp_namesB E (d := d) (st := st) l p y (fun s hs => hl s (List.mem_cons_of_mem _ hs))
    generalize hR : runG (gN 2) (RD.b_is_names_1 sp_name) E (fun _ => True) (l.map .str) = R at ih ⊢
    rw [s_gN]
    unfold RD.b_is_names_1
    show dSeq _ _ _ [some d, some (.str p), some (.str s)] st
    rw [s_seq, s_ifS, s_or, s_not, s_tru, s_call, s_cons, s_var]
    show dNil _ _ _ _
    rw [s_nil]
    have hs := hl s List.mem_cons_self
    refine ⟨rfl, by simp [ok], fun x e => by cases e; exact sz_big (by omega), ?_⟩
    show truD st (.bl (nameS s)) _
    rw [s_tru_bl]
    simp only [namesF] at h0 h1
    cases hn : nameS s with
    | false =>
      rw [hn] at h0
      rw [if_pos (by decide), if_pos rfl, s_ret, s_c]
      exact h0 rfl
    | true =>
      rw [hn] at h0 h1
      simp only [Bool.true_and] at h0 h1
      rw [if_neg (by decide), s_test, s_op, s_var]
      show dVar 1 _ _ _ _
      rw [s_var]
      show dLe (.str s) (.str p) st _
      refine le_strs ?_
      dsimp only
      cases hlt : ltS p s with
      | false =>
        rw [hlt] at h0
        rw [if_pos (by decide), s_ret, s_c]
        exact h0 rfl
      | true =>
        rw [hlt] at h0 h1
        simp only [Bool.true_and] at h0 h1
        rw [if_neg (by decide), s_next]
        dsimp only
        rw [s_asg, s_var]
        exact ih s (some (.str s)) h0 h1
theorem r_is_namesB : Rd 1 sp_namesB (RD.t_is_names sp_name) RD.N_is_names := by
  intro ds st Q Z hl h
  match ds, hl, h with
  | [d], _, ⟨l, hd, hlen, q⟩ =>
    subst hd
    unfold RD.t_is_names
    rw [s_seq, s_ifS, s_not, s_tru, s_isi, s_var]
    show truD st (.bl true) _
    rw [s_tru_bl, if_neg (by decide), s_next]
    dsimp only
    rw [s_seq, s_asg, s_c, s_gN]
    dsimp only
    show dSeq _ _ _ [some (encL l), some (.str ""), none] st
    rw [s_seq, s_for, s_iD, s_var]
    show walkD _ _ _
    unfold encL
    rw [s_walk_tup]
    refine lp_namesB _ l "" none hlen (fun e => ?_) fun e p' y' => ?_
    · rw [e] at q
      exact .inl q
    · rw [e] at q
      dsimp only
      rw [s_ret, s_c]
      exact .inl q
def lenS (W : List Str) : Nat := (W.map fun w => w.length + 1).sum
def sp_textofB : DSp := fun ds st Q _ => match ds with
  | [.loc m] => ∃ W : List Str, st[m]? = some (.lst (W.map .str)) ∧ W.length ≤ 200000 ∧ lenS W ≤ 400000 ∧ Q (.str (linesT W)) st
  | _ => False
theorem lenS_mem : ∀ {W : List Str} {w : Str}, w ∈ W → w.length + 1 ≤ lenS W
  | v :: W, w, h => by
    have e : lenS (v :: W) = (v.length + 1) + lenS W := by unfold lenS; simp
    rcases List.mem_cons.mp h with rfl | h
    · omega
    · have := lenS_mem h
      omega
theorem runC_linesB {te : DTE} {ρ : Env'} {Q : DK} {G : Sto → Prop} {i : Nat} {st : Sto} (hG : G st) (ht : ∀ (w : Str) (QT : DK), w.length ≤ 500000 → QT (.str (lineS w)) st → te (ρ.set i (some (.str w))) st QT Z0) : ∀ (W : List Str) (acc : List D), (∀ w ∈ W, w.length ≤ 500000) → acc.length + W.length < 300000 →
    Q (.loc st.length) (st ++ [.lst (acc ++ (W.map lineS).map .str)]) → runC (gN i) dYes te ρ Q G (W.map .str) acc st
  | [], acc, _, _, q => ⟨hG, by simpa using q⟩
  | w :: W, acc, hw, hl, q => by
    rw [List.map_cons, runC_cons]
    refine ⟨hG, ?_⟩
    have ih := runC_linesB (Q := Q) hG ht W
    generalize hR : runC (gN i) dYes te ρ Q G (W.map .str) = R at ih ⊢
    rw [s_gN, s_yes, if_pos rfl]
    simp only [List.length_cons] at hl
    exact ht w _ (hw w List.mem_cons_self) ⟨sizeLine_big (by omega), ih _ (fun z hz => hw z (List.mem_cons_of_mem _ hz)) (by simp; omega) (by simpa using q)⟩
theorem r_text_ofB : Rd 1 sp_textofB RD.t_text_of RD.N_text_of := by
  intro ds st Q Z hl h
  match ds, hl, h with
  | [.loc m], _, ⟨W, hm, h1, h2, q⟩ =>
    unfold RD.t_text_of
    rw [s_ret, s_bm, s_c]
    refine ⟨rfl, ?_⟩
    rw [s_cons, s_lc, s_iD, s_var]
    show walkD _ (.loc m) _
    rw [s_walk_loc]
    refine ⟨_, hm, runC_linesB hm (fun w QT hw qt => ?_) W [] (fun w hw => by have := lenS_mem hw; omega) (by simp; omega) ?_⟩
    · unfold RD.e_text_of_1
      rw [s_joined]
      refine js_ev (y := w) (fun QE Z qe => fmt_ev (fun QE Z qe => var_ev rfl qe) (sz_big (by omega)) qe) (by rw [emp_app]; exact sz_big (by omega)) ?_
      rw [emp_app]
      exact js_ev (y := "\n") (fun QE Z qe => qe) (by rw [app_len]; exact sz_big (by have : ("\n" : Str).length = 1 := rfl; omega)) qt
    · rw [s_nil, s_join]
      refine ⟨W.map lineS, by simp, ?_, ?_⟩
      · rw [List.map_map, List.length_map, show ("" : Str).length = 0 from rfl]
        have e : (W.map ((fun x : Str => x.length) ∘ lineS)).sum = lenS W := by
          unfold lenS
          congr 1
          refine List.map_congr_left fun w _ => ?_
          exact lineS_len w
        have e2 : (W.map ((·.length) ∘ lineS)).sum = lenS W := e
        rw [e2]
        omega
      · exact back_tup ⟨_, rfl⟩ rfl q
theorem e_nameSB {st : Sto} {Q : DK} {Z : DX → Sto → Prop} {s : Str} (hs : s.length ≤ 200000) (q : Q (.bl (nameL (tl s))) st) : sp_name [.str s] st Q Z := ⟨by simp [ok], fun x e => by cases e; exact sz_big (by omega), by show Q (.bl (nameS s)) st; rw [nameS_eq]; exact q⟩
end CM
namespace CM
open PySem L2 PySem.Spec DL
open PyProof.Rows hiding St
open TL (tl pre spl par numL joinL)
theorem cutK_take {α : Type} (W : List α) (j : Nat) : cutL W none (some (j : Int)) = W.take j := by
  have e1 : _root_.HT.sIx W.length 0 none = 0 := rfl
  have e2 : _root_.HT.sIx W.length W.length (some (j : Int)) = min j W.length := by
    show (if ((j : Int)) < 0 then ((j : Int) + (W.length : Int)).toNat else min (j : Int).toNat W.length) = _
    rw [if_neg (by omega)]
    rfl
  unfold cutL
  rw [e1, e2, List.drop_zero, Nat.sub_zero]
  by_cases h : j ≤ W.length
  · rw [Nat.min_eq_left h]
  · rw [Nat.min_eq_right (by omega), List.take_of_length_le (Nat.le_refl _), List.take_of_length_le (by omega)]
theorem cutK_drop {α : Type} (W : List α) (j : Nat) : cutL W (some (j : Int)) none = W.drop j := by
  have e1 : _root_.HT.sIx W.length W.length none = W.length := rfl
  have e2 : _root_.HT.sIx W.length 0 (some (j : Int)) = min j W.length := by
    show (if ((j : Int)) < 0 then ((j : Int) + (W.length : Int)).toNat else min (j : Int).toNat W.length) = _
    rw [if_neg (by omega)]
    rfl
  unfold cutL
  rw [e1, e2]
  by_cases h : j ≤ W.length
  · rw [Nat.min_eq_left h, List.take_of_length_le (by rw [List.length_drop]; omega)]
  · rw [Nat.min_eq_right (by omega), Nat.sub_self, List.take_zero, List.drop_eq_nil_of_le (by omega)]
def trpB (n : Str) (o : Option Nat) (fs : List Str) : Bool := nameS n && (o.isSome && namesF "" fs)
def triD (n : Str) (o : Option Nat) (fs : List Str) : D := .tup [.str n, encO o, encL fs]
theorem ok_triD {st : Sto} (n : Str) (o : Option Nat) (fs : List Str) : ok st (triD n o fs) := by
  unfold triD
  simp only [ok, oks_iff]
  intro d hd
  rcases List.mem_cons.mp hd with rfl | hd
  · simp [ok]
  rcases List.mem_cons.mp hd with rfl | hd
  · cases o with
    | none => simp [encO, ok]
    | some v => simp [encO, encV, ok, oks]
  rcases List.mem_cons.mp hd with rfl | hd
  · exact ok_encL _
  · cases hd
theorem verM_encO {o : Option Nat} (h : ∀ v, o = some v → okV v) : (verM 1000000 (encO o)).isSome = o.isSome := by
  cases o with
  | none => rfl
  | some v =>
    show (verM 1000000 (encV v)).isSome = _
    rw [ver_enc (h v rfl)]
def sp_istrp : DSp := fun ds st Q _ => match ds with
  | [d] => ∃ n o fs, d = triD n o fs ∧ n.length ≤ 100000 ∧ (∀ v, o = some v → okV v) ∧ (∀ s ∈ fs, s.length ≤ 100000) ∧ Q (.bl (trpB n o fs)) st
  | _ => False
theorem r_is_triple : Rd 1 sp_istrp (RD.t_is_triple sp_name sp_namesB sp_is_tuple_of sp_is_version) RD.N_is_triple := by
  intro ds st Q Z hl h
  match ds, hl, h with
  | [d], _, ⟨n, o, fs, hd, hn, ho, hf, q⟩ =>
    subst hd
    unfold RD.t_is_triple
    unfold trpB at q
    rw [s_ret, s_andV, s_call, s_cons, s_c, s_cons, s_var]
    show dNil _ _ _ _
    rw [s_nil]
    refine ⟨rfl, ?_⟩
    rw [e_is_tuple_of]
    refine ⟨ok_triD n o fs, ?_⟩
    rw [show lenIs 3 (triD n o fs) = true from rfl, s_tru_bl, if_pos (by simp), s_andV, s_call, s_cons, s_op, s_var]
    show dC _ _ _ _ _
    rw [s_c]
    refine ⟨.str n, rfl, ?_⟩
    show dNil _ _ _ _
    rw [s_nil]
    refine ⟨rfl, e_nameSB (by omega) ?_⟩
    rw [← nameS_eq, s_tru_bl]
    cases hnm : nameS n with
    | false =>
      rw [hnm] at q
      rw [if_neg (by simp)]
      exact .inl q
    | true =>
      rw [hnm, Bool.true_and] at q
      rw [if_pos (by simp), s_andV, s_call, s_cons, s_op, s_var]
      show dC _ _ _ _ _
      rw [s_c]
      refine ⟨encO o, rfl, ?_⟩
      show dNil _ _ _ _
      rw [s_nil]
      refine ⟨rfl, ?_⟩
      rw [e_is_version]
      refine ⟨by simp, ?_⟩
      rw [verM_encO ho, s_tru_bl]
      cases hos : o.isSome with
      | false =>
        rw [hos] at q
        rw [if_neg (by simp)]
        exact .inl q
      | true =>
        rw [hos, Bool.true_and] at q
        rw [if_pos (by simp), s_call, s_cons, s_op, s_var]
        show dC _ _ _ _ _
        rw [s_c]
        refine ⟨encL fs, rfl, ?_⟩
        show dNil _ _ _ _
        rw [s_nil]
        exact ⟨rfl, fs, rfl, hf, .inl q⟩
def trpM (n : List Nat) : List (List Nat) → Option Trp
  | [] => none
  | w :: r => if trpB (SL n) (verText w) (r.map SL) = true then (verText w).map fun v => (SL n, v, r.map SL) else none
def trpL (l : List Nat) : Option Trp := match par [32] [] l with
  | some (n, b) => trpM n (spl [32] 0 [] b)
  | none => none
def encOT : Option Trp → D
  | none => .non
  | some t => encT t
def sp_ttrp : DSp := fun ds st Q _ => match ds with
  | [.str t] => t.length ≤ 100000 ∧ Q (encOT (trpL (tl t))) st
  | _ => False
theorem split_neK (t y : Str) (hy : tl y ≠ []) (h : ∀ c ∈ tl y, c < 256) : Txt.split t y ≠ [] := fun z => by
  have := split_tl (x := t) rfl hy h
  rw [z] at this
  exact spl_ne _ _ _ this.symm
theorem verText_ok {l : List Nat} {v : Nat} (h : verText l = some v) : okV v := verM_okV h
theorem blw_encOT (n : Nat) (o : Option Trp) : D.blw n (encOT o) = true := by
  cases o with
  | none => rfl
  | some t => simp [encOT, encT, D.blw, D.blws, blw_encV, blw_encL]
theorem r_told_triple : Rd 1 sp_ttrp (RD.t_told_triple sp_told_version sp_istrp) RD.N_told_triple := by
  intro ds st Q Z hl h
  match ds, hl, h with
  | [.str t], _, ⟨ht, q⟩ =>
    unfold RD.t_told_triple
    have hz : t.length ≤ sizeLine := sz_big (by omega)
    unfold trpL at q
    rw [s_seq, s_asg, s_bm, s_var]
    show tyD st "str" (.str t) ∧ _
    refine ⟨rfl, ?_⟩
    rw [s_cons, s_c, s_nil, s_partV]
    refine ⟨by decide, hz, ?_⟩
    have go : ∀ (n x b : Str), n.length ≤ 100000 → b.length ≤ 100000 → Q (encOT (trpM (tl n) (spl [32] 0 [] (tl b)))) st →
        dSeq (dAsg (dBM "str" dSplit (dVar 3) (dCons (dC (.str " ")) dNil)) (gN 4))
          (dSeq (dAsg (dTup (dCons (dVar 1) (dCons (dCall 1 sp_told_version (dCons (dOp dIx (dVar 4) (dC (.int 0))) dNil)) (dCons (dCB dTupOf (dCons (dSl (dVar 4) (dPart (dC (.int 1))) dNoPart) dNil)) dNil)))) (gN 5))
          (dSeq (dIfS (dNot (dTru (dCall 1 sp_istrp (dCons (dVar 5) dNil)))) (dRet (dC (.non))) dNext)
          (dRet (dVar 5)))) { nx := fun _ st' => DL.Back st Q .non st', rt := DL.Back st Q, xs := fun x _ st' => BackX st Z x st' } [some (.str t), some (.str n), some (.str x), some (.str b), none, none] st := by
      intro n x b hn hb hq
      rw [s_seq, s_asg, s_bm, s_var]
      show tyD st "str" (.str b) ∧ _
      refine ⟨rfl, ?_⟩
      rw [s_cons, s_c, s_nil, s_split]
      refine ⟨by decide, sz1m (by omega), ?_⟩
      have hsp := split_tl (x := b) tls2.2.2.1 (by simp) (by simp)
      have hne := split_neK b " " (by decide) (by decide)
      have hlen : ∀ w ∈ Txt.split b " ", w.length ≤ 100000 := fun w hw => by have := split_len hw; omega
      rw [← hsp] at hq
      generalize Txt.split b " " = W at hq hne hlen ⊢
      cases W with
      | nil => exact absurd rfl hne
      | cons w r =>
        rw [List.map_cons] at hq
        unfold trpM at hq
        dsimp only at hq
        rw [map_SL_tl, SL_tl] at hq
        rw [s_gN]
        generalize hst : st ++ [Ob.lst ((w :: r).map D.str)] = st1
        have hp : Pre st st1 := ⟨_, hst.symm⟩
        have h4 : st1[st.length]? = some (.lst ((w :: r).map .str)) := by rw [← hst]; exact getElem?_push
        dsimp only
        show dSeq _ _ _ [some (.str t), some (.str n), some (.str x), some (.str b), some (.loc st.length), none] st1
        rw [s_seq, s_asg, s_dtup, s_cons, s_var]
        show dCons _ _ _ _ _ _
        rw [s_cons, s_call, s_cons, s_op, s_var]
        show dC _ _ _ _ _
        rw [s_c, s_ix_loc]
        refine ⟨_, .str w, h4, atI_0, ?_⟩
        rw [s_nil, e_told_version]
        refine ⟨rfl, by have := hlen w List.mem_cons_self; omega, ?_⟩
        dsimp only
        rw [s_cons, s_cb, s_cons, s_sl, s_var]
        show dPart _ _ _ _ _
        rw [s_part, s_c]
        dsimp only
        rw [s_noPart, s_slv_loc]
        refine ⟨_, h4, ?_⟩
        rw [cutL_map, show ((1 : Int)) = ((1 : Nat) : Int) from rfl, cutK_drop, s_nil, s_tupOf]
        simp only [s_items_loc, getElem?_push]
        rw [s_nil]
        refine ⟨szk _ (by simp), ?_⟩
        rw [s_gN]
        generalize hst2 : st1 ++ [Ob.lst (((w :: r).drop 1).map D.str)] = st2
        have hp2 : Pre st st2 := by rw [← hst2]; exact hp.app _
        have er : (w :: r).drop 1 = r := rfl
        rw [er]
        try dsimp only
        show dSeq _ _ _ [some (.str t), some (.str n), some (.str x), some (.str b), some (.loc st.length), some (triD n (verText (tl w)) r)] st2
        rw [s_seq, s_ifS, s_not, s_tru, s_call, s_cons, s_var]
        show dNil _ _ _ _
        rw [s_nil]
        refine ⟨rfl, n, verText (tl w), r, rfl, hn, fun v hv => verText_ok hv, fun s hs => hlen s (List.mem_cons_of_mem _ hs), ?_⟩
        dsimp only
        rw [s_tru_bl]
        cases hb2 : trpB n (verText (tl w)) r with
        | false =>
          rw [hb2, if_neg (by decide)] at hq
          rw [if_pos (by decide), s_ret, s_c]
          exact back_tup hp2 rfl hq
        | true =>
          rw [hb2, if_pos rfl] at hq
          rw [if_neg (by decide), s_next]
          dsimp only
          rw [s_ret, s_var]
          cases hv : verText (tl w) with
          | none => rw [hv] at hb2; unfold trpB at hb2; simp at hb2
          | some v =>
            rw [hv] at hq
            exact back_tup hp2 (blw_encOT _ (some (n, v, r))) hq
    rw [s_gTup]
    refine ⟨rfl, ?_⟩
    rw [s_gCons, s_gN, s_gCons, s_gN, s_gCons, s_gN, s_gNil]
    rcases str_of_par (x := t) (y := " ") tls2.2.2.1 (by simp) with ⟨hp, e⟩ | ⟨n, b, hp, e, hn, hb⟩
    · rw [hp] at q
      rw [e]
      refine go t Str.empty Str.empty ht (by decide) ?_
      have e0 : trpM (tl t) (spl [32] 0 [] (tl Str.empty)) = none := by
        rw [tl_empty]
        show trpM (tl t) [[]] = none
        unfold trpM
        dsimp only
        rw [verText_nil]
        simp
      rw [e0]
      exact q
    · rw [hp] at q
      rw [e]
      exact go (SL n) " " (SL b) (by omega) (by omega) q
end CM
namespace CM
open PySem L2 PySem.Spec DL
open PyProof.Rows hiding St
open TL (tl pre spl par numL joinL)
def okNext (acc : List Trp) (t : Trp) : Bool := match acc.getLast? with
  | none => true
  | some z => ltS z.1 t.1
def foundK : List Trp → List Str → List Trp
  | acc, [] => acc
  | acc, w :: W => match trpL (tl w) with
    | none => acc
    | some t => if okNext acc t = true then foundK (acc ++ [t]) W else acc
theorem foundK_len : ∀ (W : List Str) (acc : List Trp), (foundK acc W).length ≤ acc.length + W.length
  | [], acc => by simp [foundK]
  | w :: W, acc => by
    unfold foundK
    split
    · simp
    · rename_i t _
      split
      · have := foundK_len W (acc ++ [t])
        simp at this ⊢
        omega
      · simp
theorem blw_encI (n : Nat) (l : List Trp) : D.blw n (encI l) = true := by
  have : ∀ l : List Trp, D.blws n (l.map encT) = true := fun l => by
    induction l with
    | nil => rfl
    | cons t r ih => simp [D.blws, encT, D.blw, blw_encV, blw_encL, ih]
  simp [encI, D.blw, this]
theorem isnon_OT (o : Option Trp) : isNonD (encOT o) = o.isNone := by cases o <;> rfl
theorem atI_endT {ls : List Trp} {z : Trp} (h : ls.getLast? = some z) : atI (ls.map encT) (-1) = some (encT z) := by
  obtain ⟨l0, rfl⟩ : ∃ l0, ls = l0 ++ [z] := by
    obtain ⟨hne, e⟩ := List.getLast?_eq_some_iff.mp h
    exact ⟨hne, e⟩
  rw [List.map_append]
  simp [atI]
theorem linesT_lenS : ∀ W : List Str, (linesT W).length = lenS W
  | [] => rfl
  | w :: W => by
    have ih := linesT_lenS W
    have e : tl (linesT (w :: W)) = tl (lineS w) ++ tl (linesT W) := by
      unfold linesT
      rw [TL.join_eq, TL.join_eq, TL.tl_join, TL.tl_join, List.map_cons, List.map_cons]
      cases h : (W.map lineS).map tl with
      | nil => simp [joinL]
      | cons p ps => rw [joinL_cons (by simp)]; rfl
    rw [TL.len_tl, e, List.length_append, ← TL.len_tl, ← TL.len_tl, lineS_len, ih]
    unfold lenS
    simp
theorem lenS_take (W : List Str) (n : Nat) : lenS (W.take n) ≤ lenS W := by
  have : lenS W = lenS (W.take n) + lenS (W.drop n) := by
    unfold lenS
    rw [← List.sum_append, ← List.map_append, List.take_append_drop]
  omega
theorem joinL_lenS {S : List Nat} (hS : S.length = 1) : ∀ {W : List Str}, W ≠ [] → (joinL S (W.map tl)).length + 1 = lenS W
  | [], h => absurd rfl h
  | [w], _ => by simp [joinL, lenS, TL.len_tl]
  | w :: w2 :: W, _ => by
    have ih := joinL_lenS hS (W := w2 :: W) (by simp)
    rw [List.map_cons, joinL_cons (by simp)]
    unfold lenS at ih ⊢
    simp only [List.length_append, List.map_cons, List.sum_cons] at ih ⊢
    rw [TL.len_tl w]
    omega
theorem split_lenS (t : Str) : lenS (Txt.split t "\n") = t.length + 1 := by
  have h := split_tl (x := t) tls2.2.2.2.2.2.2.1 (by simp) (by simp)
  have e := joinL_lenS (S := [10]) rfl (split_neK t "\n" (by decide) (by decide))
  rw [h, join_spl (by simp) (by simp), ← TL.len_tl] at e
  exact e.symm
theorem dropLast_lenS {W : List Str} (h : W ≠ []) : lenS W.dropLast ≤ lenS W := by
  have : W.dropLast = W.take (W.length - 1) := List.dropLast_eq_take
  rw [this]
  exact lenS_take _ _
section
variable [EC : ErrCtx]
def readK (W : List Str) (rest : Str) : Sum Nat (List Trp) :=
  if W[(foundK [] W).length]? = some (chkT (tl (linesT (W.take (foundK [] W).length)))) then
    if (foundK [] W).length + 1 < W.length ∨ rest ≠ "" then .inl ((foundK [] W).length + 2) else .inr (foundK [] W)
  else .inl ((foundK [] W).length + 1)
end
end CM
namespace CM
open PySem L2 PySem.Spec DL
open PyProof.Rows hiding St
open TL (tl pre spl par numL joinL)
theorem tl_lines_cons (w : Str) (W : List Str) : tl (linesT (w :: W)) = tl w ++ 10 :: tl (linesT W) := by
  unfold linesT
  rw [TL.join_eq, TL.join_eq, TL.tl_join, TL.tl_join, List.map_cons, List.map_cons]
  have e : tl (lineS w) = tl w ++ [10] := by unfold lineS; rw [TL.tl_append]; rfl
  cases h : (W.map lineS).map tl with
  | nil => simp [joinL, e]
  | cons p ps =>
    rw [joinL_cons (by simp), e, List.append_assoc]
    rfl
theorem tl_lines_nil : tl (linesT []) = [] := rfl
theorem linesT_app (A B : List Str) : linesT (A ++ B) = linesT A ++ linesT B := by
  refine TL.ext_tl ?_
  rw [TL.tl_append]
  induction A with
  | nil => rw [tl_lines_nil]; rfl
  | cons w A ih => rw [List.cons_append, tl_lines_cons, tl_lines_cons, ih, List.append_assoc]; rfl
theorem name_in {s : Str} (h : nameS s = true) : ∀ c ∈ tl s, 97 ≤ c ∧ c ≤ 122 := nameL_free (by rw [← nameS_eq]; exact h)
theorem tl_placeT (k : Lock) : tl (placeT k) = tl k.1 ++ 32 :: vL k.2 := by
  unfold placeT
  rw [TL.tl_append, TL.tl_append, tls2.2.2.1, List.append_assoc]
  rfl
theorem tl_trpT (t : Trp) : tl (trpT t) = tl t.1 ++ 32 :: joinL [32] (vL t.2.1 :: t.2.2.map tl) := by
  unfold trpT
  rw [TL.join_eq, TL.tl_join, tls2.2.2.1, List.map_cons, tl_placeT]
  cases h : t.2.2.map tl with
  | nil => simp [joinL]
  | cons p ps =>
    rw [joinL_cons (p := tl t.1 ++ 32 :: vL t.2.1) (ps := p :: ps) (by simp), joinL_cons (p := vL t.2.1) (ps := p :: ps) (by simp)]
    simp
theorem trpT_in {t : Trp} (h : TrpV t) {c : Nat} (hc : c ∈ tl (trpT t)) : (97 ≤ c ∧ c ≤ 122) ∨ c = 32 ∨ (48 ≤ c ∧ c ≤ 57) ∨ c = 46 := by
  rw [tl_trpT] at hc
  rcases List.mem_append.mp hc with hc | hc
  · exact .inl (name_in h.1 c hc)
  rcases List.mem_cons.mp hc with hc | hc
  · exact .inr (.inl hc)
  rcases mem_join hc with hc | ⟨p, hp, hc⟩
  · exact .inr (.inl (List.mem_singleton.mp hc))
  rcases List.mem_cons.mp hp with rfl | hp
  · rcases vL_in hc with hc | hc
    · exact .inr (.inr (.inl hc))
    · exact .inr (.inr (.inr hc))
  · obtain ⟨s, hs, rfl⟩ := List.mem_map.mp hp
    exact .inl (name_in (namesF_names h.2.2 s hs) c hc)
theorem numL_in {n c : Nat} (h : c ∈ numL n) : 48 ≤ c ∧ c ≤ 57 := by
  by_cases h1 : 48 ≤ c ∧ c ≤ 57
  · exact h1
  · exact absurd h (TL.numL_free (by omega))
theorem trpL_ok {l : List Nat} {t : Trp} (h : trpL l = some t) : TrpV t := by
  unfold trpL at h
  split at h
  · rename_i n b _
    cases hs : spl [32] 0 [] b with
    | nil => rw [hs] at h; cases h
    | cons w r =>
      rw [hs] at h
      unfold trpM at h
      dsimp only at h
      split at h
      · rename_i hb
        cases hv : verText w with
        | none => rw [hv] at h; cases h
        | some v =>
          rw [hv] at h hb
          cases h
          unfold trpB at hb
          simp only [Bool.and_eq_true, Option.isSome_some, true_and] at hb
          exact ⟨hb.1, verText_ok hv, hb.2⟩
      · cases h
  · cases h
theorem verText_num (n : Nat) : verText (numL n) = none := by
  unfold verText
  have : spl [46] 0 [] (numL n) = [numL n] := by
    rw [spl1]
    cases h : par [46] [] (numL n) with
    | none => rfl
    | some p =>
      obtain ⟨q, _, e, _⟩ := par1_some (a := p.1) (r := p.2) (by rw [h])
      have : 46 ∈ numL n := by rw [e]; simp
      exact absurd this (dot_free n)
  rw [this]
  exact verM_len (by simp)
theorem trpL_chk (l : List Nat) : trpL (tl (chkT l)) = none := by
  rw [tl_chkT]
  unfold trpL
  have : [99, 104, 101, 99, 107, 32] ++ numL (chk l) = [99, 104, 101, 99, 107] ++ 32 :: numL (chk l) := rfl
  rw [this, par1_at (by simp)]
  dsimp only
  have hs : spl [32] 0 [] (numL (chk l)) = [numL (chk l)] := by
    rw [spl1]
    cases h : par [32] [] (numL (chk l)) with
    | none => rfl
    | some p =>
      obtain ⟨q, _, e, _⟩ := par1_some (a := p.1) (r := p.2) (by rw [h])
      have : 32 ∈ numL (chk l) := by rw [e]; simp
      have := numL_in this
      omega
  rw [hs]
  unfold trpM
  dsimp only
  rw [verText_num]
  simp [trpB]
def nmT (t : Trp) : Str := t.1
end CM
namespace CM
open PySem L2 PySem.Spec DL
open PyProof.Rows hiding St
open TL (tl pre spl par numL joinL)
def sp_lnameB : DSp := fun ds st Q _ => match ds with
  | [.str t] => t.length ≤ 200000 ∧ Q (.bl (nameL (tl t))) st
  | _ => False
theorem r__law_is_name_k42 : Rd 1 sp_lnameB RD.t__law_is_name_k42 RD.N__law_is_name_k42 := by
  intro ds st Q Z hl h
  match ds, hl, h with
  | [.str t], _, ⟨ht, q⟩ =>
    have hz : t.length ≤ sizeLine := sz_big (by omega)
    have hlen := TL.len_tl t
    unfold RD.t__law_is_name_k42
    have hn : ∀ b : Bool, nameL (tl t) = b → Q (.bl b) st := fun b e => by rw [e] at q; exact q
    rw [s_ret, s_andV, s_chain, s_c, s_cb, s_cons, s_var]
    show dNil _ _ _ _
    rw [s_nil, s_len_str]
    refine ⟨hz, ?_⟩
    show dOrd _ _ (.int 1) (.int (t.length : Int)) st _
    rw [s_ord_int]
    by_cases h1 : 1 ≤ t.length
    · have h1' : (1 : Int) ≤ (t.length : Int) := by omega
      simp only [h1', decide_true, if_true]
      rw [s_c]
      show dOrd _ _ (.int (t.length : Int)) (.int 12) st _
      rw [s_ord_int, s_tru_bl]
      by_cases h12 : t.length ≤ 12
      · have h12' : (t.length : Int) ≤ 12 := by omega
        rw [if_pos (by simpa using h12'), s_cb, s_cons, s_lc, s_iD, s_var]
        show walkD st (.str t) _
        rw [s_walk_str, str_items]
        refine runC_mem (inj := fun c => .str ⟨#[c]⟩) (out := fun c => .bl (decide (97 ≤ c ∧ c ≤ 122))) trivial (tl t) [] (fun c hc QT qt => ?_) (by rw [List.length_nil]; omega) ?_
        · unfold RD.e__law_is_name_k42_1
          simp
          refine ⟨c, ("abcdefghijklmnopqrstuvwxyz" : Str), rfl, rfl, ?_⟩
          rw [low_mem]
          simpa using qt
        · rw [s_nil]
          refine ⟨(tl t).map fun c => decide (97 ≤ c ∧ c ≤ 122), by simp, ?_⟩
          have e : ((tl t).map fun c => decide (97 ≤ c ∧ c ≤ 122)).all id = nameL (tl t) := by
            unfold nameL
            rw [List.all_map, ← hlen, decide_eq_true h12, decide_eq_true (show tl t ≠ [] from fun z => by rw [hlen, z] at h1; simp at h1)]
            simp
          rw [e]
          exact back_tup ⟨_, rfl⟩ rfl q
      · have h12' : ¬ (t.length : Int) ≤ 12 := by omega
        rw [if_neg (by simpa using h12')]
        have e : decide ((t.length : Int) ≤ 12) = false := decide_eq_false h12'
        rw [e]
        refine .inl (hn false ?_)
        unfold nameL
        rw [← hlen, decide_eq_false h12]
        rfl
    · have h1' : ¬ (1 : Int) ≤ (t.length : Int) := by omega
      simp only [h1', decide_false, Bool.false_eq_true, if_false]
      rw [s_tru_bl, if_neg (by simp)]
      refine .inl (hn false ?_)
      have : tl t = [] := List.length_eq_zero_iff.mp (by omega)
      rw [this]
      rfl
theorem map_chr : ∀ l : List Nat, (∀ c ∈ l, 48 ≤ c ∧ c ≤ 57) → (l.map Char.ofNat).map Char.toNat = l
  | [], _ => rfl
  | c :: l, h => by
    have hc := h c List.mem_cons_self
    have key : ∀ c : Nat, c < 58 → (Char.ofNat c).toNat = c := by decide
    rw [List.map_cons, List.map_cons, map_chr l fun x hx => h x (List.mem_cons_of_mem _ hx), key c (by omega)]
theorem canon {l : List Nat} (hne : l ≠ []) (hd : ∀ c ∈ l, 48 ≤ c ∧ c ≤ 57) : numL (NumText.digitsVal l) = l ↔ (l = [48] ∨ l.head? ≠ some 48) := by
  constructor
  · intro e
    by_cases h0 : NumText.digitsVal l = 0
    · rw [h0] at e
      exact .inl e.symm
    · right
      have := numL_head _ (Nat.pos_of_ne_zero h0)
      rwa [e] at this
  · rintro (rfl | h)
    · rfl
    · cases l with
      | nil => exact absurd rfl hne
      | cons c r =>
        have hc := hd c List.mem_cons_self
        have h48 : c ≠ 48 := by simpa using h
        unfold TL.numL
        rw [NumText.toDigits_digitsVal r.length (c :: r) rfl hd (.inr ⟨c, r, rfl, by omega⟩)]
        exact map_chr _ hd
theorem dv_lt : ∀ l : List Nat, (∀ c ∈ l, 48 ≤ c ∧ c ≤ 57) → NumText.digitsVal l < 10 ^ l.length := by
  intro l
  induction hn : l.length generalizing l with
  | zero => intro _; rw [List.length_eq_zero_iff.mp hn]; decide
  | succ n ih =>
    intro h
    have hne : l ≠ [] := by intro e; rw [e] at hn; cases hn
    have e := List.dropLast_concat_getLast hne
    generalize l.dropLast = ini at e
    generalize l.getLast hne = c at e
    subst e
    have := ih ini (by simp at hn; exact hn) fun d hd => h d (List.mem_append_left _ hd)
    have hc := h c (List.mem_append_right _ (List.mem_singleton.mpr rfl))
    rw [NumText.digitsVal_snoc, Nat.pow_succ]
    omega
def lawNum (m : Nat) (l : List Nat) : Option Nat := if l ≠ [] ∧ l.length ≤ 12 ∧ (∀ c ∈ l, 48 ≤ c ∧ c ≤ 57) ∧ (l = [48] ∨ l.head? ≠ some 48) then (if NumText.digitsVal l ≤ m then some (NumText.digitsVal l) else none) else none
def sp_lnumK : DSp := fun ds st Q _ => match ds with
  | [.str t, .int m] => 0 ≤ m ∧ t.length ≤ 200000 ∧ Q (encN (lawNum m.toNat (tl t))) st
  | _ => False
theorem log_12 {n : Nat} (h : n < 10 ^ 12) : (n : Int).natAbs.log2 < 1920 := by
  rw [Int.natAbs_natCast]
  by_cases h0 : n = 0
  · rw [h0]; decide
  · have h2 : n.log2 < 40 := (Nat.log2_lt h0).mpr (Nat.lt_of_lt_of_le h (by decide))
    omega
theorem r__law_number : Rd 2 sp_lnumK RD.t__law_number RD.N__law_number := by
  intro ds st Q Z hl h
  match ds, hl, h with
  | [.str t, .int m], _, ⟨hm, ht, q⟩ =>
    obtain ⟨M, rfl⟩ : ∃ M : Nat, m = M := ⟨m.toNat, by omega⟩
    rw [Int.toNat_natCast] at q
    have hz : t.length ≤ sizeLine := sz_big (by omega)
    have hlen := TL.len_tl t
    unfold RD.t__law_number
    have no : ∀ g, ¬ (tl t ≠ [] ∧ (tl t).length ≤ 12 ∧ (∀ c ∈ tl t, 48 ≤ c ∧ c ≤ 57) ∧ (tl t = [48] ∨ (tl t).head? ≠ some 48)) → DL.Back st Q .non (st ++ g) := fun g hn => by
      have : lawNum M (tl t) = none := by unfold lawNum; rw [if_neg hn]
      rw [this] at q
      exact back_tup ⟨g, rfl⟩ rfl q
    have no0 : ¬ (tl t ≠ [] ∧ (tl t).length ≤ 12 ∧ (∀ c ∈ tl t, 48 ≤ c ∧ c ≤ 57) ∧ (tl t = [48] ∨ (tl t).head? ≠ some 48)) → DL.Back st Q .non st := fun hn => by simpa using no [] hn
    rw [s_seq]
    rw [s_ifS, s_or, s_not, s_test, s_chain, s_c, s_cb, s_cons, s_var]
    show dNil _ _ _ _
    rw [s_nil, s_len_str]
    refine ⟨hz, ?_⟩
    show dOrd _ _ (.int 1) (.int (t.length : Int)) st _
    rw [s_ord_int]
    by_cases h1 : 1 ≤ t.length
    · have h1' : (1 : Int) ≤ (t.length : Int) := by omega
      simp only [h1', decide_true, if_true]
      rw [s_c]
      show dOrd _ _ (.int (t.length : Int)) (.int 12) st _
      rw [s_ord_int]
      by_cases h12 : t.length ≤ 12
      · have h12' : (t.length : Int) ≤ 12 := by omega
        have hne : tl t ≠ [] := fun z => by rw [hlen, z] at h1; simp at h1
        simp only [h12', decide_true, Bool.not_true, Bool.false_eq_true, if_false]
        rw [s_or, s_not, s_tru, s_cb, s_cons, s_lc, s_iD, s_var]
        show walkD st (.str t) _
        rw [s_walk_str, str_items]
        refine runC_mem (inj := fun c => .str ⟨#[c]⟩) (out := fun c => .bl (decide (48 ≤ c ∧ c ≤ 57))) trivial (tl t) [] (fun c hc QT qt => ?_) (by rw [List.length_nil]; omega) ?_
        · unfold RD.e__law_number_1
          simp
          refine ⟨c, ("0123456789" : Str), rfl, rfl, ?_⟩
          rw [dig_mem]
          simpa using qt
        · rw [s_nil, s_all]
          refine ⟨(tl t).map fun c => decide (48 ≤ c ∧ c ≤ 57), by simp, ?_⟩
          have e : ((tl t).map fun c => decide (48 ≤ c ∧ c ≤ 57)).all id = digs (tl t) := by unfold digs; rw [List.all_map]; rfl
          rw [e, List.nil_append, s_tru_bl]
          generalize hgg : [Ob.lst ((tl t).map fun c => D.bl (decide (48 ≤ c ∧ c ≤ 57)))] = g
          cases hd : digs (tl t) with
          | false =>
            rw [if_pos (by simp), if_pos rfl, s_ret, s_c]
            refine no g ?_
            rintro ⟨_, _, h, _⟩
            have : digs (tl t) = true := by unfold digs; rw [List.all_eq_true]; intro c hc; simpa using h c hc
            rw [hd] at this
            cases this
          | true =>
            have hdg : ∀ c ∈ tl t, 48 ≤ c ∧ c ≤ 57 := fun c hc => by
              unfold digs at hd
              rw [List.all_eq_true] at hd
              simpa using hd c hc
            have e3 : intText? t = some ((NumText.digitsVal (tl t) : Nat) : Int) := intText_digits (x := t) hdg hne (by omega)
            have hlt := dv_lt (tl t) hdg
            have hlt2 : NumText.digitsVal (tl t) < 10 ^ 12 := Nat.lt_of_lt_of_le hlt (Nat.pow_le_pow_right (by decide) (by omega))
            rw [if_neg (by simp), s_test, s_op, s_var]
            show dCB _ _ _ _ _ _
            rw [s_cb, s_cons, s_cb, s_cons, s_var]
            show dNil _ _ _ _
            rw [s_nil, s_intS]
            refine ⟨_, e3, by omega, ?_⟩
            rw [s_nil, s_strI]
            refine ⟨log_12 hlt2, ?_⟩
            show dEqB not (.str t) (.str _) _ _
            rw [s_eq_str]
            have hiff : (t = (toString ((NumText.digitsVal (tl t) : Nat) : Int) : Str)) ↔ (tl t = [48] ∨ (tl t).head? ≠ some 48) := by
              rw [str_eq, TL.tl_num, ← canon hne hdg]
              exact eq_comm
            generalize (Str.ofString (toString ((NumText.digitsVal (tl t) : Nat) : Int))) = sv at hiff ⊢
            try dsimp only
            by_cases hc : tl t = [48] ∨ (tl t).head? ≠ some 48
            · rw [if_neg (by rw [← hiff.mpr hc]; simp), s_next]
              try dsimp only
              have hval : lawNum M (tl t) = if NumText.digitsVal (tl t) ≤ M then some (NumText.digitsVal (tl t)) else none := by
                unfold lawNum
                rw [if_pos ⟨hne, by omega, hdg, hc⟩]
              rw [hval] at q
              rw [s_ret, s_if, s_test, s_op, s_cb, s_cons, s_var]
              show dNil _ _ _ _
              rw [s_nil, s_intS]
              refine ⟨_, e3, by omega, ?_⟩
              rw [s_var]
              show dOrd _ _ (.int _) (.int (M : Int)) _ _
              rw [s_ord_int]
              try dsimp only
              by_cases hle : NumText.digitsVal (tl t) ≤ M
              · rw [if_pos hle] at q
                rw [if_pos (by simp; omega), s_cb, s_cons, s_var]
                show dNil _ _ _ _
                rw [s_nil, s_intS]
                exact ⟨_, e3, by omega, back_tup ⟨g, rfl⟩ rfl q⟩
              · rw [if_neg hle] at q
                rw [if_neg (by simp; omega), s_c]
                exact back_tup ⟨g, rfl⟩ rfl q
            · rw [if_pos (by simpa using fun z => hc (hiff.mp z)), s_ret, s_c]
              exact no g fun z => hc z.2.2.2
      · have h12' : ¬ (t.length : Int) ≤ 12 := by omega
        simp only [h12', decide_false, Bool.not_false, if_true]
        rw [s_ret, s_c]
        exact no0 fun z => by have := z.2.1; omega
    · have h1' : ¬ (1 : Int) ≤ (t.length : Int) := by omega
      simp only [h1', decide_false, Bool.false_eq_true, if_false, Bool.not_false, if_true]
      rw [s_ret, s_c]
      exact no0 fun z => z.1 (List.length_eq_zero_iff.mp (by omega))
end CM
namespace CM
open PySem L2 PySem.Spec DL
open PyProof.Rows hiding St
open TL (tl pre spl par numL joinL)
theorem okNumM_law (l : List Nat) : lawNum 1000000 l = okNumM l := by
  unfold lawNum okNumM okNum
  by_cases h : l ≠ [] ∧ l.length ≤ 12 ∧ (∀ c ∈ l, 48 ≤ c ∧ c ≤ 57) ∧ (l = [48] ∨ l.head? ≠ some 48)
  · rw [if_pos h]
    by_cases hv : NumText.digitsVal l ≤ 1000000
    · have h7 : l.length ≤ 7 := by
        rw [← (canon h.1 h.2.2.1).mpr h.2.2.2]
        exact num7 (by omega)
      rw [if_pos hv, if_pos ⟨h.1, h7, h.2.2⟩]
      dsimp only
      rw [if_pos hv]
    · rw [if_neg hv]
      by_cases h7 : l.length ≤ 7
      · rw [if_pos ⟨h.1, h7, h.2.2⟩]
        dsimp only
        rw [if_neg hv]
      · rw [if_neg fun z => h7 z.2.1]
  · rw [if_neg h, if_neg fun z => h ⟨z.1, by omega, z.2.2⟩]
def trpW : List Str → Option Trp
  | n :: w :: fs => if trpB n (verText (tl w)) fs = true then (verText (tl w)).map fun v => (n, v, fs) else none
  | _ => none
theorem trpL_words (t : Str) : trpL (tl t) = trpW (Txt.split t " ") := by
  have hs := split_tl (x := t) tls2.2.2.1 (by simp) (by simp)
  have h1 := congrArg (List.map SL) hs
  rw [map_SL_tl, spl1] at h1
  unfold trpL
  cases hp : par [32] [] (tl t) with
  | none =>
    rw [hp] at h1
    rw [h1]
    rfl
  | some p =>
    obtain ⟨n, b⟩ := p
    rw [hp] at h1
    dsimp only at h1 ⊢
    rw [h1]
    have hne := spl_ne (S := [32]) b [] 0
    cases hb : spl [32] 0 [] b with
    | nil => exact absurd hb hne
    | cons w r => rfl
theorem lotN_iff {l : List Str} (hs : ∀ s ∈ l, nameS s = true) {M : List Str} (nd : M.Nodup) (hm : ∀ y, y ∈ M ↔ y ∈ l) : namesF "" l = true ↔ l = TxS.asc M := by
  have hu := asc_up nd
  have hmem : ∀ x, x ∈ TxS.asc M ↔ x ∈ l := fun x => ((asc_perm M).mem_iff).trans (hm x)
  rw [namesF_up hs]
  exact ⟨fun h => up_uniq h hu fun x => (hmem x).symm, fun h => by rw [h]; exact hu⟩
def sp_ltrp : DSp := fun ds st Q _ => match ds with
  | [.str t] => t.length ≤ 150000 ∧ (tl t).count 32 ≤ 3900 ∧ Q (encOT (trpL (tl t))) st
  | _ => False
theorem words_count (t : Str) : (Txt.split t " ").length ≤ (tl t).count 32 + 1 := by
  have hs := split_tl (x := t) tls2.2.2.1 (by simp) (by simp)
  have hc := count_spl (c := 32) (S := [32]) (by simp) (by simp) (tl t)
  have e : (Txt.split t " ").length = (spl [32] 0 [] (tl t)).length := by rw [← hs]; simp
  rw [← e] at hc
  generalize (tl t).count 32 = c at hc ⊢
  rw [show [32].count 32 = 1 from rfl] at hc
  omega
theorem all_ev {m : Nat} {bs : List Bool} {st : Sto} {Q : DK} (h : st[m]? = some (.lst (bs.map .bl))) (q : Q (.bl (bs.all id)) st) : dAll [.loc m] st Q := ⟨bs, h, q⟩
theorem verN_back {os : List (Option Nat)} {v : Nat} (hos : ∀ o ∈ os, ∀ n, o = some n → n ≤ 1000000) (h : verN os = some v) : D.tup (os.map encN) = encV v := by
  have h3 : os.length = 3 := by
    by_cases h3 : os.length = 3
    · exact h3
    · rw [verN_none (.inl h3)] at h; cases h
  have hn : none ∉ os := fun hn => by rw [verN_none (.inr hn)] at h; cases h
  obtain ⟨x, y, z, rfl⟩ := verN_some h3 hn
  have hx := hos (some x) (by simp) x rfl
  have hy := hos (some y) (by simp) y rfl
  have hz := hos (some z) (by simp) z rfl
  have hv : encV (mkV x y z) = .tup [.int x, .int y, .int z] := by
    unfold encV
    rw [vA_mk (by omega) (by omega), vB_mk (by omega) (by omega), vC_mk (by omega)]
  have hvn : verN [some x, some y, some z] = some (mkV x y z) := rfl
  rw [hvn] at h
  cases h
  exact hv.symm
theorem r__law_triple : Rd 1 sp_ltrp (RD.t__law_triple sp_lnameB sp_lnumK) RD.N__law_triple := by
  intro ds st Q Z hl h
  match ds, hl, h with
  | [.str t], _, ⟨ht, hc32, q⟩ =>
    unfold RD.t__law_triple
    have hz : t.length ≤ sizeLine := sz_big (by omega)
    rw [trpL_words] at q
    have hW := words_count t
    have hlen : ∀ w ∈ Txt.split t " ", w.length ≤ 150000 := fun w hw => by have := split_len hw; omega
    rw [s_seq, s_asg, s_bm, s_var]
    show tyD st "str" (.str t) ∧ _
    refine ⟨rfl, ?_⟩
    rw [s_cons, s_c, s_nil, s_split]
    refine ⟨by decide, sz1m (by omega), ?_⟩
    generalize Txt.split t " " = W at q hW hlen ⊢
    rw [s_gN]
    have hm : (st ++ [Ob.lst (W.map D.str)])[st.length]? = some (.lst (W.map .str)) := getElem?_push
    have hp : Pre st (st ++ [Ob.lst (W.map D.str)]) := ⟨_, rfl⟩
    generalize st ++ [Ob.lst (W.map D.str)] = st1 at hm hp ⊢
    try dsimp only
    show dSeq _ _ _ [some (.str t), some (.loc st.length), none, none, none] st1
    have no : ∀ st', Pre st st' → trpW W = none → DL.Back st Q .non st' := fun st' h' e => by rw [e] at q; exact back_tup h' rfl q
    rw [s_seq, s_ifS, s_or, s_test, s_op, s_cb, s_cons, s_var]
    show dNil _ _ _ _
    rw [s_nil, s_len_loc, hm]
    try dsimp only
    rw [s_c]
    show dOrd _ _ (.int ((W.map D.str).length : Int)) (.int 2) _ _
    rw [s_ord_int, List.length_map]
    try dsimp only
    match W, hm, hW, hlen, q, no with
    | [], hm, hW, hlen, q, no =>
      rw [if_pos (by simp), if_pos rfl, s_ret, s_c]
      exact no st1 hp rfl
    | [n], hm, hW, hlen, q, no =>
      rw [if_pos (by simp), if_pos rfl, s_ret, s_c]
      exact no st1 hp rfl
    | n :: w :: fs, hm, hW, hlen, q, no =>
      have hnl := hlen n (by simp)
      have hwl := hlen w (by simp)
      have hfl : ∀ s ∈ fs, s.length ≤ 150000 := fun s hs => hlen s (by simp [hs])
      simp only [List.length_cons] at hW
      rw [if_neg (by simp; omega), s_not, s_tru, s_cb, s_cons, s_lc, s_iD, s_op, s_sl, s_var]
      show dNoPart _ _ _ _
      rw [s_noPart, s_part, s_c]
      try dsimp only
      rw [s_slv_loc]
      refine ⟨_, hm, ?_⟩
      rw [show (1 : Int) = ((1 : Nat) : Int) from rfl, cutK_take]
      have h1 : (st1 ++ [Ob.lst (((n :: w :: fs).map D.str).take 1)])[st1.length]? = some (.lst [.str n]) := getElem?_push
      have hm2 : (st1 ++ [Ob.lst (((n :: w :: fs).map D.str).take 1)])[st.length]? = some (.lst ((n :: w :: fs).map .str)) := gb hm
      have hp2 : Pre st (st1 ++ [Ob.lst (((n :: w :: fs).map D.str).take 1)]) := hp.app _
      generalize st1 ++ [Ob.lst (((n :: w :: fs).map D.str).take 1)] = st2 at h1 hm2 hp2 ⊢
      rw [s_sl, s_var]
      show dPart _ _ _ _ _
      rw [s_part, s_c]
      try dsimp only
      rw [s_noPart, s_slv_loc]
      refine ⟨_, hm2, ?_⟩
      rw [show (2 : Int) = ((2 : Nat) : Int) from rfl, cutK_drop]
      have h3 : (st2 ++ [Ob.lst (((n :: w :: fs).map D.str).drop 2)])[st2.length]? = some (.lst (fs.map .str)) := getElem?_push
      have h13 : (st2 ++ [Ob.lst (((n :: w :: fs).map D.str).drop 2)])[st1.length]? = some (.lst [.str n]) := gb h1
      have hm3 : (st2 ++ [Ob.lst (((n :: w :: fs).map D.str).drop 2)])[st.length]? = some (.lst ((n :: w :: fs).map .str)) := gb hm2
      have hp3 : Pre st (st2 ++ [Ob.lst (((n :: w :: fs).map D.str).drop 2)]) := hp2.app _
      generalize st2 ++ [Ob.lst (((n :: w :: fs).map D.str).drop 2)] = st3 at h3 h13 hm3 hp3 ⊢
      rw [s_add_loc]
      refine ⟨_, _, h13, h3, by simp; apply sz_big; omega, ?_⟩
      rw [s_walk_loc]
      have h4 : (st3 ++ [Ob.lst ([D.str n] ++ fs.map D.str)])[st3.length]? = some (.lst ((n :: fs).map .str)) := getElem?_push
      have hm4 : (st3 ++ [Ob.lst ([D.str n] ++ fs.map D.str)])[st.length]? = some (.lst ((n :: w :: fs).map .str)) := gb hm3
      have hp4 : Pre st (st3 ++ [Ob.lst ([D.str n] ++ fs.map D.str)]) := hp3.app _
      generalize st3 ++ [Ob.lst ([D.str n] ++ fs.map D.str)] = st4 at h4 hm4 hp4 ⊢
      refine ⟨_, h4, ?_⟩
      refine runC_mem (inj := D.str) (out := fun s => .bl (nameL (tl s))) h4 (n :: fs) [] (fun s hs QT qt => ?_) (by simp; omega) ?_
      · unfold RD.e__law_triple_1
        rw [s_call, s_cons]
        refine var_ev (d := .str s) rfl ?_
        rw [s_nil]
        refine ⟨rfl, ?_, qt⟩
        rcases List.mem_cons.mp hs with rfl | hs
        · omega
        · have := hfl s hs; omega
      rw [s_nil]
      have hm5 : (st4 ++ [Ob.lst (([] : List D) ++ (n :: fs).map fun s => D.bl (nameL (tl s)))])[st.length]? = some (.lst ((n :: w :: fs).map .str)) := gb hm4
      have hp5 : Pre st (st4 ++ [Ob.lst (([] : List D) ++ (n :: fs).map fun s => D.bl (nameL (tl s)))]) := hp4.app _
      refine all_ev (bs := (n :: fs).map fun s => nameL (tl s)) (by rw [getElem?_push, List.nil_append, List.map_map]; rfl) ?_
      generalize st4 ++ [Ob.lst (([] : List D) ++ (n :: fs).map fun s => D.bl (nameL (tl s)))] = st5 at hm5 hp5 ⊢
      try dsimp only
      rw [s_tru_bl]
      cases hall : ((n :: fs).map fun s => nameL (tl s)).all id with
      | false =>
        rw [if_pos (by simp), s_ret, s_c]
        refine no st5 hp5 ?_
        unfold trpW
        dsimp only
        rw [if_neg]
        intro hb
        unfold trpB at hb
        simp only [Bool.and_eq_true] at hb
        have hnn := namesF_names hb.2.2
        have : ((n :: fs).map fun s => nameL (tl s)).all id = true := by
          rw [List.all_map, List.all_eq_true]
          intro s hs
          show nameL (tl s) = true
          rw [← nameS_eq]
          rcases List.mem_cons.mp hs with rfl | hs
          · exact hb.1
          · exact hnn s hs
        rw [hall] at this
        cases this
      | true =>
        rw [List.all_map, List.all_eq_true] at hall
        have hn : nameS n = true := by rw [nameS_eq]; exact hall n List.mem_cons_self
        have hfs : ∀ s ∈ fs, nameS s = true := fun s hs => by rw [nameS_eq]; exact hall s (List.mem_cons_of_mem _ hs)
        rw [if_neg (by simp), s_next]
        try dsimp only
        rw [s_seq, s_par, s_cons, s_lc, s_iD, s_bm, s_op, s_var]
        show dC _ _ _ _ _
        rw [s_c, s_ix_loc]
        refine ⟨_, .str w, hm5, atI_nat (j := 1) rfl, ?_⟩
        show tyD _ "str" (.str w) ∧ _
        refine ⟨rfl, ?_⟩
        rw [s_cons, s_c, s_nil, s_split]
        refine ⟨by decide, sz1m (by omega), ?_⟩
        have hcut := split_tl (x := w) tl_dot (by simp) (by simp)
        have hvt : verText (tl w) = verN ((Txt.split w ".").map fun z => okNumM (tl z)) := by
          rw [verText_eq, ← hcut, List.map_map]
          rfl
        have hwn : ∀ z ∈ Txt.split w ".", z.length ≤ 150000 := fun z hz => by have := split_len hz; omega
        have hwc : (Txt.split w ".").length ≤ w.length + 2 := PyProof.Rows.split_le w "."
        generalize Txt.split w "." = V at hvt hwn hwc ⊢
        rw [s_walk_loc]
        have h6 : (st5 ++ [Ob.lst (V.map D.str)])[st5.length]? = some (.lst (V.map .str)) := getElem?_push
        have hm6 : (st5 ++ [Ob.lst (V.map D.str)])[st.length]? = some (.lst ((n :: w :: fs).map .str)) := gb hm5
        have hp6 : Pre st (st5 ++ [Ob.lst (V.map D.str)]) := hp5.app _
        generalize st5 ++ [Ob.lst (V.map D.str)] = st6 at h6 hm6 hp6 ⊢
        refine ⟨_, h6, ?_⟩
        refine runC_mem (inj := D.str) (out := fun z => encN (okNumM (tl z))) h6 V [] (fun z hz QT qt => ?_) (by rw [List.length_nil]; omega) ?_
        · unfold RD.e__law_triple_2
          rw [s_call, s_cons]
          refine var_ev (d := .str z) rfl ?_
          rw [s_cons, s_c, s_nil]
          refine ⟨rfl, by decide, by have := hwn z hz; omega, ?_⟩
          rw [show (1000000 : Int).toNat = 1000000 from rfl, okNumM_law]
          exact qt
        have e2 : ([] : List D) ++ V.map (fun z => encN (okNumM (tl z))) = (V.map fun z => okNumM (tl z)).map encN := by rw [List.nil_append, List.map_map]; rfl
        have hos : ∀ o ∈ V.map (fun z => okNumM (tl z)), ∀ n, o = some n → n ≤ 1000000 := fun o ho n e => by
          obtain ⟨z, _, h⟩ := List.mem_map.mp ho
          exact okNumM_le (h.trans e)
        rw [e2]
        generalize (V.map fun z => okNumM (tl z)) = os at hvt hos ⊢
        have h7 : (st6 ++ [Ob.lst (os.map encN)])[st6.length]? = some (.lst (os.map encN)) := getElem?_push
        have hm7 : (st6 ++ [Ob.lst (os.map encN)])[st.length]? = some (.lst ((n :: w :: fs).map .str)) := gb hm6
        have hp7 : Pre st (st6 ++ [Ob.lst (os.map encN)]) := hp6.app _
        generalize st6 ++ [Ob.lst (os.map encN)] = st7 at h7 hm7 hp7 ⊢
        generalize st6.length = mn at h7 ⊢
        rw [s_cons, s_sl, s_var]
        show dPart _ _ _ _ _
        rw [s_part, s_c]
        try dsimp only
        rw [s_noPart, s_slv_loc]
        refine ⟨_, hm7, ?_⟩
        first | rw [cutK_drop, s_nil] | rw [show (2 : Int) = ((2 : Nat) : Int) from rfl, cutK_drop, s_nil]
        have h8 : (st7 ++ [Ob.lst (((n :: w :: fs).map D.str).drop 2)])[st7.length]? = some (.lst (fs.map .str)) := getElem?_push
        have h78 : (st7 ++ [Ob.lst (((n :: w :: fs).map D.str).drop 2)])[mn]? = some (.lst (os.map encN)) := gb h7
        have hm8 : (st7 ++ [Ob.lst (((n :: w :: fs).map D.str).drop 2)])[st.length]? = some (.lst ((n :: w :: fs).map .str)) := gb hm7
        have hp8 : Pre st (st7 ++ [Ob.lst (((n :: w :: fs).map D.str).drop 2)]) := hp7.app _
        generalize st7 ++ [Ob.lst (((n :: w :: fs).map D.str).drop 2)] = st8 at h8 h78 hm8 hp8 ⊢
        generalize st7.length = mf at h8 ⊢
        try dsimp only
        show dSeq _ _ _ [some (.str t), some (.loc st.length), none, some (.loc mn), some (.loc mf)] st8
        have tB : trpB n (verText (tl w)) fs = ((verN os).isSome && namesF "" fs) := by
          unfold trpB
          rw [hn, hvt, Bool.true_and]
        unfold trpW at no q
        dsimp only at no q
        rw [tB] at no q
        rw [hvt] at no q
        rw [s_seq, s_ifS, s_or, s_test, s_op, s_cb, s_cons, s_var]
        show dNil _ _ _ _
        rw [s_nil, s_len_loc, h78]
        try dsimp only
        rw [s_c]
        show dEqB not _ _ _ _
        rw [s_eq_int, List.length_map]
        try dsimp only
        by_cases h3 : os.length = 3
        · rw [if_neg (by simp; omega), s_or, s_test, s_op, s_c, s_var]
          show dIn false .non (.loc mn) st8 _
          refine ⟨os.map encN, by simp only [s_items_loc, h78], rfl, flat_encN os, ?_⟩
          rw [inD_non]
          try dsimp only
          by_cases hno : none ∈ os
          · rw [if_pos (by simpa using hno), if_pos rfl, s_ret, s_c]
            refine no st8 hp8 ?_
            rw [verN_none (.inr hno)]
            simp
          · rw [if_neg (by simpa using hno), s_test, s_op, s_var]
            show dCB _ _ _ _ _ _
            rw [s_cb, s_cons, s_var]
            show dNil _ _ _ _
            rw [s_nil, s_sortTx]
            refine ⟨fs, by simp only [s_items_loc, h8], by omega, fun M hnd hmm => ?_⟩
            have h9 : (st8 ++ [Ob.lst ((TxS.asc M).map D.str)])[st8.length]? = some (.lst ((TxS.asc M).map .str)) := getElem?_push
            have h89 : (st8 ++ [Ob.lst ((TxS.asc M).map D.str)])[mf]? = some (.lst (fs.map .str)) := gb h8
            have h789 : (st8 ++ [Ob.lst ((TxS.asc M).map D.str)])[mn]? = some (.lst (os.map encN)) := gb h78
            have hm9 : (st8 ++ [Ob.lst ((TxS.asc M).map D.str)])[st.length]? = some (.lst ((n :: w :: fs).map .str)) := gb hm8
            have hp9 : Pre st (st8 ++ [Ob.lst ((TxS.asc M).map D.str)]) := hp8.app _
            generalize st8 ++ [Ob.lst ((TxS.asc M).map D.str)] = st9 at h9 h89 h789 hm9 hp9 ⊢
            refine eq_lists h89 h9 (pus_strs hfs) (pus_strs fun s hs' => hfs s ((hmm s).mp ((asc_perm M).mem_iff.mp hs'))) (by rw [dps_strs]; omega) (by rw [dps_strs]; omega) (r := namesF "" fs) ?_ ?_
            · rw [lotN_iff hfs hnd hmm]
              exact ⟨fun h => by rw [← h], fun h => (List.map_inj_right (fun x y e => by injection e)).mp h⟩
            · try dsimp only
              cases hnf : namesF "" fs with
              | false =>
                rw [if_pos (by simp), s_ret, s_c]
                refine no st9 hp9 ?_
                rw [hnf]
                simp
              | true =>
                rw [if_neg (by simp), s_next]
                try dsimp only
                obtain ⟨x, y, z, hxyz⟩ := verN_some h3 hno
                have hvs : verN os = some (mkV x y z) := by rw [hxyz]; rfl
                have hback := verN_back hos hvs
                rw [hvs, hnf, if_pos (by simp)] at q
                rw [s_ret, s_dtup, s_cons, s_op, s_var]
                show dC _ _ _ _ _
                rw [s_c, s_ix_loc]
                refine ⟨_, .str n, hm9, atI_0, ?_⟩
                rw [s_cons, s_cb, s_cons, s_var]
                show dNil _ _ _ _
                rw [s_nil, s_tupOf]
                simp only [s_items_loc, h789]
                rw [s_cons, s_cb, s_cons, s_var]
                show dNil _ _ _ _
                rw [s_nil, s_tupOf]
                simp only [s_items_loc, h89]
                rw [s_nil, hback]
                refine ⟨szk _ (by simp), ?_⟩
                exact back_tup hp9 (blw_encOT _ (some (n, mkV x y z, fs))) q
        · rw [if_pos (by simp; omega), if_pos rfl, s_ret, s_c]
          refine no st8 hp8 ?_
          rw [verN_none (.inl h3)]
          simp
end CM
namespace CM
open PySem L2 PySem.Spec DL
open PyProof.Rows hiding St
open TL (tl pre spl par numL joinL)
def dueF (t : Str) : List Trp → Str → Nat → List Str → Sum Nat (List Trp)
  | _, _, n, [] => .inl n
  | acc, b, n, w :: W => match trpL (tl w) with
    | some z => if okNext acc z = true then dueF t (acc ++ [z]) (b ++ lineS w) (n + 1) W else .inl n
    | none => if w = chkT (tl b) then (if t = b ++ lineS w then .inr acc else .inl (n + 1)) else .inl n
theorem strs_take (W : List Str) (n : Nat) (w : Str) (h : W[n]? = some w) : linesT (W.take (n + 1)) = linesT (W.take n) ++ lineS w := by
  have hl := (List.getElem?_eq_some_iff.mp h)
  rw [List.take_succ, h, linesT_app]
  show linesT (W.take n) ++ linesT [w] = _
  rw [linesT_one]
theorem app_inj {a b c : Str} (h : a ++ b = a ++ c) : b = c := by
  have := str_eq.mp h
  rw [TL.tl_append, TL.tl_append] at this
  exact str_eq.mpr (List.append_cancel_left this)
theorem app_assoc (a b c : Str) : a ++ b ++ c = a ++ (b ++ c) := TL.ext_tl (by simp [TL.tl_append])
theorem app_emp (a : Str) : a ++ ("" : Str) = a := TL.ext_tl (by rw [TL.tl_append]; simp [show tl ("" : Str) = [] from rfl])
/-- the same as the reader's -/
theorem due_read {t rest : Str} {W0 : List Str} (ht : t = linesT W0 ++ rest) : ∀ (W : List Str) (acc : List Trp), W0 = W0.take acc.length ++ W → acc.length ≤ W0.length → foundK [] W0 = foundK acc W →
    dueF t acc (linesT (W0.take acc.length)) (acc.length + 1) W = readK W0 rest
  | [], acc, hW, hl, hf => by
    have hlen : W0.length = acc.length := by
      have := congrArg List.length hW
      simp at this
      omega
    have h1 : foundK acc ([] : List Str) = acc := rfl
    unfold dueF readK
    rw [hf, h1, List.getElem?_eq_none (by omega)]
    simp
  | w :: W, acc, hW, hl, hf => by
    have hlt : acc.length < W0.length := by
      have := congrArg List.length hW
      simp at this
      omega
    have hget : W0[acc.length]? = some w := by
      rw [hW, List.getElem?_append_right (by simp; omega)]
      simp [Nat.min_eq_left (Nat.le_of_lt hlt)]
    have e0 : foundK acc (w :: W) = match trpL (tl w) with
      | none => acc
      | some t => if okNext acc t = true then foundK (acc ++ [t]) W else acc := rfl
    have e1 : dueF t acc (linesT (W0.take acc.length)) (acc.length + 1) (w :: W) = match trpL (tl w) with
      | some z => if okNext acc z = true then dueF t (acc ++ [z]) (linesT (W0.take acc.length) ++ lineS w) (acc.length + 1 + 1) W else .inl (acc.length + 1)
      | none => if w = chkT (tl (linesT (W0.take acc.length))) then (if t = linesT (W0.take acc.length) ++ lineS w then .inr acc else .inl (acc.length + 1 + 1)) else .inl (acc.length + 1) := rfl
    rw [e0] at hf
    rw [e1]
    cases hz : trpL (tl w) with
    | some z =>
      rw [hz] at hf
      dsimp only at hf ⊢
      by_cases hok : okNext acc z = true
      · rw [if_pos hok] at hf
        rw [if_pos hok, ← strs_take W0 acc.length w hget]
        have ih := due_read ht W (acc ++ [z]) (by
          rw [List.length_append, List.length_singleton, List.take_succ, hget]
          conv => lhs; rw [hW]
          simp) (by simp; omega) hf
        simp only [List.length_append, List.length_singleton] at ih
        exact ih
      · rw [if_neg hok] at hf
        rw [if_neg hok]
        unfold readK
        rw [hf, hget, if_neg]
        intro e
        have := trpL_chk (tl (linesT (W0.take acc.length)))
        rw [← Option.some.inj e, hz] at this
        cases this
    | none =>
      rw [hz] at hf
      dsimp only at hf ⊢
      unfold readK
      rw [hf, hget]
      by_cases hc : w = chkT (tl (linesT (W0.take acc.length)))
      · rw [if_pos hc, if_pos (show some w = some (chkT (tl (linesT (W0.take acc.length)))) from congrArg some hc), ← strs_take W0 acc.length w hget]
        have hsplit : linesT W0 = linesT (W0.take (acc.length + 1)) ++ linesT (W0.drop (acc.length + 1)) := by
          rw [← linesT_app, List.take_append_drop]
        by_cases hend : acc.length + 1 < W0.length ∨ rest ≠ ""
        · rw [if_pos hend, if_neg]
          intro e
          rw [ht, hsplit, app_assoc] at e
          have e2 : linesT (W0.drop (acc.length + 1)) ++ rest = "" := app_inj (e.trans (app_emp _).symm)
          have e3 := congrArg Str.length e2
          rw [app_len, show ("" : Str).length = 0 from rfl] at e3
          rcases hend with h | h
          · cases hd : W0.drop (acc.length + 1) with
            | nil =>
              have := congrArg List.length hd
              simp at this
              omega
            | cons x r =>
              rw [hd, linesT_lenS] at e3
              unfold lenS at e3
              simp at e3
          · refine h (len0.mpr ?_)
            have : rest.length = 0 := by omega
            rw [TL.len_tl] at this
            exact List.length_eq_zero_iff.mp this
        · rw [if_neg hend, if_pos]
          have h1 : ¬ (acc.length + 1 < W0.length) := fun z => hend (.inl z)
          have h2 : rest = "" := Decidable.not_not.mp fun z => hend (.inr z)
          rw [ht, hsplit, List.drop_eq_nil_of_le (by omega), h2, app_emp]
          show linesT _ ++ linesT [] = _
          exact app_emp _
      · rw [if_neg hc, if_neg (fun e => hc (Option.some.inj e))]
end CM
namespace CM
open PySem L2 PySem.Spec DL
open PyProof.Rows hiding St
open TL (tl pre spl par numL joinL)
theorem GrK.of {h c : Nat} {st st' : Sto} (H : HdK st h c) (H' : HdK st' h c) (s : Sm h st st') : GrK h c st st' := (GrK.refl H).sm s H'
theorem runC_grG {α : Type} {enc : α → D} {P : α → Prop} {h c i : Nat} {ρ : Env'} {te : DTE} {Q : DK} {G : Sto → Prop} {F : Sto → Prop} (hF : ∀ st st', F st → GrK h c st st' → F st') (hG : ∀ st, F st → G st)
    (d : ∀ (st : Sto) (Q : DK) (y : D), HdK st h c → F st → (∀ a st', P a → GrK h c st st' → Q (enc a) st') → te (ρ.set i (some y)) st Q Z0) :
    ∀ (k j : Nat) (acc : List α) (st : Sto), HdK st h c → F st → acc.length + k < 1000 → (∀ a ∈ acc, P a) →
    (∀ st' (as : List α), GrK h c st st' → F st' → as.length = acc.length + k → (∀ a ∈ as, P a) → Q (.loc st'.length) (st' ++ [.lst (as.map enc)])) →
    runC (gN i) dYes te ρ Q G (upFrom j k) (acc.map enc) st
  | 0, j, acc, st, H, hf, hl, ha, q => ⟨hG st hf, q st acc (GrK.refl H) hf rfl ha⟩
  | k + 1, j, acc, st, H, hf, hl, ha, q => by
    rw [show upFrom j (k + 1) = .int (j : Nat) :: upFrom (j + 1) k from rfl, runC_cons]
    refine ⟨hG st hf, ?_⟩
    rw [s_gN, s_yes, if_pos rfl]
    refine d st _ _ H hf fun a st' hp g' => ⟨by rw [List.length_map]; exact sizeLine_big (by omega), ?_⟩
    have ih := runC_grG (Q := Q) hF hG d k (j + 1) (acc ++ [a]) st' g'.hd (hF _ _ hf g') (by simp; omega) (fun u hu => by
      rcases List.mem_append.mp hu with hu | hu
      · exact ha u hu
      · rw [List.mem_singleton.mp hu]; exact hp) fun st2 vs g2 h2 hvs hs => q st2 vs (g'.trans g2) h2 (by rw [hvs]; simp; omega) hs
    rw [List.map_append] at ih
    exact ih
/-- one of a written list -/
theorem any_ev {h c : Nat} {ρ : Env'} {st : Sto} {Q : DK} {Z : DZ} {t : DTA} {es : List D} (h0 : ρ[0]? = some (some (.loc h))) (H : HdK st h c) (ht : ∀ (QA : List D → Sto → Prop) Z, QA es st → t ρ st QA Z) (hne : es ≠ []) (hl : es.length < 1000)
    (q : ∀ e st', e ∈ es → GrK h c st st' → Q e st') : dCall 2 sp_anyK (dCons (dVar 0) (dCons (dLst t) dNil)) ρ st Q Z := by
  have hlt := H.hlt
  rw [s_call, s_cons]
  refine var_ev h0 ?_
  rw [s_cons, s_dlst]
  refine ht _ _ ⟨szk _ hl, ?_⟩
  rw [s_nil, e_anyL]
  refine ⟨rfl, c, es, H.app _, getElem?_push, by omega, List.length_pos_iff.mpr hne, by omega, fun e st' he H' s => q e st' he ?_⟩
  exact ((GrK.refl H).app _).sm s H'
def joinS (cs : List Nat) : Str := Txt.join "" (cs.map fun c => (⟨#[c]⟩ : Str))
theorem tl_joinS : ∀ cs : List Nat, tl (joinS cs) = cs
  | [] => rfl
  | c :: cs => by
    have ih := tl_joinS cs
    unfold joinS at ih ⊢
    rw [TL.join_eq, TL.tl_join] at ih ⊢
    rw [List.map_cons, List.map_cons]
    cases hh : (cs.map fun c => (⟨#[c]⟩ : Str)).map tl with
    | nil =>
      rw [hh] at ih
      have : cs = [] := ih.symm
      rw [this]
      rfl
    | cons p ps =>
      rw [joinL_cons (by simp), ← hh, ih]
      rfl
def sp_lnameK : DSp := fun ds st Q _ => match ds with
  | [.loc h] => ∃ c, HdK st h c ∧ ∀ s st', nameS s = true → HdK st' h c → Sm h st st' → Q (.str s) st'
  | _ => False
theorem lit_names : ∀ e ∈ ([.str "check", .str "edition", .str "done", .str "a", .str "zz", .str "checkcheckab"] : List D), ∃ s, e = .str s ∧ nameS s = true := by
  intro e he
  simp only [List.mem_cons, List.not_mem_nil, or_false] at he
  rcases he with rfl | rfl | rfl | rfl | rfl | rfl <;> exact ⟨_, rfl, by rw [nameS_eq]; decide⟩
theorem letters_at {r : Int} (h0 : 0 ≤ r) (h1 : r < 26) : ∃ c, atI ("abcdefghijklmnopqrstuvwxyz" : Str).cps.toList r = some c ∧ 97 ≤ c ∧ c ≤ 122 := by
  obtain ⟨n, rfl⟩ : ∃ n : Nat, r = n := ⟨r.toNat, by omega⟩
  have hl : n < ("abcdefghijklmnopqrstuvwxyz" : Str).cps.toList.length := by
    have : ("abcdefghijklmnopqrstuvwxyz" : Str).cps.toList.length = 26 := by decide
    omega
  refine ⟨_, atI_nat (List.getElem?_eq_getElem hl), ?_⟩
  have := low_mem (("abcdefghijklmnopqrstuvwxyz" : Str).cps.toList[n])
  rw [decide_eq_true (List.getElem_mem hl)] at this
  simpa using this.symm
theorem r__law_name : Rd 1 sp_lnameK (RD.t__law_name sp_drawK sp_anyK) RD.N__law_name := by
  intro ds st Q Z hl h
  match ds, hl, h with
  | [.loc h], _, ⟨c, H, q⟩ =>
    unfold RD.t__law_name
    have fin : ∀ s st', nameS s = true → GrK h c st st' → DL.Back st Q (.str s) st' := fun s st' hs g => back_handK g rfl fun st1 H1 s1 => q s st1 hs H1 s1
    rw [s_seq, s_asg, s_c, s_gN]
    dsimp only
    show dSeq _ _ _ [some (.loc h), some (.str "abcdefghijklmnopqrstuvwxyz"), none] st
    rw [s_seq, s_ifS, s_test, s_op, s_call, s_cons, s_var]
    show dCons _ _ _ _ _ _
    rw [s_cons, s_c, s_nil, e_drawK]
    refine ⟨rfl, c, H, by decide, by decide, fun r st1 r0 r9 H1 s1 => ?_⟩
    have g1 := GrK.of H H1 s1
    dsimp only
    rw [s_c]
    show dEqB id (.int r) (.int 0) _ _
    rw [s_eq_int]
    dsimp only [id]
    by_cases hr : r = 0
    · rw [if_pos (by simpa using hr), s_ret]
      refine any_ev (es := [.str "check", .str "edition", .str "done", .str "a", .str "zz", .str "checkcheckab"]) rfl H1 (fun QA Z qa => ?_) (by simp) (by simp) fun e st2 he g2 => ?_
      · rw [s_cons, s_c, s_cons, s_c, s_cons, s_c, s_cons, s_c, s_cons, s_c, s_cons, s_c, s_nil]
        exact qa
      · obtain ⟨s, rfl, hs⟩ := lit_names e he
        exact fin s st2 hs (g1.trans g2)
    · rw [if_neg (by simpa using hr), s_next]
      dsimp only
      rw [s_ret, s_bm, s_c]
      refine ⟨rfl, ?_⟩
      rw [s_cons, s_lc, s_iR1, s_cons, s_op, s_c]
      refine any_ev (es := [.int 0, .int 0, .int 1, .int 2, .int 4, .int 11]) rfl H1 (fun QA Z qa => ?_) (by simp) (by simp) fun e st2 he g2 => ?_
      · rw [s_cons, s_c, s_cons, s_c, s_cons, s_c, s_cons, s_c, s_cons, s_c, s_cons, s_c, s_nil]
        exact qa
      obtain ⟨k, rfl, hk⟩ : ∃ k : Nat, e = .int k ∧ k ≤ 11 := by
        simp only [List.mem_cons, List.not_mem_nil, or_false] at he
        rcases he with rfl | rfl | rfl | rfl | rfl | rfl
        · exact ⟨0, rfl, by decide⟩
        · exact ⟨0, rfl, by decide⟩
        · exact ⟨1, rfl, by decide⟩
        · exact ⟨2, rfl, by decide⟩
        · exact ⟨4, rfl, by decide⟩
        · exact ⟨11, rfl, by decide⟩
      rw [s_add_int, s_nil]
      refine ⟨by omega, by omega, ?_⟩
      rw [show (1 + (k : Int)).toNat = 1 + k from by omega, rngItems_up]
      refine runC_grG (α := Nat) (enc := sg) (P := fun x => 97 ≤ x ∧ x ≤ 122) (F := fun _ => True) (fun _ _ _ _ => trivial) (fun _ _ => trivial) (fun st' QT y H' _ qt => ?_) (1 + k) 0 [] st2 g2.hd trivial (by simp; omega) (by simp) fun st3 cs g3 _ hcl hcs => ?_
      · unfold RD.e__law_name_1
        rw [s_op]
        refine var_ev (d := .str "abcdefghijklmnopqrstuvwxyz") rfl ?_
        rw [s_call, s_cons]
        refine var_ev (d := .loc h) rfl ?_
        rw [s_cons, s_c, s_nil, e_drawK]
        refine ⟨rfl, c, H', by decide, by decide, fun r st4 r0 r26 H4 s4 => ?_⟩
        obtain ⟨x, hx, hx2⟩ := letters_at r0 r26
        try dsimp only
        rw [s_ix_str]
        exact ⟨x, by decide, hx, qt x st4 hx2 (GrK.of H' H4 s4)⟩
      · rw [s_nil, s_join]
        refine ⟨cs.map fun c => (⟨#[c]⟩ : Str), by simp [sg, Function.comp_def], ?_, ?_⟩
        · have := sum_le (fun s : Str => s.length) 1 (cs.map fun c => (⟨#[c]⟩ : Str)) fun s hs => by
            obtain ⟨x, _, rfl⟩ := List.mem_map.mp hs
            exact Nat.le_refl 1
          rw [show ("" : Str).length = 0 from rfl]
          have e : ((cs.map fun c => (⟨#[c]⟩ : Str)).map fun x : Str => x.length).sum = ((cs.map fun c => (⟨#[c]⟩ : Str)).map (·.length)).sum := rfl
          simp only [List.length_map, List.length_nil] at this hcl
          omega
        · refine fin (joinS cs) _ ?_ (((g1.trans g2).trans g3).app _)
          rw [nameS_eq, tl_joinS]
          unfold nameL
          simp only [List.length_nil] at hcl
          rw [decide_eq_true (show cs.length ≤ 12 by omega), decide_eq_true (show cs ≠ [] from fun z => by rw [z] at hcl; simp at hcl; omega)]
          simp only [Bool.true_and, List.all_eq_true, decide_eq_true_eq]
          exact hcs
end CM
namespace CM
open PySem L2 PySem.Spec DL
open PyProof.Rows hiding St
open TL (tl pre spl par numL joinL)
/-- so many features -/
def TrpF (k : Nat) (t : Trp) : Prop := TrpV t ∧ t.2.2.length ≤ k
def InstF (k : Nat) (l : List Trp) : Prop := l.length ≤ 61 ∧ (∀ t ∈ l, TrpF k t) ∧ up (l.map nmT)
theorem asc_names {M : List Str} (hn : M.Nodup) (h : ∀ s ∈ M, nameS s = true) : namesF "" (TxS.asc M) = true := by
  rw [namesF_up fun s hs => h s ((asc_perm M).mem_iff.mp hs)]
  exact asc_up hn
theorem nodup_le : ∀ {M l : List Str}, M.Nodup → (∀ y, y ∈ M → y ∈ l) → M.length ≤ l.length
  | [], l, _, _ => Nat.zero_le _
  | a :: M, l, hn, h => by
    obtain ⟨l1, l2, rfl⟩ := List.append_of_mem (h a List.mem_cons_self)
    obtain ⟨ha, hn⟩ := List.nodup_cons.mp hn
    have := nodup_le (M := M) (l := l1 ++ l2) hn fun y hy => by
      have := h y (List.mem_cons_of_mem _ hy)
      simp only [List.mem_append, List.mem_cons] at this ⊢
      rcases this with h1 | rfl | h1
      · exact .inl h1
      · exact absurd hy ha
      · exact .inr h1
    simp only [List.length_append, List.length_cons] at this ⊢
    omega
theorem sg_ints {r : Int} (h0 : 0 ≤ r) (h1 : r < 1000001) : ∀ e ∈ ([.int 0, .int 1, .int 9, .int 10, .int 1000000, .int r] : List D), ∃ n : Nat, e = .int (n : Int) ∧ n ≤ 1000000 := by
  intro e he
  simp only [List.mem_cons, List.not_mem_nil, or_false] at he
  rcases he with rfl | rfl | rfl | rfl | rfl | rfl
  · exact ⟨0, rfl, by decide⟩
  · exact ⟨1, rfl, by decide⟩
  · exact ⟨9, rfl, by decide⟩
  · exact ⟨10, rfl, by decide⟩
  · exact ⟨1000000, rfl, by decide⟩
  · exact ⟨r.toNat, by rw [Int.toNat_of_nonneg h0], by omega⟩
theorem counts8 : ∀ e ∈ ([.int 0, .int 0, .int 0, .int 0, .int 1, .int 2, .int 3, .int 9] : List D), ∃ n : Nat, e = .int (n : Int) ∧ n ≤ 9 := by
  intro e he
  simp only [List.mem_cons, List.not_mem_nil, or_false] at he
  rcases he with rfl | rfl | rfl | rfl | rfl | rfl | rfl | rfl
  · exact ⟨0, rfl, by decide⟩
  · exact ⟨0, rfl, by decide⟩
  · exact ⟨0, rfl, by decide⟩
  · exact ⟨0, rfl, by decide⟩
  · exact ⟨1, rfl, by decide⟩
  · exact ⟨2, rfl, by decide⟩
  · exact ⟨3, rfl, by decide⟩
  · exact ⟨9, rfl, by decide⟩
theorem counts12 : ∀ e ∈ ([.int 0, .int 1, .int 1, .int 2, .int 2, .int 3, .int 3, .int 4, .int 4, .int 5, .int 6, .int 60] : List D), ∃ n : Nat, e = .int (n : Int) ∧ n ≤ 60 := by
  intro e he
  simp only [List.mem_cons, List.not_mem_nil, or_false] at he
  rcases he with rfl | rfl | rfl | rfl | rfl | rfl | rfl | rfl | rfl | rfl | rfl | rfl
  · exact ⟨0, rfl, by decide⟩
  · exact ⟨1, rfl, by decide⟩
  · exact ⟨1, rfl, by decide⟩
  · exact ⟨2, rfl, by decide⟩
  · exact ⟨2, rfl, by decide⟩
  · exact ⟨3, rfl, by decide⟩
  · exact ⟨3, rfl, by decide⟩
  · exact ⟨4, rfl, by decide⟩
  · exact ⟨4, rfl, by decide⟩
  · exact ⟨5, rfl, by decide⟩
  · exact ⟨6, rfl, by decide⟩
  · exact ⟨60, rfl, by decide⟩
/-- names drawn, sorted, each once -/
theorem names_ev {h c k j : Nat} {ρ : Env'} {st : Sto} {Q : DK} {ρ' : Env'} {Zx : DZ} {te : DTE} (hj : j ≠ 0) (h0 : ρ[0]? = some (some (.loc h))) (hte : te = dCall 1 sp_lnameK (dCons (dVar 0) dNil)) (H : HdK st h c) (hk : k ≤ 900)
    (q : ∀ (N : List Str) st' n, GrK h c st st' → st.length ≤ n → st'[n]? = some (.lst (N.map .str)) → namesF "" N = true → N.length ≤ k → Q (.loc n) st') :
    runC (gN j) dYes te ρ (fun x st1 => dNil ρ' st1 (fun xs st2 => dSortTx (x :: xs) st2 Q) Zx) (fun _ => True) (upFrom 0 k) [] st := by
  refine runC_grG (α := Str) (enc := D.str) (P := fun s => nameS s = true) (F := fun _ => True) (fun _ _ _ _ => trivial) (fun _ _ => trivial) (fun st' QT y H' _ qt => ?_) k 0 [] st H trivial (by simp; omega) (by simp) fun st2 N g2 _ hl hN => ?_
  · rw [hte, s_call, s_cons]
    refine var_ev (d := .loc h) (by rw [List.getElem?_set_ne hj]; exact h0) ?_
    rw [s_nil]
    exact ⟨rfl, c, H', fun s st4 hs H4 s4 => qt s st4 hs (GrK.of H' H4 s4)⟩
  · rw [s_nil, s_sortTx]
    simp only [List.length_nil, Nat.zero_add] at hl
    refine ⟨N, by simp only [s_items_loc, getElem?_push], by omega, fun M hn hm => ?_⟩
    refine q (TxS.asc M) _ _ ((g2.app _).app _) (by have := g2.len; simp; omega) getElem?_push (asc_names hn fun s hs => hN s ((hm s).mp hs)) ?_
    rw [(asc_perm M).length_eq]
    have := nodup_le hn fun y hy => (hm y).mp hy
    omega
theorem loop_inst (E : DEnds) {h c f n : Nat} {st0 : Sto} {all : List D} (hf0 : st0.length ≤ f) (hfh : f ≠ h) (hnh : n ≠ h) (hnf : n ≠ f) : ∀ (names : List Str) (acc : List Trp) (st : Sto) (y2 y3 y4 y5 : Option D), GrK h c st0 st → st[f]? = some (.lst (acc.map encT)) → st[n]? = some (.lst all) →
    (∀ s ∈ names, nameS s = true) → (∀ t ∈ acc, TrpF 9 t) → acc.length + names.length ≤ 61 →
    (∀ st' (acc' : List Trp) y2 y3 y4 y5, GrK h c st0 st' → st'[f]? = some (.lst (acc'.map encT)) → acc'.map nmT = acc.map nmT ++ names → (∀ t ∈ acc', TrpF 9 t) → E.nx [some (.loc h), some (.loc f), y2, y3, y4, y5] st') →
    runG (gN 2) (RD.b__law_installation_4 sp_drawK sp_anyK sp_lnameK) E (fun st' => st'[n]? = some (.lst all)) (names.map .str) [some (.loc h), some (.loc f), y2, y3, y4, y5] st
  | [], acc, st, y2, y3, y4, y5, g, hf, hn, _, ha, _, hk => by
    rw [List.map_nil, runG_nil]
    exact ⟨hn, hk st acc y2 y3 y4 y5 g hf (by simp) ha⟩
  | w :: names, acc, st, y2, y3, y4, y5, g, hf, hn, hw, ha, hl, hk => by
    rw [List.map_cons, runG_cons]
    refine ⟨hn, ?_⟩
    have ih := fun acc st y2 y3 y4 y5 => loop_inst E (c := c) (st0 := st0) (all := all) hf0 hfh hnh hnf names acc st y2 y3 y4 y5
    generalize hR : runG (gN 2) (RD.b__law_installation_4 sp_drawK sp_anyK sp_lnameK) E (fun st' => st'[n]? = some (.lst all)) (names.map .str) = R at ih ⊢
    rw [s_gN]
    unfold RD.b__law_installation_4
    show dSeq _ _ _ [some (.loc h), some (.loc f), some (.str w), y3, y4, y5] st
    rw [s_seq, s_asg, s_lc, s_iR1, s_cons, s_c, s_nil]
    refine ⟨by decide, by decide, ?_⟩
    rw [rngItems_up]
    refine runC_grG (α := Nat) (enc := fun x => .int (x : Int)) (P := fun x => x ≤ 1000000) (F := fun _ => True) (fun _ _ _ _ => trivial) (fun _ _ => trivial) (fun st' QT y H' _ qt => ?_) 3 0 [] st g.hd trivial (by simp) (by simp) fun st2 ns g2 _ hnl hns => ?_
    · unfold RD.e__law_installation_2
      have hlt := H'.hlt
      rw [s_call, s_cons]
      refine var_ev (d := .loc h) rfl ?_
      rw [s_cons, s_dlst, s_cons, s_c, s_cons, s_c, s_cons, s_c, s_cons, s_c, s_cons, s_c, s_cons, s_call, s_cons]
      refine var_ev (d := .loc h) rfl ?_
      rw [s_cons, s_c, s_nil, e_drawK]
      refine ⟨rfl, c, H', by decide, by decide, fun r st3 r0 r1 H3 s3 => ?_⟩
      have hlt3 := H3.hlt
      rw [s_nil]
      refine ⟨szk _ (by simp), ?_⟩
      rw [s_nil, e_anyL]
      refine ⟨rfl, c, _, H3.app _, getElem?_push, by omega, by simp, by simp, fun e st4 he H4 s4 => ?_⟩
      obtain ⟨x, rfl, hx⟩ := sg_ints r0 r1 e he
      exact qt x st4 hx ((((GrK.refl H').sm s3 H3).app _).sm s4 H4)
    · simp only [List.length_nil, Nat.zero_add] at hnl
      obtain ⟨a, b, d, rfl⟩ : ∃ a b d, ns = [a, b, d] := by
        match ns, hnl with
        | [a, b, d], _ => exact ⟨a, b, d, rfl⟩
      have ha1 := hns a (by simp)
      have hb1 := hns b (by simp)
      have hd1 := hns d (by simp)
      have gs2 := g.trans g2
      have hm2 : (st2 ++ [Ob.lst ([a, b, d].map fun x : Nat => D.int (x : Int))])[st2.length]? = some (.lst ([a, b, d].map fun x : Nat => D.int (x : Int))) := getElem?_push
      have hml : st0.length ≤ st2.length := gs2.len
      have hfl : f < st2.length := by have := (List.getElem?_eq_some_iff.mp (g2.get hf hfh)).1; exact this
      have hnl2 : n < st2.length := by have := (List.getElem?_eq_some_iff.mp (g2.get hn hnh)).1; exact this
      have gs3 := gs2.app [Ob.lst ([a, b, d].map fun x : Nat => D.int (x : Int))]
      have hf3 : (st2 ++ [Ob.lst ([a, b, d].map fun x : Nat => D.int (x : Int))])[f]? = some (.lst (acc.map encT)) := gb (g2.get hf hfh)
      have hn3 : (st2 ++ [Ob.lst ([a, b, d].map fun x : Nat => D.int (x : Int))])[n]? = some (.lst all) := gb (g2.get hn hnh)
      have hhl : h < st2.length := g2.hd.hlt
      generalize st2.length = m at hm2 hml hfl hnl2 hhl ⊢
      generalize st2 ++ [Ob.lst ([a, b, d].map fun x : Nat => D.int (x : Int))] = st3 at hm2 gs3 hf3 hn3 ⊢
      rw [s_gN]
      dsimp only
      show dSeq _ _ _ [some (.loc h), some (.loc f), some (.str w), y3, some (.loc m), y5] st3
      rw [s_seq, s_asg, s_cb, s_cons, s_lc, s_iR1, s_cons]
      refine any_ev (es := [.int 0, .int 0, .int 0, .int 0, .int 1, .int 2, .int 3, .int 9]) rfl gs3.hd (fun QA Z qa => ?_) (by simp) (by simp) fun e st4 he g4 => ?_
      · rw [s_cons, s_c, s_cons, s_c, s_cons, s_c, s_cons, s_c, s_cons, s_c, s_cons, s_c, s_cons, s_c, s_cons, s_c, s_nil]
        exact qa
      obtain ⟨k, rfl, hk9⟩ := counts8 e he
      rw [s_nil]
      refine ⟨by omega, by omega, ?_⟩
      rw [Int.toNat_natCast, rngItems_up]
      refine names_ev (h := h) (c := c) (by decide) rfl rfl g4.hd (by omega) fun F st5 p g5 hpl hp hF hFl => ?_
      rw [s_gN]
      dsimp only
      show dDrop _ _ [some (.loc h), some (.loc f), some (.str w), y3, some (.loc m), some (.loc p)] st5
      have g6 := (gs3.trans g4).trans g5
      have hf6 : st5[f]? = some (.lst (acc.map encT)) := g5.get (g4.get hf3 hfh) hfh
      have hm6 : st5[m]? = some (.lst ([a, b, d].map fun x : Nat => D.int (x : Int))) := g5.get (g4.get hm2 (by omega)) (by omega)
      have hn6 : st5[n]? = some (.lst all) := g5.get (g4.get hn3 hnh) hnh
      rw [s_drop, s_bm, s_var]
      show tyD _ "list" (.loc f) ∧ _
      refine ⟨by rw [s_tyD_loc, hf6], ?_⟩
      rw [s_cons, s_dtup, s_cons, s_var]
      show dCons _ _ _ _ _ _
      rw [s_cons, s_cb, s_cons, s_var]
      show dNil _ _ _ _
      rw [s_nil, s_tupOf]
      simp only [s_items_loc, hm6]
      rw [s_cons, s_cb, s_cons, s_var]
      show dNil _ _ _ _
      rw [s_nil, s_tupOf]
      simp only [s_items_loc, hp]
      rw [s_nil]
      refine ⟨szk _ (by simp), ?_⟩
      simp only [List.length_cons] at hl
      rw [s_nil, s_append]
      refine ⟨_, hf6, by rw [List.length_map]; exact sizeLine_big (by omega), ?_⟩
      have ev : D.tup ([a, b, d].map fun x : Nat => D.int (x : Int)) = encV (mkV a b d) := (enc3 (by omega) (by omega)).symm
      have et : D.tup [.str w, .tup ([a, b, d].map fun x : Nat => D.int (x : Int)), .tup (F.map .str)] = encT (w, mkV a b d, F) := by
        rw [ev]
        rfl
      have hT : TrpF 9 (w, mkV a b d, F) := ⟨⟨hw w List.mem_cons_self, by unfold okV; rw [vA_mk (by omega) (by omega)]; exact ha1, hF⟩, by show F.length ≤ 9; omega⟩
      rw [et]
      have em : acc.map encT ++ [encT (w, mkV a b d, F)] = (acc ++ [(w, mkV a b d, F)]).map encT := by simp
      rw [em]
      have hflt := (List.getElem?_eq_some_iff.mp hf6).1
      refine ih (acc ++ [(w, mkV a b d, F)]) _ _ _ _ _ (g6.set hf0) (by rw [List.getElem?_set_self hflt]) (by rw [List.getElem?_set_ne (Ne.symm hnf)]; exact hn6) (fun s hs => hw s (List.mem_cons_of_mem _ hs)) (fun t ht => by
        rcases List.mem_append.mp ht with ht | ht
        · exact ha t ht
        · rw [List.mem_singleton.mp ht]; exact hT) (by simp; omega) fun st' acc' y2 y3 y4 y5 g' hf' hn' ha' => hk st' acc' y2 y3 y4 y5 g' hf' (by rw [hn', List.map_append, List.append_assoc]; rfl) ha'
end CM
namespace CM
open PySem L2 PySem.Spec DL
open PyProof.Rows hiding St
open TL (tl pre spl par numL joinL)
def sp_linst : DSp := fun ds st Q _ => match ds with
  | [.loc h] => ∃ c, HdK st h c ∧ ∀ l st', InstF 9 l → HdK st' h c → Sm h st st' → Q (encI l) st'
  | _ => False
theorem up_of {l : List Str} (h : namesF "" l = true) : up l := (namesF_up (namesF_names h)).mp h
theorem r__law_installation : Rd 1 sp_linst (RD.t__law_installation sp_drawK sp_anyK sp_lnameK) RD.N__law_installation := by
  intro ds st Q Z hl h
  match ds, hl, h with
  | [.loc h], _, ⟨c, H, q⟩ =>
    unfold RD.t__law_installation
    have hlt := H.hlt
    rw [s_seq, s_asg, s_dlst, s_nil]
    refine ⟨szk _ (by simp), ?_⟩
    rw [s_gN]
    dsimp only
    show dSeq _ _ _ [some (.loc h), some (.loc st.length), none, none, none, none] (st ++ [Ob.lst (([] : List Trp).map encT)])
    have g1 : GrK h c st (st ++ [Ob.lst (([] : List Trp).map encT)]) := (GrK.refl H).app _
    have hf : (st ++ [Ob.lst (([] : List Trp).map encT)])[st.length]? = some (.lst (([] : List Trp).map encT)) := getElem?_push
    have hl1 : (st ++ [Ob.lst (([] : List Trp).map encT)]).length = st.length + 1 := by simp
    generalize st ++ [Ob.lst (([] : List Trp).map encT)] = st1 at g1 hf hl1 ⊢
    rw [s_seq, s_for, s_iD, s_cb, s_cons, s_lc, s_iR1, s_cons]
    refine any_ev (es := [.int 0, .int 1, .int 1, .int 2, .int 2, .int 3, .int 3, .int 4, .int 4, .int 5, .int 6, .int 60]) rfl g1.hd (fun QA Z qa => ?_) (by simp) (by simp) fun e st4 he g4 => ?_
    · rw [s_cons, s_c, s_cons, s_c, s_cons, s_c, s_cons, s_c, s_cons, s_c, s_cons, s_c, s_cons, s_c, s_cons, s_c, s_cons, s_c, s_cons, s_c, s_cons, s_c, s_cons, s_c, s_nil]
      exact qa
    obtain ⟨k, rfl, hk9⟩ := counts12 e he
    rw [s_nil]
    refine ⟨by omega, by omega, ?_⟩
    rw [Int.toNat_natCast, rngItems_up]
    refine names_ev (h := h) (c := c) (by decide) rfl rfl g4.hd (by omega) fun F st5 p g5 hpl hp hF hFl => ?_
    show walkD _ (.loc p) _
    rw [s_walk_loc]
    have hg4 := g4.len
    refine ⟨_, hp, loop_inst _ (f := st.length) (Nat.le_refl _) (by omega) (by omega) (by omega) F [] st5 none none none none ((g1.trans g4).trans g5) (g5.get (g4.get hf (by omega)) (by omega)) hp (namesF_names hF) (by simp) (by simp; omega) fun st' acc' y2 y3 y4 y5 g' hf' hn' ha' => ?_⟩
    dsimp only
    rw [s_ret, s_cb, s_cons, s_var]
    show dNil _ _ _ _
    rw [s_nil, s_tupOf]
    simp only [s_items_loc, hf']
    refine back_handK g' (blw_encI _ acc') fun st6 H6 s6 => q acc' st6 ⟨?_, ha', ?_⟩ H6 s6
    · have := congrArg List.length hn'
      simp at this
      omega
    · rw [hn']
      exact up_of hF
def tot : Nat → Nat → List Nat → Nat
  | _, b, [] => b
  | a, b, c :: r => tot (a + c) (b + (a + c)) r
theorem tot_snoc : ∀ (r : List Nat) (a b c : Nat), tot a b (r ++ [c]) = tot a b r + (a + r.sum + c)
  | [], a, b, c => by simp [tot]
  | d :: r, a, b, c => by
    rw [List.cons_append]
    unfold tot
    rw [tot_snoc r, List.sum_cons]
    omega
theorem wsum_gen : ∀ (l : List Nat) (k : Nat), wsum k l = wsum 0 l + k * l.sum
  | [], k => by simp [wsum]
  | c :: r, k => by
    unfold wsum
    rw [wsum_gen r (k + 1), wsum_gen r (0 + 1), List.sum_cons]
    simp only [Nat.mul_add, Nat.add_mul, Nat.one_mul, Nat.zero_add, Nat.mul_one, Nat.mul_comm c k]
    omega
theorem tot_wsum : ∀ l : List Nat, tot 0 0 l.reverse = wsum 0 l
  | [] => rfl
  | c :: r => by
    have e : wsum 0 (c :: r) = c * (0 + 1) + wsum (0 + 1) r := rfl
    rw [List.reverse_cons, tot_snoc, tot_wsum r, List.sum_reverse, e, wsum_gen r (0 + 1)]
    omega
theorem lp_chk (E : DEnds) {x0 : Option D} {st : Sto} : ∀ (r : List Nat) (a b : Nat) (y3 : Option D), (∀ a' y3, E.nx [x0, some (.int (a' : Nat)), some (.int (tot a b r : Nat)), y3] st) →
    runG (gN 3) RD.b__law_check_1 E (fun _ => True) (r.map sg) [x0, some (.int (a : Nat)), some (.int (b : Nat)), y3] st
  | [], a, b, y3, hk => by
    rw [List.map_nil, runG_nil]
    exact ⟨trivial, hk a y3⟩
  | c :: r, a, b, y3, hk => by
    rw [List.map_cons, runG_cons]
    refine ⟨trivial, ?_⟩
    have ih := lp_chk E (x0 := x0) (st := st) r (a + c) (b + (a + c)) (some (sg c)) hk
    generalize hR : runG (gN 3) RD.b__law_check_1 E (fun _ => True) (r.map sg) = R at ih ⊢
    rw [s_gN]
    unfold RD.b__law_check_1
    show dSeq _ _ _ [x0, some (.int (a : Nat)), some (.int (b : Nat)), some (.str ⟨#[c]⟩)] st
    rw [s_seq, s_asg, s_op, s_var]
    show dCB _ _ _ _ _ _
    rw [s_cb, s_cons, s_var]
    show dNil _ _ _ _
    rw [s_nil, s_ordS]
    refine ⟨rfl, ?_⟩
    rw [s_add_int, s_gN]
    dsimp only
    show dAsg _ _ _ [x0, some (.int ((a : Int) + (c : Int))), some (.int (b : Nat)), some (.str ⟨#[c]⟩)] st
    rw [s_asg, s_op, s_var]
    show dVar _ _ _ _ _
    rw [s_var]
    show dAdd _ _ _ _
    rw [s_add_int, s_gN]
    dsimp only
    have e1 : (a : Int) + (c : Int) = ((a + c : Nat) : Int) := by omega
    have e2 : (b : Int) + ((a : Int) + (c : Int)) = ((b + (a + c) : Nat) : Int) := by omega
    rw [e1] at e2 ⊢
    rw [e2]
    exact ih
def sp_lcheck : DSp := fun ds st Q _ => match ds with
  | [.str t] => t.length ≤ 1000000 ∧ Q (.int (chk (tl t) : Nat)) st
  | _ => False
theorem r__law_check : Rd 1 sp_lcheck RD.t__law_check RD.N__law_check := by
  intro ds st Q Z hl h
  match ds, hl, h with
  | [.str t], _, ⟨ht, q⟩ =>
    unfold RD.t__law_check
    rw [s_seq, s_asg, s_dtup, s_cons, s_c, s_cons, s_c, s_nil]
    refine ⟨szk _ (by simp), ?_⟩
    rw [s_gTup]
    refine ⟨rfl, ?_⟩
    rw [s_gCons, s_gN, s_gCons, s_gN, s_gNil]
    try dsimp only
    show dSeq _ _ _ [some (.str t), some (.int 0), some (.int 0), none] st
    rw [s_seq, s_for, s_iD, s_revS, s_var]
    dsimp only
    refine ⟨by have := sz1m ht; omega, ?_⟩
    rw [s_walk_str]
    have e : strItems (revS t) = (tl t).reverse.map sg := rfl
    rw [e]
    refine lp_chk _ _ 0 0 none fun a' y3 => ?_
    rw [tot_wsum]
    dsimp only
    rw [s_ret, s_op, s_cb, s_cons, s_var]
    show dNil _ _ _ _
    rw [s_nil, s_int, s_c, s_mod]
    refine ⟨by decide, ?_⟩
    have e2 : ((wsum 0 (tl t) : Nat) : Int) % 99991 = ((chk (tl t) : Nat) : Int) := by unfold chk; omega
    rw [e2]
    exact .inl q
end CM
namespace CM
open PySem L2 PySem.Spec DL
open PyProof.Rows hiding St
open TL (tl pre spl par numL joinL)
theorem addS_evK {ρ : Env'} {st : Sto} {Q : DK} {Z : DZ} {ta tb : DTE} {x y : Str} (ha : ∀ (QE : DK) Z, QE (.str x) st → ta ρ st QE Z) (hb : ∀ (QE : DK) Z, QE (.str y) st → tb ρ st QE Z) (hl : x.length + y.length ≤ sizeLine) (q : Q (.str (x ++ y)) st) : dOp dAdd ta tb ρ st Q Z := by
  rw [s_op]
  refine ha _ _ ?_
  refine hb _ _ ?_
  rw [s_add_str]
  exact ⟨hl, q⟩
theorem ge_strs {a b : Str} {st : Sto} {Q : DK} (q : Q (.bl (!ltS a b)) st) : dGe (.str a) (.str b) st Q := by
  exact ⟨1, .str a, .str b, rfl, rfl, rfl, (fun z => by cases z), (by simp [PyData.depth]), q⟩
theorem tl_cutlo (t : Str) (k : Nat) : tl (cutS t none (some (k : Int))) = (tl t).take k := by
  have hl := TL.len_tl t
  show ((tl t).drop (_root_.HT.sIx t.length 0 none)).take (_root_.HT.sIx t.length t.length (some (k : Int)) - _root_.HT.sIx t.length 0 none) = _
  have e1 : _root_.HT.sIx t.length 0 none = 0 := rfl
  have e2 : _root_.HT.sIx t.length t.length (some (k : Int)) = min k t.length := by
    show (if ((k : Int)) < 0 then ((k : Int) + (t.length : Int)).toNat else min (k : Int).toNat t.length) = _
    rw [if_neg (by omega)]
    rfl
  rw [e1, e2, List.drop_zero, Nat.sub_zero]
  by_cases h : k ≤ t.length
  · rw [Nat.min_eq_left h]
  · rw [Nat.min_eq_right (by omega), List.take_of_length_le (by omega), List.take_of_length_le (by omega)]
theorem lawNum_num {m n : Nat} (h : n ≤ m) (h12 : n < 10 ^ 12) : lawNum m (numL n) = some n := by
  unfold lawNum
  rw [if_pos, TL.numL_val, if_pos h]
  refine ⟨TL.numL_ne n, TL.numL_len (by decide) h12, TL.numL_digits n, ?_⟩
  exact (canon (TL.numL_ne n) (TL.numL_digits n)).mp (by rw [TL.numL_val])
theorem lawNum_back {m n : Nat} {l : List Nat} (h : lawNum m l = some n) : l = numL n := by
  unfold lawNum at h
  split at h
  · rename_i hc
    split at h
    · cases h
      exact ((canon hc.1 hc.2.2.1).mpr hc.2.2.2).symm
    · cases h
  · cases h
theorem chk_iff (w b : Str) : ((tl w).take 6 = tl ("check " : Str) ∧ lawNum 99990 ((tl w).drop 6) = some (chk (tl b))) ↔ w = chkT (tl b) := by
  have hlt := chk_lt (tl b)
  rw [str_eq, tl_chkT, tl_check]
  constructor
  · rintro ⟨h1, h2⟩
    have := List.take_append_drop 6 (tl w)
    rw [h1, lawNum_back h2] at this
    exact this.symm
  · intro h
    rw [h]
    refine ⟨rfl, ?_⟩
    show lawNum 99990 (numL (chk (tl b))) = _
    exact lawNum_num (by omega) (by omega)
def encRes : Sum Nat (List Trp) → D
  | .inl n => .tup [.str "refused", .int (n : Nat)]
  | .inr l => .tup [.str "told", encI l]
theorem blw_encRes (n : Nat) (r : Sum Nat (List Trp)) : D.blw n (encRes r) = true := by
  cases r with
  | inl m => rfl
  | inr l => simp [encRes, D.blw, D.blws, blw_encI]
def sp_ldueK : DSp := fun ds st Q _ => match ds with
  | [.str t] => t.length ≤ 100000 ∧ (tl t).count 32 ≤ 3900 ∧ Q (encRes (readK (Txt.split t "\n").dropLast (lastS (Txt.split t "\n")))) st
  | _ => False
theorem set2 {st : Sto} {L W W' : Ob} : (st ++ [L, W]).set (st.length + 1) W' = st ++ [L, W'] := by simp [List.set_append]
theorem at2 {st : Sto} {L W : Ob} : (st ++ [L, W])[st.length]? = some L ∧ (st ++ [L, W])[st.length + 1]? = some W := by
  refine ⟨by simp, ?_⟩
  rw [List.getElem?_append_right (by omega)]
  simp
theorem lp_dueK (E : DEnds) {t : Str} {st : Sto} {R : List Str} {res : Sum Nat (List Trp)} (ht : t.length ≤ 200000) (hrt : ∀ acc : List Trp, E.rt (encRes res) (st ++ [.lst (R.map .str), .lst (acc.map encT)]))
    (hend : ∀ (acc : List Trp) b y4 y5 y6, res = .inl R.length → E.nx [some (.str t), some (.loc st.length), some (.loc (st.length + 1)), some (.str b), y4, y5, y6] (st ++ [.lst (R.map .str), .lst (acc.map encT)])) :
    ∀ (W : List Str) (acc : List Trp) (b : Str) (n : Nat) (y4 y5 y6 : Option D), (∀ w ∈ W, w.length ≤ 100000 ∧ (tl w).count 32 ≤ 3900) → (∀ j, j < W.length → R[n - 1 + j]? = W[j]?) → 1 ≤ n → n + W.length = R.length → acc.length + W.length ≤ 150000 → b.length + lenS W ≤ 200001 → dueF t acc b n W = res →
    runG (gN 4) (RD.b__law_due_k42_1 sp_lcheck sp_lnumK sp_ltrp) E (fun _ => True) (upFrom n W.length) [some (.str t), some (.loc st.length), some (.loc (st.length + 1)), some (.str b), y4, y5, y6] (st ++ [.lst (R.map .str), .lst (acc.map encT)])
  | [], acc, b, n, y4, y5, y6, _, _, hn1, hn, _, _, he => by
    rw [show upFrom n ([] : List Str).length = [] from rfl, runG_nil]
    refine ⟨trivial, hend acc b y4 y5 y6 ?_⟩
    rw [← he]
    unfold dueF
    simp at hn
    rw [hn]
  | w :: W, acc, b, n, y4, y5, y6, hw, hR, hn1, hn, hacc, hbl, he => by
    rw [show upFrom n (w :: W).length = .int (n : Nat) :: upFrom (n + 1) W.length from rfl, runG_cons]
    refine ⟨trivial, ?_⟩
    have ih := fun acc b y4 y5 y6 => lp_dueK E (t := t) (st := st) (R := R) (res := res) ht hrt hend W acc b (n + 1) y4 y5 y6 (fun z hz => hw z (List.mem_cons_of_mem _ hz)) (fun j hj => by
      have := hR (j + 1) (by simp; omega)
      rw [List.getElem?_cons_succ] at this
      rw [← this]
      congr 1
      omega) (by omega) (by simp at hn; omega)
    generalize hRR : runG (gN 4) (RD.b__law_due_k42_1 sp_lcheck sp_lnumK sp_ltrp) E (fun _ => True) (upFrom (n + 1) W.length) = RR at ih ⊢
    have hw0 := hw w List.mem_cons_self
    have hls : lenS (w :: W) = (w.length + 1) + lenS W := by unfold lenS; simp
    rw [hls] at hbl
    simp only [List.length_cons] at hacc hn
    have hget : (R.map D.str)[n - 1]? = some (.str w) := by
      have := hR 0 (by simp)
      rw [List.getElem?_cons_zero, Nat.add_zero] at this
      rw [List.getElem?_map, this]
      rfl
    rw [s_gN]
    unfold RD.b__law_due_k42_1
    show dSeq _ _ _ [some (.str t), some (.loc st.length), some (.loc (st.length + 1)), some (.str b), some (.int (n : Nat)), y5, y6] _
    rw [s_seq, s_asg, s_op, s_var]
    show dOp _ _ _ _ _ _ _
    rw [s_op, s_var]
    show dC _ _ _ _ _
    rw [s_c]
    show dIx (.loc st.length) (.int ((n : Int) - 1)) _ _
    rw [s_ix_loc]
    refine ⟨_, .str w, at2.1, by rw [show (n : Int) - 1 = ((n - 1 : Nat) : Int) from by omega]; exact atI_nat hget, ?_⟩
    try rw [s_gN]
    try dsimp only
    show dSeq _ _ _ [some (.str t), some (.loc st.length), some (.loc (st.length + 1)), some (.str b), some (.int (n : Nat)), some (.str w), y6] _
    rw [s_seq, s_asg, s_call, s_cons, s_var]
    show dNil _ _ _ _
    rw [s_nil]
    refine ⟨rfl, by omega, hw0.2, ?_⟩
    try dsimp only
    rw [s_gN]
    try dsimp only
    show dIfS _ _ _ _ [some (.str t), some (.loc st.length), some (.loc (st.length + 1)), some (.str b), some (.int (n : Nat)), some (.str w), some (encOT (trpL (tl w)))] _
    have hd : dueF t acc b n (w :: W) = match trpL (tl w) with
      | some z => if okNext acc z = true then dueF t (acc ++ [z]) (b ++ lineS w) (n + 1) W else .inl n
      | none => if w = chkT (tl b) then (if t = b ++ lineS w then .inr acc else .inl (n + 1)) else .inl n := rfl
    rw [hd] at he
    have nl : ("\n" : Str).length = 1 := rfl
    have addb : ∀ {y : D} {QE : DK} {Z : DZ} {S : Sto}, QE (.str (b ++ lineS w)) S → dOp dAdd (dOp dAdd (dVar 3) (dVar 5)) (dC (.str "\n")) [some (.str t), some (.loc st.length), some (.loc (st.length + 1)), some (.str b), some (.int (n : Nat)), some (.str w), some y] S QE Z := fun {y QE Z S} qe => by
      refine addS_evK (x := b ++ w) (y := "\n") (fun QE Z qe => addS_evK (x := b) (y := w) (fun QE Z qe => var_ev rfl qe) (fun QE Z qe => var_ev rfl qe) (sz_big (by omega)) qe) (fun QE Z qe => qe) (by rw [app_len, nl]; exact sz_big (by omega)) ?_
      rw [app_assoc]
      exact qe
    have refused : ∀ (m : Nat) (y : D), res = .inl m → m = n → E.rt (.tup [.str "refused", .int (n : Nat)]) (st ++ [.lst (R.map .str), .lst (acc.map encT)]) := fun m y hres hm => by
      have := hrt acc
      rw [hres, hm] at this
      exact this
    rw [s_ifS, s_test, s_op, s_var]
    show dC _ _ _ _ _
    rw [s_c, s_is]
    try dsimp only
    rw [isnon_OT]
    cases hz : trpL (tl w) with
    | some z =>
      rw [hz] at he
      try dsimp only at he
      rw [if_pos (by rfl), s_seq, s_ifS, s_and, s_test, s_op, s_cb, s_cons, s_var]
      show dNil _ _ _ _
      rw [s_nil, s_len_loc, at2.2]
      try dsimp only
      rw [s_c]
      show dOrd _ _ (.int ((acc.map encT).length : Int)) (.int 0) _ _
      rw [s_ord_int, List.length_map]
      try dsimp only
      have put : okNext acc z = true → dSeq (dDrop (dBM "list" dAppend (dVar 2) (dCons (dVar 6) dNil))) (dAsg (dOp dAdd (dOp dAdd (dVar 3) (dVar 5)) (dC (.str "\n"))) (gN 3)) { nx := RR, rt := E.rt, bk := E.nx, ct := RR, xs := E.xs } [some (.str t), some (.loc st.length), some (.loc (st.length + 1)), some (.str b), some (.int (n : Nat)), some (.str w), some (encT z)] (st ++ [.lst (R.map .str), .lst (acc.map encT)]) := by
        intro hok
        rw [if_pos hok] at he
        rw [s_seq, s_drop, s_bm, s_var]
        show tyD _ "list" (.loc (st.length + 1)) ∧ _
        refine ⟨by rw [s_tyD_loc, at2.2], ?_⟩
        rw [s_cons, s_var]
        show dNil _ _ _ _
        rw [s_nil, s_append]
        refine ⟨_, at2.2, by rw [List.length_map]; exact sizeLine_big (by omega), ?_⟩
        rw [set2, show acc.map encT ++ [encT z] = (acc ++ [z]).map encT from by simp]
        try dsimp only
        rw [s_asg]
        refine addb ?_
        rw [s_gN]
        exact ih (acc ++ [z]) (b ++ lineS w) _ _ _ (by simp; omega) (by rw [app_len, lineS_len]; omega) he
      cases hg : acc.getLast? with
      | none =>
        have hnil : acc = [] := List.getLast?_eq_none_iff.mp hg
        have hok : okNext acc z = true := by unfold okNext; rw [hg]
        rw [if_neg (by rw [hnil]; simp), if_neg (by simp), s_next]
        exact put hok
      | some y =>
        have hne : acc ≠ [] := fun e => by rw [e] at hg; cases hg
        have hpos := List.length_pos_iff.mpr hne
        have hokd : okNext acc z = ltS y.1 z.1 := by unfold okNext; rw [hg]
        rw [if_pos (by simpa using hpos), s_test, s_op, s_op, s_op, s_var]
        show dUn _ _ _ _ _ _
        rw [s_un, s_c, s_neg, s_ix_loc]
        refine ⟨_, _, at2.2, atI_endT hg, ?_⟩
        rw [s_c]
        refine ⟨.str y.1, atI_0, ?_⟩
        try dsimp only
        rw [s_op, s_var]
        show dC _ _ _ _ _
        rw [s_c]
        refine ⟨.str z.1, atI_0, ?_⟩
        refine ge_strs ?_
        try dsimp only
        cases hlt : ltS y.1 z.1 with
        | false =>
          rw [hokd, hlt, if_neg (by decide)] at he
          rw [if_pos (by decide), s_ret, s_dtup, s_cons, s_c, s_cons, s_var]
          show dNil _ _ _ _
          rw [s_nil]
          exact ⟨szk _ (by simp), refused n (encT z) he.symm rfl⟩
        | true =>
          rw [if_neg (by decide), s_next]
          exact put (by rw [hokd]; exact hlt)
    | none =>
      rw [hz] at he
      try dsimp only at he
      rw [if_neg (by simp), s_ifS, s_or, s_test, s_op, s_sl, s_var]
      show dNoPart _ _ _ _
      rw [s_noPart, s_part, s_c]
      try dsimp only
      rw [s_slv_str]
      refine ⟨sz_big (by omega), ?_⟩
      rw [s_c]
      show dEqB not (.str _) (.str _) _ _
      rw [s_eq_str]
      have c1 : (cutS w none (some 6) = ("check " : Str)) ↔ (tl w).take 6 = tl ("check " : Str) := by
        rw [str_eq, show (6 : Int) = ((6 : Nat) : Int) from rfl, tl_cutlo]
      have hiff := chk_iff w b
      try dsimp only
      by_cases h6 : cutS w none (some 6) = ("check " : Str)
      · rw [if_neg (by simp [h6]), s_test, s_op, s_call, s_cons, s_sl, s_var]
        show dPart _ _ _ _ _
        rw [s_part, s_c]
        try dsimp only
        rw [s_noPart, s_slv_str]
        refine ⟨sz_big (by omega), ?_⟩
        rw [s_cons, s_c, s_nil]
        have hcl : (cutS w (some 6) none).length ≤ w.length := by
          rw [TL.len_tl, show (6 : Int) = ((6 : Nat) : Int) from rfl, tl_cut, List.length_drop, ← TL.len_tl]
          omega
        refine ⟨rfl, by decide, by omega, ?_⟩
        rw [show (99990 : Int).toNat = 99990 from rfl, show (6 : Int) = ((6 : Nat) : Int) from rfl, tl_cut]
        try dsimp only
        rw [s_call, s_cons, s_var]
        show dNil _ _ _ _
        rw [s_nil]
        refine ⟨rfl, by omega, ?_⟩
        have hne : dEqB not (encN (lawNum 99990 ((tl w).drop 6))) (.int ((chk (tl b) : Nat) : Int)) = fun (S : Sto) (QE : DK) => QE (.bl (!decide (lawNum 99990 ((tl w).drop 6) = some (chk (tl b))))) S := by
          funext S QE
          cases hn : lawNum 99990 ((tl w).drop 6) with
          | none =>
            show QE (.bl (!false)) S = _
            simp
          | some v =>
            show QE (.bl (!decide ((v : Int) = ((chk (tl b) : Nat) : Int)))) S = _
            have : decide ((v : Int) = ((chk (tl b) : Nat) : Int)) = decide (some v = some (chk (tl b))) := decide_eq_decide.mpr ⟨fun h => by rw [Int.ofNat_inj.mp h], fun h => by rw [Option.some.inj h]⟩
            rw [this]
        show dEqB not (encN (lawNum 99990 ((tl w).drop 6))) (.int ((chk (tl b) : Nat) : Int)) _ _
        rw [hne]
        try dsimp only
        by_cases hnum : lawNum 99990 ((tl w).drop 6) = some (chk (tl b))
        · have hwc : w = chkT (tl b) := hiff.mp ⟨c1.mp h6, hnum⟩
          rw [if_pos hwc] at he
          rw [if_neg (by simp [hnum]), s_ifS, s_test, s_op, s_var]
          show dOp _ _ _ _ _ _ _
          refine addb ?_
          show dEqB not (.str t) (.str (b ++ lineS w)) _ _
          rw [s_eq_str]
          try dsimp only
          by_cases hte : t = b ++ lineS w
          · rw [if_pos hte] at he
            rw [if_neg (by simp [← hte]), s_ret, s_dtup, s_cons, s_c, s_cons, s_cb, s_cons, s_var]
            show dNil _ _ _ _
            rw [s_nil, s_tupOf]
            simp only [s_items_loc, at2.2]
            rw [s_nil]
            refine ⟨szk _ (by simp), ?_⟩
            have := hrt acc
            rw [← he] at this
            exact this
          · rw [if_neg hte] at he
            rw [if_pos (by simpa using hte), s_ret, s_dtup, s_cons, s_c, s_cons, s_op, s_var]
            show dC _ _ _ _ _
            rw [s_c, s_add_int, s_nil]
            refine ⟨szk _ (by simp), ?_⟩
            have := hrt acc
            rw [← he] at this
            exact this
        · have hwc : w ≠ chkT (tl b) := fun e => hnum (hiff.mpr e).2
          rw [if_neg hwc] at he
          rw [if_pos (by simpa using hnum), s_ret, s_dtup, s_cons, s_c, s_cons, s_var]
          show dNil _ _ _ _
          rw [s_nil]
          exact ⟨szk _ (by simp), refused n .non he.symm rfl⟩
      · have hwc : w ≠ chkT (tl b) := fun e => h6 (c1.mpr (hiff.mpr e).1)
        rw [if_neg hwc] at he
        rw [if_pos (by simpa using h6), if_pos rfl, s_ret, s_dtup, s_cons, s_c, s_cons, s_var]
        show dNil _ _ _ _
        rw [s_nil]
        exact ⟨szk _ (by simp), refused n .non he.symm rfl⟩
theorem line_count {t w : Str} (h : w ∈ Txt.split t "\n") : (tl w).count 32 ≤ (tl t).count 32 := by
  have hs := split_tl (x := t) tls2.2.2.2.2.2.2.1 (by simp) (by simp)
  have hc := count_spl (c := 32) (S := [10]) (by simp) (by simp) (tl t)
  rw [← hs, List.map_map] at hc
  have hm : (tl w).count 32 ∈ (Txt.split t "\n").map ((fun p => p.count 32) ∘ tl) := List.mem_map_of_mem (f := (fun p => p.count 32) ∘ tl) h
  have : (tl w).count 32 ≤ ((Txt.split t "\n").map ((fun p => p.count 32) ∘ tl)).sum := by
    generalize (Txt.split t "\n").map ((fun p => p.count 32) ∘ tl) = l at hm
    induction l with
    | nil => cases hm
    | cons a l ih =>
      rw [List.sum_cons]
      rcases List.mem_cons.mp hm with h | h
      · omega
      · have := ih h
        omega
  omega
theorem text_parts (t : Str) : t = linesT (Txt.split t "\n").dropLast ++ lastS (Txt.split t "\n") := by
  have hs := split_tl (x := t) tls2.2.2.2.2.2.2.1 (by simp) (by simp)
  have hj := join_spl (S := [10]) (by simp) (by simp) (tl t)
  rw [← hs] at hj
  have hne := split_neK t "\n" (by decide) (by decide)
  generalize Txt.split t "\n" = W at hj hne ⊢
  obtain ⟨W0, w, rfl⟩ : ∃ W0 w, W = W0 ++ [w] := ⟨W.dropLast, W.getLast hne, (List.dropLast_concat_getLast hne).symm⟩
  have e1 : (W0 ++ [w]).dropLast = W0 := by simp
  have e2 : lastS (W0 ++ [w]) = w := by simp [lastS]
  rw [e1, e2]
  refine TL.ext_tl ?_
  rw [TL.tl_append, ← hj]
  have key : ∀ (A : List Str), joinL [10] ((A ++ [w]).map tl) = tl (linesT A) ++ tl w := by
    intro A
    induction A with
    | nil => rfl
    | cons a A ih =>
      rw [List.cons_append, List.map_cons, joinL_cons (by simp), ih, tl_lines_cons]
      simp
  exact key W0
theorem rngItems_1 (n : Nat) : rngItems 1 n = upFrom 1 n := by
  rw [← upFrom_eq]
  unfold rngItems
  rfl
theorem r__law_due_k42 : Rd 1 sp_ldueK (RD.t__law_due_k42 sp_lcheck sp_lnumK sp_ltrp) RD.N__law_due_k42 := by
  intro ds st Q Z hl h
  match ds, hl, h with
  | [.str t], _, ⟨ht, hc, q⟩ =>
    unfold RD.t__law_due_k42
    rw [s_seq, s_asg, s_bm, s_var]
    show tyD st "str" (.str t) ∧ _
    refine ⟨rfl, ?_⟩
    rw [s_cons, s_c, s_nil, s_split]
    refine ⟨by decide, sz1m (by omega), ?_⟩
    have hparts := text_parts t
    have hlen := split_lenS t
    have hne := split_neK t "\n" (by decide) (by decide)
    have hw : ∀ w ∈ Txt.split t "\n", w.length ≤ 100000 ∧ (tl w).count 32 ≤ 3900 := fun w hw => ⟨by have := split_len hw; omega, Nat.le_trans (line_count hw) hc⟩
    have hcount : (Txt.split t "\n").length ≤ t.length + 2 := PyProof.Rows.split_le t "\n"
    generalize hR : Txt.split t "\n" = R at q hparts hlen hne hw hcount ⊢
    have hdl := dropLast_lenS hne
    have hRl : R.dropLast.length + 1 = R.length := by
      have := List.length_pos_iff.mpr hne
      rw [List.length_dropLast]
      omega
    rw [s_gN]
    try dsimp only
    show dSeq _ _ _ [some (.str t), some (.loc st.length), none, none, none, none, none] (st ++ [Ob.lst (R.map .str)])
    rw [s_seq, s_par, s_cons, s_dlst, s_nil]
    refine ⟨szk _ (by simp), ?_⟩
    rw [s_cons, s_c, s_nil]
    have e1 : (st ++ [Ob.lst (R.map D.str)]).length = st.length + 1 := by simp
    have e2 : st ++ [Ob.lst (R.map D.str)] ++ [Ob.lst []] = st ++ [Ob.lst (R.map D.str), Ob.lst (([] : List Trp).map encT)] := by simp
    rw [e1, e2]
    try dsimp only
    show dSeq _ _ _ [some (.str t), some (.loc st.length), some (.loc (st.length + 1)), some (.str ""), none, none, none] _
    have hres : dueF t [] "" 1 R.dropLast = readK R.dropLast (lastS R) := due_read hparts R.dropLast [] (by simp) (Nat.zero_le _) rfl
    rw [s_seq, s_for, s_iR2, s_cons, s_c, s_cons, s_cb, s_cons, s_var]
    show dNil _ _ _ _
    rw [s_nil, s_len_loc, at2.1]
    try dsimp only
    rw [s_nil]
    have hn : (((R.map D.str).length : Int) - 1).toNat = R.dropLast.length := by rw [List.length_map]; omega
    try dsimp only
    refine ⟨⟨by decide, by decide, by rw [List.length_map]; omega, by rw [List.length_map]; omega⟩, ?_⟩
    rw [hn, rngItems_1]
    have bk : ∀ acc : List Trp, DL.Back st Q (encRes (readK R.dropLast (lastS R))) (st ++ [Ob.lst (R.map .str), Ob.lst (acc.map encT)]) := fun acc => back_tup ⟨_, rfl⟩ (blw_encRes _ _) q
    refine lp_dueK _ (t := t) (res := readK R.dropLast (lastS R)) (by omega) (fun acc => bk acc) (fun acc b y4 y5 y6 he => ?_) R.dropLast [] "" 1 none none none (fun w hh => hw w ((List.dropLast_sublist R).subset hh)) (fun j hj => ?_) (Nat.le_refl 1) (by omega) (by simp; omega) (by rw [show ("" : Str).length = 0 from rfl]; omega) hres
    · have := bk acc
      rw [he] at this
      try dsimp only
      rw [s_ret, s_dtup, s_cons, s_c, s_cons, s_cb, s_cons, s_var]
      show dNil _ _ _ _
      rw [s_nil, s_len_loc, at2.1]
      try dsimp only
      rw [s_nil, List.length_map]
      exact ⟨szk _ (by simp), this⟩
    · rw [List.dropLast_eq_take, List.getElem?_take, if_pos (by rw [List.length_dropLast] at hj; exact hj)]
      congr 1
      omega
end CM
namespace CM
open PySem L2 PySem.Spec DL
open PyProof.Rows hiding St
open TL (tl pre spl par numL joinL)
theorem ix_evK {i : Nat} {j : Int} {ds : List D} {d : D} {ρ : Env'} {st : Sto} {Q : DK} {Z : DZ} (h : ρ[i]? = some (some (.tup ds))) (hj : atI ds j = some d) (q : Q d st) : dOp dIx (dVar i) (dC (.int j)) ρ st Q Z := by
  rw [s_op]
  refine var_ev h ?_
  rw [s_c]
  exact ⟨d, hj, q⟩
theorem isi_evK {te : DTE} {T a : String} {d : D} {ρ : Env'} {st : Sto} {Q : DK} {Z : DZ} (he : ∀ (QE : DK) Z, QE d st → te ρ st QE Z) (ha : tyN st d = some a) (q : Q (.bl (tySub a T)) st) : dIsi te [T] ρ st Q Z := by
  rw [s_isi]
  refine he _ _ ?_
  rw [ha]
  simpa using q
section
variable [EC : ErrCtx]
theorem xiK {a : Addr} {m i : Nat} {fs : List (Str × D)} {tbl : List (Nat × Bool)} {b : Bool} {ρ : Env'} {st : Sto} {QT : Bool → Sto → Prop} {Z : DZ} (hp : (m, b) ∈ tbl) (hρ : ρ[i]? = some (some (.adr a))) (k : QT b st) : dTru (dXi a (errX m fs) tbl (dVar i)) ρ st QT Z := by
  rw [s_tru, s_xi]
  refine ⟨(m, b), hp, rfl, ?_⟩
  rw [s_var, hρ]
  exact ⟨rfl, k⟩
theorem xfK {a : Addr} {m i : Nat} {f : Str} {y : D} {ρ : Env'} {st : Sto} {Q : DK} {Z : DZ} (hρ : ρ[i]? = some (some (.adr a))) (k : Q y st) : dXf a (errX m [(f, y)]) m f (dVar i) ρ st Q Z := by
  rw [s_xf, s_var, hρ]
  exact ⟨rfl, rfl, y, by simp [errX, List.lookup], k⟩
theorem tail_read {d : D} {st : Sto} {r : Sum Nat (List Trp)} {x2 : Option D} {E : DEnds} (q : E.rt (encRes r) st) :
    dSeq (dIfS (dAnd (dTest (dOp dEq (dOp dIx (dVar 1) (dC (.int 0))) (dC (.str "refused")))) (dOr (dNot (dTru (dIsi (dOp dIx (dVar 1) (dC (.int 1))) ["int"]))) (dTru (dIsi (dOp dIx (dVar 1) (dC (.int 1))) ["bool"])))) (dRet (dTup (dCons (dC (.non)) (dCons (dC (.non)) dNil)))) dNext)
    (dRet (dVar 1)) E [some d, some (encRes r), x2] st := by
  rw [s_seq, s_ifS, s_and, s_test, s_op]
  cases r with
  | inl n =>
    refine ix_evK (d := .str "refused") (ds := [.str "refused", .int (n : Nat)]) rfl atI_0 ?_
    rw [s_c]
    show dEqB id (.str "refused") (.str "refused") _ _
    rw [s_eq_str]
    try dsimp only [id]
    rw [if_pos (by simp), s_or, s_not, s_tru]
    refine isi_evK (d := .int (n : Nat)) (a := "int") (fun QE Z qe => ix_evK (ds := [.str "refused", .int (n : Nat)]) rfl rfl qe) rfl ?_
    rw [show tySub "int" "int" = true from rfl, s_tru_bl, if_neg (by simp), s_tru]
    refine isi_evK (d := .int (n : Nat)) (a := "int") (fun QE Z qe => ix_evK (ds := [.str "refused", .int (n : Nat)]) rfl rfl qe) rfl ?_
    rw [show tySub "int" "bool" = false from by decide, s_tru_bl, if_neg (by simp), s_next]
    try dsimp only
    rw [s_ret]
    exact var_ev rfl q
  | inr l =>
    refine ix_evK (d := .str "told") (ds := [.str "told", encI l]) rfl atI_0 ?_
    rw [s_c]
    show dEqB id (.str "told") (.str "refused") _ _
    rw [s_eq_str]
    try dsimp only [id]
    rw [if_neg (by simpa using (show ("told" : Str) ≠ "refused" by decide)), if_neg (by simp), s_next]
    try dsimp only
    rw [s_ret]
    exact var_ev rfl q
end
end CM
namespace CM
open PySem L2 PySem.Spec DL
open PyProof.Rows hiding St
open TL (tl pre spl par numL joinL)
section
variable {ρ : Env'} {st : Sto} {Q : DK} {Z : DZ}
theorem addS_ev {ta tb : DTE} {x y : Str} (ha : ∀ (QE : DK) Z, QE (.str x) st → ta ρ st QE Z) (hb : ∀ (QE : DK) Z, QE (.str y) st → tb ρ st QE Z) (hl : x.length + y.length ≤ sizeLine) (q : Q (.str (x ++ y)) st) : dOp dAdd ta tb ρ st Q Z := by
  rw [s_op]
  refine ha _ _ ?_
  refine hb _ _ ?_
  rw [s_add_str]
  exact ⟨hl, q⟩
theorem strI_ev {te : DTE} {m : Nat} (he : ∀ (QE : DK) Z, QE (.int (m : Nat)) st → te ρ st QE Z) (hm : m ≤ 1000001) (q : Q (.str (toString ((m : Nat) : Int))) st) : dCB dStrI (dCons te dNil) ρ st Q Z := by
  rw [s_cb, s_cons]
  refine he _ _ ?_
  rw [s_nil, s_strI]
  exact ⟨log_small hm, q⟩
theorem vix0 {i n : Nat} (h : ρ[i]? = some (some (encV n))) (q : Q (.int (vA n)) st) : dOp dIx (dVar i) (dC (.int 0)) ρ st Q Z := by
  rw [s_op]
  refine var_ev h ?_
  rw [s_c]
  exact ⟨_, atI_0, q⟩
theorem vix1 {i n : Nat} (h : ρ[i]? = some (some (encV n))) (q : Q (.int (vB n)) st) : dOp dIx (dVar i) (dC (.int 1)) ρ st Q Z := by
  rw [s_op]
  refine var_ev h ?_
  rw [s_c]
  exact ⟨_, rfl, q⟩
theorem vix2 {i n : Nat} (h : ρ[i]? = some (some (encV n))) (q : Q (.int (vC n)) st) : dOp dIx (dVar i) (dC (.int 2)) ρ st Q Z := by
  rw [s_op]
  refine var_ev h ?_
  rw [s_c]
  exact ⟨_, rfl, q⟩
end
theorem str_num_len {m : Nat} (h : m ≤ 1000001) : ((toString ((m : Nat) : Int)) : Str).length ≤ 7 := by
  rw [TL.len_tl, TL.tl_num]
  exact num7 h
theorem dot1 : (".": Str).length = 1 ∧ ("\n" : Str).length = 1 ∧ ("" : Str).length = 0 ∧ ("check " : Str).length = 6 := by decide
/-- the beginning of a line: name and version -/
theorem head_eq (s : Str) (n : Nat) : ((((((s ++ " ") ++ (toString ((vA n : Nat) : Int) : Str)) ++ ".") ++ (toString ((vB n : Nat) : Int) : Str)) ++ ".") ++ (toString ((vC n : Nat) : Int) : Str)) = placeT (s, n) := by
  refine TL.ext_tl ?_
  rw [tl_placeT]
  simp only [TL.tl_append, TL.tl_num, tl_dot, tls2.2.2.1, vL, List.append_assoc, List.cons_append, List.nil_append]
def spS (f : Str) : Str := (" " : Str) ++ f
theorem feats_eq (p : Str) (fs : List Str) : p ++ Txt.join "" (fs.map spS) = Txt.join " " (p :: fs) := by
  refine TL.ext_tl ?_
  rw [TL.tl_append, TL.join_eq, TL.join_eq, TL.tl_join, TL.tl_join, tls2.2.2.1]
  have e0 : tl ("" : Str) = [] := rfl
  rw [e0]
  have key : ∀ (fs : List Str) (p : List Nat), p ++ joinL [] ((fs.map spS).map tl) = joinL [32] (p :: fs.map tl) := by
    intro fs
    induction fs with
    | nil => intro p; simp [joinL]
    | cons f r ih =>
      intro p
      rw [List.map_cons, List.map_cons, List.map_cons, joinL_cons (p := p) (by simp), ← ih (tl f)]
      have e : tl (spS f) = 32 :: tl f := by unfold spS; rw [TL.tl_append, tls2.2.2.1]; rfl
      cases hh : (r.map spS).map tl with
      | nil => simp [joinL, e]
      | cons q qs => rw [joinL_cons (by simp), e]; simp
  rw [key fs (tl p), List.map_cons]
theorem runC_sp {ρ : Env'} {Q : DK} {st : Sto} (h5 : 5 < ρ.length) : ∀ (fs : List Str) (acc : List D), (∀ s ∈ fs, s.length ≤ 1000) → acc.length + fs.length < 1000 →
    Q (.loc st.length) (st ++ [.lst (acc ++ (fs.map spS).map .str)]) → runC (gN 5) dYes RD.e__law_line_1 ρ Q (fun _ => True) (fs.map .str) acc st
  | [], acc, _, _, q => ⟨trivial, by simpa using q⟩
  | f :: fs, acc, hf, hl, q => by
    rw [List.map_cons, runC_cons]
    refine ⟨trivial, ?_⟩
    have ih := runC_sp (Q := Q) (st := st) h5 fs
    generalize hR : runC (gN 5) dYes RD.e__law_line_1 ρ Q (fun _ => True) (fs.map .str) = R at ih ⊢
    rw [s_gN, s_yes, if_pos rfl]
    simp only [List.length_cons] at hl
    have h1 := hf f List.mem_cons_self
    unfold RD.e__law_line_1
    refine addS_ev (x := " ") (y := f) (fun QE Z qe => qe) (fun QE Z qe => var_ev (by rw [List.getElem?_set_self h5]) qe) (by rw [k1.1]; exact sz_big (by omega)) ?_
    exact ⟨sizeLine_big (by omega), ih _ (fun z hz => hf z (List.mem_cons_of_mem _ hz)) (by simp; omega) (by simpa [spS] using q)⟩
def sp_lline : DSp := fun ds st Q _ => match ds with
  | [d] => ∃ t : Trp, d = encT t ∧ TrpV t ∧ t.2.2.length ≤ 60 ∧ Q (.str (lineS (trpT t))) st
  | _ => False
theorem r__law_line : Rd 1 sp_lline RD.t__law_line RD.N__law_line := by
  intro ds st Q Z hl h
  match ds, hl, h with
  | [d], _, ⟨t, hd, hv, hf, q⟩ =>
    subst hd
    obtain ⟨nm, v, fs⟩ := t
    have hn := name12 hv.1
    have ha : vA v ≤ 1000000 := hv.2.1
    have hb := vB_le v
    have hc := vC_le v
    have la := str_num_len (m := vA v) (by omega)
    have lb := str_num_len (m := vB v) (by omega)
    have lc := str_num_len (m := vC v) (by omega)
    have hp := placeT_len (k := (nm, v)) hv.1 hv.2.1
    have hT := trpT_len hv hf
    have hfs : ∀ s ∈ fs, nameS s = true := namesF_names hv.2.2
    dsimp only at hf hn
    unfold RD.t__law_line
    rw [s_seq, s_asg, s_var]
    show gTup' 3 _ (.tup [.str nm, encV v, encL fs]) _ _ _
    rw [s_gTup]
    refine ⟨rfl, ?_⟩
    rw [s_gCons, s_gN, s_gCons, s_gN, s_gCons, s_gN, s_gNil]
    dsimp only
    show dSeq _ _ _ [some (encT (nm, v, fs)), some (.str nm), some (encV v), some (encL fs), none, none] st
    rw [s_seq, s_asg]
    have p1 := dot1.1
    refine addS_ev (x := ((((nm ++ " ") ++ (toString ((vA v : Nat) : Int) : Str)) ++ ".") ++ (toString ((vB v : Nat) : Int) : Str)) ++ ".") (y := toString ((vC v : Nat) : Int)) (fun QE Z qe => ?_) (fun QE Z qe => strI_ev (fun QE Z qe => vix2 rfl qe) (by omega) qe) (by simp only [app_len, p1, k1.1]; exact sz_big (by omega)) ?_
    · refine addS_ev (x := (((nm ++ " ") ++ (toString ((vA v : Nat) : Int) : Str)) ++ ".") ++ (toString ((vB v : Nat) : Int) : Str)) (y := ".") (fun QE Z qe => ?_) (fun QE Z qe => qe) (by simp only [app_len, p1, k1.1]; exact sz_big (by omega)) qe
      refine addS_ev (x := ((nm ++ " ") ++ (toString ((vA v : Nat) : Int) : Str)) ++ ".") (y := toString ((vB v : Nat) : Int)) (fun QE Z qe => ?_) (fun QE Z qe => strI_ev (fun QE Z qe => vix1 rfl qe) (by omega) qe) (by simp only [app_len, p1, k1.1]; exact sz_big (by omega)) qe
      refine addS_ev (x := (nm ++ " ") ++ (toString ((vA v : Nat) : Int) : Str)) (y := ".") (fun QE Z qe => ?_) (fun QE Z qe => qe) (by simp only [app_len, p1, k1.1]; exact sz_big (by omega)) qe
      refine addS_ev (x := nm ++ " ") (y := toString ((vA v : Nat) : Int)) (fun QE Z qe => ?_) (fun QE Z qe => strI_ev (fun QE Z qe => vix0 rfl qe) (by omega) qe) (by simp only [app_len, p1, k1.1]; exact sz_big (by omega)) qe
      exact addS_ev (x := nm) (y := " ") (fun QE Z qe => var_ev rfl qe) (fun QE Z qe => qe) (by simp only [k1.1]; exact sz_big (by omega)) qe
    rw [head_eq, s_gN]
    dsimp only
    show dRet _ _ [some (encT (nm, v, fs)), some (.str nm), some (encV v), some (encL fs), some (.str (placeT (nm, v))), none] st
    rw [s_ret, s_op, s_op, s_var]
    show dBM _ _ _ _ _ _ _ _
    rw [s_bm, s_c]
    refine ⟨rfl, ?_⟩
    rw [s_cons, s_lc, s_iD, s_var]
    show walkD st (.tup (fs.map .str)) _
    rw [s_walk_tup]
    refine runC_sp (by simp) fs [] (fun s hs => by have := name12 (hfs s hs); omega) (by simp; omega) ?_
    rw [List.nil_append, s_nil, s_join]
    have hj : ((fs.map spS).map fun x : Str => x.length).sum ≤ 13 * 60 := by
      have := sum_le (fun x : Str => x.length) 13 (fs.map spS) fun x hx => by
        obtain ⟨s, hs, rfl⟩ := List.mem_map.mp hx
        have := name12 (hfs s hs)
        unfold spS
        rw [app_len, k1.1]
        omega
      rw [List.length_map] at this
      omega
    refine ⟨fs.map spS, by simp only [s_items_loc, getElem?_push], ?_, ?_⟩
    · rw [dot1.2.2.1]
      have e : ((fs.map spS).map fun x : Str => x.length).sum = ((fs.map spS).map (·.length)).sum := rfl
      omega
    · rw [s_add_str, feats_eq]
      have e : Txt.join " " (placeT (nm, v) :: fs) = trpT (nm, v, fs) := rfl
      have hlen : (placeT (nm, v)).length + (Txt.join "" (fs.map spS)).length = (trpT (nm, v, fs)).length := by rw [← e, ← feats_eq, app_len]
      refine ⟨by rw [hlen]; exact sz_big (by omega), ?_⟩
      rw [s_c, s_add_str, e, dot1.2.1]
      refine ⟨sz_big (by omega), ?_⟩
      exact back_tup ⟨_, rfl⟩ rfl q
end CM
namespace CM
open PySem L2 PySem.Spec DL
open PyProof.Rows hiding St
open TL (tl pre spl par numL joinL)
theorem pu_encT {t : Trp} (h : TrpV t) : pu (encT t) = true := by
  simp [encT, pu, pus, strOk_name h.1, pu_encV, encL, pus_strs (namesF_names h.2.2)]
theorem dp_encT (t : Trp) : dp (encT t) ≤ 2 := by
  simp [encT, dp, dps, dp_encV, encL, dps_strs]
theorem pus_encT : ∀ {l : List Trp}, (∀ t ∈ l, TrpV t) → pus (l.map encT) = true
  | [], _ => rfl
  | t :: l, h => by simp [pus, pu_encT (h t List.mem_cons_self), pus_encT fun z hz => h z (List.mem_cons_of_mem _ hz)]
theorem dps_encT : ∀ l : List Trp, dps (l.map encT) ≤ 2
  | [] => by simp [dps]
  | t :: l => by
    have h1 := dp_encT t
    have h2 := dps_encT l
    simp only [List.map_cons, dps]
    omega
theorem pu_encI {l : List Trp} (h : ∀ t ∈ l, TrpV t) : pu (encI l) = true := by
  unfold encI pu
  exact pus_encT h
theorem dp_encI (l : List Trp) : dp (encI l) ≤ 3 := by
  have := dps_encT l
  simp only [encI, dp]
  omega
end CM
namespace CM
open PySem L2 PySem.Spec DL
open PyProof.Rows hiding St
open TL (tl pre spl par numL joinL)
section
variable [EC : ErrCtx]
def NotS (st : Sto) (d : D) : Prop := (∃ T, tyN st d = some T ∧ T ≠ "str") ∨ ∃ n fs, d = .loc n ∧ st[n]? = some (.ins (errA 100) fs)
theorem isiS_no {te : DTE} {d : D} {ρ : Env'} {st : Sto} {Q : DK} {Z : DZ} (he : ∀ (QE : DK) Z, QE d st → te ρ st QE Z) (h : NotS st d) (q : Q (.bl false) st) : dIsiI [100] te "str" ρ st Q Z := by
  unfold dIsiI
  refine he _ _ ?_
  rcases h with ⟨T, e, hT⟩ | ⟨n, fs, rfl, hn⟩
  · exact .inl ⟨T, e, by rw [show tySub T "str" = false by simp [tySub, hT]]; exact q⟩
  · exact .inr ⟨n, 100, fs, rfl, by simp, hn, q⟩
theorem isiS_yes {te : DTE} {t : Str} {ρ : Env'} {st : Sto} {Q : DK} {Z : DZ} (he : ∀ (QE : DK) Z, QE (.str t) st → te ρ st QE Z) (q : Q (.bl true) st) : dIsiI [100] te "str" ρ st Q Z := by
  unfold dIsiI
  refine he _ _ ?_
  exact .inl ⟨"str", rfl, q⟩
def sp_linesI : DSp := fun ds st Q Z => match ds with
  | [d] => (∃ t, d = .str t ∧ t.length ≤ 100000 ∧ Q (.tup [.loc st.length, .str (lastS (Txt.split t "\n"))]) (st ++ [.lst ((Txt.split t "\n").dropLast.map .str)])) ∨ (NotS st d ∧ Z (errX 4 [("number", .int 0)]) st)
  | _ => False
theorem r_lines_of_k42 : Rd 1 sp_linesI RD.t_lines_of_k42 RD.N_lines_of_k42 := by
  intro ds st Q Z hl h
  match ds, hl, h with
  | [d], _, .inr ⟨hT, q⟩ =>
    unfold RD.t_lines_of_k42
    rw [s_seq, s_ifS, s_not, s_tru]
    refine isiS_no (d := d) (fun QE Z qe => var_ev rfl qe) hT ?_
    rw [s_tru_bl, if_pos (by simp), s_raise1, s_c]
    exact .inl q
  | [_], _, .inl ⟨t, rfl, ht, q⟩ =>
    unfold RD.t_lines_of_k42
    rw [s_seq, s_ifS, s_not, s_tru]
    refine isiS_yes (t := t) (fun QE Z qe => var_ev rfl qe) ?_
    rw [s_tru_bl, if_neg (by simp), s_next]
    dsimp only
    rw [s_seq, s_asg, s_bm, s_var]
    show tyD st "str" (.str t) ∧ _
    refine ⟨rfl, ?_⟩
    rw [s_cons, s_c, s_nil, s_split]
    refine ⟨by decide, sz1m (by omega), ?_⟩
    rw [s_gN]
    dsimp only
    show dSeq _ _ _ [some (.str t), some (.loc st.length), none] _
    have hne := split_ne t "\n" (by decide) (by decide)
    generalize Txt.split t "\n" = W at q hne ⊢
    obtain ⟨W0, w, rfl⟩ : ∃ W0 w, W = W0 ++ [w] := ⟨W.dropLast, W.getLast hne, (List.dropLast_concat_getLast hne).symm⟩
    rw [s_seq, s_asg, s_bm, s_var]
    show tyD _ "list" (.loc st.length) ∧ _
    refine ⟨by simp, ?_⟩
    rw [s_nil, s_pop]
    refine ⟨_, .str w, getElem?_push, by simp, ?_⟩
    rw [s_gN]
    dsimp only
    show dRet _ _ [some (.str t), some (.loc st.length), some (.str w)] _
    rw [s_ret, s_dtup, s_cons, s_var]
    show dCons _ _ _ _ _ _
    rw [s_cons, s_var]
    refine ⟨szk _ (by simp), .inl ?_⟩
    simpa [lastS] using q
theorem lp_rlockI (E : DEnds) {x0 x2 : Option D} {a : Nat} {st : Sto} {all : List D} (ha : st[a]? = some (.lst all)) : ∀ (W : List Str) (acc : List Trp) (y4 y5 : Option D), (∀ w ∈ W, w.length ≤ 100000) → acc.length + W.length < 200000 →
    (∀ y4 y5, E.nx [x0, some (.loc a), x2, some (.loc st.length), y4, y5, none] (st ++ [.lst ((foundK acc W).map encT)])) →
    runG (gN 4) (RD.b_read_lock_1 sp_linesI sp_textofB sp_chkline sp_ttrp) E (fun st' => st'[a]? = some (.lst all)) (W.map .str) [x0, some (.loc a), x2, some (.loc st.length), y4, y5, none] (st ++ [.lst (acc.map encT)])
  | [], acc, y4, y5, _, _, hk => by
    rw [List.map_nil, runG_nil]
    exact ⟨gb ha, by simpa [foundK] using hk y4 y5⟩
  | w :: W, acc, y4, y5, hw, hl, hk => by
    rw [List.map_cons, runG_cons]
    refine ⟨gb ha, ?_⟩
    have ih := fun acc y4 y5 => lp_rlockI E (x0 := x0) (x2 := x2) ha W acc y4 y5 (fun z hz => hw z (List.mem_cons_of_mem _ hz))
    generalize hR : runG (gN 4) (RD.b_read_lock_1 sp_linesI sp_textofB sp_chkline sp_ttrp) E (fun st' => st'[a]? = some (.lst all)) (W.map .str) = R at ih ⊢
    rw [s_gN]
    unfold RD.b_read_lock_1
    have hf : (st ++ [Ob.lst (acc.map encT)])[st.length]? = some (.lst (acc.map encT)) := getElem?_push
    show dSeq _ _ _ [x0, some (.loc a), x2, some (.loc st.length), some (.str w), y5, none] _
    rw [s_seq, s_asg, s_call, s_cons, s_var]
    show dNil _ _ _ _
    rw [s_nil]
    refine ⟨rfl, hw w List.mem_cons_self, ?_⟩
    dsimp only
    rw [s_gN]
    try dsimp only
    show dSeq _ _ _ [x0, some (.loc a), x2, some (.loc st.length), some (.str w), some (encOT (trpL (tl w))), none] _
    have hfw : foundK acc (w :: W) = match trpL (tl w) with
      | none => acc
      | some t => if okNext acc t = true then foundK (acc ++ [t]) W else acc := rfl
    rw [hfw] at hk
    rw [s_seq, s_ifS, s_or, s_test, s_op, s_var]
    show dC _ _ _ _ _
    rw [s_c, s_is]
    dsimp only
    rw [isnon_OT]
    cases ht : trpL (tl w) with
    | none =>
      rw [ht] at hk
      rw [if_pos (by rfl), if_pos rfl, s_break]
      exact hk _ _
    | some t =>
      rw [ht] at hk
      rw [if_neg (by simp), s_and, s_tru, s_var]
      show truD _ (.loc st.length) _
      rw [s_tru_loc, hf]
      dsimp only at hk ⊢
      simp only [List.length_cons] at hl
      have put : okNext acc t = true → dDrop (dBM "list" dAppend (dVar 3) (dCons (dVar 5) dNil)) { nx := R, rt := E.rt, bk := E.nx, ct := R, xs := E.xs } [x0, some (.loc a), x2, some (.loc st.length), some (.str w), some (encT t), none] (st ++ [Ob.lst (acc.map encT)]) := by
        intro hok
        rw [if_pos hok] at hk
        rw [s_drop, s_bm, s_var]
        show tyD _ "list" (.loc st.length) ∧ _
        refine ⟨by simp, ?_⟩
        rw [s_cons, s_var]
        show dNil _ _ _ _
        rw [s_nil, s_append]
        refine ⟨_, hf, by rw [List.length_map]; exact sizeLine_big (by omega), ?_⟩
        have e : (st ++ [Ob.lst (acc.map encT)]).set st.length (.lst (acc.map encT ++ [encT t])) = st ++ [Ob.lst ((acc ++ [t]).map encT)] := by
          rw [List.set_append_right _ _ (Nat.le_refl _)]
          simp
        rw [e]
        exact ih (acc ++ [t]) _ _ (by simp; omega) hk
      cases hg : acc.getLast? with
      | none =>
        have hnil : acc = [] := List.getLast?_eq_none_iff.mp hg
        have hok : okNext acc t = true := by unfold okNext; rw [hg]
        rw [if_neg (by rw [hnil]; simp), if_neg (by simp), s_next]
        exact put hok
      | some z =>
        have hne : acc ≠ [] := fun e => by rw [e] at hg; cases hg
        have hokd : okNext acc t = ltS z.1 t.1 := by unfold okNext; rw [hg]
        have hz : (!(acc.map encT).isEmpty) = true := by cases hh : acc; exact absurd hh hne; rfl
        rw [hz, if_pos rfl, s_test, s_op, s_op, s_var]
        show dC _ _ _ _ _
        rw [s_c]
        refine ⟨.str t.1, atI_0, ?_⟩
        try dsimp only
        rw [s_op, s_op, s_var]
        show dUn _ _ _ _ _ _
        rw [s_un, s_c, s_neg, s_ix_loc]
        refine ⟨_, _, hf, atI_endT hg, ?_⟩
        rw [s_c]
        refine ⟨.str z.1, atI_0, ?_⟩
        refine le_strs ?_
        dsimp only
        cases hlt : ltS z.1 t.1 with
        | false =>
          rw [hokd, hlt, if_neg (by decide)] at hk
          rw [if_pos (by decide), s_break]
          exact hk _ _
        | true =>
          rw [if_neg (by decide), s_next]
          exact put (by rw [hokd]; exact hlt)
def sp_rlockI : DSp := fun ds st Q Z => match ds with
  | [d] => (∃ t, d = .str t ∧ t.length ≤ 100000 ∧
      (match readK (Txt.split t "\n").dropLast (lastS (Txt.split t "\n")) with
        | .inl n => Z (errX 4 [("number", .int (n : Nat))]) st
        | .inr l => Q (encI l) st)) ∨ (NotS st d ∧ Z (errX 4 [("number", .int 0)]) st)
  | _ => False
theorem r_read_lockI : Rd 1 sp_rlockI (RD.t_read_lock sp_linesI sp_textofB sp_chkline sp_ttrp) RD.N_read_lock := by
  intro ds st Q Z hl h
  match ds, hl, h with
  | [d], _, .inr ⟨hT, q⟩ =>
    unfold RD.t_read_lock
    rw [s_seq, s_asg, s_call, s_cons, s_var]
    show dNil _ _ _ _
    rw [s_nil]
    exact ⟨rfl, .inr ⟨hT, .inl q⟩⟩
  | [_], _, .inl ⟨t, rfl, ht, q⟩ =>
    unfold RD.t_read_lock
    rw [s_seq, s_asg, s_call, s_cons, s_var]
    show dNil _ _ _ _
    rw [s_nil]
    refine ⟨rfl, .inl ⟨t, rfl, ht, ?_⟩⟩
    dsimp only
    rw [s_gTup]
    refine ⟨rfl, ?_⟩
    rw [s_gCons, s_gN, s_gCons, s_gN, s_gNil]
    have htake : ∀ n, (linesT ((Txt.split t "\n").dropLast.take n)).length ≤ 1000000 := fun n => by
      rw [linesT_lenS]
      have h1 := lenS_take (Txt.split t "\n").dropLast n
      have h2 := dropLast_lenS (split_neK t "\n" (by decide) (by decide))
      have h3 := split_lenS t
      omega
    have hls : ∀ n, lenS ((Txt.split t "\n").dropLast.take n) ≤ 100001 := fun n => by
      have h1 := lenS_take (Txt.split t "\n").dropLast n
      have h2 := dropLast_lenS (split_neK t "\n" (by decide) (by decide))
      have h3 := split_lenS t
      omega
    have hW0 : (Txt.split t "\n").dropLast.length ≤ 100002 := by
      have := PyProof.Rows.split_le t "\n"
      rw [List.length_dropLast]
      omega
    have hp0 : ∀ w ∈ (Txt.split t "\n").dropLast, w.length ≤ 100000 := fun w hw => by
      have := split_len ((List.dropLast_sublist _).subset hw)
      omega
    generalize Txt.split t "\n" = W at q htake hls hW0 hp0 ⊢
    generalize lastS W = rest at q ⊢
    generalize W.dropLast = W0 at q hW0 hp0 htake hls ⊢
    show dSeq _ _ _ [some (.str t), some (.loc st.length), some (.str rest), none, none, none, none] (st ++ [Ob.lst (W0.map .str)])
    rw [s_seq, s_asg, s_dlst, s_nil]
    refine ⟨szk _ (by simp), ?_⟩
    rw [s_gN]
    have e1 : (st ++ [Ob.lst (W0.map D.str)]).length = st.length + 1 := by simp
    have ha : (st ++ [Ob.lst (W0.map D.str)])[st.length]? = some (.lst (W0.map .str)) := getElem?_push
    generalize hst1 : st ++ [Ob.lst (W0.map D.str)] = st1 at e1 ha ⊢
    dsimp only
    show dSeq _ _ _ [some (.str t), some (.loc st.length), some (.str rest), some (.loc st1.length), none, none, none] (st1 ++ [Ob.lst (([] : List Trp).map encT)])
    rw [s_seq, s_for, s_iD, s_var]
    show walkD _ (.loc st.length) _
    rw [s_walk_loc]
    refine ⟨_, gb ha, lp_rlockI _ ha W0 [] none none hp0 (by simp; omega) fun y4 y5 => ?_⟩
    have hfl := foundK_len W0 []
    unfold readK at q
    simp only [List.length_nil, Nat.zero_add] at hfl
    generalize foundK [] W0 = F at q hfl ⊢
    have hF : (st1 ++ [Ob.lst (F.map encT)])[st1.length]? = some (.lst (F.map encT)) := getElem?_push
    have ha2 : (st1 ++ [Ob.lst (F.map encT)])[st.length]? = some (.lst (W0.map .str)) := gb ha
    have hpre : Pre st (st1 ++ [Ob.lst (F.map encT)]) := by rw [← hst1]; exact ⟨[Ob.lst (W0.map D.str), Ob.lst (F.map encT)], by simp⟩
    generalize st1 ++ [Ob.lst (F.map encT)] = st2 at hF ha2 hpre ⊢
    dsimp only
    rw [s_seq, s_asg, s_cb, s_cons, s_var]
    show dNil _ _ _ _
    rw [s_nil, s_len_loc, hF]
    dsimp only
    rw [s_gN, List.length_map]
    show dSeq _ _ _ [some (.str t), some (.loc st.length), some (.str rest), some (.loc st1.length), y4, y5, some (.int (F.length : Int))] st2
    rw [s_seq, s_ifS, s_or, s_test, s_op, s_var]
    show dCB _ _ _ _ _ _
    rw [s_cb, s_cons, s_var]
    show dNil _ _ _ _
    rw [s_nil, s_len_loc, ha2]
    dsimp only
    show dEqB id (.int (F.length : Int)) (.int ((W0.map D.str).length : Int)) _ _
    rw [s_eq_int, List.length_map]
    dsimp only [id]
    -- what is raised first
    have bad : ∀ (E : DEnds) st3, E.xs = (fun x _ st' => BackX st Z x st') → Pre st st3 → ¬ (W0[F.length]? = some (chkT (tl (linesT (W0.take F.length))))) → dRaise1 4 "number" (dOp dAdd (dVar 6) (dC (.int 1))) E [some (.str t), some (.loc st.length), some (.str rest), some (.loc st1.length), y4, y5, some (.int (F.length : Int))] st3 := by
      intro E st3 hE hp3 hb
      rw [if_neg hb] at q
      rw [s_raise1, s_op, s_var]
      show dC _ _ _ _ _
      rw [s_c, s_add_int, hE]
      exact backX_pre hp3 rfl q
    by_cases hm : F.length = W0.length
    · have e : decide ((F.length : Int) = (W0.length : Int)) = true := decide_eq_true (by omega)
      rw [e, if_pos rfl, if_pos rfl]
      exact bad _ st2 rfl hpre (by rw [List.getElem?_eq_none (by omega)]; simp)
    · have e : decide ((F.length : Int) = (W0.length : Int)) = false := decide_eq_false (by omega)
      rw [e, if_neg (by decide)]
      have hlt : F.length < W0.length := by omega
      have hget : (W0.map D.str)[F.length]? = some (.str (W0[F.length])) := by rw [List.getElem?_map, List.getElem?_eq_getElem hlt]; rfl
      have hg0 : W0[F.length]? = some (W0[F.length]) := List.getElem?_eq_getElem hlt
      rw [hg0] at q bad
      generalize W0[F.length] = wl at hget q bad
      rw [s_test, s_op, s_op, s_var]
      show dVar _ _ _ _ _
      rw [s_var]
      show dIx (.loc st.length) (.int (F.length : Int)) _ _
      rw [s_ix_loc]
      refine ⟨_, _, ha2, atI_nat hget, ?_⟩
      rw [s_call, s_cons, s_call, s_cons, s_sl, s_var]
      show dNoPart _ _ _ _
      rw [s_noPart, s_part, s_var]
      show dSlV _ _ _ _ _
      rw [s_slv_loc]
      refine ⟨_, ha2, ?_⟩
      rw [cutL_map, cutK_take, s_nil]
      refine ⟨rfl, W0.take F.length, getElem?_push, by rw [List.length_take]; omega, by have := hls F.length; omega, ?_⟩
      have hpre3 : Pre st (st2 ++ [Ob.lst ((W0.take F.length).map D.str)]) := hpre.app _
      have hF3 : (st2 ++ [Ob.lst ((W0.take F.length).map D.str)])[st1.length]? = some (.lst (F.map encT)) := gb hF
      have ha3 : (st2 ++ [Ob.lst ((W0.take F.length).map D.str)])[st.length]? = some (.lst (W0.map .str)) := gb ha2
      generalize st2 ++ [Ob.lst ((W0.take F.length).map D.str)] = st3 at hpre3 hF3 ha3 ⊢
      dsimp only
      rw [s_nil]
      refine ⟨rfl, htake _, ?_⟩
      dsimp only
      show dEqB not (.str wl) (.str _) _ _
      rw [s_eq_str]
      dsimp only
      by_cases hc : wl = chkT (tl (linesT (W0.take F.length)))
      · rw [if_pos (by rw [hc])] at q
        rw [if_neg (by simp [hc]), s_next]
        dsimp only
        rw [s_seq, s_ifS, s_or, s_test, s_op, s_op, s_var]
        show dC _ _ _ _ _
        rw [s_c, s_add_int, s_cb, s_cons, s_var]
        show dNil _ _ _ _
        rw [s_nil, s_len_loc, ha3]
        dsimp only
        show dOrd _ _ (.int ((F.length : Int) + 1)) (.int ((W0.map D.str).length : Int)) _ _
        rw [s_ord_int, List.length_map]
        dsimp only
        have two : ∀ E : DEnds, E.xs = (fun x _ st' => BackX st Z x st') → F.length + 1 < W0.length ∨ rest ≠ "" → dRaise1 4 "number" (dOp dAdd (dVar 6) (dC (.int 2))) E [some (.str t), some (.loc st.length), some (.str rest), some (.loc st1.length), y4, y5, some (.int (F.length : Int))] st3 := by
          intro E hE hb
          rw [if_pos hb] at q
          rw [s_raise1, s_op, s_var]
          show dC _ _ _ _ _
          rw [s_c, s_add_int, hE]
          exact backX_pre hpre3 rfl q
        by_cases h1 : F.length + 1 < W0.length
        · have e : decide ((F.length : Int) + 1 < (W0.length : Int)) = true := decide_eq_true (by omega)
          rw [e, if_pos rfl, if_pos rfl]
          exact two _ rfl (.inl h1)
        · have e : decide ((F.length : Int) + 1 < (W0.length : Int)) = false := decide_eq_false (by omega)
          rw [e, if_neg (by decide), s_test, s_op, s_var]
          show dC _ _ _ _ _
          rw [s_c]
          show dEqB not (.str rest) (.str "") _ _
          rw [s_eq_str]
          dsimp only
          by_cases hr : rest = ""
          · rw [if_neg (fun z => z.elim (fun z => h1 z) fun z => z hr)] at q
            rw [if_neg (by simp [hr]), s_next]
            dsimp only
            rw [s_ret, s_cb, s_cons, s_var]
            show dNil _ _ _ _
            rw [s_nil, s_tupOf]
            simp only [s_items_loc, hF3]
            exact back_tup hpre3 (blw_encI _ F) q
          · rw [if_pos (by simp [hr])]
            exact two _ rfl (.inr hr)
      · rw [if_pos (by simp [hc])]
        exact bad _ st3 rfl hpre3 (by simpa using hc)
def sp_lreadI : DSp := fun ds st Q _ => match ds with
  | [d] => (∃ t, d = .str t ∧ t.length ≤ 100000 ∧ Q (encRes (readK (Txt.split t "\n").dropLast (lastS (Txt.split t "\n")))) st) ∨ (NotS st d ∧ D.blw st.length d = true ∧ Q (encRes (.inl 0)) st)
  | _ => False
theorem r__law_readI : Rd 1 sp_lreadI (RD.t__law_read sp_rlockI) RD.N__law_read := by
  intro ds st Q Z hl h
  have exc : ∀ (d : D) (n : Nat) (E : DEnds) (a : Addr) (st1 : Sto), (∀ x2, E.nx [some d, some (encRes (.inl n)), x2] st1) → RD.s__law_read_2 sp_rlockI a (errX 4 [("number", .int (n : Nat))]) E [some d, some (.tup [.non, .non]), some (.adr a)] st1 := fun d n E a st1 hk => by
    unfold RD.s__law_read_2
    rw [s_ifS, s_and]
    refine xiK (b := true) (by simp) rfl ?_
    rw [if_pos rfl, s_and]
    refine xiK (b := true) (by simp) rfl ?_
    rw [if_pos rfl, s_not]
    refine xiK (b := false) (by simp) rfl ?_
    rw [if_pos (by simp), s_asg, s_dtup, s_cons, s_c, s_cons]
    refine xfK (y := .int (n : Nat)) rfl ?_
    rw [s_nil]
    refine ⟨szk _ (by simp), ?_⟩
    rw [s_gN]
    exact hk _
  match ds, hl, h with
  | [d], _, .inr ⟨hT, hbl, q⟩ =>
    unfold RD.t__law_read
    rw [s_seq, s_asg, s_dtup, s_cons, s_c, s_cons, s_c, s_nil]
    refine ⟨szk _ (by simp), ?_⟩
    rw [s_gN]
    try dsimp only
    show dSeq _ _ _ [some d, some (.tup [.non, .non]), none] st
    rw [s_seq, s_tryAs]
    unfold RD.b__law_read_1
    rw [s_asg, s_dtup, s_cons, s_c, s_cons, s_call, s_cons, s_var]
    show dNil _ _ _ _
    rw [s_nil]
    refine ⟨rfl, .inr ⟨hT, caught (by simp), fun a => ?_⟩⟩
    refine exc d 0 _ a st fun x2 => ?_
    try dsimp only
    exact tail_read (r := .inl 0) (.inl q)
  | [_], _, .inl ⟨t, rfl, ht, q⟩ =>
    unfold RD.t__law_read
    rw [s_seq, s_asg, s_dtup, s_cons, s_c, s_cons, s_c, s_nil]
    refine ⟨szk _ (by simp), ?_⟩
    rw [s_gN]
    try dsimp only
    show dSeq _ _ _ [some (.str t), some (.tup [.non, .non]), none] st
    rw [s_seq, s_tryAs]
    unfold RD.b__law_read_1
    rw [s_asg, s_dtup, s_cons, s_c, s_cons, s_call, s_cons, s_var]
    show dNil _ _ _ _
    rw [s_nil]
    refine ⟨rfl, .inl ⟨t, rfl, ht, ?_⟩⟩
    cases hr : readK (Txt.split t "\n").dropLast (lastS (Txt.split t "\n")) with
    | inl n =>
      rw [hr] at q
      refine ⟨caught (by simp), fun a => ?_⟩
      refine exc (.str t) n _ a st fun x2 => ?_
      try dsimp only
      exact tail_read (r := .inl n) (.inl q)
    | inr l =>
      rw [hr] at q
      try dsimp only
      rw [s_nil]
      refine ⟨szk _ (by simp), ?_⟩
      rw [s_gN]
      try dsimp only
      exact tail_read (r := .inr l) (.inl q)
end
end CM
namespace CM
open PySem L2 PySem.Spec DL
open PyProof.Rows hiding St
open TL (tl pre spl par numL joinL)
def Asc (s : Str) : Prop := ∀ c ∈ tl s, c < 128
structure Pc (s : Str) (a c : Nat) : Prop where
  asc : Asc s
  len : s.length ≤ a
  cnt : (tl s).count 32 ≤ c
theorem Pc.le {s : Str} {a c b d : Nat} (h : Pc s a c) (h1 : a ≤ b) (h2 : c ≤ d) : Pc s b d := ⟨h.asc, Nat.le_trans h.len h1, Nat.le_trans h.cnt h2⟩
theorem Pc.app {s t : Str} {a c b d : Nat} (h : Pc s a c) (k : Pc t b d) : Pc (s ++ t) (a + b) (c + d) := by
  refine ⟨fun x hx => ?_, ?_, ?_⟩
  · rw [TL.tl_append] at hx
    rcases List.mem_append.mp hx with hx | hx
    · exact h.asc x hx
    · exact k.asc x hx
  · rw [app_len]; have := h.len; have := k.len; omega
  · rw [TL.tl_append, List.count_append]; have := h.cnt; have := k.cnt; omega
theorem Pc.sub {s t : Str} {a c : Nat} (h : Pc t a c) (e : List.Sublist (tl s) (tl t)) : Pc s a c :=
  ⟨fun x hx => h.asc x (e.subset hx), by have := e.length_le; rw [← TL.len_tl, ← TL.len_tl] at this; exact Nat.le_trans this h.len, Nat.le_trans (e.count_le 32) h.cnt⟩
theorem Pc.cut {t : Str} {a c : Nat} (h : Pc t a c) (i j : Option Int) : Pc (cutS t i j) a c := by
  refine h.sub ?_
  show List.Sublist (((tl t).drop _).take _) (tl t)
  exact (List.take_sublist _ _).trans (List.drop_sublist _ _)
theorem Pc.lit {s : Str} {a c : Nat} (h : ((tl s).all fun x => decide (x < 128)) = true) (h1 : s.length ≤ a) (h2 : (tl s).count 32 ≤ c) : Pc s a c :=
  ⟨fun x hx => by simpa using List.all_eq_true.mp h x hx, h1, h2⟩
theorem tl_rep (a : Str) (n : Nat) : tl (repS a n) = (List.replicate n (tl a)).flatten := repS_list a n
theorem Pc.rep {s : Str} {a c : Nat} (h : Pc s a c) : ∀ n, Pc (repS s n) (n * a) (n * c) := by
  have key : ∀ n : Nat, ((List.replicate n (tl s)).flatten).length ≤ n * a ∧ ((List.replicate n (tl s)).flatten).count 32 ≤ n * c ∧ ∀ x ∈ (List.replicate n (tl s)).flatten, x < 128 := by
    intro n
    induction n with
    | zero => simp
    | succ n ih =>
      rw [List.replicate_succ, List.flatten_cons]
      have h1 := h.len
      have h2 := h.cnt
      rw [TL.len_tl] at h1
      refine ⟨?_, ?_, fun x hx => ?_⟩
      · rw [List.length_append, Nat.succ_mul]; omega
      · rw [List.count_append, Nat.succ_mul]; omega
      · rcases List.mem_append.mp hx with hx | hx
        · exact h.asc x hx
        · exact ih.2.2 x hx
  intro n
  obtain ⟨k1, k2, k3⟩ := key n
  exact ⟨fun x hx => k3 x (by rw [← tl_rep]; exact hx), by rw [TL.len_tl, tl_rep]; exact k1, by rw [tl_rep]; exact k2⟩
def upC (c : Nat) : Nat := if 97 ≤ c ∧ c ≤ 122 then c - 32 else c
theorem upper_list : ∀ l : List Nat, (∀ c ∈ l, c < 128) → tl (Txt.upper ⟨l.toArray⟩) = l.map upC
  | [], _ => rfl
  | c :: l, h => by
    have e : (⟨(c :: l).toArray⟩ : Str) = ⟨#[c]⟩ ++ ⟨l.toArray⟩ := TL.ext_tl (by rw [TL.tl_append]; rfl)
    rw [e, PySem.W.KOpn.upper_app, TL.tl_append, upper_list l fun x hx => h x (List.mem_cons_of_mem _ hx), PySem.W.KOpn.upper_one (h c List.mem_cons_self)]
    rfl
theorem Pc.upper {s : Str} {a c : Nat} (h : Pc s a c) : Pc (Txt.upper s) a c := by
  have e : tl (Txt.upper s) = (tl s).map upC := by
    have := upper_list (tl s) h.asc
    exact this
  have up1 : ∀ x, x < 128 → upC x < 128 ∧ (upC x = 32 ↔ x = 32) := fun x hx => by
    unfold upC
    split <;> omega
  have hc : ∀ l : List Nat, (∀ x ∈ l, x < 128) → (l.map upC).count 32 = l.count 32 := by
    intro l
    induction l with
    | nil => intro _; rfl
    | cons x l ih =>
      intro hl
      have hx := up1 x (hl x List.mem_cons_self)
      rw [List.map_cons, List.count_cons, List.count_cons, ih fun y hy => hl y (List.mem_cons_of_mem _ hy)]
      by_cases z : x = 32
      · rw [if_pos (by simpa using hx.2.mpr z), if_pos (by simpa using z)]
      · rw [if_neg (by simpa using fun w => z (hx.2.mp w)), if_neg (by simpa using z)]
  refine ⟨fun x hx => ?_, ?_, ?_⟩
  · rw [e] at hx
    obtain ⟨y, hy, rfl⟩ := List.mem_map.mp hx
    exact (up1 y (h.asc y hy)).1
  · rw [TL.len_tl, e, List.length_map, ← TL.len_tl]; exact h.len
  · rw [e, hc _ h.asc]; exact h.cnt
end CM
namespace CM
open PySem L2 PySem.Spec DL
open PyProof.Rows hiding St
open TL (tl pre spl par numL joinL)
section
variable {ρ : Env'} {st : Sto} {Q : DK} {Z : DZ} {i j : Nat} {t : Str} {k : Int}
theorem cl_ev (h : ρ[i]? = some (some (.str t))) (hj : ρ[j]? = some (some (.int k))) (hl : t.length < 1000000) (q : Q (.str (cutS t none (some k))) st) : dSl (dVar i) dNoPart (dPart (dVar j)) ρ st Q Z := by
  rw [s_sl]
  refine var_ev h ?_
  rw [s_noPart, s_part]
  refine var_ev hj ?_
  show dSlV _ _ _ _ _
  rw [s_slv_str]
  exact ⟨sz_big hl, q⟩
theorem cr_ev (h : ρ[i]? = some (some (.str t))) (hj : ρ[j]? = some (some (.int k))) (hl : t.length < 1000000) (q : Q (.str (cutS t (some k) none)) st) : dSl (dVar i) (dPart (dVar j)) dNoPart ρ st Q Z := by
  rw [s_sl]
  refine var_ev h ?_
  rw [s_part]
  refine var_ev hj ?_
  show dNoPart _ _ _ _
  rw [s_noPart, s_slv_str]
  exact ⟨sz_big hl, q⟩
theorem cr1_ev (h : ρ[i]? = some (some (.str t))) (hj : ρ[j]? = some (some (.int k))) (hl : t.length < 1000000) (q : Q (.str (cutS t (some (k + 1)) none)) st) : dSl (dVar i) (dPart (dOp dAdd (dVar j) (dC (.int 1)))) dNoPart ρ st Q Z := by
  rw [s_sl]
  refine var_ev h ?_
  rw [s_part, s_op]
  refine var_ev hj ?_
  rw [s_c, s_add_int]
  show dNoPart _ _ _ _
  rw [s_noPart, s_slv_str]
  exact ⟨sz_big hl, q⟩
end
def bl (w : Str) : Nat := 2 * w.length + 420
def bc (w : Str) : Nat := 2 * (tl w).count 32 + 3
def sp_bword : DSp := fun ds st Q _ => match ds with
  | [.loc h, .str w] => ∃ c, HdK st h c ∧ Asc w ∧ w.length ≤ 60000 ∧ ∀ s st', Pc s (bl w) (bc w) → HdK st' h c → Sm h st st' → Q (.str s) st'
  | _ => False
theorem signs11 : ∀ e ∈ ([.str "", .str " ", .str "A", .str "0", .str ".", .str "-", .str "+", .str "~", .str "_", .str "9", .str "q"] : List D), ∃ s, e = .str s ∧ Pc s 1 1 := by
  intro e he
  simp only [List.mem_cons, List.not_mem_nil, or_false] at he
  rcases he with rfl | rfl | rfl | rfl | rfl | rfl | rfl | rfl | rfl | rfl | rfl <;> exact ⟨_, rfl, .lit (by decide) (by decide) (by decide)⟩
theorem r__law_bent_word : Rd 2 sp_bword (RD.t__law_bent_word sp_drawK sp_anyK) RD.N__law_bent_word := by
  intro ds st Q Z hl h
  match ds, hl, h with
  | [.loc h, .str w], _, ⟨c, H, hA, hw, q⟩ =>
    have hP : Pc w w.length ((tl w).count 32) := ⟨hA, Nat.le_refl _, Nat.le_refl _⟩
    have fin : ∀ s st', Pc s (bl w) (bc w) → GrK h c st st' → DL.Back st Q (.str s) st' := fun s st' hs g => back_handK g rfl fun st1 H1 s1 => q s st1 hs H1 s1
    unfold RD.t__law_bent_word
    show dSeq _ _ _ [some (.loc h), some (.str w), none, none, none, none] st
    rw [s_seq, s_par, s_cons, s_sl]
    refine var_ev (d := .str w) rfl ?_
    rw [s_part, s_c]
    show dNoPart _ _ _ _
    rw [s_noPart, s_slv_str]
    refine ⟨sz_big (by omega), ?_⟩
    rw [s_cons]
    refine any_ev (es := [.str "", .str " ", .str "A", .str "0", .str ".", .str "-", .str "+", .str "~", .str "_", .str "9", .str "q"]) rfl H (fun QA Z qa => ?_) (by simp) (by simp) fun e st1 he g1 => ?_
    · rw [s_cons, s_c, s_cons, s_c, s_cons, s_c, s_cons, s_c, s_cons, s_c, s_cons, s_c, s_cons, s_c, s_cons, s_c, s_cons, s_c, s_cons, s_c, s_cons, s_c, s_nil]
      exact qa
    obtain ⟨sn, rfl, hsn⟩ := signs11 e he
    have hsl := hsn.len
    rw [s_nil]
    try dsimp only
    have hshort := hP.cut (some 1) none
    generalize cutS w (some 1) none = short at hshort
    show dSeq _ _ _ [some (.loc h), some (.str w), some (.str short), some (.str sn), none, none] st1
    rw [s_seq, s_asg, s_call, s_cons]
    refine var_ev (d := .loc h) rfl ?_
    rw [s_cons, s_op, s_cb, s_cons]
    refine var_ev (d := .str w) rfl ?_
    rw [s_nil, s_len_str]
    refine ⟨sz_big (by omega), ?_⟩
    rw [s_c, s_add_int, s_nil, e_drawK]
    refine ⟨rfl, c, g1.hd, by omega, by omega, fun r st2 r0 r1 H2 s2 => ?_⟩
    have g2 := g1.sm s2 H2
    try dsimp only
    rw [s_gN]
    try dsimp only
    show dSeq _ _ _ [some (.loc h), some (.str w), some (.str short), some (.str sn), some (.int r), none] st2
    -- the first six
    have c1 := hP.cut none (some r)
    have c2 := hP.cut (some r) none
    have c3 := hP.cut (some (r + 1)) none
    have hle1 := c1.len
    have hle2 := c2.len
    have hle3 := c3.len
    rw [s_seq, s_asg, s_dlst, s_cons]
    have z1 : (cutS w none (some r)).length + sn.length ≤ sizeLine := sz_big (by omega)
    have z0 : (cutS w none (some r) ++ sn).length = (cutS w none (some r)).length + sn.length := app_len _ _
    refine addS_evK (x := cutS w none (some r) ++ sn) (y := cutS w (some r) none) (fun QE Z qe => addS_evK (x := cutS w none (some r)) (y := sn) (fun QE Z qe => cl_ev rfl rfl (by omega) qe) (fun QE Z qe => var_ev rfl qe) z1 qe) (fun QE Z qe => cr_ev rfl rfl (by omega) qe) (by rw [z0]; exact sz_big (by omega)) ?_
    rw [s_cons]
    refine addS_evK (x := cutS w none (some r) ++ sn) (y := cutS w (some (r + 1)) none) (fun QE Z qe => addS_evK (x := cutS w none (some r)) (y := sn) (fun QE Z qe => cl_ev rfl rfl (by omega) qe) (fun QE Z qe => var_ev rfl qe) z1 qe) (fun QE Z qe => cr1_ev rfl rfl (by omega) qe) (by rw [z0]; exact sz_big (by omega)) ?_
    have p1 := (c1.app hsn).app c2
    have p2 := (c1.app hsn).app c3
    clear z0 z1
    generalize cutS w none (some r) ++ sn ++ cutS w (some r) none = e1 at p1 ⊢
    generalize cutS w none (some r) ++ sn ++ cutS w (some (r + 1)) none = e2 at p2 ⊢
    rw [s_cons]
    refine var_ev (d := .str short) rfl ?_
    rw [s_cons, s_bm]
    refine var_ev (d := .str w) rfl ?_
    show tyD _ "str" (.str w) ∧ _
    refine ⟨rfl, ?_⟩
    rw [s_nil, s_upper]
    refine ⟨by omega, ?_⟩
    rw [s_cons]
    refine addS_evK (x := "0") (y := w) (fun QE Z qe => qe) (fun QE Z qe => var_ev rfl qe) (by rw [show ("0" : Str).length = 1 from rfl]; exact sz_big (by omega)) ?_
    rw [s_cons]
    refine addS_evK (x := w) (y := w) (fun QE Z qe => var_ev rfl qe) (fun QE Z qe => var_ev rfl qe) (sz_big (by omega)) ?_
    rw [s_nil]
    refine ⟨szk _ (by simp), ?_⟩
    have l1 : ∀ s ∈ ([e1, e2, short, Txt.upper w, "0" ++ w, w ++ w] : List Str), Pc s (bl w) (bc w) := by
      intro s hs
      simp only [List.mem_cons, List.not_mem_nil, or_false] at hs
      unfold bl bc
      rcases hs with rfl | rfl | rfl | rfl | rfl | rfl
      · exact p1.le (by omega) (by omega)
      · exact p2.le (by omega) (by omega)
      · exact hshort.le (by omega) (by omega)
      · exact hP.upper.le (by omega) (by omega)
      · exact (Pc.app (a := 1) (c := 0) (.lit (by decide) (by decide) (by decide)) hP).le (by omega) (by omega)
      · exact (hP.app hP).le (by omega) (by omega)
    rw [show ([.str e1, .str e2, .str short, .str (Txt.upper w), .str ("0" ++ w), .str (w ++ w)] : List D) = ([e1, e2, short, Txt.upper w, "0" ++ w, w ++ w] : List Str).map .str from rfl]
    have n1 : ([e1, e2, short, Txt.upper w, "0" ++ w, w ++ w] : List Str).length = 6 := rfl
    generalize ([e1, e2, short, Txt.upper w, "0" ++ w, w ++ w] : List Str) = L1 at l1 n1 ⊢
    rw [s_gN]
    have g3 := g2.app [Ob.lst (L1.map .str)]
    have h3 : (st2 ++ [Ob.lst (L1.map D.str)])[st2.length]? = some (.lst (L1.map .str)) := getElem?_push
    have hlt := g2.hd.hlt
    have hl2 := g2.len
    generalize st2 ++ [Ob.lst (L1.map D.str)] = st3 at g3 h3 ⊢
    try dsimp only
    generalize hn : st2.length = n at h3 hlt hl2 ⊢
    show dSeq _ _ _ [some (.loc h), some (.str w), some (.str short), some (.str sn), some (.int r), some (.loc n)] st3
    have hn3 : n < st3.length := (List.getElem?_eq_some_iff.mp h3).1
    -- the next nine
    rw [s_seq, s_drop, s_bm]
    refine var_ev (d := .loc n) rfl ?_
    show tyD st3 "list" (.loc n) ∧ _
    refine ⟨by rw [s_tyD_loc, h3], ?_⟩
    have hp0 : Pc (".0" : Str) 2 0 := .lit (by decide) (by decide) (by decide)
    have hps : Pc (" " : Str) 1 1 := .lit (by decide) (by decide) (by decide)
    rw [s_cons, s_dlst, s_cons]
    refine addS_evK (x := w) (y := ".0") (fun QE Z qe => var_ev rfl qe) (fun QE Z qe => qe) (by rw [show (".0" : Str).length = 2 from rfl]; exact sz_big (by omega)) ?_
    rw [s_cons, s_sl]
    refine var_ev (d := .str w) rfl ?_
    rw [s_noPart, s_part, s_un, s_c, s_neg]
    show dSlV _ _ _ _ _
    rw [s_slv_str]
    refine ⟨sz_big (by omega), ?_⟩
    rw [s_cons]
    refine addS_evK (x := w) (y := " ") (fun QE Z qe => var_ev rfl qe) (fun QE Z qe => qe) (by rw [show (" " : Str).length = 1 from rfl]; exact sz_big (by omega)) ?_
    rw [s_cons]
    refine addS_evK (x := " ") (y := w) (fun QE Z qe => qe) (fun QE Z qe => var_ev rfl qe) (by rw [show (" " : Str).length = 1 from rfl]; exact sz_big (by omega)) ?_
    rw [s_cons, s_c, s_cons, s_c, s_cons, s_c, s_cons, s_c, s_cons, s_c, s_nil]
    refine ⟨szk _ (by simp), ?_⟩
    have l2 : ∀ s ∈ ([w ++ ".0", cutS w none (some (-2)), w ++ " ", " " ++ w, "1000001.0.0", "0.1000000.1000000", "1.2", "1.2.3.4", ""] : List Str), Pc s (bl w) (bc w) := by
      intro s hs
      simp only [List.mem_cons, List.not_mem_nil, or_false] at hs
      have lit : ∀ {s : Str}, Pc s 20 0 → Pc s (bl w) (bc w) := fun h => h.le (by unfold bl; omega) (by omega)
      rcases hs with rfl | rfl | rfl | rfl | rfl | rfl | rfl | rfl | rfl
      · exact (hP.app hp0).le (by unfold bl; omega) (by unfold bc; omega)
      · exact (hP.cut _ _).le (by unfold bl; omega) (by unfold bc; omega)
      · exact (hP.app hps).le (by unfold bl; omega) (by unfold bc; omega)
      · exact (hps.app hP).le (by unfold bl; omega) (by unfold bc; omega)
      · exact lit (.lit (by decide) (by decide) (by decide))
      · exact lit (.lit (by decide) (by decide) (by decide))
      · exact lit (.lit (by decide) (by decide) (by decide))
      · exact lit (.lit (by decide) (by decide) (by decide))
      · exact lit (.lit (by decide) (by decide) (by decide))
    rw [show ([.str (w ++ ".0"), .str (cutS w none (some (-2))), .str (w ++ " "), .str (" " ++ w), .str "1000001.0.0", .str "0.1000000.1000000", .str "1.2", .str "1.2.3.4", .str ""] : List D) = ([w ++ ".0", cutS w none (some (-2)), w ++ " ", " " ++ w, "1000001.0.0", "0.1000000.1000000", "1.2", "1.2.3.4", ""] : List Str).map .str from rfl]
    have n2 : ([w ++ ".0", cutS w none (some (-2)), w ++ " ", " " ++ w, "1000001.0.0", "0.1000000.1000000", "1.2", "1.2.3.4", ""] : List Str).length = 9 := rfl
    generalize ([w ++ ".0", cutS w none (some (-2)), w ++ " ", " " ++ w, "1000001.0.0", "0.1000000.1000000", "1.2", "1.2.3.4", ""] : List Str) = L2 at l2 n2 ⊢
    rw [s_nil, s_extendA]
    refine ⟨_, _, gb h3, .inr ⟨_, rfl, getElem?_push⟩, by rw [List.length_map, List.length_map]; exact szk _ (by omega), ?_⟩
    have g4 := (g3.app [Ob.lst (L2.map .str)]).set (n := n) (o := .lst (L1.map .str ++ L2.map .str)) hl2
    have h4 : ((st3 ++ [Ob.lst (L2.map D.str)]).set n (.lst (L1.map .str ++ L2.map .str)))[n]? = some (.lst ((L1 ++ L2).map .str)) := by
      rw [List.getElem?_set_self (by simp; omega), List.map_append]
    generalize (st3 ++ [Ob.lst (L2.map D.str)]).set n (.lst (L1.map .str ++ L2.map .str)) = st4 at g4 h4 ⊢
    try dsimp only
    -- the last nine
    rw [s_seq, s_drop, s_bm]
    refine var_ev (d := .loc n) rfl ?_
    show tyD st4 "list" (.loc n) ∧ _
    refine ⟨by rw [s_tyD_loc, h4], ?_⟩
    have hp9 : Pc ("9" : Str) 1 0 := .lit (by decide) (by decide) (by decide)
    have hpd : Pc ("0.0." : Str) 4 0 := .lit (by decide) (by decide) (by decide)
    have r12 := hp9.rep 12
    have r400 := hp9.rep 400
    have rep_ev : ∀ {m : Nat} {ρ : Env'} {S : Sto} {QE : DK} {Z : DZ}, 2 ≤ m → m ≤ 1000 → QE (.str (repS "9" m)) S → dOp dMulS (dC (.str "9")) (dC (.int (m : Int))) ρ S QE Z := fun {m ρ S QE Z} h2 h3 qe => by
      rw [s_op, s_c, s_c, s_mulS]
      exact ⟨by omega, by omega, by decide, by decide, by rw [Int.toNat_natCast]; exact qe⟩
    have l4 : ("0.0." : Str).length = 4 := rfl
    have s12 := r12.len
    have s400 := r400.len
    rw [s_cons, s_dlst, s_cons]
    refine addS_evK (x := "0.0.") (y := repS "9" 12) (fun QE Z qe => qe) (fun QE Z qe => rep_ev (m := 12) (by decide) (by decide) qe) (by rw [l4]; exact sz_big (by omega)) ?_
    rw [s_cons]
    refine addS_evK (x := "0.0.") (y := repS "9" 400) (fun QE Z qe => qe) (fun QE Z qe => rep_ev (m := 400) (by decide) (by decide) qe) (by rw [l4]; exact sz_big (by omega)) ?_
    have q12 := hpd.app r12
    have q400 := hpd.app r400
    generalize ("0.0." : Str) ++ repS "9" 12 = f12 at q12 ⊢
    generalize ("0.0." : Str) ++ repS "9" 400 = f400 at q400 ⊢
    rw [s_cons, s_c, s_cons, s_c, s_cons, s_c, s_cons, s_c, s_cons, s_c, s_cons, s_c, s_cons, s_c, s_nil]
    refine ⟨szk _ (by simp), ?_⟩
    have l3 : ∀ s ∈ ([f12, f400, "00.1.1", "1.01.1", "-1.0.0", "1.0.0 b a", "1.0.0 a a", "1.0.0 a b", "abcdefghijklm"] : List Str), Pc s (bl w) (bc w) := by
      intro s hs
      simp only [List.mem_cons, List.not_mem_nil, or_false] at hs
      have lit : ∀ {s : Str}, Pc s 20 3 → Pc s (bl w) (bc w) := fun h => h.le (by unfold bl; omega) (by unfold bc; omega)
      rcases hs with rfl | rfl | rfl | rfl | rfl | rfl | rfl | rfl | rfl
      · exact q12.le (by unfold bl; omega) (by unfold bc; omega)
      · exact q400.le (by unfold bl; omega) (by unfold bc; omega)
      · exact lit (.lit (by decide) (by decide) (by decide))
      · exact lit (.lit (by decide) (by decide) (by decide))
      · exact lit (.lit (by decide) (by decide) (by decide))
      · exact lit (.lit (by decide) (by decide) (by decide))
      · exact lit (.lit (by decide) (by decide) (by decide))
      · exact lit (.lit (by decide) (by decide) (by decide))
      · exact lit (.lit (by decide) (by decide) (by decide))
    rw [show ([.str f12, .str f400, .str "00.1.1", .str "1.01.1", .str "-1.0.0", .str "1.0.0 b a", .str "1.0.0 a a", .str "1.0.0 a b", .str "abcdefghijklm"] : List D) = ([f12, f400, "00.1.1", "1.01.1", "-1.0.0", "1.0.0 b a", "1.0.0 a a", "1.0.0 a b", "abcdefghijklm"] : List Str).map .str from rfl]
    have n3 : ([f12, f400, "00.1.1", "1.01.1", "-1.0.0", "1.0.0 b a", "1.0.0 a a", "1.0.0 a b", "abcdefghijklm"] : List Str).length = 9 := rfl
    generalize ([f12, f400, "00.1.1", "1.01.1", "-1.0.0", "1.0.0 b a", "1.0.0 a a", "1.0.0 a b", "abcdefghijklm"] : List Str) = L3 at l3 n3 ⊢
    rw [s_nil, s_extendA]
    refine ⟨_, _, gb h4, .inr ⟨_, rfl, getElem?_push⟩, by simp only [List.length_map, List.length_append]; exact szk _ (by omega), ?_⟩
    have hn4 : n < st4.length := (List.getElem?_eq_some_iff.mp h4).1
    have g5 := (g4.app [Ob.lst (L3.map .str)]).set (n := n) (o := .lst ((L1 ++ L2).map .str ++ L3.map .str)) hl2
    have h5 : ((st4 ++ [Ob.lst (L3.map D.str)]).set n (.lst ((L1 ++ L2).map .str ++ L3.map .str)))[n]? = some (.lst ((L1 ++ L2 ++ L3).map .str)) := by
      rw [List.getElem?_set_self (by simp; omega), List.map_append (l₁ := L1 ++ L2)]
    generalize (st4 ++ [Ob.lst (L3.map D.str)]).set n (.lst ((L1 ++ L2).map .str ++ L3.map .str)) = st5 at g5 h5 ⊢
    try dsimp only
    rw [s_ret, s_call, s_cons]
    refine var_ev (d := .loc h) rfl ?_
    rw [s_cons]
    refine var_ev (d := .loc n) rfl ?_
    rw [s_nil, e_anyL]
    refine ⟨rfl, c, _, g5.hd, h5, by have := H.hlt; omega, by simp; omega, by simp; omega, fun e st6 he H6 s6 => ?_⟩
    obtain ⟨s, hs, rfl⟩ := List.mem_map.mp he
    refine fin s st6 ?_ (g5.sm s6 H6)
    rcases List.mem_append.mp hs with hs | hs
    · rcases List.mem_append.mp hs with hs | hs
      · exact l1 s hs
      · exact l2 s hs
    · exact l3 s hs
end CM
namespace CM
open PySem L2 PySem.Spec DL
open PyProof.Rows hiding St
open TL (tl pre spl par numL joinL)
section
variable {ρ : Env'} {st : Sto} {Q : DK} {Z : DZ} {i j n a : Nat} {k : Int} {W : List Str}
theorem lsl_take (hi : ρ[i]? = some (some (.loc n))) (hj : ρ[j]? = some (some (.int k))) (hk : k = (a : Int)) (hn : st[n]? = some (.lst (W.map .str))) (q : Q (.loc st.length) (st ++ [.lst ((W.take a).map .str)])) : dSl (dVar i) dNoPart (dPart (dVar j)) ρ st Q Z := by
  rw [s_sl]
  refine var_ev hi ?_
  rw [s_noPart, s_part]
  refine var_ev hj ?_
  show dSlV _ _ _ _ _
  rw [s_slv_loc]
  refine ⟨_, hn, ?_⟩
  rw [cutL_map, hk, cutK_take]
  exact q
theorem lsl_drop (hi : ρ[i]? = some (some (.loc n))) (hj : ρ[j]? = some (some (.int k))) (hk : k = (a : Int)) (hn : st[n]? = some (.lst (W.map .str))) (q : Q (.loc st.length) (st ++ [.lst ((W.drop a).map .str)])) : dSl (dVar i) (dPart (dVar j)) dNoPart ρ st Q Z := by
  rw [s_sl]
  refine var_ev hi ?_
  rw [s_part]
  refine var_ev hj ?_
  show dNoPart _ _ _ _
  rw [s_noPart, s_slv_loc]
  refine ⟨_, hn, ?_⟩
  rw [cutL_map, hk, cutK_drop]
  exact q
theorem lsl_drop1 (hi : ρ[i]? = some (some (.loc n))) (hj : ρ[j]? = some (some (.int k))) (hk : k = (a : Int)) (hn : st[n]? = some (.lst (W.map .str))) (q : Q (.loc st.length) (st ++ [.lst ((W.drop (a + 1)).map .str)])) : dSl (dVar i) (dPart (dOp dAdd (dVar j) (dC (.int 1)))) dNoPart ρ st Q Z := by
  rw [s_sl]
  refine var_ev hi ?_
  rw [s_part, s_op]
  refine var_ev hj ?_
  rw [s_c, s_add_int]
  show dNoPart _ _ _ _
  rw [s_noPart, s_slv_loc]
  refine ⟨_, hn, ?_⟩
  rw [cutL_map, hk, show (a : Int) + 1 = ((a + 1 : Nat) : Int) from rfl, cutK_drop]
  exact q
theorem lcat_ev {m k : Nat} {A B : List Str} (ha : st[m]? = some (.lst (A.map .str))) (hb : st[k]? = some (.lst (B.map .str))) (hl : A.length + B.length < 1000) (q : Q (.loc st.length) (st ++ [.lst ((A ++ B).map .str)])) : dAdd (.loc m) (.loc k) st Q := by
  rw [s_add_loc]
  refine ⟨_, _, ha, hb, szk _ (by simp only [List.length_map]; omega), ?_⟩
  rw [← List.map_append]
  exact q
end
theorem spl_freeC {s : Nat} : ∀ (n : Nat) (l : List Nat), l.length ≤ n → ∀ p ∈ spl [s] 0 [] l, s ∉ p
  | n, l, hn, p, hp => by
    rw [spl1] at hp
    cases h : par [s] [] l with
    | none =>
      rw [h] at hp
      rw [List.mem_singleton.mp hp]
      exact par1_none h
    | some q =>
      rw [h] at hp
      obtain ⟨q', e1, e2, hq⟩ := par1_some (a := q.1) (r := q.2) (by rw [h])
      rcases List.mem_cons.mp hp with rfl | hp
      · rw [e1]; simpa using hq
      · match n with
        | 0 => rw [e2] at hn; simp at hn
        | n + 1 => exact spl_freeC n q.2 (by rw [e2] at hn; simp at hn; omega) p hp
def cntS (W : List Str) : Nat := (W.map fun w => (tl w).count 32 + 1).sum
theorem cntS_app (A B : List Str) : cntS (A ++ B) = cntS A + cntS B := by unfold cntS; rw [List.map_append, List.sum_append]
theorem lenS_app (A B : List Str) : lenS (A ++ B) = lenS A + lenS B := by unfold lenS; rw [List.map_append, List.sum_append]
theorem lenS_one (w : Str) : lenS [w] = w.length + 1 := by unfold lenS; simp
theorem cntS_one (w : Str) : cntS [w] = (tl w).count 32 + 1 := by unfold cntS; simp
theorem cntS_len : ∀ W : List Str, W.length ≤ cntS W
  | [] => Nat.zero_le _
  | w :: W => by have := cntS_len W; unfold cntS at this ⊢; simp only [List.length_cons, List.map_cons, List.sum_cons]; omega
theorem joinL_cntS : ∀ {W : List Str}, W ≠ [] → (joinL [32] (W.map tl)).count 32 + 1 = cntS W
  | [], h => absurd rfl h
  | [w], _ => by simp [joinL, cntS]
  | w :: w2 :: W, _ => by
    have ih := joinL_cntS (W := w2 :: W) (by simp)
    rw [List.map_cons, joinL_cons (by simp)]
    unfold cntS at ih ⊢
    have e : List.count 32 [32] = 1 := rfl
    simp only [List.count_append, List.map_cons, List.sum_cons, e] at ih ⊢
    omega
theorem in_join {S p : List Nat} {y : Nat} (hy : y ∈ p) : ∀ {ps : List (List Nat)}, p ∈ ps → y ∈ joinL S ps
  | [q], h => by
    rw [List.mem_singleton] at h
    rw [← h]
    simpa [joinL] using hy
  | q :: r :: qs, h => by
    rw [joinL_cons (by simp)]
    rcases List.mem_cons.mp h with h | h
    · rw [← h]; exact List.mem_append_left _ hy
    · exact List.mem_append_right _ (List.mem_append_right _ (in_join hy h))
theorem join_in {W : List Str} {c : Nat} (h : c ∈ joinL [32] (W.map tl)) : c = 32 ∨ ∃ w ∈ W, c ∈ tl w := by
  rcases mem_join h with h | ⟨p, hp, hc⟩
  · exact .inl (List.mem_singleton.mp h)
  · obtain ⟨w, hw, rfl⟩ := List.mem_map.mp hp
    exact .inr ⟨w, hw, hc⟩
/-- one word of a line told otherwise -/
theorem bent_pc {line x s : Str} {a n : Nat} (hA : Asc line) (hx : (Txt.split line " ")[a]? = some x) (hs : Pc s n 3) :
    Pc (Txt.join " " ((Txt.split line " ").take a ++ [s] ++ (Txt.split line " ").drop (a + 1))) (line.length + n) ((tl line).count 32 + 3) := by
  have hsp := split_tl (x := line) tls2.2.2.1 (by simp) (by simp)
  have hj := join_spl (S := [32]) (by simp) (by simp) (tl line)
  rw [← hsp] at hj
  have hne := split_neK line " " (by decide) (by decide)
  generalize hW : Txt.split line " " = W at hsp hj hne hx ⊢
  obtain ⟨hlt, hget⟩ := List.getElem?_eq_some_iff.mp hx
  have eW : W = W.take a ++ [x] ++ W.drop (a + 1) := by
    conv => lhs; rw [← List.take_append_drop a W, List.drop_eq_getElem_cons hlt, hget]
    simp
  have l1 := joinL_lenS (S := [32]) rfl hne
  have c1 := joinL_cntS hne
  rw [hj] at l1 c1
  have hne2 : W.take a ++ [s] ++ W.drop (a + 1) ≠ [] := by simp
  have l2 := joinL_lenS (S := [32]) rfl hne2
  have c2 := joinL_cntS hne2
  have e1 : lenS W = lenS (W.take a) + (x.length + 1) + lenS (W.drop (a + 1)) := by
    conv => lhs; rw [eW]
    rw [lenS_app, lenS_app, lenS_one]
  have e2 : cntS W = cntS (W.take a) + ((tl x).count 32 + 1) + cntS (W.drop (a + 1)) := by
    conv => lhs; rw [eW]
    rw [cntS_app, cntS_app, cntS_one]
  rw [lenS_app, lenS_app, lenS_one] at l2
  rw [cntS_app, cntS_app, cntS_one] at c2
  have ht : tl (Txt.join " " (W.take a ++ [s] ++ W.drop (a + 1))) = joinL [32] ((W.take a ++ [s] ++ W.drop (a + 1)).map tl) := by
    rw [TL.join_eq, TL.tl_join, tls2.2.2.1]
  have h1 := hs.len
  have h2 := hs.cnt
  rw [TL.len_tl] at h1
  have hlen := TL.len_tl line
  refine ⟨fun c hc => ?_, ?_, ?_⟩
  · rw [ht] at hc
    rcases join_in hc with hc | ⟨w, hw, hc⟩
    · omega
    · have inW : w ∈ W → c < 128 := fun hw => hA c (by
        rw [← hj]
        exact in_join hc (List.mem_map_of_mem hw))
      rcases List.mem_append.mp hw with hw | hw
      · rcases List.mem_append.mp hw with hw | hw
        · exact inW (List.mem_of_mem_take hw)
        · rw [List.mem_singleton.mp hw] at hc
          exact hs.asc c hc
      · exact inW (List.mem_of_mem_drop hw)
  · rw [TL.len_tl, ht]
    rw [← TL.len_tl] at h1
    omega
  · rw [ht]
    omega
def sp_bline : DSp := fun ds st Q _ => match ds with
  | [.loc h, .str w] => ∃ c, HdK st h c ∧ Asc w ∧ w.length ≤ 20000 ∧ (tl w).count 32 ≤ 900 ∧ ∀ s st', Pc s (3 * w.length + 420) ((tl w).count 32 + 3) → HdK st' h c → Sm h st st' → Q (.str s) st'
  | _ => False
theorem r__law_bent_line_k42 : Rd 2 sp_bline (RD.t__law_bent_line_k42 sp_drawK sp_bword) RD.N__law_bent_line_k42 := by
  intro ds st Q Z hl h
  match ds, hl, h with
  | [.loc h, .str w], _, ⟨c, H, hA, hw, hcnt, q⟩ =>
    have fin : ∀ s st', Pc s (3 * w.length + 420) ((tl w).count 32 + 3) → GrK h c st st' → DL.Back st Q (.str s) st' := fun s st' hs g => back_handK g rfl fun st1 H1 s1 => q s st1 hs H1 s1
    unfold RD.t__law_bent_line_k42
    show dSeq _ _ _ [some (.loc h), some (.str w), none, none] st
    have hsp := split_tl (x := w) tls2.2.2.1 (by simp) (by simp)
    have hj := join_spl (S := [32]) (by simp) (by simp) (tl w)
    rw [← hsp] at hj
    have hne := split_neK w " " (by decide) (by decide)
    have c1 := joinL_cntS hne
    rw [hj] at c1
    have hWl := cntS_len (Txt.split w " ")
    have hlw : ∀ x ∈ Txt.split w " ", x.length ≤ w.length := fun x hx => split_len hx
    have hbp : ∀ {x s : Str} {a n : Nat}, (Txt.split w " ")[a]? = some x → Pc s n 3 → Pc (Txt.join " " ((Txt.split w " ").take a ++ [s] ++ (Txt.split w " ").drop (a + 1))) (w.length + n) ((tl w).count 32 + 3) := fun hx hs => bent_pc hA hx hs
    have hfree : ∀ x ∈ Txt.split w " ", (tl x).count 32 = 0 ∧ Asc x := fun x hx => by
      have hm : tl x ∈ (Txt.split w " ").map tl := List.mem_map_of_mem hx
      refine ⟨?_, fun y hy => hA y ?_⟩
      · rw [hsp] at hm
        exact List.count_eq_zero.mpr (spl_freeC _ _ (Nat.le_refl _) _ hm)
      · rw [← hj]
        exact in_join hy hm
    rw [s_seq, s_asg, s_bm]
    refine var_ev (d := .str w) rfl ?_
    show tyD st "str" (.str w) ∧ _
    refine ⟨rfl, ?_⟩
    rw [s_cons, s_c, s_nil, s_split]
    refine ⟨by decide, sz1m (by omega), ?_⟩
    have hlt0 := H.hlt
    generalize Txt.split w " " = W at hne c1 hWl hlw hbp hfree
    rw [s_gN]
    have g1 := (GrK.refl H).app [Ob.lst (W.map .str)]
    have h1 : (st ++ [Ob.lst (W.map D.str)])[st.length]? = some (.lst (W.map .str)) := getElem?_push
    have l1 : (st ++ [Ob.lst (W.map D.str)]).length = st.length + 1 := by simp
    generalize st ++ [Ob.lst (W.map D.str)] = st1 at g1 h1 l1 ⊢
    try dsimp only
    show dSeq _ _ _ [some (.loc h), some (.str w), some (.loc st.length), none] st1
    have hpos := List.length_pos_iff.mpr hne
    rw [s_seq, s_asg, s_call, s_cons]
    refine var_ev (d := .loc h) rfl ?_
    rw [s_cons, s_cb, s_cons]
    refine var_ev (d := .loc st.length) rfl ?_
    rw [s_nil, s_len_loc, h1]
    try dsimp only
    rw [s_nil, e_drawK]
    refine ⟨rfl, c, g1.hd, by rw [List.length_map]; omega, by rw [List.length_map]; omega, fun r st2 r0 r1 H2 s2 => ?_⟩
    rw [List.length_map] at r1
    have g2 := g1.sm s2 H2
    have h2 : st2[st.length]? = some (.lst (W.map .str)) := by rw [s2.same _ (by omega)]; exact h1
    have l2 : st2.length = st.length + 1 := by rw [s2.len]; exact l1
    obtain ⟨a, rfl⟩ : ∃ a : Nat, r = a := ⟨r.toNat, by omega⟩
    obtain ⟨x, hx⟩ : ∃ x, W[a]? = some x := ⟨_, List.getElem?_eq_getElem (by omega)⟩
    have hxW := List.mem_of_getElem? hx
    try dsimp only
    rw [s_gN]
    try dsimp only
    show dRet _ _ [some (.loc h), some (.str w), some (.loc st.length), some (.int (a : Int))] st2
    rw [s_ret, s_bm, s_c]
    refine ⟨rfl, ?_⟩
    rw [s_cons, s_op, s_op]
    refine lsl_take (n := st.length) (a := a) (W := W) rfl rfl rfl h2 ?_
    have g3 := g2.app [Ob.lst ((W.take a).map .str)]
    have h3 : (st2 ++ [Ob.lst ((W.take a).map D.str)])[st.length]? = some (.lst (W.map .str)) := gb h2
    have t3 : (st2 ++ [Ob.lst ((W.take a).map D.str)])[st.length + 1]? = some (.lst ((W.take a).map .str)) := by rw [← l2]; exact getElem?_push
    have l3 : (st2 ++ [Ob.lst ((W.take a).map D.str)]).length = st.length + 2 := by simp; omega
    rw [l2]
    generalize st2 ++ [Ob.lst ((W.take a).map D.str)] = st3 at g3 h3 t3 l3 ⊢
    rw [s_dlst, s_cons, s_call, s_cons]
    refine var_ev (d := .loc h) rfl ?_
    rw [s_cons, s_op]
    refine var_ev (d := .loc st.length) rfl ?_
    refine var_ev (d := .int (a : Int)) rfl ?_
    rw [s_ix_loc]
    refine ⟨_, .str x, h3, atI_nat (by rw [List.getElem?_map, hx]; rfl), ?_⟩
    rw [s_nil]
    have hxl := hlw x hxW
    obtain ⟨hx0, hxA⟩ := hfree x hxW
    refine ⟨rfl, c, g3.hd, hxA, by omega, fun s st4 hs H4 s4 => ?_⟩
    have g4 := g3.sm s4 H4
    have h4 : st4[st.length]? = some (.lst (W.map .str)) := by rw [s4.same _ (by omega)]; exact h3
    have t4 : st4[st.length + 1]? = some (.lst ((W.take a).map .str)) := by rw [s4.same _ (by omega)]; exact t3
    have l4 : st4.length = st.length + 2 := by rw [s4.len]; exact l3
    try dsimp only
    rw [s_nil]
    refine ⟨szk _ (by simp), ?_⟩
    have g5 := g4.app [Ob.lst ([s].map .str)]
    have h5 : (st4 ++ [Ob.lst ([s].map D.str)])[st.length]? = some (.lst (W.map .str)) := gb h4
    have t5 : (st4 ++ [Ob.lst ([s].map D.str)])[st.length + 1]? = some (.lst ((W.take a).map .str)) := gb t4
    have u5 : (st4 ++ [Ob.lst ([s].map D.str)])[st.length + 2]? = some (.lst ([s].map .str)) := by rw [← l4]; exact getElem?_push
    have l5 : (st4 ++ [Ob.lst ([s].map D.str)]).length = st.length + 3 := by simp; omega
    rw [show ([.str s] : List D) = [s].map D.str from rfl, l4]
    generalize st4 ++ [Ob.lst ([s].map D.str)] = st5 at g5 h5 t5 u5 l5 ⊢
    have htk : (W.take a).length ≤ W.length := by rw [List.length_take]; omega
    refine lcat_ev t5 u5 (by simp only [List.length_cons, List.length_nil]; omega) ?_
    have g6 := g5.app [Ob.lst ((W.take a ++ [s]).map .str)]
    have h6 : (st5 ++ [Ob.lst ((W.take a ++ [s]).map D.str)])[st.length]? = some (.lst (W.map .str)) := gb h5
    have v6 : (st5 ++ [Ob.lst ((W.take a ++ [s]).map D.str)])[st.length + 3]? = some (.lst ((W.take a ++ [s]).map .str)) := by rw [← l5]; exact getElem?_push
    have l6 : (st5 ++ [Ob.lst ((W.take a ++ [s]).map D.str)]).length = st.length + 4 := by simp; omega
    rw [l5]
    generalize st5 ++ [Ob.lst ((W.take a ++ [s]).map D.str)] = st6 at g6 h6 v6 l6 ⊢
    refine lsl_drop1 (n := st.length) (a := a) (W := W) rfl rfl rfl h6 ?_
    have g7 := g6.app [Ob.lst ((W.drop (a + 1)).map .str)]
    have v7 : (st6 ++ [Ob.lst ((W.drop (a + 1)).map D.str)])[st.length + 3]? = some (.lst ((W.take a ++ [s]).map .str)) := gb v6
    have w7 : (st6 ++ [Ob.lst ((W.drop (a + 1)).map D.str)])[st.length + 4]? = some (.lst ((W.drop (a + 1)).map .str)) := by rw [← l6]; exact getElem?_push
    rw [l6]
    generalize st6 ++ [Ob.lst ((W.drop (a + 1)).map D.str)] = st7 at g7 v7 w7 ⊢
    have hdk : (W.take a).length + (W.drop (a + 1)).length ≤ W.length := by rw [List.length_take, List.length_drop]; omega
    refine lcat_ev v7 w7 (by simp only [List.length_append, List.length_cons, List.length_nil]; omega) ?_
    have g8 := g7.app [Ob.lst ((W.take a ++ [s] ++ W.drop (a + 1)).map .str)]
    have x8 : (st7 ++ [Ob.lst ((W.take a ++ [s] ++ W.drop (a + 1)).map D.str)])[st7.length]? = some (.lst ((W.take a ++ [s] ++ W.drop (a + 1)).map .str)) := getElem?_push
    generalize hst8 : st7 ++ [Ob.lst ((W.take a ++ [s] ++ W.drop (a + 1)).map D.str)] = st8 at g8 x8 ⊢
    rw [s_nil, s_join]
    have hs' : Pc s (2 * x.length + 420) 3 := hs.le (by unfold bl; omega) (by unfold bc; omega)
    have hres := hbp hx hs'
    refine ⟨W.take a ++ [s] ++ W.drop (a + 1), by simp only [itemsD, x8], ?_, fin _ st8 (hres.le (by omega) (Nat.le_refl _)) g8⟩
    have hne2 : W.take a ++ [s] ++ W.drop (a + 1) ≠ [] := by simp
    have hjl := joinL_lenS (S := [32]) rfl hne2
    have hrl := hres.len
    rw [TL.len_tl, TL.join_eq, TL.tl_join, tls2.2.2.1] at hrl
    have hls : ∀ V : List Str, (V.map (·.length)).sum + V.length = lenS V := fun V => by
      induction V with
      | nil => rfl
      | cons v V ih => unfold lenS at ih ⊢; simp only [List.map_cons, List.sum_cons, List.length_cons]; omega
    have := hls (W.take a ++ [s] ++ W.drop (a + 1))
    have e1 : (" " : Str).length = 1 := rfl
    rw [e1]
    omega
end CM
namespace CM
open PySem L2 PySem.Spec DL
open PyProof.Rows hiding St
open TL (tl pre spl par numL joinL)
theorem lines_in {c : Nat} : ∀ {W : List Str}, c ∈ tl (linesT W) → c = 10 ∨ ∃ w ∈ W, c ∈ tl w
  | [], h => by rw [tl_lines_nil] at h; cases h
  | w :: W, h => by
    rw [tl_lines_cons] at h
    rcases List.mem_append.mp h with h | h
    · exact .inr ⟨w, List.mem_cons_self, h⟩
    rcases List.mem_cons.mp h with h | h
    · exact .inl h
    · rcases lines_in h with h | ⟨v, hv, hc⟩
      · exact .inl h
      · exact .inr ⟨v, List.mem_cons_of_mem _ hv, hc⟩
theorem count_j32 {ps : List (List Nat)} (h : ∀ p ∈ ps, 32 ∉ p) : (joinL [32] ps).count 32 ≤ ps.length := by
  induction ps with
  | nil => simp [joinL]
  | cons p ps ih =>
    have hp : p.count 32 = 0 := List.count_eq_zero.mpr (h p List.mem_cons_self)
    have := ih fun q hq => h q (List.mem_cons_of_mem _ hq)
    cases ps with
    | nil => simp [joinL, hp]
    | cons q qs =>
      rw [joinL_cons (by simp)]
      simp only [List.count_append, List.length_cons] at this ⊢
      have e : List.count 32 [32] = 1 := rfl
      omega
theorem count_trpT {t : Trp} (h : TrpV t) : (tl (trpT t)).count 32 ≤ 2 + t.2.2.length := by
  have h32 : ∀ s : Str, nameS s = true → 32 ∉ tl s := fun s hs hc => by have := name_in hs 32 hc; omega
  rw [tl_trpT, List.count_append, List.count_eq_zero.mpr (h32 _ h.1), List.count_cons]
  have := count_j32 (ps := vL t.2.1 :: t.2.2.map tl) fun p hp => by
    rcases List.mem_cons.mp hp with rfl | hp
    · exact fun hc => by have := vL_in hc; omega
    · obtain ⟨s, hs, rfl⟩ := List.mem_map.mp hp
      exact h32 s (namesF_names h.2.2 s hs)
  simp only [List.length_cons, List.length_map] at this
  rw [if_pos (by decide)]
  omega
end CM
namespace CM
open PySem L2 PySem.Spec DL
open PyProof.Rows hiding St
open TL (tl pre spl par numL joinL)
structure LV (W : List Str) (t c : Nat) : Prop where
  asc : ∀ w ∈ W, Asc w
  len : lenS W ≤ t
  cnt : cntS W ≤ c
theorem LV.le {W : List Str} {t c t' c' : Nat} (h : LV W t c) (h1 : t ≤ t') (h2 : c ≤ c') : LV W t' c' := ⟨h.asc, Nat.le_trans h.len h1, Nat.le_trans h.cnt h2⟩
theorem LV.app {A B : List Str} {t c t' c' : Nat} (h : LV A t c) (k : LV B t' c') : LV (A ++ B) (t + t') (c + c') :=
  ⟨fun w hw => by rcases List.mem_append.mp hw with hw | hw; exact h.asc w hw; exact k.asc w hw, by rw [lenS_app]; have := h.len; have := k.len; omega, by rw [cntS_app]; have := h.cnt; have := k.cnt; omega⟩
theorem LV.one {w : Str} {t c : Nat} (h : Pc w t c) : LV [w] (t + 1) (c + 1) :=
  ⟨fun x hx => by rw [List.mem_singleton.mp hx]; exact h.asc, by rw [lenS_one]; have := h.len; omega, by rw [cntS_one]; have := h.cnt; omega⟩
theorem LV.of {W : List Str} (h : ∀ w ∈ W, Asc w) : LV W (lenS W) (cntS W) := ⟨h, Nat.le_refl _, Nat.le_refl _⟩
theorem LV.many {W : List Str} {t c : Nat} (h : LV W t c) : W.length ≤ c := Nat.le_trans (cntS_len W) h.cnt
theorem lcS_mem {w : Str} : ∀ {W : List Str}, w ∈ W → w.length + 1 ≤ lenS W ∧ (tl w).count 32 + 1 ≤ cntS W
  | x :: W, h => by
    unfold lenS cntS
    simp only [List.map_cons, List.sum_cons]
    rcases List.mem_cons.mp h with h | h
    · rw [← h]; omega
    · have := lcS_mem h
      unfold lenS cntS at this
      omega
theorem LV.pc {W : List Str} {t c : Nat} (h : LV W t c) {w : Str} (hw : w ∈ W) : Pc w t c := by
  have := lcS_mem hw
  have := h.len
  have := h.cnt
  exact ⟨h.asc w hw, by omega, by omega⟩
theorem split3 (W : List Str) (a : Nat) : lenS (W.take a) + lenS (W.drop a) = lenS W ∧ cntS (W.take a) + cntS (W.drop a) = cntS W := by
  have := List.take_append_drop a W
  constructor
  · conv => rhs; rw [← this, lenS_app]
  · conv => rhs; rw [← this, cntS_app]
theorem lines_lenS (W : List Str) : (linesT W).length = lenS W := linesT_lenS W
theorem lines_cnt : ∀ W : List Str, (tl (linesT W)).count 32 ≤ cntS W
  | [] => by rw [tl_lines_nil]; simp
  | w :: W => by
    have := lines_cnt W
    unfold cntS at this ⊢
    rw [tl_lines_cons, List.count_append, List.count_cons, if_neg (by decide)]
    simp only [List.map_cons, List.sum_cons]
    omega
theorem lines_pc {W : List Str} {t c : Nat} (h : LV W t c) : Pc (linesT W) t c := by
  refine ⟨fun x hx => ?_, by rw [lines_lenS]; exact h.len, Nat.le_trans (lines_cnt W) h.cnt⟩
  rcases lines_in hx with hx | ⟨w, hw, hc⟩
  · omega
  · exact h.asc w hw x hc
/-- ''.join([line + '\n' for line in W]) -/
theorem jl_ev {te : DTE} {ti : DTE} {v i n : Nat} {ρ : Env'} {st : Sto} {Q : DK} {Z : DZ} {W : List Str} {t c : Nat} (hte : te = dOp dAdd (dVar v) (dC (.str "\n"))) (hv : v < ρ.length) (hti : ∀ (QE : DK) Z, (∀ g m, (st ++ g)[m]? = some (.lst (W.map .str)) → QE (.loc m) (st ++ g)) → ti ρ st QE Z) (hW : LV W t c) (ht : t < 900000) (hc : c < 1000)
    (q : ∀ g, Q (.str (linesT W)) (st ++ g)) : dBM "str" dJoin (dC (.str "")) (dCons (dLc (iD ti) (gN v) dYes te [v]) dNil) ρ st Q Z := by
  subst hte
  rw [s_bm, s_c]
  refine ⟨rfl, ?_⟩
  rw [s_cons, s_lc, s_iD]
  refine hti _ _ fun g m hm => ?_
  have hl1 := hW.len
  have hl2 := hW.many
  show walkD _ (.loc m) _
  rw [s_walk_loc]
  refine ⟨_, hm, ?_⟩
  refine runC_mem (inj := D.str) (out := fun w => .str (lineS w)) hm W [] (fun w hw QT hq => ?_) (by simp; omega) ?_
  · have := lcS_mem hw
    have nl : ("\n" : Str).length = 1 := rfl
    refine addS_evK (x := w) (y := "\n") (fun QE Z qe => var_ev (d := .str w) ?_ qe) (fun QE Z qe => qe) (by rw [nl]; exact sz_big (by omega)) hq
    rw [List.getElem?_set_self (by simpa using hv)]
  · rw [List.nil_append, s_nil, s_join]
    have e0 : W.map (fun w => D.str (lineS w)) = (W.map lineS).map D.str := by rw [List.map_map]; rfl
    rw [e0]
    refine ⟨W.map lineS, by simp only [itemsD, getElem?_push], ?_, ?_⟩
    · have : ∀ V : List Str, ((V.map lineS).map (·.length)).sum = lenS V := fun V => by
        induction V with
        | nil => rfl
        | cons x V ih =>
          unfold lenS at ih ⊢
          simp only [List.map_cons, List.sum_cons, lineS_len] at ih ⊢
          omega
      rw [this, List.length_map]
      have e : ("" : Str).length = 0 := rfl
      rw [e]
      omega
    · rw [List.append_assoc]
      exact q _
theorem cutK2 {α : Type} (W : List α) (a : Nat) : cutL W (some (a : Int)) (some ((a + 1 : Nat) : Int)) = (W.drop a).take 1 := by
  have e : ∀ d, ∀ j : Nat, _root_.HT.sIx W.length d (some (j : Int)) = min j W.length := fun d j => by
    show (if ((j : Int)) < 0 then ((j : Int) + (W.length : Int)).toNat else min (j : Int).toNat W.length) = _
    rw [if_neg (by omega)]
    rfl
  unfold cutL
  rw [e, e]
  by_cases h : a < W.length
  · rw [Nat.min_eq_left (by omega), Nat.min_eq_left (by omega)]
    congr 1
    omega
  · have h1 : min a W.length = W.length := Nat.min_eq_right (by omega)
    have h2 : min (a + 1) W.length = W.length := Nat.min_eq_right (by omega)
    rw [h1, h2, List.drop_eq_nil_of_le (Nat.le_refl _), List.drop_eq_nil_of_le (by omega)]
    simp
/-- A + [x] + B -/
theorem tail3 {te : DTE} {ρ : Env'} {st : Sto} {Q : DK} {Z : DZ} {p : Nat} {A B : List Str} {x : Str} (hA : st[p]? = some (.lst (A.map .str)))
    (hB : ∀ (g : Sto) (QE : DK) Z, QE (.loc (st ++ g).length) (st ++ g ++ [.lst (B.map .str)]) → te ρ (st ++ g) QE Z) (hl : A.length + 1 + B.length < 1000)
    (q : ∀ m g, (st ++ g)[m]? = some (.lst ((A ++ [x] ++ B).map .str)) → st.length ≤ m → Q (.loc m) (st ++ g)) :
    dAdd (.loc p) (.loc st.length) (st ++ [.lst [.str x]]) (fun z S => te ρ S (fun y S2 => dAdd z y S2 Q) Z) := by
  have h0 : (st ++ [Ob.lst [D.str x]])[p]? = some (.lst (A.map .str)) := gb hA
  have h1 : (st ++ [Ob.lst [D.str x]])[st.length]? = some (.lst (([x] : List Str).map .str)) := getElem?_push
  refine lcat_ev h0 h1 (by simp; omega) ?_
  have e1 : st ++ [Ob.lst [D.str x]] ++ [Ob.lst ((A ++ [x]).map D.str)] = st ++ [Ob.lst [D.str x], Ob.lst ((A ++ [x]).map D.str)] := by simp
  have h2 : (st ++ [Ob.lst [D.str x], Ob.lst ((A ++ [x]).map D.str)])[st.length + 1]? = some (.lst ((A ++ [x]).map .str)) := by
    rw [List.getElem?_append_right (by omega)]; simp
  rw [e1, show (st ++ [Ob.lst [D.str x]]).length = st.length + 1 by simp]
  refine hB _ _ _ ?_
  have h3 : (st ++ [Ob.lst [D.str x], Ob.lst ((A ++ [x]).map D.str)] ++ [Ob.lst (B.map D.str)])[st.length + 1]? = some (.lst ((A ++ [x]).map .str)) := gb h2
  refine lcat_ev h3 getElem?_push (by simp; omega) ?_
  have e2 : st ++ [Ob.lst [D.str x], Ob.lst ((A ++ [x]).map D.str)] ++ [Ob.lst (B.map D.str)] ++ [Ob.lst ((A ++ [x] ++ B).map D.str)] = st ++ [Ob.lst [D.str x], Ob.lst ((A ++ [x]).map D.str), Ob.lst (B.map D.str), Ob.lst ((A ++ [x] ++ B).map D.str)] := by simp
  rw [e2]
  refine q _ _ ?_ ?_
  · rw [List.getElem?_append_right (by simp)]; simp
  · simp
end CM
namespace CM
open PySem L2 PySem.Spec DL
open PyProof.Rows hiding St
open TL (tl pre spl par numL joinL)
def sp_blines : DSp := fun ds st Q _ => match ds with
  | [.loc h, .loc n] => ∃ c W t k, HdK st h c ∧ st[n]? = some (.lst (W.map .str)) ∧ LV W t k ∧ t ≤ 15000 ∧ k ≤ 450 ∧ ∀ W' st', LV W' (3 * t + 420) (2 * k + 3) → HdK st' h c → Sm h st st' → Q (.loc st.length) (st' ++ [.lst (W'.map .str)])
  | _ => False
theorem blws_strsK (n : Nat) : ∀ W : List Str, D.blws n (W.map .str) = true
  | [] => rfl
  | w :: W => by simp [D.blws, D.blw, blws_strsK n W]
theorem nums_pc {m : Nat} (h : m < 200000) : Pc (toString ((m : Nat) : Int) : Str) 7 0 := by
  have hn := num7 (n := m) (by omega)
  have e : tl (toString ((m : Nat) : Int) : Str) = numL m := TL.tl_num m
  refine ⟨fun c hc => ?_, ?_, ?_⟩
  · rw [e] at hc
    have := numL_in hc
    omega
  · rw [TL.len_tl, e]; exact hn
  · rw [e, List.count_eq_zero.mpr fun hc => by have := numL_in hc; omega]
    exact Nat.le_refl 0
theorem lits9 : ∀ s ∈ (["", " ", "check", "check 0", "a 0.0.0", "zzz 1.0.0", "check 1.0.0", "~", "a"] : List Str), Pc s 20 1 := by
  intro s hs
  simp only [List.mem_cons, List.not_mem_nil, or_false] at hs
  rcases hs with rfl | rfl | rfl | rfl | rfl | rfl | rfl | rfl | rfl <;> exact .lit (by decide) (by decide) (by decide)
theorem lsl_one {ρ : Env'} {st : Sto} {Q : DK} {Z : DZ} {i j n a : Nat} {W : List Str} (hi : ρ[i]? = some (some (.loc n))) (hj : ρ[j]? = some (some (.int (a : Int)))) (hn : st[n]? = some (.lst (W.map .str))) (q : Q (.loc st.length) (st ++ [.lst (((W.drop a).take 1).map .str)])) : dSl (dVar i) (dPart (dVar j)) (dPart (dOp dAdd (dVar j) (dC (.int 1)))) ρ st Q Z := by
  rw [s_sl]
  refine var_ev hi ?_
  rw [s_part]
  refine var_ev hj ?_
  show dPart _ _ _ _ _
  rw [s_part, s_op]
  refine var_ev hj ?_
  rw [s_c, s_add_int]
  show dSlV _ _ _ _ _
  rw [s_slv_loc]
  refine ⟨_, hn, ?_⟩
  rw [cutL_map, show (a : Int) + 1 = ((a + 1 : Nat) : Int) from rfl, cutK2]
  exact q
theorem r__law_bent_lines : Rd 2 sp_blines (RD.t__law_bent_lines sp_drawK sp_anyK sp_lcheck sp_bline) RD.N__law_bent_lines := by
  intro ds st Q Z hl h
  match ds, hl, h with
  | [.loc h, .loc n], _, ⟨c, W, t, k, H, hn, hLV, ht, hk, q⟩ =>
    have hnh : n ≠ h := by
      rintro rfl
      obtain ⟨cells, a, b, d, e, h1, _⟩ := H.ex
      rw [hn] at h1; cases h1
    have fin : ∀ W' st' m, LV W' (3 * t + 420) (2 * k + 3) → GrK h c st st' → st'[m]? = some (.lst (W'.map .str)) → st.length ≤ m → DL.Back st Q (.loc m) st' := fun W' st' m hW g hm hge => back_handLK g hm hge (blws_strsK _ W') fun st1 H1 s1 => q W' st1 hW H1 s1
    have hWl := hLV.many
    have hWt := hLV.len
    have hWc := hLV.cnt
    have hlt0 := H.hlt
    unfold RD.t__law_bent_lines
    show dSeq _ _ _ [some (.loc h), some (.loc n), none, none, none, none, none, none] st
    rw [s_seq, s_par, s_cons, s_call, s_cons]
    refine var_ev (d := .loc h) rfl ?_
    rw [s_cons, s_op, s_cb, s_cons]
    refine var_ev (d := .loc n) rfl ?_
    rw [s_nil, s_len_loc, hn]
    try dsimp only
    rw [s_c, s_add_int, s_nil, e_drawK]
    refine ⟨rfl, c, H, by omega, by rw [List.length_map]; omega, fun r st1 r0 r1 H1 s1 => ?_⟩
    rw [List.length_map] at r1
    have g1 := GrK.of H H1 s1
    have n1 : st1[n]? = some (.lst (W.map .str)) := by rw [s1.same _ hnh]; exact hn
    obtain ⟨a, rfl⟩ : ∃ a : Nat, r = a := ⟨r.toNat, by omega⟩
    try dsimp only
    rw [s_cons, s_call, s_cons]
    refine var_ev (d := .loc h) rfl ?_
    rw [s_cons, s_op, s_cb, s_cons]
    refine var_ev (d := .loc n) rfl ?_
    rw [s_nil, s_len_loc, n1]
    try dsimp only
    rw [s_c, s_add_int, s_nil, e_drawK]
    refine ⟨rfl, c, H1, by omega, by rw [List.length_map]; omega, fun r' st2 r0' r1' H2 s2 => ?_⟩
    rw [List.length_map] at r1'
    have g2 := g1.sm s2 H2
    have n2 : st2[n]? = some (.lst (W.map .str)) := by rw [s2.same _ hnh]; exact n1
    obtain ⟨b, rfl⟩ : ∃ b : Nat, r' = b := ⟨r'.toNat, by omega⟩
    try dsimp only
    rw [s_nil]
    try dsimp only
    show dSeq _ _ _ [some (.loc h), some (.loc n), some (.int (a : Int)), some (.int (b : Int)), none, none, none, none] st2
    -- rest, some
    have k1 := split3 W a
    have k2 := split3 (W.drop a) 1
    rw [List.drop_drop, show a + 1 = a + 1 from rfl] at k2
    have aT : ∀ w ∈ W.take a, Asc w := fun w hw => hLV.asc w (List.mem_of_mem_take hw)
    have aD : ∀ w ∈ W.drop (a + 1), Asc w := fun w hw => hLV.asc w (List.mem_of_mem_drop hw)
    have aD0 : ∀ w ∈ W.drop a, Asc w := fun w hw => hLV.asc w (List.mem_of_mem_drop hw)
    have aO : ∀ w ∈ (W.drop a).take 1, Asc w := fun w hw => aD0 w (List.mem_of_mem_take hw)
    have lT := LV.of aT
    have lD := LV.of aD
    have lD0 := LV.of aD0
    have lO := LV.of aO
    have mT := lT.many
    have mD := lD.many
    have mD0 := lD0.many
    have mO := lO.many
    have lR := lT.app lD
    generalize hRR : W.take a ++ W.drop (a + 1) = R at lR
    have mR := lR.many
    rw [s_seq, s_par, s_cons, s_op]
    refine lsl_take (n := n) (a := a) (W := W) rfl rfl rfl n2 ?_
    refine lsl_drop1 (n := n) (a := a) (W := W) rfl rfl rfl (gb n2) ?_
    have t3 : (st2 ++ [Ob.lst ((W.take a).map D.str)] ++ [Ob.lst ((W.drop (a + 1)).map D.str)])[st2.length]? = some (.lst ((W.take a).map .str)) := gb getElem?_push
    refine lcat_ev t3 getElem?_push (by omega) ?_
    rw [hRR]
    have g3 := ((g2.app [Ob.lst ((W.take a).map .str)]).app [Ob.lst ((W.drop (a + 1)).map .str)]).app [Ob.lst (R.map .str)]
    have n3 : (st2 ++ [Ob.lst ((W.take a).map D.str)] ++ [Ob.lst ((W.drop (a + 1)).map D.str)] ++ [Ob.lst (R.map D.str)])[n]? = some (.lst (W.map .str)) := gb (gb (gb n2))
    have r3 : (st2 ++ [Ob.lst ((W.take a).map D.str)] ++ [Ob.lst ((W.drop (a + 1)).map D.str)] ++ [Ob.lst (R.map D.str)])[(st2 ++ [Ob.lst ((W.take a).map D.str)] ++ [Ob.lst ((W.drop (a + 1)).map D.str)]).length]? = some (.lst (R.map .str)) := getElem?_push
    have hgl2 := g2.len
    generalize hrl : (st2 ++ [Ob.lst ((W.take a).map D.str)] ++ [Ob.lst ((W.drop (a + 1)).map D.str)]).length = rl at r3 ⊢
    have hrl1 : st.length < rl := by rw [← hrl]; simp; omega
    generalize st2 ++ [Ob.lst ((W.take a).map D.str)] ++ [Ob.lst ((W.drop (a + 1)).map D.str)] ++ [Ob.lst (R.map D.str)] = st3 at g3 n3 r3 ⊢
    rw [s_cons, s_dlst, s_cons, s_c, s_cons, s_c, s_cons, s_c, s_cons, s_c, s_cons, s_c, s_cons, s_c, s_cons, s_c, s_cons, s_c, s_cons, s_c, s_nil]
    refine ⟨szk _ (by simp), ?_⟩
    have l9 := lits9
    rw [show ([.str "", .str " ", .str "check", .str "check 0", .str "a 0.0.0", .str "zzz 1.0.0", .str "check 1.0.0", .str "~", .str "a"] : List D) = (["", " ", "check", "check 0", "a 0.0.0", "zzz 1.0.0", "check 1.0.0", "~", "a"] : List Str).map .str from rfl]
    have n9 : (["", " ", "check", "check 0", "a 0.0.0", "zzz 1.0.0", "check 1.0.0", "~", "a"] : List Str).length = 9 := rfl
    generalize (["", " ", "check", "check 0", "a 0.0.0", "zzz 1.0.0", "check 1.0.0", "~", "a"] : List Str) = L at l9 n9 ⊢
    rw [s_nil]
    have g4 := g3.app [Ob.lst (L.map .str)]
    have n4 : (st3 ++ [Ob.lst (L.map D.str)])[n]? = some (.lst (W.map .str)) := gb n3
    have r4 : (st3 ++ [Ob.lst (L.map D.str)])[rl]? = some (.lst (R.map .str)) := gb r3
    have s4 : (st3 ++ [Ob.lst (L.map D.str)])[st3.length]? = some (.lst (L.map .str)) := getElem?_push
    have hgl3 := g3.len
    have hrl2 : rl < st3.length := (List.getElem?_eq_some_iff.mp r3).1
    generalize st3 ++ [Ob.lst (L.map D.str)] = st4 at g4 n4 r4 s4 ⊢
    generalize st3.length = sl at s4 hgl3 hrl2 ⊢
    try dsimp only
    show dSeq _ _ _ [some (.loc h), some (.loc n), some (.int (a : Int)), some (.int (b : Int)), some (.loc rl), some (.loc sl), none, none] st4
    -- a check line more
    rw [s_seq, s_drop, s_bm]
    refine var_ev (d := .loc sl) rfl ?_
    show tyD st4 "list" (.loc sl) ∧ _
    refine ⟨by rw [s_tyD_loc, s4], ?_⟩
    rw [s_cons, s_op, s_c, s_cb, s_cons, s_call, s_cons]
    refine jl_ev (v := 6) (i := 1) (n := n) (W := W.take a) (t := lenS (W.take a)) (c := cntS (W.take a)) rfl (by simp) (fun QE Z qe => lsl_take (n := n) (a := a) (W := W) rfl rfl rfl n4 (qe _ _ getElem?_push)) lT (by omega) (by omega) fun g => ?_
    rw [s_nil]
    have hck := chk_lt (tl (linesT (W.take a)))
    refine ⟨rfl, by rw [lines_lenS]; omega, ?_⟩
    try dsimp only
    rw [s_nil, s_strI]
    refine ⟨log_small (by omega), ?_⟩
    have hck2 := nums_pc (m := chk (tl (linesT (W.take a)))) (by omega)
    have hpk := (Pc.lit (s := "check ") (a := 6) (c := 1) (by decide) (by decide) (by decide)).app hck2
    generalize (toString ((chk (tl (linesT (W.take a))) : Nat) : Int) : Str) = num at hck2 hpk ⊢
    have hnl := hck2.len
    show dAdd (.str "check ") (.str num) _ _
    rw [s_add_str]
    refine ⟨sz_big (by rw [show ("check " : Str).length = 6 from rfl]; omega), ?_⟩
    generalize ("check " : Str) ++ num = ck at hpk ⊢
    rw [s_nil, s_append]
    refine ⟨_, gb s4, by rw [List.length_map]; exact sizeLine_big (by omega), ?_⟩
    have hsl : st.length ≤ sl := by omega
    have hne1 : sl ≠ n := by have := (List.getElem?_eq_some_iff.mp hn).1; omega
    have hne2 : sl ≠ rl := by omega
    have hsl4 := (List.getElem?_eq_some_iff.mp s4).1
    have g5 := (g4.app g).set (n := sl) (o := .lst (L.map .str ++ [.str ck])) hsl
    have s5 : ((st4 ++ g).set sl (.lst (L.map .str ++ [.str ck])))[sl]? = some (.lst ((L ++ [ck]).map .str)) := by
      rw [List.getElem?_set_self (by simp; omega)]; simp
    have n5 : ((st4 ++ g).set sl (.lst (L.map .str ++ [.str ck])))[n]? = some (.lst (W.map .str)) := by rw [List.getElem?_set_ne hne1]; exact gb n4
    have r5 : ((st4 ++ g).set sl (.lst (L.map .str ++ [.str ck])))[rl]? = some (.lst (R.map .str)) := by rw [List.getElem?_set_ne hne2]; exact gb r4
    have l10 : ∀ s ∈ L ++ [ck], Pc s 20 1 := fun s hs => by
      rcases List.mem_append.mp hs with hs | hs
      · exact l9 s hs
      · rw [List.mem_singleton.mp hs]; exact hpk.le (by omega) (by omega)
    have n10 : (L ++ [ck]).length = 10 := by simp [n9]
    generalize (st4 ++ g).set sl (.lst (L.map .str ++ [.str ck])) = st5 at g5 s5 n5 r5 ⊢
    generalize L ++ [ck] = L' at s5 l10 n10
    try dsimp only
    -- the kind
    rw [s_seq, s_asg, s_call, s_cons]
    refine var_ev (d := .loc h) rfl ?_
    rw [s_cons, s_c, s_nil, e_drawK]
    refine ⟨rfl, c, g5.hd, by decide, by decide, fun kd st6 k0 k8 H6 s6 => ?_⟩
    have g6 := g5.sm s6 H6
    have hsh : sl ≠ h := by omega
    have hrh : rl ≠ h := by omega
    have n6 : st6[n]? = some (.lst (W.map .str)) := by rw [s6.same _ hnh]; exact n5
    have r6 : st6[rl]? = some (.lst (R.map .str)) := by rw [s6.same _ hrh]; exact r5
    have q6 : st6[sl]? = some (.lst (L'.map .str)) := by rw [s6.same _ hsh]; exact s5
    clear n1 n2 n3 n4 n5 r3 r4 r5 s4 s5 t3
    try dsimp only
    rw [s_gN]
    try dsimp only
    show dSeq _ _ _ [some (.loc h), some (.loc n), some (.int (a : Int)), some (.int (b : Int)), some (.loc rl), some (.loc sl), none, some (.int kd)] st6
    have hgl6 := g6.len
    rw [s_seq]
    generalize hT : dSeq _ _ _ = T
    have hnext : T [some (.loc h), some (.loc n), some (.int (a : Int)), some (.int (b : Int)), some (.loc rl), some (.loc sl), none, some (.int kd)] st6 := by
      subst hT
      rw [s_seq, s_ifS, s_test, s_op]
      refine var_ev (d := .int kd) rfl ?_
      rw [s_c]
      show dEqB id (.int kd) (.int 4) _ _
      rw [s_eq_int]
      try dsimp only [id]
      by_cases k4 : kd = 4
      · rw [if_pos (by simpa using k4), s_ret]
        refine var_ev (d := .loc rl) rfl ?_
        exact fin R st6 rl (lR.le (by omega) (by omega)) g6 r6 (by omega)
      rw [if_neg (by simpa using k4), s_next]
      try dsimp only
      rw [s_seq, s_ifS, s_test, s_op]
      refine var_ev (d := .int kd) rfl ?_
      rw [s_c]
      show dEqB id (.int kd) (.int 5) _ _
      rw [s_eq_int]
      try dsimp only [id]
      by_cases k5 : kd = 5
      · rw [if_pos (by simpa using k5), s_ret, s_op, s_op]
        have kR := split3 R b
        have lRe : lenS R = lenS (W.take a) + lenS (W.drop (a + 1)) := by rw [← hRR, lenS_app]
        have cRe : cntS R = cntS (W.take a) + cntS (W.drop (a + 1)) := by rw [← hRR, cntS_app]
        have lRT := LV.of (W := R.take b) fun w hw => lR.asc w (List.mem_of_mem_take hw)
        have lRD := LV.of (W := R.drop b) fun w hw => lR.asc w (List.mem_of_mem_drop hw)
        have mRT := lRT.many
        have mRD := lRD.many
        refine lsl_take (n := rl) (a := b) (W := R) rfl rfl rfl r6 ?_
        refine lsl_one (n := n) (a := a) (W := W) rfl rfl (gb n6) ?_
        have p1 : (st6 ++ [Ob.lst ((R.take b).map D.str)] ++ [Ob.lst (((W.drop a).take 1).map D.str)])[st6.length]? = some (.lst ((R.take b).map .str)) := gb getElem?_push
        refine lcat_ev p1 getElem?_push (by omega) ?_
        have r7 : (st6 ++ [Ob.lst ((R.take b).map D.str)] ++ [Ob.lst (((W.drop a).take 1).map D.str)] ++ [Ob.lst ((R.take b ++ (W.drop a).take 1).map D.str)])[rl]? = some (.lst (R.map .str)) := gb (gb (gb r6))
        have g7 := ((g6.app [Ob.lst ((R.take b).map D.str)]).app [Ob.lst (((W.drop a).take 1).map D.str)]).app [Ob.lst ((R.take b ++ (W.drop a).take 1).map D.str)]
        have p2 : (st6 ++ [Ob.lst ((R.take b).map D.str)] ++ [Ob.lst (((W.drop a).take 1).map D.str)] ++ [Ob.lst ((R.take b ++ (W.drop a).take 1).map D.str)])[(st6 ++ [Ob.lst ((R.take b).map D.str)] ++ [Ob.lst (((W.drop a).take 1).map D.str)]).length]? = some (.lst ((R.take b ++ (W.drop a).take 1).map .str)) := getElem?_push
        generalize (st6 ++ [Ob.lst ((R.take b).map D.str)] ++ [Ob.lst (((W.drop a).take 1).map D.str)]).length = pp at p2 ⊢
        generalize st6 ++ [Ob.lst ((R.take b).map D.str)] ++ [Ob.lst (((W.drop a).take 1).map D.str)] ++ [Ob.lst ((R.take b ++ (W.drop a).take 1).map D.str)] = st7 at r7 g7 p2 ⊢
        refine lsl_drop (n := rl) (a := b) (W := R) rfl rfl rfl r7 ?_
        refine lcat_ev (gb p2) getElem?_push (by simp only [List.length_append]; omega) ?_
        have hgl7 := g7.len
        exact fin (R.take b ++ (W.drop a).take 1 ++ R.drop b) _ _ (((lRT.app lO).app lRD).le (by omega) (by omega)) ((g7.app _).app _) getElem?_push (by simp; omega)
      rw [if_neg (by simpa using k5), s_next]
      try dsimp only
      rw [s_ret, s_op, s_op]
      refine lsl_take (n := n) (a := a) (W := W) rfl rfl rfl n6 ?_
      have g7 := g6.app [Ob.lst ((W.take a).map D.str)]
      have n7 : (st6 ++ [Ob.lst ((W.take a).map D.str)])[n]? = some (.lst (W.map .str)) := gb n6
      have q7 : (st6 ++ [Ob.lst ((W.take a).map D.str)])[sl]? = some (.lst (L'.map .str)) := gb q6
      have p7 : (st6 ++ [Ob.lst ((W.take a).map D.str)])[st6.length]? = some (.lst ((W.take a).map .str)) := getElem?_push
      have hph : st6.length ≠ h := by omega
      generalize st6 ++ [Ob.lst ((W.take a).map D.str)] = st7 at g7 n7 q7 p7 ⊢
      have go : ∀ (x : Str) (st8 : Sto), Pc x (t + 20) (k + 1) → GrK h c st st8 → st8[n]? = some (.lst (W.map .str)) → st8[st6.length]? = some (.lst ((W.take a).map .str)) →
          dAdd (.loc st6.length) (.loc st8.length) (st8 ++ [.lst [.str x]]) (fun z S => dSl (dVar 1) (dPart (dVar 2)) dNoPart [some (.loc h), some (.loc n), some (.int (a : Int)), some (.int (b : Int)), some (.loc rl), some (.loc sl), none, some (.int kd)] S (fun y S2 => dAdd z y S2 (DL.Back st Q)) (fun x _ st' => BackX st Z x st')) := by
        intro x st8 hx g8 n8 p8
        refine tail3 (B := W.drop a) p8 (fun g QE Z qe => lsl_drop (n := n) (a := a) (W := W) rfl rfl rfl (gb n8) qe) (by omega) fun m g hm hml => ?_
        have hgl8 := g8.len
        exact fin (W.take a ++ [x] ++ W.drop a) _ m (((lT.app (LV.one hx)).app lD0).le (by omega) (by omega)) (g8.app g) hm (by omega)
      rw [s_dlst, s_cons, s_if, s_test, s_op]
      refine var_ev (d := .int kd) rfl ?_
      rw [s_c]
      show dOrd _ _ (.int kd) (.int 7) _ _
      rw [s_ord_int]
      try dsimp only
      by_cases k7 : kd < 7
      · rw [if_pos (by simpa using k7), s_call, s_cons]
        refine var_ev (d := .loc h) rfl ?_
        rw [s_cons]
        refine var_ev (d := .loc sl) rfl ?_
        rw [s_nil, e_anyL]
        refine ⟨rfl, c, _, g7.hd, q7, hsh, by simp; omega, by simp; omega, fun e st8 he H8 s8 => ?_⟩
        obtain ⟨x, hx, rfl⟩ := List.mem_map.mp he
        try dsimp only
        rw [s_nil]
        refine ⟨szk _ (by simp), ?_⟩
        exact go x st8 ((l10 x hx).le (by omega) (by omega)) (g7.sm s8 H8) (by rw [s8.same _ hnh]; exact n7) (by rw [s8.same _ hph]; exact p7)
      · rw [if_neg (by simpa using k7), s_bm, s_c]
        refine ⟨rfl, ?_⟩
        rw [s_cons, s_sl]
        refine var_ev (d := .loc n) rfl ?_
        rw [s_noPart, s_part, s_c]
        show dSlV _ _ _ _ _
        rw [s_slv_loc]
        refine ⟨_, n7, ?_⟩
        rw [cutL_map, show (1 : Int) = ((1 : Nat) : Int) from rfl, cutK_take, s_nil, s_join]
        have g8 := g7.app [Ob.lst ((W.take 1).map D.str)]
        have n8 : (st7 ++ [Ob.lst ((W.take 1).map D.str)])[n]? = some (.lst (W.map .str)) := gb n7
        have p8 : (st7 ++ [Ob.lst ((W.take 1).map D.str)])[st6.length]? = some (.lst ((W.take a).map .str)) := gb p7
        have hx1 : Pc (Txt.join "" (W.take 1)) (t + 20) (k + 1) ∧ (((W.take 1).map (·.length)).sum ≤ t) := by
          cases hW : W with
          | nil =>
            refine ⟨?_, by simp⟩
            show Pc (Txt.join "" []) _ _
            have e : tl (Txt.join "" []) = [] := rfl
            exact Pc.le (a := 0) (c := 0) ⟨fun c hc => (by rw [e] at hc; cases hc), (by rw [TL.len_tl, e]; exact Nat.le_refl 0), (by rw [e]; exact Nat.le_refl 0)⟩ (by omega) (by omega)
          | cons w W0 =>
            have hw := hLV.pc (w := w) (by rw [hW]; simp)
            have e : Txt.join "" ((w :: W0).take 1) = w := by
              refine TL.ext_tl ?_
              rw [TL.join_eq, TL.tl_join]
              rfl
            rw [e]
            refine ⟨hw.le (by omega) (by omega), ?_⟩
            have := hw.len
            simpa using this
        refine ⟨W.take 1, by simp only [itemsD, getElem?_push], ?_, ?_⟩
        · have e0 : ("" : Str).length = 0 := rfl
          rw [e0]
          have := hx1.2
          omega
        · rw [s_nil]
          refine ⟨szk _ (by simp), ?_⟩
          exact go _ _ hx1.1 g8 n8 p8
    rw [s_ifS, s_and, s_test, s_op]
    refine var_ev (d := .int kd) rfl ?_
    rw [s_c]
    show dOrd _ _ (.int kd) (.int 4) _ _
    rw [s_ord_int]
    try dsimp only
    by_cases k3 : kd < 4
    · rw [if_pos (by simpa using k3), s_test, s_op]
      refine var_ev (d := .int (a : Int)) rfl ?_
      rw [s_cb, s_cons]
      refine var_ev (d := .loc n) rfl ?_
      rw [s_nil, s_len_loc, n6]
      try dsimp only
      show dOrd _ _ (.int (a : Int)) (.int ((W.map D.str).length : Int)) _ _
      rw [s_ord_int, List.length_map]
      try dsimp only
      by_cases ha : a < W.length
      · obtain ⟨x, hx⟩ : ∃ x, W[a]? = some x := ⟨_, List.getElem?_eq_getElem ha⟩
        have hxW := List.mem_of_getElem? hx
        have hxP := hLV.pc hxW
        have hxm := lcS_mem hxW
        have hxl := hxP.len
        have hxc := hxP.cnt
        have hO : (W.drop a).take 1 = [x] := by
          rw [List.drop_eq_getElem_cons ha, (List.getElem?_eq_some_iff.mp hx).2]; rfl
        rw [hO, lenS_one, cntS_one] at k2
        rw [if_pos (by simpa using ha), s_ret, s_op, s_op]
        refine lsl_take (n := n) (a := a) (W := W) rfl rfl rfl n6 ?_
        have g7 := g6.app [Ob.lst ((W.take a).map D.str)]
        have n7 : (st6 ++ [Ob.lst ((W.take a).map D.str)])[n]? = some (.lst (W.map .str)) := gb n6
        have p7 : (st6 ++ [Ob.lst ((W.take a).map D.str)])[st6.length]? = some (.lst ((W.take a).map .str)) := getElem?_push
        have hph : st6.length ≠ h := by omega
        generalize st6 ++ [Ob.lst ((W.take a).map D.str)] = st7 at g7 n7 p7 ⊢
        rw [s_dlst, s_cons, s_call, s_cons]
        refine var_ev (d := .loc h) rfl ?_
        rw [s_cons, s_op]
        refine var_ev (d := .loc n) rfl ?_
        refine var_ev (d := .int (a : Int)) rfl ?_
        rw [s_ix_loc]
        refine ⟨_, .str x, n7, atI_nat (by rw [List.getElem?_map, hx]; rfl), ?_⟩
        rw [s_nil]
        refine ⟨rfl, c, g7.hd, hxP.asc, by omega, by omega, fun s st8 hs H8 s8 => ?_⟩
        have g8 := g7.sm s8 H8
        have n8 : st8[n]? = some (.lst (W.map .str)) := by rw [s8.same _ hnh]; exact n7
        have p8 : st8[st6.length]? = some (.lst ((W.take a).map .str)) := by rw [s8.same _ hph]; exact p7
        try dsimp only
        rw [s_nil]
        refine ⟨szk _ (by simp), ?_⟩
        refine tail3 (B := W.drop (a + 1)) p8 (fun g QE Z qe => lsl_drop1 (n := n) (a := a) (W := W) rfl rfl rfl (gb n8) qe) (by omega) fun m g hm hml => ?_
        have hgl8 := g8.len
        exact fin (W.take a ++ [s] ++ W.drop (a + 1)) _ m (((lT.app (LV.one hs)).app lD).le (by omega) (by omega)) (g8.app g) hm (by omega)
      · rw [if_neg (by simpa using ha), s_next]
        exact hnext
    · rw [if_neg (by simpa using k3), if_neg (by simp), s_next]
      exact hnext
end CM
namespace CM
open PySem L2 PySem.Spec DL
open PyProof.Rows hiding St
open TL (tl pre spl par numL joinL)
section
variable {ρ : Env'} {st : Sto} {Q : DK} {Z : DZ} {A B x : Str} {i : Nat}
theorem c2_ev (hi : ρ[i]? = some (some (.str x))) (hA : A.length ≤ 100) (hx : x.length ≤ 100) (q : Q (.str (A ++ x)) st) : dOp dAdd (dC (.str A)) (dVar i) ρ st Q Z :=
  addS_evK (x := A) (y := x) (fun QE Z qe => qe) (fun QE Z qe => var_ev hi qe) (sz_big (by omega)) q
theorem c3_ev (hi : ρ[i]? = some (some (.str x))) (hA : A.length ≤ 100) (hx : x.length ≤ 100) (hB : B.length ≤ 100) (q : Q (.str (A ++ x ++ B)) st) : dOp dAdd (dOp dAdd (dC (.str A)) (dVar i)) (dC (.str B)) ρ st Q Z :=
  addS_evK (x := A ++ x) (y := B) (fun QE Z qe => c2_ev hi hA hx qe) (fun QE Z qe => qe) (by rw [app_len]; exact sz_big (by omega)) q
end
theorem pc3 {A B x : Str} (hA : Pc A 20 4) (hx : Pc x 20 0) (hB : Pc B 20 4) : Pc (A ++ x ++ B) 60 8 := (hA.app hx).app hB
theorem pc2 {A x : Str} (hA : Pc A 20 4) (hx : Pc x 20 0) : Pc (A ++ x) 60 8 := (hA.app hx).le (by omega) (by omega)
/-- str of the check of a text, and some more -/
theorem ckn_ev {ρ : Env'} {st : Sto} {Q : DK} {Z : DZ} {i : Nat} {b : Str} {m : Nat} (hi : ρ[i]? = some (some (.str b))) (hb : b.length ≤ 1000000) (hm : m ≤ 99991) (q : ∀ s, Pc s 20 0 → Q (.str s) st) : dCB dStrI (dCons (dOp dAdd (dCall 1 sp_lcheck (dCons (dVar i) dNil)) (dC (.int (m : Int)))) dNil) ρ st Q Z := by
  have hck := chk_lt (tl b)
  rw [s_cb, s_cons, s_op, s_call, s_cons]
  refine var_ev hi ?_
  rw [s_nil]
  refine ⟨rfl, hb, ?_⟩
  try dsimp only
  rw [s_c, s_add_int, s_nil, s_strI]
  rw [show ((chk (tl b) : Nat) : Int) + (m : Int) = ((chk (tl b) + m : Nat) : Int) from by omega]
  refine ⟨log_small (by omega), ?_⟩
  exact q _ ((nums_pc (by omega)).le (by omega) (Nat.le_refl _))
theorem ck0_ev {ρ : Env'} {st : Sto} {Q : DK} {Z : DZ} {te : DTE} (h : ∀ (QE : DK) Z, (∀ b g, b.length ≤ 1000000 → QE (.str b) (st ++ g)) → te ρ st QE Z) (q : ∀ s g, Pc s 20 0 → Q (.str s) (st ++ g)) : dCB dStrI (dCons (dCall 1 sp_lcheck (dCons te dNil)) dNil) ρ st Q Z := by
  rw [s_cb, s_cons, s_call, s_cons]
  refine h _ _ fun b g hb => ?_
  have hck := chk_lt (tl b)
  rw [s_nil]
  refine ⟨rfl, hb, ?_⟩
  try dsimp only
  rw [s_nil, s_strI]
  refine ⟨log_small (by omega), ?_⟩
  exact q _ _ ((nums_pc (by omega)).le (by omega) (Nat.le_refl _))
def sp_lend : DSp := fun ds st Q _ => match ds with
  | [.loc h, .loc n, .loc e] => ∃ c W t k V t' k', HdK st h c ∧ st[n]? = some (.lst (W.map .str)) ∧ st[e]? = some (.lst (V.map .str)) ∧ LV W t k ∧ t ≤ 60000 ∧ k ≤ 950 ∧ LV V t' k' ∧ t' ≤ 60000 ∧ k' ≤ 950 ∧ ∀ s st', Pc s 60 8 → HdK st' h c → Sm h st st' → Q (.str s) st'
  | _ => False
theorem r__law_end : Rd 3 sp_lend (RD.t__law_end sp_drawK sp_anyK sp_lcheck) RD.N__law_end := by
  intro ds st Q Z hl h
  match ds, hl, h with
  | [.loc h, .loc n, .loc e], _, ⟨c, W, t, k, V, t', k', H, hn, he, hW, ht, hk, hV, ht', hk', q⟩ =>
    have fin : ∀ s st', Pc s 60 8 → GrK h c st st' → DL.Back st Q (.str s) st' := fun s st' hs g => back_handK g rfl fun st1 H1 s1 => q s st1 hs H1 s1
    have hlt0 := H.hlt
    unfold RD.t__law_end
    show dSeq _ _ _ [some (.loc h), some (.loc n), some (.loc e), none, none, none, none, none, none] st
    rw [s_seq, s_asg]
    refine jl_ev (v := 4) (i := 1) (n := n) (W := W) (t := t) (c := k) rfl (by simp) (fun QE Z qe => var_ev (d := .loc n) rfl (by simpa using qe [] n (by simpa using hn))) hW (by omega) (by omega) fun g0 => ?_
    rw [s_gN]
    try dsimp only
    have hbl : (linesT W).length ≤ 60000 := by rw [lines_lenS]; have := hW.len; omega
    generalize linesT W = body at hbl ⊢
    have g1 := (GrK.refl H).app g0
    have he1 : (st ++ g0)[e]? = some (.lst (V.map .str)) := gb he
    generalize st ++ g0 = st1 at g1 he1 ⊢
    show dSeq _ _ _ [some (.loc h), some (.loc n), some (.loc e), some (.str body), none, none, none, none, none] st1
    rw [s_seq, s_par, s_cons]
    refine ck0_ev (fun QE Z qe => var_ev (d := .str body) rfl (by simpa using qe body [] (by omega))) fun right ga hr => ?_
    rw [s_cons]
    refine ck0_ev (fun QE Z qe => jl_ev (v := 4) (i := 2) (n := e) (W := V) (t := t') (c := k') rfl (by simp) (fun QE Z qe => var_ev (d := .loc e) rfl (by simpa using qe [] e (by simpa using gb he1))) hV (by omega) (by omega) fun g => qe _ g (by rw [lines_lenS]; have := hV.len; omega)) fun other gb' ho => ?_
    rw [s_nil]
    have g2 := (g1.app ga).app gb'
    generalize st1 ++ ga ++ gb' = st2 at g2 ⊢
    try dsimp only
    show dSeq _ _ _ [some (.loc h), some (.loc n), some (.loc e), some (.str body), none, some (.str right), some (.str other), none, none] st2
    rw [s_seq, s_asg, s_call, s_cons]
    refine var_ev (d := .loc h) rfl ?_
    rw [s_cons, s_c, s_nil, e_drawK]
    refine ⟨rfl, c, g2.hd, by decide, by decide, fun kd st3 k0 k8 H3 s3 => ?_⟩
    have g3 := g2.sm s3 H3
    try dsimp only
    rw [s_gN]
    try dsimp only
    show dSeq _ _ _ [some (.loc h), some (.loc n), some (.loc e), some (.str body), none, some (.str right), some (.str other), some (.int kd), none] st3
    have hrl := hr.len
    have hol := ho.len
    have P : ∀ {s : Str}, ((tl s).all fun x => decide (x < 128)) = true → s.length ≤ 20 → (tl s).count 32 ≤ 4 → Pc s 20 4 := fun h1 h2 h3 => .lit h1 h2 h3
    have pck : Pc ("check " : Str) 20 4 := P (by decide) (by decide) (by decide)
    have pnl : Pc ("\n" : Str) 20 4 := P (by decide) (by decide) (by decide)
    have lck : ("check " : Str).length ≤ 100 := by decide
    have lnl : ("\n" : Str).length ≤ 100 := by decide
    rw [s_seq, s_ifS, s_test, s_op]
    refine var_ev (d := .int kd) rfl ?_
    rw [s_c]
    show dOrd _ _ (.int kd) (.int 4) _ _
    rw [s_ord_int]
    try dsimp only
    by_cases k3 : kd < 4
    · rw [if_pos (by simpa using k3), s_ret]
      refine c3_ev (x := right) rfl lck (by omega) lnl ?_
      exact fin _ st3 (pc3 pck hr pnl) g3
    rw [if_neg (by simpa using k3), s_next]
    try dsimp only
    have hgl3 := g3.len
    -- the first six
    rw [s_seq, s_asg, s_dlst, s_cons]
    refine c3_ev (x := other) rfl lck (by omega) lnl ?_
    rw [s_cons]
    refine c3_ev (x := right) rfl (by decide) (by omega) lnl ?_
    rw [s_cons]
    refine c3_ev (x := right) rfl (by decide) (by omega) lnl ?_
    rw [s_cons]
    refine c2_ev (x := right) rfl lck (by omega) ?_
    rw [s_cons, s_c, s_cons, s_c, s_nil]
    refine ⟨szk _ (by simp), ?_⟩
    have l1 : ∀ s ∈ (["check " ++ other ++ "\n", "check 0" ++ right ++ "\n", "check  " ++ right ++ "\n", "check " ++ right, "", "check\n"] : List Str), Pc s 60 8 := by
      intro s hs
      simp only [List.mem_cons, List.not_mem_nil, or_false] at hs
      rcases hs with rfl | rfl | rfl | rfl | rfl | rfl
      · exact pc3 pck ho pnl
      · exact pc3 (P (by decide) (by decide) (by decide)) hr pnl
      · exact pc3 (P (by decide) (by decide) (by decide)) hr pnl
      · exact pc2 pck hr
      · exact .lit (by decide) (by decide) (by decide)
      · exact .lit (by decide) (by decide) (by decide)
    rw [show ([.str ("check " ++ other ++ "\n"), .str ("check 0" ++ right ++ "\n"), .str ("check  " ++ right ++ "\n"), .str ("check " ++ right), .str "", .str "check\n"] : List D) = (["check " ++ other ++ "\n", "check 0" ++ right ++ "\n", "check  " ++ right ++ "\n", "check " ++ right, "", "check\n"] : List Str).map .str from rfl]
    have n1 : (["check " ++ other ++ "\n", "check 0" ++ right ++ "\n", "check  " ++ right ++ "\n", "check " ++ right, "", "check\n"] : List Str).length = 6 := rfl
    generalize (["check " ++ other ++ "\n", "check 0" ++ right ++ "\n", "check  " ++ right ++ "\n", "check " ++ right, "", "check\n"] : List Str) = L1 at l1 n1 ⊢
    rw [s_gN]
    have g4 := g3.app [Ob.lst (L1.map .str)]
    have h4 : (st3 ++ [Ob.lst (L1.map D.str)])[st3.length]? = some (.lst (L1.map .str)) := getElem?_push
    generalize st3 ++ [Ob.lst (L1.map D.str)] = st4 at g4 h4 ⊢
    try dsimp only
    generalize st3.length = p at h4 hgl3 ⊢
    show dSeq _ _ _ [some (.loc h), some (.loc n), some (.loc e), some (.str body), none, some (.str right), some (.str other), some (.int kd), some (.loc p)] st4
    have hp4 := (List.getElem?_eq_some_iff.mp h4).1
    -- four more
    rw [s_seq, s_drop, s_bm]
    refine var_ev (d := .loc p) rfl ?_
    show tyD st4 "list" (.loc p) ∧ _
    refine ⟨by rw [s_tyD_loc, h4], ?_⟩
    rw [s_cons, s_dlst, s_cons]
    refine c3_ev (x := right) rfl lck (by omega) (by decide) ?_
    rw [s_cons]
    refine c3_ev (x := right) rfl (by decide) (by omega) lnl ?_
    rw [s_cons]
    refine c3_ev (x := right) rfl (by decide) (by omega) lnl ?_
    rw [s_cons]
    refine c3_ev (x := right) rfl (by decide) (by omega) lnl ?_
    rw [s_nil]
    refine ⟨szk _ (by simp), ?_⟩
    have l2 : ∀ s ∈ (["check " ++ right ++ " \n", " check " ++ right ++ "\n", "Check " ++ right ++ "\n", "check -" ++ right ++ "\n"] : List Str), Pc s 60 8 := by
      intro s hs
      simp only [List.mem_cons, List.not_mem_nil, or_false] at hs
      rcases hs with rfl | rfl | rfl | rfl
      · exact pc3 pck hr (P (by decide) (by decide) (by decide))
      · exact pc3 (P (by decide) (by decide) (by decide)) hr pnl
      · exact pc3 (P (by decide) (by decide) (by decide)) hr pnl
      · exact pc3 (P (by decide) (by decide) (by decide)) hr pnl
    rw [show ([.str ("check " ++ right ++ " \n"), .str (" check " ++ right ++ "\n"), .str ("Check " ++ right ++ "\n"), .str ("check -" ++ right ++ "\n")] : List D) = (["check " ++ right ++ " \n", " check " ++ right ++ "\n", "Check " ++ right ++ "\n", "check -" ++ right ++ "\n"] : List Str).map .str from rfl]
    have n2 : (["check " ++ right ++ " \n", " check " ++ right ++ "\n", "Check " ++ right ++ "\n", "check -" ++ right ++ "\n"] : List Str).length = 4 := rfl
    generalize (["check " ++ right ++ " \n", " check " ++ right ++ "\n", "Check " ++ right ++ "\n", "check -" ++ right ++ "\n"] : List Str) = L2 at l2 n2 ⊢
    rw [s_nil, s_extendA]
    refine ⟨_, _, gb h4, .inr ⟨_, rfl, getElem?_push⟩, by rw [List.length_map, List.length_map]; exact szk _ (by omega), ?_⟩
    have g5 := (g4.app [Ob.lst (L2.map .str)]).set (n := p) (o := .lst (L1.map .str ++ L2.map .str)) hgl3
    have h5 : ((st4 ++ [Ob.lst (L2.map D.str)]).set p (.lst (L1.map .str ++ L2.map .str)))[p]? = some (.lst ((L1 ++ L2).map .str)) := by
      rw [List.getElem?_set_self (by simp; omega), List.map_append]
    have l12 : ∀ s ∈ L1 ++ L2, Pc s 60 8 := fun s hs => by
      rcases List.mem_append.mp hs with hs | hs
      · exact l1 s hs
      · exact l2 s hs
    have n12 : (L1 ++ L2).length = 10 := by simp [n1, n2]
    generalize (st4 ++ [Ob.lst (L2.map D.str)]).set p (.lst (L1.map .str ++ L2.map .str)) = st5 at g5 h5 ⊢
    generalize L1 ++ L2 = L at h5 l12 n12
    have hp5 := (List.getElem?_eq_some_iff.mp h5).1
    try dsimp only
    -- two more
    rw [s_seq, s_drop, s_bm]
    refine var_ev (d := .loc p) rfl ?_
    show tyD st5 "list" (.loc p) ∧ _
    refine ⟨by rw [s_tyD_loc, h5], ?_⟩
    rw [s_cons, s_dlst, s_cons, s_op, s_op, s_c]
    refine ckn_ev (b := body) (m := 1) rfl (by omega) (by decide) fun u1 hu1 => ?_
    have hul1 := hu1.len
    have pu1 := pc3 pck hu1 pnl
    rw [s_add_str]
    refine ⟨sz_big (by rw [show ("check " : Str).length = 6 from rfl]; omega), ?_⟩
    rw [s_c, s_add_str, app_len]
    refine ⟨sz_big (by rw [show ("check " : Str).length = 6 from rfl, show ("\n" : Str).length = 1 from rfl]; omega), ?_⟩
    generalize ("check " : Str) ++ u1 ++ "\n" = v1 at pu1 ⊢
    rw [s_cons, s_op, s_op, s_c]
    refine ckn_ev (b := body) (m := 99991) rfl (by omega) (by decide) fun u2 hu2 => ?_
    have hul2 := hu2.len
    have pu2 := pc3 pck hu2 pnl
    rw [s_add_str]
    refine ⟨sz_big (by rw [show ("check " : Str).length = 6 from rfl]; omega), ?_⟩
    rw [s_c, s_add_str, app_len]
    refine ⟨sz_big (by rw [show ("check " : Str).length = 6 from rfl, show ("\n" : Str).length = 1 from rfl]; omega), ?_⟩
    generalize ("check " : Str) ++ u2 ++ "\n" = v2 at pu2 ⊢
    rw [s_nil]
    refine ⟨szk _ (by simp), ?_⟩
    rw [show ([.str v1, .str v2] : List D) = ([v1, v2] : List Str).map .str from rfl]
    rw [s_nil, s_extendA]
    refine ⟨_, _, gb h5, .inr ⟨_, rfl, getElem?_push⟩, by rw [List.length_map, List.length_map]; exact szk _ (by simp; omega), ?_⟩
    have g6 := (g5.app [Ob.lst (([v1, v2] : List Str).map .str)]).set (n := p) (o := .lst (L.map .str ++ ([v1, v2] : List Str).map .str)) hgl3
    have h6 : ((st5 ++ [Ob.lst (([v1, v2] : List Str).map D.str)]).set p (.lst (L.map .str ++ ([v1, v2] : List Str).map .str)))[p]? = some (.lst ((L ++ [v1, v2]).map .str)) := by
      rw [List.getElem?_set_self (by simp; omega), List.map_append (l₁ := L)]
    have l13 : ∀ s ∈ L ++ [v1, v2], Pc s 60 8 := fun s hs => by
      rcases List.mem_append.mp hs with hs | hs
      · exact l12 s hs
      · simp only [List.mem_cons, List.not_mem_nil, or_false] at hs
        rcases hs with rfl | rfl
        · exact pu1
        · exact pu2
    have n13 : (L ++ [v1, v2]).length = 12 := by simp [n12]
    generalize (st5 ++ [Ob.lst (([v1, v2] : List Str).map D.str)]).set p (.lst (L.map .str ++ ([v1, v2] : List Str).map .str)) = st6 at g6 h6 ⊢
    generalize L ++ [v1, v2] = L' at h6 l13 n13
    have hp6 := (List.getElem?_eq_some_iff.mp h6).1
    try dsimp only
    -- four more
    rw [s_seq, s_drop, s_bm]
    refine var_ev (d := .loc p) rfl ?_
    show tyD st6 "list" (.loc p) ∧ _
    refine ⟨by rw [s_tyD_loc, h6], ?_⟩
    rw [s_cons, s_dlst, s_cons, s_op]
    refine c3_ev (x := right) rfl lck (by omega) lnl ?_
    have hlen0 : ("check " ++ right ++ "\n" : Str).length = 6 + right.length + 1 := by rw [app_len, app_len]; rfl
    rw [s_c, s_mulS]
    refine ⟨by decide, by decide, by omega, by omega, ?_⟩
    have pdup : Pc (repS ("check " ++ right ++ "\n") (2 : Int).toNat) 60 8 := by
      have := (pck.app hr).app pnl
      have h1 : Pc ("check " ++ right ++ "\n" : Str) 27 2 := ((((Pc.lit (s := "check ") (a := 6) (c := 1) (by decide) (by decide) (by decide)).app hr).app (Pc.lit (s := "\n") (a := 1) (c := 0) (by decide) (by decide) (by decide)))).le (by omega) (by omega)
      exact (h1.rep 2).le (by omega) (by omega)
    generalize repS ("check " ++ right ++ "\n") (2 : Int).toNat = dup at pdup ⊢
    rw [s_cons]
    refine c3_ev (x := right) rfl lck (by omega) (by decide) ?_
    rw [s_cons]
    refine c3_ev (x := right) rfl lck (by omega) (by decide) ?_
    rw [s_cons, s_c, s_nil]
    refine ⟨szk _ (by simp), ?_⟩
    have l3 : ∀ s ∈ ([dup, "check " ++ right ++ "\n\n", "check " ++ right ++ "\na 1.0.0\n", "\n"] : List Str), Pc s 60 8 := by
      intro s hs
      simp only [List.mem_cons, List.not_mem_nil, or_false] at hs
      rcases hs with rfl | rfl | rfl | rfl
      · exact pdup
      · exact pc3 pck hr (P (by decide) (by decide) (by decide))
      · exact pc3 pck hr (P (by decide) (by decide) (by decide))
      · exact .lit (by decide) (by decide) (by decide)
    rw [show ([.str dup, .str ("check " ++ right ++ "\n\n"), .str ("check " ++ right ++ "\na 1.0.0\n"), .str "\n"] : List D) = ([dup, "check " ++ right ++ "\n\n", "check " ++ right ++ "\na 1.0.0\n", "\n"] : List Str).map .str from rfl]
    have n3 : ([dup, "check " ++ right ++ "\n\n", "check " ++ right ++ "\na 1.0.0\n", "\n"] : List Str).length = 4 := rfl
    generalize ([dup, "check " ++ right ++ "\n\n", "check " ++ right ++ "\na 1.0.0\n", "\n"] : List Str) = L3 at l3 n3 ⊢
    rw [s_nil, s_extendA]
    refine ⟨_, _, gb h6, .inr ⟨_, rfl, getElem?_push⟩, by rw [List.length_map, List.length_map]; exact szk _ (by omega), ?_⟩
    have g7 := (g6.app [Ob.lst (L3.map .str)]).set (n := p) (o := .lst (L'.map .str ++ L3.map .str)) hgl3
    have h7 : ((st6 ++ [Ob.lst (L3.map D.str)]).set p (.lst (L'.map .str ++ L3.map .str)))[p]? = some (.lst ((L' ++ L3).map .str)) := by
      rw [List.getElem?_set_self (by simp; omega), List.map_append]
    have l14 : ∀ s ∈ L' ++ L3, Pc s 60 8 := fun s hs => by
      rcases List.mem_append.mp hs with hs | hs
      · exact l13 s hs
      · exact l3 s hs
    have n14 : (L' ++ L3).length = 16 := by simp [n13, n3]
    generalize (st6 ++ [Ob.lst (L3.map D.str)]).set p (.lst (L'.map .str ++ L3.map .str)) = st7 at g7 h7 ⊢
    generalize L' ++ L3 = L'' at h7 l14 n14
    try dsimp only
    -- one of all
    rw [s_ret, s_call, s_cons]
    refine var_ev (d := .loc h) rfl ?_
    rw [s_cons, s_op]
    refine var_ev (d := .loc p) rfl ?_
    rw [s_dlst, s_cons]
    refine c3_ev (x := right) rfl lck (by omega) (by decide) ?_
    rw [s_cons, s_op, s_op]
    refine c2_ev (x := right) rfl lck (by omega) ?_
    rw [s_op, s_c, s_c, s_mulS]
    refine ⟨by decide, by decide, by decide, by decide, ?_⟩
    have p14 : Pc (repS "0" (14 : Int).toNat) 20 4 := ((Pc.lit (s := "0") (a := 1) (c := 0) (by decide) (by decide) (by decide)).rep 14).le (by omega) (by omega)
    generalize repS "0" (14 : Int).toNat = z14 at p14 ⊢
    have hz14 := p14.len
    rw [s_add_str, app_len]
    refine ⟨sz_big (by rw [show ("check " : Str).length = 6 from rfl]; omega), ?_⟩
    rw [s_c, s_add_str, app_len, app_len]
    refine ⟨sz_big (by rw [show ("check " : Str).length = 6 from rfl, show ("\n" : Str).length = 1 from rfl]; omega), ?_⟩
    have pz : Pc ("check " ++ right ++ z14 ++ "\n" : Str) 60 8 := ((((Pc.lit (s := "check ") (a := 6) (c := 1) (by decide) (by decide) (by decide)).app hr).app p14).app (Pc.lit (s := "\n") (a := 1) (c := 0) (by decide) (by decide) (by decide))).le (by omega) (by omega)
    generalize ("check " ++ right ++ z14 ++ "\n" : Str) = zz at pz ⊢
    rw [s_cons]
    refine c3_ev (x := right) rfl (by decide) (by omega) lnl ?_
    rw [s_nil]
    refine ⟨szk _ (by simp), ?_⟩
    have l5 : ∀ s ∈ (["check " ++ right ++ "\nx", zz, "check" ++ right ++ "\n"] : List Str), Pc s 60 8 := by
      intro s hs
      simp only [List.mem_cons, List.not_mem_nil, or_false] at hs
      rcases hs with rfl | rfl | rfl
      · exact pc3 pck hr (P (by decide) (by decide) (by decide))
      · exact pz
      · exact pc3 (P (by decide) (by decide) (by decide)) hr pnl
    rw [show ([.str ("check " ++ right ++ "\nx"), .str zz, .str ("check" ++ right ++ "\n")] : List D) = (["check " ++ right ++ "\nx", zz, "check" ++ right ++ "\n"] : List Str).map .str from rfl]
    have n5 : (["check " ++ right ++ "\nx", zz, "check" ++ right ++ "\n"] : List Str).length = 3 := rfl
    generalize (["check " ++ right ++ "\nx", zz, "check" ++ right ++ "\n"] : List Str) = L5 at l5 n5 ⊢
    refine lcat_ev (gb h7) getElem?_push (by omega) ?_
    have g8 := (g7.app [Ob.lst (L5.map .str)]).app [Ob.lst ((L'' ++ L5).map .str)]
    have h8 : (st7 ++ [Ob.lst (L5.map D.str)] ++ [Ob.lst ((L'' ++ L5).map D.str)])[(st7 ++ [Ob.lst (L5.map D.str)]).length]? = some (.lst ((L'' ++ L5).map .str)) := getElem?_push
    have hgl7 := g7.len
    have hpl : h < (st7 ++ [Ob.lst (L5.map D.str)]).length := by simp; omega
    generalize (st7 ++ [Ob.lst (L5.map D.str)]).length = pl at h8 hpl ⊢
    generalize st7 ++ [Ob.lst (L5.map D.str)] ++ [Ob.lst ((L'' ++ L5).map D.str)] = st8 at g8 h8 ⊢
    rw [s_nil, e_anyL]
    refine ⟨rfl, c, _, g8.hd, h8, by omega, by simp; omega, by simp; omega, fun x st9 hx H9 s9 => ?_⟩
    obtain ⟨s, hs, rfl⟩ := List.mem_map.mp hx
    refine fin s st9 ?_ (g8.sm s9 H9)
    rcases List.mem_append.mp hs with hs | hs
    · exact l14 s hs
    · exact l5 s hs
end CM
namespace CM
open PySem L2 PySem.Spec DL
open PyProof.Rows hiding St
open TL (tl pre spl par numL joinL)
section
variable [EC : ErrCtx]
inductive Strange (st : Sto) : D → Prop where
  | str {t : Str} : Pc t 13 13 → Strange st (.str t)
  | no {d : D} : NotS st d → D.blw st.length d = true → Strange st d
def sp_lstrange : DSp := fun ds st Q _ => match ds with
  | [.loc h] => ∃ c, HdK st h c ∧ ∀ d st', Strange st' d → HdK st' h c → Q d st'
  | _ => False
theorem entryA : EntryV ⟨"a", mkV 1 0 0, [], [], []⟩ := by
  refine ⟨⟨by rw [nameS_eq]; decide, by decide⟩, ?_, ⟨by simp, ?_, rfl, ?_⟩, ⟨by simp, ?_⟩, ⟨by simp, ?_⟩⟩
  · unfold smallV
    rw [vA_mk (by decide) (by decide), vB_mk (by decide) (by decide), vC_mk (by decide)]
    decide
  · intro p hp; cases hp
  · intro p hp; cases hp
  · intro p hp; cases hp
  · intro p hp; cases hp
theorem sgn_at {S : Str} (h : ((tl S).all fun x => decide (x < 128)) = true) {r : Int} (h0 : 0 ≤ r) (h1 : r < (S.length : Int)) : ∃ x, atI S.cps.toList r = some x ∧ x < 128 := by
  obtain ⟨n, rfl⟩ : ∃ n : Nat, r = n := ⟨r.toNat, by omega⟩
  have hl : n < (tl S).length := by rw [← TL.len_tl]; omega
  exact ⟨_, atI_nat (List.getElem?_eq_getElem hl), by simpa using List.all_eq_true.mp h _ (List.getElem_mem hl)⟩
theorem r__law_strange : Rd 1 sp_lstrange (RD.t__law_strange sp_einit sp_drawK sp_anyK) RD.N__law_strange := by
  intro ds st Q Z hl h
  match ds, hl, h with
  | [.loc h], _, ⟨c, H, q⟩ =>
    unfold RD.t__law_strange
    have hlt := H.hlt
    have hs : ((tl (" !\"#$&'()*+,-./0123456789:;<=>?@ABCXYZ[\\]^_`abcxyz{|}~\n\n" : Str)).all fun x => decide (x < 128)) = true := by decide
    have hsl : (" !\"#$&'()*+,-./0123456789:;<=>?@ABCXYZ[\\]^_`abcxyz{|}~\n\n" : Str).length ≤ 60 ∧ 0 < (" !\"#$&'()*+,-./0123456789:;<=>?@ABCXYZ[\\]^_`abcxyz{|}~\n\n" : Str).length := by decide
    show dSeq _ _ _ [some (.loc h), none, none, none, none] st
    rw [s_seq, s_asg, s_c, s_gN]
    try dsimp only
    unfold RD.e__law_strange_1
    generalize (" !\"#$&'()*+,-./0123456789:;<=>?@ABCXYZ[\\]^_`abcxyz{|}~\n\n" : Str) = S at hs hsl ⊢
    show dSeq _ _ _ [some (.loc h), some (.str S), none, none, none] st
    rw [s_seq, s_asg, s_bm, s_c]
    refine ⟨rfl, ?_⟩
    rw [s_cons, s_lc, s_iR1, s_cons, s_call, s_cons]
    refine var_ev (d := .loc h) rfl ?_
    rw [s_cons, s_c, s_nil, e_drawK]
    refine ⟨rfl, c, H, by decide, by decide, fun r st1 r0 r1 H1 s1 => ?_⟩
    have g1 := GrK.of H H1 s1
    obtain ⟨k, rfl⟩ : ∃ k : Nat, r = k := ⟨r.toNat, by omega⟩
    try dsimp only
    rw [s_nil]
    refine ⟨by omega, by omega, ?_⟩
    rw [Int.toNat_natCast, rngItems_up]
    refine runC_grG (α := Nat) (enc := sg) (P := fun x => x < 128) (F := fun _ => True) (fun _ _ _ _ => trivial) (fun _ _ => trivial) (fun st' QT y H' _ qt => ?_) k 0 [] st1 g1.hd trivial (by simp; omega) (by simp) fun st3 cs g3 _ hcl hcs => ?_
    · rw [s_op]
      refine var_ev (d := .str S) rfl ?_
      rw [s_call, s_cons]
      refine var_ev (d := .loc h) rfl ?_
      rw [s_cons, s_cb, s_cons]
      refine var_ev (d := .str S) rfl ?_
      rw [s_nil, s_len_str]
      refine ⟨sz_big (by omega), ?_⟩
      rw [s_nil, e_drawK]
      refine ⟨rfl, c, H', by omega, by omega, fun r st4 r0 r26 H4 s4 => ?_⟩
      obtain ⟨x, hx, hx2⟩ := sgn_at hs r0 r26
      try dsimp only
      rw [s_ix_str]
      exact ⟨x, sz_big (by omega), hx, qt x st4 hx2 (GrK.of H' H4 s4)⟩
    · rw [s_nil, s_join]
      refine ⟨cs.map fun c => (⟨#[c]⟩ : Str), by simp [sg, Function.comp_def], ?_, ?_⟩
      · have := sum_le (fun s : Str => s.length) 1 (cs.map fun c => (⟨#[c]⟩ : Str)) fun s hs => by
          obtain ⟨x, _, rfl⟩ := List.mem_map.mp hs
          exact Nat.le_refl 1
        rw [show ("" : Str).length = 0 from rfl]
        have e : ((cs.map fun c => (⟨#[c]⟩ : Str)).map fun x : Str => x.length).sum = ((cs.map fun c => (⟨#[c]⟩ : Str)).map (·.length)).sum := rfl
        simp only [List.length_map, List.length_nil] at this hcl
        omega
      · have hT : Pc (Txt.join "" (cs.map fun c => (⟨#[c]⟩ : Str))) 12 12 := by
          show Pc (joinS cs) 12 12
          simp only [List.length_nil] at hcl
          refine ⟨fun x hx => hcs x (by rwa [tl_joinS] at hx), by rw [TL.len_tl, tl_joinS]; omega, ?_⟩
          rw [tl_joinS]
          have := List.count_le_length (a := 32) (l := cs)
          omega
        generalize Txt.join "" (cs.map fun c => (⟨#[c]⟩ : Str)) = T at hT ⊢
        rw [s_gN]
        try dsimp only
        have g4 := (g1.trans g3).app [Ob.lst (cs.map sg)]
        generalize st3 ++ [Ob.lst (cs.map sg)] = st4 at g4 ⊢
        show dSeq _ _ _ [some (.loc h), some (.str S), some (.str T), none, none] st4
        have hTl := hT.len
        -- an entry
        rw [s_seq, s_asg]
        show (dCons _ _ _ _ _ _ : Prop)
        rw [s_cons, s_c, s_cons, s_dtup, s_cons, s_c, s_cons, s_c, s_cons, s_c, s_nil]
        refine ⟨szk _ (by simp), ?_⟩
        rw [s_cons, s_dtup, s_nil]
        refine ⟨szk _ (by simp), ?_⟩
        rw [s_cons, s_dtup, s_nil]
        refine ⟨szk _ (by simp), ?_⟩
        rw [s_cons, s_dtup, s_nil]
        refine ⟨szk _ (by simp), ?_⟩
        rw [s_nil]
        refine ⟨rfl, ⟨"a", mkV 1 0 0, [], [], []⟩, rfl, (enc3 (by decide) (by decide)).symm, rfl, rfl, rfl, entryA, getElem?_push, rfl, ?_⟩
        dsimp only
        rw [s_gN]
        have es : (st4 ++ [Ob.ins (errA 100) []]).set st4.length (.ins (errA 100) (entF ⟨"a", mkV 1 0 0, [], [], []⟩)) = st4 ++ [Ob.ins (errA 100) (entF ⟨"a", mkV 1 0 0, [], [], []⟩)] := by
          rw [List.set_append_right _ _ (Nat.le_refl _)]; simp
        rw [es]
        have g5 := g4.app [Ob.ins (errA 100) (entF ⟨"a", mkV 1 0 0, [], [], []⟩)]
        have h5 : (st4 ++ [Ob.ins (errA 100) (entF ⟨"a", mkV 1 0 0, [], [], []⟩)])[st4.length]? = some (.ins (errA 100) (entF ⟨"a", mkV 1 0 0, [], [], []⟩)) := getElem?_push
        have hgl4 := g4.len
        generalize st4 ++ [Ob.ins (errA 100) (entF ⟨"a", mkV 1 0 0, [], [], []⟩)] = st5 at g5 h5 ⊢
        generalize entF ⟨"a", mkV 1 0 0, [], [], []⟩ = ef at h5
        generalize st4.length = o at h5 hgl4 ⊢
        try dsimp only
        have ho5 := (List.getElem?_eq_some_iff.mp h5).1
        show dRet _ _ [some (.loc h), some (.str S), some (.str T), none, some (.loc o)] st5
        rw [s_ret, s_call, s_cons]
        refine var_ev (d := .loc h) rfl ?_
        rw [s_cons, s_dlst, s_cons, s_c, s_cons, s_c, s_cons, s_c, s_cons, s_dtup, s_nil]
        refine ⟨szk _ (by simp), ?_⟩
        rw [s_cons, s_dlst, s_cons, s_c, s_nil]
        refine ⟨szk _ (by simp), ?_⟩
        have g6 := g5.app [Ob.lst [.str "check 0"]]
        have h6 : (st5 ++ [Ob.lst [D.str "check 0"]])[o]? = some (.ins (errA 100) ef) := gb h5
        have a6 : (st5 ++ [Ob.lst [D.str "check 0"]])[st5.length]? = some (.lst [.str "check 0"]) := getElem?_push
        have hgl5 := g5.len
        generalize st5 ++ [Ob.lst [D.str "check 0"]] = st6 at g6 h6 a6 ⊢
        generalize st5.length = p at a6 hgl5 ⊢
        have hp6 := (List.getElem?_eq_some_iff.mp a6).1
        rw [s_cons]
        unfold dDisp
        show dPairs _ _ _ _ _
        unfold dPairs
        rw [s_c, s_c]
        unfold dPairs
        refine ⟨getElem?_push, [(.inr "check 0", .int 0)], rfl, by decide, ?_⟩
        have es2 : (st6 ++ [Ob.dK []]).set st6.length (.dK (mergeD [] [(.inr "check 0", .int 0)])) = st6 ++ [Ob.dK [(.inr "check 0", .int 0)]] := by
          rw [List.set_append_right _ _ (Nat.le_refl _)]; simp; rfl
        rw [es2]
        have g7 := g6.app [Ob.dK [(.inr "check 0", .int 0)]]
        have h7 : (st6 ++ [Ob.dK [(.inr "check 0", D.int 0)]])[o]? = some (.ins (errA 100) ef) := gb h6
        have a7 : (st6 ++ [Ob.dK [(.inr "check 0", D.int 0)]])[p]? = some (.lst [.str "check 0"]) := gb a6
        have b7 : (st6 ++ [Ob.dK [(.inr "check 0", D.int 0)]])[st6.length]? = some (.dK [(.inr "check 0", .int 0)]) := getElem?_push
        have hgl6 := g6.len
        generalize st6 ++ [Ob.dK [(.inr "check 0", D.int 0)]] = st7 at g7 h7 a7 b7 ⊢
        generalize st6.length = u at b7 hgl6 ⊢
        have hu7 := (List.getElem?_eq_some_iff.mp b7).1
        have ho7 := (List.getElem?_eq_some_iff.mp h7).1
        have hp7 := (List.getElem?_eq_some_iff.mp a7).1
        try dsimp only
        rw [s_cons, s_dtup, s_cons, s_dtup, s_cons, s_c, s_cons, s_dtup, s_cons, s_c, s_cons, s_c, s_cons, s_c, s_nil]
        refine ⟨szk _ (by simp), ?_⟩
        rw [s_cons, s_dtup, s_nil]
        refine ⟨szk _ (by simp), ?_⟩
        rw [s_nil]
        refine ⟨szk _ (by simp), ?_⟩
        rw [s_nil]
        refine ⟨szk _ (by simp), ?_⟩
        rw [s_cons]
        refine var_ev (d := .loc o) rfl ?_
        rw [s_cons]
        refine var_ev (d := .str T) rfl ?_
        rw [s_cons]
        refine var_ev (d := .str T) rfl ?_
        rw [s_cons]
        refine addS_evK (x := T) (y := "\n") (fun QE Z qe => var_ev rfl qe) (fun QE Z qe => qe) (by rw [show ("\n" : Str).length = 1 from rfl]; exact sz_big (by omega)) ?_
        have hTn : Pc (T ++ "\n") 13 13 := (hT.app (Pc.lit (s := "\n") (a := 1) (c := 0) (by decide) (by decide) (by decide))).le (by omega) (by omega)
        generalize T ++ "\n" = Tn at hTn ⊢
        rw [s_nil]
        refine ⟨szk _ (by simp), ?_⟩
        rw [s_nil, e_anyL]
        have hgl7 := g7.len
        refine ⟨rfl, c, _, g7.hd.app _, getElem?_push, by omega, by simp, by simp, fun e st8 he H8 s8 => ?_⟩
        refine .inl (q e st8 ?_ H8)
        have hl8 : st7.length < st8.length := by rw [s8.len]; simp
        have keep : ∀ {m b}, st7[m]? = some b → m ≠ h → st8[m]? = some b := fun {m b} hm hne => by rw [s8.same m hne]; exact gb hm
        simp only [List.mem_cons, List.not_mem_nil, or_false] at he
        have k1 : ∀ {d : D} {T : String}, tyN st8 d = some T → T ≠ "str" → D.blw st8.length d = true → Strange st8 d := fun h1 h2 h3 => .no (.inl ⟨_, h1, h2⟩) h3
        rcases he with rfl | rfl | rfl | rfl | rfl | rfl | rfl | rfl | rfl | rfl | rfl
        · exact k1 (T := "NoneType") rfl (by decide) rfl
        · exact k1 (T := "int") rfl (by decide) rfl
        · exact k1 (T := "bool") rfl (by decide) rfl
        · exact k1 (T := "tuple") rfl (by decide) rfl
        · exact k1 (T := "list") (by simp [tyN, keep a7 (by omega)]) (by decide) (by simp [D.blw]; omega)
        · exact k1 (T := "dict") (by simp [tyN, keep b7 (by omega)]) (by decide) (by simp [D.blw]; omega)
        · exact k1 (T := "tuple") rfl (by decide) (by simp [D.blw, D.blws])
        · exact .no (.inr ⟨o, ef, rfl, keep h7 (by omega)⟩) (by simp [D.blw]; omega)
        · exact .str (hT.le (by omega) (by omega))
        · exact .str (hT.le (by omega) (by omega))
        · exact .str hTn
end
end CM
namespace CM
open PySem L2 PySem.Spec DL
open PyProof.Rows hiding St
open TL (tl pre spl par numL joinL)
theorem pu_res {r : Sum Nat (List Trp)} (h : ∀ l, r = .inr l → ∀ t ∈ l, TrpV t) : pu (encRes r) = true := by
  cases r with
  | inl n =>
    show (PyData.strOk "refused" && (true && true)) = true
    have : PyData.strOk ("refused" : Str) = true := strOk_name (by rw [nameS_eq]; decide)
    rw [this]; rfl
  | inr l =>
    show (PyData.strOk "told" && (pu (encI l) && true)) = true
    have : PyData.strOk ("told" : Str) = true := strOk_name (by rw [nameS_eq]; decide)
    rw [this, pu_encI (h l rfl)]; rfl
theorem dp_res (r : Sum Nat (List Trp)) : dp (encRes r) ≤ 60 := by
  cases r with
  | inl n => simp [encRes, dp, dps]
  | inr l => have := dp_encI l; simp [encRes, dp, dps]; omega
theorem eqR_ev {f : Bool → Bool} {r : Sum Nat (List Trp)} {st : Sto} {Q : DK} (h : ∀ l, r = .inr l → ∀ t ∈ l, TrpV t) (q : Q (.bl (f true)) st) : dEqB f (encRes r) (encRes r) st Q :=
  eq_plain (pu_res h) (pu_res h) (dp_res r) (dp_res r) (by simp) q
section
variable [EC : ErrCtx]
theorem due_ev {i : Nat} {t : Str} {ρ : Env'} {st : Sto} {Q : DK} {Z : DZ} (h : ρ[i]? = some (some (.str t))) (hl : t.length ≤ 100000) (hc : (tl t).count 32 ≤ 3900) (q : Q (encRes (readK (Txt.split t "\n").dropLast (lastS (Txt.split t "\n")))) st) : dCall 1 sp_ldueK (dCons (dVar i) dNil) ρ st Q Z := by
  rw [s_call, s_cons]
  refine var_ev h ?_
  rw [s_nil]
  exact ⟨rfl, hl, hc, q⟩
end
end CM
namespace CM
open PySem L2 PySem.Spec DL
open PyProof.Rows hiding St
open TL (tl pre spl par numL joinL)
theorem foundK_ok : ∀ (W : List Str) (acc : List Trp), (∀ t ∈ acc, TrpV t) → ∀ t ∈ foundK acc W, TrpV t
  | [], acc, h => by unfold foundK; exact h
  | w :: W, acc, h => by
    unfold foundK
    cases ht : trpL (tl w) with
    | none => exact h
    | some z =>
      dsimp only
      split
      · refine foundK_ok W (acc ++ [z]) fun t hm => ?_
        rcases List.mem_append.mp hm with hm | hm
        · exact h t hm
        · rw [List.mem_singleton.mp hm]; exact trpL_ok ht
      · exact h
theorem readK_ok {W : List Str} {r : Str} {l : List Trp} (h : readK W r = .inr l) : ∀ t ∈ l, TrpV t := by
  unfold readK at h
  split at h
  · split at h
    · cases h
    · cases h
      exact foundK_ok W [] (by simp)
  · cases h
section
variable [EC : ErrCtx]
theorem readI_ev {i : Nat} {t : Str} {ρ : Env'} {st : Sto} {Q : DK} {Z : DZ} (h : ρ[i]? = some (some (.str t))) (hl : t.length ≤ 100000) (q : Q (encRes (readK (Txt.split t "\n").dropLast (lastS (Txt.split t "\n")))) st) : dCall 1 sp_lreadI (dCons (dVar i) dNil) ρ st Q Z := by
  rw [s_call, s_cons]
  refine var_ev h ?_
  rw [s_nil]
  exact ⟨rfl, .inl ⟨t, rfl, hl, q⟩⟩
def Tn : Nat → Nat
  | 0 => 1440
  | j + 1 => 3 * Tn j + 420
def Kn : Nat → Nat
  | 0 => 108
  | j + 1 => 2 * Kn j + 3
theorem tk_le {j : Nat} (h : j ≤ 2) : Tn j ≤ 15000 ∧ Kn j ≤ 450 := by
  match j, h with
  | 0, _ => decide
  | 1, _ => decide
  | 2, _ => decide
theorem tk_le3 {j : Nat} (h : j ≤ 3) : Tn j ≤ 60000 ∧ Kn j ≤ 950 := by
  match j, h with
  | 0, _ => decide
  | 1, _ => decide
  | 2, _ => decide
  | 3, _ => decide
theorem counts7 : ∀ e ∈ ([.int 0, .int 1, .int 1, .int 1, .int 1, .int 2, .int 3] : List D), ∃ n : Nat, e = .int (n : Int) ∧ n ≤ 3 := by
  intro e he
  simp only [List.mem_cons, List.not_mem_nil, or_false] at he
  rcases he with rfl | rfl | rfl | rfl | rfl | rfl | rfl
  · exact ⟨0, rfl, by decide⟩
  · exact ⟨1, rfl, by decide⟩
  · exact ⟨1, rfl, by decide⟩
  · exact ⟨1, rfl, by decide⟩
  · exact ⟨1, rfl, by decide⟩
  · exact ⟨2, rfl, by decide⟩
  · exact ⟨3, rfl, by decide⟩
theorem any_evI {h c i : Nat} {ρ : Env'} {st : Sto} {Q : DK} {Z : DZ} {t : DTA} {es : List D} (h0 : ρ[i]? = some (some (.loc h))) (H : HdK st h c) (ht : ∀ (QA : List D → Sto → Prop) Z, QA es st → t ρ st QA Z) (hne : es ≠ []) (hl : es.length < 1000)
    (q : ∀ e st', e ∈ es → GrK h c st st' → Q e st') : dCall 2 sp_anyK (dCons (dVar i) (dCons (dLst t) dNil)) ρ st Q Z := by
  have hlt := H.hlt
  rw [s_call, s_cons]
  refine var_ev h0 ?_
  rw [s_cons, s_dlst]
  refine ht _ _ ⟨szk _ hl, ?_⟩
  rw [s_nil, e_anyL]
  refine ⟨rfl, c, es, H.app _, getElem?_push, by omega, List.length_pos_iff.mpr hne, by omega, fun e st' he H' s => q e st' he ?_⟩
  exact ((GrK.refl H).app _).sm s H'
abbrev B2 [EC : ErrCtx] : DTS := RD.b_law_k42_2 sp_handK sp_anyK sp_linst sp_lline sp_ldueK sp_lreadI sp_blines sp_lend sp_lstrange
theorem lp_bend (E : DEnds) {x0 x2 x7 x9 : Option D} {h c e : Nat} {V : List Str} (heh : e ≠ h)
    (hk : ∀ st' n W y6 j, j ≤ 3 → HdK st' h c → st'[e]? = some (.lst (V.map .str)) → st'[n]? = some (.lst (W.map .str)) → LV W (Tn j) (Kn j) → E.nx [x0, some (.loc h), x2, some (.loc e), none, some (.loc n), y6, x7, none, x9] st') :
    ∀ (m i j : Nat) (st : Sto) (n : Nat) (W : List Str) (y6 : Option D), j + m ≤ 3 → HdK st h c → st[e]? = some (.lst (V.map .str)) → st[n]? = some (.lst (W.map .str)) → LV W (Tn j) (Kn j) →
      runG (gN 6) B2 E (fun _ => True) (upFrom i m) [x0, some (.loc h), x2, some (.loc e), none, some (.loc n), y6, x7, none, x9] st
  | 0, i, j, st, n, W, y6, hj, H, he, hn, hW => ⟨trivial, hk _ _ W _ j (by omega) H he hn hW⟩
  | m + 1, i, j, st, n, W, y6, hj, H, he, hn, hW => by
    rw [show upFrom i (m + 1) = .int (i : Nat) :: upFrom (i + 1) m from rfl, runG_cons]
    refine ⟨trivial, ?_⟩
    have ih := lp_bend E (x0 := x0) (x2 := x2) (x7 := x7) (x9 := x9) heh hk m (i + 1) (j + 1)
    generalize hR : runG (gN 6) B2 E (fun _ => True) (upFrom (i + 1) m) = R at ih ⊢
    rw [s_gN]
    unfold B2 RD.b_law_k42_2
    show dAsg _ _ _ [x0, some (.loc h), x2, some (.loc e), none, some (.loc n), some (.int (i : Nat)), x7, none, x9] st
    rw [s_asg, s_call, s_cons]
    refine var_ev (d := .loc h) rfl ?_
    rw [s_cons]
    refine var_ev (d := .loc n) rfl ?_
    rw [s_nil]
    have hb := tk_le (j := j) (by omega)
    refine ⟨rfl, c, W, Tn j, Kn j, H, hn, hW, hb.1, hb.2, fun W' st' hW' H' s' => ?_⟩
    try dsimp only
    rw [s_gN]
    have hel := (List.getElem?_eq_some_iff.mp he).1
    have hl' := s'.len
    have e' : (st' ++ [Ob.lst (W'.map D.str)])[e]? = some (.lst (V.map .str)) := gb (by rw [s'.same _ heh]; exact he)
    have n' : (st' ++ [Ob.lst (W'.map D.str)])[st.length]? = some (.lst (W'.map .str)) := by rw [← hl']; exact getElem?_push
    exact ih _ st.length W' _ (by omega) (H'.app _) e' n' hW'
abbrev B4 [EC : ErrCtx] : DTS := RD.b_law_k42_4 sp_handK sp_anyK sp_linst sp_lline sp_ldueK sp_lreadI sp_blines sp_lend sp_lstrange
theorem turn_k42 (E : DEnds) {h c : Nat} {s0 x2 : Option D} (hk : ∀ st' a b y6 t z, HdK st' h c → E.nx [s0, some (.loc h), x2, a, none, b, y6, t, none, z] st') {st1 : Sto} {a b y6 t z : Option D} (H : HdK st1 h c) :
    B4 E [s0, some (.loc h), x2, a, none, b, y6, t, none, z] st1 := by
  unfold B4 RD.b_law_k42_4
  rw [s_seq, s_asg, s_lc, s_iD, s_sl, s_call, s_cons]
  refine var_ev (d := .loc h) rfl ?_
  rw [s_nil]
  refine ⟨rfl, c, H, fun l st2 hI H2 s2 => ?_⟩
  try dsimp only
  rw [s_noPart, s_part, s_c]
  show dSlV (.tup (l.map encT)) _ _ _ _
  rw [s_slv_tup, show (9 : Int) = ((9 : Nat) : Int) from rfl, cutK_take, ← List.map_take]
  show walkD st2 (.tup ((l.take 9).map encT)) _
  rw [s_walk_tup]
  have hV : ∀ u ∈ l.take 9, TrpV u ∧ u.2.2.length ≤ 9 := fun u hu => hI.2.1 u (List.mem_of_mem_take hu)
  have hl9 : (l.take 9).length ≤ 9 := by rw [List.length_take]; omega
  generalize l.take 9 = l9 at hV hl9 ⊢
  have hPc : ∀ u ∈ l9, Pc (lineS (trpT u)) 159 11 := fun u hu => by
    have hu' := hV u hu
    have h1 := trpT_len hu'.1 hu'.2
    have h2 := count_trpT hu'.1
    have e : tl (lineS (trpT u)) = tl (trpT u) ++ [10] := by unfold lineS; rw [TL.tl_append]; rfl
    refine ⟨fun x hx => ?_, by rw [lineS_len]; omega, ?_⟩
    · rw [e] at hx
      rcases List.mem_append.mp hx with hx | hx
      · have := trpT_in hu'.1 hx; omega
      · rw [List.mem_singleton.mp hx]; omega
    · rw [e, List.count_append]
      have : List.count 32 [10] = 0 := rfl
      omega
  refine runC_mem (inj := encT) (out := fun u => .str (cutS (lineS (trpT u)) none (some (-1)))) trivial l9 [] (fun u hu QT hq => ?_) (by simp; omega) ?_
  · unfold RD.e_law_k42_1
    have hu' := hV u hu
    rw [s_sl, s_call, s_cons]
    refine var_ev (d := encT u) rfl ?_
    rw [s_nil]
    refine ⟨rfl, u, rfl, hu'.1, by omega, ?_⟩
    try dsimp only
    rw [s_noPart, s_part, s_un, s_c, s_neg]
    show dSlV _ _ _ _ _
    rw [s_slv_str]
    have := (hPc u hu).len
    exact ⟨sz_big (by omega), hq⟩
  rw [List.nil_append, s_gN]
  obtain ⟨V, hVe⟩ : ∃ V : List Str, V = l9.map fun u => cutS (lineS (trpT u)) none (some (-1)) := ⟨_, rfl⟩
  have em : l9.map (fun u => D.str (cutS (lineS (trpT u)) none (some (-1)))) = V.map D.str := by rw [hVe, List.map_map]; rfl
  rw [em]
  have hLV : LV V (Tn 0) (Kn 0) := by
    have hP : ∀ w ∈ V, Pc w 159 11 := fun w hw => by
      rw [hVe] at hw
      obtain ⟨u, hu, rfl⟩ := List.mem_map.mp hw
      exact (hPc u hu).cut _ _
    have hVl : V.length ≤ 9 := by rw [hVe, List.length_map]; exact hl9
    have key : ∀ X : List Str, (∀ w ∈ X, Pc w 159 11) → lenS X ≤ X.length * 160 ∧ cntS X ≤ X.length * 12 := by
      intro X
      induction X with
      | nil => intro _; exact ⟨Nat.zero_le _, Nat.zero_le _⟩
      | cons w X ih =>
        intro hX
        have h1 := ih fun v hv => hX v (List.mem_cons_of_mem _ hv)
        have h2 := (hX w List.mem_cons_self).len
        have h3 := (hX w List.mem_cons_self).cnt
        unfold lenS cntS at h1 ⊢
        simp only [List.map_cons, List.sum_cons, List.length_cons, Nat.succ_mul]
        omega
    have k := key V hP
    exact ⟨fun w hw => (hP w hw).asc, by show lenS V ≤ 1440; omega, by show cntS V ≤ 108; omega⟩
  have g3 : HdK (st2 ++ [Ob.lst (V.map D.str)]) h c := H2.app _
  have e3 : (st2 ++ [Ob.lst (V.map D.str)])[st2.length]? = some (.lst (V.map .str)) := getElem?_push
  have heh : st2.length ≠ h := by have := H2.hlt; omega
  generalize st2 ++ [Ob.lst (V.map D.str)] = st3 at g3 e3 ⊢
  generalize st2.length = e at e3 heh ⊢
  try dsimp only
  show dSeq _ _ _ [s0, some (.loc h), x2, some (.loc e), none, b, y6, t, none, z] st3
  rw [s_seq, s_asg]
  refine var_ev (d := .loc e) rfl ?_
  rw [s_gN]
  try dsimp only
  show dSeq _ _ _ [s0, some (.loc h), x2, some (.loc e), none, some (.loc e), y6, t, none, z] st3
  rw [s_seq, s_for, s_iR1, s_cons]
  refine any_evI (es := [.int 0, .int 1, .int 1, .int 1, .int 1, .int 2, .int 3]) rfl g3 (fun QA Z qa => ?_) (by simp) (by simp) fun d st4 hd g4 => ?_
  · rw [s_cons, s_c, s_cons, s_c, s_cons, s_c, s_cons, s_c, s_cons, s_c, s_cons, s_c, s_cons, s_c, s_nil]
    exact qa
  obtain ⟨m, rfl, hm⟩ := counts7 d hd
  rw [s_nil]
  refine ⟨by omega, by omega, ?_⟩
  rw [Int.toNat_natCast, rngItems_up]
  have e4 : st4[e]? = some (.lst (V.map .str)) := g4.get e3 heh
  refine lp_bend _ (V := V) heh (fun st5 n W y6' j hj H5 e5 n5 hW => ?_) m 0 0 st4 e V y6 (by omega) g4.hd e4 e4 hLV
  have hb := tk_le3 hj
  try dsimp only
  rw [s_seq, s_asg, s_op]
  refine jl_ev (v := 8) (i := 5) (n := n) (W := W) (t := Tn j) (c := Kn j) rfl (by simp) (fun QE Z qe => var_ev (d := .loc n) rfl (by simpa using qe [] n (by simpa using n5))) hW (by omega) (by omega) fun g0 => ?_
  have hPW := lines_pc hW
  generalize linesT W = body at hPW ⊢
  rw [s_call, s_cons]
  refine var_ev (d := .loc h) rfl ?_
  rw [s_cons]
  refine var_ev (d := .loc n) rfl ?_
  rw [s_cons]
  refine var_ev (d := .loc e) rfl ?_
  rw [s_nil]
  refine ⟨rfl, c, W, Tn j, Kn j, V, Tn 0, Kn 0, H5.app _, gb n5, gb e5, hW, hb.1, hb.2, hLV, by decide, by decide, fun s st6 hs H6 s6 => ?_⟩
  have h1 := hPW.len
  have h2 := hs.len
  have h3 := hPW.cnt
  have h4 := hs.cnt
  show dAdd (.str body) (.str s) _ _
  rw [s_add_str]
  refine ⟨sz_big (by omega), ?_⟩
  rw [s_gN]
  have hxl : (body ++ s).length ≤ 100000 := by rw [app_len]; omega
  have hxc : (tl (body ++ s)).count 32 ≤ 3900 := by rw [TL.tl_append, List.count_append]; omega
  generalize body ++ s = x at hxl hxc ⊢
  try dsimp only
  show dSeq _ _ _ [s0, some (.loc h), x2, some (.loc e), none, some (.loc n), y6', some (.str x), none, z] st6
  have okR : ∀ (y : Str) l, readK (Txt.split y "\n").dropLast (lastS (Txt.split y "\n")) = .inr l → ∀ u ∈ l, TrpV u := fun y l hr => readK_ok hr
  rw [s_seq, s_ifS, s_test, s_op]
  refine readI_ev (t := x) rfl hxl ?_
  refine due_ev (t := x) rfl hxl hxc ?_
  refine eqR_ev (okR x) ?_
  try dsimp only
  rw [if_neg (by simp), s_next]
  try dsimp only
  rw [s_seq, s_asg, s_call, s_cons]
  refine var_ev (d := .loc h) rfl ?_
  rw [s_nil]
  refine ⟨rfl, c, H6, fun q st7 hq H7 => ?_⟩
  try dsimp only
  rw [s_gN]
  try dsimp only
  show dIfS _ _ _ _ [s0, some (.loc h), x2, some (.loc e), none, some (.loc n), y6', some (.str x), none, some q] st7
  rw [s_ifS, s_test, s_op]
  cases hq with
  | @str u hu =>
    have hul := hu.len
    have huc := hu.cnt
    refine readI_ev (t := u) rfl (by omega) ?_
    rw [s_if, s_tru]
    refine isiS_yes (t := u) (fun QE Z qe => var_ev rfl qe) ?_
    rw [s_tru_bl, if_pos rfl]
    refine due_ev (t := u) rfl (by omega) (by omega) ?_
    refine eqR_ev (okR u) ?_
    try dsimp only
    rw [if_neg (by simp), s_next]
    exact hk _ _ _ _ _ _ H7
  | no hn hbl =>
    rw [s_call, s_cons]
    refine var_ev (d := q) rfl ?_
    rw [s_nil]
    refine ⟨rfl, .inr ⟨hn, hbl, ?_⟩⟩
    try dsimp only
    rw [s_if, s_tru]
    refine isiS_no (d := q) (fun QE Z qe => var_ev rfl qe) hn ?_
    rw [s_tru_bl, if_neg (by simp), s_dtup, s_cons, s_c, s_cons, s_c, s_nil]
    refine ⟨szk _ (by simp), ?_⟩
    refine eqR_ev (r := .inl 0) (fun l e => by cases e) ?_
    try dsimp only
    rw [if_neg (by simp), s_next]
    exact hk _ _ _ _ _ _ H7
theorem lp_k42 (E : DEnds) {h c : Nat} {s0 : Option D} (hk : ∀ st' x2 a b y6 t z, HdK st' h c → E.nx [s0, some (.loc h), x2, a, none, b, y6, t, none, z] st') : ∀ (n i : Nat) (st1 : Sto) (x2 a b y6 t z : Option D), HdK st1 h c →
    runG (gN 2) B4 E (fun _ => True) (upFrom i n) [s0, some (.loc h), x2, a, none, b, y6, t, none, z] st1
  | 0, i, st1, x2, a, b, y6, t, z, H => ⟨trivial, hk _ _ _ _ _ _ _ H⟩
  | n + 1, i, st1, x2, a, b, y6, t, z, H => by
    rw [show upFrom i (n + 1) = .int (i : Nat) :: upFrom (i + 1) n from rfl, runG_cons]
    refine ⟨trivial, ?_⟩
    have ih := lp_k42 E hk n (i + 1)
    generalize hR : runG (gN 2) B4 E (fun _ => True) (upFrom (i + 1) n) = R at ih ⊢
    rw [s_gN]
    refine turn_k42 _ (fun st' a b y6 t z H' => ?_) H
    exact ih st' _ _ _ _ _ _ H'
theorem r_law_k42 : Rd 1 sp_law (RD.t_law_k42 sp_handK sp_anyK sp_linst sp_lline sp_ldueK sp_lreadI sp_blines sp_lend sp_lstrange) RD.N_law_k42 := by
  intro ds st Q Z hl h
  match ds, hl, h with
  | [d], _, hx =>
    obtain ⟨ns, hd, hl, _, q⟩ := hx
    unfold RD.t_law_k42
    have hh : ∀ (QE : DK) Z', (∀ st' h c, HdK st' h c → QE (.loc h) st') → sp_handK [d] st QE Z' := fun QE Z' q' => ⟨ns, hd, hl, fun st' h c _ H _ _ => q' st' h c H⟩
    show dSeq _ _ _ [some d, none, none, none, none, none, none, none, none, none] st
    rw [s_seq, s_asg, s_call, s_cons, s_var]
    show dNil _ _ _ _
    rw [s_nil]
    refine ⟨rfl, hh _ _ fun st1 h c H => ?_⟩
    try dsimp only
    rw [s_gN]
    try dsimp only
    show dSeq _ _ _ [some d, some (.loc h), none, none, none, none, none, none, none, none] st1
    rw [s_seq, s_for, s_iR1, s_cons, s_c, s_nil]
    refine ⟨by decide, by decide, ?_⟩
    rw [show (6 : Int).toNat = 6 from rfl, rngItems_up]
    refine lp_k42 _ (fun st' x2 a b y6 t z H' => ?_) 6 0 st1 _ _ _ _ _ _ H
    try dsimp only
    rw [s_ret, s_c]
    exact .inl (q st')
end
end CM
namespace CM
open PySem L2 PySem.Spec DL
/-- never asked for -/
theorem r_Entry___eq___k42 [EC : ErrCtx] : Rd 2 (fun _ _ _ _ => False) RD.t_Entry___eq___k42 RD.N_Entry___eq___k42 := fun _ _ _ _ _ h => h.elim
end CM
set_option maxHeartbeats 0
namespace Lk42
open PySem L2 PySem.Spec DL
open PyProof.Rows hiding St
theorem all_mk {l : PySem.W.OpenLaw} {w : World} {K : PySem.W.Frag} {h : Heap} {mg : Str → Option Value} {fa : Addr} (X : K.In h) (G : h.Ns mainGlobals mg) (hfa : mg "law" = some (.ref fa))
    {f_is_integer : Addr} {oc_is_integer kV_is_integer dc_is_integer pm_is_integer cd_is_integer ct_is_integer : Value} {od_is_integer an_is_integer : Option Addr} {sl_is_integer : Array (Option Value)}
    {f_is_number : Addr} {oc_is_number kV_is_number dc_is_number pm_is_number cd_is_number ct_is_number : Value} {od_is_number an_is_number : Option Addr} {sl_is_number : Array (Option Value)}
    {f_is_name : Addr} {oc_is_name kV_is_name dc_is_name pm_is_name cd_is_name ct_is_name : Value} {od_is_name an_is_name : Option Addr} {sl_is_name : Array (Option Value)}
    {f_is_names : Addr} {oc_is_names kV_is_names dc_is_names pm_is_names cd_is_names ct_is_names : Value} {od_is_names an_is_names : Option Addr} {sl_is_names : Array (Option Value)}
    {f_is_wanted : Addr} {oc_is_wanted kV_is_wanted dc_is_wanted pm_is_wanted cd_is_wanted ct_is_wanted : Value} {od_is_wanted an_is_wanted : Option Addr} {sl_is_wanted : Array (Option Value)}
    {f_is_tuple_of : Addr} {oc_is_tuple_of kV_is_tuple_of dc_is_tuple_of pm_is_tuple_of cd_is_tuple_of ct_is_tuple_of : Value} {od_is_tuple_of an_is_tuple_of : Option Addr} {sl_is_tuple_of : Array (Option Value)}
    {f_is_tuple_within : Addr} {oc_is_tuple_within kV_is_tuple_within dc_is_tuple_within pm_is_tuple_within cd_is_tuple_within ct_is_tuple_within : Value} {od_is_tuple_within an_is_tuple_within : Option Addr} {sl_is_tuple_within : Array (Option Value)}
    {f_is_version : Addr} {oc_is_version kV_is_version dc_is_version pm_is_version cd_is_version ct_is_version : Value} {od_is_version an_is_version : Option Addr} {sl_is_version : Array (Option Value)}
    {f_is_stretch : Addr} {oc_is_stretch kV_is_stretch dc_is_stretch pm_is_stretch cd_is_stretch ct_is_stretch : Value} {od_is_stretch an_is_stretch : Option Addr} {sl_is_stretch : Array (Option Value)}
    {f_is_range : Addr} {oc_is_range kV_is_range dc_is_range pm_is_range cd_is_range ct_is_range : Value} {od_is_range an_is_range : Option Addr} {sl_is_range : Array (Option Value)}
    {f_reaches : Addr} {oc_reaches kV_reaches dc_reaches pm_reaches cd_reaches ct_reaches : Value} {od_reaches an_reaches : Option Addr} {sl_reaches : Array (Option Value)}
    {f_told_number : Addr} {oc_told_number kV_told_number dc_told_number pm_told_number cd_told_number ct_told_number : Value} {od_told_number an_told_number : Option Addr} {sl_told_number : Array (Option Value)}
    {f_told_version : Addr} {oc_told_version kV_told_version dc_told_version pm_told_version cd_told_version ct_told_version : Value} {od_told_version an_told_version : Option Addr} {sl_told_version : Array (Option Value)}
    {f_is_release : Addr} {oc_is_release kV_is_release dc_is_release pm_is_release cd_is_release ct_is_release : Value} {od_is_release an_is_release : Option Addr} {sl_is_release : Array (Option Value)}
    {f_is_other : Addr} {oc_is_other kV_is_other dc_is_other pm_is_other cd_is_other ct_is_other : Value} {od_is_other an_is_other : Option Addr} {sl_is_other : Array (Option Value)}
    {f_is_feature : Addr} {oc_is_feature kV_is_feature dc_is_feature pm_is_feature cd_is_feature ct_is_feature : Value} {od_is_feature an_is_feature : Option Addr} {sl_is_feature : Array (Option Value)}
    {f_lacking : Addr} {oc_lacking kV_lacking dc_lacking pm_lacking cd_lacking ct_lacking : Value} {od_lacking an_lacking : Option Addr} {sl_lacking : Array (Option Value)}
    {f_is_features : Addr} {oc_is_features kV_is_features dc_is_features pm_is_features cd_is_features ct_is_features : Value} {od_is_features an_is_features : Option Addr} {sl_is_features : Array (Option Value)}
    {f_is_need : Addr} {oc_is_need kV_is_need dc_is_need pm_is_need cd_is_need ct_is_need : Value} {od_is_need an_is_need : Option Addr} {sl_is_need : Array (Option Value)}
    {f_is_bar : Addr} {oc_is_bar kV_is_bar dc_is_bar pm_is_bar cd_is_bar ct_is_bar : Value} {od_is_bar an_is_bar : Option Addr} {sl_is_bar : Array (Option Value)}
    {f_wrong_need : Addr} {oc_wrong_need kV_wrong_need dc_wrong_need pm_wrong_need cd_wrong_need ct_wrong_need : Value} {od_wrong_need an_wrong_need : Option Addr} {sl_wrong_need : Array (Option Value)}
    {f_wrong_bar : Addr} {oc_wrong_bar kV_wrong_bar dc_wrong_bar pm_wrong_bar cd_wrong_bar ct_wrong_bar : Value} {od_wrong_bar an_wrong_bar : Option Addr} {sl_wrong_bar : Array (Option Value)}
    {f_wrong_part : Addr} {oc_wrong_part kV_wrong_part dc_wrong_part pm_wrong_part cd_wrong_part ct_wrong_part : Value} {od_wrong_part an_wrong_part : Option Addr} {sl_wrong_part : Array (Option Value)}
    {f_is_triple : Addr} {oc_is_triple kV_is_triple dc_is_triple pm_is_triple cd_is_triple ct_is_triple : Value} {od_is_triple an_is_triple : Option Addr} {sl_is_triple : Array (Option Value)}
    {f_lines_of : Addr} {oc_lines_of kV_lines_of dc_lines_of pm_lines_of cd_lines_of ct_lines_of : Value} {od_lines_of an_lines_of : Option Addr} {sl_lines_of : Array (Option Value)}
    {f_text_of : Addr} {oc_text_of kV_text_of dc_text_of pm_text_of cd_text_of ct_text_of : Value} {od_text_of an_text_of : Option Addr} {sl_text_of : Array (Option Value)}
    {f_check_line : Addr} {oc_check_line kV_check_line dc_check_line pm_check_line cd_check_line ct_check_line : Value} {od_check_line an_check_line : Option Addr} {sl_check_line : Array (Option Value)}
    {f_told_triple : Addr} {oc_told_triple kV_told_triple dc_told_triple pm_told_triple cd_told_triple ct_told_triple : Value} {od_told_triple an_told_triple : Option Addr} {sl_told_triple : Array (Option Value)}
    {f_read_lock : Addr} {oc_read_lock kV_read_lock dc_read_lock pm_read_lock cd_read_lock ct_read_lock : Value} {od_read_lock an_read_lock : Option Addr} {sl_read_lock : Array (Option Value)}
    {f__law_hand : Addr} {oc__law_hand kV__law_hand dc__law_hand pm__law_hand cd__law_hand ct__law_hand : Value} {od__law_hand an__law_hand : Option Addr} {sl__law_hand : Array (Option Value)}
    {f__law_draw : Addr} {oc__law_draw kV__law_draw dc__law_draw pm__law_draw cd__law_draw ct__law_draw : Value} {od__law_draw an__law_draw : Option Addr} {sl__law_draw : Array (Option Value)}
    {f__law_any : Addr} {oc__law_any kV__law_any dc__law_any pm__law_any cd__law_any ct__law_any : Value} {od__law_any an__law_any : Option Addr} {sl__law_any : Array (Option Value)}
    {f__law_name : Addr} {oc__law_name kV__law_name dc__law_name pm__law_name cd__law_name ct__law_name : Value} {od__law_name an__law_name : Option Addr} {sl__law_name : Array (Option Value)}
    {f__law_installation : Addr} {oc__law_installation kV__law_installation dc__law_installation pm__law_installation cd__law_installation ct__law_installation : Value} {od__law_installation an__law_installation : Option Addr} {sl__law_installation : Array (Option Value)}
    {f__law_check : Addr} {oc__law_check kV__law_check dc__law_check pm__law_check cd__law_check ct__law_check : Value} {od__law_check an__law_check : Option Addr} {sl__law_check : Array (Option Value)}
    {f__law_line : Addr} {oc__law_line kV__law_line dc__law_line pm__law_line cd__law_line ct__law_line : Value} {od__law_line an__law_line : Option Addr} {sl__law_line : Array (Option Value)}
    {f__law_is_name : Addr} {oc__law_is_name kV__law_is_name dc__law_is_name pm__law_is_name cd__law_is_name ct__law_is_name : Value} {od__law_is_name an__law_is_name : Option Addr} {sl__law_is_name : Array (Option Value)}
    {f__law_number : Addr} {oc__law_number kV__law_number dc__law_number pm__law_number cd__law_number ct__law_number : Value} {od__law_number an__law_number : Option Addr} {sl__law_number : Array (Option Value)}
    {f__law_triple : Addr} {oc__law_triple kV__law_triple dc__law_triple pm__law_triple cd__law_triple ct__law_triple : Value} {od__law_triple an__law_triple : Option Addr} {sl__law_triple : Array (Option Value)}
    {f__law_due : Addr} {oc__law_due kV__law_due dc__law_due pm__law_due cd__law_due ct__law_due : Value} {od__law_due an__law_due : Option Addr} {sl__law_due : Array (Option Value)}
    {f__law_read : Addr} {oc__law_read kV__law_read dc__law_read pm__law_read cd__law_read ct__law_read : Value} {od__law_read an__law_read : Option Addr} {sl__law_read : Array (Option Value)}
    {f__law_bent_word : Addr} {oc__law_bent_word kV__law_bent_word dc__law_bent_word pm__law_bent_word cd__law_bent_word ct__law_bent_word : Value} {od__law_bent_word an__law_bent_word : Option Addr} {sl__law_bent_word : Array (Option Value)}
    {f__law_bent_line : Addr} {oc__law_bent_line kV__law_bent_line dc__law_bent_line pm__law_bent_line cd__law_bent_line ct__law_bent_line : Value} {od__law_bent_line an__law_bent_line : Option Addr} {sl__law_bent_line : Array (Option Value)}
    {f__law_bent_lines : Addr} {oc__law_bent_lines kV__law_bent_lines dc__law_bent_lines pm__law_bent_lines cd__law_bent_lines ct__law_bent_lines : Value} {od__law_bent_lines an__law_bent_lines : Option Addr} {sl__law_bent_lines : Array (Option Value)}
    {f__law_end : Addr} {oc__law_end kV__law_end dc__law_end pm__law_end cd__law_end ct__law_end : Value} {od__law_end an__law_end : Option Addr} {sl__law_end : Array (Option Value)}
    {f__law_strange : Addr} {oc__law_strange kV__law_strange dc__law_strange pm__law_strange cd__law_strange ct__law_strange : Value} {od__law_strange an__law_strange : Option Addr} {sl__law_strange : Array (Option Value)}
    {f_law : Addr} {oc_law kV_law dc_law pm_law cd_law ct_law : Value} {od_law an_law : Option Addr} {sl_law : Array (Option Value)}
    {c_LockError : Addr}
    {c_BadText : Addr}
    {c_BadEntry : Addr}
    {c_BadLine : Addr}
    {cl_BadEntry : Addr} {nm_BadEntry q_BadEntry : Str} {N_BadEntry : Addr} {bs_BadEntry : List Value} {sn_BadEntry : List Str} {sb_BadEntry : List Value} {ab_BadEntry : Bool} {co_BadEntry : Option Bool} {dd_BadEntry : Option Addr} {m0_BadEntry m1_BadEntry m2_BadEntry m3_BadEntry m5_BadEntry : Option Value}
    {fi_BadEntry : Addr} {oci_BadEntry kVi_BadEntry dci_BadEntry pmi_BadEntry cdi_BadEntry cti_BadEntry : Value} {odi_BadEntry ani_BadEntry : Option Addr} {sli_BadEntry : Array (Option Value)}
    {cl_BadLine : Addr} {nm_BadLine q_BadLine : Str} {N_BadLine : Addr} {bs_BadLine : List Value} {sn_BadLine : List Str} {sb_BadLine : List Value} {ab_BadLine : Bool} {co_BadLine : Option Bool} {dd_BadLine : Option Addr} {m0_BadLine m1_BadLine m2_BadLine m3_BadLine m5_BadLine : Option Value}
    {fi_BadLine : Addr} {oci_BadLine kVi_BadLine dci_BadLine pmi_BadLine cdi_BadLine cti_BadLine : Value} {odi_BadLine ani_BadLine : Option Addr} {sli_BadLine : Array (Option Value)}
    {c_Entry : Addr}
    {f_Entry___init__ : Addr} {oc_Entry___init__ kV_Entry___init__ dc_Entry___init__ pm_Entry___init__ cd_Entry___init__ ct_Entry___init__ : Value} {od_Entry___init__ an_Entry___init__ : Option Addr} {sl_Entry___init__ : Array (Option Value)}
    {f_Entry___eq__ : Addr} {oc_Entry___eq__ kV_Entry___eq__ dc_Entry___eq__ pm_Entry___eq__ cd_Entry___eq__ ct_Entry___eq__ : Value} {od_Entry___eq__ an_Entry___eq__ : Option Addr} {sl_Entry___eq__ : Array (Option Value)}
    {u_NAME_MOST : Value}
    {u_WANTED_MOST : Value}
    {u_NUMBER_MOST : Value}
    {u_NUMBER_DIGITS : Value}
    {u_RELEASE_MOST : Value}
    {u_FEATURES_MOST : Value}
    {u_NEEDS_MOST : Value}
    {u_BARS_MOST : Value}
    {u_CHECK_MODULUS : Value}
    (a_is_integer : PySem.W.nsIn K mainGlobals "is_integer" = some (some (.ref f_is_integer)))
    (l_is_integer : K.lookup f_is_integer = some ⟨oc_is_integer, od_is_integer, .func (PySem.W.fnOf "is_integer" "is_integer" (defArgs S_is_integer) (defBody S_is_integer) (defScope S_is_integer) .none kV_is_integer dc_is_integer pm_is_integer an_is_integer cd_is_integer ct_is_integer), sl_is_integer⟩)
    (q_is_integer : PySem.W.codeIn K cd_is_integer "is_integer" = true)
    (k_is_integer : PySem.W.keepIn K (.ref f_is_integer) = true)
    (a_is_number : PySem.W.nsIn K mainGlobals "is_number" = some (some (.ref f_is_number)))
    (l_is_number : K.lookup f_is_number = some ⟨oc_is_number, od_is_number, .func (PySem.W.fnOf "is_number" "is_number" (defArgs S_is_number) (defBody S_is_number) (defScope S_is_number) .none kV_is_number dc_is_number pm_is_number an_is_number cd_is_number ct_is_number), sl_is_number⟩)
    (q_is_number : PySem.W.codeIn K cd_is_number "is_number" = true)
    (k_is_number : PySem.W.keepIn K (.ref f_is_number) = true)
    (a_is_name : PySem.W.nsIn K mainGlobals "is_name" = some (some (.ref f_is_name)))
    (l_is_name : K.lookup f_is_name = some ⟨oc_is_name, od_is_name, .func (PySem.W.fnOf "is_name" "is_name" (defArgs S_is_name) (defBody S_is_name) (defScope S_is_name) .none kV_is_name dc_is_name pm_is_name an_is_name cd_is_name ct_is_name), sl_is_name⟩)
    (q_is_name : PySem.W.codeIn K cd_is_name "is_name" = true)
    (k_is_name : PySem.W.keepIn K (.ref f_is_name) = true)
    (a_is_names : PySem.W.nsIn K mainGlobals "is_names" = some (some (.ref f_is_names)))
    (l_is_names : K.lookup f_is_names = some ⟨oc_is_names, od_is_names, .func (PySem.W.fnOf "is_names" "is_names" (defArgs S_is_names) (defBody S_is_names) (defScope S_is_names) .none kV_is_names dc_is_names pm_is_names an_is_names cd_is_names ct_is_names), sl_is_names⟩)
    (q_is_names : PySem.W.codeIn K cd_is_names "is_names" = true)
    (k_is_names : PySem.W.keepIn K (.ref f_is_names) = true)
    (a_is_wanted : PySem.W.nsIn K mainGlobals "is_wanted" = some (some (.ref f_is_wanted)))
    (l_is_wanted : K.lookup f_is_wanted = some ⟨oc_is_wanted, od_is_wanted, .func (PySem.W.fnOf "is_wanted" "is_wanted" (defArgs S_is_wanted) (defBody S_is_wanted) (defScope S_is_wanted) .none kV_is_wanted dc_is_wanted pm_is_wanted an_is_wanted cd_is_wanted ct_is_wanted), sl_is_wanted⟩)
    (q_is_wanted : PySem.W.codeIn K cd_is_wanted "is_wanted" = true)
    (k_is_wanted : PySem.W.keepIn K (.ref f_is_wanted) = true)
    (a_is_tuple_of : PySem.W.nsIn K mainGlobals "is_tuple_of" = some (some (.ref f_is_tuple_of)))
    (l_is_tuple_of : K.lookup f_is_tuple_of = some ⟨oc_is_tuple_of, od_is_tuple_of, .func (PySem.W.fnOf "is_tuple_of" "is_tuple_of" (defArgs S_is_tuple_of) (defBody S_is_tuple_of) (defScope S_is_tuple_of) .none kV_is_tuple_of dc_is_tuple_of pm_is_tuple_of an_is_tuple_of cd_is_tuple_of ct_is_tuple_of), sl_is_tuple_of⟩)
    (q_is_tuple_of : PySem.W.codeIn K cd_is_tuple_of "is_tuple_of" = true)
    (k_is_tuple_of : PySem.W.keepIn K (.ref f_is_tuple_of) = true)
    (a_is_tuple_within : PySem.W.nsIn K mainGlobals "is_tuple_within" = some (some (.ref f_is_tuple_within)))
    (l_is_tuple_within : K.lookup f_is_tuple_within = some ⟨oc_is_tuple_within, od_is_tuple_within, .func (PySem.W.fnOf "is_tuple_within" "is_tuple_within" (defArgs S_is_tuple_within) (defBody S_is_tuple_within) (defScope S_is_tuple_within) .none kV_is_tuple_within dc_is_tuple_within pm_is_tuple_within an_is_tuple_within cd_is_tuple_within ct_is_tuple_within), sl_is_tuple_within⟩)
    (q_is_tuple_within : PySem.W.codeIn K cd_is_tuple_within "is_tuple_within" = true)
    (k_is_tuple_within : PySem.W.keepIn K (.ref f_is_tuple_within) = true)
    (a_is_version : PySem.W.nsIn K mainGlobals "is_version" = some (some (.ref f_is_version)))
    (l_is_version : K.lookup f_is_version = some ⟨oc_is_version, od_is_version, .func (PySem.W.fnOf "is_version" "is_version" (defArgs S_is_version) (defBody S_is_version) (defScope S_is_version) .none kV_is_version dc_is_version pm_is_version an_is_version cd_is_version ct_is_version), sl_is_version⟩)
    (q_is_version : PySem.W.codeIn K cd_is_version "is_version" = true)
    (k_is_version : PySem.W.keepIn K (.ref f_is_version) = true)
    (a_is_stretch : PySem.W.nsIn K mainGlobals "is_stretch" = some (some (.ref f_is_stretch)))
    (l_is_stretch : K.lookup f_is_stretch = some ⟨oc_is_stretch, od_is_stretch, .func (PySem.W.fnOf "is_stretch" "is_stretch" (defArgs S_is_stretch) (defBody S_is_stretch) (defScope S_is_stretch) .none kV_is_stretch dc_is_stretch pm_is_stretch an_is_stretch cd_is_stretch ct_is_stretch), sl_is_stretch⟩)
    (q_is_stretch : PySem.W.codeIn K cd_is_stretch "is_stretch" = true)
    (k_is_stretch : PySem.W.keepIn K (.ref f_is_stretch) = true)
    (a_is_range : PySem.W.nsIn K mainGlobals "is_range" = some (some (.ref f_is_range)))
    (l_is_range : K.lookup f_is_range = some ⟨oc_is_range, od_is_range, .func (PySem.W.fnOf "is_range" "is_range" (defArgs S_is_range) (defBody S_is_range) (defScope S_is_range) .none kV_is_range dc_is_range pm_is_range an_is_range cd_is_range ct_is_range), sl_is_range⟩)
    (q_is_range : PySem.W.codeIn K cd_is_range "is_range" = true)
    (k_is_range : PySem.W.keepIn K (.ref f_is_range) = true)
    (a_reaches : PySem.W.nsIn K mainGlobals "reaches" = some (some (.ref f_reaches)))
    (l_reaches : K.lookup f_reaches = some ⟨oc_reaches, od_reaches, .func (PySem.W.fnOf "reaches" "reaches" (defArgs S_reaches) (defBody S_reaches) (defScope S_reaches) .none kV_reaches dc_reaches pm_reaches an_reaches cd_reaches ct_reaches), sl_reaches⟩)
    (q_reaches : PySem.W.codeIn K cd_reaches "reaches" = true)
    (k_reaches : PySem.W.keepIn K (.ref f_reaches) = true)
    (a_told_number : PySem.W.nsIn K mainGlobals "told_number" = some (some (.ref f_told_number)))
    (l_told_number : K.lookup f_told_number = some ⟨oc_told_number, od_told_number, .func (PySem.W.fnOf "told_number" "told_number" (defArgs S_told_number) (defBody S_told_number) (defScope S_told_number) .none kV_told_number dc_told_number pm_told_number an_told_number cd_told_number ct_told_number), sl_told_number⟩)
    (q_told_number : PySem.W.codeIn K cd_told_number "told_number" = true)
    (k_told_number : PySem.W.keepIn K (.ref f_told_number) = true)
    (a_told_version : PySem.W.nsIn K mainGlobals "told_version" = some (some (.ref f_told_version)))
    (l_told_version : K.lookup f_told_version = some ⟨oc_told_version, od_told_version, .func (PySem.W.fnOf "told_version" "told_version" (defArgs S_told_version) (defBody S_told_version) (defScope S_told_version) .none kV_told_version dc_told_version pm_told_version an_told_version cd_told_version ct_told_version), sl_told_version⟩)
    (q_told_version : PySem.W.codeIn K cd_told_version "told_version" = true)
    (k_told_version : PySem.W.keepIn K (.ref f_told_version) = true)
    (a_is_release : PySem.W.nsIn K mainGlobals "is_release" = some (some (.ref f_is_release)))
    (l_is_release : K.lookup f_is_release = some ⟨oc_is_release, od_is_release, .func (PySem.W.fnOf "is_release" "is_release" (defArgs S_is_release) (defBody S_is_release) (defScope S_is_release) .none kV_is_release dc_is_release pm_is_release an_is_release cd_is_release ct_is_release), sl_is_release⟩)
    (q_is_release : PySem.W.codeIn K cd_is_release "is_release" = true)
    (k_is_release : PySem.W.keepIn K (.ref f_is_release) = true)
    (a_is_other : PySem.W.nsIn K mainGlobals "is_other" = some (some (.ref f_is_other)))
    (l_is_other : K.lookup f_is_other = some ⟨oc_is_other, od_is_other, .func (PySem.W.fnOf "is_other" "is_other" (defArgs S_is_other) (defBody S_is_other) (defScope S_is_other) .none kV_is_other dc_is_other pm_is_other an_is_other cd_is_other ct_is_other), sl_is_other⟩)
    (q_is_other : PySem.W.codeIn K cd_is_other "is_other" = true)
    (k_is_other : PySem.W.keepIn K (.ref f_is_other) = true)
    (a_is_feature : PySem.W.nsIn K mainGlobals "is_feature" = some (some (.ref f_is_feature)))
    (l_is_feature : K.lookup f_is_feature = some ⟨oc_is_feature, od_is_feature, .func (PySem.W.fnOf "is_feature" "is_feature" (defArgs S_is_feature) (defBody S_is_feature) (defScope S_is_feature) .none kV_is_feature dc_is_feature pm_is_feature an_is_feature cd_is_feature ct_is_feature), sl_is_feature⟩)
    (q_is_feature : PySem.W.codeIn K cd_is_feature "is_feature" = true)
    (k_is_feature : PySem.W.keepIn K (.ref f_is_feature) = true)
    (a_lacking : PySem.W.nsIn K mainGlobals "lacking" = some (some (.ref f_lacking)))
    (l_lacking : K.lookup f_lacking = some ⟨oc_lacking, od_lacking, .func (PySem.W.fnOf "lacking" "lacking" (defArgs S_lacking) (defBody S_lacking) (defScope S_lacking) .none kV_lacking dc_lacking pm_lacking an_lacking cd_lacking ct_lacking), sl_lacking⟩)
    (q_lacking : PySem.W.codeIn K cd_lacking "lacking" = true)
    (k_lacking : PySem.W.keepIn K (.ref f_lacking) = true)
    (a_is_features : PySem.W.nsIn K mainGlobals "is_features" = some (some (.ref f_is_features)))
    (l_is_features : K.lookup f_is_features = some ⟨oc_is_features, od_is_features, .func (PySem.W.fnOf "is_features" "is_features" (defArgs S_is_features) (defBody S_is_features) (defScope S_is_features) .none kV_is_features dc_is_features pm_is_features an_is_features cd_is_features ct_is_features), sl_is_features⟩)
    (q_is_features : PySem.W.codeIn K cd_is_features "is_features" = true)
    (k_is_features : PySem.W.keepIn K (.ref f_is_features) = true)
    (a_is_need : PySem.W.nsIn K mainGlobals "is_need" = some (some (.ref f_is_need)))
    (l_is_need : K.lookup f_is_need = some ⟨oc_is_need, od_is_need, .func (PySem.W.fnOf "is_need" "is_need" (defArgs S_is_need) (defBody S_is_need) (defScope S_is_need) .none kV_is_need dc_is_need pm_is_need an_is_need cd_is_need ct_is_need), sl_is_need⟩)
    (q_is_need : PySem.W.codeIn K cd_is_need "is_need" = true)
    (k_is_need : PySem.W.keepIn K (.ref f_is_need) = true)
    (a_is_bar : PySem.W.nsIn K mainGlobals "is_bar" = some (some (.ref f_is_bar)))
    (l_is_bar : K.lookup f_is_bar = some ⟨oc_is_bar, od_is_bar, .func (PySem.W.fnOf "is_bar" "is_bar" (defArgs S_is_bar) (defBody S_is_bar) (defScope S_is_bar) .none kV_is_bar dc_is_bar pm_is_bar an_is_bar cd_is_bar ct_is_bar), sl_is_bar⟩)
    (q_is_bar : PySem.W.codeIn K cd_is_bar "is_bar" = true)
    (k_is_bar : PySem.W.keepIn K (.ref f_is_bar) = true)
    (a_wrong_need : PySem.W.nsIn K mainGlobals "wrong_need" = some (some (.ref f_wrong_need)))
    (l_wrong_need : K.lookup f_wrong_need = some ⟨oc_wrong_need, od_wrong_need, .func (PySem.W.fnOf "wrong_need" "wrong_need" (defArgs S_wrong_need) (defBody S_wrong_need) (defScope S_wrong_need) .none kV_wrong_need dc_wrong_need pm_wrong_need an_wrong_need cd_wrong_need ct_wrong_need), sl_wrong_need⟩)
    (q_wrong_need : PySem.W.codeIn K cd_wrong_need "wrong_need" = true)
    (k_wrong_need : PySem.W.keepIn K (.ref f_wrong_need) = true)
    (a_wrong_bar : PySem.W.nsIn K mainGlobals "wrong_bar" = some (some (.ref f_wrong_bar)))
    (l_wrong_bar : K.lookup f_wrong_bar = some ⟨oc_wrong_bar, od_wrong_bar, .func (PySem.W.fnOf "wrong_bar" "wrong_bar" (defArgs S_wrong_bar) (defBody S_wrong_bar) (defScope S_wrong_bar) .none kV_wrong_bar dc_wrong_bar pm_wrong_bar an_wrong_bar cd_wrong_bar ct_wrong_bar), sl_wrong_bar⟩)
    (q_wrong_bar : PySem.W.codeIn K cd_wrong_bar "wrong_bar" = true)
    (k_wrong_bar : PySem.W.keepIn K (.ref f_wrong_bar) = true)
    (a_wrong_part : PySem.W.nsIn K mainGlobals "wrong_part" = some (some (.ref f_wrong_part)))
    (l_wrong_part : K.lookup f_wrong_part = some ⟨oc_wrong_part, od_wrong_part, .func (PySem.W.fnOf "wrong_part" "wrong_part" (defArgs S_wrong_part) (defBody S_wrong_part) (defScope S_wrong_part) .none kV_wrong_part dc_wrong_part pm_wrong_part an_wrong_part cd_wrong_part ct_wrong_part), sl_wrong_part⟩)
    (q_wrong_part : PySem.W.codeIn K cd_wrong_part "wrong_part" = true)
    (k_wrong_part : PySem.W.keepIn K (.ref f_wrong_part) = true)
    (a_is_triple : PySem.W.nsIn K mainGlobals "is_triple" = some (some (.ref f_is_triple)))
    (l_is_triple : K.lookup f_is_triple = some ⟨oc_is_triple, od_is_triple, .func (PySem.W.fnOf "is_triple" "is_triple" (defArgs S_is_triple) (defBody S_is_triple) (defScope S_is_triple) .none kV_is_triple dc_is_triple pm_is_triple an_is_triple cd_is_triple ct_is_triple), sl_is_triple⟩)
    (q_is_triple : PySem.W.codeIn K cd_is_triple "is_triple" = true)
    (k_is_triple : PySem.W.keepIn K (.ref f_is_triple) = true)
    (a_lines_of : PySem.W.nsIn K mainGlobals "lines_of" = some (some (.ref f_lines_of)))
    (l_lines_of : K.lookup f_lines_of = some ⟨oc_lines_of, od_lines_of, .func (PySem.W.fnOf "lines_of" "lines_of" (defArgs S_lines_of) (defBody S_lines_of) (defScope S_lines_of) .none kV_lines_of dc_lines_of pm_lines_of an_lines_of cd_lines_of ct_lines_of), sl_lines_of⟩)
    (q_lines_of : PySem.W.codeIn K cd_lines_of "lines_of" = true)
    (k_lines_of : PySem.W.keepIn K (.ref f_lines_of) = true)
    (a_text_of : PySem.W.nsIn K mainGlobals "text_of" = some (some (.ref f_text_of)))
    (l_text_of : K.lookup f_text_of = some ⟨oc_text_of, od_text_of, .func (PySem.W.fnOf "text_of" "text_of" (defArgs S_text_of) (defBody S_text_of) (defScope S_text_of) .none kV_text_of dc_text_of pm_text_of an_text_of cd_text_of ct_text_of), sl_text_of⟩)
    (q_text_of : PySem.W.codeIn K cd_text_of "text_of" = true)
    (k_text_of : PySem.W.keepIn K (.ref f_text_of) = true)
    (a_check_line : PySem.W.nsIn K mainGlobals "check_line" = some (some (.ref f_check_line)))
    (l_check_line : K.lookup f_check_line = some ⟨oc_check_line, od_check_line, .func (PySem.W.fnOf "check_line" "check_line" (defArgs S_check_line) (defBody S_check_line) (defScope S_check_line) .none kV_check_line dc_check_line pm_check_line an_check_line cd_check_line ct_check_line), sl_check_line⟩)
    (q_check_line : PySem.W.codeIn K cd_check_line "check_line" = true)
    (k_check_line : PySem.W.keepIn K (.ref f_check_line) = true)
    (a_told_triple : PySem.W.nsIn K mainGlobals "told_triple" = some (some (.ref f_told_triple)))
    (l_told_triple : K.lookup f_told_triple = some ⟨oc_told_triple, od_told_triple, .func (PySem.W.fnOf "told_triple" "told_triple" (defArgs S_told_triple) (defBody S_told_triple) (defScope S_told_triple) .none kV_told_triple dc_told_triple pm_told_triple an_told_triple cd_told_triple ct_told_triple), sl_told_triple⟩)
    (q_told_triple : PySem.W.codeIn K cd_told_triple "told_triple" = true)
    (k_told_triple : PySem.W.keepIn K (.ref f_told_triple) = true)
    (a_read_lock : PySem.W.nsIn K mainGlobals "read_lock" = some (some (.ref f_read_lock)))
    (l_read_lock : K.lookup f_read_lock = some ⟨oc_read_lock, od_read_lock, .func (PySem.W.fnOf "read_lock" "read_lock" (defArgs S_read_lock) (defBody S_read_lock) (defScope S_read_lock) .none kV_read_lock dc_read_lock pm_read_lock an_read_lock cd_read_lock ct_read_lock), sl_read_lock⟩)
    (q_read_lock : PySem.W.codeIn K cd_read_lock "read_lock" = true)
    (k_read_lock : PySem.W.keepIn K (.ref f_read_lock) = true)
    (a__law_hand : PySem.W.nsIn K mainGlobals "_law_hand" = some (some (.ref f__law_hand)))
    (l__law_hand : K.lookup f__law_hand = some ⟨oc__law_hand, od__law_hand, .func (PySem.W.fnOf "_law_hand" "_law_hand" (defArgs S__law_hand) (defBody S__law_hand) (defScope S__law_hand) .none kV__law_hand dc__law_hand pm__law_hand an__law_hand cd__law_hand ct__law_hand), sl__law_hand⟩)
    (q__law_hand : PySem.W.codeIn K cd__law_hand "_law_hand" = true)
    (k__law_hand : PySem.W.keepIn K (.ref f__law_hand) = true)
    (a__law_draw : PySem.W.nsIn K mainGlobals "_law_draw" = some (some (.ref f__law_draw)))
    (l__law_draw : K.lookup f__law_draw = some ⟨oc__law_draw, od__law_draw, .func (PySem.W.fnOf "_law_draw" "_law_draw" (defArgs S__law_draw) (defBody S__law_draw) (defScope S__law_draw) .none kV__law_draw dc__law_draw pm__law_draw an__law_draw cd__law_draw ct__law_draw), sl__law_draw⟩)
    (q__law_draw : PySem.W.codeIn K cd__law_draw "_law_draw" = true)
    (k__law_draw : PySem.W.keepIn K (.ref f__law_draw) = true)
    (a__law_any : PySem.W.nsIn K mainGlobals "_law_any" = some (some (.ref f__law_any)))
    (l__law_any : K.lookup f__law_any = some ⟨oc__law_any, od__law_any, .func (PySem.W.fnOf "_law_any" "_law_any" (defArgs S__law_any) (defBody S__law_any) (defScope S__law_any) .none kV__law_any dc__law_any pm__law_any an__law_any cd__law_any ct__law_any), sl__law_any⟩)
    (q__law_any : PySem.W.codeIn K cd__law_any "_law_any" = true)
    (k__law_any : PySem.W.keepIn K (.ref f__law_any) = true)
    (a__law_name : PySem.W.nsIn K mainGlobals "_law_name" = some (some (.ref f__law_name)))
    (l__law_name : K.lookup f__law_name = some ⟨oc__law_name, od__law_name, .func (PySem.W.fnOf "_law_name" "_law_name" (defArgs S__law_name) (defBody S__law_name) (defScope S__law_name) .none kV__law_name dc__law_name pm__law_name an__law_name cd__law_name ct__law_name), sl__law_name⟩)
    (q__law_name : PySem.W.codeIn K cd__law_name "_law_name" = true)
    (k__law_name : PySem.W.keepIn K (.ref f__law_name) = true)
    (a__law_installation : PySem.W.nsIn K mainGlobals "_law_installation" = some (some (.ref f__law_installation)))
    (l__law_installation : K.lookup f__law_installation = some ⟨oc__law_installation, od__law_installation, .func (PySem.W.fnOf "_law_installation" "_law_installation" (defArgs S__law_installation) (defBody S__law_installation) (defScope S__law_installation) .none kV__law_installation dc__law_installation pm__law_installation an__law_installation cd__law_installation ct__law_installation), sl__law_installation⟩)
    (q__law_installation : PySem.W.codeIn K cd__law_installation "_law_installation" = true)
    (k__law_installation : PySem.W.keepIn K (.ref f__law_installation) = true)
    (a__law_check : PySem.W.nsIn K mainGlobals "_law_check" = some (some (.ref f__law_check)))
    (l__law_check : K.lookup f__law_check = some ⟨oc__law_check, od__law_check, .func (PySem.W.fnOf "_law_check" "_law_check" (defArgs S__law_check) (defBody S__law_check) (defScope S__law_check) .none kV__law_check dc__law_check pm__law_check an__law_check cd__law_check ct__law_check), sl__law_check⟩)
    (q__law_check : PySem.W.codeIn K cd__law_check "_law_check" = true)
    (k__law_check : PySem.W.keepIn K (.ref f__law_check) = true)
    (a__law_line : PySem.W.nsIn K mainGlobals "_law_line" = some (some (.ref f__law_line)))
    (l__law_line : K.lookup f__law_line = some ⟨oc__law_line, od__law_line, .func (PySem.W.fnOf "_law_line" "_law_line" (defArgs S__law_line) (defBody S__law_line) (defScope S__law_line) .none kV__law_line dc__law_line pm__law_line an__law_line cd__law_line ct__law_line), sl__law_line⟩)
    (q__law_line : PySem.W.codeIn K cd__law_line "_law_line" = true)
    (k__law_line : PySem.W.keepIn K (.ref f__law_line) = true)
    (a__law_is_name : PySem.W.nsIn K mainGlobals "_law_is_name" = some (some (.ref f__law_is_name)))
    (l__law_is_name : K.lookup f__law_is_name = some ⟨oc__law_is_name, od__law_is_name, .func (PySem.W.fnOf "_law_is_name" "_law_is_name" (defArgs S__law_is_name) (defBody S__law_is_name) (defScope S__law_is_name) .none kV__law_is_name dc__law_is_name pm__law_is_name an__law_is_name cd__law_is_name ct__law_is_name), sl__law_is_name⟩)
    (q__law_is_name : PySem.W.codeIn K cd__law_is_name "_law_is_name" = true)
    (k__law_is_name : PySem.W.keepIn K (.ref f__law_is_name) = true)
    (a__law_number : PySem.W.nsIn K mainGlobals "_law_number" = some (some (.ref f__law_number)))
    (l__law_number : K.lookup f__law_number = some ⟨oc__law_number, od__law_number, .func (PySem.W.fnOf "_law_number" "_law_number" (defArgs S__law_number) (defBody S__law_number) (defScope S__law_number) .none kV__law_number dc__law_number pm__law_number an__law_number cd__law_number ct__law_number), sl__law_number⟩)
    (q__law_number : PySem.W.codeIn K cd__law_number "_law_number" = true)
    (k__law_number : PySem.W.keepIn K (.ref f__law_number) = true)
    (a__law_triple : PySem.W.nsIn K mainGlobals "_law_triple" = some (some (.ref f__law_triple)))
    (l__law_triple : K.lookup f__law_triple = some ⟨oc__law_triple, od__law_triple, .func (PySem.W.fnOf "_law_triple" "_law_triple" (defArgs S__law_triple) (defBody S__law_triple) (defScope S__law_triple) .none kV__law_triple dc__law_triple pm__law_triple an__law_triple cd__law_triple ct__law_triple), sl__law_triple⟩)
    (q__law_triple : PySem.W.codeIn K cd__law_triple "_law_triple" = true)
    (k__law_triple : PySem.W.keepIn K (.ref f__law_triple) = true)
    (a__law_due : PySem.W.nsIn K mainGlobals "_law_due" = some (some (.ref f__law_due)))
    (l__law_due : K.lookup f__law_due = some ⟨oc__law_due, od__law_due, .func (PySem.W.fnOf "_law_due" "_law_due" (defArgs S__law_due) (defBody S__law_due) (defScope S__law_due) .none kV__law_due dc__law_due pm__law_due an__law_due cd__law_due ct__law_due), sl__law_due⟩)
    (q__law_due : PySem.W.codeIn K cd__law_due "_law_due" = true)
    (k__law_due : PySem.W.keepIn K (.ref f__law_due) = true)
    (a__law_read : PySem.W.nsIn K mainGlobals "_law_read" = some (some (.ref f__law_read)))
    (l__law_read : K.lookup f__law_read = some ⟨oc__law_read, od__law_read, .func (PySem.W.fnOf "_law_read" "_law_read" (defArgs S__law_read) (defBody S__law_read) (defScope S__law_read) .none kV__law_read dc__law_read pm__law_read an__law_read cd__law_read ct__law_read), sl__law_read⟩)
    (q__law_read : PySem.W.codeIn K cd__law_read "_law_read" = true)
    (k__law_read : PySem.W.keepIn K (.ref f__law_read) = true)
    (a__law_bent_word : PySem.W.nsIn K mainGlobals "_law_bent_word" = some (some (.ref f__law_bent_word)))
    (l__law_bent_word : K.lookup f__law_bent_word = some ⟨oc__law_bent_word, od__law_bent_word, .func (PySem.W.fnOf "_law_bent_word" "_law_bent_word" (defArgs S__law_bent_word) (defBody S__law_bent_word) (defScope S__law_bent_word) .none kV__law_bent_word dc__law_bent_word pm__law_bent_word an__law_bent_word cd__law_bent_word ct__law_bent_word), sl__law_bent_word⟩)
    (q__law_bent_word : PySem.W.codeIn K cd__law_bent_word "_law_bent_word" = true)
    (k__law_bent_word : PySem.W.keepIn K (.ref f__law_bent_word) = true)
    (a__law_bent_line : PySem.W.nsIn K mainGlobals "_law_bent_line" = some (some (.ref f__law_bent_line)))
    (l__law_bent_line : K.lookup f__law_bent_line = some ⟨oc__law_bent_line, od__law_bent_line, .func (PySem.W.fnOf "_law_bent_line" "_law_bent_line" (defArgs S__law_bent_line) (defBody S__law_bent_line) (defScope S__law_bent_line) .none kV__law_bent_line dc__law_bent_line pm__law_bent_line an__law_bent_line cd__law_bent_line ct__law_bent_line), sl__law_bent_line⟩)
    (q__law_bent_line : PySem.W.codeIn K cd__law_bent_line "_law_bent_line" = true)
    (k__law_bent_line : PySem.W.keepIn K (.ref f__law_bent_line) = true)
    (a__law_bent_lines : PySem.W.nsIn K mainGlobals "_law_bent_lines" = some (some (.ref f__law_bent_lines)))
    (l__law_bent_lines : K.lookup f__law_bent_lines = some ⟨oc__law_bent_lines, od__law_bent_lines, .func (PySem.W.fnOf "_law_bent_lines" "_law_bent_lines" (defArgs S__law_bent_lines) (defBody S__law_bent_lines) (defScope S__law_bent_lines) .none kV__law_bent_lines dc__law_bent_lines pm__law_bent_lines an__law_bent_lines cd__law_bent_lines ct__law_bent_lines), sl__law_bent_lines⟩)
    (q__law_bent_lines : PySem.W.codeIn K cd__law_bent_lines "_law_bent_lines" = true)
    (k__law_bent_lines : PySem.W.keepIn K (.ref f__law_bent_lines) = true)
    (a__law_end : PySem.W.nsIn K mainGlobals "_law_end" = some (some (.ref f__law_end)))
    (l__law_end : K.lookup f__law_end = some ⟨oc__law_end, od__law_end, .func (PySem.W.fnOf "_law_end" "_law_end" (defArgs S__law_end) (defBody S__law_end) (defScope S__law_end) .none kV__law_end dc__law_end pm__law_end an__law_end cd__law_end ct__law_end), sl__law_end⟩)
    (q__law_end : PySem.W.codeIn K cd__law_end "_law_end" = true)
    (k__law_end : PySem.W.keepIn K (.ref f__law_end) = true)
    (a__law_strange : PySem.W.nsIn K mainGlobals "_law_strange" = some (some (.ref f__law_strange)))
    (l__law_strange : K.lookup f__law_strange = some ⟨oc__law_strange, od__law_strange, .func (PySem.W.fnOf "_law_strange" "_law_strange" (defArgs S__law_strange) (defBody S__law_strange) (defScope S__law_strange) .none kV__law_strange dc__law_strange pm__law_strange an__law_strange cd__law_strange ct__law_strange), sl__law_strange⟩)
    (q__law_strange : PySem.W.codeIn K cd__law_strange "_law_strange" = true)
    (k__law_strange : PySem.W.keepIn K (.ref f__law_strange) = true)
    (a_law : PySem.W.nsIn K mainGlobals "law" = some (some (.ref f_law)))
    (l_law : K.lookup f_law = some ⟨oc_law, od_law, .func (PySem.W.fnOf "law" "law" (defArgs S_law) (defBody S_law) (defScope S_law) .none kV_law dc_law pm_law an_law cd_law ct_law), sl_law⟩)
    (q_law : PySem.W.codeIn K cd_law "law" = true)
    (k_law : PySem.W.keepIn K (.ref f_law) = true)
    (z_ValueError : PySem.W.nsIn K mainGlobals "ValueError" = some none)
    (z_abs : PySem.W.nsIn K mainGlobals "abs" = some none)
    (z_all : PySem.W.nsIn K mainGlobals "all" = some none)
    (z_bool : PySem.W.nsIn K mainGlobals "bool" = some none)
    (z_enumerate : PySem.W.nsIn K mainGlobals "enumerate" = some none)
    (z_int : PySem.W.nsIn K mainGlobals "int" = some none)
    (z_isinstance : PySem.W.nsIn K mainGlobals "isinstance" = some none)
    (z_len : PySem.W.nsIn K mainGlobals "len" = some none)
    (z_max : PySem.W.nsIn K mainGlobals "max" = some none)
    (z_ord : PySem.W.nsIn K mainGlobals "ord" = some none)
    (z_range : PySem.W.nsIn K mainGlobals "range" = some none)
    (z_set : PySem.W.nsIn K mainGlobals "set" = some none)
    (z_sorted : PySem.W.nsIn K mainGlobals "sorted" = some none)
    (z_str : PySem.W.nsIn K mainGlobals "str" = some none)
    (z_sum : PySem.W.nsIn K mainGlobals "sum" = some none)
    (z_tuple : PySem.W.nsIn K mainGlobals "tuple" = some none)
    (ea_LockError : PySem.W.nsIn K mainGlobals "LockError" = some (some (.ref c_LockError)))
    (ea_BadText : PySem.W.nsIn K mainGlobals "BadText" = some (some (.ref c_BadText)))
    (ea_BadEntry : PySem.W.nsIn K mainGlobals "BadEntry" = some (some (.ref c_BadEntry)))
    (ea_BadLine : PySem.W.nsIn K mainGlobals "BadLine" = some (some (.ref c_BadLine)))
    (es_BadEntry : PySem.W.subIn K (.ref c_BadEntry) (.type "BaseException") = some true)
    (et_BadEntry : PySem.W.typeIn K (.ref c_BadEntry) = some (.type "type"))
    (eh_BadEntry : PySem.W.hasDictIn K c_BadEntry = true)
    (ex_BadEntry : K.lookup c_BadEntry = some (excClassObj nm_BadEntry q_BadEntry c_BadEntry N_BadEntry bs_BadEntry [.ref cl_BadEntry, .type "ValueError", .type "Exception", .type "BaseException", .type "object"] true sn_BadEntry sb_BadEntry ab_BadEntry co_BadEntry dd_BadEntry m0_BadEntry m1_BadEntry m2_BadEntry m3_BadEntry m5_BadEntry "ValueError.__new__"))
    (ew_BadEntry : PySem.W.findIn K (.ref c_BadEntry) "__setattr__" = some (some (.builtin "object.__setattr__")))
    (ek_BadEntry : PySem.W.keepIn K (.ref c_BadEntry) = true)
    (ei_BadEntry : PySem.W.findIn K (.ref c_BadEntry) "__init__" = some (some (.ref fi_BadEntry)))
    (ej_BadEntry : PySem.W.typeIn K (.ref fi_BadEntry) = some (.type "function"))
    (el_BadEntry : K.lookup fi_BadEntry = some ⟨oci_BadEntry, odi_BadEntry, .func (PySem.W.fnOf "__init__" "BadEntry.__init__" (defArgs SI_BadEntry) (defBody SI_BadEntry) (defScope SI_BadEntry) .none kVi_BadEntry dci_BadEntry pmi_BadEntry ani_BadEntry cdi_BadEntry cti_BadEntry), sli_BadEntry⟩)
    (eq_BadEntry : PySem.W.codeIn K cdi_BadEntry "BadEntry.__init__" = true)
    (er_BadEntry : PySem.W.keepIn K (.ref fi_BadEntry) = true)
    (en_BadEntry : PySem.W.findIn K (.ref c_BadEntry) "part" = some none)
    (es_BadLine : PySem.W.subIn K (.ref c_BadLine) (.type "BaseException") = some true)
    (et_BadLine : PySem.W.typeIn K (.ref c_BadLine) = some (.type "type"))
    (eh_BadLine : PySem.W.hasDictIn K c_BadLine = true)
    (ex_BadLine : K.lookup c_BadLine = some (excClassObj nm_BadLine q_BadLine c_BadLine N_BadLine bs_BadLine [.ref cl_BadLine, .type "ValueError", .type "Exception", .type "BaseException", .type "object"] true sn_BadLine sb_BadLine ab_BadLine co_BadLine dd_BadLine m0_BadLine m1_BadLine m2_BadLine m3_BadLine m5_BadLine "ValueError.__new__"))
    (ew_BadLine : PySem.W.findIn K (.ref c_BadLine) "__setattr__" = some (some (.builtin "object.__setattr__")))
    (ek_BadLine : PySem.W.keepIn K (.ref c_BadLine) = true)
    (ei_BadLine : PySem.W.findIn K (.ref c_BadLine) "__init__" = some (some (.ref fi_BadLine)))
    (ej_BadLine : PySem.W.typeIn K (.ref fi_BadLine) = some (.type "function"))
    (el_BadLine : K.lookup fi_BadLine = some ⟨oci_BadLine, odi_BadLine, .func (PySem.W.fnOf "__init__" "BadLine.__init__" (defArgs SI_BadLine) (defBody SI_BadLine) (defScope SI_BadLine) .none kVi_BadLine dci_BadLine pmi_BadLine ani_BadLine cdi_BadLine cti_BadLine), sli_BadLine⟩)
    (eq_BadLine : PySem.W.codeIn K cdi_BadLine "BadLine.__init__" = true)
    (er_BadLine : PySem.W.keepIn K (.ref fi_BadLine) = true)
    (en_BadLine : PySem.W.findIn K (.ref c_BadLine) "number" = some none)
    (eg_BadLine : PySem.W.findIn K (.ref c_BadLine) "__getattribute__" = some (some (.builtin "BaseException.__getattribute__")))
    (eu_BadLine : PySem.W.findIn K (.ref c_BadLine) "__getattr__" = some none)
    (ec_BadLine : PySem.W.findIn K (.ref c_BadLine) "__class__" = some (some (.builtin "object.__class__")))
    (eo_BadLine : PySem.W.mroIn K c_BadLine (.type "object") = some true)
    (e_sp : PySem.W.specialIn K (.builtin "object.__class__") "__get__" = some (some (.builtin "getset_descriptor.__get__")))
    (e_tk : PySem.W.takesIn K (.builtin "object.__class__") = some true)
    (ea_Entry : PySem.W.nsIn K mainGlobals "Entry" = some (some (.ref c_Entry)))
    (bg_Entry : PySem.W.plainGet K c_Entry Str.empty = true)
    (bh_Entry : PySem.W.hasDictIn K c_Entry = true)
    (bo_Entry : PySem.W.plainOver K c_Entry = true)
    (bs_Entry : PySem.W.findIn K (.ref c_Entry) "__setattr__" = some (some (.builtin "object.__setattr__")))
    (bc_Entry : PySem.W.findIn K (.ref c_Entry) "__class__" = some (some (.builtin "object.__class__")))
    (bm_Entry : PySem.W.mroIn K c_Entry (.type "object") = some true)
    (bi_Entry : PySem.W.isClsIn K c_Entry = true)
    (bt_Entry : PySem.W.typeIn K (.ref c_Entry) = some (.type "type"))
    (be_Entry : PySem.W.subIn K (.ref c_Entry) (.ref c_Entry) = some true)
    (bx_Entry : PySem.W.subIn K (.ref c_Entry) (.type "str") = some false)
    (bk_Entry : PySem.W.makesIn K c_Entry = true)
    (bp_Entry : PySem.W.keepIn K (.ref c_Entry) = true)
    (bn_Entry_bars : PySem.W.findIn K (.ref c_Entry) "bars" = some none)
    (bn_Entry_features : PySem.W.findIn K (.ref c_Entry) "features" = some none)
    (bn_Entry_name : PySem.W.findIn K (.ref c_Entry) "name" = some none)
    (bn_Entry_needs : PySem.W.findIn K (.ref c_Entry) "needs" = some none)
    (bn_Entry_version : PySem.W.findIn K (.ref c_Entry) "version" = some none)
    (a_Entry___init__ : PySem.W.findIn K (.ref c_Entry) "__init__" = some (some (.ref f_Entry___init__)))
    (i_Entry___init__ : PySem.W.isFn K (.ref f_Entry___init__) = true)
    (l_Entry___init__ : K.lookup f_Entry___init__ = some ⟨oc_Entry___init__, od_Entry___init__, .func (PySem.W.fnOf "__init__" "Entry.__init__" (defArgs S_Entry___init__) (defBody S_Entry___init__) (defScope S_Entry___init__) .none kV_Entry___init__ dc_Entry___init__ pm_Entry___init__ an_Entry___init__ cd_Entry___init__ ct_Entry___init__), sl_Entry___init__⟩)
    (q_Entry___init__ : PySem.W.codeIn K cd_Entry___init__ "Entry.__init__" = true)
    (k_Entry___init__ : PySem.W.keepIn K (.ref f_Entry___init__) = true)
    (a_Entry___eq__ : PySem.W.findIn K (.ref c_Entry) "__eq__" = some (some (.ref f_Entry___eq__)))
    (i_Entry___eq__ : PySem.W.isFn K (.ref f_Entry___eq__) = true)
    (l_Entry___eq__ : K.lookup f_Entry___eq__ = some ⟨oc_Entry___eq__, od_Entry___eq__, .func (PySem.W.fnOf "__eq__" "Entry.__eq__" (defArgs S_Entry___eq__) (defBody S_Entry___eq__) (defScope S_Entry___eq__) .none kV_Entry___eq__ dc_Entry___eq__ pm_Entry___eq__ an_Entry___eq__ cd_Entry___eq__ ct_Entry___eq__), sl_Entry___eq__⟩)
    (q_Entry___eq__ : PySem.W.codeIn K cd_Entry___eq__ "Entry.__eq__" = true)
    (k_Entry___eq__ : PySem.W.keepIn K (.ref f_Entry___eq__) = true)
    (fb_BadLine : PySem.W.subIn K (.ref c_BadLine) (.type "BaseException") = some true)
    (fh_BadLine : PySem.W.hasDictIn K c_BadLine = true)
    (ft_BadLine : PySem.W.typeIn K (.ref c_BadLine) = some (.type "type"))
    (eb_BadLine_BadLine : PySem.W.subIn K (.ref c_BadLine) (.ref c_BadLine) = some true)
    (fb_BadText : PySem.W.subIn K (.ref c_BadText) (.type "BaseException") = some true)
    (fh_BadText : PySem.W.hasDictIn K c_BadText = true)
    (ft_BadText : PySem.W.typeIn K (.ref c_BadText) = some (.type "type"))
    (eb_BadLine_BadText : PySem.W.subIn K (.ref c_BadLine) (.ref c_BadText) = some false)
    (fb_LockError : PySem.W.subIn K (.ref c_LockError) (.type "BaseException") = some true)
    (fh_LockError : PySem.W.hasDictIn K c_LockError = true)
    (ft_LockError : PySem.W.typeIn K (.ref c_LockError) = some (.type "type"))
    (eb_BadLine_LockError : PySem.W.subIn K (.ref c_BadLine) (.ref c_LockError) = some true)
    (eb_BadLine_ValueError : PySem.W.subIn K (.ref c_BadLine) (.type "ValueError") = some true)
    (n_NAME_MOST : PySem.W.nsIn K mainGlobals "NAME_MOST" = some (some u_NAME_MOST))
    (r_NAME_MOST : KRep K (.int 12) u_NAME_MOST)
    (n_WANTED_MOST : PySem.W.nsIn K mainGlobals "WANTED_MOST" = some (some u_WANTED_MOST))
    (r_WANTED_MOST : KRep K (.int 4) u_WANTED_MOST)
    (n_NUMBER_MOST : PySem.W.nsIn K mainGlobals "NUMBER_MOST" = some (some u_NUMBER_MOST))
    (r_NUMBER_MOST : KRep K (.int 1000000) u_NUMBER_MOST)
    (n_NUMBER_DIGITS : PySem.W.nsIn K mainGlobals "NUMBER_DIGITS" = some (some u_NUMBER_DIGITS))
    (r_NUMBER_DIGITS : KRep K (.int 7) u_NUMBER_DIGITS)
    (n_RELEASE_MOST : PySem.W.nsIn K mainGlobals "RELEASE_MOST" = some (some u_RELEASE_MOST))
    (r_RELEASE_MOST : KRep K (.int 999999) u_RELEASE_MOST)
    (n_FEATURES_MOST : PySem.W.nsIn K mainGlobals "FEATURES_MOST" = some (some u_FEATURES_MOST))
    (r_FEATURES_MOST : KRep K (.int 6) u_FEATURES_MOST)
    (n_NEEDS_MOST : PySem.W.nsIn K mainGlobals "NEEDS_MOST" = some (some u_NEEDS_MOST))
    (r_NEEDS_MOST : KRep K (.int 8) u_NEEDS_MOST)
    (n_BARS_MOST : PySem.W.nsIn K mainGlobals "BARS_MOST" = some (some u_BARS_MOST))
    (r_BARS_MOST : KRep K (.int 6) u_BARS_MOST)
    (n_CHECK_MODULUS : PySem.W.nsIn K mainGlobals "CHECK_MODULUS" = some (some u_CHECK_MODULUS))
    (r_CHECK_MODULUS : KRep K (.int 99991) u_CHECK_MODULUS) :
    LamX.LawAtS l w K (L2.CX l.prog w) 12 63 "script" mg fa h := by
  have e := hfa.symm.trans (PySem.W.mg_of X G a_law)
  cases e
  letI : ErrCtx := ⟨fun m => match m with | 0 => c_LockError | 1 => c_BadText | 2 => c_BadEntry | 4 => c_BadLine | 100 => c_Entry | _ => 0⟩
  have To_BadEntry : OexC K (errA 2) := ⟨⟨nm_BadEntry, q_BadEntry, N_BadEntry, bs_BadEntry, _, sn_BadEntry, sb_BadEntry, ab_BadEntry, co_BadEntry, dd_BadEntry, m0_BadEntry, m1_BadEntry, m2_BadEntry, m3_BadEntry, m5_BadEntry, ex_BadEntry, rfl⟩, ew_BadEntry, es_BadEntry, et_BadEntry, ek_BadEntry⟩
  have To_BadLine : OexC K (errA 4) := ⟨⟨nm_BadLine, q_BadLine, N_BadLine, bs_BadLine, _, sn_BadLine, sb_BadLine, ab_BadLine, co_BadLine, dd_BadLine, m0_BadLine, m1_BadLine, m2_BadLine, m3_BadLine, m5_BadLine, ex_BadLine, rfl⟩, ew_BadLine, es_BadLine, et_BadLine, ek_BadLine⟩
  letI : TabCtx := ⟨[], []⟩
  have GG : Glob K mg := ⟨PySem.W.mg_of X G ea_BadEntry,
    PySem.W.mg_of X G ea_BadLine,
    PySem.W.mg_of X G ea_BadText,
    PySem.W.mg_of X G ea_Entry,
    PySem.W.mg_of X G ea_LockError,
    PySem.W.exm_ref fb_BadLine fh_BadLine ft_BadLine eb_BadLine_BadLine,
    ⟨⟨eg_BadLine, eu_BadLine, es_BadLine, eh_BadLine⟩, ⟨eg_BadLine, eu_BadLine, es_BadLine, eh_BadLine, ec_BadLine, e_sp, e_tk, eo_BadLine⟩⟩,
    en_BadLine,
    kit_own fh_BadText ft_BadText eb_BadLine_BadLine eb_BadLine_BadText,
    kit_own fh_LockError ft_LockError eb_BadLine_BadLine eb_BadLine_LockError,
    kit_ve eb_BadLine_ValueError,
    kit_ty bh_Entry bt_Entry,
    kit_own bh_Entry bt_Entry be_Entry be_Entry,
    kit_sf bx_Entry,
    ⟨⟨bg_Entry, bh_Entry, bo_Entry, bs_Entry⟩, bc_Entry, e_sp, e_tk, bm_Entry, bi_Entry, bt_Entry⟩,
    ⟨⟨bg_Entry, bh_Entry, bo_Entry, bs_Entry⟩, bc_Entry, e_sp, e_tk, bm_Entry, kit_own bh_Entry bt_Entry be_Entry be_Entry⟩,
    ⟨PySem.W.mg_of X G ea_Entry, bk_Entry, bp_Entry⟩,
    bn_Entry_bars,
    bn_Entry_features,
    bn_Entry_name,
    bn_Entry_needs,
    bn_Entry_version,
    def_mk X G a_is_integer l_is_integer q_is_integer k_is_integer (fun _ _ _ _ _ _ us hl => match us, hl with | [_], _ => rfl),
    def_mk X G a_is_number l_is_number q_is_number k_is_number (fun _ _ _ _ _ _ us hl => match us, hl with | [_], _ => rfl),
    def_mk X G a_is_name l_is_name q_is_name k_is_name (fun _ _ _ _ _ _ us hl => match us, hl with | [_], _ => rfl),
    def_mk X G a_is_names l_is_names q_is_names k_is_names (fun _ _ _ _ _ _ us hl => match us, hl with | [_], _ => rfl),
    def_mk X G a_is_wanted l_is_wanted q_is_wanted k_is_wanted (fun _ _ _ _ _ _ us hl => match us, hl with | [_], _ => rfl),
    def_mk X G a_is_tuple_of l_is_tuple_of q_is_tuple_of k_is_tuple_of (fun _ _ _ _ _ _ us hl => match us, hl with | [_, _], _ => rfl),
    def_mk X G a_is_tuple_within l_is_tuple_within q_is_tuple_within k_is_tuple_within (fun _ _ _ _ _ _ us hl => match us, hl with | [_, _], _ => rfl),
    def_mk X G a_is_version l_is_version q_is_version k_is_version (fun _ _ _ _ _ _ us hl => match us, hl with | [_], _ => rfl),
    def_mk X G a_is_stretch l_is_stretch q_is_stretch k_is_stretch (fun _ _ _ _ _ _ us hl => match us, hl with | [_], _ => rfl),
    def_mk X G a_is_range l_is_range q_is_range k_is_range (fun _ _ _ _ _ _ us hl => match us, hl with | [_], _ => rfl),
    def_mk X G a_reaches l_reaches q_reaches k_reaches (fun _ _ _ _ _ _ us hl => match us, hl with | [_, _], _ => rfl),
    def_mk X G a_told_number l_told_number q_told_number k_told_number (fun _ _ _ _ _ _ us hl => match us, hl with | [_, _], _ => rfl),
    def_mk X G a_told_version l_told_version q_told_version k_told_version (fun _ _ _ _ _ _ us hl => match us, hl with | [_], _ => rfl),
    def_mk X G a_is_release l_is_release q_is_release k_is_release (fun _ _ _ _ _ _ us hl => match us, hl with | [_], _ => rfl),
    def_mk X G a_is_other l_is_other q_is_other k_is_other (fun _ _ _ _ _ _ us hl => match us, hl with | [_, _], _ => rfl),
    def_mk X G a_is_feature l_is_feature q_is_feature k_is_feature (fun _ _ _ _ _ _ us hl => match us, hl with | [_], _ => rfl),
    def_mk X G a_lacking l_lacking q_lacking k_lacking (fun _ _ _ _ _ _ us hl => match us, hl with | [_], _ => rfl),
    def_mk X G a_is_features l_is_features q_is_features k_is_features (fun _ _ _ _ _ _ us hl => match us, hl with | [_], _ => rfl),
    def_mk X G a_is_need l_is_need q_is_need k_is_need (fun _ _ _ _ _ _ us hl => match us, hl with | [_, _, _], _ => rfl),
    def_mk X G a_is_bar l_is_bar q_is_bar k_is_bar (fun _ _ _ _ _ _ us hl => match us, hl with | [_, _], _ => rfl),
    def_mk X G a_wrong_need l_wrong_need q_wrong_need k_wrong_need (fun _ _ _ _ _ _ us hl => match us, hl with | [_, _, _], _ => rfl),
    def_mk X G a_wrong_bar l_wrong_bar q_wrong_bar k_wrong_bar (fun _ _ _ _ _ _ us hl => match us, hl with | [_, _], _ => rfl),
    def_mk X G a_wrong_part l_wrong_part q_wrong_part k_wrong_part (fun _ _ _ _ _ _ us hl => match us, hl with | [_, _, _, _, _], _ => rfl),
    def_mk X G a_is_triple l_is_triple q_is_triple k_is_triple (fun _ _ _ _ _ _ us hl => match us, hl with | [_], _ => rfl),
    def_mk X G a_lines_of l_lines_of q_lines_of k_lines_of (fun _ _ _ _ _ _ us hl => match us, hl with | [_], _ => rfl),
    def_mk X G a_text_of l_text_of q_text_of k_text_of (fun _ _ _ _ _ _ us hl => match us, hl with | [_], _ => rfl),
    def_mk X G a_check_line l_check_line q_check_line k_check_line (fun _ _ _ _ _ _ us hl => match us, hl with | [_], _ => rfl),
    def_mk X G a_told_triple l_told_triple q_told_triple k_told_triple (fun _ _ _ _ _ _ us hl => match us, hl with | [_], _ => rfl),
    def_mk X G a_read_lock l_read_lock q_read_lock k_read_lock (fun _ _ _ _ _ _ us hl => match us, hl with | [_], _ => rfl),
    def_mk X G a__law_hand l__law_hand q__law_hand k__law_hand (fun _ _ _ _ _ _ us hl => match us, hl with | [_], _ => rfl),
    def_mk X G a__law_draw l__law_draw q__law_draw k__law_draw (fun _ _ _ _ _ _ us hl => match us, hl with | [_, _], _ => rfl),
    def_mk X G a__law_any l__law_any q__law_any k__law_any (fun _ _ _ _ _ _ us hl => match us, hl with | [_, _], _ => rfl),
    def_mk X G a__law_name l__law_name q__law_name k__law_name (fun _ _ _ _ _ _ us hl => match us, hl with | [_], _ => rfl),
    def_mk X G a__law_installation l__law_installation q__law_installation k__law_installation (fun _ _ _ _ _ _ us hl => match us, hl with | [_], _ => rfl),
    def_mk X G a__law_check l__law_check q__law_check k__law_check (fun _ _ _ _ _ _ us hl => match us, hl with | [_], _ => rfl),
    def_mk X G a__law_line l__law_line q__law_line k__law_line (fun _ _ _ _ _ _ us hl => match us, hl with | [_], _ => rfl),
    def_mk X G a__law_is_name l__law_is_name q__law_is_name k__law_is_name (fun _ _ _ _ _ _ us hl => match us, hl with | [_], _ => rfl),
    def_mk X G a__law_number l__law_number q__law_number k__law_number (fun _ _ _ _ _ _ us hl => match us, hl with | [_, _], _ => rfl),
    def_mk X G a__law_triple l__law_triple q__law_triple k__law_triple (fun _ _ _ _ _ _ us hl => match us, hl with | [_], _ => rfl),
    def_mk X G a__law_due l__law_due q__law_due k__law_due (fun _ _ _ _ _ _ us hl => match us, hl with | [_], _ => rfl),
    def_mk X G a__law_read l__law_read q__law_read k__law_read (fun _ _ _ _ _ _ us hl => match us, hl with | [_], _ => rfl),
    def_mk X G a__law_bent_word l__law_bent_word q__law_bent_word k__law_bent_word (fun _ _ _ _ _ _ us hl => match us, hl with | [_, _], _ => rfl),
    def_mk X G a__law_bent_line l__law_bent_line q__law_bent_line k__law_bent_line (fun _ _ _ _ _ _ us hl => match us, hl with | [_, _], _ => rfl),
    def_mk X G a__law_bent_lines l__law_bent_lines q__law_bent_lines k__law_bent_lines (fun _ _ _ _ _ _ us hl => match us, hl with | [_, _], _ => rfl),
    def_mk X G a__law_end l__law_end q__law_end k__law_end (fun _ _ _ _ _ _ us hl => match us, hl with | [_, _, _], _ => rfl),
    def_mk X G a__law_strange l__law_strange q__law_strange k__law_strange (fun _ _ _ _ _ _ us hl => match us, hl with | [_], _ => rfl),
    def_mk X G a_law l_law q_law k_law (fun _ _ _ _ _ _ us hl => match us, hl with | [_], _ => rfl),
    ⟨f_Entry___init__, _, (fun_mk (st := S_Entry___init__) l_Entry___init__ q_Entry___init__ k_Entry___init__), ⟨a_Entry___init__, i_Entry___init__, k_Entry___init__⟩, (fun_mk (st := S_Entry___init__) l_Entry___init__ q_Entry___init__ k_Entry___init__).binds (fun _ _ _ _ _ _ us hl => match us, hl with | [_, _, _, _, _, _], _ => rfl)⟩,
    ⟨f_Entry___eq__, _, (fun_mk (st := S_Entry___eq__) l_Entry___eq__ q_Entry___eq__ k_Entry___eq__), ⟨a_Entry___eq__, i_Entry___eq__, k_Entry___eq__⟩, (fun_mk (st := S_Entry___eq__) l_Entry___eq__ q_Entry___eq__ k_Entry___eq__).binds (fun _ _ _ _ _ _ us hl => match us, hl with | [_, _], _ => rfl)⟩,
    PySem.W.mg_none_of X G z_ValueError,
    PySem.W.mg_none_of X G z_abs,
    PySem.W.mg_none_of X G z_all,
    PySem.W.mg_none_of X G z_bool,
    PySem.W.mg_none_of X G z_enumerate,
    PySem.W.mg_none_of X G z_int,
    PySem.W.mg_none_of X G z_isinstance,
    PySem.W.mg_none_of X G z_len,
    PySem.W.mg_none_of X G z_max,
    PySem.W.mg_none_of X G z_ord,
    PySem.W.mg_none_of X G z_range,
    PySem.W.mg_none_of X G z_set,
    PySem.W.mg_none_of X G z_sorted,
    PySem.W.mg_none_of X G z_str,
    PySem.W.mg_none_of X G z_sum,
    PySem.W.mg_none_of X G z_tuple,
    Cst.of (PySem.W.mg_of X G n_NAME_MOST) r_NAME_MOST,
    Cst.of (PySem.W.mg_of X G n_WANTED_MOST) r_WANTED_MOST,
    Cst.of (PySem.W.mg_of X G n_NUMBER_MOST) r_NUMBER_MOST,
    Cst.of (PySem.W.mg_of X G n_NUMBER_DIGITS) r_NUMBER_DIGITS,
    Cst.of (PySem.W.mg_of X G n_RELEASE_MOST) r_RELEASE_MOST,
    Cst.of (PySem.W.mg_of X G n_FEATURES_MOST) r_FEATURES_MOST,
    Cst.of (PySem.W.mg_of X G n_NEEDS_MOST) r_NEEDS_MOST,
    Cst.of (PySem.W.mg_of X G n_BARS_MOST) r_BARS_MOST,
    Cst.of (PySem.W.mg_of X G n_CHECK_MODULUS) r_CHECK_MODULUS⟩
  have FL := fun_mk (st := S_law) l_law q_law k_law
  refine law_at (fd := PySem.W.fnOf "law" "law" (defArgs S_law) (defBody S_law) (defScope S_law) .none kV_law dc_law pm_law an_law cd_law ct_law) [] [] (fun _ z => nomatch z) (fun _ z => nomatch z) (fun _ z => nomatch z) (fun _ z => nomatch z) (fun s u => .of_eq rfl) fun base _ _ TT => ?_
  have E_BadEntry : Er1 l.prog w K mg base 2 "BadEntry" "part" := ⟨PySem.W.mg_of X G ea_BadEntry, To_BadEntry, fi_BadEntry, _, ei_BadEntry, ej_BadEntry, init1_ok (fun_mk (st := SI_BadEntry) el_BadEntry eq_BadEntry er_BadEntry) sci_BadEntry rfl To_BadEntry en_BadEntry (by decide) (by decide) (by first | exact Or.inl rfl | exact Or.inr (Or.inl rfl) | exact Or.inr (Or.inr rfl)) (by first | exact Or.inl rfl | exact Or.inr (Or.inl rfl) | exact Or.inr (Or.inr rfl)) (fun _ => rfl), (fun_mk (st := SI_BadEntry) el_BadEntry eq_BadEntry er_BadEntry).binds fun _ _ _ _ _ _ us hl => match us, hl with | [_, _], _ => rfl⟩
  have E_BadLine : Er1 l.prog w K mg base 4 "BadLine" "number" := ⟨PySem.W.mg_of X G ea_BadLine, To_BadLine, fi_BadLine, _, ei_BadLine, ej_BadLine, init1_ok (fun_mk (st := SI_BadLine) el_BadLine eq_BadLine er_BadLine) sci_BadLine rfl To_BadLine en_BadLine (by decide) (by decide) (by first | exact Or.inl rfl | exact Or.inr (Or.inl rfl) | exact Or.inr (Or.inr rfl)) (by first | exact Or.inl rfl | exact Or.inr (Or.inl rfl) | exact Or.inr (Or.inr rfl)) (fun _ => rfl), (fun_mk (st := SI_BadLine) el_BadLine eq_BadLine er_BadLine).binds fun _ _ _ _ _ _ us hl => match us, hl with | [_, _], _ => rfl⟩
  have H_is_integer := h_is_integer (P := l.prog) (w := w) (base := base) (k := 0) GG CM.r_is_integer
  have H_is_number := h_is_number (P := l.prog) (w := w) (base := base) (k := 1) GG (H_is_integer.mono (by decide)) CM.r_is_number
  have H_is_name := h_is_name (P := l.prog) (w := w) (base := base) (k := 0) GG CM.r_is_name
  have H_is_names := h_is_names (P := l.prog) (w := w) (base := base) (k := 1) GG (H_is_name.mono (by decide)) CM.r_is_names
  have H_is_namesY := h_is_names (P := l.prog) (w := w) (base := base) (k := 1) GG (H_is_name.mono (by decide)) CM.r_is_namesB
  have H_is_wanted := h_is_wanted (P := l.prog) (w := w) (base := base) (k := 2) GG (H_is_names.mono (by decide)) CM.r_is_wanted
  have H_is_tuple_of := h_is_tuple_of (P := l.prog) (w := w) (base := base) (k := 0) GG CM.r_is_tuple_of
  have H_is_tuple_within := h_is_tuple_within (P := l.prog) (w := w) (base := base) (k := 0) GG CM.r_is_tuple_withinT
  have H_is_version := h_is_version (P := l.prog) (w := w) (base := base) (k := 2) GG (H_is_number.mono (by decide)) (H_is_tuple_of.mono (by decide)) CM.r_is_version
  have H_is_stretch := h_is_stretch (P := l.prog) (w := w) (base := base) (k := 3) GG (H_is_tuple_of.mono (by decide)) (H_is_version.mono (by decide)) CM.r_is_stretch
  have H_reaches := h_reaches (P := l.prog) (w := w) (base := base) (k := 0) GG CM.r_reaches
  have H_is_range := h_is_range (P := l.prog) (w := w) (base := base) (k := 4) GG (H_is_stretch.mono (by decide)) (H_reaches.mono (by decide)) CM.r_is_range
  have H_told_number := h_told_number (P := l.prog) (w := w) (base := base) (k := 0) GG CM.r_told_number
  have H_told_version := h_told_version (P := l.prog) (w := w) (base := base) (k := 3) GG (H_is_version.mono (by decide)) (H_told_number.mono (by decide)) CM.r_told_version
  have H_is_release := h_is_release (P := l.prog) (w := w) (base := base) (k := 3) GG (H_is_version.mono (by decide)) CM.r_is_release
  have H_is_other := h_is_other (P := l.prog) (w := w) (base := base) (k := 1) GG (H_is_name.mono (by decide)) CM.r_is_other
  have H_is_feature := h_is_feature (P := l.prog) (w := w) (base := base) (k := 2) GG (H_is_name.mono (by decide)) (H_is_names.mono (by decide)) (H_is_tuple_of.mono (by decide)) CM.r_is_feature
  have H_lacking := h_lacking (P := l.prog) (w := w) (base := base) (k := 0) GG CM.r_lacking
  have H_is_features := h_is_features (P := l.prog) (w := w) (base := base) (k := 3) GG (H_is_names.mono (by decide)) (H_is_tuple_within.mono (by decide)) (H_is_feature.mono (by decide)) (H_lacking.mono (by decide)) CM.r_is_features
  have H_is_need := h_is_need (P := l.prog) (w := w) (base := base) (k := 5) GG (H_is_wanted.mono (by decide)) (H_is_tuple_of.mono (by decide)) (H_is_range.mono (by decide)) (H_is_other.mono (by decide)) CM.r_is_need
  have H_is_bar := h_is_bar (P := l.prog) (w := w) (base := base) (k := 5) GG (H_is_tuple_of.mono (by decide)) (H_is_range.mono (by decide)) (H_is_other.mono (by decide)) CM.r_is_bar
  have H_wrong_need := h_wrong_need (P := l.prog) (w := w) (base := base) (k := 6) GG (H_is_tuple_within.mono (by decide)) (H_is_need.mono (by decide)) CM.r_wrong_need
  have H_wrong_bar := h_wrong_bar (P := l.prog) (w := w) (base := base) (k := 6) GG (H_is_tuple_within.mono (by decide)) (H_is_bar.mono (by decide)) CM.r_wrong_bar
  have H_wrong_part := h_wrong_part (P := l.prog) (w := w) (base := base) (k := 7) GG (H_is_name.mono (by decide)) (H_is_release.mono (by decide)) (H_is_features.mono (by decide)) (H_wrong_need.mono (by decide)) (H_wrong_bar.mono (by decide)) CM.r_wrong_part
  have H_is_triple := h_is_triple (P := l.prog) (w := w) (base := base) (k := 3) GG (H_is_name.mono (by decide)) (H_is_namesY.mono (by decide)) (H_is_tuple_of.mono (by decide)) (H_is_version.mono (by decide)) CM.r_is_triple
  have H_lines_of := h_lines_of (P := l.prog) (w := w) (base := base) (k := 2) GG E_BadLine (by decide) CM.r_lines_of_k42
  have H_text_of := h_text_of (P := l.prog) (w := w) (base := base) (k := 0) GG CM.r_text_ofB
  have H_check_line := h_check_line (P := l.prog) (w := w) (base := base) (k := 0) GG CM.r_check_line
  have H_told_triple := h_told_triple (P := l.prog) (w := w) (base := base) (k := 4) GG (H_told_version.mono (by decide)) (H_is_triple.mono (by decide)) CM.r_told_triple
  have H_read_lock := h_read_lock (P := l.prog) (w := w) (base := base) (k := 5) GG (H_lines_of.mono (by decide)) (H_text_of.mono (by decide)) (H_check_line.mono (by decide)) (H_told_triple.mono (by decide)) E_BadLine (by decide) CM.r_read_lockI
  have H__law_hand := h__law_hand (P := l.prog) (w := w) (base := base) (k := 0) GG CM.r__law_hand_k41
  have H__law_draw := h__law_draw (P := l.prog) (w := w) (base := base) (k := 0) GG CM.r__law_draw_k41
  have H__law_any := h__law_any (P := l.prog) (w := w) (base := base) (k := 1) GG (H__law_draw.mono (by decide)) CM.r__law_any
  have H__law_name := h__law_name (P := l.prog) (w := w) (base := base) (k := 2) GG (H__law_draw.mono (by decide)) (H__law_any.mono (by decide)) CM.r__law_name
  have H__law_installation := h__law_installation (P := l.prog) (w := w) (base := base) (k := 3) GG (H__law_draw.mono (by decide)) (H__law_any.mono (by decide)) (H__law_name.mono (by decide)) CM.r__law_installation
  have H__law_check := h__law_check (P := l.prog) (w := w) (base := base) (k := 0) GG CM.r__law_check
  have H__law_line := h__law_line (P := l.prog) (w := w) (base := base) (k := 0) GG CM.r__law_line
  have H__law_is_name := h__law_is_name (P := l.prog) (w := w) (base := base) (k := 0) GG CM.r__law_is_name_k42
  have H__law_number := h__law_number (P := l.prog) (w := w) (base := base) (k := 0) GG CM.r__law_number
  have H__law_triple := h__law_triple (P := l.prog) (w := w) (base := base) (k := 1) GG (H__law_is_name.mono (by decide)) (H__law_number.mono (by decide)) CM.r__law_triple
  have H__law_due := h__law_due (P := l.prog) (w := w) (base := base) (k := 2) GG (H__law_check.mono (by decide)) (H__law_number.mono (by decide)) (H__law_triple.mono (by decide)) CM.r__law_due_k42
  have H__law_read := h__law_read (P := l.prog) (w := w) (base := base) (k := 6) GG (H_read_lock.mono (by decide)) CM.r__law_readI
  have H__law_bent_word := h__law_bent_word (P := l.prog) (w := w) (base := base) (k := 2) GG (H__law_draw.mono (by decide)) (H__law_any.mono (by decide)) CM.r__law_bent_word
  have H__law_bent_line := h__law_bent_line (P := l.prog) (w := w) (base := base) (k := 3) GG (H__law_draw.mono (by decide)) (H__law_bent_word.mono (by decide)) CM.r__law_bent_line_k42
  have H__law_bent_lines := h__law_bent_lines (P := l.prog) (w := w) (base := base) (k := 4) GG (H__law_draw.mono (by decide)) (H__law_any.mono (by decide)) (H__law_check.mono (by decide)) (H__law_bent_line.mono (by decide)) CM.r__law_bent_lines
  have H__law_end := h__law_end (P := l.prog) (w := w) (base := base) (k := 2) GG (H__law_draw.mono (by decide)) (H__law_any.mono (by decide)) (H__law_check.mono (by decide)) CM.r__law_end
  have H_Entry___init__ := h_Entry___init__ (P := l.prog) (w := w) (base := base) (k := 8) GG (H_wrong_part.mono (by decide)) E_BadEntry (by decide) CM.r_Entry___init__
  have H__law_strange := h__law_strange (P := l.prog) (w := w) (base := base) (k := 10) GG H_Entry___init__ (by decide) (H__law_draw.mono (by decide)) (H__law_any.mono (by decide)) CM.r__law_strange
  have H_Entry___eq__ := h_Entry___eq__ (P := l.prog) (w := w) (base := base) (k := 0) GG CM.r_Entry___eq___k42
  exact h_law (k := 11) GG FL (H__law_hand.mono (by decide)) (H__law_any.mono (by decide)) (H__law_installation.mono (by decide)) (H__law_line.mono (by decide)) (H__law_due.mono (by decide)) (H__law_read.mono (by decide)) (H__law_bent_lines.mono (by decide)) (H__law_end.mono (by decide)) (H__law_strange.mono (by decide)) CM.r_law_k42
theorem walk {l : PySem.W.OpenLaw} {q : Program} {loose : List Str} {XP : (Str → Option Value) → Heap → Prop} {YP : World → Heap → Prop} {d : DefRec} {K : Params → PySem.W.Frag} (hn : l.most = some 63) (hdf : d.params.defaults = []) (hY : ∀ (w : World) (h : Heap), YP w h → (K w.params).In h)
    (F : ∀ (w : World) (mg : Str → Option Value) (fa : Addr) (h : Heap), YP w h → (K w.params).In h → h.Ns mainGlobals mg → mg d.name = some (.ref fa) → LamX.LawAtS l w (K w.params) (L2.CX l.prog w) 12 63 "script" mg fa h) :
    PySem.W.WalkO q loose XP YP l.row.toRowW d [] (fun f vs => PySem.call f vs) :=
  LamX.walk_ofTs (n := 63) (k := 12) (x := "script") (CX := fun w => L2.CX l.prog w) hn (by decide) hdf ⟨rfl, by decide, by decide⟩ hY F fun _ _ _ _ _ z => DL.cx_false z
end Lk42
open PySem PySem.W PyProof.Rows
set_option maxRecDepth 100000 in
set_option maxHeartbeats 0 in
theorem PySem.Challenge.cw_lockwright_k42_whole_first_wrong_lines_holds : PySem.Challenge.rw_lockwright_k42_whole_first_wrong_lines.Holds := by
  w_on; o_law; k_head; (case hw => w_witness2)
  k_fill
  refine Lk42.walk (l := PySem.Challenge.rw_lockwright_k42_whole_first_wrong_lines) rfl rfl (fun w h Y => PySem.W.kIn_of Y) ?F
  case F =>
    intro w mg fa h Y KX G hmg
    refine' Lk42.all_mk KX G hmg ?a_is_integer ?l_is_integer ?q_is_integer ?k_is_integer ?a_is_number ?l_is_number ?q_is_number ?k_is_number ?a_is_name ?l_is_name ?q_is_name ?k_is_name ?a_is_names ?l_is_names ?q_is_names ?k_is_names ?a_is_wanted ?l_is_wanted ?q_is_wanted ?k_is_wanted ?a_is_tuple_of ?l_is_tuple_of ?q_is_tuple_of ?k_is_tuple_of ?a_is_tuple_within ?l_is_tuple_within ?q_is_tuple_within ?k_is_tuple_within ?a_is_version ?l_is_version ?q_is_version ?k_is_version ?a_is_stretch ?l_is_stretch ?q_is_stretch ?k_is_stretch ?a_is_range ?l_is_range ?q_is_range ?k_is_range ?a_reaches ?l_reaches ?q_reaches ?k_reaches ?a_told_number ?l_told_number ?q_told_number ?k_told_number ?a_told_version ?l_told_version ?q_told_version ?k_told_version ?a_is_release ?l_is_release ?q_is_release ?k_is_release ?a_is_other ?l_is_other ?q_is_other ?k_is_other ?a_is_feature ?l_is_feature ?q_is_feature ?k_is_feature ?a_lacking ?l_lacking ?q_lacking ?k_lacking ?a_is_features ?l_is_features ?q_is_features ?k_is_features ?a_is_need ?l_is_need ?q_is_need ?k_is_need ?a_is_bar ?l_is_bar ?q_is_bar ?k_is_bar ?a_wrong_need ?l_wrong_need ?q_wrong_need ?k_wrong_need ?a_wrong_bar ?l_wrong_bar ?q_wrong_bar ?k_wrong_bar ?a_wrong_part ?l_wrong_part ?q_wrong_part ?k_wrong_part ?a_is_triple ?l_is_triple ?q_is_triple ?k_is_triple ?a_lines_of ?l_lines_of ?q_lines_of ?k_lines_of ?a_text_of ?l_text_of ?q_text_of ?k_text_of ?a_check_line ?l_check_line ?q_check_line ?k_check_line ?a_told_triple ?l_told_triple ?q_told_triple ?k_told_triple ?a_read_lock ?l_read_lock ?q_read_lock ?k_read_lock ?a__law_hand ?l__law_hand ?q__law_hand ?k__law_hand ?a__law_draw ?l__law_draw ?q__law_draw ?k__law_draw ?a__law_any ?l__law_any ?q__law_any ?k__law_any ?a__law_name ?l__law_name ?q__law_name ?k__law_name ?a__law_installation ?l__law_installation ?q__law_installation ?k__law_installation ?a__law_check ?l__law_check ?q__law_check ?k__law_check ?a__law_line ?l__law_line ?q__law_line ?k__law_line ?a__law_is_name ?l__law_is_name ?q__law_is_name ?k__law_is_name ?a__law_number ?l__law_number ?q__law_number ?k__law_number ?a__law_triple ?l__law_triple ?q__law_triple ?k__law_triple ?a__law_due ?l__law_due ?q__law_due ?k__law_due ?a__law_read ?l__law_read ?q__law_read ?k__law_read ?a__law_bent_word ?l__law_bent_word ?q__law_bent_word ?k__law_bent_word ?a__law_bent_line ?l__law_bent_line ?q__law_bent_line ?k__law_bent_line ?a__law_bent_lines ?l__law_bent_lines ?q__law_bent_lines ?k__law_bent_lines ?a__law_end ?l__law_end ?q__law_end ?k__law_end ?a__law_strange ?l__law_strange ?q__law_strange ?k__law_strange ?a_law ?l_law ?q_law ?k_law ?z_ValueError ?z_abs ?z_all ?z_bool ?z_enumerate ?z_int ?z_isinstance ?z_len ?z_max ?z_ord ?z_range ?z_set ?z_sorted ?z_str ?z_sum ?z_tuple ?ea_LockError ?ea_BadText ?ea_BadEntry ?ea_BadLine ?es_BadEntry ?et_BadEntry ?eh_BadEntry ?ex_BadEntry ?ew_BadEntry ?ek_BadEntry ?ei_BadEntry ?ej_BadEntry ?el_BadEntry ?eq_BadEntry ?er_BadEntry ?en_BadEntry ?es_BadLine ?et_BadLine ?eh_BadLine ?ex_BadLine ?ew_BadLine ?ek_BadLine ?ei_BadLine ?ej_BadLine ?el_BadLine ?eq_BadLine ?er_BadLine ?en_BadLine ?eg_BadLine ?eu_BadLine ?ec_BadLine ?eo_BadLine ?e_sp ?e_tk ?ea_Entry ?bg_Entry ?bh_Entry ?bo_Entry ?bs_Entry ?bc_Entry ?bm_Entry ?bi_Entry ?bt_Entry ?be_Entry ?bx_Entry ?bk_Entry ?bp_Entry ?bn_Entry_bars ?bn_Entry_features ?bn_Entry_name ?bn_Entry_needs ?bn_Entry_version ?a_Entry___init__ ?i_Entry___init__ ?l_Entry___init__ ?q_Entry___init__ ?k_Entry___init__ ?a_Entry___eq__ ?i_Entry___eq__ ?l_Entry___eq__ ?q_Entry___eq__ ?k_Entry___eq__ ?fb_BadLine ?fh_BadLine ?ft_BadLine ?eb_BadLine_BadLine ?fb_BadText ?fh_BadText ?ft_BadText ?eb_BadLine_BadText ?fb_LockError ?fh_LockError ?ft_LockError ?eb_BadLine_LockError ?eb_BadLine_ValueError ?n_NAME_MOST ?r_NAME_MOST ?n_WANTED_MOST ?r_WANTED_MOST ?n_NUMBER_MOST ?r_NUMBER_MOST ?n_NUMBER_DIGITS ?r_NUMBER_DIGITS ?n_RELEASE_MOST ?r_RELEASE_MOST ?n_FEATURES_MOST ?r_FEATURES_MOST ?n_NEEDS_MOST ?r_NEEDS_MOST ?n_BARS_MOST ?r_BARS_MOST ?n_CHECK_MODULUS ?r_CHECK_MODULUS
    (case a_is_integer => k_is)
    (case l_is_integer => k_is)
    (case q_is_integer => k_is)
    (case k_is_integer => k_is)
    (case a_is_number => k_is)
    (case l_is_number => k_is)
    (case q_is_number => k_is)
    (case k_is_number => k_is)
    (case a_is_name => k_is)
    (case l_is_name => k_is)
    (case q_is_name => k_is)
    (case k_is_name => k_is)
    (case a_is_names => k_is)
    (case l_is_names => k_is)
    (case q_is_names => k_is)
    (case k_is_names => k_is)
    (case a_is_wanted => k_is)
    (case l_is_wanted => k_is)
    (case q_is_wanted => k_is)
    (case k_is_wanted => k_is)
    (case a_is_tuple_of => k_is)
    (case l_is_tuple_of => k_is)
    (case q_is_tuple_of => k_is)
    (case k_is_tuple_of => k_is)
    (case a_is_tuple_within => k_is)
    (case l_is_tuple_within => k_is)
    (case q_is_tuple_within => k_is)
    (case k_is_tuple_within => k_is)
    (case a_is_version => k_is)
    (case l_is_version => k_is)
    (case q_is_version => k_is)
    (case k_is_version => k_is)
    (case a_is_stretch => k_is)
    (case l_is_stretch => k_is)
    (case q_is_stretch => k_is)
    (case k_is_stretch => k_is)
    (case a_is_range => k_is)
    (case l_is_range => k_is)
    (case q_is_range => k_is)
    (case k_is_range => k_is)
    (case a_reaches => k_is)
    (case l_reaches => k_is)
    (case q_reaches => k_is)
    (case k_reaches => k_is)
    (case a_told_number => k_is)
    (case l_told_number => k_is)
    (case q_told_number => k_is)
    (case k_told_number => k_is)
    (case a_told_version => k_is)
    (case l_told_version => k_is)
    (case q_told_version => k_is)
    (case k_told_version => k_is)
    (case a_is_release => k_is)
    (case l_is_release => k_is)
    (case q_is_release => k_is)
    (case k_is_release => k_is)
    (case a_is_other => k_is)
    (case l_is_other => k_is)
    (case q_is_other => k_is)
    (case k_is_other => k_is)
    (case a_is_feature => k_is)
    (case l_is_feature => k_is)
    (case q_is_feature => k_is)
    (case k_is_feature => k_is)
    (case a_lacking => k_is)
    (case l_lacking => k_is)
    (case q_lacking => k_is)
    (case k_lacking => k_is)
    (case a_is_features => k_is)
    (case l_is_features => k_is)
    (case q_is_features => k_is)
    (case k_is_features => k_is)
    (case a_is_need => k_is)
    (case l_is_need => k_is)
    (case q_is_need => k_is)
    (case k_is_need => k_is)
    (case a_is_bar => k_is)
    (case l_is_bar => k_is)
    (case q_is_bar => k_is)
    (case k_is_bar => k_is)
    (case a_wrong_need => k_is)
    (case l_wrong_need => k_is)
    (case q_wrong_need => k_is)
    (case k_wrong_need => k_is)
    (case a_wrong_bar => k_is)
    (case l_wrong_bar => k_is)
    (case q_wrong_bar => k_is)
    (case k_wrong_bar => k_is)
    (case a_wrong_part => k_is)
    (case l_wrong_part => k_is)
    (case q_wrong_part => k_is)
    (case k_wrong_part => k_is)
    (case a_is_triple => k_is)
    (case l_is_triple => k_is)
    (case q_is_triple => k_is)
    (case k_is_triple => k_is)
    (case a_lines_of => k_is)
    (case l_lines_of => k_is)
    (case q_lines_of => k_is)
    (case k_lines_of => k_is)
    (case a_text_of => k_is)
    (case l_text_of => k_is)
    (case q_text_of => k_is)
    (case k_text_of => k_is)
    (case a_check_line => k_is)
    (case l_check_line => k_is)
    (case q_check_line => k_is)
    (case k_check_line => k_is)
    (case a_told_triple => k_is)
    (case l_told_triple => k_is)
    (case q_told_triple => k_is)
    (case k_told_triple => k_is)
    (case a_read_lock => k_is)
    (case l_read_lock => k_is)
    (case q_read_lock => k_is)
    (case k_read_lock => k_is)
    (case a__law_hand => k_is)
    (case l__law_hand => k_is)
    (case q__law_hand => k_is)
    (case k__law_hand => k_is)
    (case a__law_draw => k_is)
    (case l__law_draw => k_is)
    (case q__law_draw => k_is)
    (case k__law_draw => k_is)
    (case a__law_any => k_is)
    (case l__law_any => k_is)
    (case q__law_any => k_is)
    (case k__law_any => k_is)
    (case a__law_name => k_is)
    (case l__law_name => k_is)
    (case q__law_name => k_is)
    (case k__law_name => k_is)
    (case a__law_installation => k_is)
    (case l__law_installation => k_is)
    (case q__law_installation => k_is)
    (case k__law_installation => k_is)
    (case a__law_check => k_is)
    (case l__law_check => k_is)
    (case q__law_check => k_is)
    (case k__law_check => k_is)
    (case a__law_line => k_is)
    (case l__law_line => k_is)
    (case q__law_line => k_is)
    (case k__law_line => k_is)
    (case a__law_is_name => k_is)
    (case l__law_is_name => k_is)
    (case q__law_is_name => k_is)
    (case k__law_is_name => k_is)
    (case a__law_number => k_is)
    (case l__law_number => k_is)
    (case q__law_number => k_is)
    (case k__law_number => k_is)
    (case a__law_triple => k_is)
    (case l__law_triple => k_is)
    (case q__law_triple => k_is)
    (case k__law_triple => k_is)
    (case a__law_due => k_is)
    (case l__law_due => k_is)
    (case q__law_due => k_is)
    (case k__law_due => k_is)
    (case a__law_read => k_is)
    (case l__law_read => k_is)
    (case q__law_read => k_is)
    (case k__law_read => k_is)
    (case a__law_bent_word => k_is)
    (case l__law_bent_word => k_is)
    (case q__law_bent_word => k_is)
    (case k__law_bent_word => k_is)
    (case a__law_bent_line => k_is)
    (case l__law_bent_line => k_is)
    (case q__law_bent_line => k_is)
    (case k__law_bent_line => k_is)
    (case a__law_bent_lines => k_is)
    (case l__law_bent_lines => k_is)
    (case q__law_bent_lines => k_is)
    (case k__law_bent_lines => k_is)
    (case a__law_end => k_is)
    (case l__law_end => k_is)
    (case q__law_end => k_is)
    (case k__law_end => k_is)
    (case a__law_strange => k_is)
    (case l__law_strange => k_is)
    (case q__law_strange => k_is)
    (case k__law_strange => k_is)
    (case a_law => k_is)
    (case l_law => k_is)
    (case q_law => k_is)
    (case k_law => k_is)
    (case z_ValueError => k_is)
    (case z_abs => k_is)
    (case z_all => k_is)
    (case z_bool => k_is)
    (case z_enumerate => k_is)
    (case z_int => k_is)
    (case z_isinstance => k_is)
    (case z_len => k_is)
    (case z_max => k_is)
    (case z_ord => k_is)
    (case z_range => k_is)
    (case z_set => k_is)
    (case z_sorted => k_is)
    (case z_str => k_is)
    (case z_sum => k_is)
    (case z_tuple => k_is)
    (case n_NAME_MOST => k_is)
    (case n_WANTED_MOST => k_is)
    (case n_NUMBER_MOST => k_is)
    (case n_NUMBER_DIGITS => k_is)
    (case n_RELEASE_MOST => k_is)
    (case n_FEATURES_MOST => k_is)
    (case n_NEEDS_MOST => k_is)
    (case n_BARS_MOST => k_is)
    (case n_CHECK_MODULUS => k_is)
    (case ea_LockError => k_is)
    (case ea_BadText => k_is)
    (case ea_BadEntry => k_is)
    (case ea_BadLine => k_is)
    (case es_BadEntry => k_is)
    (case et_BadEntry => k_is)
    (case eh_BadEntry => k_is)
    (case ex_BadEntry => k_is)
    (case ew_BadEntry => k_is)
    (case ek_BadEntry => k_is)
    (case ei_BadEntry => k_is)
    (case ej_BadEntry => k_is)
    (case el_BadEntry => k_is)
    (case eq_BadEntry => k_is)
    (case er_BadEntry => k_is)
    (case en_BadEntry => k_is)
    (case es_BadLine => k_is)
    (case et_BadLine => k_is)
    (case eh_BadLine => k_is)
    (case ex_BadLine => k_is)
    (case ew_BadLine => k_is)
    (case ek_BadLine => k_is)
    (case ei_BadLine => k_is)
    (case ej_BadLine => k_is)
    (case el_BadLine => k_is)
    (case eq_BadLine => k_is)
    (case er_BadLine => k_is)
    (case en_BadLine => k_is)
    (case eg_BadLine => k_is)
    (case eu_BadLine => k_is)
    (case ec_BadLine => k_is)
    (case eo_BadLine => k_is)
    (case e_sp => k_is)
    (case e_tk => k_is)
    (case ea_Entry => k_is)
    (case bg_Entry => k_is)
    (case bh_Entry => k_is)
    (case bo_Entry => k_is)
    (case bs_Entry => k_is)
    (case bc_Entry => k_is)
    (case bm_Entry => k_is)
    (case bi_Entry => k_is)
    (case bt_Entry => k_is)
    (case be_Entry => k_is)
    (case bx_Entry => k_is)
    (case bk_Entry => k_is)
    (case bp_Entry => k_is)
    (case bn_Entry_bars => k_is)
    (case bn_Entry_features => k_is)
    (case bn_Entry_name => k_is)
    (case bn_Entry_needs => k_is)
    (case bn_Entry_version => k_is)
    (case a_Entry___init__ => k_is)
    (case i_Entry___init__ => k_is)
    (case l_Entry___init__ => k_is)
    (case q_Entry___init__ => k_is)
    (case k_Entry___init__ => k_is)
    (case a_Entry___eq__ => k_is)
    (case i_Entry___eq__ => k_is)
    (case l_Entry___eq__ => k_is)
    (case q_Entry___eq__ => k_is)
    (case k_Entry___eq__ => k_is)
    (case fb_BadLine => k_is)
    (case fh_BadLine => k_is)
    (case ft_BadLine => k_is)
    (case eb_BadLine_BadLine => k_is)
    (case fb_BadText => k_is)
    (case fh_BadText => k_is)
    (case ft_BadText => k_is)
    (case eb_BadLine_BadText => k_is)
    (case fb_LockError => k_is)
    (case fh_LockError => k_is)
    (case ft_LockError => k_is)
    (case eb_BadLine_LockError => k_is)
    (case eb_BadLine_ValueError => k_is)
    (case r_NAME_MOST => (letI : DL.TabCtx := ⟨[], []⟩; exact ⟨_, rfl⟩))
    (case r_WANTED_MOST => (letI : DL.TabCtx := ⟨[], []⟩; exact ⟨_, rfl⟩))
    (case r_NUMBER_MOST => (letI : DL.TabCtx := ⟨[], []⟩; exact ⟨_, rfl⟩))
    (case r_NUMBER_DIGITS => (letI : DL.TabCtx := ⟨[], []⟩; exact ⟨_, rfl⟩))
    (case r_RELEASE_MOST => (letI : DL.TabCtx := ⟨[], []⟩; exact ⟨_, rfl⟩))
    (case r_FEATURES_MOST => (letI : DL.TabCtx := ⟨[], []⟩; exact ⟨_, rfl⟩))
    (case r_NEEDS_MOST => (letI : DL.TabCtx := ⟨[], []⟩; exact ⟨_, rfl⟩))
    (case r_BARS_MOST => (letI : DL.TabCtx := ⟨[], []⟩; exact ⟨_, rfl⟩))
    (case r_CHECK_MODULUS => (letI : DL.TabCtx := ⟨[], []⟩; exact ⟨_, rfl⟩))
