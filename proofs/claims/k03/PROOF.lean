import PyProof.Rows.All
import Wide.All
import OpenK.AllK
import Wide.FinOn
import HandS.ForMost
import HandS.Flow
import HandS.IsInst
import HandS.TupLe
import HandS.TupAny
import HandS.ForExc
import HandS.ExcInit
import HandS.CallSlots
import HandS.EndTab
import HandS.Zip
import HandS.Walk
import KE.GoesMore
import KE.GoesEnum
import KE.DataCmp
import KE.SortData
import KE.DataMinMax
import HandS.ExcValue
import HandS.SortKw
import KE.SortKeyHeap
import KE.KSortKey
import HandS.TupSets
import PyProof.MinMaxWalk
import PyProof.EnumMake
import PyProof.Draws
import HandS.Style
import HandS.Text
import HandS.StrMore
import HandS.FStr
import HandS.RaiseMore
import HandS.Dict
import KE.KExcIs
import HandS.ExcField
import HandS.ExcIs
import HandS.TryOnly
import HandS.ExcBuiltin
import KE.LtData
import HandS.Codes
import PyProof.Rows.StrItems
import PyProof.StrLawsChain
import PySem.Challenge.RW_lockwright_k03_first_wrong_parts_of_rang
set_option Elab.async false
set_option linter.all false
set_option maxRecDepth 100000
set_option autoImplicit false
namespace DL
open PySem L2 PySem.Spec
open PyProof.Rows hiding St
inductive D where
  | non | bl (b : Bool) | int (i : Int) | str (x : Str) | tup (ds : List D) | fls (ds : List D) | loc (n : Nat) | adr (a : Addr) | ty (n : String)
inductive Ob where
  | lst (ds : List D)
  | ins (C : Addr) (fs : List (Str × D))
  | dK (kvs : List (Key × D))
  /-- an exception made and not raised, its class, its dict's place -/
  | err (e C : Addr) (d : Option Addr)
  /-- that dict -/
  | xdt (dx : Addr) (fs : List (Str × D))
  /-- a dict that nothing writes to -/
  | dkF (o : Obj) (kvs : List (Key × D))
abbrev Sto := List Ob
abbrev Env' := List (Option D)
/-- a list that nothing writes to -/
def FzL (K : PySem.W.Frag) (H : Hp) (a : Addr) (xs : List V) : Prop :=
  (∃ o, H a = some (.frz o (.lst xs))) ∨
    ∃ (o : Obj) (its : Array Value) (n : Nat), K.lookup a = some o ∧ o.cls = .type "list" ∧ o.dict = none ∧ o.data = .seq its n ∧ its.size ≤ sizeLine ∧ Vals xs its.toList
theorem FzL.sq {K : PySem.W.Frag} {H : Hp} {a : Addr} {xs : List V} (h : FzL K H a xs) : SqL K H a xs := by
  rcases h with h | h
  · exact .inl (.inr h)
  · exact .inr h
mutual
def Rep (K : PySem.W.Frag) (H : Hp) (μ : List Addr) : D → V → Prop
  | .non, v => v = .non
  | .bl b, v => v = .bl b
  | .int i, v => v = .int i
  | .str x, v => v = .str x
  | .tup ds, v => ∃ a vs, v = .ref a ∧ SqT K H a vs ∧ Reps K H μ ds vs
  | .fls ds, v => ∃ a vs, v = .ref a ∧ FzL K H a vs ∧ Reps K H μ ds vs
  | .loc n, v => ∃ a, v = .ref a ∧ μ[n]? = some a
  | .adr a, v => v = .ref a
  | .ty n, v => v = .ty n
def Reps (K : PySem.W.Frag) (H : Hp) (μ : List Addr) : List D → List V → Prop
  | [], vs => vs = []
  | d :: ds, vs => ∃ v r, vs = v :: r ∧ Rep K H μ d v ∧ Reps K H μ ds r
end
/-- what may have come behind: nothing tracked is changed but what the store holds -/
structure Ext0 (H H' : Hp) (μ μ' : List Addr) : Prop where
  pre : ∀ (n : Nat) (a : Addr), μ[n]? = some a → μ'[n]? = some a
  tup : ∀ a xs, H a = some (.tup xs) → H' a = some (.tup xs)
  frz : ∀ a o u, H a = some (.frz o u) → H' a = some (.frz o u)
structure Ext (H H' : Hp) (μ μ' : List Addr) : Prop extends Ext0 H H' μ μ' where
  fra : ∀ a o, H a = some o → a ∉ μ → (∀ ps, o ≠ .tbl ps) → H' a = some o
  new : ∀ a, a ∈ μ' → a ∈ μ ∨ ∀ o, H a = some o → ∃ ps, o = .tbl ps
section
variable {K : PySem.W.Frag} {H H1 H2 H' : Hp} {μ μ1 μ2 μ' : List Addr}
theorem Ext.refl (H : Hp) (μ : List Addr) : Ext H H μ μ := ⟨⟨fun _ _ h => h, fun _ _ h => h, fun _ _ _ h => h⟩, fun _ _ h _ _ => h, fun _ h => .inl h⟩
theorem Ext.trans (x : Ext H H1 μ μ1) (y : Ext H1 H2 μ1 μ2) : Ext H H2 μ μ2 where
  pre n a h := y.pre n a (x.pre n a h)
  tup a xs h := y.tup a xs (x.tup a xs h)
  frz a o u h := y.frz a o u (x.frz a o u h)
  fra a o h hm hn := y.fra a o (x.fra a o h hm hn) (fun z => by
    rcases x.new a z with q | q
    · exact hm q
    · obtain ⟨ps, e⟩ := q o h
      exact hn ps e) hn
  new a h := by
    rcases y.new a h with q | q
    · exact x.new a q
    · by_cases hm : a ∈ μ
      · exact .inl hm
      · right
        intro o e
        by_cases ht : ∃ ps, o = .tbl ps
        · exact ht
        · exact q o (x.fra a o e hm fun ps z => ht ⟨ps, z⟩)
theorem Ext0.sqT (x : Ext0 H H' μ μ') {a : Addr} {xs : List V} (h : SqT K H a xs) : SqT K H' a xs := by
  rcases h with (h | ⟨o, h⟩) | h
  · exact .inl (.inl (x.tup _ _ h))
  · exact .inl (.inr ⟨o, x.frz _ _ _ h⟩)
  · exact .inr h
theorem Ext0.fzL (x : Ext0 H H' μ μ') {a : Addr} {xs : List V} (h : FzL K H a xs) : FzL K H' a xs := by
  rcases h with ⟨o, h⟩ | h
  · exact .inl ⟨o, x.frz _ _ _ h⟩
  · exact .inr h
mutual
theorem Rep.mono0 (x : Ext0 H H' μ μ') : ∀ {d : D} {v : V}, Rep K H μ d v → Rep K H' μ' d v
  | .non, _, h => h
  | .bl _, _, h => h
  | .int _, _, h => h
  | .str _, _, h => h
  | .tup ds, _, h => by
    obtain ⟨a, vs, e, s, r⟩ := h
    exact ⟨a, vs, e, x.sqT s, Reps.mono0 x r⟩
  | .fls ds, _, h => by
    obtain ⟨a, vs, e, s, r⟩ := h
    exact ⟨a, vs, e, x.fzL s, Reps.mono0 x r⟩
  | .loc n, _, h => by
    obtain ⟨a, e, q⟩ := h
    exact ⟨a, e, x.pre n a q⟩
  | .adr _, _, h => h
  | .ty _, _, h => h
theorem Reps.mono0 (x : Ext0 H H' μ μ') : ∀ {ds : List D} {vs : List V}, Reps K H μ ds vs → Reps K H' μ' ds vs
  | [], _, h => h
  | d :: ds, _, h => by
    obtain ⟨v, r, e, h1, h2⟩ := h
    exact ⟨v, r, e, Rep.mono0 x h1, Reps.mono0 x h2⟩
end
theorem Rep.mono (x : Ext H H' μ μ') {d : D} {v : V} (h : Rep K H μ d v) : Rep K H' μ' d v := h.mono0 x.toExt0
theorem Reps.mono (x : Ext H H' μ μ') {d : List D} {v : List V} (h : Reps K H μ d v) : Reps K H' μ' d v := h.mono0 x.toExt0
theorem Reps.length : ∀ {ds : List D} {vs : List V}, Reps K H μ ds vs → ds.length = vs.length
  | [], _, h => by subst h; rfl
  | d :: ds, _, h => by
    obtain ⟨v, r, rfl, _, h2⟩ := h
    simp [Reps.length h2]
theorem Reps.get : ∀ {ds : List D} {vs : List V} {i : Nat} {d : D}, Reps K H μ ds vs → ds[i]? = some d → ∃ v, vs[i]? = some v ∧ Rep K H μ d v
  | [], _, i, d, h, e => by simp at e
  | x :: ds, _, 0, d, h, e => by
    obtain ⟨v, r, rfl, h1, _⟩ := h
    simp at e; subst e
    exact ⟨v, rfl, h1⟩
  | x :: ds, _, i + 1, d, h, e => by
    obtain ⟨v, r, rfl, _, h2⟩ := h
    simpa using Reps.get (i := i) h2 (by simpa using e)
theorem Reps.append : ∀ {ds es : List D} {vs us : List V}, Reps K H μ ds vs → Reps K H μ es us → Reps K H μ (ds ++ es) (vs ++ us)
  | [], _, _, _, h, g => by subst h; exact g
  | d :: ds, es, _, us, h, g => by
    obtain ⟨v, r, rfl, h1, h2⟩ := h
    exact ⟨v, r ++ us, rfl, h1, Reps.append h2 g⟩
theorem Reps.one {d : D} {v : V} (h : Rep K H μ d v) : Reps K H μ [d] [v] := ⟨v, [], rfl, h, rfl⟩
theorem Reps.take : ∀ {ds : List D} {vs : List V} (n : Nat), Reps K H μ ds vs → Reps K H μ (ds.take n) (vs.take n)
  | _, _, 0, _ => rfl
  | [], _, n + 1, h => by subst h; rfl
  | d :: ds, _, n + 1, h => by
    obtain ⟨v, r, rfl, h1, h2⟩ := h
    exact ⟨v, r.take n, rfl, h1, Reps.take n h2⟩
theorem Reps.drop : ∀ {ds : List D} {vs : List V} (n : Nat), Reps K H μ ds vs → Reps K H μ (ds.drop n) (vs.drop n)
  | _, _, 0, h => h
  | [], _, n + 1, h => by subst h; rfl
  | d :: ds, _, n + 1, h => by
    obtain ⟨v, r, rfl, h1, h2⟩ := h
    exact Reps.drop n h2
theorem Reps.set : ∀ {ds : List D} {vs : List V} (n : Nat) {d : D} {v : V}, Reps K H μ ds vs → Rep K H μ d v → Reps K H μ (ds.set n d) (vs.set n v)
  | [], _, n, _, _, h, _ => by subst h; rfl
  | d :: ds, _, 0, e, u, h, g => by
    obtain ⟨v, r, rfl, h1, h2⟩ := h
    exact ⟨u, r, rfl, g, h2⟩
  | d :: ds, _, n + 1, e, u, h, g => by
    obtain ⟨v, r, rfl, h1, h2⟩ := h
    exact ⟨v, r.set n u, rfl, h1, Reps.set n h2 g⟩
theorem Reps.reverse : ∀ {ds : List D} {vs : List V}, Reps K H μ ds vs → Reps K H μ ds.reverse vs.reverse
  | [], _, h => by subst h; rfl
  | d :: ds, _, h => by
    obtain ⟨v, r, rfl, h1, h2⟩ := h
    simp only [List.reverse_cons]
    exact (Reps.reverse h2).append (Reps.one h1)
def OFs (K : PySem.W.Frag) (H : Hp) (μ : List Addr) (fs : List (Str × D)) (gs : List (Str × V)) : Prop := fs.map (·.1) = gs.map (·.1) ∧ Reps K H μ (fs.map (·.2)) (gs.map (·.2))
def OKv (K : PySem.W.Frag) (H : Hp) (μ : List Addr) (fs : List (Key × D)) (gs : List (Key × V)) : Prop := fs.map (·.1) = gs.map (·.1) ∧ Reps K H μ (fs.map (·.2)) (gs.map (·.2))
def ORep (K : PySem.W.Frag) (H : Hp) (μ : List Addr) : Ob → HO → Prop
  | .lst ds, o => ∃ vs, o = .lst vs ∧ Reps K H μ ds vs
  | .ins C fs, o => ∃ dx gs, o = .ins C dx gs ∧ OFs K H μ fs gs
  | .dK kvs, o => ∃ gs, o = .dK gs ∧ OKv K H μ kvs gs
  | .err e C d, o => o = exo e C d
  | .xdt dx fs, o => ∃ gs, o = exd dx gs ∧ OFs K H μ fs gs
  | .dkF od kvs, o => ∃ gs, o = .frz od (.dK gs) ∧ OKv K H μ kvs gs
theorem ORep.mono0 (x : Ext0 H H' μ μ') : ∀ {b : Ob} {o : HO}, ORep K H μ b o → ORep K H' μ' b o
  | .lst ds, _, h => by obtain ⟨vs, e, r⟩ := h; exact ⟨vs, e, r.mono0 x⟩
  | .ins C fs, _, h => by obtain ⟨dx, gs, e, r1, r2⟩ := h; exact ⟨dx, gs, e, r1, r2.mono0 x⟩
  | .dK fs, _, h => by obtain ⟨gs, e, r1, r2⟩ := h; exact ⟨gs, e, r1, r2.mono0 x⟩
  | .err _ _ _, _, h => h
  | .xdt dx fs, _, h => by obtain ⟨gs, e, r1, r2⟩ := h; exact ⟨gs, e, r1, r2.mono0 x⟩
  | .dkF od fs, _, h => by obtain ⟨gs, e, r1, r2⟩ := h; exact ⟨gs, e, r1, r2.mono0 x⟩
theorem ORep.mono (x : Ext H H' μ μ') {b : Ob} {o : HO} (h : ORep K H μ b o) : ORep K H' μ' b o := h.mono0 x.toExt0
/-- the tables of code objects that defs with lambdas fill -/
class TabCtx where
  T : List (Addr × Str)
  /-- the dicts of the exceptions that are held, and what stands in them -/
  xs : List (Addr × List (Str × D))
variable [TC : TabCtx]
def ExcAt (K : PySem.W.Frag) (H : Hp) (μ : List Addr) : Prop := ∀ p ∈ TC.xs, p.1 ∉ μ ∧ ∃ gs, H p.1 = some (.xd gs) ∧ OFs K H μ p.2 gs
theorem ExcAt.ext (s : ExcAt K H μ) (x : Ext H H' μ μ') : ExcAt K H' μ' := fun p hp => by
  obtain ⟨hn, gs, e, r1, r2⟩ := s p hp
  refine ⟨fun z => ?_, gs, x.fra _ _ e hn (fun ps z => nomatch z), r1, r2.mono x⟩
  rcases x.new _ z with q | q
  · exact hn q
  · obtain ⟨ps, q⟩ := q _ e
    cases q
theorem ORep.plain : ∀ {b : Ob} {o : HO}, ORep K H μ b o → ∀ ps, o ≠ .tbl ps
  | .lst ds, _, h => by obtain ⟨vs, rfl, r⟩ := h; exact fun _ z => (nomatch z)
  | .ins C fs, _, h => by obtain ⟨dx, gs, rfl, r⟩ := h; exact fun _ z => (nomatch z)
  | .dK fs, _, h => by obtain ⟨gs, rfl, r⟩ := h; exact fun _ z => (nomatch z)
  | .err e C d, o, h => fun ps z => exo_tbl ((show o = exo e C d from h).symm.trans z)
  | .xdt dx fs, _, h => by
    obtain ⟨gs, rfl, r⟩ := h
    intro ps z
    have z' : HO.ext _ = HO.tbl ps := z
    cases z'
  | .dkF od fs, _, h => by obtain ⟨gs, rfl, r⟩ := h; exact fun _ z => (nomatch z)
/-- the tables, where a thing that is none of theirs is written -/
theorem tabs_upd {T : List (Addr × Str)} {p : Addr} {u : HO} (h : LamX.Tabs T H) (hp : ∀ o, H p = some o → (∀ ps, o ≠ .tbl ps) ∧ ∀ f, o ≠ .ext f) : LamX.Tabs T (upd H p u) := fun q hq => by
  obtain ⟨ps, h1, h2, h3⟩ := h q hq
  refine ⟨ps, ?_, h2, fun pos cv hc => ?_⟩
  · rw [upd_ne (fun e => by rw [e] at h1; exact (hp _ h1).1 ps rfl)]; exact h1
  · obtain ⟨c, e1, e2⟩ := h3 pos cv hc
    exact ⟨c, e1, by rw [upd_ne (fun e => by rw [e] at e2; exact (hp _ e2).2 _ rfl)]; exact e2⟩
structure SRep (K : PySem.W.Frag) (st : Sto) (μ : List Addr) (H : Hp) : Prop where
  len : st.length = μ.length
  nd : μ.Nodup
  at' : ∀ (n : Nat) (b : Ob), st[n]? = some b → ∃ a o, μ[n]? = some a ∧ H a = some o ∧ ORep K H μ b o
  tab : LamX.Tabs TC.T H
  exc : ExcAt K H μ
theorem SRep.mem {st : Sto} (s : SRep K st μ H) {a : Addr} (h : a ∈ μ) : ∃ (n : Nat) (b : Ob) (o : HO), μ[n]? = some a ∧ st[n]? = some b ∧ H a = some o ∧ ORep K H μ b o := by
  obtain ⟨n, e⟩ := List.mem_iff_getElem?.mp h
  have hn : n < st.length := by
    rw [s.len]
    exact (List.getElem?_eq_some_iff.mp e).1
  obtain ⟨a', o, e', ho, r⟩ := s.at' n _ (List.getElem?_eq_getElem hn)
  rw [e] at e'; cases e'
  exact ⟨n, _, o, e, List.getElem?_eq_getElem hn, ho, r⟩
theorem SRep.not_mem {st : Sto} (s : SRep K st μ H) {a : Addr} (h : H a = none) : a ∉ μ := fun hm => by
  obtain ⟨n, b, o, _, _, ho, _⟩ := s.mem hm
  rw [h] at ho; cases ho
/-- a new thing that the store does not hold (a tuple) -/
theorem Ext.laid {p : Addr} {o : HO} (h : H p = none) : Ext H (upd H p o) μ μ where
  pre _ _ q := q
  tup a xs q := by rw [upd_ne (ne_of_none q h)]; exact q
  frz a ob u q := by rw [upd_ne (ne_of_none q h)]; exact q
  fra a ob q _ _ := by rw [upd_ne (ne_of_none q h)]; exact q
  new a q := .inl q
theorem SRep.ext {st : Sto} (s : SRep K st μ H) (x : Ext H H' μ μ) (k : ∀ a o, a ∈ μ → H a = some o → H' a = some o) (ht : LamX.Tabs TC.T H') : SRep K st μ H' :=
  ⟨s.len, s.nd, fun n b e => by
    obtain ⟨a, o, e1, e2, r⟩ := s.at' n b e
    exact ⟨a, o, e1, k a o (List.mem_of_getElem? e1) e2, r.mono x⟩, ht, s.exc.ext x⟩
theorem SRep.laid {st : Sto} (s : SRep K st μ H) {p : Addr} {o : HO} (h : H p = none) : SRep K st μ (upd H p o) :=
  s.ext (Ext.laid h) (fun a ob _ q => by rw [upd_ne (ne_of_none q h)]; exact q) (tabs_upd s.tab fun o q => by rw [h] at q; cases q)
/-- a new thing that the store holds -/
theorem Ext.push {p : Addr} {o : HO} (h : H p = none) : Ext H (upd H p o) μ (μ ++ [p]) where
  pre n a q := by rw [List.getElem?_append_left (List.getElem?_eq_some_iff.mp q).1]; exact q
  tup a xs q := by rw [upd_ne (ne_of_none q h)]; exact q
  frz a ob u q := by rw [upd_ne (ne_of_none q h)]; exact q
  fra a ob q _ _ := by rw [upd_ne (ne_of_none q h)]; exact q
  new a q := by
    rcases List.mem_append.mp q with q | q
    · exact .inl q
    · rw [List.mem_singleton.mp q]; exact .inr fun o q => by rw [h] at q; cases q
theorem SRep.push {st : Sto} (s : SRep K st μ H) {p : Addr} {o : HO} {b : Ob} (h : H p = none) (r : ORep K (upd H p o) (μ ++ [p]) b o) : SRep K (st ++ [b]) (μ ++ [p]) (upd H p o) := by
  refine ⟨by simp [s.len], ?_, fun n c e => ?_, tabs_upd s.tab (fun o q => by rw [h] at q; cases q), s.exc.ext (Ext.push h)⟩
  · refine List.nodup_append.mpr ⟨s.nd, by simp, fun a ha b hb => ?_⟩
    rw [List.mem_singleton.mp hb]
    intro e
    exact s.not_mem h (e ▸ ha)
  · by_cases hn : n < st.length
    · rw [List.getElem?_append_left hn] at e
      obtain ⟨a, ob, e1, e2, r2⟩ := s.at' n c e
      refine ⟨a, ob, ?_, ?_, r2.mono (Ext.push h)⟩
      · rw [List.getElem?_append_left (List.getElem?_eq_some_iff.mp e1).1]; exact e1
      · rw [upd_ne (ne_of_none e2 h)]; exact e2
    · have hn' : n = st.length := by
        have := (List.getElem?_eq_some_iff.mp e).1
        simp at this
        omega
      subst hn'
      rw [List.getElem?_append_right (Nat.le_refl _)] at e
      simp at e
      subst e
      refine ⟨p, o, ?_, upd_same, r⟩
      rw [s.len, List.getElem?_append_right (Nat.le_refl _)]
      simp
/-- a thing of the store is written -/
theorem SRep.write {st : Sto} (s : SRep K st μ H) {n : Nat} {p : Addr} {o o' : HO} {b : Ob} (hp : μ[n]? = some p) (ho : H p = some o) (r : ORep K H μ b o') (hx : ∀ f, o ≠ .ext f := by intro f z; cases z) (mu : Mut (some o) := by trivial) : Ext H (upd H p o') μ μ ∧ SRep K (st.set n b) μ (upd H p o') := by
  have hm : p ∈ μ := List.mem_of_getElem? hp
  obtain ⟨_, b0, o0, _, _, h0, r0⟩ := s.mem hm
  rw [ho] at h0; cases h0
  have x : Ext H (upd H p o') μ μ := by
    refine ⟨⟨fun _ _ q => q, fun a xs q => ?_, fun a ob u q => ?_⟩, fun a ob q hn _ => ?_, fun _ q => .inl q⟩
    · rw [upd_ne (fun e => by subst e; rw [ho] at q; cases q; exact mu)]; exact q
    · rw [upd_ne (fun e => by subst e; rw [ho] at q; cases q; exact mu)]; exact q
    · rw [upd_ne (fun (e : a = p) => hn (by rw [e]; exact hm))]; exact q
  refine ⟨x, by simp [s.len], s.nd, fun m c e => ?_, tabs_upd s.tab (fun o1 q => by rw [ho] at q; cases q; exact ⟨r0.plain, hx⟩), s.exc.ext x⟩
  by_cases hmn : m = n
  · subst hmn
    have hl : m < st.length := by
      have := (List.getElem?_eq_some_iff.mp hp).1
      rw [s.len]; exact this
    rw [List.getElem?_set_self hl] at e
    cases e
    exact ⟨p, o', hp, upd_same, r.mono x⟩
  · rw [List.getElem?_set_ne (Ne.symm hmn)] at e
    obtain ⟨a, ob, e1, e2, r2⟩ := s.at' m c e
    refine ⟨a, ob, e1, ?_, r2.mono x⟩
    rw [upd_ne (fun e => hmn ?_)]
    · exact e2
    · subst e
      exact nd_ix s.nd e1 hp
end
end DL
namespace DL
open PySem L2 PySem.Spec
open PyProof.Rows hiding St
variable [TC : TabCtx]
/-- an exception: its class, its fields -/
structure DX where
  cls : Value
  fs : List (Str × D)
abbrev DK := D → Sto → Prop
abbrev DZ := DX → Env' → Sto → Prop
abbrev DTE := Env' → Sto → DK → DZ → Prop
abbrev DTT := Env' → Sto → (Bool → Sto → Prop) → DZ → Prop
abbrev DTA := Env' → Sto → (List D → Sto → Prop) → DZ → Prop
structure DEnds where
  nx : Env' → Sto → Prop
  rt : DK
  bk : Env' → Sto → Prop := fun _ _ => False
  ct : Env' → Sto → Prop := fun _ _ => False
  xs : DZ := fun _ _ _ => False
abbrev DTS := DEnds → Env' → Sto → Prop
abbrev DTG := D → Env' → Sto → (Env' → Sto → Prop) → Prop
structure ERep (K : PySem.W.Frag) (H : Hp) (μ : List Addr) (ρ : Env') (σ : St) : Prop where
  len : ρ.length = σ.length
  at' : ∀ (i : Nat) (d : D), ρ[i]? = some (some d) → ∃ v, σ[i]? = some (some v) ∧ Rep K H μ d v
def XRep (K : PySem.W.Frag) (H : Hp) (μ : List Addr) (x : DX) (c : Value) (dx : Option Addr) : Prop :=
  c = x.cls ∧ ((dx = none ∧ x.fs = []) ∨ ∃ d gs, dx = some d ∧ H d = some (.xd gs) ∧ OFs K H μ x.fs gs)
structure Stt (K : PySem.W.Frag) (ρ : Env') (st : Sto) (μ : List Addr) (σ : St) (H : Hp) : Prop where
  e : ERep K H μ ρ σ
  s : SRep K st μ H
section
variable {K : PySem.W.Frag} {H H1 H2 H' : Hp} {μ μ1 μ2 μ' : List Addr} {ρ : Env'} {st st' : Sto} {σ : St}
theorem ERep.mono (x : Ext H H' μ μ') (h : ERep K H μ ρ σ) : ERep K H' μ' ρ σ := ⟨h.len, fun i d e => by
  obtain ⟨v, e1, r⟩ := h.at' i d e
  exact ⟨v, e1, r.mono x⟩⟩
theorem ERep.set (h : ERep K H μ ρ σ) (i : Nat) {d : D} {v : V} (r : Rep K H μ d v) : ERep K H μ (ρ.set i (some d)) (σ.set i (some v)) := ⟨by simp [h.len], fun j e q => by
  by_cases hj : j = i
  · subst hj
    have hl : j < ρ.length := by
      have := (List.getElem?_eq_some_iff.mp q).1
      simpa using this
    rw [List.getElem?_set_self hl] at q
    cases q
    exact ⟨v, by rw [List.getElem?_set_self (by rw [← h.len]; exact hl)], r⟩
  · rw [List.getElem?_set_ne (Ne.symm hj)] at q
    obtain ⟨u, e1, r1⟩ := h.at' j e q
    exact ⟨u, by rw [List.getElem?_set_ne (Ne.symm hj)]; exact e1, r1⟩⟩
theorem ERep.unset (h : ERep K H μ ρ σ) (i : Nat) : ERep K H μ (ρ.set i none) (σ.set i none) := ⟨by simp [h.len], fun j e q => by
  by_cases hj : j = i
  · subst hj
    have hl : j < ρ.length := by
      have := (List.getElem?_eq_some_iff.mp q).1
      simpa using this
    rw [List.getElem?_set_self hl] at q
    cases q
  · rw [List.getElem?_set_ne (Ne.symm hj)] at q
    obtain ⟨u, e1, r1⟩ := h.at' j e q
    exact ⟨u, by rw [List.getElem?_set_ne (Ne.symm hj)]; exact e1, r1⟩⟩
def wipeD (ρ : Env') : List Nat → Env'
  | [] => ρ
  | v :: vs => (wipeD ρ vs).set v none
theorem ERep.wipe (h : ERep K H μ ρ σ) : ∀ vs : List Nat, ERep K H μ (wipeD ρ vs) (wipe σ vs)
  | [] => h
  | v :: vs => (ERep.wipe h vs).unset v
theorem Stt.mono (x : Ext H H' μ μ') (h : Stt K ρ st μ σ H) (s' : SRep K st' μ' H') : Stt K ρ st' μ' σ H' := ⟨h.e.mono x, s'⟩
/-- the wish about exceptions is served -/
def ZOk (K : PySem.W.Frag) (W : WX) (Z : DZ) (H : Hp) (μ : List Addr) : Prop :=
  ∀ x ρ' st' σ' H' μ' c dx, Z x ρ' st' → Ext H H' μ μ' → Stt K ρ' st' μ' σ' H' → XRep K H' μ' x c dx → W c dx σ' H'
theorem ZOk.mono {W : WX} {Z : DZ} (z : ZOk K W Z H μ) (x : Ext H H' μ μ') : ZOk K W Z H' μ' := fun _ _ _ _ _ _ _ _ h e => z _ _ _ _ _ _ _ _ h (x.trans e)
def EOk (K : PySem.W.Frag) (Qd : DK) (Q : VK) (H : Hp) (μ : List Addr) : Prop :=
  ∀ d st' H' μ' v, Qd d st' → Ext H H' μ μ' → SRep K st' μ' H' → Rep K H' μ' d v → Q v H'
theorem EOk.mono {Qd : DK} {Q : VK} (z : EOk K Qd Q H μ) (x : Ext H H' μ μ') : EOk K Qd Q H' μ' := fun _ _ _ _ _ h e => z _ _ _ _ _ h (x.trans e)
def TOk (K : PySem.W.Frag) (Qd : Bool → Sto → Prop) (Q : Bool → Hp → Prop) (H : Hp) (μ : List Addr) : Prop :=
  ∀ b st' H' μ', Qd b st' → Ext H H' μ μ' → SRep K st' μ' H' → Q b H'
theorem TOk.mono {Qd : Bool → Sto → Prop} {Q : Bool → Hp → Prop} (z : TOk K Qd Q H μ) (x : Ext H H' μ μ') : TOk K Qd Q H' μ' := fun _ _ _ _ h e => z _ _ _ _ h (x.trans e)
def AOk (K : PySem.W.Frag) (Qd : List D → Sto → Prop) (Q : List V → Hp → Prop) (H : Hp) (μ : List Addr) : Prop :=
  ∀ ds st' H' μ' vs, Qd ds st' → Ext H H' μ μ' → SRep K st' μ' H' → Reps K H' μ' ds vs → Q vs H'
def NOk (K : PySem.W.Frag) (Qd : Env' → Sto → Prop) (Q : St → Hp → Prop) (H : Hp) (μ : List Addr) : Prop :=
  ∀ ρ' st' σ' H' μ', Qd ρ' st' → Ext H H' μ μ' → Stt K ρ' st' μ' σ' H' → Q σ' H'
theorem NOk.mono {Qd : Env' → Sto → Prop} {Q : St → Hp → Prop} (z : NOk K Qd Q H μ) (x : Ext H H' μ μ') : NOk K Qd Q H' μ' := fun _ _ _ _ _ h e => z _ _ _ _ _ h (x.trans e)
structure SOk (K : PySem.W.Frag) (W : WX) (DD : DEnds) (D : Ends) (H : Hp) (μ : List Addr) : Prop where
  nx : NOk K DD.nx D.nx H μ
  rt : EOk K DD.rt D.rt H μ
  bk : NOk K DD.bk D.bk H μ
  ct : NOk K DD.ct D.ct H μ
  xs : ZOk K W DD.xs H μ
theorem SOk.mono {W : WX} {DD : DEnds} {D : Ends} (z : SOk K W DD D H μ) (x : Ext H H' μ μ') : SOk K W DD D H' μ' := ⟨z.nx.mono x, z.rt.mono x, z.bk.mono x, z.ct.mono x, z.xs.mono x⟩
def liftE (K : PySem.W.Frag) (W : WX) (t : DTE) : TE := fun σ H Q => ∃ ρ st μ Qd Z, Stt K ρ st μ σ H ∧ t ρ st Qd Z ∧ EOk K Qd Q H μ ∧ ZOk K W Z H μ
def liftT (K : PySem.W.Frag) (W : WX) (t : DTT) : TT := fun σ H Q => ∃ ρ st μ Qd Z, Stt K ρ st μ σ H ∧ t ρ st Qd Z ∧ TOk K Qd Q H μ ∧ ZOk K W Z H μ
def liftA (K : PySem.W.Frag) (W : WX) (t : DTA) : TA := fun σ H Q => ∃ ρ st μ Qd Z, Stt K ρ st μ σ H ∧ t ρ st Qd Z ∧ AOk K Qd Q H μ ∧ ZOk K W Z H μ
def liftS (K : PySem.W.Frag) (W : WX) (t : DTS) : TS := fun D σ H => ∃ ρ st μ DD, Stt K ρ st μ σ H ∧ t DD ρ st ∧ SOk K W DD D H μ
/-- a target; ws: the slots that it may store -/
def liftG (K : PySem.W.Frag) (ws : List Nat) (t : DTG) : TG := fun v σ H Q => ∃ d ρ st μ Qd, Stt K ρ st μ σ H ∧ Rep K H μ d v ∧ t d ρ st Qd ∧
  ∀ ρ' st' σ' H' μ', Qd ρ' st' → Ext H H' μ μ' → Stt K ρ' st' μ' σ' H' → (∀ vs, (∀ w ∈ ws, w ∈ vs) → wipe σ' vs = wipe σ vs) → Q σ' H'
end
abbrev DE (X : Cx) (W : WX) (e : Expr) (t : DTE) : Prop := PE X e (liftE X.K W t)
abbrev DT (X : Cx) (W : WX) (e : Expr) (t : DTT) : Prop := PT X e (liftT X.K W t)
abbrev DW (X : Cx) (W : WX) (e : Expr) (t : DTT) : Prop := PW X e (liftT X.K W t)
abbrev DA (X : Cx) (W : WX) (es : List Expr) (t : DTA) : Prop := PA X es (liftA X.K W t)
abbrev DS (X : Cx) (W : WX) (s : Stmt) (t : DTS) : Prop := PS X s (liftS X.K W t)
abbrev DSs (X : Cx) (W : WX) (s : List Stmt) (t : DTS) : Prop := PSs X s (liftS X.K W t)
abbrev DG (X : Cx) (ws : List Nat) (e : Expr) (t : DTG) : Prop := PG X e (liftG X.K ws t)
section
variable {X : Cx} {W : WX}
theorem pe_weak {e : Expr} {t u : TE} (h : PE X e t) (w : ∀ σ H Q, u σ H Q → t σ H Q) : PE X e u := ⟨fun pins s σ H Q I q => h.run pins s σ H Q I (w σ H Q q)⟩
theorem pt_weak {e : Expr} {t u : TT} (h : PT X e t) (w : ∀ σ H Q, u σ H Q → t σ H Q) : PT X e u := ⟨fun pins s σ H Q I q => h.run pins s σ H Q I (w σ H Q q)⟩
theorem pw_weak {e : Expr} {t u : TT} (h : PW X e t) (w : ∀ σ H Q, u σ H Q → t σ H Q) : PW X e u := ⟨fun wh pins s σ H Q I q => h.run wh pins s σ H Q I (w σ H Q q)⟩
theorem pa_weak {e : List Expr} {t u : TA} (h : PA X e t) (w : ∀ σ H Q, u σ H Q → t σ H Q) : PA X e u := ⟨fun pos pins s σ H Q I q => h.run pos pins s σ H Q I (w σ H Q q)⟩
theorem ps_weak {e : Stmt} {t u : TS} (h : PS X e t) (w : ∀ D σ H, u D σ H → t D σ H) : PS X e u := ⟨fun pins s σ H D I q => h.run pins s σ H D I (w D σ H q)⟩
theorem pss_weak {e : List Stmt} {t u : TS} (h : PSs X e t) (w : ∀ D σ H, u D σ H → t D σ H) : PSs X e u := ⟨fun pins s σ H D I q => h.run pins s σ H D I (w D σ H q)⟩
theorem pg_weak {e : Expr} {t u : TG} (h : PG X e t) (w : ∀ v σ H Q, u v σ H Q → t v σ H Q) : PG X e u := ⟨fun pins s σ H v u Q I r q => h.run pins s σ H v u Q I r (w v σ H Q q)⟩
def dVar (i : Nat) : DTE := fun ρ st Q _ => match ρ[i]? with | some (some d) => Q d st | _ => False
def dC (d : D) : DTE := fun _ st Q _ => Q d st
theorem de_var {i : Nat} {x : Str} {pos : Pos} (h : PE X (.Name x pos) (tVar i)) : DE X W (.Name x pos) (dVar i) := pe_weak h fun σ H Q ⟨ρ, st, μ, Qd, Z, hS, ht, hQ, _⟩ => by
  unfold dVar at ht
  split at ht
  · rename_i d e
    obtain ⟨v, e1, r⟩ := hS.e.at' i d e
    exact ⟨v, e1, hQ d st H μ v ht (Ext.refl _ _) hS.s r⟩
  · exact ht.elim
theorem dv (i : Nat) {x : Str} {pos : Pos} (hN : X.N[i]? = some x := by rfl) (hv : Vis X.env.scope x := by first | exact Or.inl rfl | exact Or.inr (Or.inl rfl) | exact Or.inr (Or.inr rfl)) (hd : (x == ("__debug__" : Str)) = false := by decide)
    (hcd : (x == ("__classdict__" : Str)) = false := by decide) : DE X W (.Name x pos) (dVar i) := de_var (pe_var hN hv hd hcd)
theorem de_c {e : Expr} {d : D} {v : V} (h : PE X e (tC v)) (r : ∀ H μ, Rep X.K H μ d v) : DE X W e (dC d) := pe_weak h fun σ H Q ⟨ρ, st, μ, Qd, Z, hS, ht, hQ, _⟩ => hQ d st H μ v ht (Ext.refl _ _) hS.s (r H μ)
theorem de_int {i : Int} {j : Nat} {pos : Pos} : DE X W (.Constant (.int i) j pos) (dC (.int i)) := de_c pe_int fun _ _ => rfl
theorem de_bl {i : Bool} {j : Nat} {pos : Pos} : DE X W (.Constant (.bool i) j pos) (dC (.bl i)) := de_c pe_bl fun _ _ => rfl
theorem de_non {j : Nat} {pos : Pos} : DE X W (.Constant .none j pos) (dC .non) := de_c pe_non fun _ _ => rfl
theorem de_str {x : Str} {j : Nat} {pos : Pos} : DE X W (.Constant (.str x) j pos) (dC (.str x)) := de_c pe_str fun _ _ => rfl
abbrev D2 := D → D → Sto → DK → Prop
def DOp (K : PySem.W.Frag) (r : R2) (dr : D2) : Prop :=
  ∀ {H : Hp} {μ : List Addr} {st : Sto} {x y : D} {v u : V} {Qd : DK} {Q : VK}, SRep K st μ H → Rep K H μ x v → Rep K H μ y u → dr x y st Qd → EOk K Qd Q H μ → r v u H Q
def dOp (dr : D2) (ta tb : DTE) : DTE := fun ρ st Q Z => ta ρ st (fun x st1 => tb ρ st1 (fun y st2 => dr x y st2 Q) Z) Z
/-- two in a row, by values -/
theorem lift2 {K : PySem.W.Frag} {r : R2} {dr : D2} {ta tb : DTE} (hr : DOp K r dr) (σ : St) (H : Hp) (Q : VK) (h : liftE K W (dOp dr ta tb) σ H Q) : tOp r (liftE K W ta) (liftE K W tb) σ H Q := by
  obtain ⟨ρ, st, μ, Qd, Z, hS, ht, hQ, hZ⟩ := h
  refine ⟨ρ, st, μ, _, Z, hS, ht, fun x st1 H1 μ1 v hx e1 s1 rv => ?_, hZ⟩
  refine ⟨ρ, st1, μ1, _, Z, hS.mono e1 s1, hx, fun y st2 H2 μ2 u hy e2 s2 ru => ?_, hZ.mono e1⟩
  exact hr s2 (rv.mono e2) ru hy (hQ.mono (e1.trans e2))
variable {a b c : Expr} {ta tb tc : DTE} {pos : Pos}
theorem de_op {op : Operator} {r : R2} {dr : D2} (ho : OpR X (binaryOp op) r) (hr : DOp X.K r dr) (ha : DE X W a ta) (hb : DE X W b tb) : DE X W (.BinOp a op b pos) (dOp dr ta tb) := pe_weak (pe_op ho ha hb) fun σ H Q h => lift2 hr σ H Q h
theorem de_cmp {op : CmpOp} {r : R2} {dr : D2} (ho : OpR X (compareOp op) r) (hr : DOp X.K r dr) (hm : behindInMarks op b = false) (ha : DE X W a ta) (hb : DE X W b tb) : DE X W (.Compare a [op] [b] pos) (dOp dr ta tb) := pe_weak (pe_cmpR ho ha hb hm) fun σ H Q h => lift2 hr σ H Q h
/-- a value as a test: it is a bool -/
def dTest (t : DTE) : DTT := fun ρ st Q Z => t ρ st (fun x st1 => match x with | .bl b => Q b st1 | _ => False) Z
theorem dt_cmp {op : CmpOp} {r : R2} {dr : D2} (ho : OpR X (compareOp op) r) (hr : DOp X.K r dr) (hm : behindInMarks op b = false) (ha : DE X W a ta) (hb : DE X W b tb) : DT X W (.Compare a [op] [b] pos) (dTest (dOp dr ta tb)) := pt_weak (pt_cmpR ho ha hb hm) fun σ H Q h => by
  obtain ⟨ρ, st, μ, Qd, Z, hS, ht, hQ, hZ⟩ := h
  refine lift2 (dr := dr) hr σ H _ ⟨ρ, st, μ, _, Z, hS, ht, fun x st1 H1 μ1 v hx e1 s1 rv => ?_, hZ⟩
  cases x with
  | bl b => exact ⟨b, rv, hQ b st1 H1 μ1 hx e1 s1⟩
  | _ => exact hx.elim
/-- a op b op' c -/
def dChain (r r' : D2) (ta tb tc : DTE) : DTE := fun ρ st Q Z => ta ρ st (fun x st1 => tb ρ st1 (fun y st2 => r x y st2 fun z st3 => match z with
  | .bl k => if k = true then tc ρ st3 (fun w st4 => r' y w st4 Q) Z else Q (.bl false) st3
  | _ => False) Z) Z
def dUn (f : D → Sto → DK → Prop) (ta : DTE) : DTE := fun ρ st Q Z => ta ρ st (fun x st1 => f x st1 Q) Z
theorem de_un {op : UnaryOp} {r : V → Hp → VK → Prop} {dr : D → Sto → DK → Prop} (ho : UnR X (unaryOp op) r) (hr : ∀ {H : Hp} {μ : List Addr} {st : Sto} {x : D} {v : V} {Qd : DK} {Q : VK}, SRep X.K st μ H → Rep X.K H μ x v → dr x st Qd → EOk X.K Qd Q H μ → r v H Q)
    (ha : DE X W a ta) : DE X W (.UnaryOp op a pos) (dUn dr ta) := pe_weak (pe_un ho ha) fun σ H Q ⟨ρ, st, μ, Qd, Z, hS, ht, hQ, hZ⟩ =>
  ⟨ρ, st, μ, _, Z, hS, ht, fun x st1 H1 μ1 v hx e1 s1 rv => hr s1 rv hx (hQ.mono e1), hZ⟩
/-- a value's truth -/
def truD (st : Sto) : D → (Bool → Prop) → Prop
  | .non, Q => Q false
  | .bl b, Q => Q b
  | .int i, Q => Q (i != 0)
  | .str y, Q => y.length ≤ sizeLine ∧ Q ((y.length : Int) != 0)
  | .tup ds, Q => Q (!ds.isEmpty)
  | .fls ds, Q => Q (!ds.isEmpty)
  | .loc n, Q => match st[n]? with
    | some (.lst ds) => Q (!ds.isEmpty)
    | some (.dK kvs) => Q (!kvs.isEmpty)
    | _ => False
  | _, _ => False
theorem Reps.isEmpty {K : PySem.W.Frag} {H : Hp} {μ : List Addr} {ds : List D} {vs : List V} (h : Reps K H μ ds vs) : ds.isEmpty = vs.isEmpty := by
  have := h.length
  cases ds <;> cases vs <;> simp_all
theorem truD_ok {K : PySem.W.Frag} {H : Hp} {μ : List Addr} {st : Sto} {d : D} {v : V} {Q : Bool → Prop} (s : SRep K st μ H) (r : Rep K H μ d v) (h : truD st d Q) : ∃ k, TruV K v H k ∧ Q k := by
  cases d with
  | non => rw [show v = _ from r]; exact ⟨false, rfl, h⟩
  | bl b => rw [show v = _ from r]; exact ⟨b, rfl, h⟩
  | int i => rw [show v = _ from r]; exact ⟨i != 0, rfl, h⟩
  | str y => rw [show v = _ from r]; exact ⟨_, ⟨h.1, rfl⟩, h.2⟩
  | tup ds =>
    obtain ⟨a, vs, rfl, hs, hr⟩ := r
    exact ⟨_, .inr (.inl ⟨vs, hs, rfl⟩), by rw [← hr.isEmpty]; exact h⟩
  | fls ds =>
    obtain ⟨a, vs, rfl, hs, hr⟩ := r
    exact ⟨_, .inl ⟨vs, hs.sq, rfl⟩, by rw [← hr.isEmpty]; exact h⟩
  | loc n =>
    obtain ⟨a, rfl, hn⟩ := r
    simp only [truD] at h
    split at h
    · rename_i ds e
      obtain ⟨a', o, e1, e2, vs, rfl, hr⟩ := s.at' _ _ e
      rw [hn] at e1; cases e1
      exact ⟨_, .inl ⟨vs, .inl (.inl e2), rfl⟩, by rw [← hr.isEmpty]; exact h⟩
    · rename_i kvs e
      obtain ⟨a', o, e1, e2, gs, rfl, hk, hr⟩ := s.at' _ _ e
      rw [hn] at e1; cases e1
      refine ⟨_, .inr (.inr ⟨gs, e2, rfl⟩), ?_⟩
      have := congrArg List.length hk
      simp at this
      have e : kvs.isEmpty = gs.isEmpty := by
        cases kvs <;> cases gs <;> simp_all
      rw [← e]; exact h
    · exact h.elim
  | _ => exact (show False from h).elim
/-- a value as a test, by its truth -/
def dTru (t : DTE) : DTT := fun ρ st Q Z => t ρ st (fun x st1 => truD st1 x fun b => Q b st1) Z
theorem dt_tru (ha : DE X W a ta) (he : ∀ whole, isTrue a X.env whole = (do let v ← whole; standAt a.pos; holding [v] (truthy v)) := by intro _; rfl) : DT X W a (dTru ta) := pt_weak (pt_truth ha he) fun σ H Q ⟨ρ, st, μ, Qd, Z, hS, ht, hQ, hZ⟩ =>
  ⟨ρ, st, μ, _, Z, hS, ht, fun x st1 H1 μ1 v hx e1 s1 rv => by
    obtain ⟨k, hk, q⟩ := truD_ok s1 rv hx
    exact ⟨k, hk, hQ k st1 H1 μ1 q e1 s1⟩, hZ⟩
def dNot (t : DTT) : DTT := fun ρ st Q Z => t ρ st (fun b st1 => Q (!b) st1) Z
def dAnd (t u : DTT) : DTT := fun ρ st Q Z => t ρ st (fun b st1 => if b = true then u ρ st1 Q Z else Q false st1) Z
def dOr (t u : DTT) : DTT := fun ρ st Q Z => t ρ st (fun b st1 => if b = true then Q true st1 else u ρ st1 Q Z) Z
variable {t u : DTT} {rest : List Expr}
theorem dt_not (ha : DT X W a t) : DT X W (.UnaryOp .Not a pos) (dNot t) := pt_weak (pt_not ha) fun σ H Q ⟨ρ, st, μ, Qd, Z, hS, ht, hQ, hZ⟩ =>
  ⟨ρ, st, μ, _, Z, hS, ht, fun b st1 H1 μ1 hx e1 s1 => hQ _ _ _ _ hx e1 s1, hZ⟩
theorem dw_and1 (ha : DT X W a t) : DW X W (.BoolOp .And [a] pos) t := pw_and1 ha
theorem dw_or1 (ha : DT X W a t) : DW X W (.BoolOp .Or [a] pos) t := pw_or1 ha
theorem dw_and (ha : DT X W a t) (hb : DW X W (.BoolOp .And (b :: rest) pos) u) : DW X W (.BoolOp .And (a :: b :: rest) pos) (dAnd t u) := pw_weak (pw_and ha hb) fun σ H Q ⟨ρ, st, μ, Qd, Z, hS, ht, hQ, hZ⟩ =>
  ⟨ρ, st, μ, _, Z, hS, ht, fun k st1 H1 μ1 hx e1 s1 => by
    cases k with
    | true =>
      refine iteT ?_
      exact ⟨ρ, st1, μ1, Qd, Z, hS.mono e1 s1, hx, hQ.mono e1, hZ.mono e1⟩
    | false =>
      refine iteF ?_
      exact hQ _ _ _ _ hx e1 s1, hZ⟩
theorem dw_or (ha : DT X W a t) (hb : DW X W (.BoolOp .Or (b :: rest) pos) u) : DW X W (.BoolOp .Or (a :: b :: rest) pos) (dOr t u) := pw_weak (pw_or ha hb) fun σ H Q ⟨ρ, st, μ, Qd, Z, hS, ht, hQ, hZ⟩ =>
  ⟨ρ, st, μ, _, Z, hS, ht, fun k st1 H1 μ1 hx e1 s1 => by
    cases k with
    | true =>
      refine iteT ?_
      exact hQ _ _ _ _ hx e1 s1
    | false =>
      refine iteF ?_
      exact ⟨ρ, st1, μ1, Qd, Z, hS.mono e1 s1, hx, hQ.mono e1, hZ.mono e1⟩, hZ⟩
theorem dw_pt {e : Expr} (h : DW X W e t) : DT X W e t := h.pt
/-- a if t else b -/
def dIf (t : DTT) (ta tb : DTE) : DTE := fun ρ st Q Z => t ρ st (fun k st1 => if k = true then ta ρ st1 Q Z else tb ρ st1 Q Z) Z
theorem de_if (hc : DT X W c t) (ha : DE X W a ta) (hb : DE X W b tb) : DE X W (.IfExp c a b pos) (dIf t ta tb) := pe_weak (pe_ifExp hc ha hb) fun σ H Q ⟨ρ, st, μ, Qd, Z, hS, ht, hQ, hZ⟩ =>
  ⟨ρ, st, μ, _, Z, hS, ht, fun k st1 H1 μ1 hx e1 s1 => by
    cases k with
    | true =>
      refine iteT ?_
      exact ⟨ρ, st1, μ1, Qd, Z, hS.mono e1 s1, hx, hQ.mono e1, hZ.mono e1⟩
    | false =>
      refine iteF ?_
      exact ⟨ρ, st1, μ1, Qd, Z, hS.mono e1 s1, hx, hQ.mono e1, hZ.mono e1⟩, hZ⟩
end
end DL
namespace DL
open PySem L2 PySem.Spec
open PyProof.Rows hiding St
variable [TC : TabCtx]
section
variable {X : Cx} {W : WX} {a b c e : Expr} {ta tb tc te : DTE} {pos : Pos} {es rest : List Expr} {t : DTA}
def dAndV (ta tb : DTE) : DTE := fun ρ st Q Z => ta ρ st (fun x st1 => truD st1 x fun k => if k = true then tb ρ st1 Q Z else Q x st1) Z
def dOrV (ta tb : DTE) : DTE := fun ρ st Q Z => ta ρ st (fun x st1 => truD st1 x fun k => if k = true then Q x st1 else tb ρ st1 Q Z) Z
def dNotV (ta : DTE) : DTE := fun ρ st Q Z => ta ρ st (fun x st1 => truD st1 x fun k => Q (.bl (!k)) st1) Z
theorem de_one (ha : DE X W a ta) {op : BoolOp} : DE X W (.BoolOp op [a] pos) ta := pe_one ha
theorem de_and (ha : DE X W a ta) (hb : DE X W (.BoolOp .And (b :: rest) pos) tb) : DE X W (.BoolOp .And (a :: b :: rest) pos) (dAndV ta tb) := pe_weak (pe_andT ha hb) fun σ H Q ⟨ρ, st, μ, Qd, Z, hS, ht, hQ, hZ⟩ =>
  ⟨ρ, st, μ, _, Z, hS, ht, fun x st1 H1 μ1 v hx e1 s1 rv => by
    obtain ⟨k, hk, q⟩ := truD_ok s1 rv hx
    refine ⟨k, hk, ?_⟩
    cases k with
    | true => exact iteT ⟨ρ, st1, μ1, Qd, Z, hS.mono e1 s1, q, hQ.mono e1, hZ.mono e1⟩
    | false => exact iteF (hQ _ _ _ _ _ q e1 s1 rv), hZ⟩
theorem de_or (ha : DE X W a ta) (hb : DE X W (.BoolOp .Or (b :: rest) pos) tb) : DE X W (.BoolOp .Or (a :: b :: rest) pos) (dOrV ta tb) := pe_weak (pe_orT ha hb) fun σ H Q ⟨ρ, st, μ, Qd, Z, hS, ht, hQ, hZ⟩ =>
  ⟨ρ, st, μ, _, Z, hS, ht, fun x st1 H1 μ1 v hx e1 s1 rv => by
    obtain ⟨k, hk, q⟩ := truD_ok s1 rv hx
    refine ⟨k, hk, ?_⟩
    cases k with
    | true => exact iteT (hQ _ _ _ _ _ q e1 s1 rv)
    | false => exact iteF ⟨ρ, st1, μ1, Qd, Z, hS.mono e1 s1, q, hQ.mono e1, hZ.mono e1⟩, hZ⟩
theorem de_not (ha : DE X W a ta) : DE X W (.UnaryOp .Not a pos) (dNotV ta) := pe_weak (pe_notT ha) fun σ H Q ⟨ρ, st, μ, Qd, Z, hS, ht, hQ, hZ⟩ =>
  ⟨ρ, st, μ, _, Z, hS, ht, fun x st1 H1 μ1 v hx e1 s1 rv => by
    obtain ⟨k, hk, q⟩ := truD_ok s1 rv hx
    exact ⟨k, hk, hQ _ _ _ _ _ q e1 s1 rfl⟩, hZ⟩
def dNil : DTA := fun _ st Q _ => Q [] st
def dCons (ta : DTE) (tr : DTA) : DTA := fun ρ st Q Z => ta ρ st (fun x st1 => tr ρ st1 (fun xs st2 => Q (x :: xs) st2) Z) Z
theorem da_nil : DA X W [] dNil := pa_weak pa_nil fun σ H Q ⟨ρ, st, μ, Qd, Z, hS, ht, hQ, hZ⟩ => hQ [] st H μ [] ht (Ext.refl _ _) hS.s rfl
theorem da_cons (ha : DE X W a ta) (hr : DA X W es t) (hs : starEach (a :: es) X.env = (false, eval a X.env) :: starEach es X.env := by rfl) : DA X W (a :: es) (dCons ta t) :=
  pa_weak (pa_cons ha hr hs) fun σ H Q ⟨ρ, st, μ, Qd, Z, hS, ht, hQ, hZ⟩ => ⟨ρ, st, μ, _, Z, hS, ht, fun x st1 H1 μ1 v hx e1 s1 rv =>
    ⟨ρ, st1, μ1, _, Z, hS.mono e1 s1, hx, fun xs st2 H2 μ2 vs hxs e2 s2 rvs => hQ _ _ _ _ _ hxs (e1.trans e2) s2 ⟨v, vs, rfl, rv.mono e2, rvs⟩, hZ.mono e1⟩, hZ⟩
def dTup (t : DTA) : DTE := fun ρ st Q Z => t ρ st (fun xs st1 => xs.length ≤ sizeLine ∧ Q (.tup xs) st1) Z
def dLst (t : DTA) : DTE := fun ρ st Q Z => t ρ st (fun xs st1 => xs.length ≤ sizeLine ∧ Q (.loc st1.length) (st1 ++ [.lst xs])) Z
/-- a new tuple's address -/
theorem EOk.tup {K : PySem.W.Frag} {Qd : DK} {Q : VK} {H H1 : Hp} {μ μ1 : List Addr} {ds : List D} {vs : List V} {st1 : Sto} (hQ : EOk K Qd Q H μ) (e1 : Ext H H1 μ μ1) (s1 : SRep K st1 μ1 H1) (r : Reps K H1 μ1 ds vs) (q : Qd (.tup ds) st1) {p : Addr} (hp : H1 p = none) :
    Q (.ref p) (upd H1 p (.tup vs)) :=
  hQ _ _ _ _ _ q (e1.trans (Ext.laid hp)) (s1.laid hp) ⟨p, vs, rfl, .inl (.inl upd_same), r.mono (Ext.laid hp)⟩
theorem getElem?_end {α : Type} (l : List α) (x : α) : (l ++ [x])[l.length]? = some x := by simp
/-- a new list's address -/
theorem EOk.lst {K : PySem.W.Frag} {Qd : DK} {Q : VK} {H H1 : Hp} {μ μ1 : List Addr} {ds : List D} {vs : List V} {st1 : Sto} (hQ : EOk K Qd Q H μ) (e1 : Ext H H1 μ μ1) (s1 : SRep K st1 μ1 H1) (r : Reps K H1 μ1 ds vs) (q : Qd (.loc st1.length) (st1 ++ [.lst ds])) {p : Addr} (hp : H1 p = none) :
    Q (.ref p) (upd H1 p (.lst vs)) :=
  hQ _ _ _ _ _ q (e1.trans (Ext.push hp)) (s1.push hp ⟨vs, rfl, r.mono (Ext.push hp)⟩) ⟨p, rfl, by rw [s1.len]; exact getElem?_end _ _⟩
theorem de_tup {x1 : Nat} (h : DA X W es t) : DE X W (.Tuple es x1 pos) (dTup t) := pe_weak (pe_tup h) fun σ H Q ⟨ρ, st, μ, Qd, Z, hS, ht, hQ, hZ⟩ =>
  ⟨ρ, st, μ, _, Z, hS, ht, fun xs st1 H1 μ1 vs hx e1 s1 rv => ⟨by rw [← rv.length]; exact hx.1, fun p hp => hQ.tup e1 s1 rv hx.2 hp⟩, hZ⟩
theorem de_lst (h : DA X W es t) : DE X W (.List es pos) (dLst t) := pe_weak (pe_lst h) fun σ H Q ⟨ρ, st, μ, Qd, Z, hS, ht, hQ, hZ⟩ =>
  ⟨ρ, st, μ, _, Z, hS, ht, fun xs st1 H1 μ1 vs hx e1 s1 rv => ⟨by rw [← rv.length]; exact hx.1, fun p hp => hQ.lst e1 s1 rv hx.2 hp⟩, hZ⟩
abbrev DN := List D → Sto → DK → Prop
def DCl (K : PySem.W.Frag) (r : List V → Hp → VK → Prop) (dr : DN) : Prop :=
  ∀ {H : Hp} {μ : List Addr} {st : Sto} {ds : List D} {vs : List V} {Qd : DK} {Q : VK}, SRep K st μ H → Reps K H μ ds vs → dr ds st Qd → EOk K Qd Q H μ → r vs H Q
def dCB (dr : DN) (t : DTA) : DTE := fun ρ st Q Z => t ρ st (fun xs st1 => dr xs st1 Q) Z
variable {id T : String} {x : Str} {p : Pos} {r : List V → Hp → VK → Prop} {dr : DN}
theorem de_callB (hc : CallR X (.builtin id) r) (hr : DCl X.K r dr) (hg : Gl X x) (hm : X.mg x = none) (hv : bootBuiltins x = some (.builtin id)) (ha : DA X W (e :: es) t) (hn : x ≠ "__name__" := by decide) (hdb : (x == ("__debug__" : Str)) = false := by decide)
    (he : starEach (e :: es) X.env = (false, eval e X.env) :: starEach es X.env := by rfl) (hpl : (backTo pos (starEach es X.env)).any (·.1) = false := by rfl) : DE X W (.Call (.Name x p) (e :: es) [] pos) (dCB dr t) :=
  pe_weak (pe_callB hc hg hm hv ha hn hdb he hpl) fun σ H Q ⟨ρ, st, μ, Qd, Z, hS, ht, hQ, hZ⟩ => ⟨ρ, st, μ, _, Z, hS, ht, fun xs st1 H1 μ1 vs hx e1 s1 rv => hr s1 rv hx (hQ.mono e1), hZ⟩
theorem de_callTy (hc : CallR X (.type T) r) (hr : DCl X.K r dr) (hg : Gl X x) (hm : X.mg x = none) (hv : bootBuiltins x = some (.type T)) (ha : DA X W (e :: es) t) (hn : x ≠ "__name__" := by decide) (hdb : (x == ("__debug__" : Str)) = false := by decide)
    (he : starEach (e :: es) X.env = (false, eval e X.env) :: starEach es X.env := by rfl) (hpl : (backTo pos (starEach es X.env)).any (·.1) = false := by rfl) : DE X W (.Call (.Name x p) (e :: es) [] pos) (dCB dr t) :=
  pe_weak (pe_callTy hc hg hm hv ha hn hdb he hpl) fun σ H Q ⟨ρ, st, μ, Qd, Z, hS, ht, hQ, hZ⟩ => ⟨ρ, st, μ, _, Z, hS, ht, fun xs st1 H1 μ1 vs hx e1 s1 rv => hr s1 rv hx (hQ.mono e1), hZ⟩
/-- methods of built-in types -/
def tyD (st : Sto) (T : String) : D → Prop
  | .str _ => T = "str"
  | .fls _ => T = "list"
  | .loc n => match st[n]? with
    | some (.lst _) => T = "list"
    | some (.dK _) => T = "dict"
    | _ => False
  | _ => False
theorem tyD_ok {K : PySem.W.Frag} {st : Sto} {μ : List Addr} {H : Hp} {d : D} {v : V} (s : SRep K st μ H) (r : Rep K H μ d v) (h : tyD st T d) : tyV K T v H := by
  cases d with
  | str y => rw [show v = _ from r]; exact h
  | fls ds => obtain ⟨a, vs, rfl, hf, _⟩ := r; exact .inl ⟨h, vs, hf.sq⟩
  | loc n =>
    obtain ⟨a, rfl, hn⟩ := r
    simp only [tyD] at h
    split at h
    · rename_i ds e
      obtain ⟨a', o, e1, e2, vs, rfl, hr⟩ := s.at' _ _ e
      rw [hn] at e1; cases e1
      exact .inl ⟨h, vs, .inl (.inl e2)⟩
    · rename_i kvs e
      obtain ⟨a', o, e1, e2, gs, rfl, hk, hr⟩ := s.at' _ _ e
      rw [hn] at e1; cases e1
      exact .inr (.inr (.inl ⟨h, .inl ⟨gs, e2⟩⟩))
    · exact h.elim
  | _ => exact (show False from h).elim
abbrev DM := D → List D → Sto → DK → Prop
def DMt (K : PySem.W.Frag) (r : V → List V → Hp → VK → Prop) (dr : DM) : Prop :=
  ∀ {H : Hp} {μ : List Addr} {st : Sto} {x : D} {v : V} {ds : List D} {vs : List V} {Qd : DK} {Q : VK}, SRep K st μ H → Rep K H μ x v → Reps K H μ ds vs → dr x ds st Qd → EOk K Qd Q H μ → r v vs H Q
def dBM (T : String) (dr : DM) (to : DTE) (t : DTA) : DTE := fun ρ st Q Z => to ρ st (fun x st1 => tyD st1 T x ∧ t ρ st1 (fun xs st2 => dr x xs st2 Q) Z) Z
variable {o : Expr} {to : DTE} {name : Str} {apos cpos : Pos} {rm : V → List V → Hp → VK → Prop} {dm : DM}
theorem de_bm (pa : PlainAttrs T) (slot : Slot T name id) (hty : typeOf (.builtin id) = pure (.type "method_descriptor")) (hm : MtR X id rm) (hr : DMt X.K rm dm) (ho : DE X W o to) (ha : DA X W (e :: es) t)
    (hbase : attributeBase o name X.env (eval o X.env) = eval o X.env := by rfl)
    (hfew : ((backTo cpos (starEach (e :: es) X.env)).all (fun x => !x.1) && (backToKw cpos (keywordEach [] X.env)).all (fun x => x.1.isSome)
      && decide ((e :: es).length + ([] : List Keyword).length + (if ([] : List Keyword).isEmpty then 0 else 1) < 30)) = true := by rfl)
    (hline : (apos.endLine == cpos.line) = true := by rfl) (hs : starEach (e :: es) X.env = (false, eval e X.env) :: starEach es X.env := by rfl) (hplain : (backTo cpos (starEach es X.env)).any (·.1) = false := by rfl) :
    DE X W (.Call (.Attribute o name apos) (e :: es) [] cpos) (dBM T dm to t) := pe_weak (pe_bm pa slot hty hm ho ha hbase hfew hline hs hplain) fun σ H Q ⟨ρ, st, μ, Qd, Z, hS, ht, hQ, hZ⟩ =>
  ⟨ρ, st, μ, _, Z, hS, ht, fun x st1 H1 μ1 v hx e1 s1 rv => ⟨tyD_ok s1 rv hx.1, ρ, st1, μ1, _, Z, hS.mono e1 s1, hx.2, fun xs st2 H2 μ2 vs hxs e2 s2 rvs => hr s2 (rv.mono e2) rvs hxs (hQ.mono (e1.trans e2)), hZ.mono e1⟩, hZ⟩
theorem de_bm0 (pa : PlainAttrs T) (slot : Slot T name id) (hty : typeOf (.builtin id) = pure (.type "method_descriptor")) (hm : MtR X id rm) (hr : DMt X.K rm dm) (ho : DE X W o to)
    (hbase : attributeBase o name X.env (eval o X.env) = eval o X.env := by rfl) (hline : (apos.endLine == cpos.line) = true := by rfl) : DE X W (.Call (.Attribute o name apos) [] [] cpos) (dBM T dm to dNil) := pe_weak (pe_bm0 pa slot hty hm ho hbase hline) fun σ H Q ⟨ρ, st, μ, Qd, Z, hS, ht, hQ, hZ⟩ =>
  ⟨ρ, st, μ, _, Z, hS, ht, fun x st1 H1 μ1 v hx e1 s1 rv => ⟨tyD_ok s1 rv hx.1, hr (ds := []) s1 rv (show Reps X.K H1 μ1 [] [] from rfl) hx.2 (hQ.mono e1)⟩, hZ⟩
def dIx : D2 := fun x y st Q => match y with
  | .int i => match x with
    | .tup ds => ∃ d, atI ds i = some d ∧ Q d st
    | .fls ds => ∃ d, atI ds i = some d ∧ Q d st
    | .loc n => ∃ ds d, st[n]? = some (.lst ds) ∧ atI ds i = some d ∧ Q d st
    | .str z => ∃ c, z.length ≤ sizeLine ∧ atI z.cps.toList i = some c ∧ Q (.str ⟨#[c]⟩) st
    | _ => False
  | _ => False
theorem atI_rep {K : PySem.W.Frag} {H : Hp} {μ : List Addr} {ds : List D} {vs : List V} {i : Int} {d : D} (r : Reps K H μ ds vs) (h : atI ds i = some d) : ∃ v, atI vs i = some v ∧ Rep K H μ d v := by
  unfold atI at h ⊢
  rw [← r.length]
  cases e : ixN ds.length i with
  | none => rw [e] at h; cases h
  | some j =>
    rw [e] at h
    exact r.get h
theorem ix_ok {K : PySem.W.Frag} : DOp K (rIx K) dIx := by
  intro H μ st x y v u Qd Q s rx ry h hQ
  cases y with
  | int i =>
    rw [show u = _ from ry]
    cases x with
    | tup ds =>
      obtain ⟨a, vs, rfl, ht, hr⟩ := rx
      obtain ⟨d, hd, q⟩ := h
      obtain ⟨w, hw, rw'⟩ := atI_rep hr hd
      exact .inr (.inl ⟨a, vs, i, w, rfl, rfl, ht, hw, hQ _ _ _ _ _ q (Ext.refl _ _) s rw'⟩)
    | fls ds =>
      obtain ⟨a, vs, rfl, ht, hr⟩ := rx
      obtain ⟨d, hd, q⟩ := h
      obtain ⟨w, hw, rw'⟩ := atI_rep hr hd
      exact .inl ⟨a, vs, i, w, rfl, rfl, ht.sq, hw, hQ _ _ _ _ _ q (Ext.refl _ _) s rw'⟩
    | loc n =>
      obtain ⟨a, rfl, hn⟩ := rx
      obtain ⟨ds, d, hds, hd, q⟩ := h
      obtain ⟨a', o, e1, e2, vs, rfl, hr⟩ := s.at' _ _ hds
      rw [hn] at e1; cases e1
      obtain ⟨w, hw, rw'⟩ := atI_rep hr hd
      exact .inl ⟨a, vs, i, w, rfl, rfl, .inl (.inl e2), hw, hQ _ _ _ _ _ q (Ext.refl _ _) s rw'⟩
    | str z =>
      rw [show v = _ from rx]
      obtain ⟨c, hz, hc, q⟩ := h
      exact .inr (.inr ⟨z, i, c, rfl, rfl, hz, hc, hQ _ _ _ _ _ q (Ext.refl _ _) s rfl⟩)
    | _ => exact h.elim
  | _ => exact (show False from h).elim
theorem de_ix (ha : DE X W a ta) (hb : DE X W b tb) (hs : PlainIx b := by intro _ _; rfl) : DE X W (.Subscript a b pos) (dOp dIx ta tb) := pe_weak (pe_ix ix_seq ha hb hs) fun σ H Q h => lift2 ix_ok σ H Q h
abbrev DTO := Env' → Sto → (Option Int → Sto → Prop) → DZ → Prop
def liftO (K : PySem.W.Frag) (W : WX) (t : DTO) : TO := fun σ H Q => ∃ ρ st μ Qd Z, Stt K ρ st μ σ H ∧ t ρ st Qd Z ∧ (∀ o st' H' μ', Qd o st' → Ext H H' μ μ' → SRep K st' μ' H' → Q o H') ∧ ZOk K W Z H μ
abbrev DO (X : Cx) (W : WX) (e : Option Expr) (t : DTO) : Prop := PO X e (liftO X.K W t)
theorem po_weak {e : Option Expr} {t u : TO} (h : PO X e t) (w : ∀ σ H Q, u σ H Q → t σ H Q) : PO X e u := ⟨fun pins s σ H Q I q => h.run pins s σ H Q I (w σ H Q q)⟩
def dNoPart : DTO := fun _ st Q _ => Q none st
def dPart (t : DTE) : DTO := fun ρ st Q Z => t ρ st (fun x st1 => match x with | .int i => Q (some i) st1 | _ => False) Z
theorem do_none : DO X W none dNoPart := po_weak po_none fun σ H Q ⟨ρ, st, μ, Qd, Z, hS, ht, hQ, hZ⟩ => hQ none st H μ ht (Ext.refl _ _) hS.s
theorem do_some (ha : DE X W a ta) : DO X W (some a) (dPart ta) := po_weak (po_some ha) fun σ H Q ⟨ρ, st, μ, Qd, Z, hS, ht, hQ, hZ⟩ =>
  ⟨ρ, st, μ, _, Z, hS, ht, fun x st1 H1 μ1 v hx e1 s1 rv => by
    cases x with
    | int i => exact ⟨i, rv, hQ _ _ _ _ hx e1 s1⟩
    | _ => exact hx.elim, hZ⟩
def cutL {α : Type} (xs : List α) (lo hi : Option Int) : List α := (xs.drop (HT.sIx xs.length 0 lo)).take (HT.sIx xs.length xs.length hi - HT.sIx xs.length 0 lo)
theorem cutL_rep {K : PySem.W.Frag} {H : Hp} {μ : List Addr} {ds : List D} {vs : List V} (lo hi : Option Int) (r : Reps K H μ ds vs) : Reps K H μ (cutL ds lo hi) (cutV vs lo hi) := by
  unfold cutL cutV
  rw [← r.length]
  exact (r.drop _).take _
def dSlV : D → Option Int → Option Int → Sto → DK → Prop := fun x lo hi st Q => match x with
  | .tup ds => Q (.tup (cutL ds lo hi)) st
  | .fls ds => Q (.loc st.length) (st ++ [.lst (cutL ds lo hi)])
  | .loc n => ∃ ds, st[n]? = some (.lst ds) ∧ Q (.loc st.length) (st ++ [.lst (cutL ds lo hi)])
  | .str z => z.length ≤ sizeLine ∧ Q (.str (cutS z lo hi)) st
  | _ => False
def dSl (te : DTE) (tl th : DTO) : DTE := fun ρ st Q Z => te ρ st (fun x st1 => tl ρ st1 (fun l st2 => th ρ st2 (fun u st3 => dSlV x l u st3 Q) Z) Z) Z
theorem HT.whole {α : Type} {xs : List α} {lo hi : Option Int} (h : HT.sIx xs.length 0 lo = 0 ∧ HT.sIx xs.length xs.length hi = xs.length) : cutL xs lo hi = xs := by
  unfold cutL
  rw [h.1, h.2]
  simp
theorem de_slice {lo hi : Option Expr} {tl th : DTO} {p2 : Pos} (ha : DE X W a ta) (hl : DO X W lo tl) (hh : DO X W hi th) : DE X W (.Subscript a (.Slice lo hi none p2) pos) (dSl ta tl th) :=
  pe_weak (pe_slice (sl_list.or (sl_tupA.or sl_str)) ha hl hh) fun σ H Q ⟨ρ, st, μ, Qd, Z, hS, ht, hQ, hZ⟩ =>
  ⟨ρ, st, μ, _, Z, hS, ht, fun x st1 H1 μ1 v hx e1 s1 rv => ⟨ρ, st1, μ1, _, Z, hS.mono e1 s1, hx, fun l st2 H2 μ2 hy e2 s2 => ⟨ρ, st2, μ2, _, Z, hS.mono (e1.trans e2) s2, hy, fun u st3 H3 μ3 hz e3 s3 => by
    have rv3 := rv.mono (e2.trans e3)
    have e := (e1.trans e2).trans e3
    cases x with
    | tup ds =>
      obtain ⟨a, vs, rfl, ht, hr⟩ := rv3
      refine .inr (.inl ⟨a, vs, rfl, ht, fun h => ?_, fun _ p hp => ?_⟩)
      · have hz' : Qd (.tup (cutL ds l u)) st3 := hz
        rw [HT.whole (by rw [hr.length]; exact h)] at hz'
        exact hQ _ _ _ _ _ hz' e s3 ⟨a, vs, rfl, ht, hr⟩
      · exact hQ.tup e s3 (cutL_rep l u hr) hz hp
    | fls ds =>
      obtain ⟨a, vs, rfl, ht, hr⟩ := rv3
      exact .inl ⟨a, vs, rfl, ht.sq, fun p hp => hQ.lst e s3 (cutL_rep l u hr) hz hp⟩
    | loc n =>
      obtain ⟨a, rfl, hn⟩ := rv3
      obtain ⟨ds, hds, hz⟩ := hz
      obtain ⟨a', o, q1, q2, vs, rfl, hr⟩ := s3.at' _ _ hds
      rw [hn] at q1; cases q1
      exact .inl ⟨a, vs, rfl, .inl (.inl q2), fun p hp => hQ.lst e s3 (cutL_rep l u hr) hz hp⟩
    | str z =>
      rw [show v = _ from rv3]
      exact .inr (.inr ⟨z, rfl, hz.1, hQ _ _ _ _ _ hz.2 e s3 rfl⟩)
    | _ => exact hz.elim, hZ.mono (e1.trans e2)⟩, hZ.mono e1⟩, hZ⟩
end
end DL
namespace DL
open PySem L2 PySem.Spec
open PyProof.Rows hiding St
variable [TC : TabCtx]
section
variable {X : Cx} {W : WX} {a b c e : Expr} {ta tb tc te : DTE} {pos : Pos} {s : Stmt} {rest : List Stmt} {t u : DTS}
def dNext : DTS := fun E ρ st => E.nx ρ st
def dSeq (t u : DTS) : DTS := fun E ρ st => t { E with nx := u E } ρ st
theorem SOk.with_nx {K : PySem.W.Frag} {DD : DEnds} {D : Ends} {H : Hp} {μ : List Addr} {qd : Env' → Sto → Prop} {q : St → Hp → Prop} (z : SOk K W DD D H μ) (n : NOk K qd q H μ) : SOk K W { DD with nx := qd } { D with nx := q } H μ := ⟨n, z.rt, z.bk, z.ct, z.xs⟩
theorem dss_nil : DSs X W [] dNext := pss_weak pss_nil fun D σ H ⟨ρ, st, μ, DD, hS, ht, hO⟩ => hO.nx _ _ _ _ _ ht (Ext.refl _ _) hS
theorem dss_cons (h1 : DS X W s t) (h2 : DSs X W rest u) : DSs X W (s :: rest) (dSeq t u) := pss_weak (pss_cons h1 h2) fun D σ H ⟨ρ, st, μ, DD, hS, ht, hO⟩ =>
  ⟨ρ, st, μ, _, hS, ht, hO.with_nx fun ρ' st' σ' H' μ' q e s' => ⟨ρ', st', μ', DD, s', q, hO.mono e⟩⟩
theorem dss_one (h1 : DS X W s t) : DSs X W [s] t := pss_one h1
def dDrop (te : DTE) : DTS := fun E ρ st => te ρ st (fun _ st1 => E.nx ρ st1) E.xs
theorem ds_expr (he : DE X W e te) (hs : swapsWith e none pos.line X.env = pure false := by rfl) : DS X W (.Expr e pos) (dDrop te) := ps_weak (ps_expr he hs) fun D σ H ⟨ρ, st, μ, DD, hS, ht, hO⟩ =>
  ⟨ρ, st, μ, _, _, hS, ht, fun d st1 H1 μ1 v q e1 s1 _ => hO.nx _ _ _ _ _ q e1 (hS.mono e1 s1), hO.xs⟩
def dRet (te : DTE) : DTS := fun E ρ st => te ρ st E.rt E.xs
theorem ds_ret (he : DE X W e te) : DS X W (.Return (some e) pos) (dRet te) := ps_weak (ps_ret he) fun D σ H ⟨ρ, st, μ, DD, hS, ht, hO⟩ => ⟨ρ, st, μ, _, _, hS, ht, hO.rt, hO.xs⟩
def dIfS (c : DTT) (t u : DTS) : DTS := fun E ρ st => c ρ st (fun b st1 => if b = true then t E ρ st1 else u E ρ st1) E.xs
theorem ds_if {tc : DTT} {x y : List Stmt} (hc : DT X W c tc) (ha : DSs X W x t) (hb : DSs X W y u) : DS X W (.If c x y pos) (dIfS tc t u) := ps_weak (ps_if hc ha hb) fun D σ H ⟨ρ, st, μ, DD, hS, ht, hO⟩ =>
  ⟨ρ, st, μ, _, _, hS, ht, fun k st1 H1 μ1 hx e1 s1 => by
    cases k with
    | true => exact iteT ⟨ρ, st1, μ1, DD, hS.mono e1 s1, hx, hO.mono e1⟩
    | false => exact iteF ⟨ρ, st1, μ1, DD, hS.mono e1 s1, hx, hO.mono e1⟩, hO.xs⟩
def gN (i : Nat) : DTG := fun d ρ st Q => Q (ρ.set i (some d)) st
theorem wipe_set (σ : St) (i : Nat) (v : Option V) : ∀ vs : List Nat, i ∈ vs → wipe (σ.set i v) vs = wipe σ vs
  | x :: vs, h => by
    unfold wipe
    rcases List.mem_cons.mp h with h | h
    · subst h
      by_cases hm : i ∈ vs
      · rw [wipe_set σ i v vs hm]
      · have : ∀ (vs : List Nat) (σ : St), i ∉ vs → wipe (σ.set i v) vs = (wipe σ vs).set i v := by
          intro vs
          induction vs with
          | nil => intro σ _; rfl
          | cons y ys ih =>
            intro σ hn
            unfold wipe
            rw [ih σ (fun z => hn (List.mem_cons_of_mem _ z)), List.set_comm]
            intro e
            exact hn (e ▸ List.mem_cons_self)
        rw [this vs σ hm, List.set_set]
    · rw [wipe_set σ i v vs h]
theorem dg_name {i : Nat} {x : Str} (hN : X.N.Nodup) (hi : X.N[i]? = some x) (hx : Loc X.env.scope x) (hf : X.fn x = true ∨ X.env.scope.names.lookup x = some .local := by first | exact .inl rfl | exact .inr rfl | assumption) : DG X [i] (.Name x pos) (gN i) :=
  pg_weak (pg_name hN hi hx hf) fun v σ H Q ⟨d, ρ, st, μ, Qd, hS, rv, ht, hk⟩ => hk _ _ _ _ _ ht (Ext.refl _ _) ⟨hS.e.set i rv, hS.s⟩ fun vs hv => wipe_set _ _ _ _ (hv i List.mem_cons_self)
abbrev DTGs := List D → Env' → Sto → (Env' → Sto → Prop) → Prop
def liftGs (K : PySem.W.Frag) (ws : List Nat) (t : DTGs) : TGs := fun vs σ H Q => ∃ ds ρ st μ Qd, Stt K ρ st μ σ H ∧ Reps K H μ ds vs ∧ t ds ρ st Qd ∧
  ∀ ρ' st' σ' H' μ', Qd ρ' st' → Ext H H' μ μ' → Stt K ρ' st' μ' σ' H' → (∀ vs, (∀ w ∈ ws, w ∈ vs) → wipe σ' vs = wipe σ vs) → Q σ' H'
theorem pgs_weak {es : List Expr} {t u : TGs} (h : PGs X es t) (w : ∀ v σ H Q, u v σ H Q → t v σ H Q) : PGs X es u := ⟨fun pins s σ H v u Q I r q => h.run pins s σ H v u Q I r (w v σ H Q q)⟩
def gNil' : DTGs := fun ds ρ st Q => match ds with | [] => Q ρ st | _ => False
def gCons' (t : DTG) (u : DTGs) : DTGs := fun ds ρ st Q => match ds with | d :: r => t d ρ st fun ρ' st' => u r ρ' st' Q | _ => False
theorem dgs_nil : PGs X [] (liftGs X.K [] gNil') := pgs_weak pgs_nil fun vs σ H Q ⟨ds, ρ, st, μ, Qd, hS, rv, ht, hk⟩ => by
  cases ds with
  | nil => exact ⟨rv, hk _ _ _ _ _ ht (Ext.refl _ _) hS fun _ _ => rfl⟩
  | cons d r => exact ht.elim
theorem dgs_cons {es : List Expr} {w1 w2 : List Nat} {t : DTG} {u : DTGs} (h1 : DG X w1 e t) (h2 : PGs X es (liftGs X.K w2 u)) (hs : (assignEach (e :: es) X.env).map (·.2) = assign e X.env :: (assignEach es X.env).map (·.2) := by rfl) :
    PGs X (e :: es) (liftGs X.K (w1 ++ w2) (gCons' t u)) := pgs_weak (pgs_cons h1 h2 hs) fun vs σ H Q ⟨ds, ρ, st, μ, Qd, hS, rv, ht, hk⟩ => by
  cases ds with
  | nil => exact ht.elim
  | cons d r =>
    obtain ⟨v, vr, rfl, r1, r2⟩ := rv
    refine ⟨v, vr, rfl, d, ρ, st, μ, _, hS, r1, ht, fun ρ' st' σ' H' μ' q e1 s1 hw => ⟨r, ρ', st', μ', _, s1, r2.mono e1, q, fun ρ2 st2 σ2 H2 μ2 q2 e2 s2 hw2 => ?_⟩⟩
    exact hk _ _ _ _ _ q2 (e1.trans e2) s2 fun vs hv => (hw2 vs fun w m => hv w (List.mem_append_right _ m)).trans (hw vs fun w m => hv w (List.mem_append_left _ m))
def gTup' (n : Nat) (t : DTGs) : DTG := fun d ρ st Q => match d with | .tup ds => ds.length = n ∧ t ds ρ st Q | _ => False
theorem dg_tup {es : List Expr} {k n : Nat} {ws : List Nat} {t : DTGs} (hc : X.calm = true) (h : PGs X es (liftGs X.K ws t))
    (hn : (assignEach es X.env).length = n := by rfl) (hst : (assignEach es X.env).findIdx? (·.1) = none := by rfl) : DG X ws (.Tuple es k pos) (gTup' n t) :=
  pg_weak (pg_tup hc h hn hst) fun v σ H Q ⟨d, ρ, st, μ, Qd, hS, rv, ht, hk⟩ => by
    cases d with
    | tup ds =>
      obtain ⟨a, vs, rfl, hs, hr⟩ := rv
      exact ⟨a, vs, rfl, hs, by rw [← hr.length]; exact ht.1, ds, ρ, st, μ, Qd, hS, hr, ht.2, hk⟩
    | _ => exact ht.elim
/-- target = value -/
def dAsg (te : DTE) (g : DTG) : DTS := fun E ρ st => te ρ st (fun x st1 => g x ρ st1 E.nx) E.xs
theorem ds_asg {tg : Expr} {g : DTG} {ws : List Nat} (he : DE X W e te) (hg : DG X ws tg g) (hs : swapsWithSole [tg] e pos.line X.env = pure false := by rfl) (hw : swappedStores [tg] e X.env = pure none := by rfl)
    (h1 : (assignEach [tg] X.env).map (·.2) = [assign tg X.env] := by rfl) : DS X W (.Assign [tg] e pos) (dAsg te g) := ps_weak (ps_asg he hg hs hw h1) fun D σ H ⟨ρ, st, μ, DD, hS, ht, hO⟩ =>
  ⟨ρ, st, μ, _, _, hS, ht, fun x st1 H1 μ1 v hx e1 s1 rv => ⟨x, ρ, st1, μ1, _, hS.mono e1 s1, rv, hx, fun ρ' st' σ' H' μ' q e2 s2 _ => hO.nx _ _ _ _ _ q (e1.trans e2) s2⟩, hO.xs⟩
theorem ds_set {i : Nat} {x : Str} {pos' : Pos} (hN : X.N.Nodup) (hi : X.N[i]? = some x) (hx : Loc X.env.scope x) (he : DE X W e te) (hs : swapsWith e (some (.Name x pos')) pos.line X.env = pure false := by rfl) (hf : X.fn x = true ∨ X.env.scope.names.lookup x = some .local := by first | exact .inl rfl | exact .inr rfl | assumption) :
    DS X W (.Assign [.Name x pos'] e pos) (dAsg te (gN i)) := ps_weak (ps_set hN hi hx he hs hf) fun D σ H ⟨ρ, st, μ, DD, hS, ht, hO⟩ =>
  ⟨ρ, st, μ, _, _, hS, ht, fun x st1 H1 μ1 v hx e1 s1 rv => hO.nx _ _ _ _ _ hx e1 ⟨(hS.e.mono e1).set i rv, s1⟩, hO.xs⟩
/-- a, b = x, y by the right sides' values -/
def dPar (i j : Nat) (ta : DTA) : DTS := fun E ρ st => ta ρ st (fun vs st1 => match vs with | [v, w] => E.nx ((ρ.set i (some v)).set j (some w)) st1 | _ => False) E.xs
def dAug (i : Nat) (te : DTE) (dr : D2) : DTS := fun E ρ st => match ρ[i]? with
  | some (some x) => te ρ st (fun y st1 => dr x y st1 fun z st2 => E.nx (ρ.set i (some z)) st2) E.xs
  | _ => False
theorem ds_aug {i : Nat} {x : Str} {op : Operator} {r : TIp} {dr : D2} {pos' : Pos} (hN : X.N.Nodup) (hi : X.N[i]? = some x) (hx : Loc X.env.scope x) (he : DE X W e te) (ho : PIp X op r) (hr : DOp X.K r dr) (hf : X.fn x = true ∨ X.env.scope.names.lookup x = some .local := by first | exact .inl rfl | exact .inr rfl | assumption) :
    DS X W (.AugAssign (.Name x pos') op e pos) (dAug i te dr) := ps_weak (ps_aug hN hi hx he ho hf) fun D σ H ⟨ρ, st, μ, DD, hS, ht, hO⟩ => by
  unfold dAug at ht
  split at ht
  · rename_i d ed
    obtain ⟨v, ev, rv⟩ := hS.e.at' i d ed
    exact ⟨v, ev, ρ, st, μ, _, _, hS, ht, fun y st1 H1 μ1 u hy e1 s1 ru => hr s1 (rv.mono e1) ru hy fun z st2 H2 μ2 w hz e2 s2 rw' => hO.nx _ _ _ _ _ hz (e1.trans e2) ⟨(hS.e.mono (e1.trans e2)).set i rw', s2⟩, hO.xs⟩
  · exact ht.elim
/-- o[i] = v -/
abbrev D3 := D → D → D → Sto → (Sto → Prop) → Prop
def DSet (K : PySem.W.Frag) (r : TSet) (dr : D3) : Prop :=
  ∀ {H : Hp} {μ : List Addr} {st : Sto} {o i x : D} {vo vi v : V} {Qd : Sto → Prop} {Q : Hp → Prop}, SRep K st μ H → Rep K H μ o vo → Rep K H μ i vi → Rep K H μ x v → dr o i x st Qd →
    (∀ st' H' μ', Qd st' → Ext H H' μ μ' → SRep K st' μ' H' → Q H') → r vo vi v H Q
def gSub' (to ti : DTE) (dr : D3) : DTG := fun d ρ st Q => to ρ st (fun o st1 => ti ρ st1 (fun i st2 => dr o i d st2 fun st3 => Q ρ st3) fun _ _ _ => False) fun _ _ _ => False
def W0 : WX := fun _ _ _ _ => False
theorem ZOk.no {K : PySem.W.Frag} {W : WX} {H : Hp} {μ : List Addr} : ZOk K W (fun _ _ _ => False) H μ := fun _ _ _ _ _ _ _ _ h => h.elim
theorem dg_sub {o i : Expr} {to ti : DTE} {r : TSet} {dr : D3} (ho : DE X W0 o to) (hi : DE X W0 i ti) (hs : PSet X r) (hr : DSet X.K r dr)
    (ha : ∀ v, assign (.Subscript o i pos) X.env v = (do
      let ov ← holding [v] (eval o X.env)
      let iv ← holding [v, ov] (eval i X.env)
      standAt pos
      holding [v, ov, iv] (setItem ov iv v)
      release [v, ov, iv] []) := by intro _; rfl) : DG X [] (.Subscript o i pos) (gSub' to ti dr) := pg_weak (pg_sub ho hi hs ha) fun v σ H Q ⟨d, ρ, st, μ, Qd, hS, rv, ht, hk⟩ =>
  ⟨ρ, st, μ, _, _, hS, ht, fun x st1 H1 μ1 vo hx e1 s1 ro => ⟨ρ, st1, μ1, _, _, hS.mono e1 s1, hx, fun y st2 H2 μ2 vi hy e2 s2 ri =>
    hr s2 (ro.mono e2) ri (rv.mono (e1.trans e2)) hy fun st3 H3 μ3 q e3 s3 => hk _ _ _ _ _ q ((e1.trans e2).trans e3) ⟨hS.e.mono ((e1.trans e2).trans e3), s3⟩ fun _ _ => rfl, ZOk.no⟩, ZOk.no⟩
def dSetL : D3 := fun o i x st Q => match o, i with
  | .loc n, .int k => ∃ ds j, st[n]? = some (.lst ds) ∧ ixN ds.length k = some j ∧ Q (st.set n (.lst (ds.set j x)))
  | _, _ => False
theorem setL_ok {K : PySem.W.Frag} : DSet K rSetL dSetL := by
  intro H μ st o i x vo vi v Qd Q s ro ri rv h hQ
  cases o <;> try exact (show False from h).elim
  cases i <;> try exact (show False from h).elim
  rename_i n k
  obtain ⟨a, rfl, hn⟩ := ro
  obtain ⟨ds, j, hds, hj, q⟩ := h
  obtain ⟨a', o, e1, e2, vs, rfl, hr⟩ := s.at' _ _ hds
  rw [hn] at e1; cases e1
  have w := s.write (o' := .lst (vs.set j v)) (b := .lst (ds.set j x)) hn e2 ⟨_, rfl, hr.set j rv⟩
  refine ⟨a, vs, k, j, rfl, ri, e2, by rw [← hr.length]; exact hj, hQ _ _ _ q w.1 w.2⟩
end
end DL
namespace DL
open PySem L2 PySem.Spec
open PyProof.Rows hiding St
variable [TC : TabCtx]
section
variable {X : Cx} {W : WX} {a b c e tg : Expr} {ta tb tc te : DTE} {pos : Pos} {s : Stmt} {rest : List Stmt} {t u : DTS}
structure ItRep (K : PySem.W.Frag) (J : It) (items : List D) (G : Sto → Prop) (H0 : Hp) (μ0 : List Addr) : Prop where
  go : ∀ i H μ st d, Ext H0 H μ0 μ → SRep K st μ H → G st → items[i]? = some d → J.go i H ∧ ∀ x H', J.yld i H x H' → Ext H H' μ μ ∧ SRep K st μ H' ∧ Rep K H' μ d x ∧ (∀ b o, H b = some o → H' b = some o)
  stop : ∀ H μ st, Ext H0 H μ0 μ → SRep K st μ H → G st → J.stop items.length H
abbrev DTI := Env' → Sto → (List D → (Sto → Prop) → Sto → Prop) → DZ → Prop
def liftI (K : PySem.W.Frag) (W : WX) (t : DTI) : TI := fun σ H R => ∃ ρ st μ Qd Z, Stt K ρ st μ σ H ∧ t ρ st Qd Z ∧ ZOk K W Z H μ ∧
  ∀ items G st' H' μ' J, Qd items G st' → Ext H H' μ μ' → SRep K st' μ' H' → ItRep K J items G H' μ' → R J H'
abbrev DI (X : Cx) (W : WX) (tg e : Expr) (t : DTI) : Prop := PI X tg e (liftI X.K W t)
theorem pi_weak {e : Expr} {t u : TI} (h : PI X tg e t) (w : ∀ σ H R, u σ H R → t σ H R) : PI X tg e u := ⟨fun pins s σ H R I q => h.run pins s σ H R I (w σ H R q)⟩
theorem ItRep.tup {K : PySem.W.Frag} {H : Hp} {μ : List Addr} {a : Addr} {ds : List D} {vs : List V} (hs : SqT K H a vs) (hr : Reps K H μ ds vs) : ItRep K (Itt K a) ds (fun _ => True) H μ where
  go i H1 μ1 st d x s _ e := by
    obtain ⟨v, hv, rv⟩ := (hr.mono x).get e
    refine ⟨⟨vs, v, x.sqT hs, hv⟩, fun y H' hy => ?_⟩
    obtain ⟨rfl, hy⟩ := hy
    have := hy vs (x.sqT hs)
    rw [hv] at this; cases this
    exact ⟨Ext.refl _ _, s, rv, fun _ _ h => h⟩
  stop H1 μ1 st x s _ := ⟨vs, x.sqT hs, by rw [hr.length]; exact Nat.le_refl _⟩
theorem ItRep.fls {K : PySem.W.Frag} {H : Hp} {μ : List Addr} {a : Addr} {ds : List D} {vs : List V} (hs : FzL K H a vs) (hr : Reps K H μ ds vs) : ItRep K (Itl K a) ds (fun _ => True) H μ where
  go i H1 μ1 st d x s _ e := by
    obtain ⟨v, hv, rv⟩ := (hr.mono x).get e
    refine ⟨⟨vs, v, (x.fzL hs).sq, hv⟩, fun y H' hy => ?_⟩
    obtain ⟨rfl, hy⟩ := hy
    have := hy vs (x.fzL hs).sq
    rw [hv] at this; cases this
    exact ⟨Ext.refl _ _, s, rv, fun _ _ h => h⟩
  stop H1 μ1 st x s _ := ⟨vs, (x.fzL hs).sq, by rw [hr.length]; exact Nat.le_refl _⟩
theorem ItRep.lst {K : PySem.W.Frag} {H : Hp} {μ : List Addr} {a : Addr} {n : Nat} {ds : List D} (hn : μ[n]? = some a) : ItRep K (Itl K a) ds (fun st => st[n]? = some (.lst ds)) H μ where
  go i H1 μ1 st d x s g e := by
    obtain ⟨a', o, e1, e2, vs, rfl, hr⟩ := s.at' _ _ g
    rw [x.pre n a hn] at e1; cases e1
    obtain ⟨v, hv, rv⟩ := hr.get e
    refine ⟨⟨vs, v, .inl (.inl e2), hv⟩, fun y H' hy => ?_⟩
    obtain ⟨rfl, hy⟩ := hy
    have := hy vs (.inl (.inl e2))
    rw [hv] at this; cases this
    exact ⟨Ext.refl _ _, s, rv, fun _ _ h => h⟩
  stop H1 μ1 st x s g := by
    obtain ⟨a', o, e1, e2, vs, rfl, hr⟩ := s.at' _ _ g
    rw [x.pre n a hn] at e1; cases e1
    exact ⟨vs, .inl (.inl e2), by rw [hr.length]; exact Nat.le_refl _⟩
def strItems (z : Str) : List D := z.cps.toList.map fun c => .str ⟨#[c]⟩
theorem ItRep.str {K : PySem.W.Frag} {H : Hp} {μ : List Addr} {z : Str} : ItRep K (Its z) (strItems z) (fun _ => True) H μ where
  go i H1 μ1 st d x s _ e := by
    have hi : i < z.cps.size := by
      have := (List.getElem?_eq_some_iff.mp e).1
      simpa [strItems] using this
    refine ⟨hi, fun y H' hy => ?_⟩
    obtain ⟨rfl, c, hc, rfl⟩ := hy
    refine ⟨Ext.refl _ _, s, ?_, fun _ _ h => h⟩
    have : z.cps.toList[i]? = some c := by rw [Array.getElem?_toList]; exact hc
    simp [strItems, this] at e
    subst e
    rfl
  stop H1 μ1 st x s _ := by
    show z.cps.size ≤ (strItems z).length
    simp [strItems]
/-- a list, a tuple, a text: by what it is -/
def iSeq (K : PySem.W.Frag) (tl : TE) : TI := fun σ H R => tl σ H fun x H1 => (∃ a, x = .ref a ∧ (∃ xs, SqL K H1 a xs) ∧ R (Itl K a) H1) ∨ (∃ a, x = .ref a ∧ (∃ xs, SqT K H1 a xs) ∧ R (Itt K a) H1) ∨ ∃ z, x = .str z ∧ R (Its z) H1
theorem pi_seq {l : Expr} {tl : TE} (hl : PE X l tl) : PI X tg l (iSeq X.K tl) := by
  refine ⟨fun pins s σ H R I h => ?_⟩
  refine thn (hl.run pins s σ H _ I h) fun v s1 ⟨x, H1, I1, r1, q1⟩ => ?_
  rcases q1 with ⟨a, rfl, ⟨xs, hq⟩, q⟩ | ⟨a, rfl, ⟨xs, hq⟩, q⟩ | ⟨z, rfl, q⟩
  · cases r1
    obtain ⟨its, rv, p, hz⟩ := I1.list hq
    exact wpAny_pyIter_list p.isList (pi_one (tk := s1.toks) I1 _ (turn_list a _) ⟨_, Heap.get?_push_size _ rfl, rfl, rfl⟩ q)
  · cases r1
    obtain ⟨its, rv, p, hz⟩ := I1.tuple hq
    exact wpAny_pyIter_tuple (show s1.heap.IsTuple a its.toArray from p) (pi_one (tk := s1.toks) I1 _ (turn_tuple a _) ⟨_, Heap.get?_push_size _ rfl, rfl, rfl⟩ q)
  · obtain ⟨t, rfl⟩ := r1
    cases ha : z.cps.all (· < 128)
    · exact wpAny_pyIter_wide ha (pi_one (tk := s1.toks) I1 _ (turn_str _ z t "str_iterator" (.inr rfl)) ⟨_, Heap.get?_push_size _ rfl, rfl, rfl⟩ q)
    · exact wpAny_pyIter_ascii ha (pi_one (tk := s1.toks) I1 _ (turn_str _ z t "str_ascii_iterator" (.inl rfl)) ⟨_, Heap.get?_push_size _ rfl, rfl, rfl⟩ q)
/-- what is walked of a value -/
def walkD (st : Sto) : D → (List D → (Sto → Prop) → Prop) → Prop
  | .tup ds, Q => Q ds fun _ => True
  | .fls ds, Q => Q ds fun _ => True
  | .loc n, Q => ∃ ds, st[n]? = some (.lst ds) ∧ Q ds fun st => st[n]? = some (.lst ds)
  | .str z, Q => Q (strItems z) fun _ => True
  | _, _ => False
def iD (te : DTE) : DTI := fun ρ st Q Z => te ρ st (fun x st1 => walkD st1 x fun items G => Q items G st1) Z
theorem di_seq (h : DE X W e te) : DI X W tg e (iD te) := pi_weak (pi_seq h) fun σ H R ⟨ρ, st, μ, Qd, Z, hS, ht, hZ, hk⟩ =>
  ⟨ρ, st, μ, _, Z, hS, ht, fun x st1 H1 μ1 v hx e1 s1 rv => by
    cases x with
    | tup ds =>
      obtain ⟨a, vs, rfl, hs, hr⟩ := rv
      exact .inr (.inl ⟨a, rfl, ⟨vs, hs⟩, hk _ _ _ _ _ _ hx e1 s1 (ItRep.tup hs hr)⟩)
    | fls ds =>
      obtain ⟨a, vs, rfl, hs, hr⟩ := rv
      exact .inl ⟨a, rfl, ⟨vs, hs.sq⟩, hk _ _ _ _ _ _ hx e1 s1 (ItRep.fls hs hr)⟩
    | loc n =>
      obtain ⟨a, rfl, hn⟩ := rv
      obtain ⟨ds, hds, q⟩ := hx
      obtain ⟨a', o, q1, q2, vs, rfl, hr⟩ := s1.at' _ _ hds
      rw [hn] at q1; cases q1
      exact .inl ⟨a, rfl, ⟨vs, .inl (.inl q2)⟩, hk _ _ _ _ _ _ q e1 s1 (ItRep.lst hn)⟩
    | str z =>
      rw [show v = _ from rv]
      exact .inr (.inr ⟨z, rfl, hk _ _ _ _ _ _ hx e1 s1 ItRep.str⟩)
    | _ => exact hx.elim, hZ⟩
/-- range -/
def rngItems (lo : Int) (n : Nat) : List D := (List.range n).map fun (i : Nat) => .int (lo + (i : Int))
theorem ItRep.range {K : PySem.W.Frag} {H : Hp} {μ : List Addr} {lo : Int} {n : Nat} : ItRep K (Itr lo n) (rngItems lo n) (fun _ => True) H μ where
  go i H1 μ1 st d x s _ e := by
    have hi : i < n := by
      have := (List.getElem?_eq_some_iff.mp e).1
      simpa [rngItems] using this
    refine ⟨hi, fun y H' hy => ?_⟩
    obtain ⟨rfl, rfl⟩ := hy
    refine ⟨Ext.refl _ _, s, ?_, fun _ _ h => h⟩
    simp [rngItems, hi] at e
    subst e
    rfl
  stop H1 μ1 st x s _ := by
    show n ≤ (rngItems lo n).length
    simp [rngItems]
def iR1 (ta : DTA) : DTI := fun ρ st Q Z => ta ρ st (fun xs st1 => match xs with | [.int j] => -(2 ^ 62) ≤ j ∧ j < 2 ^ 62 ∧ Q (rngItems 0 j.toNat) (fun _ => True) st1 | _ => False) Z
def iR2 (ta : DTA) : DTI := fun ρ st Q Z => ta ρ st (fun xs st1 => match xs with | [.int i, .int j] => (-(2 ^ 62) ≤ i ∧ i < 2 ^ 62 ∧ -(2 ^ 62) ≤ j ∧ j < 2 ^ 62) ∧ Q (rngItems i (j - i).toNat) (fun _ => True) st1 | _ => False) Z
theorem Reps.ints1 {K : PySem.W.Frag} {H : Hp} {μ : List Addr} {i : Int} {vs : List V} (h : Reps K H μ [.int i] vs) : vs = [.int i] := by
  obtain ⟨v, r, rfl, r1, r2⟩ := h
  rw [show v = _ from r1, show r = _ from r2]
theorem di_range1 {x : Expr} {tx : DTA} {p : Pos} (hg : Gl X "range") (hm : X.mg "range" = none) (ha : DA X W [x] tx) (hs : starEach [x] X.env = [(false, eval x X.env)] := by rfl) : DI X W tg (.Call (.Name "range" p) [x] [] pos) (iR1 tx) :=
  pi_weak (pi_range1 hg hm ha hs) fun σ H R ⟨ρ, st, μ, Qd, Z, hS, ht, hZ, hk⟩ => ⟨ρ, st, μ, _, Z, hS, ht, fun ds st1 H1 μ1 vs hx e1 s1 rv => by
    dsimp only at hx
    split at hx
    · rename_i j
      exact ⟨j, rv.ints1, hx.1, hx.2.1, hk _ _ _ _ _ _ hx.2.2 e1 s1 ItRep.range⟩
    · exact hx.elim, hZ⟩
def runG (g : DTG) (body : DTS) (E : DEnds) (G : Sto → Prop) : List D → Env' → Sto → Prop
  | [], ρ, st => G st ∧ E.nx ρ st
  | d :: ds, ρ, st => G st ∧ g d ρ st fun ρ2 st2 => body { E with nx := runG g body E G ds, ct := runG g body E G ds, bk := E.nx } ρ2 st2
theorem drop_at {α : Type} {l : List α} {i : Nat} {x : α} (h : l[i]? = some x) : l.drop i = x :: l.drop (i + 1) := by
  obtain ⟨hi, e⟩ := List.getElem?_eq_some_iff.mp h
  rw [List.drop_eq_getElem_cons hi, e]
theorem for_ex {g : DTG} {body : DTS} {E : DEnds} {G : Sto → Prop} {items : List D} {ρ : Env'} {st : Sto} (h : runG g body E G items ρ st) : ∃ I : Nat → Env' → Sto → Prop, I 0 ρ st ∧ (∀ i ρ st, i ≤ items.length → I i ρ st → G st) ∧
    (∀ i d ρ st, items[i]? = some d → I i ρ st → g d ρ st fun ρ2 st2 => body { E with nx := I (i + 1), ct := I (i + 1), bk := E.nx } ρ2 st2) ∧ ∀ ρ st, I items.length ρ st → E.nx ρ st := by
  refine ⟨fun i => runG g body E G (items.drop i), h, fun i ρ st _ hi => ?_, fun i d ρ st hd hi => ?_, fun ρ st hi => ?_⟩
  · dsimp only at hi
    cases e : items.drop i <;> (rw [e] at hi; exact hi.1)
  · dsimp only at hi
    rw [drop_at hd] at hi
    exact hi.2
  · dsimp only at hi
    rw [List.drop_length] at hi
    exact hi.2
def dFor (it : DTI) (g : DTG) (body : DTS) : DTS := fun E ρ st => it ρ st (fun items G st1 => runG g body E G items ρ st1) E.xs
theorem ds_for {body : List Stmt} {it : DTI} {g : DTG} {ws : List Nat} {tb : DTS} (hp : PassesOwn (model X.prog X.w) X.A X.env X.xe) (hc : X.calm = true) (hi : DI X W tg e it) (hg : DG X ws tg g) (hb : DSs X W body tb)
    (hs : ∀ x, foldedSetIterable e X.env x = pure x := by intro _; rfl) : DS X W (.For tg e body [] pos) (dFor it g tb) := ps_weak (ps_for hp hc hi hg hb hs) fun D σ H ⟨ρ, st, μ, DD, hS, ht, hO⟩ =>
  ⟨ρ, st, μ, _, _, hS, ht, hO.xs, fun items G st1 H1 μ1 J hx e1 s1 hJ => by
    obtain ⟨I, h0, hG, hstep, hend⟩ := for_ex hx
    refine ⟨fun i m σ' H' => m = items.length - i ∧ i ≤ items.length ∧ ∃ ρ' st' μ', I i ρ' st' ∧ Ext H1 H' μ1 μ' ∧ Stt X.K ρ' st' μ' σ' H', ⟨_, rfl, Nat.zero_le _, ρ, st1, μ1, h0, Ext.refl _ _, hS.mono e1 s1⟩, ?_⟩
    rintro i m σ' H' ⟨rfl, hil, ρ', st', μ', hI, e2, s2⟩
    by_cases hlt : i < items.length
    · have hd : items[i]? = some items[i] := List.getElem?_eq_getElem hlt
      obtain ⟨hgo, hy⟩ := hJ.go i H' μ' st' _ e2 s2.s (hG i ρ' st' hil hI) hd
      refine .inr ⟨hgo, fun σ3 H3 => ∃ ρ3 st3 μ3, I (i + 1) ρ3 st3 ∧ Ext H1 H3 μ1 μ3 ∧ Stt X.K ρ3 st3 μ3 σ3 H3, fun σ3 H3 ⟨ρ3, st3, μ3, q1, q2, q3⟩ => ⟨_, by omega, rfl, hlt, ρ3, st3, μ3, q1, q2, q3⟩, fun x H3 hx => ?_⟩
      obtain ⟨e3, s3, r3, _⟩ := hy x H3 hx
      refine ⟨_, ρ', st', μ', _, s2.mono e3 s3, r3, hstep i _ ρ' st' hd hI, fun ρ4 st4 σ4 H4 μ4 q e4 s4 _ => ?_⟩
      refine ⟨ρ4, st4, μ4, _, s4, q, ?_, ?_, ?_, ?_, ?_⟩
      · exact fun ρ5 st5 σ5 H5 μ5 q5 e5 s5 => ⟨ρ5, st5, μ5, q5, ((e2.trans e3).trans e4).trans e5, s5⟩
      · exact hO.rt.mono (((e1.trans e2).trans e3).trans e4)
      · exact hO.nx.mono (((e1.trans e2).trans e3).trans e4)
      · exact fun ρ5 st5 σ5 H5 μ5 q5 e5 s5 => ⟨ρ5, st5, μ5, q5, ((e2.trans e3).trans e4).trans e5, s5⟩
      · exact hO.xs.mono (((e1.trans e2).trans e3).trans e4)
    · have he : i = items.length := by omega
      subst he
      exact .inl ⟨hJ.stop H' μ' st' e2 s2.s (hG _ ρ' st' hil hI), hO.nx _ _ _ _ _ (hend _ _ hI) (e1.trans e2) s2⟩⟩
end
end DL
namespace DL
open PySem L2 PySem.Spec
open PyProof.Rows hiding St
variable [TC : TabCtx]
section
variable {X : Cx} {W : WX} {a b c e tg : Expr} {ta tb tc te : DTE} {pos : Pos} {s : Stmt} {rest : List Stmt} {t u : DTS}
abbrev Z0 : DZ := fun _ _ _ => False
theorem pts_weak {ifs : List Expr} {t u : TT} (h : PTs X ifs t) (w : ∀ σ H Q, u σ H Q → t σ H Q) : PTs X ifs u := ⟨fun pins s σ H Q I q => h.run pins s σ H Q I (w σ H Q q)⟩
def dYes : DTT := fun _ st Q _ => Q true st
theorem dts_nil : PTs X [] (liftT X.K W0 dYes) := pts_weak pts_nil fun σ H Q ⟨ρ, st, μ, Qd, Z, hS, ht, hQ, hZ⟩ => hQ _ _ _ _ ht (Ext.refl _ _) hS.s
theorem dts_one {c : Expr} {t : DTT} (h : DT X W0 c t) : PTs X [c] (liftT X.K W0 t) := pts_one h
def runC (g : DTG) (tt : DTT) (te : DTE) (ρ : Env') (Q : DK) (G : Sto → Prop) : List D → List D → Sto → Prop
  | [], acc, st => G st ∧ Q (.loc st.length) (st ++ [.lst acc])
  | d :: ds, acc, st => G st ∧ g d ρ st fun ρ2 st2 => tt ρ2 st2 (fun b st3 => if b = true then te ρ2 st3 (fun y st4 => acc.length < sizeLine ∧ runC g tt te ρ Q G ds (acc ++ [y]) st4) Z0 else runC g tt te ρ Q G ds acc st3) Z0
theorem lc_ex {g : DTG} {tt : DTT} {te : DTE} {Q : DK} {G : Sto → Prop} {items : List D} {ρ : Env'} {st : Sto} (h : runC g tt te ρ Q G items [] st) : ∃ I : Nat → List D → Sto → Prop, I 0 [] st ∧ (∀ i acc st, i ≤ items.length → I i acc st → G st) ∧
    (∀ i d acc st, items[i]? = some d → I i acc st → g d ρ st fun ρ2 st2 => tt ρ2 st2 (fun b st3 => if b = true then te ρ2 st3 (fun y st4 => acc.length < sizeLine ∧ I (i + 1) (acc ++ [y]) st4) Z0 else I (i + 1) acc st3) Z0) ∧
    ∀ acc st, I items.length acc st → Q (.loc st.length) (st ++ [.lst acc]) := by
  refine ⟨fun i => runC g tt te ρ Q G (items.drop i), h, fun i acc st _ hi => ?_, fun i d acc st hd hi => ?_, fun acc st hi => ?_⟩
  · dsimp only at hi
    cases e : items.drop i <;> (rw [e] at hi; exact hi.1)
  · dsimp only at hi
    rw [drop_at hd] at hi
    exact hi.2
  · dsimp only at hi
    rw [List.drop_length] at hi
    exact hi.2
def dLc (it : DTI) (g : DTG) (tt : DTT) (te : DTE) (own : List Nat) : DTE := fun ρ st Q Z => it ρ st (fun items G st1 => runC g tt te (wipeD ρ own) Q G items [] st1) Z
theorem Ext.keep {H H' : Hp} {μ μ' : List Addr} (x : Ext H H' μ μ') {a : Addr} {xs : List V} (h : H a = some (.lst xs)) (hm : a ∉ μ) : H' a = some (.lst xs) ∧ a ∉ μ' := ⟨x.fra a _ h hm (fun _ z => nomatch z), fun z => by
  rcases x.new a z with q | q
  · exact hm q
  · obtain ⟨ps, e⟩ := q _ h
    cases e⟩
/-- the list D outside the store is written -/
theorem Ext.out {H0 H : Hp} {μ0 μ : List Addr} {D : Addr} (x : Ext H0 H μ0 μ) (h0 : H0 D = none) (u : HO) : Ext H0 (upd H D u) μ0 μ where
  pre := x.pre
  tup a zs q := by
    rw [upd_ne (ne_of_none q h0)]
    exact x.tup a zs q
  frz a o zs q := by
    rw [upd_ne (ne_of_none q h0)]
    exact x.frz a o zs q
  fra a o q hn hp := by
    rw [upd_ne (ne_of_none q h0)]
    exact x.fra a o q hn hp
  new := x.new
theorem Ext0.out {H : Hp} {μ : List Addr} {D : Addr} {xs : List V} (h : H D = some (.lst xs)) (u : HO) : Ext0 H (upd H D u) μ μ := ⟨fun _ _ q => q, fun a zs q => by
  rw [upd_ne (fun z => by rw [z, h] at q; cases q)]; exact q, fun a o zs q => by
  rw [upd_ne (fun z => by rw [z, h] at q; cases q)]; exact q⟩
theorem SRep.out {K : PySem.W.Frag} {st : Sto} {μ : List Addr} {H : Hp} (s : SRep K st μ H) {D : Addr} (hm : D ∉ μ) {xs : List V} (h : H D = some (.lst xs)) (u : HO) : SRep K st μ (upd H D u) := by
  refine ⟨s.len, s.nd, fun n b e => ?_, tabs_upd s.tab (fun o q => by rw [h] at q; cases q; exact ⟨fun _ z => (nomatch z), fun _ z => (nomatch z)⟩), fun q hq => ?_⟩
  case refine_2 =>
    obtain ⟨hn, gs, e, r1, r2⟩ := s.exc q hq
    exact ⟨hn, gs, by rw [upd_ne (fun z => by rw [z, h] at e; cases e)]; exact e, r1, r2.mono0 (Ext0.out h u)⟩
  obtain ⟨a, o, e1, e2, r⟩ := s.at' n b e
  have hne : a ≠ D := fun z => hm (z ▸ List.mem_of_getElem? e1)
  exact ⟨a, o, e1, by rw [upd_ne hne]; exact e2, r.mono0 (Ext0.out h u)⟩
/-- a thing that stood apart is taken into the store -/
theorem SRep.adopt {K : PySem.W.Frag} {st : Sto} {μ : List Addr} {H : Hp} (s : SRep K st μ H) {p : Addr} {o : HO} {b : Ob} (hm : p ∉ μ) (h : H p = some o) (r : ORep K H μ b o) : SRep K (st ++ [b]) (μ ++ [p]) H := by
  have x0 : Ext0 H H μ (μ ++ [p]) := ⟨fun n a q => by rw [List.getElem?_append_left (List.getElem?_eq_some_iff.mp q).1]; exact q, fun _ _ q => q, fun _ _ _ q => q⟩
  refine ⟨by simp [s.len], ?_, fun n c e => ?_, s.tab, fun q hq => ?_⟩
  case refine_3 =>
    obtain ⟨hn, gs, e, r1, r2⟩ := s.exc q hq
    refine ⟨fun z => ?_, gs, e, r1, r2.mono0 x0⟩
    rcases List.mem_append.mp z with z | z
    · exact hn z
    · rw [List.mem_singleton.mp z, h] at e
      cases e
      cases b with
      | lst ds => obtain ⟨vs, z, _⟩ := r; cases z
      | ins C fs => obtain ⟨dx, gs, z, _⟩ := r; cases z
      | dK fs => obtain ⟨gs, z, _⟩ := r; cases z
      | err e C d => have z : HO.xd _ = HO.ext _ := r; cases z
      | xdt dx fs => obtain ⟨gs, z, _⟩ := r; have z' : HO.xd _ = HO.ext _ := z; cases z'
      | dkF od fs => obtain ⟨gs, z, _⟩ := r; cases z
  · refine List.nodup_append.mpr ⟨s.nd, by simp, fun a ha b hb => ?_⟩
    rw [List.mem_singleton.mp hb]
    intro e
    exact hm (e ▸ ha)
  · by_cases hn : n < st.length
    · rw [List.getElem?_append_left hn] at e
      obtain ⟨a, ob, e1, e2, r2⟩ := s.at' n c e
      exact ⟨a, ob, x0.pre n a e1, e2, r2.mono0 x0⟩
    · have hn' : n = st.length := by
        have := (List.getElem?_eq_some_iff.mp e).1
        simp at this
        omega
      subst hn'
      rw [List.getElem?_append_right (Nat.le_refl _)] at e
      simp at e
      subst e
      refine ⟨p, o, ?_, h, r.mono0 x0⟩
      rw [s.len, List.getElem?_append_right (Nat.le_refl _)]
      simp
theorem wipe_at (σ : St) (i : Nat) : ∀ vs : List Nat, (wipe σ vs)[i]? = if i ∈ vs then (if i < σ.length then some none else none) else σ[i]?
  | [] => by simp [wipe]
  | v :: vs => by
    unfold wipe
    by_cases h : v = i
    · subst h
      rw [List.getElem?_set]
      simp [wipe_length]
    · rw [List.getElem?_set_ne h, wipe_at σ i vs]
      have : (i ∈ v :: vs) ↔ i ∈ vs := by
        simp [Ne.symm h]
      simp [this]
theorem wipe_idem (σ : St) (vs : List Nat) : wipe (wipe σ vs) vs = wipe σ vs := by
  refine List.ext_getElem? fun i => ?_
  rw [wipe_at, wipe_at, wipe_length]
  by_cases h : i ∈ vs <;> simp [h]
section
variable {ifs : List Expr} {scope : Scope} {own : List (Str × Nat)} {it : DTI} {g : DTG} {ws : List Nat} {tt : DTT}
theorem lc_lift {K : PySem.W.Frag} {elt : Expr} (hw : ∀ w ∈ ws, w ∈ own.map (·.2)) (σ : St) (H : Hp) (Q : VK) (h : liftE K W (dLc it g tt te (own.map (·.2))) σ H Q) :
    tLc (liftI K W it) (liftG K ws g) (liftT K W0 tt) (liftE K W0 te) (own.map (·.2)) σ H Q := by
  obtain ⟨ρ, st, μ, Qd, Z, hS, ht, hQ, hZ⟩ := h
  refine ⟨ρ, st, μ, _, Z, hS, ht, hZ, fun items G st1 H1 μ1 J hx e1 s1 hJ D hD => ?_⟩
  obtain ⟨I, h0, hG, hstep, hend⟩ := lc_ex hx
  refine ⟨fun i m H' => m = items.length - i ∧ i ≤ items.length ∧ ∃ acc va st' μ', I i acc st' ∧ Ext H1 H' μ1 μ' ∧ SRep K st' μ' H' ∧ Reps K H' μ' acc va ∧ H' D = some (.lst va) ∧ D ∉ μ',
    ⟨_, rfl, Nat.zero_le _, [], [], st1, μ1, h0, Ext.laid hD, s1.laid hD, rfl, upd_same, s1.not_mem hD⟩, ?_⟩
  rintro i m H' ⟨rfl, hil, acc, va, st', μ', hI, e2, s2, r2, d2, n2⟩
  by_cases hlt : i < items.length
  · have hd : items[i]? = some items[i] := List.getElem?_eq_getElem hlt
    obtain ⟨hgo, hy⟩ := hJ.go i H' μ' st' _ e2 s2 (hG i acc st' hil hI) hd
    refine .inr ⟨hgo, fun H3 => ∃ acc va st' μ', I (i + 1) acc st' ∧ Ext H1 H3 μ1 μ' ∧ SRep K st' μ' H3 ∧ Reps K H3 μ' acc va ∧ H3 D = some (.lst va) ∧ D ∉ μ', fun H3 q => ⟨_, by omega, rfl, hlt, q⟩, fun x H3 hx => ?_⟩
    obtain ⟨e3, s3, r3, _⟩ := hy x H3 hx
    obtain ⟨d3, n3⟩ := e3.keep d2 n2
    refine ⟨_, wipeD ρ (own.map (·.2)), st', μ', _, ⟨(hS.e.mono ((e1.trans e2).trans e3)).wipe _, s3⟩, r3, hstep i _ acc st' hd hI, fun ρ4 st4 σ4 H4 μ4 q e4 s4 hw4 => ?_⟩
    obtain ⟨d4, n4⟩ := e4.keep d3 n3
    refine ⟨(hw4 _ hw).trans (wipe_idem _ _), ρ4, st4, μ4, _, Z0, s4, q, fun k st5 H5 μ5 q5 e5 s5 => ?_, ZOk.no⟩
    obtain ⟨d5, n5⟩ := e5.keep d4 n4
    cases k with
    | true =>
      refine iteT ⟨ρ4, st5, μ5, _, Z0, s4.mono e5 s5, q5, fun y st6 H6 μ6 v q6 e6 s6 r6 => ?_, ZOk.no⟩
      obtain ⟨d6, n6⟩ := e6.keep d5 n5
      have ex : Ext H' H6 μ' μ6 := ((e3.trans e4).trans e5).trans e6
      have ra := r2.mono ex
      have x0 : Ext0 H6 (upd H6 D (.lst (va ++ [v]))) μ6 μ6 := Ext0.out d6 _
      exact ⟨va, d6, by rw [← r2.length]; exact q6.1, acc ++ [y], va ++ [v], st6, μ6, q6.2, (e2.trans ex).out hD _, s6.out n6 d6 _, (ra.append (Reps.one r6)).mono0 x0, upd_same, n6⟩
    | false =>
      have ex : Ext H' H5 μ' μ5 := (e3.trans e4).trans e5
      exact iteF ⟨acc, va, st5, μ5, q5, e2.trans ex, s5, r2.mono ex, d5, n5⟩
  · have he : i = items.length := by omega
    subst he
    refine .inl ⟨hJ.stop H' μ' st' e2 s2 (hG _ acc st' hil hI), ?_⟩
    refine hQ _ _ _ _ _ (hend _ _ hI) (e1.trans ⟨⟨fun n a q => ?_, e2.tup, e2.frz⟩, e2.fra, fun a q => ?_⟩) (s2.adopt n2 d2 ⟨va, rfl, r2⟩) ⟨D, rfl, by rw [s2.len]; exact getElem?_end _ _⟩
    · have := e2.pre n a q
      rw [List.getElem?_append_left (List.getElem?_eq_some_iff.mp this).1]; exact this
    · rcases List.mem_append.mp q with q | q
      · exact e2.new a q
      · rw [List.mem_singleton.mp q]; exact .inr fun o q => by rw [hD] at q; cases q
theorem de_lc {elt : Expr} (hc : X.calm = true) (hN : X.N.Nodup) (hi : DI X W tg e it) (ok : BlkOk X.N X.env.scope scope own) (hw : ∀ w ∈ ws, w ∈ own.map (·.2))
    (hg : ∀ (s : Shared) (H : Hp) (C : Addr) (cl : List (Str × Addr)) (fp : List Addr), DG (X.blk s H scope (compEnvC scope cl C X.env) fp) ws tg g) (ht : ∀ (s : Shared) (H : Hp) (C : Addr) (cl : List (Str × Addr)) (fp : List Addr), PTs (X.blk s H scope (compEnvC scope cl C X.env) fp) ifs (liftT X.K W0 tt))
    (he : ∀ (s : Shared) (H : Hp) (C : Addr) (cl : List (Str × Addr)) (fp : List Addr), DE (X.blk s H scope (compEnvC scope cl C X.env) fp) W0 elt te) (hs : ∀ x, foldedSetIterable e X.env x = pure x := by intro _; rfl) :
    DE X W (.ListComp elt [⟨tg, e, ifs, 0⟩] scope pos) (dLc it g tt te (own.map (·.2))) := pe_weak (pe_lc hc hN hi ok hg ht he hs) fun σ H Q h => lc_lift (elt := elt) hw σ H Q h
theorem ds_setLc {elt : Expr} {i : Nat} {y : Str} {py spos : Pos} (hc : X.calm = true) (hN : X.N.Nodup) (hy : X.N[i]? = some y) (hyl : X.env.scope.names.lookup y = some .local)
    (hsw : swapsWith (.ListComp elt [⟨tg, e, ifs, 0⟩] scope pos) (some (.Name y py)) spos.line X.env = pure true) (hi : DI X W tg e it) (ok : BlkOk X.N X.env.scope scope own) (hw : ∀ w ∈ ws, w ∈ own.map (·.2))
    (hg : ∀ (s : Shared) (H : Hp) (C : Addr) (cl : List (Str × Addr)) (fp : List Addr), DG (X.blk s H scope (compEnvC scope cl C X.env) fp) ws tg g) (ht : ∀ (s : Shared) (H : Hp) (C : Addr) (cl : List (Str × Addr)) (fp : List Addr), PTs (X.blk s H scope (compEnvC scope cl C X.env) fp) ifs (liftT X.K W0 tt))
    (he : ∀ (s : Shared) (H : Hp) (C : Addr) (cl : List (Str × Addr)) (fp : List Addr), DE (X.blk s H scope (compEnvC scope cl C X.env) fp) W0 elt te) (hs : ∀ x, foldedSetIterable e X.env x = pure x := by intro _; rfl) :
    DS X W (.Assign [.Name y py] (.ListComp elt [⟨tg, e, ifs, 0⟩] scope pos) spos) (dAsg (dLc it g tt te (own.map (·.2))) (gN i)) := ps_weak (ps_setLc hc hN hy hyl hsw hi ok hg ht he hs) fun D σ H ⟨ρ, st, μ, DD, hS, ht, hO⟩ =>
  lc_lift (elt := elt) (W := W) hw σ H _ ⟨ρ, st, μ, _, _, hS, ht, fun x st1 H1 μ1 v hx e1 s1 rv => hO.nx _ _ _ _ _ hx e1 ⟨(hS.e.mono e1).set i rv, s1⟩, hO.xs⟩
end
end
end DL
namespace DL
open PySem L2 PySem.Spec
open PyProof.Rows hiding St
variable [TC : TabCtx]
mutual
def D.blw (n : Nat) : D → Bool
  | .loc m => m < n
  | .tup ds => D.blws n ds
  | .fls ds => D.blws n ds
  | _ => true
def D.blws (n : Nat) : List D → Bool
  | [] => true
  | d :: ds => D.blw n d && D.blws n ds
end
def Ob.below (n : Nat) : Ob → Bool
  | .lst ds => D.blws n ds
  | .ins _ fs => D.blws n (fs.map (·.2))
  | .dK kvs => D.blws n (kvs.map (·.2))
  | .err _ _ _ => true
  | .xdt _ fs => D.blws n (fs.map (·.2))
  | .dkF _ fs => D.blws n (fs.map (·.2))
section
variable {K : PySem.W.Frag} {H H' : Hp} {μ : List Addr}
mutual
theorem Rep.cut {n : Nat} {ν : List Addr} (h : ∀ m, m < n → ν[m]? = μ[m]?) : ∀ {d : D} {v : V}, D.blw n d = true → Rep K H μ d v → Rep K H ν d v
  | .non, _, _, r => r
  | .bl _, _, _, r => r
  | .int _, _, _, r => r
  | .str _, _, _, r => r
  | .tup ds, _, b, r => by
    obtain ⟨a, vs, e, s, q⟩ := r
    exact ⟨a, vs, e, s, Reps.cut h b q⟩
  | .fls ds, _, b, r => by
    obtain ⟨a, vs, e, s, q⟩ := r
    exact ⟨a, vs, e, s, Reps.cut h b q⟩
  | .loc m, _, b, r => by
    obtain ⟨a, e, q⟩ := r
    exact ⟨a, e, by rw [h m (by simpa [D.blw] using b)]; exact q⟩
  | .adr _, _, _, r => r
  | .ty _, _, _, r => r
theorem Reps.cut {n : Nat} {ν : List Addr} (h : ∀ m, m < n → ν[m]? = μ[m]?) : ∀ {ds : List D} {vs : List V}, D.blws n ds = true → Reps K H μ ds vs → Reps K H ν ds vs
  | [], _, _, r => r
  | d :: ds, _, b, r => by
    obtain ⟨v, r', e, h1, h2⟩ := r
    simp only [D.blws, Bool.and_eq_true] at b
    exact ⟨v, r', e, Rep.cut h b.1 h1, Reps.cut h b.2 h2⟩
end
mutual
/-- what is told in μ names places of μ alone -/
theorem Rep.below : ∀ {d : D} {v : V}, Rep K H μ d v → D.blw μ.length d = true
  | .non, _, _ => rfl
  | .bl _, _, _ => rfl
  | .int _, _, _ => rfl
  | .str _, _, _ => rfl
  | .tup ds, _, r => by
    obtain ⟨a, vs, e, s, q⟩ := r
    exact Reps.below q
  | .fls ds, _, r => by
    obtain ⟨a, vs, e, s, q⟩ := r
    exact Reps.below q
  | .loc m, _, r => by
    obtain ⟨a, e, q⟩ := r
    simpa [D.blw] using (List.getElem?_eq_some_iff.mp q).1
  | .adr _, _, _ => rfl
  | .ty _, _, _ => rfl
theorem Reps.below : ∀ {ds : List D} {vs : List V}, Reps K H μ ds vs → D.blws μ.length ds = true
  | [], _, _ => rfl
  | d :: ds, _, r => by
    obtain ⟨v, r', e, h1, h2⟩ := r
    simp only [D.blws, Bool.and_eq_true]
    exact ⟨Rep.below h1, Reps.below h2⟩
end
theorem ORep.cut {n : Nat} {ν : List Addr} (h : ∀ m, m < n → ν[m]? = μ[m]?) : ∀ {b : Ob} {o : HO}, Ob.below n b = true → ORep K H μ b o → ORep K H ν b o
  | .lst ds, _, b, r => by obtain ⟨vs, e, q⟩ := r; exact ⟨vs, e, q.cut h b⟩
  | .ins C fs, _, b, r => by obtain ⟨dx, gs, e, q1, q2⟩ := r; exact ⟨dx, gs, e, q1, q2.cut h b⟩
  | .dK fs, _, b, r => by obtain ⟨gs, e, q1, q2⟩ := r; exact ⟨gs, e, q1, q2.cut h b⟩
  | .err _ _ _, _, b, r => r
  | .xdt dx fs, _, b, r => by obtain ⟨gs, e, q1, q2⟩ := r; exact ⟨gs, e, q1, q2.cut h b⟩
  | .dkF od fs, _, b, r => by obtain ⟨gs, e, q1, q2⟩ := r; exact ⟨gs, e, q1, q2.cut h b⟩
theorem ORep.below : ∀ {b : Ob} {o : HO}, ORep K H μ b o → Ob.below μ.length b = true
  | .lst ds, _, r => by obtain ⟨vs, e, q⟩ := r; exact q.below
  | .ins C fs, _, r => by obtain ⟨dx, gs, e, q1, q2⟩ := r; exact q2.below
  | .dK fs, _, r => by obtain ⟨gs, e, q1, q2⟩ := r; exact q2.below
  | .err _ _ _, _, r => rfl
  | .xdt dx fs, _, r => by obtain ⟨gs, e, q1, q2⟩ := r; exact q2.below
  | .dkF od fs, _, r => by obtain ⟨gs, e, q1, q2⟩ := r; exact q2.below
/-- the store's things hang on the store alone -/
theorem SRep.below {st : Sto} (s : SRep K st μ H) {b : Ob} (h : b ∈ st) : Ob.below st.length b = true := by
  obtain ⟨n, e⟩ := List.mem_iff_getElem?.mp h
  obtain ⟨a, o, _, _, r⟩ := s.at' n b e
  rw [s.len]
  exact r.below
abbrev DSp := List D → Sto → DK → (DX → Sto → Prop) → Prop
def XOk (K : PySem.W.Frag) (Z : DX → Sto → Prop) (E : XK) (H : Hp) (μ : List Addr) : Prop :=
  ∀ x st' H' μ' c dx, Z x st' → Ext H H' μ μ' → SRep K st' μ' H' → XRep K H' μ' x c dx → E c dx H'
def liftSp (K : PySem.W.Frag) (n : Nat) (dsp : DSp) : Sp := fun vs H Q E => vs.length = n ∧ ∃ ds st μ Qd Z, Reps K H μ ds vs ∧ SRep K st μ H ∧ dsp ds st Qd Z ∧ EOk K Qd Q H μ ∧ XOk K Z E H μ
/-- the def of that name keeps its promise, at most k levels deep -/
def Has (P : Program) (w : World) (K : PySem.W.Frag) (mg : Str → Option Value) (base : Heap) (k : Nat) (x : Str) (n : Nat) (dsp : DSp) : Prop :=
  ∃ f fd ps, FnOk P w K mg base (L2.CX P w) k f fd ps (liftSp K n dsp) ∧ mg x = some (.ref f) ∧ PySem.W.keepIn K (.ref f) = true ∧ Binds K fd ps []
theorem Has.mono {P : Program} {w : World} {mg : Str → Option Value} {base : Heap} {j k : Nat} {x : Str} {n : Nat} {dsp : DSp} (h : Has P w K mg base j x n dsp) (hk : j ≤ k) : Has P w K mg base k x n dsp := by
  obtain ⟨f, fd, ps, F, r⟩ := h
  exact ⟨f, fd, ps, F.mono hk, r⟩
/-- a weaker promise -/
theorem Has.imp {P : Program} {w : World} {mg : Str → Option Value} {base : Heap} {k : Nat} {x : Str} {n : Nat} {dsp dsp' : DSp} (h : Has P w K mg base k x n dsp) (hi : ∀ ds st Q Z, dsp' ds st Q Z → dsp ds st Q Z) : Has P w K mg base k x n dsp' := by
  obtain ⟨f, fd, ps, F, r⟩ := h
  refine ⟨f, fd, ps, F.imp fun vs H Q E q => ?_, r⟩
  obtain ⟨q0, ds, st, μ, Qd, Z, q1, q2, q3, q4, q5⟩ := q
  exact ⟨q0, ds, st, μ, Qd, Z, q1, q2, hi _ _ _ _ q3, q4, q5⟩
end
section
variable {X : Cx} {W : WX} {e : Expr} {es : List Expr} {pos p : Pos} {x : Str} {k n : Nat} {dsp : DSp} {t : DTA}
def dCall (n : Nat) (dsp : DSp) (t : DTA) : DTE := fun ρ st Q Z => t ρ st (fun ds st1 => ds.length = n ∧ dsp ds st1 Q fun x st2 => Z x ρ st2) Z
def Pas (X : Cx) (W : WX) : Prop := ∀ σ, PassesAt (L2.CX X.prog X.w) X σ (WE W σ)
theorem pas0 {X : Cx} : Pas X W0 := fun σ _ _ _ _ _ _ h => by
  obtain ⟨_, _, _, _, _, _, _, _, _, _, _, _, z⟩ := h
  exact z.elim
theorem pasT {X : Cx} {W : WX} (tk : Takes X W) : Pas X W := fun σ => passAt tk σ
theorem XOk.of {K : PySem.W.Frag} {W : WX} {Z : DZ} {H H1 : Hp} {μ μ1 : List Addr} {ρ : Env'} {st : Sto} {σ : St} (hS : Stt K ρ st μ σ H) (z : ZOk K W Z H μ) (e1 : Ext H H1 μ μ1) : XOk K (fun x st2 => Z x ρ st2) (WE W σ) H1 μ1 :=
  fun x st' H' μ' c dx q e s r => z _ _ _ _ _ _ _ _ q (e1.trans e) (hS.mono (e1.trans e) s) r
theorem de_call (F : Has X.prog X.w X.K X.mg X.base k x n dsp) (hr : Room k X.A) (hg : Gl X x) (hx : Pas X W) (ha : DA X W (e :: es) t)
    (hdb : (x == ("__debug__" : Str)) = false := by decide) (he : starEach (e :: es) X.env = (false, eval e X.env) :: starEach es X.env := by rfl) (hpl : (backTo pos (starEach es X.env)).any (·.1) = false := by rfl) :
    DE X W (.Call (.Name x p) (e :: es) [] pos) (dCall n dsp t) := by
  obtain ⟨f, fd, ps, F, hm, hk, hb⟩ := F
  refine pe_weak (pe_callS F hr hg hm hk hb hx ha hdb he hpl) fun σ H Q ⟨ρ, st, μ, Qd, Z, hS, ht, hQ, hZ⟩ => ?_
  exact ⟨ρ, st, μ, _, Z, hS, ht, fun ds st1 H1 μ1 vs hx e1 s1 rv => ⟨by rw [← rv.length]; exact hx.1, ds, st1, μ1, Qd, _, rv, s1, hx.2, hQ.mono e1, XOk.of hS hZ e1⟩, hZ⟩
end
/-- what is given back, what else the body made being forgotten -/
def Back (st : Sto) (Q : DK) : DK := fun d st' => Q d st' ∨ ∃ st1 g, st' = st1 ++ g ∧ st1.length = st.length ∧ (∀ b ∈ st1, b ∈ st ∨ Ob.below st.length b = true) ∧
  ((D.blw st.length d = true ∧ Q d st1) ∨ ∃ m ds, d = .loc m ∧ st'[m]? = some (.lst ds) ∧ st.length ≤ m ∧ D.blws st.length ds = true ∧ Q (.loc st.length) (st1 ++ [.lst ds]))
def BackX (st : Sto) (Z : DX → Sto → Prop) : DX → Sto → Prop := fun x st' => Z x st' ∨ ∃ st1 g, st' = st1 ++ g ∧ st1.length = st.length ∧ (∀ b ∈ st1, b ∈ st ∨ Ob.below st.length b = true) ∧ D.blws st.length (x.fs.map (·.2)) = true ∧ Z x st1
section
variable {K : PySem.W.Frag} {H H' : Hp} {μ μ' : List Addr} {st st' st1 g : Sto}
theorem Back.store (s0 : SRep K st μ H) (e : Ext H H' μ μ') (s : SRep K (st1 ++ g) μ' H') (hl : st1.length = st.length) (hb : ∀ b ∈ st1, b ∈ st ∨ Ob.below st.length b = true) : SRep K st1 μ H' ∧ Ext H H' μ μ := by
  have hpre : ∀ m, m < st.length → μ[m]? = μ'[m]? := fun m hm => by
    have h1 : m < μ.length := by rw [← s0.len]; exact hm
    rw [List.getElem?_eq_getElem h1]
    exact (e.pre m _ (List.getElem?_eq_getElem h1)).symm
  have e1 : Ext H H' μ μ := ⟨⟨fun _ _ q => q, e.tup, e.frz⟩, e.fra, fun a q => .inl q⟩
  refine ⟨⟨by rw [hl, s0.len], s0.nd, fun n b q => ?_, s.tab, s0.exc.ext e1⟩, e1⟩
  have hn : n < st1.length := (List.getElem?_eq_some_iff.mp q).1
  obtain ⟨a, o, e1, e2, r⟩ := s.at' n b (by rw [List.getElem?_append_left hn]; exact q)
  have hbl : Ob.below st.length b = true := by
    rcases hb b (List.mem_of_getElem? q) with z | z
    · exact s0.below z
    · exact z
  exact ⟨a, o, by rw [hpre n (by omega)]; exact e1, e2, r.cut hpre hbl⟩
theorem Back.ok {Qd : DK} {Q : VK} (s0 : SRep K st μ H) (hQ : EOk K Qd Q H μ) : EOk K (Back st Qd) Q H μ := fun d st' H' μ' v h e s r => by
  rcases h with h | ⟨st1, g, rfl, hl, hb, h⟩
  · exact hQ _ _ _ _ _ h e s r
  · obtain ⟨s1, e1⟩ := Back.store s0 e s hl hb
    have hpre : ∀ m, m < st.length → μ[m]? = μ'[m]? := fun m hm => by
      have h1 : m < μ.length := by rw [← s0.len]; exact hm
      rw [List.getElem?_eq_getElem h1]
      exact (e.pre m _ (List.getElem?_eq_getElem h1)).symm
    rcases h with ⟨hd, h⟩ | ⟨m, ds, rfl, hm, hge, hds, h⟩
    · exact hQ _ _ _ _ _ h e1 s1 (r.cut hpre hd)
    · obtain ⟨a, rfl, ha⟩ := r
      obtain ⟨a', o, q1, q2, vs, rfl, hr⟩ := s.at' m _ hm
      rw [ha] at q1; cases q1
      have hna : a ∉ μ := fun z => by
        obtain ⟨i, hi⟩ := List.mem_iff_getElem?.mp z
        have hi' : i < μ.length := (List.getElem?_eq_some_iff.mp hi).1
        have := nd_ix s.nd (e.pre i a hi) ha
        rw [← s0.len] at hi'
        omega
      have hn : ∀ o, H a = some o → ∃ ps, o = .tbl ps := by
        rcases e.new a (List.mem_of_getElem? ha) with z | z
        · exact absurd z hna
        · exact z
      have x0 : Ext0 H' H' μ (μ ++ [a]) := ⟨fun n b q => by rw [List.getElem?_append_left (List.getElem?_eq_some_iff.mp q).1]; exact q, fun _ _ q => q, fun _ _ _ q => q⟩
      refine hQ _ _ H' (μ ++ [a]) _ h ⟨⟨fun n b q => x0.pre n b q, e.tup, e.frz⟩, e.fra, fun b q => ?_⟩ (s1.adopt hna q2 ⟨vs, rfl, hr.cut hpre hds⟩) ⟨a, rfl, by rw [s0.len]; exact getElem?_end _ _⟩
      rcases List.mem_append.mp q with q | q
      · exact .inl q
      · rw [List.mem_singleton.mp q]; exact .inr hn
theorem BackX.ok {Z : DX → Sto → Prop} {E : XK} (s0 : SRep K st μ H) (hZ : XOk K Z E H μ) : XOk K (BackX st Z) E H μ := fun x st' H' μ' c dx h e s r => by
  rcases h with h | ⟨st1, g, rfl, hl, hb, hx, h⟩
  · exact hZ _ _ _ _ _ _ h e s r
  · obtain ⟨s1, e1⟩ := Back.store s0 e s hl hb
    have hpre : ∀ m, m < st.length → μ[m]? = μ'[m]? := fun m hm => by
      have h1 : m < μ.length := by rw [← s0.len]; exact hm
      rw [List.getElem?_eq_getElem h1]
      exact (e.pre m _ (List.getElem?_eq_getElem h1)).symm
    refine hZ _ _ _ _ _ _ h e1 s1 ⟨r.1, ?_⟩
    rcases r.2 with r2 | ⟨d, gs, r2, r3, r4, r5⟩
    · exact .inl r2
    · exact .inr ⟨d, gs, r2, r3, r4, r5.cut hpre hx⟩
end
/-- where a def of the text stands -/
def DefIn (K : PySem.W.Frag) (mg : Str → Option Value) (x : Str) (s : Stmt) (ps : List Str) : Prop := ∃ f fd, Fun K x x s f fd ∧ mg x = some (.ref f) ∧ Binds K fd ps []
def startD (N : List Str) (ds : List D) : Env' := ds.map some ++ List.replicate (N.length - ds.length) none
theorem start_rep {K : PySem.W.Frag} {H : Hp} {μ : List Addr} {ds : List D} {vs : List V} (N : List Str) (r : Reps K H μ ds vs) : ERep K H μ (startD N ds) (L2.start N vs) := by
  have hl := r.length
  refine ⟨by simp [startD, L2.start, hl], fun i d e => ?_⟩
  unfold startD at e
  by_cases hi : i < ds.length
  · rw [List.getElem?_append_left (by simpa using hi), List.getElem?_map] at e
    cases q : ds[i]? with
    | none => rw [q] at e; cases e
    | some d' =>
      rw [q] at e
      cases e
      obtain ⟨v, hv, rv⟩ := r.get q
      refine ⟨v, ?_, rv⟩
      unfold L2.start
      rw [List.getElem?_append_left (by simp; omega), List.getElem?_map, hv]
      rfl
  · rw [List.getElem?_append_right (by simpa using hi), List.getElem?_replicate] at e
    split at e <;> cases e
section
variable {P : Program} {w : World} {K : PySem.W.Frag} {mg : Str → Option Value} {base : Heap} {k n : Nat} {x : Str} {s : Stmt} {N ps : List Str} {dsp : DSp}
abbrev XDef (P : Program) (w : World) (K : PySem.W.Frag) (mg : Str → Option Value) (base : Heap) (N : List Str) (x : Str) (s : Stmt) (f : Addr) (cdv : Value) (A : Around) (outer : List Env) (s0 : Shared) (H : Hp) (E : XK) : Cx :=
  cxOf (L2.CX P w) P w K mg base N x (defScope s) f cdv A outer s0 H E
abbrev WDef (E : XK) : WX := fun cls d _ H => E cls d H
theorem has_mk (F : DefIn K mg x s ps) (S : FnScope N ps (defScope s)) (hn : ps.length = n)
    (body : ∀ (f : Addr) (cdv : Value) (A : Around) (outer : List Env) (s0 : Shared) (H : Hp) (E : XK), Room k (A.deeper (envOfC x (defScope s) s0.heap.objs.size f cdv)) →
      ∃ t, DSs (XDef P w K mg base N x s f cdv A outer s0 H E) (WDef E) (defBody s) t ∧ ∀ ds st Q Z, ds.length = n → dsp ds st Q Z → t { nx := fun _ st' => Back st Q .non st', rt := Back st Q, xs := fun x _ st' => BackX st Z x st' } (startD N ds) st) :
    Has P w K mg base (k + 1) x n dsp := by
  obtain ⟨f, fd, F, hm, hb⟩ := F
  refine ⟨f, fd, ps, F.okX S (fun vs H Q E h => by rw [hn]; exact h.1) (fun cdv A outer s0 H vs Q E hr h => ?_), hm, F.kp, hb⟩
  obtain ⟨t, ht, hd⟩ := body f cdv A outer s0 H E hr
  obtain ⟨hl, ds, st, μ, Qd, Z, r, sr, hsp, hQ, hZ⟩ := h
  refine ⟨_, ht, startD N ds, st, μ, _, ⟨start_rep N r, sr⟩, hd ds st Qd Z (by rw [r.length]; exact hl) hsp, ?_, Back.ok sr hQ, ?_, ?_, ?_⟩
  · exact fun ρ' st' σ' H' μ' q e s' => Back.ok sr hQ _ _ _ _ _ q e s'.s rfl
  · exact fun ρ' st' σ' H' μ' q e s' => q.elim
  · exact fun ρ' st' σ' H' μ' q e s' => q.elim
  · exact fun x' ρ' st' σ' H' μ' c dx q e s' r' => BackX.ok sr hZ _ _ _ _ _ _ q e s'.s r'
end
end DL
namespace DL
open PySem L2 PySem.Spec
open PyProof.Rows hiding St
variable [TC : TabCtx]
section
variable {K : PySem.W.Frag}
theorem DOp.or {r r' : R2} {d d' : D2} (h : DOp K r d) (h' : DOp K r' d') : DOp K (fun x y H Q => r x y H Q ∨ r' x y H Q) (fun x y st Q => d x y st Q ∨ d' x y st Q) := by
  intro H μ st x y v u Qd Q s rx ry q hQ
  rcases q with q | q
  · exact .inl (h s rx ry q hQ)
  · exact .inr (h' s rx ry q hQ)
theorem DOp.i0 {g : Int → Int → V} {f : Int → Int → D} (hf : ∀ i j H μ, Rep K H μ (f i j) (g i j)) : DOp K (rI0 g) (fun x y st Q => match x, y with | .int i, .int j => Q (f i j) st | _, _ => False) := by
  intro H μ st x y v u Qd Q s rx ry h hQ
  cases x <;> cases y <;> first | exact (show False from h).elim | skip
  exact ⟨_, _, rx, ry, hQ _ _ _ _ _ h (Ext.refl _ _) s (hf _ _ _ _)⟩
theorem DOp.ic {C : Int → Int → Prop} {g : Int → Int → V} {f : Int → Int → D} (hf : ∀ i j H μ, Rep K H μ (f i j) (g i j)) : DOp K (rI C g) (fun x y st Q => match x, y with | .int i, .int j => C i j ∧ Q (f i j) st | _, _ => False) := by
  intro H μ st x y v u Qd Q s rx ry h hQ
  cases x <;> cases y <;> first | exact (show False from h).elim | skip
  exact ⟨_, _, rx, ry, h.1, hQ _ _ _ _ _ h.2 (Ext.refl _ _) s (hf _ _ _ _)⟩
/-- +: ints, texts, tuples, lists -/
def dAdd : D2 := fun x y st Q => match x, y with
  | .int i, .int j => Q (.int (i + j)) st
  | .str a, .str b => a.length + b.length ≤ sizeLine ∧ Q (.str (a ++ b)) st
  | .tup a, .tup b => a.length + b.length ≤ sizeLine ∧ Q (.tup (a ++ b)) st
  | .loc m, .loc n => ∃ a b, st[m]? = some (.lst a) ∧ st[n]? = some (.lst b) ∧ a.length + b.length ≤ sizeLine ∧ Q (.loc st.length) (st ++ [.lst (a ++ b)])
  | _, _ => False
def rAddV (K : PySem.W.Frag) : R2 := fun x y H Q => rI0 (fun i j => .int (i + j)) x y H Q ∨ (∃ i j, x = .str i ∧ y = .str j ∧ i.length + j.length ≤ sizeLine ∧ Q (.str (i ++ j)) H) ∨ rCatA K x y H Q ∨ rCat x y H Q
theorem add_ok : DOp K (rAddV K) dAdd := by
  intro H μ st x y v u Qd Q s rx ry h hQ
  cases x with
  | int i =>
    cases y <;> first | exact (show False from h).elim | skip
    exact .inl ⟨_, _, rx, ry, hQ _ _ _ _ _ h (Ext.refl _ _) s rfl⟩
  | str a =>
    cases y <;> first | exact (show False from h).elim | skip
    exact .inr (.inl ⟨_, _, rx, ry, h.1, hQ _ _ _ _ _ h.2 (Ext.refl _ _) s rfl⟩)
  | tup a =>
    cases y <;> first | exact (show False from h).elim | skip
    rename_i b
    obtain ⟨p, vs, rfl, hs, hr⟩ := rx
    obtain ⟨q, us, rfl, hs', hr'⟩ := ry
    refine .inr (.inr (.inl ⟨p, q, vs, us, rfl, rfl, hs, hs', by rw [← hr.length, ← hr'.length]; exact h.1, fun e => ?_, fun _ e => ?_, fun _ _ o ho => ?_⟩))
    · subst e
      have : a = [] := List.eq_nil_of_length_eq_zero hr.length
      subst this
      exact hQ _ _ _ _ _ h.2 (Ext.refl _ _) s ⟨q, us, rfl, hs', hr'⟩
    · subst e
      have : b = [] := List.eq_nil_of_length_eq_zero hr'.length
      subst this
      refine hQ _ _ _ _ _ h.2 (Ext.refl _ _) s ⟨p, vs, rfl, hs, ?_⟩
      rw [List.append_nil]; exact hr
    · exact hQ.tup (Ext.refl _ _) s (hr.append hr') h.2 ho
  | loc m =>
    cases y <;> first | exact (show False from h).elim | skip
    rename_i n
    obtain ⟨a, b, ha, hb, hz, q⟩ := h
    obtain ⟨p, rfl, hp⟩ := rx
    obtain ⟨p', rfl, hp'⟩ := ry
    obtain ⟨_, o, e1, e2, vs, rfl, hr⟩ := s.at' _ _ ha
    rw [hp] at e1; cases e1
    obtain ⟨_, o, e1, e3, us, rfl, hr'⟩ := s.at' _ _ hb
    rw [hp'] at e1; cases e1
    exact .inr (.inr (.inr ⟨p, p', vs, us, rfl, rfl, e2, e3, by rw [← hr.length, ← hr'.length]; exact hz, fun o ho => hQ.lst (Ext.refl _ _) s (hr.append hr') q ho⟩))
  | _ => exact (show False from h).elim
def dSub : D2 := fun x y st Q => match x, y with | .int i, .int j => Q (.int (i - j)) st | _, _ => False
def dMul : D2 := fun x y st Q => match x, y with | .int i, .int j => CMul i j ∧ Q (.int (i * j)) st | _, _ => False
def dDiv : D2 := fun x y st Q => match x, y with | .int i, .int j => CDiv i j ∧ Q (.int (i / j)) st | _, _ => False
def dMod : D2 := fun x y st Q => match x, y with | .int i, .int j => 0 < j ∧ Q (.int (i % j)) st | _, _ => False
def dPow : D2 := fun x y st Q => match x, y with | .int i, .int j => CPow i j ∧ Q (.int (i ^ j.toNat)) st | _, _ => False
theorem sub_ok : DOp K (rI0 fun i j => .int (i - j)) dSub := DOp.i0 (f := fun i j => .int (i - j)) fun i j _ _ => rfl
theorem mul_ok : DOp K (rI CMul fun i j => .int (i * j)) dMul := DOp.ic (f := fun i j => .int (i * j)) fun i j _ _ => rfl
theorem div_ok : DOp K (rI CDiv fun i j => .int (i / j)) dDiv := DOp.ic (f := fun i j => .int (i / j)) fun i j _ _ => rfl
theorem mod_ok : DOp K (rI (fun _ j => 0 < j) fun i j => .int (i % j)) dMod := DOp.ic (f := fun i j => .int (i % j)) fun i j _ _ => rfl
theorem pow_ok : DOp K (rI CPow fun i j => .int (i ^ j.toNat)) dPow := DOp.ic (f := fun i j => .int (i ^ j.toNat)) fun i j _ _ => rfl
end
section
variable {X : Cx} {W : WX} {a b e : Expr} {ta tb te : DTE} {pos : Pos}
theorem de_add (ha : DE X W a ta) (hb : DE X W b tb) : DE X W (.BinOp a .Add b pos) (dOp dAdd ta tb) := de_op (op_add.or (op_add_str.or (op_catA.or op_cat))) add_ok ha hb
theorem de_sub (ha : DE X W a ta) (hb : DE X W b tb) : DE X W (.BinOp a .Sub b pos) (dOp dSub ta tb) := de_op op_sub sub_ok ha hb
theorem de_mul (ha : DE X W a ta) (hb : DE X W b tb) : DE X W (.BinOp a .Mult b pos) (dOp dMul ta tb) := de_op op_mul mul_ok ha hb
theorem de_div (ha : DE X W a ta) (hb : DE X W b tb) : DE X W (.BinOp a .FloorDiv b pos) (dOp dDiv ta tb) := de_op op_fdiv div_ok ha hb
theorem de_mod (ha : DE X W a ta) (hb : DE X W b tb) : DE X W (.BinOp a .Mod b pos) (dOp dMod ta tb) := de_op op_mod mod_ok ha hb
theorem de_pow (ha : DE X W a ta) (hb : DE X W b tb) : DE X W (.BinOp a .Pow b pos) (dOp dPow ta tb) := de_op op_pow pow_ok ha hb
end
end DL
namespace DL
open PySem L2 PySem.Spec
open PyProof.Rows hiding St
variable [TC : TabCtx]
def pdF (st : Sto) : Nat → D → Option PyData
  | _, .non => some .none
  | _, .bl b => some (.bool b)
  | _, .int i => some (.int i)
  | _, .str x => some (.str x)
  | n + 1, .tup ds => (ds.mapM (pdF st n)).map .tuple
  | n + 1, .fls ds => (ds.mapM (pdF st n)).map .list
  | n + 1, .loc m => match st[m]? with
    | some (.lst ds) => (ds.mapM (pdF st n)).map .list
    | _ => none
  | _, _ => none
section
variable {K : PySem.W.Frag} {H : Hp} {μ : List Addr} {st : Sto}
theorem mapM_cons_some {α β : Type} {f : α → Option β} {x : α} {xs : List α} {ps : List β} (h : (x :: xs).mapM f = some ps) : ∃ p qs, ps = p :: qs ∧ f x = some p ∧ xs.mapM f = some qs := by
  rw [List.mapM_cons] at h
  cases e1 : f x with
  | none => rw [e1] at h; cases h
  | some p =>
    cases e2 : xs.mapM f with
    | none => rw [e1, e2] at h; cases h
    | some qs =>
      rw [e1, e2] at h
      cases h
      exact ⟨p, qs, rfl, rfl, rfl⟩
theorem dpAll_of (s : SRep K st μ H) {n : Nat} (ih : ∀ d v p, Rep K H μ d v → pdF st n d = some p → Dp K H v p) : ∀ {ds : List D} {vs : List V} {ps : List PyData}, Reps K H μ ds vs → ds.mapM (pdF st n) = some ps → DpAll K H vs ps
  | [], _, _, r, h => by
    subst r
    cases h
    exact .nil
  | d :: ds, _, _, r, h => by
    obtain ⟨v, rs, rfl, r1, r2⟩ := r
    obtain ⟨p, qs, rfl, h1, h2⟩ := mapM_cons_some h
    exact .cons (ih d v p r1 h1) (dpAll_of s ih r2 h2)
theorem dp_of (s : SRep K st μ H) : ∀ (n : Nat) (d : D) (v : V) (p : PyData), Rep K H μ d v → pdF st n d = some p → Dp K H v p := by
  intro n
  induction n with
  | zero =>
    intro d v p r h
    cases d <;> simp only [pdF] at h <;> first | (cases h; rw [show v = _ from r]; constructor) | cases h
  | succ n ih =>
    intro d v p r h
    cases d with
    | non => cases h; rw [show v = _ from r]; constructor
    | bl b => cases h; rw [show v = _ from r]; constructor
    | int i => cases h; rw [show v = _ from r]; constructor
    | str x => cases h; rw [show v = _ from r]; constructor
    | tup ds =>
      obtain ⟨a, vs, rfl, hs, hr⟩ := r
      simp only [pdF, Option.map_eq_some_iff] at h
      obtain ⟨ps, h1, rfl⟩ := h
      exact .tup hs (dpAll_of s ih hr h1)
    | fls ds =>
      obtain ⟨a, vs, rfl, hs, hr⟩ := r
      simp only [pdF, Option.map_eq_some_iff] at h
      obtain ⟨ps, h1, rfl⟩ := h
      exact .lst hs.sq (dpAll_of s ih hr h1)
    | loc m =>
      obtain ⟨a, rfl, hm⟩ := r
      simp only [pdF] at h
      split at h
      · rename_i ds e
        obtain ⟨a', o, e1, e2, vs, rfl, hr⟩ := s.at' _ _ e
        rw [hm] at e1; cases e1
        simp only [Option.map_eq_some_iff] at h
        obtain ⟨ps, h1, rfl⟩ := h
        exact .lst (.inl (.inl e2)) (dpAll_of s ih hr h1)
      · cases h
    | adr a => cases h
    | ty t => cases h
def atomEq : D → D → Option Bool
  | .int i, .int j => some (decide (i = j))
  | .str x, .str y => some (decide (x = y))
  | .bl a, .bl b => some (decide (a = b))
  | .non, .non => some true
  | .non, .int _ => some false
  | .int _, .non => some false
  | .non, .str _ => some false
  | .str _, .non => some false
  | .non, .bl _ => some false
  | .bl _, .non => some false
  | .int _, .str _ => some false
  | .str _, .int _ => some false
  | _, _ => none
def dEqB (f : Bool → Bool) : D2 := fun x y st Q => match atomEq x y with
  | some b => Q (.bl (f b)) st
  | none => ∃ n d e, pdF st n x = some d ∧ pdF st n y = some e ∧ SeqAt.shaped d = true ∧ SeqAt.shaped e = true ∧ Q (.bl (f (PyData.eqv d e))) st
abbrev dEq : D2 := dEqB id
abbrev dNe : D2 := dEqB not
theorem atomEq_ok {x y : D} {v u : V} {b : Bool} (h : atomEq x y = some b) (rx : Rep K H μ x v) (ry : Rep K H μ y u) : scal v u = true ∧ decide (v = u) = b := by
  cases x <;> cases y <;> simp only [atomEq] at h <;> first | (cases h; done) | skip
  all_goals
    cases h
    rw [show v = _ from rx, show u = _ from ry]
    refine ⟨rfl, ?_⟩
    simp
theorem eq_ok : DOp K (fun x y H Q => rEq x y H Q ∨ rEqD K x y H Q) dEq := by
  intro H μ st x y v u Qd Q s rx ry h hQ
  unfold dEq dEqB at h
  split at h
  · rename_i b e
    obtain ⟨h1, h2⟩ := atomEq_ok e rx ry
    exact .inl ⟨h1, by rw [h2]; exact hQ _ _ _ _ _ h (Ext.refl _ _) s rfl⟩
  · obtain ⟨n, d, e, h1, h2, h3, h4, q⟩ := h
    exact .inr ⟨d, e, dp_of s n x v d rx h1, dp_of s n y u e ry h2, h3, h4, hQ _ _ _ _ _ q (Ext.refl _ _) s rfl⟩
theorem ne_ok : DOp K (fun x y H Q => rNe x y H Q ∨ rNeD K x y H Q) dNe := by
  intro H μ st x y v u Qd Q s rx ry h hQ
  unfold dNe dEqB at h
  split at h
  · rename_i b e
    obtain ⟨h1, h2⟩ := atomEq_ok e rx ry
    exact .inl ⟨h1, by rw [h2]; exact hQ _ _ _ _ _ h (Ext.refl _ _) s rfl⟩
  · obtain ⟨n, d, e, h1, h2, h3, h4, q⟩ := h
    exact .inr ⟨d, e, dp_of s n x v d rx h1, dp_of s n y u e ry h2, h3, h4, hQ _ _ _ _ _ q (Ext.refl _ _) s rfl⟩
/-- an order of ints; of texts, tuples, lists by dataLt -/
def dOrd (f : Int → Int → Bool) (g : PyData → PyData → Bool) : D2 := fun x y st Q => match x, y with
  | .int i, .int j => Q (.bl (f i j)) st
  | x, y => ∃ n d e, pdF st n x = some d ∧ pdF st n y = some e ∧ PySem.W.alike d e = true ∧ d ≠ .none ∧ d.depth ≤ 64 ∧ Q (.bl (g d e)) st
abbrev dLt : D2 := dOrd (fun i j => decide (i < j)) PySem.W.dataLt
abbrev dGt : D2 := dOrd (fun i j => decide (j < i)) fun d e => PySem.W.dataLt e d
abbrev dLe : D2 := dOrd (fun i j => decide (i ≤ j)) fun d e => !PySem.W.dataLt e d
abbrev dGe : D2 := dOrd (fun i j => decide (j ≤ i)) fun d e => !PySem.W.dataLt d e
def rOrdD (K : PySem.W.Frag) (g : PyData → PyData → Bool) : R2 := fun x y H Q => ∃ d e, Dp K H x d ∧ Dp K H y e ∧ PySem.W.alike d e = true ∧ d ≠ .none ∧ d.depth ≤ 64 ∧ Q (.bl (g d e)) H
theorem ord_ok {f : Int → Int → Bool} {g : PyData → PyData → Bool} : DOp K (fun x y H Q => rI0 (fun i j => .bl (f i j)) x y H Q ∨ rOrdD K g x y H Q) (dOrd f g) := by
  intro H μ st x y v u Qd Q s rx ry h hQ
  unfold dOrd at h
  split at h
  · exact .inl ⟨_, _, rx, ry, hQ _ _ _ _ _ h (Ext.refl _ _) s rfl⟩
  · obtain ⟨n, d, e, h1, h2, h3, h4, h5, q⟩ := h
    exact .inr ⟨d, e, dp_of s n _ v d rx h1, dp_of s n _ u e ry h2, h3, h4, h5, hQ _ _ _ _ _ q (Ext.refl _ _) s rfl⟩
end
section
variable {X : Cx}
theorem op_ordD {op : CmpOp} {g : PyData → PyData → Bool} (hu : X.A.units + 64 < cLine)
    (rule : ∀ (s : Shared) (E : Value → Shared → Prop) (a b : Value) (da db : PyData) (as bs : List Addr) (Q : Value → Shared → Prop), Reads s.heap a da as → Reads s.heap b db bs → PySem.W.alike da db = true → da ≠ .none → X.A.units + min da.depth db.depth < cLine → Q (.bool (g da db)) s → wpAny (model X.prog X.w) X.A (compareOp op a b) Q E s) :
    OpR X (compareOp op) (rOrdD X.K g) := by
  intro pins s σ H x y v u Q I rx ry h
  obtain ⟨d, e, hd, he, ha, hn, hdp, q⟩ := h
  obtain ⟨as, r1⟩ := Dp.reads I d x v hd rx
  obtain ⟨bs, r2⟩ := Dp.reads I e y u he ry
  have hm : min d.depth e.depth ≤ d.depth := Nat.min_le_left _ _
  exact rule s _ v u d e as bs _ r1 r2 ha hn (by omega) ⟨.bl _, H, I, rfl, q⟩
theorem op_ltA (hu : X.A.units + 64 < cLine) : OpR X (compareOp .Lt) (rOrdD X.K PySem.W.dataLt) := op_ordD hu fun _ _ _ _ _ _ _ _ _ h1 h2 h3 h4 h5 q => PySem.W.lt_data h1 h2 h3 h4 h5 q
theorem op_gtA (hu : X.A.units + 64 < cLine) : OpR X (compareOp .Gt) (rOrdD X.K fun d e => PySem.W.dataLt e d) := op_ordD hu fun _ _ _ _ _ _ _ _ _ h1 h2 h3 h4 h5 q => PySem.W.gt_data h1 h2 h3 h4 h5 q
theorem op_leA (hu : X.A.units + 64 < cLine) : OpR X (compareOp .LtE) (rOrdD X.K fun d e => !PySem.W.dataLt e d) := op_ordD hu fun _ _ _ _ _ _ _ _ _ h1 h2 h3 h4 h5 q => PySem.W.le_data h1 h2 h3 h4 h5 q
theorem op_geA (hu : X.A.units + 64 < cLine) : OpR X (compareOp .GtE) (rOrdD X.K fun d e => !PySem.W.dataLt d e) := op_ordD hu fun _ _ _ _ _ _ _ _ _ h1 h2 h3 h4 h5 q => PySem.W.ge_data h1 h2 h3 h4 h5 q
/-- a comparison, by values: the operator's rule and its data form -/
structure Cm (X : Cx) (op : CmpOp) (dr : D2) : Prop where
  ex : ∃ r, OpR X (compareOp op) r ∧ DOp X.K r dr
theorem cm_eq (hu : X.A.units + 64 < cLine) : Cm X .Eq dEq := ⟨_, op_eq.or (op_eqD hu), eq_ok⟩
theorem cm_ne (hu : X.A.units + 64 < cLine) : Cm X .NotEq dNe := ⟨_, op_ne.or (op_neD hu), ne_ok⟩
theorem cm_lt (hu : X.A.units + 64 < cLine) : Cm X .Lt dLt := ⟨_, op_lt.or (op_ltA hu), ord_ok⟩
theorem cm_gt (hu : X.A.units + 64 < cLine) : Cm X .Gt dGt := ⟨_, op_gt.or (op_gtA hu), ord_ok⟩
theorem cm_le (hu : X.A.units + 64 < cLine) : Cm X .LtE dLe := ⟨_, op_le.or (op_leA hu), ord_ok⟩
theorem cm_ge (hu : X.A.units + 64 < cLine) : Cm X .GtE dGe := ⟨_, op_ge.or (op_geA hu), ord_ok⟩
/-- is None, is not None -/
def isNonD : D → Bool
  | .non => true
  | _ => false
def dIsN (f : Bool → Bool) : D2 := fun x y st Q => match y with | .non => Q (.bl (f (isNonD x))) st | _ => False
theorem isNon_ok {K : PySem.W.Frag} {H : Hp} {μ : List Addr} {x : D} {v : V} (r : Rep K H μ x v) : decide (v = .non) = isNonD x := by
  cases x with
  | non => rw [show v = _ from r]; rfl
  | bl _ => rw [show v = _ from r]; rfl
  | int _ => rw [show v = _ from r]; rfl
  | str _ => rw [show v = _ from r]; rfl
  | adr _ => rw [show v = _ from r]; rfl
  | ty _ => rw [show v = _ from r]; rfl
  | tup _ => obtain ⟨a, vs, rfl, _⟩ := r; rfl
  | fls _ => obtain ⟨a, vs, rfl, _⟩ := r; rfl
  | loc _ => obtain ⟨a, rfl, _⟩ := r; rfl
theorem cm_is : Cm X .Is (dIsN id) := ⟨_, op_isN, fun {H μ st x y v u Qd Q} s rx ry h hQ => by
  cases y <;> first | exact (show False from h).elim | skip
  exact ⟨ry, by rw [isNon_ok rx]; exact hQ _ _ _ _ _ h (Ext.refl _ _) s rfl⟩⟩
theorem cm_isnot : Cm X .IsNot (dIsN not) := ⟨_, op_notN, fun {H μ st x y v u Qd Q} s rx ry h hQ => by
  cases y <;> first | exact (show False from h).elim | skip
  exact ⟨ry, by rw [isNon_ok rx]; exact hQ _ _ _ _ _ h (Ext.refl _ _) s rfl⟩⟩
/-- x in (a, b, ..), [a, b, ..]: flat items -/
def flatD : D → Bool
  | .non => true
  | .bl _ => true
  | .int _ => true
  | .str _ => true
  | _ => false
/-- a flat datum as a value -/
def flatVal : D → V
  | .bl b => .bl b
  | .int i => .int i
  | .str x => .str x
  | _ => .non
def inD (x : D) (ds : List D) : Bool := inV (flatVal x) (ds.map flatVal)
def itemsD (st : Sto) : D → Option (List D)
  | .tup ds => some ds
  | .fls ds => some ds
  | .loc n => match st[n]? with | some (.lst ds) => some ds | _ => none
  | _ => none
def dIn (neg : Bool) : D2 := fun x y st Q => ∃ ds, itemsD st y = some ds ∧ flatD x = true ∧ ds.all flatD = true ∧ Q (.bl (if neg then !inD x ds else inD x ds)) st
theorem flat_rep {K : PySem.W.Frag} {H : Hp} {μ : List Addr} {x : D} {v : V} (r : Rep K H μ x v) (h : flatD x = true) : v = flatVal x ∧ flatV v = true := by
  cases x <;> first | (cases h; done) | skip
  all_goals
    rw [show v = _ from r]
    exact ⟨rfl, rfl⟩
theorem flats_rep {K : PySem.W.Frag} {H : Hp} {μ : List Addr} : ∀ {ds : List D} {vs : List V}, Reps K H μ ds vs → ds.all flatD = true → vs = ds.map flatVal ∧ vs.all flatV = true
  | [], _, r, _ => by subst r; exact ⟨rfl, rfl⟩
  | d :: ds, _, r, h => by
    obtain ⟨v, rs, rfl, r1, r2⟩ := r
    simp only [List.all_cons, Bool.and_eq_true] at h
    obtain ⟨e1, e2⟩ := flat_rep r1 h.1
    obtain ⟨e3, e4⟩ := flats_rep r2 h.2
    subst e1 e3
    exact ⟨rfl, by simp only [List.all_cons, Bool.and_eq_true]; exact ⟨e2, e4⟩⟩
theorem items_ok {K : PySem.W.Frag} {H : Hp} {μ : List Addr} {st : Sto} {y : D} {u : V} {ds : List D} (s : SRep K st μ H) (r : Rep K H μ y u) (h : itemsD st y = some ds) : ∃ p vs, u = .ref p ∧ (SqL K H p vs ∨ SqT K H p vs) ∧ Reps K H μ ds vs := by
  cases y <;> simp only [itemsD] at h <;> first | (cases h; done) | skip
  · cases h
    obtain ⟨a, vs, rfl, hs, hr⟩ := r
    exact ⟨a, vs, rfl, .inr hs, hr⟩
  · cases h
    obtain ⟨a, vs, rfl, hs, hr⟩ := r
    exact ⟨a, vs, rfl, .inl hs.sq, hr⟩
  · obtain ⟨a, rfl, hn⟩ := r
    split at h
    · rename_i ds' e
      cases h
      obtain ⟨a', o, e1, e2, vs, rfl, hr⟩ := s.at' _ _ e
      rw [hn] at e1; cases e1
      exact ⟨a, vs, rfl, .inl (.inl (.inl e2)), hr⟩
    · cases h
theorem in_ok {K : PySem.W.Frag} {neg : Bool} : DOp K (rIn K neg) (dIn neg) := by
  intro H μ st x y v u Qd Q s rx ry h hQ
  obtain ⟨ds, h1, h2, h3, q⟩ := h
  obtain ⟨p, vs, rfl, hs, hr⟩ := items_ok s ry h1
  obtain ⟨e1, f1⟩ := flat_rep rx h2
  obtain ⟨e2, f2⟩ := flats_rep hr h3
  refine ⟨p, vs, rfl, hs, f1, f2, ?_⟩
  subst e1 e2
  exact hQ _ _ _ _ _ q (Ext.refl _ _) s rfl
theorem cm_in : Cm X .In (dIn false) := ⟨_, op_in_seq, in_ok⟩
end
section
variable {X : Cx} {W : WX} {a b c e : Expr} {ta tb tc : DTE} {pos : Pos} {op op' : CmpOp} {dr dr' : D2}
theorem de_cm (C : Cm X op dr) (hm : behindInMarks op b = false) (ha : DE X W a ta) (hb : DE X W b tb) : DE X W (.Compare a [op] [b] pos) (dOp dr ta tb) := by
  obtain ⟨r, ho, hr⟩ := C.ex
  exact de_cmp ho hr hm ha hb
theorem dt_cm (C : Cm X op dr) (hm : behindInMarks op b = false) (ha : DE X W a ta) (hb : DE X W b tb) : DT X W (.Compare a [op] [b] pos) (dTest (dOp dr ta tb)) := by
  obtain ⟨r, ho, hr⟩ := C.ex
  exact dt_cmp ho hr hm ha hb
end
end DL
namespace DL
open PySem L2 PySem.Spec
open PyProof.Rows hiding St
variable [TC : TabCtx]
section
variable {K : PySem.W.Frag} {H : Hp} {μ : List Addr} {st : Sto}
theorem CallR.or {X : Cx} {f : Value} {r r' : List V → Hp → VK → Prop} (h : CallR X f r) (h' : CallR X f r') : CallR X f (fun xs H Q => r xs H Q ∨ r' xs H Q) := by
  intro pins s σ H xs us Q I r q
  rcases q with q | q
  · exact h pins s σ H xs us Q I r q
  · exact h' pins s σ H xs us Q I r q
theorem reps1 {d : D} {vs : List V} (h : Reps K H μ [d] vs) : ∃ v, vs = [v] ∧ Rep K H μ d v := by
  obtain ⟨v, r, rfl, h1, h2⟩ := h
  exact ⟨v, by rw [show r = [] from h2], h1⟩
theorem reps2 {d e : D} {vs : List V} (h : Reps K H μ [d, e] vs) : ∃ v u, vs = [v, u] ∧ Rep K H μ d v ∧ Rep K H μ e u := by
  obtain ⟨v, r, rfl, h1, u, r2, rfl, h2, h3⟩ := h
  exact ⟨v, u, by rw [show r2 = [] from h3], h1, h2⟩
/-- len -/
def lenD (st : Sto) : D → (Nat → Prop) → Prop
  | .str z, Q => z.length ≤ sizeLine ∧ Q z.length
  | .tup ds, Q => Q ds.length
  | .fls ds, Q => Q ds.length
  | .loc n, Q => match st[n]? with | some (.lst ds) => Q ds.length | _ => False
  | _, _ => False
def dLen : DN := fun ds st Q => match ds with | [d] => lenD st d fun n => Q (.int n) st | _ => False
theorem len_ok : DCl K (fun xs H Q => (∃ p ys, xs = [.ref p] ∧ (SqL K H p ys ∨ SqT K H p ys) ∧ Q (.int ys.length) H) ∨ ∃ z, xs = [.str z] ∧ z.length ≤ sizeLine ∧ Q (.int z.length) H) dLen := by
  intro H μ st ds vs Qd Q s r h hQ
  match ds, r, h with
  | [d], r, h =>
    obtain ⟨v, rfl, r1⟩ := reps1 r
    cases d with
    | str z => rw [show v = _ from r1]; exact .inr ⟨z, rfl, h.1, hQ _ _ _ _ _ h.2 (Ext.refl _ _) s rfl⟩
    | tup ds =>
      obtain ⟨a, vs, rfl, hs, hr⟩ := r1
      exact .inl ⟨a, vs, rfl, .inr hs, by rw [← hr.length]; exact hQ _ _ _ _ _ h (Ext.refl _ _) s rfl⟩
    | fls ds =>
      obtain ⟨a, vs, rfl, hs, hr⟩ := r1
      exact .inl ⟨a, vs, rfl, .inl hs.sq, by rw [← hr.length]; exact hQ _ _ _ _ _ h (Ext.refl _ _) s rfl⟩
    | loc n =>
      obtain ⟨a, rfl, hn⟩ := r1
      simp only [dLen, lenD] at h
      split at h
      · rename_i ds e
        obtain ⟨a', o, e1, e2, vs, rfl, hr⟩ := s.at' _ _ e
        rw [hn] at e1; cases e1
        exact .inl ⟨a, vs, rfl, .inl (.inl (.inl e2)), by rw [← hr.length]; exact hQ _ _ _ _ _ h (Ext.refl _ _) s rfl⟩
      · exact h.elim
    | _ => exact (show False from h).elim
/-- abs, int -/
def dAbs : DN := fun ds st Q => match ds with | [.int i] => Q (.int (if i < 0 then -i else i)) st | _ => False
theorem abs_ok : DCl K (fun xs H Q => ∃ i, xs = [.int i] ∧ Q (.int (if i < 0 then -i else i)) H) dAbs := by
  intro H μ st ds vs Qd Q s r h hQ
  unfold dAbs at h
  split at h
  · exact ⟨_, r.ints1, hQ _ _ _ _ _ h (Ext.refl _ _) s rfl⟩
  · exact h.elim
def dInt : DN := fun ds st Q => match ds with
  | [.int i] => Q (.int i) st
  | [.bl k] => Q (.int (if k then 1 else 0)) st
  | [.str a] => ∃ n, PySem.intText? a = some n ∧ a.length ≤ 640 ∧ Q (.int n) st
  | _ => False
theorem int_ok : DCl K (fun xs H Q => ((∃ i, xs = [.int i] ∧ Q (.int i) H) ∨ ∃ k, xs = [.bl k] ∧ Q (.int (if k then 1 else 0)) H) ∨ ∃ a n, xs = [.str a] ∧ PySem.intText? a = some n ∧ a.length ≤ 640 ∧ Q (.int n) H) dInt := by
  intro H μ st ds vs Qd Q s r h hQ
  unfold dInt at h
  split at h
  · exact .inl (.inl ⟨_, r.ints1, hQ _ _ _ _ _ h (Ext.refl _ _) s rfl⟩)
  · obtain ⟨v, rfl, r1⟩ := reps1 r
    exact .inl (.inr ⟨_, by rw [show v = _ from r1], hQ _ _ _ _ _ h (Ext.refl _ _) s rfl⟩)
  · obtain ⟨v, rfl, r1⟩ := reps1 r
    obtain ⟨n, h1, h2, q⟩ := h
    exact .inr ⟨_, n, by rw [show v = _ from r1], h1, h2, hQ _ _ _ _ _ q (Ext.refl _ _) s rfl⟩
  · exact h.elim
/-- tuple(..), list(..) -/
def dTupOf : DN := fun ds st Q => match ds with | [d] => (match itemsD st d with | some es => Q (.tup es) st | none => False) | _ => False
theorem tupOf_ok : DCl K (fun xs H Q => ∃ p ys, xs = [.ref p] ∧ ((SqL K H p ys ∧ ∀ l, H l = none → Q (.ref l) (upd H l (.tup ys))) ∨ (SqT K H p ys ∧ Q (.ref p) H))) dTupOf := by
  intro H μ st ds vs Qd Q s r h hQ
  match ds, r, h with
  | [d], r, h =>
    obtain ⟨v, rfl, r1⟩ := reps1 r
    simp only [dTupOf] at h
    split at h
    · rename_i es e
      obtain ⟨p, vs, rfl, hs, hr⟩ := items_ok s r1 e
      refine ⟨p, vs, rfl, ?_⟩
      rcases hs with hs | hs
      · exact .inl ⟨hs, fun l hl => hQ.tup (Ext.refl _ _) s hr h hl⟩
      · exact .inr ⟨hs, hQ _ _ _ _ _ h (Ext.refl _ _) s ⟨p, vs, rfl, hs, hr⟩⟩
    · exact h.elim
def dLstOf : DN := fun ds st Q => match ds with | [d] => (match itemsD st d with | some es => Q (.loc st.length) (st ++ [.lst es]) | none => False) | _ => False
/-- all, any of bools -/
theorem reps_bools : ∀ {bs : List Bool} {vs : List V}, Reps K H μ (bs.map D.bl) vs → vs = bs.map V.bl
  | [], _, r => r
  | b :: bs, _, r => by
    obtain ⟨v, rs, rfl, r1, r2⟩ := r
    rw [show v = _ from r1, reps_bools r2]
    rfl
def dAll : DN := fun ds st Q => match ds with | [.loc n] => ∃ bs : List Bool, st[n]? = some (.lst (bs.map .bl)) ∧ Q (.bl (bs.all id)) st | _ => False
def dAny : DN := fun ds st Q => match ds with | [.loc n] => ∃ bs : List Bool, st[n]? = some (.lst (bs.map .bl)) ∧ Q (.bl (bs.any id)) st | _ => False
theorem all_ok : DCl K (rAll K) dAll := by
  intro H μ st ds vs Qd Q s r h hQ
  unfold dAll at h
  split at h
  · obtain ⟨v, rfl, a, rfl, hn⟩ := reps1 r
    obtain ⟨bs, hb, q⟩ := h
    obtain ⟨a', o, e1, e2, vs, rfl, hr⟩ := s.at' _ _ hb
    rw [hn] at e1; cases e1
    rw [reps_bools hr] at e2
    exact ⟨a, bs, rfl, .inl (.inl e2), hQ _ _ _ _ _ q (Ext.refl _ _) s rfl⟩
  · exact h.elim
/-- append, extend, pop, clear, reverse of a list of the store -/
def dAppend : DM := fun x ds st Q => match x, ds with | .loc n, [d] => ∃ es, st[n]? = some (.lst es) ∧ es.length < sizeLine ∧ Q .non (st.set n (.lst (es ++ [d]))) | _, _ => False
theorem append_ok : DMt K rAppend dAppend := by
  intro H μ st x v ds vs Qd Q s rx rs h hQ
  unfold dAppend at h
  split at h
  · obtain ⟨u, rfl, ru⟩ := reps1 rs
    obtain ⟨a, rfl, hn⟩ := rx
    obtain ⟨es, he, hz, q⟩ := h
    obtain ⟨a', o, e1, e2, vs, rfl, hr⟩ := s.at' _ _ he
    rw [hn] at e1; cases e1
    have w := s.write (o' := .lst (vs ++ [u])) (b := .lst (es ++ [_])) hn e2 ⟨_, rfl, hr.append (Reps.one ru)⟩
    exact ⟨a, vs, u, rfl, rfl, e2, by rw [← hr.length]; exact hz, hQ _ _ _ _ _ q w.1 w.2 rfl⟩
  · exact h.elim
def dExtend : DM := fun x ds st Q => match x, ds with | .loc n, [.loc m] => ∃ es fs, st[n]? = some (.lst es) ∧ st[m]? = some (.lst fs) ∧ es.length + fs.length ≤ sizeLine ∧ Q .non (st.set n (.lst (es ++ fs))) | _, _ => False
theorem extend_ok : DMt K rExtend dExtend := by
  intro H μ st x v ds vs Qd Q s rx rs h hQ
  unfold dExtend at h
  split at h
  · obtain ⟨u, rfl, b, rfl, hm⟩ := reps1 rs
    obtain ⟨a, rfl, hn⟩ := rx
    obtain ⟨es, fs, he, hf, hz, q⟩ := h
    obtain ⟨a', o, e1, e2, vs, rfl, hr⟩ := s.at' _ _ he
    rw [hn] at e1; cases e1
    obtain ⟨b', o, e1, e3, us, rfl, hr'⟩ := s.at' _ _ hf
    rw [hm] at e1; cases e1
    have w := s.write (o' := .lst (vs ++ us)) (b := .lst (es ++ fs)) hn e2 ⟨_, rfl, hr.append hr'⟩
    exact ⟨a, b, vs, us, rfl, rfl, e2, e3, by rw [← hr.length, ← hr'.length]; exact hz, hQ _ _ _ _ _ q w.1 w.2 rfl⟩
  · exact h.elim
end
section
variable {X : Cx} {W : WX} {e : Expr} {es : List Expr} {t : DTA} {pos p apos : Pos} {o : Expr} {to : DTE}
/-- the calls; each x is a built-in's name that the module does not take -/
theorem de_len (hg : Gl X "len") (hm : X.mg "len" = none) (ha : DA X W (e :: es) t) (he : starEach (e :: es) X.env = (false, eval e X.env) :: starEach es X.env := by rfl) (hpl : (backTo pos (starEach es X.env)).any (·.1) = false := by rfl) :
    DE X W (.Call (.Name "len" p) (e :: es) [] pos) (dCB dLen t) := de_callB (CallR.or call_len_seq call_len_str) len_ok hg hm PySem.boot_len ha (by decide) (by decide) he hpl
theorem de_abs (hg : Gl X "abs") (hm : X.mg "abs" = none) (ha : DA X W (e :: es) t) (he : starEach (e :: es) X.env = (false, eval e X.env) :: starEach es X.env := by rfl) (hpl : (backTo pos (starEach es X.env)).any (·.1) = false := by rfl) :
    DE X W (.Call (.Name "abs" p) (e :: es) [] pos) (dCB dAbs t) := de_callB call_abs abs_ok hg hm PyProof.Rows.boot_abs ha (by decide) (by decide) he hpl
theorem de_int' (hg : Gl X "int") (hm : X.mg "int" = none) (ha : DA X W (e :: es) t) (he : starEach (e :: es) X.env = (false, eval e X.env) :: starEach es X.env := by rfl) (hpl : (backTo pos (starEach es X.env)).any (·.1) = false := by rfl) :
    DE X W (.Call (.Name "int" p) (e :: es) [] pos) (dCB dInt t) := de_callTy (CallR.or call_int1 call_int_str) int_ok hg hm PyProof.Rows.boot_int ha (by decide) (by decide) he hpl
theorem de_tuple (hg : Gl X "tuple") (hm : X.mg "tuple" = none) (ha : DA X W (e :: es) t) (he : starEach (e :: es) X.env = (false, eval e X.env) :: starEach es X.env := by rfl) (hpl : (backTo pos (starEach es X.env)).any (·.1) = false := by rfl) :
    DE X W (.Call (.Name "tuple" p) (e :: es) [] pos) (dCB dTupOf t) := de_callTy call_tuple_of tupOf_ok hg hm PyProof.Rows.boot_tuple ha (by decide) (by decide) he hpl
theorem de_all (hc : X.calm = true) (hg : Gl X "all") (hm : X.mg "all" = none) (ha : DA X W (e :: es) t) (he : starEach (e :: es) X.env = (false, eval e X.env) :: starEach es X.env := by rfl) (hpl : (backTo pos (starEach es X.env)).any (·.1) = false := by rfl) :
    DE X W (.Call (.Name "all" p) (e :: es) [] pos) (dCB dAll t) := de_callB (cr_all hc) all_ok hg hm PyProof.Rows.boot_all ha (by decide) (by decide) he hpl
theorem de_append (ho : DE X W o to) (ha : DA X W [e] t) (hbase : attributeBase o "append" X.env (eval o X.env) = eval o X.env := by rfl)
    (hfew : ((backTo pos (starEach [e] X.env)).all (fun x => !x.1) && (backToKw pos (keywordEach [] X.env)).all (fun x => x.1.isSome) && decide ([e].length + ([] : List Keyword).length + (if ([] : List Keyword).isEmpty then 0 else 1) < 30)) = true := by rfl)
    (hline : (apos.endLine == pos.line) = true := by rfl) (hs : starEach [e] X.env = (false, eval e X.env) :: starEach [] X.env := by rfl) (hplain : (backTo pos (starEach [] X.env)).any (·.1) = false := by rfl) :
    DE X W (.Call (.Attribute o "append" apos) [e] [] pos) (dBM "list" dAppend to t) := de_bm PySem.F.plainAttrs_list PySem.F.slot_list_append PySem.F.type_list_append mt_append append_ok ho ha hbase hfew hline hs hplain
theorem de_extend (ho : DE X W o to) (ha : DA X W [e] t) (hbase : attributeBase o "extend" X.env (eval o X.env) = eval o X.env := by rfl)
    (hfew : ((backTo pos (starEach [e] X.env)).all (fun x => !x.1) && (backToKw pos (keywordEach [] X.env)).all (fun x => x.1.isSome) && decide ([e].length + ([] : List Keyword).length + (if ([] : List Keyword).isEmpty then 0 else 1) < 30)) = true := by rfl)
    (hline : (apos.endLine == pos.line) = true := by rfl) (hs : starEach [e] X.env = (false, eval e X.env) :: starEach [] X.env := by rfl) (hplain : (backTo pos (starEach [] X.env)).any (·.1) = false := by rfl) :
    DE X W (.Call (.Attribute o "extend" apos) [e] [] pos) (dBM "list" dExtend to t) := de_bm PySem.F.plainAttrs_list PySem.F.slot_list_extend PySem.F.type_list_extend mt_extend extend_ok ho ha hbase hfew hline hs hplain
end
end DL
namespace DL
open PySem L2 PySem.Spec
open PyProof.Rows hiding St
variable [TC : TabCtx]
/-- a datum's type, where it is a built-in one -/
def tyN (st : Sto) : D → Option String
  | .non => some "NoneType"
  | .bl _ => some "bool"
  | .int _ => some "int"
  | .str _ => some "str"
  | .tup _ => some "tuple"
  | .fls _ => some "list"
  | .loc n => match st[n]? with
    | some (.lst _) => some "list"
    | some (.dK _) => some "dict"
    | some (.dkF _ _) => some "dict"
    | _ => none
  | _ => none
def tySub (a b : String) : Bool := a == b || (a == "bool" && b == "int")
theorem kitB_ok : ∀ a ∈ ["NoneType", "bool", "int", "str", "tuple", "list", "dict"], ∀ b ∈ ["bool", "int", "str", "tuple", "list", "dict"], kitB a b = some (tySub a b) := by decide +kernel
section
variable {K : PySem.W.Frag} {H : Hp} {μ : List Addr} {st : Sto}
theorem tyN_mem {d : D} {a : String} (h : tyN st d = some a) : a ∈ ["NoneType", "bool", "int", "str", "tuple", "list", "dict"] := by
  cases d <;> simp only [tyN] at h <;> first | (cases h; done) | (cases h; simp; done) | skip
  split at h <;> first | (cases h; simp; done) | cases h
theorem tyN_ok {d : D} {v : V} {a : String} (s : SRep K st μ H) (r : Rep K H μ d v) (h : tyN st d = some a) : TyX K H v (.type a) := by
  cases d with
  | non => cases h; rw [show v = _ from r]; exact .base .non
  | bl b => cases h; rw [show v = _ from r]; exact .base (.bl b)
  | int b => cases h; rw [show v = _ from r]; exact .base (.int b)
  | str b => cases h; rw [show v = _ from r]; exact .base (.str b)
  | tup ds =>
    cases h
    obtain ⟨a, vs, rfl, hs, hr⟩ := r
    rcases hs with (hs | ⟨o, hs⟩) | ⟨o, its, n, hk, hc, _⟩
    · exact .base (.tup hs)
    · exact .fTuple hs
    · exact .kTuple hk hc
  | fls ds =>
    cases h
    obtain ⟨a, vs, rfl, hs, hr⟩ := r
    rcases hs with ⟨o, hs⟩ | ⟨o, its, n, hk, hc, _⟩
    · exact .base (.frz hs)
    · exact .kList hk hc
  | loc n =>
    obtain ⟨a, rfl, hn⟩ := r
    simp only [tyN] at h
    split at h
    · rename_i ds e
      cases h
      obtain ⟨a', o, e1, e2, vs, rfl, hr⟩ := s.at' _ _ e
      rw [hn] at e1; cases e1
      exact .base (.lst e2)
    · rename_i kvs e
      cases h
      obtain ⟨a', o, e1, e2, gs, rfl, hk, hr⟩ := s.at' _ _ e
      rw [hn] at e1; cases e1
      exact .base (.dK e2)
    · rename_i od kvs e
      cases h
      obtain ⟨a', o, e1, e2, gs, rfl, hk, hr⟩ := s.at' _ _ e
      rw [hn] at e1; cases e1
      exact .fDict e2
    · cases h
  | _ => cases h
end
/-- the classes as written: built-in types' names -/
def dIsi (ta : DTE) (Ts : List String) : DTE := fun ρ st Q Z => ta ρ st (fun x st1 => match tyN st1 x with | some a => Q (.bl (Ts.any (tySub a))) st1 | none => False) Z
theorem kitAny_ok {K : PySem.W.Frag} {a : String} (ha : a ∈ ["NoneType", "bool", "int", "str", "tuple", "list", "dict"]) : ∀ {Ts : List String}, (∀ T ∈ Ts, T ∈ ["bool", "int", "str", "tuple", "list", "dict"]) → PySem.W.kitAny K (.type a) (Ts.map Value.type) = some (Ts.any (tySub a))
  | [], _ => rfl
  | T :: Ts, h => by
    refine kitAny_cons (b := tySub a T) (kit_ty (kitB_ok a ha T (h T List.mem_cons_self))) (fun e => ?_) fun e => ?_
    · simp only [List.any_cons, e, Bool.false_or]
      exact kitAny_ok ha fun T' m => h T' (List.mem_cons_of_mem _ m)
    · simp only [List.any_cons, e, Bool.true_or]
section
variable {X : Cx} {W : WX} {e c c1 c2 : Expr} {es : List Expr} {ta : DTE} {pos p tpos : Pos} {T T1 T2 : String}
theorem de_isi (hg : Gl X "isinstance") (hm : X.mg "isinstance" = none) (ha : DE X W e ta) (hc : PE X c (tC (.ty T))) (hT : T ∈ ["bool", "int", "str", "tuple", "list", "dict"] := by decide)
    (hs1 : starEach [e, c] X.env = (false, eval e X.env) :: starEach [c] X.env := by rfl) (hs2 : starEach [c] X.env = (false, eval c X.env) :: starEach [] X.env := by rfl) (hpl : (backTo pos (starEach [c] X.env)).any (·.1) = false := by rfl) :
    DE X W (.Call (.Name "isinstance" p) [e, c] [] pos) (dIsi ta [T]) :=
  pe_weak (pe_callB call_isi hg hm PyProof.Rows.boot_isinstance (pa_cons ha (pa_cons hc pa_nil hs2) hs1) (by decide) (by decide) hs1 hpl) fun σ H Q ⟨ρ, st, μ, Qd, Z, hS, ht, hQ, hZ⟩ =>
    ⟨ρ, st, μ, _, Z, hS, ht, fun x st1 H1 μ1 v hx e1 s1 rv => by
      dsimp only at hx
      split at hx
      · rename_i a ea
        have h1 := kitB_ok a (tyN_mem ea) T hT
        have h2 : ([T].any (tySub a)) = tySub a T := by simp
        rw [h2] at hx
        exact ⟨v, .ty T, .type a, .type T, tySub a T, rfl, .ty T, tyN_ok s1 rv ea, kit_ty h1, hQ _ _ _ _ _ hx e1 s1 rfl⟩
      · exact hx.elim, hZ⟩
/-- the classes as a written pair -/
theorem de_isi2 {kk : Nat} (hg : Gl X "isinstance") (hm : X.mg "isinstance" = none) (ha : DE X W e ta) (h1 : PE X c1 (tC (.ty T1))) (h2 : PE X c2 (tC (.ty T2))) (hT : ∀ T ∈ [T1, T2], T ∈ ["bool", "int", "str", "tuple", "list", "dict"] := by decide)
    (hs1 : starEach [e, .Tuple [c1, c2] kk tpos] X.env = (false, eval e X.env) :: starEach [.Tuple [c1, c2] kk tpos] X.env := by rfl) (hs2 : starEach [.Tuple [c1, c2] kk tpos] X.env = (false, eval (.Tuple [c1, c2] kk tpos) X.env) :: starEach [] X.env := by rfl)
    (hs3 : starEach [c1, c2] X.env = (false, eval c1 X.env) :: starEach [c2] X.env := by rfl) (hs4 : starEach [c2] X.env = (false, eval c2 X.env) :: starEach [] X.env := by rfl) (hpl : (backTo pos (starEach [.Tuple [c1, c2] kk tpos] X.env)).any (·.1) = false := by rfl) :
    DE X W (.Call (.Name "isinstance" p) [e, .Tuple [c1, c2] kk tpos] [] pos) (dIsi ta [T1, T2]) :=
  pe_weak (pe_callB call_isiT hg hm PyProof.Rows.boot_isinstance (pa_cons ha (pa_cons (pe_tup (pa_cons h1 (pa_cons h2 pa_nil hs4) hs3)) pa_nil hs2) hs1) (by decide) (by decide) hs1 hpl) fun σ H Q ⟨ρ, st, μ, Qd, Z, hS, ht, hQ, hZ⟩ =>
    ⟨ρ, st, μ, _, Z, hS, ht, fun x st1 H1 μ1 v hx e1 s1 rv => by
      dsimp only at hx
      split at hx
      · rename_i a ea
        refine ⟨by show 2 ≤ sizeLine; decide, fun q hq => ?_⟩
        have x2 := Ext.laid (μ := μ1) (o := .tup [.ty T1, .ty T2]) hq
        have s2 := s1.laid (o := .tup [.ty T1, .ty T2]) hq
        exact ⟨v, q, [.ty T1, .ty T2], .type a, [.type T1, .type T2], _, rfl, upd_same, .cons (.ty T1) (.cons (.ty T2) .nil), tyN_ok s2 (rv.mono x2) ea, kitAny_ok (tyN_mem ea) hT, hQ _ _ _ _ _ hx (e1.trans x2) s2 rfl⟩
      · exact hx.elim, hZ⟩
/-- a built-in type's name, a built-in as a value -/
theorem pe_ty {x : Str} (hg : Gl X x) (hm : X.mg x = none) (hv : bootBuiltins x = some (.type T)) (hn : x ≠ "__name__" := by decide) (hd : (x == ("__debug__" : Str)) = false := by decide) : PE X (.Name x pos) (tC (.ty T)) := pe_bltn hg hm hv rfl hn hd
end
end DL
namespace DL
open PySem L2 PySem.Spec
open PyProof.Rows hiding St
open PySem.W (AllAlike Sortable dataLe EachIs)
variable [TC : TabCtx]
section
variable {prog : Program} {w : World} {A : Around} {E : Value → Shared → Prop} {s : Shared}
theorem sorted_seq {it : Addr} {T : String} {o : Obj} {vs : List Value} {n : Nat} {kw : List (Str × Value)} {Q : Value → Shared → Prop} (hT : T = "list" ∨ T = "tuple") (ho : s.heap.get? it = some o) (hc : o.cls = .type T) (hd : o.data = .seq vs.toArray n) (hL : vs.length ≤ sizeLine)
    (ha1 : argsOk "sorted" ⟨[.ref it], kw⟩) (ha2 : ∀ x, argsOk "list.sort" ⟨[.ref x], kw⟩)
    (body : ∀ (h1 : Heap) (E' : Value → Shared → Prop), (∀ b o', s.heap.get? b = some o' → h1.get? b = some o') →
      wpAny (model prog w) A.in1.in1 (Builtin.«list.sort» ⟨[.ref h1.objs.size], kw⟩) (fun f s' => f = .done (.ret .none) ∧ Q (.ref h1.objs.size) s') E' { s with heap := h1.push (seqObj "list" vs.toArray 0) }) :
    wpAny (model prog w) A (call (.builtin "sorted") [.ref it] kw) Q E s := by
  refine call_function_entry_kw kind_sorted plain_sorted entry_sorted ha1 ?_
  unfold Builtin.«sorted»
  refine wpAny_bind (m := checkCount "sorted" 1 1 _) (wpAny_pure ?_)
  refine wpAny_bind (wpAny_collect_seq it hT ho hc hd (fun h1 k => ?_) (by simpa using hL))
  simp only [List.toList_toArray]
  refine wpAny_bind (wpAny_newList ?_ hL)
  have hat : (h1.push (seqObj "list" vs.toArray 0)).get? h1.objs.size = some (seqObj "list" vs.toArray 0) := Heap.get?_push_size _ rfl
  show wpAny _ _ _ _ _ { s with heap := h1.push (seqObj "list" vs.toArray 0) }
  refine wpAny_bind (wpAny_holding (wpAny_call_entry_kw slot_list_sort ⟨_, hat, rfl⟩ entry_list_sort ?_ (ha2 _)))
  refine wpAny_mono (body h1 _ k) (fun f s' hf => ?_) fun _ _ e => e
  obtain ⟨rfl, hq⟩ := hf
  exact ⟨_, rfl, wpAny_pure ⟨_, rfl, hq⟩⟩
end
section
variable {K : PySem.W.Frag} {H : Hp} {μ : List Addr} {st : Sto}
theorem reps_zip : ∀ {ds : List D} {vs : List V}, Reps K H μ ds vs → (ds.zip vs).map (·.1) = ds ∧ (ds.zip vs).map (·.2) = vs ∧ ∀ t ∈ ds.zip vs, Rep K H μ t.1 t.2
  | [], _, r => by subst r; exact ⟨rfl, rfl, fun t h => by simp at h⟩
  | d :: ds, _, r => by
    obtain ⟨v, rs, rfl, r1, r2⟩ := r
    obtain ⟨h1, h2, h3⟩ := reps_zip r2
    refine ⟨by simp only [List.zip_cons_cons, List.map_cons, h1], by simp only [List.zip_cons_cons, List.map_cons, h2], fun t ht => ?_⟩
    rcases List.mem_cons.mp ht with e | ht
    · rw [e]; exact r1
    · exact h3 t ht
theorem zip_reps : ∀ {ts : List (D × V)}, (∀ t ∈ ts, Rep K H μ t.1 t.2) → Reps K H μ (ts.map (·.1)) (ts.map (·.2))
  | [], _ => rfl
  | t :: ts, h => ⟨t.2, _, rfl, h t List.mem_cons_self, zip_reps fun u hu => h u (List.mem_cons_of_mem _ hu)⟩
omit TC in
theorem sort_map {α β : Type} (f : α → β) (k : β → PyData) (ts : List α) : (ts.map f).mergeSort (dataLe false k) = (ts.mergeSort (dataLe false fun t => k (f t))).map f :=
  by
  refine (List.map_mergeSort (f := f) (l := ts) (fun _ _ _ _ => ?_)).symm
  rfl
end
end DL
namespace DL
open PySem L2 PySem.Spec
open PyProof.Rows hiding St
open PySem.W (AllAlike Sortable dataLe EachIs)
variable [TC : TabCtx]
theorem readsAll_ints {h : Heap} : ∀ {is : List Int} {vs : List Value} {as : List Addr}, ReadsAll h vs (is.map PyData.int) as → as = []
  | [], _, _, r => by cases r; rfl
  | i :: is, _, _, r => by
    cases r with
    | cons r1 r2 =>
      cases r1
      rw [readsAll_ints r2]
      rfl
theorem reads_ints {h : Heap} {is : List Int} {v : Value} {as : List Addr} (r : Reads h v (.tuple (is.map .int)) as) : Reads h v (.tuple (is.map .int)) [] := by
  have : as = [] := by
    cases r with
    | tuple _ _ _ r => exact readsAll_ints r
  subst this
  exact r
section
variable {prog : Program} {w : World} {A : Around} {E : Value → Shared → Prop} {s : Shared}
/-- the lambda of one parameter that tells its first item, called -/
theorem call_key0 {f c' p : Addr} {q a : Str} {params : Arguments} {scope : Scope} {cl : List (Str × Addr)} {pm ctv k : Value} {items : Array Value} {d : PyData} {p1 p2 p3 : Pos} {j : Nat}
    (hroom : A.depth < recursionLimit) (hf : s.heap.get? f = some (PySem.W.kla_obj "<lambda>" q params (.Subscript (.Name a p1) (.Constant (.int 0) j p2) p3) scope cl pm c' ctv))
    (hco : ∃ (oc : Obj) (vs : Array Value) (t : Tok), s.heap.get? c' = some oc ∧ oc.data = .fields vs ∧ vs[1]? = some (.str q t))
    (hbind : ∀ (q : Str) (cl : List (Str × Addr)) (pm cv ctv v : Value), bindArgs (PySem.W.kla_fn "<lambda>" q params (.Subscript (.Name a p1) (.Constant (.int 0) j p2) p3) scope cl pm cv ctv) ⟨[v], []⟩ = pure [(a, v)])
    (hk : scope.kind = .function) (hc1 : scope.isCoroutine = false) (hg : scope.isGenerator = false) (hcell : ∀ x ∈ scope.names, x.2 ≠ .cell) (hloc : scope.names.lookup a = some .local)
    (lim : s.heap.NoLimit) (ht : IsTup s.heap p items) (h0 : items[0]? = some k) (hr : Reads s.heap k d []) (hz : items.size ≤ sizeLine) (hdb : (a == ("__debug__" : Str)) = false) :
    wpAny (model prog w) A (call (.ref f) [.ref p]) (PySem.W.KeyPure d s) (fun _ _ => False) s := by
  obtain ⟨oc, vs, t, hoc, hd, hv⟩ := hco
  refine wpAny_call (codeAny_mono (R := fun r s' => ∃ v, r = .ok (.ret v) ∧ PySem.W.KeyPure d s v s') ?_ fun r s2 hq => ?_)
  · refine PySem.W.kla_callFunE hroom hf rfl hc1 hg rfl ⟨c', oc, vs, t, rfl, hoc, hd, hv⟩ ?_
    show wpAny _ _ (bindArgs (PySem.W.kla_fn "<lambda>" q params (.Subscript (.Name a p1) (.Constant (.int 0) j p2) p3) scope cl pm (.ref c') ctv) ⟨[.ref p], []⟩) _ _ _
    rw [hbind]
    refine wpAny_pure (wpAny_newFunctionEnv hcell (fun y hy => ?_) (fun h₁ hns hsb => ⟨lim.fresh _ hsb, ?_⟩) hk)
    · rw [List.mem_singleton.mp hy]; exact hloc
    · have kp : ∀ b o, s.heap.get? b = some o → h₁.get? b = some o := fun b o e => hsb.extBut b o (Nat.ne_of_lt (Heap.lt_size e)) (Heap.get?_push_of_some _ e)
      have ht1 : IsTup h₁ p items := ht.keeps kp
      refine PySem.W.kla_codeExpr (wpAny_mono (E := fun _ _ => False) (Q := fun v s' => PySem.W.KeyPure d s v s') ?_ (fun v s' hq => ⟨v, rfl, hq⟩) fun _ _ h => h.elim)
      refine Subscript_ (wpAny_Name (wpAny_loadName_local hk hloc hns (v := .ref p) (by simp) ?_) hdb)
      refine wpAny_Constant_int ?_
      refine subscriptTail_builtinR (x := k) ht1.typeIs slot_tuple_getitem.lookup (getItem_tuple (j := 0) (Q := fun r s' => r = k ∧ PySem.W.KeyPure d s r s') ht1 (by decide) (by decide) ?_ h0 ⟨rfl, ?_⟩) (by with_unfolding_all rfl)
      · have := (Array.getElem?_eq_some_iff.mp h0).1
        exact seqIndex_of (Int.le_refl 0) (by omega)
      · exact ⟨h₁, _, rfl, kp, PyProof.Rows.Reads.keeps kp hr⟩
  · obtain ⟨v, rfl, h⟩ := hq
    exact h
end
section
variable {K : PySem.W.Frag} {H H1 : Hp} {μ : List Addr} {st : Sto}
theorem Ext.ofN (e : LamX.ExtN H H1) : Ext H H1 μ μ := ⟨⟨fun _ _ q => q, fun a xs q => e a _ q fun _ z => (nomatch z), fun a o u q => e a _ q fun _ z => (nomatch z)⟩, fun a o q _ n => e a o q n, fun _ q => .inl q⟩
theorem SRep.ofN (s : SRep K st μ H) (e : LamX.ExtN H H1) (t : LamX.Tabs TC.T H1) : SRep K st μ H1 :=
  s.ext (Ext.ofN e) (fun a o hm q => by
    obtain ⟨_, _, o', _, _, h, r⟩ := s.mem hm
    rw [q] at h
    cases h
    exact e a o q r.plain) t
/-- what sorted by the first items asks, and gives -/
def keyInts (f : D → List Int) : D → PyData := fun e => .tuple ((f e).map .int)
def dSortK : DN := fun ds st Q => match ds with
  | [x] => ∃ es n f, itemsD st x = some es ∧ (∀ e ∈ es, ∃ d r, e = .tup (d :: r) ∧ pdF st n d = some (keyInts f e)) ∧ AllAlike (es.map (keyInts f)) ∧ Sortable (es.map (keyInts f)) ∧ (∀ e ∈ es, (keyInts f e).depth ≤ 60) ∧ Q (.loc st.length) (st ++ [.lst (es.mergeSort (dataLe false (keyInts f)))])
  | _ => False
end
section
variable {X : Cx} {W : WX} {e : Expr} {t : DTA} {pos p lpos kpos p1 p2 p3 : Pos} {params : Arguments} {scope : Scope} {a : Str} {j : Nat} {c P : Addr}
theorem de_sortK (hd : X.A.depth < recursionLimit) (hu : X.A.units + 64 < cLine) (hg : Gl X "sorted") (hm : X.mg "sorted" = none) (TB : LamX.TabB X.base X.mg c P) (hcode : X.env.code = .ref c) (hmT : (P, X.env.qual ++ "<lambda>") ∈ TC.T) (hun : ∀ p ∈ TC.T, p.1 = P → p.2 = X.env.qual ++ "<lambda>")
    (ha : DA X W [e] t) (hdef : defaultsOf params X.env = ([], []) := by rfl)
    (hbind : ∀ (q : Str) (cl : List (Str × Addr)) (pm cv ctv v : Value), bindArgs (PySem.W.kla_fn "<lambda>" q params (.Subscript (.Name a p1) (.Constant (.int 0) j p2) p3) scope cl pm cv ctv) ⟨[v], []⟩ = pure [(a, v)] := by intros; rfl)
    (hk : scope.kind = .function := by rfl) (hc1 : scope.isCoroutine = false := by rfl) (hgn : scope.isGenerator = false := by rfl) (hcell : ∀ x ∈ scope.names, x.2 ≠ .cell := by decide) (hfree : ∀ x ∈ scope.names, x.2 ≠ .free := by decide) (hloc : scope.names.lookup a = some .local := by rfl) (hdb : (a == ("__debug__" : Str)) = false := by decide)
    (he : backTo pos (starEach [e] X.env) = (false, eval e X.env) :: backTo pos (starEach [] X.env) := by rfl) (hpl : (backTo pos (starEach [e] X.env)).any (·.1) = false := by rfl) :
    DE X W (.Call (.Name "sorted" p) [e] [⟨some "key", .Lambda params (.Subscript (.Name a p1) (.Constant (.int 0) j p2) p3) scope lpos, kpos⟩] pos) (dCB dSortK t) := by
  refine ⟨fun pins s σ H Q I ⟨ρ, st, μ, Qd, Z, hS, ht, hQ, hZ⟩ => ?_⟩
  refine wpAny_Call_Name_kw (ld_blt I hg hm PyProof.Rows.boot_sorted ?_ (by decide) (by decide))
  refine PyProof.Rows.callWith_kw (thn (ha.run pos pins s σ H (fun vs H1 => ∃ ds st1 μ1, Reps X.K H1 μ1 ds vs ∧ SRep X.K st1 μ1 H1 ∧ Ext H H1 μ μ1 ∧ dSortK ds st1 Qd) I ⟨ρ, st, μ, _, Z, hS, ht, fun ds st1 H1 μ1 vs q e1 s1 r => ⟨ds, st1, μ1, r, s1, e1, q⟩, hZ⟩) fun us s1 ⟨vs, H1, I1, r1, ds, st1, μ1, rds, sr, e1, q1⟩ => ?_) he hpl (by rfl) (by rfl)
  show wpAny _ _ (evalAll [(do let v ← eval (.Lambda params (.Subscript (.Name a p1) (.Constant (.int 0) j p2) p3) scope lpos) X.env; standAt pos; pure v)]) _ _ s1
  refine wpAny_evalAll_cons (wpAny_bind (LamX.lam_make2 I1 TB hcode hmT hun sr.tab hdef (fun y hy z => absurd z (hfree y hy)) fun f c' pm ctv H2 s2 I2 eN T2 hf hfn hfr hco => wpAny_bind (wpAny_standAt (wpAny_pure (wpAny_evalAll_nil ?_)))))
  show wpAny _ _ (call (.builtin "sorted") us [(Str.ofString "key", .ref f)]) _ _ s2
  match ds, rds, q1 with
  | [x], rds, q1 =>
    obtain ⟨es, n, fk, hi, hkey, hal, hso, hde, q⟩ := q1
    have x2 : Ext H1 H2 μ1 μ1 := Ext.ofN eN
    have sr2 : SRep X.K st1 μ1 H2 := sr.ofN eN T2
    obtain ⟨v, rfl, rx⟩ := reps1 (rds.mono x2)
    obtain ⟨ax, vs', rfl, hs, hr⟩ := items_ok sr2 rx hi
    rw [Vals.ref1 r1]
    obtain ⟨its, T, o, m, rv, hT, ho, hcl, hdt, hz⟩ : ∃ (its : List Value) (T : String) (o : Obj) (n : Nat), Vals vs' its ∧ (T = "list" ∨ T = "tuple") ∧ s2.heap.get? ax = some o ∧ o.cls = .type T ∧ o.data = .seq its.toArray n ∧ vs'.length ≤ sizeLine := by
      rcases hs with hs | hs
      · obtain ⟨its, rv, ⟨o, n, e, c, d, dt⟩, z⟩ := I2.list hs
        exact ⟨its, _, o, n, rv, .inl rfl, e, c, dt, z⟩
      · obtain ⟨its, rv, ⟨o, e, c, n, dt⟩, z⟩ := I2.tuple hs
        exact ⟨its, _, o, n, rv, .inr rfl, e, c, dt, z⟩
    obtain ⟨z1, z2, z3⟩ := reps_zip hr
    have hL : its.length ≤ sizeLine := by rw [← rv.length]; exact hz
    have m1 : ∀ t ∈ es.zip vs', t.1 ∈ es := fun t ht => (List.of_mem_zip ht).1
    have hzl : (es.zip vs').length = its.length := by rw [List.length_zip, hr.length, Nat.min_self, rv.length]
    have ev : ∀ {ts : List (D × V)} {us : List Value}, Vals (ts.map (·.2)) us → EachIs (fun u (t : D × V) => RelV t.2 u) us ts := by
      intro ts
      induction ts with
      | nil => intro us r; cases r; exact .nil
      | cons t ts ih => intro us r; cases r with | cons r1 r2 => exact .cons r1 (ih r2)
    have ve : ∀ {ts : List (D × V)} {us : List Value}, EachIs (fun u (t : D × V) => RelV t.2 u) us ts → Vals (ts.map (·.2)) us := by
      intro ts
      induction ts with
      | nil => intro us r; cases r; exact .nil
      | cons t ts ih => intro us r; cases r with | cons r1 r2 => exact .cons r1 (ih r2)
    have hei : EachIs (fun u (t : D × V) => RelV t.2 u) its (es.zip vs') := ev (by rw [z2]; exact rv)
    have hkz : (es.zip vs').map (fun t => keyInts fk t.1) = es.map (keyInts fk) := by
      conv => rhs; rw [← z1]
      rw [List.map_map]
      rfl
    refine sorted_seq hT ho hcl hdt hL (PyProof.Rows.ksk_s1 _ _) (fun _ => PyProof.Rows.ksk_l1 _ _) fun h1 E' k => ?_
    have hat : (h1.push (seqObj "list" its.toArray 0)).get? h1.objs.size = some (seqObj "list" its.toArray 0) := Heap.get?_push_size _ rfl
    have up : ∀ {g : Heap}, PySem.W.KeepsBut h1.objs.size (h1.push (seqObj "list" its.toArray 0)) g → ∀ b o, s2.heap.get? b = some o → g.get? b = some o := fun {g} kp b o eb =>
      kp b o (Nat.ne_of_lt (Heap.lt_size (k b o eb))) (Heap.get?_push_of_some _ (k b o eb))
    rw [PyProof.Rows.ksk_t1]
    refine PySem.W.keyH_tree (kz := (es.zip vs').map fun t => keyInts fk t.1) (s := { s2 with heap := h1.push (seqObj "list" its.toArray 0) }) hat (by rw [List.length_map]; exact hzl) hL (by rw [hkz]; exact hal) (by rw [hkz]; exact hso) ?_
      (PySem.W.keyH_turns (s := { s2 with heap := h1.push (seqObj "list" its.toArray 0) }) (k := fun t : D × V => keyInts fk t.1) hei fun v t hv ht h tk kp => ?_) fun h' tk out cc kp hD ko => ⟨rfl, ?_⟩
    · intro d hdm
      rw [hkz] at hdm
      obtain ⟨e0, he0, rfl⟩ := List.mem_map.mp hdm
      have := hde e0 he0
      show X.A.units + 1 + 1 + _ < _
      omega
    · obtain ⟨d, r, ed, hpd⟩ := hkey _ (m1 t ht)
      have rt := z3 t ht
      rw [ed] at rt
      obtain ⟨at', ws, et, hsq, u0, ur, rfl, ru, _⟩ := rt
      rw [et] at hv
      obtain rfl : v = Value.ref at' := hv
      obtain ⟨its', rv', ⟨o', e1', c1', n1', d1'⟩, hz'⟩ := I2.tuple hsq
      obtain ⟨k0, rv0, his⟩ : ∃ k0 : Value, RelV u0 k0 ∧ its'.toArray[0]? = some k0 := by
        cases rv' with
        | cons a b => exact ⟨_, a, by simp⟩
      have hk2 : ∀ b o, s2.heap.get? b = some o → h.get? b = some o := up kp
      obtain ⟨as, hrd⟩ := Dp.reads I2 _ u0 k0 (dp_of sr2 n d u0 _ ru hpd) rv0
      obtain ⟨⟨oc, vs0, t0, hoc, hdc, hvc⟩, _, _⟩ := I2.hok c' _ hco
      exact call_key0 (s := { s2 with heap := h, toks := tk }) hd (hk2 _ _ hf) ⟨oc, vs0, t0, hk2 _ _ hoc, hdc, hvc⟩ hbind hk hc1 hgn hcell hloc (I2.nolimit.keeps hk2) (items := its'.toArray) ⟨o', hk2 _ _ e1', c1', n1', d1'⟩ his (PyProof.Rows.Reads.keeps hk2 (reads_ints hrd)) (by rw [List.size_toArray, ← rv'.length]; exact hz') hdb
    · have eo := PySem.W.keyedOut_each (fun t : D × V => keyInts fk t.1) ko hei
      have hg : s2.heap.get? h1.objs.size = none := by
        cases eb : s2.heap.get? h1.objs.size with
        | none => rfl
        | some ob => exact absurd (Heap.lt_size (k _ _ eb)) (Nat.lt_irrefl _)
      have hn : H2 h1.objs.size = none := I2.hok.gone hg
      have hlen : (((es.zip vs').mergeSort (dataLe false fun t => keyInts fk t.1)).map (·.2)).length ≤ sizeLine := by
        rw [List.length_map, List.length_mergeSort, hzl]
        exact hL
      have e2 : es.mergeSort (dataLe false (keyInts fk)) = ((es.zip vs').mergeSort (dataLe false fun t => keyInts fk t.1)).map (·.1) := by
        conv => lhs; rw [← z1]
        rw [sort_map (fun t : D × V => t.1) (keyInts fk)]
      rw [e2] at q
      exact ⟨.ref h1.objs.size, _, I2.laidN (t' := tk) (up kp) hg hn (o := .lst (((es.zip vs').mergeSort (dataLe false fun t => keyInts fk t.1)).map (·.2))) ⟨hlen, _, cc, ve eo, hD⟩, rfl,
        hQ.lst (e1.trans x2) sr2 (zip_reps fun t ht => z3 t (List.mem_mergeSort.mp ht)) q hn⟩
end
end DL
namespace DL
open PySem L2 PySem.Spec
open PyProof.Rows hiding St
variable [TC : TabCtx]
abbrev tupI (is : List Int) : D := .tup (is.map D.int)
section
variable {K : PySem.W.Frag} {H : Hp} {μ : List Addr} {st : Sto}
theorem reps_ints : ∀ {is : List Int} {vs : List V}, Reps K H μ (is.map D.int) vs → vs = is.map V.int
  | [], _, r => r
  | i :: is, _, r => by
    obtain ⟨v, rs, rfl, r1, r2⟩ := r
    rw [show v = _ from r1, reps_ints r2]
    rfl
theorem ints_reps : ∀ (is : List Int), Reps K H μ (is.map D.int) (is.map V.int)
  | [] => rfl
  | i :: is => ⟨_, _, rfl, rfl, ints_reps is⟩
theorem rep_tupI {is : List Int} {v : V} (h : Rep K H μ (tupI is) v) : ∃ a, v = .ref a ∧ SqT K H a (is.map V.int) := by
  obtain ⟨a, vs, rfl, hs, hr⟩ := h
  rw [reps_ints hr] at hs
  exact ⟨a, rfl, hs⟩
theorem tupI_rep {is : List Int} {a : Addr} (h : SqT K H a (is.map V.int)) : Rep K H μ (tupI is) (.ref a) := ⟨a, _, rfl, h, ints_reps is⟩
theorem reps_tupIs : ∀ {ls : List (List Int)} {vs : List V}, Reps K H μ (ls.map tupI) vs → ∃ ks : List (Addr × List Int), vs = ks.map (fun p => V.ref p.1) ∧ ks.map (·.2) = ls ∧ ∀ p ∈ ks, SqT K H p.1 (p.2.map V.int)
  | [], _, r => ⟨[], r, rfl, fun p h => by simp at h⟩
  | l :: ls, _, r => by
    obtain ⟨v, rs, rfl, r1, r2⟩ := r
    obtain ⟨a, rfl, hs⟩ := rep_tupI r1
    obtain ⟨ks, rfl, rfl, h⟩ := reps_tupIs r2
    refine ⟨(a, l) :: ks, rfl, rfl, fun p hp => ?_⟩
    rcases List.mem_cons.mp hp with rfl | hp
    · exact hs
    · exact h p hp
theorem tupIs_reps : ∀ {ks : List (Addr × List Int)}, (∀ p ∈ ks, SqT K H p.1 (p.2.map V.int)) → Reps K H μ ((ks.map (·.2)).map tupI) (ks.map fun p => V.ref p.1)
  | [], _ => rfl
  | p :: ks, h => ⟨_, _, rfl, tupI_rep (h p List.mem_cons_self), tupIs_reps fun q hq => h q (List.mem_cons_of_mem _ hq)⟩
end
def dSortSetT : DN := fun ds st Q => match ds with
  | [x] => ∃ (ls : List (List Int)) (d : Nat) (B : Int), (x = .fls (ls.map tupI) ∨ ∃ n, x = .loc n ∧ st[n]? = some (.lst (ls.map tupI))) ∧ ls.length < 64 ∧ 1 ≤ d ∧ (∀ l ∈ ls, l.length = d ∧ TS.Bd B l) ∧
    ∀ ms : List (List Int), ms.Nodup → (∀ l, l ∈ ms ↔ l ∈ ls) → ms.Pairwise (fun q r => TS.code B q ≤ TS.code B r) → Q (.loc st.length) (st ++ [.lst (ms.map tupI)])
  | _ => False
section
variable {X : Cx} {W : WX} {e : Expr} {t : DTA} {pos p pos' p' : Pos}
theorem de_sortSetT (hc : X.calm = true) (hu : X.A.units + 64 < cLine) (hg : Gl X "sorted") (hm : X.mg "sorted" = none) (hg' : Gl X "set") (hm' : X.mg "set" = none) (ha : DA X W [e] t)
    (he : starEach [e] X.env = (false, eval e X.env) :: starEach [] X.env := by rfl) (hpl : (backTo pos' (starEach [] X.env)).any (·.1) = false := by rfl)
    (hs1 : starEach [.Call (.Name "set" p') [e] [] pos'] X.env = (false, eval (.Call (.Name "set" p') [e] [] pos') X.env) :: starEach [] X.env := by rfl) (hpl1 : (backTo pos (starEach [] X.env)).any (·.1) = false := by rfl) :
    DE X W (.Call (.Name "sorted" p) [.Call (.Name "set" p') [e] [] pos'] [] pos) (dCB dSortSetT t) :=
  pe_weak (pe_callB (cr_sortedT hc) hg hm PyProof.Rows.boot_sorted (pa_cons (pe_callTy (cr_setOfT hc hu) hg' hm' PyProof.Rows.boot_set ha (by decide) (by decide) he hpl) pa_nil hs1) (by decide) (by decide) hs1 hpl1) fun σ H Q ⟨ρ, st, μ, Qd, Z, hS, ht, hQ, hZ⟩ =>
    ⟨ρ, st, μ, _, Z, hS, ht, fun ds st1 H1 μ1 vs hx e1 s1 rv => by
      match ds, rv, hx with
      | [x], rv, hx =>
        obtain ⟨v, rfl, rx⟩ := reps1 rv
        obtain ⟨ls, d, B, hls, hf, hd, hB, q⟩ := hx
        obtain ⟨l, ks, rfl, hsq, rfl, hk⟩ : ∃ (l : Addr) (ks : List (Addr × List Int)), v = V.ref l ∧ SqL X.K H1 l (ks.map fun p => V.ref p.1) ∧ ks.map (·.2) = ls ∧ ∀ p ∈ ks, SqT X.K H1 p.1 (p.2.map V.int) := by
          rcases hls with rfl | ⟨n, rfl, hn⟩
          · obtain ⟨a, vs, rfl, hfz, hr⟩ := rx
            obtain ⟨ks, rfl, h2, h3⟩ := reps_tupIs hr
            exact ⟨a, ks, rfl, hfz.sq, h2, h3⟩
          · obtain ⟨a, rfl, hn'⟩ := rx
            obtain ⟨a', o, q1, q2, vs, rfl, hr⟩ := s1.at' _ _ hn
            rw [hn'] at q1; cases q1
            obtain ⟨ks, rfl, h2, h3⟩ := reps_tupIs hr
            exact ⟨a, ks, rfl, .inl (.inl q2), h2, h3⟩
        refine ⟨l, ks, rfl, hsq, hk, by simpa using hf, fun a L ha hL1 hL2 => ?_⟩
        have x2 : Ext H1 (upd H1 a (SetTO X.prog X.w a L)) μ1 μ1 := Ext.laid ha
        have s2 := s1.laid (o := SetTO X.prog X.w a L) ha
        have hk2 : ∀ p ∈ ks, SqT X.K (upd H1 a (SetTO X.prog X.w a L)) p.1 (p.2.map V.int) := fun p hp => x2.sqT (hk p hp)
        refine ⟨a, L, d, B, rfl, upd_same, fun p hp => hk2 p (hL1 p hp), hd, fun p hp => hB _ (List.mem_map.mpr ⟨p, hL1 p hp, rfl⟩), fun L' b hp hnd _ hpw hb => ?_⟩
        have hm2 : ∀ p ∈ L', SqT X.K (upd H1 a (SetTO X.prog X.w a L)) p.1 (p.2.map V.int) := fun p hp' => hk2 p (hL1 p (hp.mem_iff.mp hp'))
        refine hQ.lst (e1.trans x2) s2 (tupIs_reps hm2) (q _ hnd (fun m => ?_) (List.pairwise_map.mpr hpw)) hb
        constructor
        · intro hm
          obtain ⟨p, hp', rfl⟩ := List.mem_map.mp hm
          exact List.mem_map.mpr ⟨p, hL1 p (hp.mem_iff.mp hp'), rfl⟩
        · intro hm
          obtain ⟨p, hp', rfl⟩ := List.mem_map.mp hm
          exact (hp.map _).mem_iff.mpr (hL2 p hp'), hZ⟩
end
end DL
namespace DL
open PySem L2 PySem.Spec
open PyProof.Rows hiding St
variable [TC : TabCtx]
section
variable {prog : Program} {w : World} {A : Around} {E : Value → Shared → Prop} {s : Shared}
theorem max2_data {a b : Value} {da db : PyData} {as bs : List Addr} {Q : Value → Shared → Prop} (hh : A.handled = none) (ra : Reads s.heap a da as) (rb : Reads s.heap b db bs) (hal : PySem.W.alike da da = true ∧ PySem.W.alike da db = true ∧ PySem.W.alike db da = true ∧ PySem.W.alike db db = true) (hna : da ≠ .none) (hnb : db ≠ .none)
    (hu : A.units + 1 + da.depth < cLine) (hu2 : A.units + 1 + db.depth < cLine)
    (h : ∀ h' tk, (∀ b o, s.heap.get? b = some o → h'.get? b = some o) → Q (if PySem.W.dataLt da db = true then b else a) { s with heap := h', toks := tk }) :
    wpAny (model prog w) A (call (.builtin "max") [a, b]) Q E s := by
  have hname : (toString "max" ++ toString ".loop" : String) = "max.loop" := by decide
  refine call_function_tree PySem.F.kind_max PySem.F.plain_max PySem.F.entry_max (PySem.F.args_max2 _ _) ?_
  show wpAny _ A.in1 (Builtin.Builtins.bindParams "max" ["key", "default"] 0 ⟨[], []⟩ >>= _) _ _ s
  refine wpAny_bind (wpAny_of_eq (show Builtin.Builtins.bindParams "max" ["key", "default"] 0 ⟨[], []⟩ = pure [none, none] from rfl) ?_)
  show wpAny _ A.in1 (newTuple [a, b] >>= _) _ _ s
  refine wpAny_bind (wpAny_newObj_type ?_)
  have kp : ∀ b' o, s.heap.get? b' = some o → (s.heap.push { cls := .type "tuple", data := .seq #[a, b] }).get? b' = some o := fun b' o e => Heap.get?_push_of_some _ e
  have hrd : ReadsAll (s.heap.push { cls := .type "tuple", data := .seq #[a, b] }) (#[a, b] : Array Value).toList [da, db] (as ++ (bs ++ [])) := .cons (PyProof.Rows.Reads.keeps kp ra) (.cons (PyProof.Rows.Reads.keeps kp rb) .nil)
  have hal' : PySem.W.AlikeAll [da, db] := ⟨fun x hx y hy => by
    rcases List.mem_cons.mp hx with rfl | hx
    · rcases List.mem_cons.mp hy with rfl | hy
      · exact hal.1
      · rw [List.mem_singleton.mp hy]; exact hal.2.1
    · rw [List.mem_singleton.mp hx]
      rcases List.mem_cons.mp hy with rfl | hy
      · exact hal.2.2.1
      · rw [List.mem_singleton.mp hy]; exact hal.2.2.2, fun x hx => by
    rcases List.mem_cons.mp hx with rfl | hx
    · exact hna
    · rw [List.mem_singleton.mp hx]; exact hnb⟩
  have hdp : A.units + 1 + PyData.depthAll [da, db] < cLine := by
    show A.units + 1 + max da.depth (max db.depth 0) < cLine
    omega
  refine wpAny_bind (PySem.W.iter_tupleW (A := A.in1) (s := { s with heap := s.heap.push { cls := .type "tuple", data := .seq #[a, b] } }) (vs := #[a, b]) hh ⟨_, Heap.get?_push_size _ rfl, rfl, 0, rfl⟩ fun s₂ e W st hfp hw hk => ?_)
  have hSf : s₂.heap.objs.size ∉ [(s.heap.push { cls := .type "tuple", data := .seq #[a, b] }).objs.size, s.heap.objs.size] := fun hm => Nat.lt_irrefl _ (hfp _ hm)
  refine wpAny_bind (wpAny_newObj_type ?_)
  rw [hname]
  refine wpAny_pure ⟨plainId_quiet PySem.F.plain_max_loop _, codeAny_max_loop_firstH W (s.heap.push { cls := .type "tuple", data := .seq #[a, b] }) hw _
    (PySem.W.cmpIn_gt (A := A.in1) (s := { s with heap := s.heap.push { cls := .type "tuple", data := .seq #[a, b] } }) hrd hal' hdp) s₂.heap.objs.size hSf (fresh_in hk) _ (Nat.zero_lt_succ 1) (fun b o e => Heap.get?_push_of_some _ (hk b o e)) (W.frame 0 s₂ _ s₂.toks st (Nat.le_refl _) fun b _ o e => Heap.get?_push_of_some _ e) (Heap.get?_push_size _ rfl) fun v s' hP hm => ?_⟩
  have m := Moved.drop_new (tk := s₂.toks) hm (Nat.le_refl _)
  obtain ⟨h', tk, rfl, hk'⟩ := PySem.W.moved_old e rfl m
  have kk : ∀ b o, s.heap.get? b = some o → h'.get? b = some o := fun b' o eb => hk' b' o (kp b' o eb)
  have hq := h h' tk kk
  have eb : argBest (fun i j => PySem.W.dataLt ([da, db].getD j .none) ([da, db].getD i .none)) 1 = if PySem.W.dataLt da db = true then 1 else 0 := rfl
  have hP' : (#[a, b] : Array Value)[argBest (fun i j => PySem.W.dataLt ([da, db].getD j .none) ([da, db].getD i .none)) 1]? = some v := hP
  rw [eb] at hP'
  by_cases hb : PySem.W.dataLt da db = true
  · rw [if_pos hb] at hP' hq
    have : b = v := by simpa using hP'
    rw [← this]; exact hq
  · rw [if_neg hb] at hP' hq
    have : a = v := by simpa using hP'
    rw [← this]; exact hq
end
def alike2 (d e : PyData) : Prop := PySem.W.alike d d = true ∧ PySem.W.alike d e = true ∧ PySem.W.alike e d = true ∧ PySem.W.alike e e = true
def rMax2 (K : PySem.W.Frag) : List V → Hp → VK → Prop := fun xs H Q => ∃ x y d e, xs = [x, y] ∧ Dp K H x d ∧ Dp K H y e ∧ alike2 d e ∧ d ≠ .none ∧ e ≠ .none ∧ d.depth ≤ 60 ∧ e.depth ≤ 60 ∧ Q (if PySem.W.dataLt d e = true then y else x) H
section
variable {X : Cx}
theorem cr_max2 (hc : X.calm = true) (hu : X.A.units + 64 < cLine) : CallR X (.builtin "max") (rMax2 X.K) := by
  intro pins s σ H xs us Q I r h
  obtain ⟨x, y, d, e, rfl, hd, he, hal, hn1, hn2, hp1, hp2, q⟩ := h
  match us, r with
  | [v, u], .cons r1 (.cons r2 .nil) =>
    obtain ⟨as, ra⟩ := Dp.reads I d x v hd r1
    obtain ⟨bs, rb⟩ := Dp.reads I e y u he r2
    refine max2_data (I.ok.hd hc) ra rb hal hn1 hn2 (by omega) (by omega) fun h' tk k => ?_
    refine ⟨_, H, (I.kept k : Inv X pins σ H { s with heap := h', toks := tk }), ?_, q⟩
    by_cases hb : PySem.W.dataLt d e = true
    · rw [if_pos hb, if_pos hb]; exact r2
    · rw [if_neg hb, if_neg hb]; exact r1
end
def dMax2 : DN := fun ds st Q => match ds with
  | [x, y] => ∃ n d e, pdF st n x = some d ∧ pdF st n y = some e ∧ alike2 d e ∧ d ≠ .none ∧ e ≠ .none ∧ d.depth ≤ 60 ∧ e.depth ≤ 60 ∧ Q (if PySem.W.dataLt d e = true then y else x) st
  | _ => False
section
variable {X : Cx} {W : WX} {e : Expr} {es : List Expr} {t : DTA} {pos p : Pos} {K : PySem.W.Frag}
theorem max2_ok : DCl K (rMax2 K) dMax2 := by
  intro H μ st ds vs Qd Q s r h hQ
  match ds, r, h with
  | [x, y], r, h =>
    obtain ⟨v, u, rfl, r1, r2⟩ := reps2 r
    obtain ⟨n, d, e, h1, h2, h3, h4, h5, h6, h7, q⟩ := h
    refine ⟨v, u, d, e, rfl, dp_of s n x v d r1 h1, dp_of s n y u e r2 h2, h3, h4, h5, h6, h7, hQ _ _ _ _ _ q (Ext.refl _ _) s ?_⟩
    by_cases hb : PySem.W.dataLt d e = true
    · rw [if_pos hb, if_pos hb]; exact r2
    · rw [if_neg hb, if_neg hb]; exact r1
theorem de_max2 (hc : X.calm = true) (hu : X.A.units + 64 < cLine) (hg : Gl X "max") (hm : X.mg "max" = none) (ha : DA X W (e :: es) t) (he : starEach (e :: es) X.env = (false, eval e X.env) :: starEach es X.env := by rfl) (hpl : (backTo pos (starEach es X.env)).any (·.1) = false := by rfl) :
    DE X W (.Call (.Name "max" p) (e :: es) [] pos) (dCB dMax2 t) := de_callB (cr_max2 hc hu) max2_ok hg hm PyProof.Rows.boot_max ha (by decide) (by decide) he hpl
end
end DL
namespace DL
open PySem L2 PySem.Spec
open PyProof.Rows hiding St
variable [TC : TabCtx]
set_option maxHeartbeats 1000000 in
theorem meets_enum1 {v : Value} {o : Obj} {H : Heap → Prop} (B : Begins v o H) :
    Meets (Builtin.«enumerate.__new__» ⟨[.type "enumerate", v], []⟩) (fun _ R s => H s.heap ∧
      R (.ok (.ret (.ref (s.heap.push o).objs.size))) { s with heap := (s.heap.push o).push { cls := .type "enumerate", data := .fields #[.none, .bool false, .ref s.heap.objs.size, rawInt 0, .none, .none] } }) :=
  .of_wp fun prog w A R s h => by
    obtain ⟨hp, g, d, tk, os⟩ := s
    obtain ⟨h1, h⟩ := h
    have hsub := sub_enumerate
    have q1 : ∀ {A' : Around} {E : Value → Shared → Prop} {Q : Value → Shared → Prop}, Q (.ref hp.objs.size) ⟨hp.push o, g, d, tk, os⟩ → wpAny (model prog w) A' (pyIter v) Q E ⟨hp, g, d, tk, os⟩ :=
      fun q => B.iter prog w _ _ ⟨hp, g, d, tk, os⟩ _ h1 q
    wp_walk using q1
    refine wpAny_stack_any fun st => wpAny_pure ?_
    split
    · rename_i c _ _ _ _ _
      cases (c == Value.type "enumerate") <;> (wp_walk using q1; exact ⟨_, rfl, h⟩)
    · wp_walk using q1
      exact ⟨_, rfl, h⟩
section
variable {prog : Program} {w : World} {A : Around} {E : Value → Shared → Prop} {s : Shared}
theorem enum_begins1 {v : Value} {o : Obj} {H : Heap → Prop} {Q : Value → Shared → Prop} (B : Begins v o H) (h1 : H s.heap)
    (h : ∀ h', IsEnum h' (s.heap.objs.size + 1) s.heap.objs.size 0 .none → h'.get? s.heap.objs.size = some o → h'.objs.size = s.heap.objs.size + 2 → (∀ b o, s.heap.get? b = some o → h'.get? b = some o) → Q (.ref (s.heap.objs.size + 1)) { s with heap := h' }) :
    wpAny (model prog w) A (call (.type "enumerate") [v]) Q E s := by
  refine callType_new PySem.F.called_enumerate (by decide) (PySem.F.typeCall_enumerate_1 _) (PySem.F.newCall_enumerate_1 _) (fun obj => PySem.F.args_object_init_2 obj _) PySem.F.entry_enumerate_new (meets_enum1 B) ⟨h1, ?_⟩
  have hz : (s.heap.push o).objs.size = s.heap.objs.size + 1 := Heap.size_push ..
  show _ ∧ _
  rw [hz]
  have he : IsEnum ((s.heap.push o).push { cls := .type "enumerate", data := .fields #[.none, .bool false, .ref s.heap.objs.size, rawInt 0, .none, .none] }) (s.heap.objs.size + 1) s.heap.objs.size 0 .none := by
    have := Heap.get?_push_size (s.heap.push o) (o := { cls := .type "enumerate", data := .fields #[.none, .bool false, .ref s.heap.objs.size, rawInt 0, .none, .none] }) rfl
    rw [hz] at this
    exact this
  exact ⟨⟨_, he, rfl⟩, h _ he (Heap.get?_push_of_some _ (Heap.get?_push_size _ B.free)) (by rw [Heap.size_push, hz]) fun b o x => Heap.get?_push_of_some _ (Heap.get?_push_of_some _ x)⟩
end
/-- the tuple at a, each item in a new pair -/
def IteT (K : PySem.W.Frag) (a : Addr) : It :=
  ⟨fun i H => ∃ (xs : List V) (x : V), SqT K H a xs ∧ xs[i]? = some x, fun i H v H' => ∃ T x, v = .ref T ∧ H T = none ∧ H' = upd H T (.tup [.int (i : Nat), x]) ∧ ∀ xs, SqT K H a xs → xs[i]? = some x, fun i H => ∃ xs : List V, SqT K H a xs ∧ xs.length = i⟩
theorem turn_enumT {P : Program} {w : World} {K : PySem.W.Frag} {elts : List Expr} {kk : Nat} {tpos : Pos} (a e it : Addr) :
    Turn P w K (.Tuple elts kk tpos) (IteT K a) [e, it] e (fun i h => (∃ old, IsEnum h e it ((i : Nat) : Int) old) ∧ h.IsTupleIter it a i ∧ e ≠ it ∧ a ≠ it ∧ e ≠ a) where
  mem := by simp
  obj := fun i h st b hb => by
    obtain ⟨⟨old, he⟩, ⟨o, ho, hc, hd⟩, _⟩ := st
    have e' : b = e ∨ b = it := by simpa using hb
    rcases e' with z | z
    · rw [z]; exact ⟨_, he, fun v q => nomatch q⟩
    · rw [z]; exact ⟨o, ho, fun v q => by rw [hd] at q; cases q⟩
  keep := fun i h h' st k => let ⟨⟨old, he⟩, hi, hne⟩ := st; ⟨⟨old, k e (by simp) _ he⟩, hi.at fun o q => k it (by simp) o q, hne⟩
  item := by
    intro X hP hw hK hc i pins s σ H E I hf st hg
    subst hP hw hK
    obtain ⟨⟨old, he⟩, hit, hne, hai, hea⟩ := st
    obtain ⟨xs, x, hq, hx⟩ := hg
    obtain ⟨its, rv, p, hz⟩ := I.tuple hq
    obtain ⟨u, hu, ru⟩ := rv.get hx
    have hel : e < s.heap.objs.size := Heap.lt_size he
    have hil : it < s.heap.objs.size := by obtain ⟨_, q, _⟩ := hit; exact Heap.lt_size q
    have pt : s.heap.IsTuple a its.toArray := p
    have hlt : i < its.toArray.size := by
      have := (List.getElem?_eq_some_iff.mp hu).1
      simpa using this
    refine wpAny_pyNext_enum_itemD (Draws.tuple (A := X.A.in1) (I.ok.hd hc) it a hai its.toArray) he ⟨hit, pt⟩ hlt hne (by simp [hne, hea]) fun y h' tk hy ho hst hT hsz hk => ?_
    have hyu : y = u := by
      have h2 : its.toArray[i]? = some y := hy
      have h3 : its.toArray[i]? = some u := by simpa using hu
      rw [h2] at h3
      exact Option.some.inj h3
    subst hyu
    refine ⟨_, rfl, wpAny_letOwnedTupleGo_enum (s := { s with heap := h', toks := tk + 1 }) ho fun h'' he' sb => ?_⟩
    have hT2 : h''.get? s.heap.objs.size = some { cls := .type "tuple", data := .seq #[.int i tk, y] } := (sb.2 _ (Nat.ne_of_gt hel)).trans hT
    have new : ObjOk X.prog X.w (upd H s.heap.objs.size (.tup [.int (i : Nat), x])) h'' s.heap.objs.size (.tup [.int (i : Nat), x]) :=
      ⟨by show 2 ≤ sizeLine; decide, [.int i tk, y], .cons ⟨_, rfl⟩ (.cons ru .nil), ⟨_, hT2, rfl, _, rfl⟩⟩
    have I1 : Inv X pins σ (upd H s.heap.objs.size (.tup [.int (i : Nat), x])) { s with heap := h'', toks := tk + 1 } :=
      I.turnedNew (t' := tk + 1) (ch := [e, it]) (fun b ob hb q => (sb.2 b (fun z => hb (by simp [z]))).trans (hk b ob (fun z => hb (by simp [z])) (fun z => hb (by simp [z])) q)) hf (Nat.le_refl _) new
    refine ⟨.ref s.heap.objs.size, _, I1, rfl, ⟨_, x, rfl, I.hok.fresh (Nat.le_refl _), rfl, fun ys hy => by rw [I.tuple_inj hy hq]; exact hx⟩, ⟨⟨y, ?_⟩, hst.1.at fun o q => (sb.2 it (Ne.symm hne)).trans q, hne, hai, hea⟩, fun b hb => ?_⟩
    · have e1 : ((i + 1 : Nat) : Int) = (i : Int) + 1 := by omega
      rw [e1]; exact he'
    · have hb' : b < s.heap.objs.size := by
        have e' : b = e ∨ b = it := by simpa using hb
        rcases e' with z | z
        · rw [z]; exact hel
        · rw [z]; exact hil
      rw [upd_ne (Nat.ne_of_lt hb')]
      exact (hf b hb).1
  done := by
    intro X hP hw hK hc i pins s σ H E I hf st hg
    subst hP hw hK
    obtain ⟨⟨old, he⟩, hit, hne, hai, hea⟩ := st
    obtain ⟨xs, hq, hx⟩ := hg
    obtain ⟨its, rv, p, hz⟩ := I.tuple hq
    obtain ⟨f0, f1, f2, f3, f4, f5⟩ := hf it (by simp)
    have pt : s.heap.IsTuple a its.toArray := p
    have hn : its.toArray.size = i := by rw [List.size_toArray, ← rv.length]; exact hx
    refine wpAny_pyNext_enum_endD (Draws.tuple (A := X.A.in1) (I.ok.hd hc) it a hai its.toArray) he ⟨by rw [hn]; exact hit, pt⟩ fun h' eb => ⟨rfl, I.turned (t' := s.toks) (fun b o hb q => eb b o hb q) f0 f1 f3 f4 f5⟩
  self := fun A i s Q E st h => let ⟨⟨_, he⟩, _⟩ := st; wpAny_pyIter_enum he h
def iEnumA (K : PySem.W.Frag) (ta : TA) : TI := fun σ H R => ta σ H fun vs H1 => ∃ a, vs = [.ref a] ∧ (((∃ xs, SqL K H1 a xs) ∧ R (Ite K a) H1) ∨ ((∃ xs, SqT K H1 a xs) ∧ R (IteT K a) H1))
section
variable {X : Cx} {W : WX} {e : Expr} {p pos tpos : Pos} {elts : List Expr} {kk : Nat}
theorem pi_enumA {ta : TA} (hg : Gl X "enumerate") (hm : X.mg "enumerate" = none) (ha : PA X [e] ta) (hs : starEach [e] X.env = [(false, eval e X.env)] := by rfl) :
    PI X (.Tuple elts kk tpos) (.Call (.Name "enumerate" p) [e] [] pos) (iEnumA X.K ta) := by
  refine ⟨fun pins s σ H R I h => ?_⟩
  refine Call_ (ld_blt I hg hm boot_enumerate (PyProof.Rows.callWith_type1 (thn (ha.run pos pins s σ H _ I h) fun us s1 ⟨vs, H1, I1, r1, q1⟩ => ?_) hs rfl))
  obtain ⟨a, rfl, q1⟩ := q1
  rw [Vals.ref1 r1]
  have fresh2 : ∀ b, b ∈ [s1.heap.objs.size + 1, s1.heap.objs.size] → FpOk X pins H1 b := fun b hb => by
    have e' : b = s1.heap.objs.size + 1 ∨ b = s1.heap.objs.size := by simpa using hb
    have hle : s1.heap.objs.size ≤ b := by
      rcases e' with z | z
      · rw [z]; exact Nat.le_add_right _ _
      · rw [z]; exact Nat.le_refl _
    exact I1.fpOk hle (I1.hok.fresh hle)
  rcases q1 with ⟨⟨xs, hq⟩, q⟩ | ⟨⟨xs, hq⟩, q⟩
  · obtain ⟨its, rv, p', hz⟩ := I1.list hq
    refine call_enumerate_list p'.isList fun h' he hit hsz hk => wpAny_pyIter_enum he ?_
    exact ⟨s1.heap.objs.size + 1, [s1.heap.objs.size + 1, s1.heap.objs.size], _, _, H1, rfl, (I1.kept (t' := s1.toks) hk : Inv X pins σ H1 { s1 with heap := h' }), turn_enum a (s1.heap.objs.size + 1) s1.heap.objs.size, ⟨⟨.none, he⟩, hit, Nat.succ_ne_self _⟩, fresh2, q⟩
  · obtain ⟨its, rv, p', hz⟩ := I1.tuple hq
    have pt : s1.heap.IsTuple a its.toArray := p'
    have hlt : a < s1.heap.objs.size := by obtain ⟨_, q, _⟩ := pt; exact Heap.lt_size q
    refine enum_begins1 (begins_tuple a its.toArray) pt fun h' he hit hsz hk => wpAny_pyIter_enum he ?_
    exact ⟨s1.heap.objs.size + 1, [s1.heap.objs.size + 1, s1.heap.objs.size], _, _, H1, rfl, (I1.kept (t' := s1.toks) hk : Inv X pins σ H1 { s1 with heap := h' }), turn_enumT a (s1.heap.objs.size + 1) s1.heap.objs.size, ⟨⟨.none, he⟩, ⟨_, hit, rfl, rfl⟩, Nat.succ_ne_self _, Nat.ne_of_lt hlt, Nat.ne_of_gt (Nat.lt_succ_of_lt hlt)⟩, fresh2, q⟩
end
def enumItems (ds : List D) : List D := ds.mapIdx fun i d => .tup [.int (i : Nat), d]
theorem enumItems_get {ds : List D} {i : Nat} {y : D} (h : (enumItems ds)[i]? = some y) : ∃ d, ds[i]? = some d ∧ y = .tup [.int (i : Nat), d] := by
  unfold enumItems at h
  rw [List.getElem?_mapIdx, Option.map_eq_some_iff] at h
  obtain ⟨d, h1, h2⟩ := h
  exact ⟨d, h1, h2.symm⟩
section
variable {K : PySem.W.Frag} {H : Hp} {μ : List Addr} {st : Sto}
theorem pair_laid {i : Int} {d : D} {x : V} {T : Addr} (s : SRep K st μ H) (r : Rep K H μ d x) (hT : H T = none) :
    Ext H (upd H T (.tup [.int i, x])) μ μ ∧ SRep K st μ (upd H T (.tup [.int i, x])) ∧ Rep K (upd H T (.tup [.int i, x])) μ (.tup [.int i, d]) (.ref T) ∧ (∀ b o, H b = some o → upd H T (.tup [.int i, x]) b = some o) :=
  ⟨Ext.laid hT, s.laid hT, ⟨T, [.int i, x], rfl, .inl (.inl upd_same), ⟨_, _, rfl, rfl, ⟨_, _, rfl, r.mono (Ext.laid hT), rfl⟩⟩⟩, fun b o q => by rw [upd_ne (ne_of_none q hT)]; exact q⟩
theorem ItRep.enumT {a : Addr} {ds : List D} {vs : List V} (hs : SqT K H a vs) (hr : Reps K H μ ds vs) : ItRep K (IteT K a) (enumItems ds) (fun _ => True) H μ where
  go i H1 μ1 st y x s _ e := by
    obtain ⟨d, hd, rfl⟩ := enumItems_get e
    obtain ⟨v, hv, rv⟩ := (hr.mono x).get hd
    refine ⟨⟨vs, v, x.sqT hs, hv⟩, fun y H' hy => ?_⟩
    obtain ⟨T, z, rfl, hT, rfl, hz⟩ := hy
    have := hz vs (x.sqT hs)
    rw [hv] at this; cases this
    exact pair_laid s rv hT
  stop H1 μ1 st x s _ := ⟨vs, x.sqT hs, by simp [enumItems, hr.length]⟩
theorem ItRep.enumF {a : Addr} {ds : List D} {vs : List V} (hs : FzL K H a vs) (hr : Reps K H μ ds vs) : ItRep K (Ite K a) (enumItems ds) (fun _ => True) H μ where
  go i H1 μ1 st y x s _ e := by
    obtain ⟨d, hd, rfl⟩ := enumItems_get e
    obtain ⟨v, hv, rv⟩ := (hr.mono x).get hd
    refine ⟨⟨vs, v, (x.fzL hs).sq, hv⟩, fun y H' hy => ?_⟩
    obtain ⟨T, z, rfl, hT, rfl, hz⟩ := hy
    have := hz vs (x.fzL hs).sq
    rw [hv] at this; cases this
    exact pair_laid s rv hT
  stop H1 μ1 st x s _ := ⟨vs, (x.fzL hs).sq, by simp [enumItems, hr.length]⟩
theorem ItRep.enumL {a : Addr} {n : Nat} {ds : List D} (hn : μ[n]? = some a) : ItRep K (Ite K a) (enumItems ds) (fun st => st[n]? = some (.lst ds)) H μ where
  go i H1 μ1 st y x s g e := by
    obtain ⟨d, hd, rfl⟩ := enumItems_get e
    obtain ⟨a', o, e1, e2, vs, rfl, hr⟩ := s.at' _ _ g
    rw [x.pre n a hn] at e1; cases e1
    obtain ⟨v, hv, rv⟩ := hr.get hd
    refine ⟨⟨vs, v, .inl (.inl e2), hv⟩, fun y H' hy => ?_⟩
    obtain ⟨T, z, rfl, hT, rfl, hz⟩ := hy
    have := hz vs (.inl (.inl e2))
    rw [hv] at this; cases this
    exact pair_laid s rv hT
  stop H1 μ1 st x s g := by
    obtain ⟨a', o, e1, e2, vs, rfl, hr⟩ := s.at' _ _ g
    rw [x.pre n a hn] at e1; cases e1
    exact ⟨vs, .inl (.inl e2), by simp [enumItems, hr.length]⟩
end
/-- enumerate(x) -/
def enumD (st : Sto) : D → (List D → (Sto → Prop) → Prop) → Prop
  | .tup ds, Q => Q (enumItems ds) fun _ => True
  | .fls ds, Q => Q (enumItems ds) fun _ => True
  | .loc n, Q => ∃ ds, st[n]? = some (.lst ds) ∧ Q (enumItems ds) fun st => st[n]? = some (.lst ds)
  | _, _ => False
def iEn (ta : DTA) : DTI := fun ρ st Q Z => ta ρ st (fun xs st1 => match xs with | [x] => enumD st1 x fun items G => Q items G st1 | _ => False) Z
section
variable {X : Cx} {W : WX} {e : Expr} {t : DTA} {p pos tpos : Pos} {elts : List Expr} {kk : Nat}
theorem di_enum (hg : Gl X "enumerate") (hm : X.mg "enumerate" = none) (ha : DA X W [e] t) (hs : starEach [e] X.env = [(false, eval e X.env)] := by rfl) : DI X W (.Tuple elts kk tpos) (.Call (.Name "enumerate" p) [e] [] pos) (iEn t) :=
  pi_weak (pi_enumA hg hm ha hs) fun σ H R ⟨ρ, st, μ, Qd, Z, hS, ht, hZ, hk⟩ => ⟨ρ, st, μ, _, Z, hS, ht, fun ds st1 H1 μ1 vs hx e1 s1 rv => by
    match ds, rv, hx with
    | [x], rv, hx =>
      obtain ⟨v, rfl, rx⟩ := reps1 rv
      cases x with
      | tup ds =>
        obtain ⟨a, vs, rfl, hs, hr⟩ := rx
        exact ⟨a, rfl, .inr ⟨⟨vs, hs⟩, hk _ _ _ _ _ _ hx e1 s1 (ItRep.enumT hs hr)⟩⟩
      | fls ds =>
        obtain ⟨a, vs, rfl, hs, hr⟩ := rx
        exact ⟨a, rfl, .inl ⟨⟨vs, hs.sq⟩, hk _ _ _ _ _ _ hx e1 s1 (ItRep.enumF hs hr)⟩⟩
      | loc n =>
        obtain ⟨a, rfl, hn⟩ := rx
        obtain ⟨ds, hds, q⟩ := hx
        obtain ⟨a', o, q1, q2, vs, rfl, hr⟩ := s1.at' _ _ hds
        rw [hn] at q1; cases q1
        exact ⟨a, rfl, .inl ⟨⟨vs, .inl (.inl q2)⟩, hk _ _ _ _ _ _ q e1 s1 (ItRep.enumL hn)⟩⟩
      | _ => exact (show False from hx).elim, hZ⟩
end
end DL
namespace DL
open PySem L2 PySem.Spec
open PyProof.Rows hiding St
variable [TC : TabCtx]
def dRev (te : DTE) : DTE := fun ρ st Q Z => te ρ st (fun x st1 => match x with
  | .tup ds => Q (.tup ds.reverse) st1
  | x => ∃ ds, itemsD st1 x = some ds ∧ Q (.loc st1.length) (st1 ++ [.lst ds.reverse])) Z
def zipItems (ds es : List D) : List D := List.zipWith (fun a b => .tup [a, b]) ds es
def iZp (ta : DTA) : DTI := fun ρ st Q Z => ta ρ st (fun xs st1 => match xs with | [.tup ds, .tup es] => Q (zipItems ds es) (fun _ => True) st1 | _ => False) Z
end DL
namespace DL
open PySem L2 PySem.Spec
open PyProof.Rows hiding St
variable [TC : TabCtx]
section
variable {X : Cx} {W : WX} {a e : Expr} {ta : DTE} {pos p : Pos} {x : Str}
/-- -a -/
def dNegV : D → Sto → DK → Prop := fun x st Q => match x with | .int i => Q (.int (-i)) st | _ => False
theorem de_neg (ha : DE X W a ta) : DE X W (.UnaryOp .USub a pos) (dUn dNegV ta) := de_un un_neg (fun {H μ st x v Qd Q} s r h hQ => by
  cases x <;> first | exact (show False from h).elim | skip
  exact ⟨_, r, hQ _ _ _ _ _ h (Ext.refl _ _) s rfl⟩) ha
/-- {} -/
def dDict0 : DTE := fun _ st Q _ => Q (.loc st.length) (st ++ [.dK []])
theorem de_dict0 : DE X W (.Dict [] [] pos) dDict0 := pe_weak pe_dnewK fun σ H Q ⟨ρ, st, μ, Qd, Z, hS, ht, hQ, hZ⟩ p hp =>
  hQ _ _ _ _ _ ht (Ext.push hp) (hS.s.push hp ⟨[], rfl, rfl, rfl⟩) ⟨p, rfl, by rw [hS.s.len]; exact getElem?_end _ _⟩
/-- a constant of the module -/
def Cst (K : PySem.W.Frag) (mg : Str → Option Value) (x : Str) (d : D) : Prop := ∃ v u, mg x = some u ∧ RelV v u ∧ ∀ H μ, Rep K H μ d v
theorem de_cst {d : D} (hg : Gl X x) (h : Cst X.K X.mg x d) (hd : (x == ("__debug__" : Str)) = false := by decide) : DE X W (.Name x pos) (dC d) := by
  obtain ⟨v, u, hm, r, hr⟩ := h
  exact de_c (pe_glob hg hm r hd) hr
end
mutual
/-- a datum of the written part -/
def KRep (K : PySem.W.Frag) : D → Value → Prop
  | .non, u => u = .none
  | .bl b, u => u = .bool b
  | .int i, u => ∃ t, u = .int i t
  | .str x, u => ∃ t, u = .str x t
  | .tup ds, u => ∃ (a : Addr) (o : Obj) (us : Array Value) (n : Nat), u = .ref a ∧ K.lookup a = some o ∧ o.cls = .type "tuple" ∧ o.data = .seq us n ∧ us.size ≤ sizeLine ∧ KReps K ds us.toList
  | _, _ => False
def KReps (K : PySem.W.Frag) : List D → List Value → Prop
  | [], us => us = []
  | d :: ds, us => ∃ u r, us = u :: r ∧ KRep K d u ∧ KReps K ds r
end
mutual
theorem KRep.rep {K : PySem.W.Frag} : ∀ {d : D} {u : Value}, KRep K d u → ∃ v, RelV v u ∧ ∀ H μ, Rep K H μ d v
  | .non, _, h => by subst h; exact ⟨.non, rfl, fun _ _ => rfl⟩
  | .bl b, _, h => by subst h; exact ⟨.bl b, rfl, fun _ _ => rfl⟩
  | .int i, _, h => by obtain ⟨t, rfl⟩ := h; exact ⟨.int i, ⟨t, rfl⟩, fun _ _ => rfl⟩
  | .str x, _, h => by obtain ⟨t, rfl⟩ := h; exact ⟨.str x, ⟨t, rfl⟩, fun _ _ => rfl⟩
  | .tup ds, _, h => by
    obtain ⟨a, o, us, n, rfl, h1, h2, h3, h4, h5⟩ := h
    obtain ⟨vs, r1, r2⟩ := KReps.reps h5
    exact ⟨.ref a, rfl, fun H μ => ⟨a, vs, rfl, .inr ⟨o, us, n, h1, h2, h3, h4, r1⟩, r2 H μ⟩⟩
  | .fls _, _, h => h.elim
  | .loc _, _, h => h.elim
  | .adr _, _, h => h.elim
  | .ty _, _, h => h.elim
theorem KReps.reps {K : PySem.W.Frag} : ∀ {ds : List D} {us : List Value}, KReps K ds us → ∃ vs, Vals vs us ∧ ∀ H μ, Reps K H μ ds vs
  | [], _, h => by subst h; exact ⟨[], .nil, fun _ _ => rfl⟩
  | d :: ds, _, h => by
    obtain ⟨u, r, rfl, h1, h2⟩ := h
    obtain ⟨v, r1, r2⟩ := KRep.rep h1
    obtain ⟨vs, q1, q2⟩ := KReps.reps h2
    exact ⟨v :: vs, .cons r1 q1, fun H μ => ⟨v, vs, rfl, r2 H μ, q2 H μ⟩⟩
end
theorem Cst.of {K : PySem.W.Frag} {mg : Str → Option Value} {x : Str} {d : D} {u : Value} (h : mg x = some u) (r : KRep K d u) : Cst K mg x d := by
  obtain ⟨v, r1, r2⟩ := r.rep
  exact ⟨v, u, h, r1, r2⟩
theorem KRep.mkTup {K : PySem.W.Frag} {ds : List D} {a : Addr} {us : Array Value} {n : Nat} {od : Option Addr} {sl : Array (Option Value)} (h : K.lookup a = some ⟨.type "tuple", od, .seq us n, sl⟩) (hz : us.size ≤ sizeLine) (hr : KReps K ds us.toList) : KRep K (.tup ds) (.ref a) :=
  ⟨a, _, us, n, rfl, h, rfl, rfl, hz, hr⟩
end DL
namespace DL
open PySem L2 PySem.Spec
open PyProof.Rows hiding St
variable [TC : TabCtx]
/-- a reading serves a promise -/
def Rd (n : Nat) (dsp : DSp) (t : DTS) (N : List Str) : Prop :=
  ∀ ds st Q Z, ds.length = n → dsp ds st Q Z → t { nx := fun _ st1 => Back st Q .non st1, rt := Back st Q, xs := fun x _ st1 => BackX st Z x st1 } (startD N ds) st
section
variable {P : Program} {w : World} {K : PySem.W.Frag} {mg : Str → Option Value} {base : Heap} {k n : Nat} {x : Str} {s : Stmt} {N ps : List Str} {dsp : DSp} {c : Addr}
def DefInC (K : PySem.W.Frag) (mg : Str → Option Value) (x : Str) (s : Stmt) (ps : List Str) (c : Addr) : Prop :=
  ∃ (f : Addr) (oc : Value) (od an : Option Addr) (kV doc pm ct : Value) (osl : Array (Option Value)), K.lookup f = some ⟨oc, od, .func (PySem.W.fnOf x x (defArgs s) (defBody s) (defScope s) .none kV doc pm an (.ref c) ct), osl⟩ ∧
    PySem.W.codeIn K (.ref c) x = true ∧ PySem.W.keepIn K (.ref f) = true ∧ mg x = some (.ref f) ∧ Binds K (PySem.W.fnOf x x (defArgs s) (defBody s) (defScope s) .none kV doc pm an (.ref c) ct) ps []
theorem has_mkC (F : DefInC K mg x s ps c) (S : FnScope N ps (defScope s)) (hn : ps.length = n)
    (body : ∀ (f : Addr) (A : Around) (outer : List Env) (s0 : Shared) (H : Hp) (E : XK), Room k (A.deeper (envOfC x (defScope s) s0.heap.objs.size f (.ref c))) →
      ∃ t, DSs (XDef P w K mg base N x s f (.ref c) A outer s0 H E) (WDef E) (defBody s) t ∧ ∀ ds st Q Z, ds.length = n → dsp ds st Q Z → t { nx := fun _ st' => Back st Q .non st', rt := Back st Q, xs := fun x _ st' => BackX st Z x st' } (startD N ds) st) :
    Has P w K mg base (k + 1) x n dsp := by
  obtain ⟨f, oc, od, an, kV, doc, pm, ct, osl, lk, hcd, kp, hm, hb⟩ := F
  refine ⟨f, _, ps, fn_of lk hcd S (fun vs H Q E h => by rw [hn]; exact h.1) (fun A outer s0 H vs Q E hr h => ?_), hm, kp, hb⟩
  obtain ⟨t, ht, hd⟩ := body f A outer s0 H E hr
  obtain ⟨hl, ds, st, μ, Qd, Z, r, sr, hsp, hQ, hZ⟩ := h
  refine ⟨_, ht, startD N ds, st, μ, _, ⟨start_rep N r, sr⟩, hd ds st Qd Z (by rw [r.length]; exact hl) hsp, ?_, Back.ok sr hQ, ?_, ?_, ?_⟩
  · exact fun ρ' st' σ' H' μ' q e s' => Back.ok sr hQ _ _ _ _ _ q e s'.s rfl
  · exact fun ρ' st' σ' H' μ' q e s' => q.elim
  · exact fun ρ' st' σ' H' μ' q e s' => q.elim
  · exact fun x' ρ' st' σ' H' μ' c dx q e s' r' => BackX.ok sr hZ _ _ _ _ _ _ q e s'.s r'
variable {h : Heap}
theorem def_mk {f : Addr} {oc : Value} {od an : Option Addr} {osl : Array (Option Value)} {kV doc pm cdv ct : Value} (KX : K.In h) (G : h.Ns mainGlobals mg) (a : PySem.W.nsIn K mainGlobals x = some (some (.ref f)))
    (l : K.lookup f = some ⟨oc, od, .func (PySem.W.fnOf x x (defArgs s) (defBody s) (defScope s) .none kV doc pm an cdv ct), osl⟩) (cd : PySem.W.codeIn K cdv x = true) (kp : PySem.W.keepIn K (.ref f) = true)
    (hb : ∀ (kV doc pm : Value) (an : Option Addr) (cdv ct : Value) (us : List Value), us.length = ps.length → bindArgs (PySem.W.fnOf x x (defArgs s) (defBody s) (defScope s) .none kV doc pm an cdv ct) ⟨us, []⟩ = pure (ps.zip us)) : DefIn K mg x s ps := by
  have F := fun_mk (st := s) l cd kp
  exact ⟨f, _, F, PySem.W.mg_of KX G a, F.binds hb⟩
theorem defc_mk {f : Addr} {oc : Value} {od an : Option Addr} {osl : Array (Option Value)} {kV doc pm ct : Value} (KX : K.In h) (G : h.Ns mainGlobals mg) (a : PySem.W.nsIn K mainGlobals x = some (some (.ref f)))
    (l : K.lookup f = some ⟨oc, od, .func (PySem.W.fnOf x x (defArgs s) (defBody s) (defScope s) .none kV doc pm an (.ref c) ct), osl⟩) (cd : PySem.W.codeIn K (.ref c) x = true) (kp : PySem.W.keepIn K (.ref f) = true)
    (hb : ∀ (kV doc pm : Value) (an : Option Addr) (cdv ct : Value) (us : List Value), us.length = ps.length → bindArgs (PySem.W.fnOf x x (defArgs s) (defBody s) (defScope s) .none kV doc pm an cdv ct) ⟨us, []⟩ = pure (ps.zip us)) : DefInC K mg x s ps c := by
  have F := fun_mk (st := s) l cd kp
  exact ⟨f, oc, od, an, kV, doc, pm, ct, osl, l, cd, kp, PySem.W.mg_of KX G a, F.binds hb⟩
end
end DL
namespace DL
open PySem L2 PySem.Spec
open PyProof.Rows hiding St
section
variable {i j : Nat} {ρ : Env'} {st : Sto} {Q : DK} {Z : DZ} {d x y z : D} {ds es : List D} {te ta tb tc : DTE} {t u : DTA} {c c' : DTT} {QT : Bool → Sto → Prop} {QA : List D → Sto → Prop} {E : DEnds} {s r : DTS}
@[simp] theorem s_var : dVar i ρ st Q Z = (match ρ[i]? with | some (some d) => Q d st | _ => False) := rfl
@[simp] theorem s_c : dC d ρ st Q Z = Q d st := rfl
@[simp] theorem s_op {dr : D2} : dOp dr ta tb ρ st Q Z = ta ρ st (fun x st1 => tb ρ st1 (fun y st2 => dr x y st2 Q) Z) Z := rfl
@[simp] theorem s_un {f : D → Sto → DK → Prop} : dUn f ta ρ st Q Z = ta ρ st (fun x st1 => f x st1 Q) Z := rfl
@[simp] theorem s_test : dTest ta ρ st QT Z = ta ρ st (fun x st1 => match x with | .bl b => QT b st1 | _ => False) Z := rfl
@[simp] theorem s_chain {r r' : D2} : dChain r r' ta tb tc ρ st Q Z = ta ρ st (fun x st1 => tb ρ st1 (fun y st2 => r x y st2 fun z st3 => match z with
  | .bl k => if k = true then tc ρ st3 (fun w st4 => r' y w st4 Q) Z else Q (.bl false) st3
  | _ => False) Z) Z := rfl
@[simp] theorem s_tru_non {Qb : Bool → Prop} : truD st .non Qb = Qb false := rfl
@[simp] theorem s_tru_bl {b : Bool} {Qb : Bool → Prop} : truD st (.bl b) Qb = Qb b := rfl
@[simp] theorem s_tru_int {b : Int} {Qb : Bool → Prop} : truD st (.int b) Qb = Qb (b != 0) := rfl
@[simp] theorem s_tru_tup {Qb : Bool → Prop} : truD st (.tup ds) Qb = Qb (!ds.isEmpty) := rfl
@[simp] theorem s_tru_fls {Qb : Bool → Prop} : truD st (.fls ds) Qb = Qb (!ds.isEmpty) := rfl
@[simp] theorem s_tru_loc {n : Nat} {Qb : Bool → Prop} : truD st (.loc n) Qb = (match st[n]? with | some (.lst ds) => Qb (!ds.isEmpty) | some (.dK kvs) => Qb (!kvs.isEmpty) | _ => False) := rfl
@[simp] theorem s_tru : dTru ta ρ st QT Z = ta ρ st (fun x st1 => truD st1 x fun b => QT b st1) Z := rfl
@[simp] theorem s_not : dNot c ρ st QT Z = c ρ st (fun b st1 => QT (!b) st1) Z := rfl
@[simp] theorem s_and : dAnd c c' ρ st QT Z = c ρ st (fun b st1 => if b = true then c' ρ st1 QT Z else QT false st1) Z := rfl
@[simp] theorem s_or : dOr c c' ρ st QT Z = c ρ st (fun b st1 => if b = true then QT true st1 else c' ρ st1 QT Z) Z := rfl
@[simp] theorem s_if : dIf c ta tb ρ st Q Z = c ρ st (fun k st1 => if k = true then ta ρ st1 Q Z else tb ρ st1 Q Z) Z := rfl
@[simp] theorem s_andV : dAndV ta tb ρ st Q Z = ta ρ st (fun x st1 => truD st1 x fun k => if k = true then tb ρ st1 Q Z else Q x st1) Z := rfl
@[simp] theorem s_orV : dOrV ta tb ρ st Q Z = ta ρ st (fun x st1 => truD st1 x fun k => if k = true then Q x st1 else tb ρ st1 Q Z) Z := rfl
@[simp] theorem s_notV : dNotV ta ρ st Q Z = ta ρ st (fun x st1 => truD st1 x fun k => Q (.bl (!k)) st1) Z := rfl
@[simp] theorem s_nil : dNil ρ st QA Z = QA [] st := rfl
@[simp] theorem s_cons : dCons ta t ρ st QA Z = ta ρ st (fun x st1 => t ρ st1 (fun xs st2 => QA (x :: xs) st2) Z) Z := rfl
@[simp] theorem s_dtup : dTup t ρ st Q Z = t ρ st (fun xs st1 => xs.length ≤ sizeLine ∧ Q (.tup xs) st1) Z := rfl
@[simp] theorem s_dlst : dLst t ρ st Q Z = t ρ st (fun xs st1 => xs.length ≤ sizeLine ∧ Q (.loc st1.length) (st1 ++ [.lst xs])) Z := rfl
@[simp] theorem s_dict0 : dDict0 ρ st Q Z = Q (.loc st.length) (st ++ [.dK []]) := rfl
@[simp] theorem s_cb {dr : DN} : dCB dr t ρ st Q Z = t ρ st (fun xs st1 => dr xs st1 Q) Z := rfl
@[simp] theorem s_bm {T : String} {dm : DM} : dBM T dm ta t ρ st Q Z = ta ρ st (fun x st1 => tyD st1 T x ∧ t ρ st1 (fun xs st2 => dm x xs st2 Q) Z) Z := rfl
@[simp] theorem s_call {n : Nat} {dsp : DSp} : dCall n dsp t ρ st Q Z = t ρ st (fun ds st1 => ds.length = n ∧ dsp ds st1 Q fun x st2 => Z x ρ st2) Z := rfl
@[simp] theorem s_isi {Ts : List String} : dIsi ta Ts ρ st Q Z = ta ρ st (fun x st1 => match tyN st1 x with | some a => Q (.bl (Ts.any (tySub a))) st1 | none => False) Z := rfl
@[simp] theorem s_sl {tl th : DTO} : dSl ta tl th ρ st Q Z = ta ρ st (fun x st1 => tl ρ st1 (fun l st2 => th ρ st2 (fun u st3 => dSlV x l u st3 Q) Z) Z) Z := rfl
@[simp] theorem s_noPart {QO : Option Int → Sto → Prop} : dNoPart ρ st QO Z = QO none st := rfl
@[simp] theorem s_part {QO : Option Int → Sto → Prop} : dPart ta ρ st QO Z = ta ρ st (fun x st1 => match x with | .int i => QO (some i) st1 | _ => False) Z := rfl
@[simp] theorem s_slv_tup {l u : Option Int} : dSlV (.tup ds) l u st Q = Q (.tup (cutL ds l u)) st := rfl
@[simp] theorem s_slv_fls {l u : Option Int} : dSlV (.fls ds) l u st Q = Q (.loc st.length) (st ++ [.lst (cutL ds l u)]) := rfl
@[simp] theorem s_slv_loc {n : Nat} {l u : Option Int} : dSlV (.loc n) l u st Q = ∃ ds, st[n]? = some (.lst ds) ∧ Q (.loc st.length) (st ++ [.lst (cutL ds l u)]) := rfl
@[simp] theorem s_rev : dRev ta ρ st Q Z = ta ρ st (fun x st1 => match x with
  | .tup ds => Q (.tup ds.reverse) st1
  | x => ∃ ds, itemsD st1 x = some ds ∧ Q (.loc st1.length) (st1 ++ [.lst ds.reverse])) Z := rfl
@[simp] theorem s_neg {i : Int} : dNegV (.int i) st Q = Q (.int (-i)) st := rfl
@[simp] theorem s_add_int {i j : Int} : dAdd (.int i) (.int j) st Q = Q (.int (i + j)) st := rfl
@[simp] theorem s_add_str {a b : Str} : dAdd (.str a) (.str b) st Q = (a.length + b.length ≤ sizeLine ∧ Q (.str (a ++ b)) st) := rfl
@[simp] theorem s_add_tup {a b : List D} : dAdd (.tup a) (.tup b) st Q = (a.length + b.length ≤ sizeLine ∧ Q (.tup (a ++ b)) st) := rfl
@[simp] theorem s_add_loc {m n : Nat} : dAdd (.loc m) (.loc n) st Q = ∃ a b, st[m]? = some (.lst a) ∧ st[n]? = some (.lst b) ∧ a.length + b.length ≤ sizeLine ∧ Q (.loc st.length) (st ++ [.lst (a ++ b)]) := rfl
@[simp] theorem s_sub {i j : Int} : dSub (.int i) (.int j) st Q = Q (.int (i - j)) st := rfl
@[simp] theorem s_mul {i j : Int} : dMul (.int i) (.int j) st Q = (CMul i j ∧ Q (.int (i * j)) st) := rfl
@[simp] theorem s_div {i j : Int} : dDiv (.int i) (.int j) st Q = (CDiv i j ∧ Q (.int (i / j)) st) := rfl
@[simp] theorem s_mod {i j : Int} : dMod (.int i) (.int j) st Q = (0 < j ∧ Q (.int (i % j)) st) := rfl
@[simp] theorem s_pow {i j : Int} : dPow (.int i) (.int j) st Q = (CPow i j ∧ Q (.int (i ^ j.toNat)) st) := rfl
@[simp] theorem s_eq_int {f : Bool → Bool} {i j : Int} : dEqB f (.int i) (.int j) st Q = Q (.bl (f (decide (i = j)))) st := rfl
@[simp] theorem s_eq_str {f : Bool → Bool} {i j : Str} : dEqB f (.str i) (.str j) st Q = Q (.bl (f (decide (i = j)))) st := rfl
@[simp] theorem s_eq_bl {f : Bool → Bool} {i j : Bool} : dEqB f (.bl i) (.bl j) st Q = Q (.bl (f (decide (i = j)))) st := rfl
@[simp] theorem s_ord_int {f : Int → Int → Bool} {g : PyData → PyData → Bool} {i j : Int} : dOrd f g (.int i) (.int j) st Q = Q (.bl (f i j)) st := rfl
@[simp] theorem s_is {f : Bool → Bool} : dIsN f x .non st Q = Q (.bl (f (isNonD x))) st := rfl
@[simp] theorem isNon_non : isNonD .non = true := rfl
@[simp] theorem isNon_int {i : Int} : isNonD (.int i) = false := rfl
@[simp] theorem isNon_str {i : Str} : isNonD (.str i) = false := rfl
@[simp] theorem isNon_bl {i : Bool} : isNonD (.bl i) = false := rfl
@[simp] theorem isNon_tup : isNonD (.tup ds) = false := rfl
@[simp] theorem isNon_loc {n : Nat} : isNonD (.loc n) = false := rfl
@[simp] theorem isNon_fls : isNonD (.fls ds) = false := rfl
@[simp] theorem s_ix_tup {i : Int} : dIx (.tup ds) (.int i) st Q = ∃ d, atI ds i = some d ∧ Q d st := rfl
@[simp] theorem s_ix_fls {i : Int} : dIx (.fls ds) (.int i) st Q = ∃ d, atI ds i = some d ∧ Q d st := rfl
@[simp] theorem s_ix_loc {n : Nat} {i : Int} : dIx (.loc n) (.int i) st Q = ∃ ds d, st[n]? = some (.lst ds) ∧ atI ds i = some d ∧ Q d st := rfl
@[simp] theorem s_ix_str {z : Str} {i : Int} : dIx (.str z) (.int i) st Q = ∃ c, z.length ≤ sizeLine ∧ atI z.cps.toList i = some c ∧ Q (.str ⟨#[c]⟩) st := rfl
@[simp] theorem s_len_tup : dLen [.tup ds] st Q = Q (.int ds.length) st := rfl
@[simp] theorem s_len_fls : dLen [.fls ds] st Q = Q (.int ds.length) st := rfl
@[simp] theorem s_len_loc {n : Nat} : dLen [.loc n] st Q = (match st[n]? with | some (.lst ds) => Q (.int ds.length) st | _ => False) := by
  first
    | (simp only [dLen, lenD]; done)
    | (simp only [dLen, lenD]
       cases st[n]? with
       | none => rfl
       | some b => cases b <;> rfl)
@[simp] theorem s_len_str {a : Str} : dLen [.str a] st Q = (a.length ≤ sizeLine ∧ Q (.int a.length) st) := rfl
@[simp] theorem s_abs {i : Int} : dAbs [.int i] st Q = Q (.int (if i < 0 then -i else i)) st := rfl
@[simp] theorem s_int {i : Int} : dInt [.int i] st Q = Q (.int i) st := rfl
@[simp] theorem s_int_bl {b : Bool} : dInt [.bl b] st Q = Q (.int (if b then 1 else 0)) st := rfl
@[simp] theorem s_tupOf : dTupOf [d] st Q = (match itemsD st d with | some es => Q (.tup es) st | none => False) := rfl
@[simp] theorem s_lstOf : dLstOf [d] st Q = (match itemsD st d with | some es => Q (.loc st.length) (st ++ [.lst es]) | none => False) := rfl
@[simp] theorem s_items_tup : itemsD st (.tup ds) = some ds := rfl
@[simp] theorem s_items_fls : itemsD st (.fls ds) = some ds := rfl
@[simp] theorem s_items_loc {n : Nat} : itemsD st (.loc n) = (match st[n]? with | some (.lst ds) => some ds | _ => none) := rfl
@[simp] theorem s_all {n : Nat} : dAll [.loc n] st Q = ∃ bs : List Bool, st[n]? = some (.lst (bs.map .bl)) ∧ Q (.bl (bs.all id)) st := rfl
@[simp] theorem s_any {n : Nat} : dAny [.loc n] st Q = ∃ bs : List Bool, st[n]? = some (.lst (bs.map .bl)) ∧ Q (.bl (bs.any id)) st := rfl
@[simp] theorem s_append {n : Nat} : dAppend (.loc n) [d] st Q = ∃ es, st[n]? = some (.lst es) ∧ es.length < sizeLine ∧ Q .non (st.set n (.lst (es ++ [d]))) := rfl
@[simp] theorem s_extend {n m : Nat} : dExtend (.loc n) [.loc m] st Q = ∃ es fs, st[n]? = some (.lst es) ∧ st[m]? = some (.lst fs) ∧ es.length + fs.length ≤ sizeLine ∧ Q .non (st.set n (.lst (es ++ fs))) := rfl
@[simp] theorem s_tyD_loc {T : String} {n : Nat} : tyD st T (.loc n) = (match st[n]? with | some (.lst _) => T = "list" | some (.dK _) => T = "dict" | _ => False) := rfl
@[simp] theorem tyN_non : tyN st .non = some "NoneType" := rfl
@[simp] theorem tyN_bl {b : Bool} : tyN st (.bl b) = some "bool" := rfl
@[simp] theorem tyN_int {b : Int} : tyN st (.int b) = some "int" := rfl
@[simp] theorem tyN_str {b : Str} : tyN st (.str b) = some "str" := rfl
@[simp] theorem tyN_tup : tyN st (.tup ds) = some "tuple" := rfl
@[simp] theorem tyN_fls : tyN st (.fls ds) = some "list" := rfl
@[simp] theorem s_next : dNext E ρ st = E.nx ρ st := rfl
@[simp] theorem s_seq : dSeq s r E ρ st = s { E with nx := r E } ρ st := rfl
@[simp] theorem s_drop : dDrop te E ρ st = te ρ st (fun _ st1 => E.nx ρ st1) E.xs := rfl
@[simp] theorem s_ret : dRet te E ρ st = te ρ st E.rt E.xs := rfl
@[simp] theorem s_ifS : dIfS c s r E ρ st = c ρ st (fun b st1 => if b = true then s E ρ st1 else r E ρ st1) E.xs := rfl
@[simp] theorem s_gN {i : Nat} {Qn : Env' → Sto → Prop} : gN i d ρ st Qn = Qn (ρ.set i (some d)) st := rfl
@[simp] theorem s_gNil {Qn : Env' → Sto → Prop} : gNil' [] ρ st Qn = Qn ρ st := rfl
@[simp] theorem s_gCons {g : DTG} {h : DTGs} {Qn : Env' → Sto → Prop} : gCons' g h (d :: ds) ρ st Qn = g d ρ st fun ρ' st' => h ds ρ' st' Qn := rfl
@[simp] theorem s_gTup {n : Nat} {h : DTGs} {Qn : Env' → Sto → Prop} : gTup' n h (.tup ds) ρ st Qn = (ds.length = n ∧ h ds ρ st Qn) := rfl
@[simp] theorem s_asg {g : DTG} : dAsg te g E ρ st = te ρ st (fun x st1 => g x ρ st1 E.nx) E.xs := rfl
@[simp] theorem s_par {i j : Nat} : dPar i j t E ρ st = t ρ st (fun vs st1 => match vs with | [v, w] => E.nx ((ρ.set i (some v)).set j (some w)) st1 | _ => False) E.xs := rfl
@[simp] theorem s_gSub {to ti : DTE} {dr : D3} {Qn : Env' → Sto → Prop} : gSub' to ti dr d ρ st Qn = to ρ st (fun o st1 => ti ρ st1 (fun i st2 => dr o i d st2 fun st3 => Qn ρ st3) fun _ _ _ => False) fun _ _ _ => False := rfl
@[simp] theorem s_setL {n : Nat} {k : Int} {Qs : Sto → Prop} : dSetL (.loc n) (.int k) x st Qs = ∃ ds j, st[n]? = some (.lst ds) ∧ ixN ds.length k = some j ∧ Qs (st.set n (.lst (ds.set j x))) := rfl
@[simp] theorem s_start {N : List Str} : startD N ds = ds.map some ++ List.replicate (N.length - ds.length) none := rfl
@[simp] theorem s_for {it : DTI} {g : DTG} {body : DTS} : dFor it g body E ρ st = it ρ st (fun items G st1 => runG g body E G items ρ st1) E.xs := rfl
theorem runG_nil {g : DTG} {body : DTS} {G : Sto → Prop} : runG g body E G [] ρ st = (G st ∧ E.nx ρ st) := rfl
theorem runG_cons {g : DTG} {body : DTS} {G : Sto → Prop} : runG g body E G (d :: ds) ρ st = (G st ∧ g d ρ st fun ρ2 st2 => body { E with nx := runG g body E G ds, ct := runG g body E G ds, bk := E.nx } ρ2 st2) := rfl
@[simp] theorem s_iD {QI : List D → (Sto → Prop) → Sto → Prop} : iD te ρ st QI Z = te ρ st (fun x st1 => walkD st1 x fun items G => QI items G st1) Z := rfl
@[simp] theorem s_walk_tup {QI : List D → (Sto → Prop) → Prop} : walkD st (.tup ds) QI = QI ds fun _ => True := rfl
@[simp] theorem s_walk_fls {QI : List D → (Sto → Prop) → Prop} : walkD st (.fls ds) QI = QI ds fun _ => True := rfl
@[simp] theorem s_walk_loc {n : Nat} {QI : List D → (Sto → Prop) → Prop} : walkD st (.loc n) QI = ∃ ds, st[n]? = some (.lst ds) ∧ QI ds fun st => st[n]? = some (.lst ds) := rfl
@[simp] theorem s_iR1 {QI : List D → (Sto → Prop) → Sto → Prop} : iR1 t ρ st QI Z = t ρ st (fun xs st1 => match xs with | [.int j] => -(2 ^ 62) ≤ j ∧ j < 2 ^ 62 ∧ QI (rngItems 0 j.toNat) (fun _ => True) st1 | _ => False) Z := rfl
@[simp] theorem s_iR2 {QI : List D → (Sto → Prop) → Sto → Prop} : iR2 t ρ st QI Z = t ρ st (fun xs st1 => match xs with | [.int i, .int j] => (-(2 ^ 62) ≤ i ∧ i < 2 ^ 62 ∧ -(2 ^ 62) ≤ j ∧ j < 2 ^ 62) ∧ QI (rngItems i (j - i).toNat) (fun _ => True) st1 | _ => False) Z := rfl
@[simp] theorem s_iEn {QI : List D → (Sto → Prop) → Sto → Prop} : iEn t ρ st QI Z = t ρ st (fun xs st1 => match xs with | [x] => enumD st1 x fun items G => QI items G st1 | _ => False) Z := rfl
@[simp] theorem s_iZp {QI : List D → (Sto → Prop) → Sto → Prop} : iZp t ρ st QI Z = t ρ st (fun xs st1 => match xs with | [.tup ds, .tup es] => QI (zipItems ds es) (fun _ => True) st1 | _ => False) Z := rfl
@[simp] theorem s_en_tup {QI : List D → (Sto → Prop) → Prop} : enumD st (.tup ds) QI = QI (enumItems ds) fun _ => True := rfl
@[simp] theorem s_en_fls {QI : List D → (Sto → Prop) → Prop} : enumD st (.fls ds) QI = QI (enumItems ds) fun _ => True := rfl
@[simp] theorem s_en_loc {n : Nat} {QI : List D → (Sto → Prop) → Prop} : enumD st (.loc n) QI = ∃ ds, st[n]? = some (.lst ds) ∧ QI (enumItems ds) fun st => st[n]? = some (.lst ds) := rfl
@[simp] theorem s_lc {it : DTI} {g : DTG} {tt : DTT} {own : List Nat} : dLc it g tt te own ρ st Q Z = it ρ st (fun items G st1 => runC g tt te (wipeD ρ own) Q G items [] st1) Z := rfl
theorem runC_nil {g : DTG} {tt : DTT} {G : Sto → Prop} : runC g tt te ρ Q G [] es st = (G st ∧ Q (.loc st.length) (st ++ [.lst es])) := rfl
theorem runC_cons {g : DTG} {tt : DTT} {G : Sto → Prop} : runC g tt te ρ Q G (d :: ds) es st = (G st ∧ g d ρ st fun ρ2 st2 => tt ρ2 st2 (fun b st3 => if b = true then te ρ2 st3 (fun y st4 => es.length < sizeLine ∧ runC g tt te ρ Q G ds (es ++ [y]) st4) Z0 else runC g tt te ρ Q G ds es st3) Z0) := rfl
@[simp] theorem s_wipe0 : wipeD ρ [] = ρ := rfl
@[simp] theorem s_wipe {v : Nat} {vs : List Nat} : wipeD ρ (v :: vs) = (wipeD ρ vs).set v none := rfl
@[simp] theorem s_yes : dYes ρ st QT Z = QT true st := rfl
end
end DL
namespace DL
open PySem L2 PySem.Spec
open PyProof.Rows hiding St
section
variable [TC : TabCtx] {P : Program} {w : World} {K : PySem.W.Frag} {mg : Str → Option Value} {base : Heap} {k n : Nat} {x : Str} {s : Stmt} {N ps : List Str} {dsp : DSp} {f : Addr} {fd : FuncData}
theorem fn_mk (F : Fun K x x s f fd) (S : FnScope N ps (defScope s)) (hn : ps.length = n)
    (body : ∀ (f : Addr) (cdv : Value) (A : Around) (outer : List Env) (s0 : Shared) (H : Hp) (E : XK), Room k (A.deeper (envOfC x (defScope s) s0.heap.objs.size f cdv)) →
      ∃ t, DSs (XDef P w K mg base N x s f cdv A outer s0 H E) (WDef E) (defBody s) t ∧ ∀ ds st Q Z, ds.length = n → dsp ds st Q Z → t { nx := fun _ st' => Back st Q .non st', rt := Back st Q, xs := fun x _ st' => BackX st Z x st' } (startD N ds) st) :
    FnOk P w K mg base (L2.CX P w) (k + 1) f fd ps (liftSp K n dsp) := by
  refine F.okX S (fun vs H Q E h => by rw [hn]; exact h.1) (fun cdv A outer s0 H vs Q E hr h => ?_)
  obtain ⟨t, ht, hd⟩ := body f cdv A outer s0 H E hr
  obtain ⟨hl, ds, st, μ, Qd, Z, r, sr, hsp, hQ, hZ⟩ := h
  refine ⟨_, ht, startD N ds, st, μ, _, ⟨start_rep N r, sr⟩, hd ds st Qd Z (by rw [r.length]; exact hl) hsp, ?_, Back.ok sr hQ, ?_, ?_, ?_⟩
  · exact fun ρ' st' σ' H' μ' q e s' => Back.ok sr hQ _ _ _ _ _ q e s'.s rfl
  · exact fun ρ' st' σ' H' μ' q e s' => q.elim
  · exact fun ρ' st' σ' H' μ' q e s' => q.elim
  · exact fun x' ρ' st' σ' H' μ' c dx q e s' r' => BackX.ok sr hZ _ _ _ _ _ _ q e s'.s r'
end
/-- what a law's own def promises: of a script it tells True -/
def IsL (st : Sto) (d : D) (ns : List Int) : Prop := d = .fls (ns.map .int) ∨ ∃ n, d = .loc n ∧ st[n]? = some (.lst (ns.map .int))
def sp_law : DSp := fun ds st Q _ => match ds with
  | [d] => ∃ ns : List Int, IsL st d ns ∧ ns.length ≤ 63 ∧ (∀ z ∈ ns, Builtin.Int.intBits z ≤ 1048576) ∧ ∀ st', Q (.bl true) st'
  | _ => False
theorem reps_ints0 {K : PySem.W.Frag} {H : Hp} {μ : List Addr} : ∀ ns : List Int, Reps K H μ (ns.map .int) (ns.map V.int)
  | [] => rfl
  | n :: ns => ⟨.int n, ns.map V.int, rfl, rfl, reps_ints0 ns⟩
theorem law_at {l : PySem.W.OpenLaw} {w : World} {K : PySem.W.Frag} {k : Nat} {mg : Str → Option Value} {fa : Addr} {fd : FuncData} {h : Heap} (T : List (Addr × Str)) (cs : List (Addr × Addr))
    (hT : ∀ p ∈ T, p.1 ∈ cs.map (·.2)) (ht : ∀ p ∈ cs, h.get? p.2 = some { cls := .none, data := .fields #[] }) (nk : ∀ p ∈ cs, K.lookup p.2 = none) (cd : ∀ p ∈ cs, PySem.W.CodeHd h p.1 p.2)
    (hb : ∀ (s : Shared) (u : Value), BindsTo s fd ⟨[u], []⟩ [("script", u)])
    (F : ∀ base : Heap, K.In base → base.Ns mainGlobals mg → (∀ p ∈ cs, LamX.TabB base mg p.1 p.2) → FnOk l.prog w K mg base (L2.CX l.prog w) k fa fd ["script"] (@liftSp ⟨T, []⟩ K 1 sp_law)) :
    LamX.LawAtS l w K (L2.CX l.prog w) k 63 "script" mg fa h := by
  letI : TabCtx := ⟨T, []⟩
  refine ⟨fd, cs, liftSp K 1 sp_law, ht, nk, cd, hb, fun H a ns hl hbits hts hS => ⟨rfl, ?_⟩, F⟩
  have tabs : LamX.Tabs T H := fun p hp => by
    obtain ⟨q, hq, e⟩ := List.mem_map.mp (hT p hp)
    rw [show p.1 = q.2 from e.symm]
    exact LamX.TabS.nil (hts q hq)
  have eok : ∀ {μ : List Addr}, EOk K (fun d _ => d = .bl true) (fun v _ => v = .bl true) H μ := fun d st' H' μ' v q _ _ r => by
    subst q
    exact r
  have xok : ∀ {μ : List Addr}, XOk K (fun _ _ => False) (fun _ _ _ => False) H μ := fun x st' H' μ' c dx q _ _ _ => q.elim
  have fz : FzL K H a (ns.map V.int) → ∃ ds st μ Qd Z, Reps K H μ ds [V.ref a] ∧ SRep K st μ H ∧ sp_law ds st Qd Z ∧ EOk K Qd (fun v _ => v = .bl true) H μ ∧ XOk K Z (fun _ _ _ => False) H μ := fun z =>
    ⟨[.fls (ns.map .int)], [], [], fun d _ => d = .bl true, fun _ _ => False, Reps.one ⟨a, _, rfl, z, reps_ints0 ns⟩,
      ⟨rfl, List.nodup_nil, fun n b e => by simp at e, tabs, fun _ h => nomatch h⟩, ⟨ns, .inl rfl, hl, hbits, fun _ => rfl⟩, eok, xok⟩
  rcases hS with (hS | hS) | hS
  · refine ⟨[.loc 0], [.lst (ns.map .int)], [a], fun d _ => d = .bl true, fun _ _ => False, Reps.one ⟨a, rfl, rfl⟩, ⟨rfl, by simp, fun n b e => ?_, tabs, fun _ h => nomatch h⟩, ⟨ns, .inr ⟨0, rfl, rfl⟩, hl, hbits, fun _ => rfl⟩, eok, xok⟩
    cases n with
    | zero =>
      cases e
      exact ⟨a, _, rfl, hS, _, rfl, reps_ints0 ns⟩
    | succ n => simp at e
  · exact fz (.inl hS)
  · exact fz (.inr hS)
/-- a def that nothing is asked of -/
theorem has_none {T : TabCtx} {P : Program} {w : World} {K : PySem.W.Frag} {mg : Str → Option Value} {base : Heap} {k n : Nat} {x : Str} {s : Stmt} {ps : List Str} (F : DefIn K mg x s ps) : Has P w K mg base k x n (fun _ _ _ _ => False) := by
  obtain ⟨f, fd, F, hm, hb⟩ := F
  have no : ∀ {vs : List V} {H : Hp} {Q : VK} {E : XK}, liftSp K n (fun _ _ _ _ => False) vs H Q E → False := fun h => by
    obtain ⟨_, _, _, _, _, _, _, _, z, _⟩ := h
    exact z
  exact ⟨f, fd, ps, ⟨fun vs H Q E h => (no h).elim, fun A outer s H args us vs Q E hr he hbd hv hs => (no hs).elim⟩, hm, F.kp, hb⟩
theorem cx_false {P : Program} {w : World} {outer : List Env} {H : Hp} {s s' : Shared} {u : Value} (h : L2.CX P w outer H s (fun _ _ _ => False) u s') : False := by
  obtain ⟨a, B, H', cls, d, _, _, _, _, _, _, _, z⟩ := h
  exact z
end DL
namespace RD
open PySem L2 PySem.Spec DL
open PyProof.Rows hiding St
abbrev N_is_integer : List Str := ["thing"]
def t_is_integer : DTS := (dRet (dAndV (dIsi (dVar 0) ["int"]) (dNotV (dIsi (dVar 0) ["bool"]))))
abbrev N_is_number : List Str := ["thing"]
def t_is_number (s_is_integer : DSp) : DTS := (dRet (dAndV (dCall 1 s_is_integer (dCons (dVar 0) dNil)) (dOp dGe (dVar 0) (dC (.int 0)))))
abbrev N_is_tuple_of : List Str := ["many", "thing"]
def t_is_tuple_of : DTS := (dRet (dAndV (dIsi (dVar 1) ["tuple"]) (dOp dEq (dCB dLen (dCons (dVar 1) dNil)) (dVar 0))))
abbrev N_is_version : List Str := ["thing", "number"]
def b_is_version_1 (s_is_number : DSp) (s_is_tuple_of : DSp) : DTS := (dIfS (dOr (dNot (dTru (dCall 1 s_is_number (dCons (dVar 1) dNil)))) (dTest (dOp dGt (dVar 1) (dC (.int 1000000))))) (dRet (dC (.bl false))) dNext)
def t_is_version (s_is_number : DSp) (s_is_tuple_of : DSp) : DTS := (dSeq (dIfS (dNot (dTru (dCall 2 s_is_tuple_of (dCons (dC (.int 3)) (dCons (dVar 0) dNil))))) (dRet (dC (.bl false))) dNext)
    (dSeq (dFor (iD (dVar 0)) (gN 1) (b_is_version_1 s_is_number s_is_tuple_of))
    (dRet (dC (.bl true)))))
abbrev N_is_stretch : List Str := ["thing", "low", "high"]
def t_is_stretch (s_is_tuple_of : DSp) (s_is_version : DSp) : DTS := (dSeq (dIfS (dNot (dTru (dCall 2 s_is_tuple_of (dCons (dC (.int 2)) (dCons (dVar 0) dNil))))) (dRet (dC (.bl false))) dNext)
    (dSeq (dAsg (dVar 0) (gTup' 2 (gCons' (gN 1) (gCons' (gN 2) gNil'))))
    (dSeq (dIfS (dNot (dTru (dCall 1 s_is_version (dCons (dVar 1) dNil)))) (dRet (dC (.bl false))) dNext)
    (dRet (dOrV (dOp (dIsN id) (dVar 2) (dC (.non))) (dAndV (dCall 1 s_is_version (dCons (dVar 2) dNil)) (dOp dLt (dVar 1) (dVar 2))))))))
abbrev N_is_range : List Str := ["thing", "at", "pair"]
def b_is_range_1 (s_is_stretch : DSp) (s_reaches : DSp) : DTS := (dSeq (dIfS (dNot (dTru (dCall 1 s_is_stretch (dCons (dVar 2) dNil)))) (dRet (dC (.bl false))) dNext)
    (dIfS (dAnd (dTest (dOp dGt (dVar 1) (dC (.int 0)))) (dTru (dCall 2 s_reaches (dCons (dOp dIx (dOp dIx (dVar 0) (dOp dSub (dVar 1) (dC (.int 1)))) (dC (.int 1))) (dCons (dOp dIx (dVar 2) (dC (.int 0))) dNil))))) (dRet (dC (.bl false))) dNext))
def t_is_range (s_is_stretch : DSp) (s_reaches : DSp) : DTS := (dSeq (dIfS (dNot (dTru (dIsi (dVar 0) ["tuple"]))) (dRet (dC (.bl false))) dNext)
    (dSeq (dFor (iEn (dCons (dVar 0) dNil)) (gTup' 2 (gCons' (gN 1) (gCons' (gN 2) gNil'))) (b_is_range_1 s_is_stretch s_reaches))
    (dRet (dC (.bl true)))))
abbrev N_reaches : List Str := ["high", "low"]
def t_reaches : DTS := (dRet (dOrV (dOp (dIsN id) (dVar 0) (dC (.non))) (dOp dLe (dVar 1) (dVar 0))))
abbrev N__law_hand : List Str := ["script", "cells", "cell"]
def e__law_hand_1 : DTE := (dCB dAbs (dCons (dCB dInt (dCons (dVar 2) dNil)) dNil))
def t__law_hand : DTS := (dSeq (dAsg (dLc (iD (dSl (dVar 0) dNoPart (dPart (dC (.int 63))))) (gN 2) dYes (e__law_hand_1) [2]) (gN 1))
    (dRet (dLst (dCons (dVar 1) (dCons (dC (.int 0)) (dCons (dC (.int 0)) (dCons (dOp dAdd (dC (.int 1)) (dCB dLen (dCons (dVar 1) dNil))) (dCons (dC (.int 0)) dNil))))))))
abbrev N__law_draw : List Str := ["hand", "many", "cell", "digit", "number"]
def t__law_draw : DTS := (dSeq (dIfS (dAnd (dTest (dOp dEq (dOp dIx (dVar 0) (dC (.int 2))) (dC (.int 0)))) (dTest (dOp dLt (dOp dIx (dVar 0) (dC (.int 1))) (dCB dLen (dCons (dOp dIx (dVar 0) (dC (.int 0))) dNil))))) (dSeq (dAsg (dOp dIx (dOp dIx (dVar 0) (dC (.int 0))) (dOp dIx (dVar 0) (dC (.int 1)))) (gN 2))
    (dSeq (dAsg (dOp dAdd (dOp dIx (dVar 0) (dC (.int 1))) (dC (.int 1))) (gSub' (dVar 0) (dC (.int 1)) dSetL))
    (dSeq (dAsg (dOp dMod (dCB dInt (dCons (dOp dAdd (dOp dAdd (dOp dMul (dOp dIx (dVar 0) (dC (.int 3))) (dC (.int 69621))) (dVar 2)) (dC (.int 11))) dNil)) (dC (.int 2147483629))) (gSub' (dVar 0) (dC (.int 3)) dSetL))
    (dIfS (dTest (dOp dGe (dVar 2) (dOp dPow (dC (.int 10)) (dC (.int 18))))) (dAsg (dVar 2) (gSub' (dVar 0) (dC (.int 2)) dSetL)) dNext)))) dNext)
    (dSeq (dIfS (dTest (dOp dGt (dOp dIx (dVar 0) (dC (.int 2))) (dC (.int 0)))) (dSeq (dAsg (dOp dMod (dCB dInt (dCons (dOp dIx (dVar 0) (dC (.int 2))) dNil)) (dVar 1)) (gN 3))
    (dSeq (dAsg (dOp dDiv (dOp dIx (dVar 0) (dC (.int 2))) (dVar 1)) (gSub' (dVar 0) (dC (.int 2)) dSetL))
    (dRet (dVar 3)))) dNext)
    (dSeq (dAsg (dOp dAdd (dOp dIx (dVar 0) (dC (.int 4))) (dC (.int 1))) (gSub' (dVar 0) (dC (.int 4)) dSetL))
    (dSeq (dAsg (dOp dMod (dCB dInt (dCons (dOp dMul (dCB dInt (dCons (dOp dAdd (dOp dIx (dVar 0) (dC (.int 3))) (dOp dMul (dC (.int 7919)) (dOp dIx (dVar 0) (dC (.int 4))))) dNil)) (dC (.int 48271))) dNil)) (dC (.int 2147483647))) (gN 4))
    (dSeq (dAsg (dOp dMod (dCB dInt (dCons (dOp dMul (dVar 4) (dOp dAdd (dOp dDiv (dVar 4) (dC (.int 1009))) (dC (.int 69621)))) dNil)) (dC (.int 2147483647))) (gN 4))
    (dSeq (dAsg (dOp dMod (dCB dInt (dCons (dOp dMul (dVar 4) (dOp dAdd (dOp dDiv (dVar 4) (dC (.int 2003))) (dC (.int 40692)))) dNil)) (dC (.int 2147483399))) (gN 4))
    (dRet (dOp dMod (dCB dInt (dCons (dOp dDiv (dVar 4) (dC (.int 16))) dNil)) (dVar 1)))))))))
abbrev N__law_some : List Str := ["hand", "things"]
def t__law_some (s__law_draw : DSp) : DTS := (dRet (dOp dIx (dVar 1) (dCall 2 s__law_draw (dCons (dVar 0) (dCons (dCB dLen (dCons (dVar 1) dNil)) dNil)))))
abbrev N__law_is : List Str := ["told", "due", "k", "key"]
def e__law_is_1 (s__law_is : DSp) : DTE := (dCall 2 s__law_is (dCons (dOp dIx (dVar 0) (dVar 2)) (dCons (dOp dIx (dVar 1) (dVar 2)) dNil)))
def e__law_is_2 (s__law_is : DSp) : DTE := (dCall 2 s__law_is (dCons (dOp dIx (dVar 0) (dVar 3)) (dCons (dOp dIx (dVar 1) (dVar 3)) dNil)))
def t__law_is (s__law_is : DSp) : DTS := (dSeq (dIfS (dTru (dIsi (dVar 1) ["tuple", "list"])) (dSeq (dIfS (dOr (dTest (dOp dNe (dIsi (dVar 0) ["tuple"]) (dIsi (dVar 1) ["tuple"]))) (dTest (dOp dNe (dIsi (dVar 0) ["list"]) (dIsi (dVar 1) ["list"])))) (dRet (dC (.bl false))) dNext)
    (dRet (dAndV (dOp dEq (dCB dLen (dCons (dVar 0) dNil)) (dCB dLen (dCons (dVar 1) dNil))) (dCB dAll (dCons (dLc (iR1 (dCons (dCB dLen (dCons (dVar 1) dNil)) dNil)) (gN 2) dYes (e__law_is_1 s__law_is) [2]) dNil))))) dNext)
    (dSeq (dIfS (dTru (dIsi (dVar 1) ["dict"])) (dRet (dAndV (dIsi (dVar 0) ["dict"]) (dAndV (dOp dEq (dVar 0) (dVar 1)) (dCB dAll (dCons (dLc (iD (dVar 1)) (gN 3) dYes (e__law_is_2 s__law_is) [3]) dNil))))) dNext)
    (dRet (dAndV (dOp dEq (dIsi (dVar 0) ["bool"]) (dIsi (dVar 1) ["bool"])) (dOp dEq (dVar 0) (dVar 1))))))
abbrev N__law_deep : List Str := ["kind", "found", "turn"]
def b__law_deep_1 : DTS := (dAsg (dIf (dTest (dOp dEq (dVar 0) (dC (.int 0)))) (dLst (dCons (dVar 1) dNil)) (dTup (dCons (dVar 1) dNil))) (gN 1))
def t__law_deep : DTS := (dSeq (dAsg (dC (.non)) (gN 1))
    (dSeq (dFor (iR1 (dCons (dC (.int 36)) dNil)) (gN 2) (b__law_deep_1))
    (dRet (dVar 1))))
abbrev N_later_end : List Str := ["one", "other"]
def t_later_end : DTS := (dSeq (dIfS (dOr (dTest (dOp (dIsN id) (dVar 0) (dC (.non)))) (dTest (dOp (dIsN id) (dVar 1) (dC (.non))))) (dRet (dC (.non))) dNext)
    (dRet (dCB dMax2 (dCons (dVar 0) (dCons (dVar 1) dNil)))))
abbrev N_stretched : List Str := ["pairs", "found", "low", "high", "begin", "end"]
def b_stretched_1 (s_reaches : DSp) (s_later_end : DSp) : DTS := (dIfS (dAnd (dTru (dVar 1)) (dTru (dCall 2 s_reaches (dCons (dOp dIx (dOp dIx (dVar 1) (dUn dNegV (dC (.int 1)))) (dC (.int 1))) (dCons (dVar 2) dNil))))) (dSeq (dAsg (dOp dIx (dVar 1) (dUn dNegV (dC (.int 1)))) (gTup' 2 (gCons' (gN 4) (gCons' (gN 5) gNil'))))
    (dAsg (dTup (dCons (dVar 4) (dCons (dCall 2 s_later_end (dCons (dVar 5) (dCons (dVar 3) dNil))) dNil))) (gSub' (dVar 1) (dUn dNegV (dC (.int 1))) dSetL))) (dDrop (dBM "list" dAppend (dVar 1) (dCons (dTup (dCons (dVar 2) (dCons (dVar 3) dNil))) dNil))))
def t_stretched (s_reaches : DSp) (s_later_end : DSp) : DTS := (dSeq (dAsg (dLst dNil) (gN 1))
    (dSeq (dFor (iD (dCB dSortK (dCons (dVar 0) dNil))) (gTup' 2 (gCons' (gN 2) (gCons' (gN 3) gNil'))) (b_stretched_1 s_reaches s_later_end))
    (dRet (dCB dTupOf (dCons (dVar 1) dNil)))))
abbrev N_has : List Str := ["rng", "version", "low", "high"]
def b_has_1 : DTS := (dIfS (dAnd (dTest (dOp dLe (dVar 2) (dVar 1))) (dOr (dTest (dOp (dIsN id) (dVar 3) (dC (.non)))) (dTest (dOp dLt (dVar 1) (dVar 3))))) (dRet (dC (.bl true))) dNext)
def t_has : DTS := (dSeq (dFor (iD (dVar 0)) (gTup' 2 (gCons' (gN 2) (gCons' (gN 3) gNil'))) (b_has_1))
    (dRet (dC (.bl false))))
abbrev N_outside : List Str := ["rng", "found", "begin", "low", "high"]
def b_outside_1 : DTS := (dSeq (dIfS (dTest (dOp dLt (dVar 2) (dVar 3))) (dDrop (dBM "list" dAppend (dVar 1) (dCons (dTup (dCons (dVar 2) (dCons (dVar 3) dNil))) dNil))) dNext)
    (dAsg (dVar 4) (gN 2)))
def t_outside : DTS := (dSeq (dAsg (dLst dNil) (gN 1))
    (dSeq (dAsg (dC (.tup [.int 0, .int 0, .int 0])) (gN 2))
    (dSeq (dFor (iD (dVar 0)) (gTup' 2 (gCons' (gN 3) (gCons' (gN 4) gNil'))) (b_outside_1))
    (dSeq (dIfS (dTest (dOp (dIsN not) (dVar 2) (dC (.non)))) (dDrop (dBM "list" dAppend (dVar 1) (dCons (dTup (dCons (dVar 2) (dCons (dC (.non)) dNil))) dNil))) dNext)
    (dRet (dCB dTupOf (dCons (dVar 1) dNil)))))))
abbrev N__law_version : List Str := ["hand", "kind", "k", "most"]
def e__law_version_1 (s__law_draw : DSp) (s__law_some : DSp) : DTE := (dCall 2 s__law_some (dCons (dVar 0) (dCons (dLst (dCons (dC (.int 0)) (dCons (dC (.int 1)) (dCons (dC (.int 9)) (dCons (dC (.int 10)) (dCons (dC (.int 99)) (dCons (dC (.int 999999)) (dCons (dCall 2 s__law_draw (dCons (dVar 0) (dCons (dC (.int 999999)) dNil))) dNil)))))))) dNil)))
def t__law_version (s__law_draw : DSp) (s__law_some : DSp) : DTS := (dSeq (dAsg (dCall 2 s__law_draw (dCons (dVar 0) (dCons (dC (.int 16)) dNil))) (gN 1))
    (dSeq (dIfS (dTest (dOp dEq (dVar 1) (dC (.int 0)))) (dRet (dCB dTupOf (dCons (dLc (iR1 (dCons (dC (.int 3)) dNil)) (gN 2) dYes (e__law_version_1 s__law_draw s__law_some) [2]) dNil))) dNext)
    (dSeq (dAsg (dCall 2 s__law_some (dCons (dVar 0) (dCons (dLst (dCons (dC (.int 2)) (dCons (dC (.int 3)) (dCons (dC (.int 3)) (dCons (dC (.int 4)) dNil))))) dNil))) (gN 3))
    (dRet (dTup (dCons (dCall 2 s__law_draw (dCons (dVar 0) (dCons (dVar 3) dNil))) (dCons (dCall 2 s__law_draw (dCons (dVar 0) (dCons (dVar 3) dNil))) (dCons (dCall 2 s__law_draw (dCons (dVar 0) (dCons (dVar 3) dNil))) dNil))))))))
abbrev N__law_has : List Str := ["rng", "version", "low", "high"]
def b__law_has_1 : DTS := (dIfS (dAnd (dTest (dOp dLe (dVar 2) (dVar 1))) (dOr (dTest (dOp (dIsN id) (dVar 3) (dC (.non)))) (dTest (dOp dLt (dVar 1) (dVar 3))))) (dRet (dC (.bl true))) dNext)
def t__law_has : DTS := (dSeq (dFor (iD (dVar 0)) (gTup' 2 (gCons' (gN 2) (gCons' (gN 3) gNil'))) (b__law_has_1))
    (dRet (dC (.bl false))))
abbrev N__law_marks : List Str := ["ranges", "found", "rng", "low", "high"]
def b__law_marks_1 : DTS := (dDrop (dBM "list" dExtend (dVar 1) (dCons (dIf (dTest (dOp (dIsN id) (dVar 4) (dC (.non)))) (dLst (dCons (dVar 3) dNil)) (dLst (dCons (dVar 3) (dCons (dVar 4) dNil)))) dNil)))
def b__law_marks_2 : DTS := (dFor (iD (dVar 2)) (gTup' 2 (gCons' (gN 3) (gCons' (gN 4) gNil'))) (b__law_marks_1))
def t__law_marks : DTS := (dSeq (dAsg (dLst (dCons (dTup (dCons (dC (.int 0)) (dCons (dC (.int 0)) (dCons (dC (.int 0)) dNil)))) dNil)) (gN 1))
    (dSeq (dFor (iD (dVar 0)) (gN 2) (b__law_marks_2))
    (dRet (dCB dSortSetT (dCons (dVar 1) dNil)))))
abbrev N__law_made : List Str := ["marks", "flags", "found", "at"]
def b__law_made_1 : DTS := (dSeq (dIfS (dAnd (dTru (dOp dIx (dVar 1) (dVar 3))) (dOr (dTest (dOp dEq (dVar 3) (dC (.int 0)))) (dNot (dTru (dOp dIx (dVar 1) (dOp dSub (dVar 3) (dC (.int 1)))))))) (dDrop (dBM "list" dAppend (dVar 2) (dCons (dTup (dCons (dOp dIx (dVar 0) (dVar 3)) (dCons (dC (.non)) dNil))) dNil))) dNext)
    (dIfS (dAnd (dTest (dOp dGt (dVar 3) (dC (.int 0)))) (dAnd (dTru (dOp dIx (dVar 1) (dOp dSub (dVar 3) (dC (.int 1))))) (dNot (dTru (dOp dIx (dVar 1) (dVar 3)))))) (dAsg (dTup (dCons (dOp dIx (dOp dIx (dVar 2) (dUn dNegV (dC (.int 1)))) (dC (.int 0))) (dCons (dOp dIx (dVar 0) (dVar 3)) dNil))) (gSub' (dVar 2) (dUn dNegV (dC (.int 1))) dSetL)) dNext))
def t__law_made : DTS := (dSeq (dAsg (dLst dNil) (gN 2))
    (dSeq (dFor (iR1 (dCons (dCB dLen (dCons (dVar 0) dNil)) dNil)) (gN 3) (b__law_made_1))
    (dRet (dCB dTupOf (dCons (dVar 2) dNil)))))
abbrev N__law_outside : List Str := ["rng", "marks", "mark"]
def e__law_outside_1 (s__law_has : DSp) (s__law_marks : DSp) (s__law_made : DSp) : DTE := (dNotV (dCall 2 s__law_has (dCons (dVar 0) (dCons (dVar 2) dNil))))
def t__law_outside (s__law_has : DSp) (s__law_marks : DSp) (s__law_made : DSp) : DTS := (dSeq (dAsg (dCall 1 s__law_marks (dCons (dLst (dCons (dVar 0) dNil)) dNil)) (gN 1))
    (dRet (dCall 2 s__law_made (dCons (dVar 1) (dCons (dLc (iD (dVar 1)) (gN 2) dYes (e__law_outside_1 s__law_has s__law_marks s__law_made) [2]) dNil)))))
abbrev N_version_behind : List Str := ["version", "major", "minor", "patch"]
def t_version_behind : DTS := (dSeq (dAsg (dVar 0) (gTup' 3 (gCons' (gN 1) (gCons' (gN 2) (gCons' (gN 3) gNil')))))
    (dRet (dTup (dCons (dVar 1) (dCons (dVar 2) (dCons (dOp dAdd (dVar 3) (dC (.int 1))) dNil))))))
abbrev N_caret_end : List Str := ["version", "major", "minor", "patch"]
def t_caret_end : DTS := (dSeq (dAsg (dVar 0) (gTup' 3 (gCons' (gN 1) (gCons' (gN 2) (gCons' (gN 3) gNil')))))
    (dSeq (dIfS (dTest (dOp dGt (dVar 1) (dC (.int 0)))) (dRet (dTup (dCons (dOp dAdd (dVar 1) (dC (.int 1))) (dCons (dC (.int 0)) (dCons (dC (.int 0)) dNil))))) dNext)
    (dSeq (dIfS (dTest (dOp dGt (dVar 2) (dC (.int 0)))) (dRet (dTup (dCons (dC (.int 0)) (dCons (dOp dAdd (dVar 2) (dC (.int 1))) (dCons (dC (.int 0)) dNil))))) dNext)
    (dRet (dTup (dCons (dC (.int 0)) (dCons (dC (.int 0)) (dCons (dOp dAdd (dVar 3) (dC (.int 1))) dNil))))))))
abbrev N_range_of_sign : List Str := ["sign", "version", "behind"]
def t_range_of_sign (s_outside : DSp) (s_version_behind : DSp) (s_caret_end : DSp) : DTS := (dSeq (dAsg (dCall 1 s_version_behind (dCons (dVar 1) dNil)) (gN 2))
    (dSeq (dIfS (dTest (dOp dEq (dVar 0) (dC (.str "<")))) (dRet (dCall 1 s_outside (dCons (dTup (dCons (dTup (dCons (dVar 1) (dCons (dC (.non)) dNil))) dNil)) dNil))) dNext)
    (dSeq (dIfS (dTest (dOp dEq (dVar 0) (dC (.str "<=")))) (dRet (dTup (dCons (dTup (dCons (dC (.tup [.int 0, .int 0, .int 0])) (dCons (dVar 2) dNil))) dNil))) dNext)
    (dSeq (dIfS (dTest (dOp dEq (dVar 0) (dC (.str ">")))) (dRet (dTup (dCons (dTup (dCons (dVar 2) (dCons (dC (.non)) dNil))) dNil))) dNext)
    (dSeq (dIfS (dTest (dOp dEq (dVar 0) (dC (.str ">=")))) (dRet (dTup (dCons (dTup (dCons (dVar 1) (dCons (dC (.non)) dNil))) dNil))) dNext)
    (dSeq (dIfS (dTest (dOp dEq (dVar 0) (dC (.str "!")))) (dRet (dCall 1 s_outside (dCons (dTup (dCons (dTup (dCons (dVar 1) (dCons (dVar 2) dNil))) dNil)) dNil))) dNext)
    (dSeq (dIfS (dTest (dOp dEq (dVar 0) (dC (.str "^")))) (dRet (dTup (dCons (dTup (dCons (dVar 1) (dCons (dCall 1 s_caret_end (dCons (dVar 1) dNil)) dNil))) dNil))) dNext)
    (dSeq (dIfS (dTest (dOp dEq (dVar 0) (dC (.str "~")))) (dRet (dTup (dCons (dTup (dCons (dVar 1) (dCons (dTup (dCons (dOp dIx (dVar 1) (dC (.int 0))) (dCons (dOp dAdd (dOp dIx (dVar 1) (dC (.int 1))) (dC (.int 1))) (dCons (dC (.int 0)) dNil)))) dNil))) dNil))) dNext)
    (dRet (dTup (dCons (dTup (dCons (dVar 1) (dCons (dVar 2) dNil))) dNil)))))))))))
abbrev N_told_part : List Str := ["part", "sign", "version", "rng"]
def t_told_part (s_is_range : DSp) (s_told_version : DSp) (s_range_of_sign : DSp) (s_sign_of : DSp) : DTS := (dSeq (dIfS (dTest (dOp dEq (dVar 0) (dC (.str "*")))) (dRet (dC (.tup [.tup [.tup [.int 0, .int 0, .int 0], .non]]))) dNext)
    (dSeq (dAsg (dCall 1 s_sign_of (dCons (dVar 0) dNil)) (gN 1))
    (dSeq (dAsg (dCall 1 s_told_version (dCons (dSl (dVar 0) (dPart (dCB dLen (dCons (dVar 1) dNil))) dNoPart) dNil)) (gN 2))
    (dSeq (dIfS (dTest (dOp (dIsN id) (dVar 2) (dC (.non)))) (dRet (dC (.non))) dNext)
    (dSeq (dAsg (dCall 2 s_range_of_sign (dCons (dVar 1) (dCons (dVar 2) dNil))) (gN 3))
    (dSeq (dIfS (dNot (dTru (dCall 1 s_is_range (dCons (dVar 3) dNil)))) (dRet (dC (.non))) dNext)
    (dRet (dVar 3))))))))
abbrev N__law_behind : List Str := ["version"]
def t__law_behind : DTS := (dRet (dTup (dCons (dOp dIx (dVar 0) (dC (.int 0))) (dCons (dOp dIx (dVar 0) (dC (.int 1))) (dCons (dOp dAdd (dOp dIx (dVar 0) (dC (.int 2))) (dC (.int 1))) dNil)))))
abbrev N__law_part_text : List Str := ["word", "version"]
def t__law_part_text (s__law_version_text : DSp) : DTS := (dRet (dIf (dTest (dOp dEq (dVar 0) (dC (.str "*")))) (dC (.str "*")) (dOp dAdd (dVar 0) (dCall 1 s__law_version_text (dCons (dVar 1) dNil)))))
abbrev N__law_words : List Str := ["hand", "word"]
def t__law_words (s__law_some : DSp) (s__law_version : DSp) : DTS := (dSeq (dAsg (dCall 2 s__law_some (dCons (dVar 0) (dCons (dLst (dCons (dC (.str "*")) (dCons (dC (.str "")) (dCons (dC (.str "")) (dCons (dC (.str "!")) (dCons (dC (.str "<")) (dCons (dC (.str "<=")) (dCons (dC (.str ">")) (dCons (dC (.str ">=")) (dCons (dC (.str "^")) (dCons (dC (.str "^")) (dCons (dC (.str "~")) (dCons (dC (.str ">=")) dNil))))))))))))) dNil))) (gN 1))
    (dRet (dTup (dCons (dVar 1) (dCons (dCall 1 s__law_version (dCons (dVar 0) dNil)) dNil)))))
abbrev N__law_bent : List Str := ["hand", "text", "at", "signs", "sign", "way", "words"]
def t__law_bent (s__law_draw : DSp) (s__law_some : DSp) : DTS := (dSeq (dAsg (dCall 2 s__law_draw (dCons (dVar 0) (dCons (dOp dAdd (dCB dLen (dCons (dVar 1) dNil)) (dC (.int 1))) dNil))) (gN 2))
    (dSeq (dAsg (dLst (dCons (dC (.str "0")) (dCons (dC (.str "1")) (dCons (dC (.str "9")) (dCons (dC (.str ".")) (dCons (dC (.str " ")) (dCons (dC (.str ",")) (dCons (dC (.str "|")) (dCons (dC (.str "*")) (dCons (dC (.str "<")) (dCons (dC (.str ">")) (dCons (dC (.str "=")) (dCons (dC (.str "!")) (dCons (dC (.str "^")) (dCons (dC (.str "~")) (dCons (dC (.str "-")) (dCons (dC (.str "+")) (dCons (dC (.str "a")) (dCons (dC (.str "\n")) (dCons (dC (.str "_")) dNil)))))))))))))))))))) (gN 3))
    (dSeq (dAsg (dCall 2 s__law_some (dCons (dVar 0) (dCons (dVar 3) dNil))) (gN 4))
    (dSeq (dAsg (dCall 2 s__law_draw (dCons (dVar 0) (dCons (dC (.int 6)) dNil))) (gN 5))
    (dSeq (dIfS (dTest (dOp dEq (dVar 5) (dC (.int 0)))) (dRet (dOp dAdd (dSl (dVar 1) dNoPart (dPart (dVar 2))) (dSl (dVar 1) (dPart (dOp dAdd (dVar 2) (dC (.int 1)))) dNoPart))) dNext)
    (dSeq (dIfS (dTest (dOp dEq (dVar 5) (dC (.int 1)))) (dRet (dOp dAdd (dOp dAdd (dSl (dVar 1) dNoPart (dPart (dVar 2))) (dVar 4)) (dSl (dVar 1) (dPart (dOp dAdd (dVar 2) (dC (.int 1)))) dNoPart))) dNext)
    (dSeq (dIfS (dTest (dOp dEq (dVar 5) (dC (.int 2)))) (dSeq (dAsg (dLst (dCons (dC (.str "1000001.0.0")) (dCons (dC (.str "^1000000.0.0")) (dCons (dC (.str "0.0.1000000")) (dCons (dC (.str "<=0.0.1000000")) (dCons (dC (.str ">1.1.1000000")) (dCons (dC (.str "!0.0.1000000")) dNil))))))) (gN 6))
    (dSeq (dAsg (dOp dAdd (dVar 6) (dLst (dCons (dC (.str "~0.1000000.0")) (dCons (dC (.str "^0.1000000.3")) (dCons (dC (.str "^0.0.1000000")) (dCons (dC (.str "<1000000.1000000.1000000")) dNil)))))) (gN 6))
    (dSeq (dAsg (dOp dAdd (dVar 6) (dLst (dCons (dC (.str "01.0.0")) (dCons (dC (.str "1.0")) (dCons (dC (.str "")) dNil))))) (gN 6))
    (dSeq (dAsg (dOp dAdd (dVar 6) (dLst (dCons (dC (.str ">=0.0.1000000")) (dCons (dC (.str "1.0.0.0")) (dCons (dC (.str "==1.0.0")) (dCons (dC (.str "1.0.00")) (dCons (dC (.str "=1.0.0")) (dCons (dC (.str "<>1.0.0")) (dCons (dC (.str "**")) (dCons (dC (.str "1.-1.0")) dNil)))))))))) (gN 6))
    (dRet (dOp dAdd (dOp dAdd (dVar 1) (dCall 2 s__law_some (dCons (dVar 0) (dCons (dLst (dCons (dC (.str ", ")) (dCons (dC (.str " | ")) dNil))) dNil)))) (dCall 2 s__law_some (dCons (dVar 0) (dCons (dVar 6) dNil))))))))) dNext)
    (dRet (dOp dAdd (dOp dAdd (dSl (dVar 1) dNoPart (dPart (dVar 2))) (dVar 4)) (dSl (dVar 1) (dPart (dVar 2)) dNoPart))))))))))
end RD
namespace DL
open PySem L2 PySem.Spec
open PyProof.Rows hiding St
variable [TC : TabCtx]
section
variable {K : PySem.W.Frag}
def dStr0 (f : Str → Bool) : DM := fun x ds st Q => match x, ds with | .str a, [] => Q (.bl (f a)) st | _, _ => False
theorem str0_ok {f : Str → Bool} : DMt K (fun x xs H Q => ∃ a, x = .str a ∧ xs = [] ∧ True ∧ Q (.bl (f a)) H) (dStr0 f) := by
  intro H μ st x v ds vs Qd Q s rx rs h hQ
  unfold dStr0 at h
  split at h
  · exact ⟨_, rx, rs, trivial, hQ _ _ _ _ _ h (Ext.refl _ _) s rfl⟩
  · exact h.elim
def dStr1 (f : Str → Str → Bool) : DM := fun x ds st Q => match x, ds with | .str a, [.str b] => Q (.bl (f a b)) st | _, _ => False
theorem str1_ok {f : Str → Str → Bool} : DMt K (fun x xs H Q => ∃ a b, x = .str a ∧ xs = [.str b] ∧ Q (.bl (f a b)) H) (dStr1 f) := by
  intro H μ st x v ds vs Qd Q s rx rs h hQ
  unfold dStr1 at h
  split at h
  · obtain ⟨u, rfl, ru⟩ := reps1 rs
    rw [show u = _ from ru]
    exact ⟨_, _, rx, rfl, hQ _ _ _ _ _ h (Ext.refl _ _) s rfl⟩
  · exact h.elim
theorem reps_strs0 {H : Hp} {μ : List Addr} : ∀ ys : List Str, Reps K H μ (ys.map D.str) (ys.map V.str)
  | [] => rfl
  | y :: ys => ⟨.str y, ys.map V.str, rfl, rfl, reps_strs0 ys⟩
theorem reps_strs {H : Hp} {μ : List Addr} : ∀ {ys : List Str} {vs : List V}, Reps K H μ (ys.map D.str) vs → vs = ys.map V.str
  | [], _, h => h
  | y :: ys, _, h => by
    obtain ⟨v, r, rfl, h1, h2⟩ := h
    rw [reps_strs h2, show v = _ from h1]
    rfl
def dSplit : DM := fun x ds st Q => match x, ds with | .str a, [.str b] => (b.length == 0) = false ∧ a.length + 2 ≤ sizeLine ∧ Q (.loc st.length) (st ++ [.lst ((Txt.split a b).map .str)]) | _, _ => False
theorem split_ok : DMt K (fun x xs H Q => ∃ a b, x = .str a ∧ xs = [.str b] ∧ (b.length == 0) = false ∧ a.length + 2 ≤ sizeLine ∧ rNewStrs (Txt.split a b) H Q) dSplit := by
  intro H μ st x v ds vs Qd Q s rx rs h hQ
  unfold dSplit at h
  split at h
  · obtain ⟨u, rfl, ru⟩ := reps1 rs
    rw [show u = _ from ru]
    exact ⟨_, _, rx, rfl, h.1, h.2.1, fun p hp => hQ.lst (Ext.refl _ _) s (reps_strs0 _) h.2.2 hp⟩
  · exact h.elim
def dJoin : DM := fun x ds st Q => match x, ds with
  | .str a, [d] => ∃ ys : List Str, itemsD st d = some (ys.map .str) ∧ (ys.map (·.length)).sum + ys.length * a.length ≤ 16777216 ∧ Q (.str (Txt.join a ys)) st
  | _, _ => False
theorem join_ok : DMt K (fun x xs H Q => ∃ a p, ∃ ys : List Str, x = .str a ∧ xs = [.ref p] ∧ (SqL K H p (ys.map V.str) ∨ SqT K H p (ys.map V.str)) ∧ (ys.map (·.length)).sum + ys.length * a.length ≤ 16777216 ∧ Q (.str (Txt.join a ys)) H) dJoin := by
  intro H μ st x v ds vs Qd Q s rx rs h hQ
  unfold dJoin at h
  split at h
  · obtain ⟨u, rfl, ru⟩ := reps1 rs
    obtain ⟨ys, h1, h2, q⟩ := h
    obtain ⟨p, vs, rfl, hs, hr⟩ := items_ok s ru h1
    rw [reps_strs hr] at hs
    exact ⟨_, p, ys, rx, rfl, hs, h2, hQ _ _ _ _ _ q (Ext.refl _ _) s rfl⟩
  · exact h.elim
/-- extend by a tuple -/
def rExtendT (K : PySem.W.Frag) : V → List V → Hp → VK → Prop := fun x vs H Q => ∃ l b xs zs, x = .ref l ∧ vs = [.ref b] ∧ H l = some (.lst xs) ∧ SqT K H b zs ∧ xs.length + zs.length ≤ sizeLine ∧ Q .non (upd H l (.lst (xs ++ zs)))
end
/-- a list grown by a tuple of whatever kind -/
theorem grown_by_tup {l b : Addr} {xs ys : Array Value} {n m : Nat} {dt : Option Addr} {sl : Array (Option Value)} (h0 : ¬(!xs.isEmpty && Builtin.List.listTooLong (xs.size + ys.size)) = true) (h1 : xs.size ≤ sizeLine) (h2 : xs.size + ys.size ≤ sizeLine + 1) :
    Meets (Builtin.«list.extend» ⟨[.ref l, .ref b], []⟩) (fun _ R s => s.heap.get? l = some { cls := .type "list", data := .seq xs n } ∧ s.heap.get? b = some { cls := .type "tuple", dict := dt, data := .seq ys m, slots := sl } ∧
      R (.ok (.ret Value.none)) { s with heap := s.heap.update l (Obj.mapSeq fun x => x ++ ys), toks := s.toks }) :=
  .of_wp fun prog w A R s h => by
    obtain ⟨hp, g, d, tk, os⟩ := s
    obtain ⟨hl, hb, h⟩ := h
    have f2 := sub_tuple_tuple
    have f3 := sub_list_list
    have f4 := sub_tuple_list
    have f5 := sub_list_tuple
    have hz' : (xs ++ ys).size ≤ sizeLine + 1 := by rw [Array.size_append]; exact h2
    wp_walk using (wpAny_updateSeq hl rfl (hz := h1) (_hz' := hz')), wpAny_loadPart' hl, wpAny_loadPart' hb
    exact ⟨_, rfl, h⟩
section
variable {X : Cx}
theorem mt_extendT : MtM X "list.extend" (rExtendT X.K) := by
  intro pins s σ H x vs v us Q I rx rv h
  obtain ⟨l, b, xs, zs, rfl, rfl, hH, hB, hz, q⟩ := h
  cases rx
  obtain ⟨u, rfl, ru⟩ := rv.one
  cases ru
  obtain ⟨z, its, n, r, hl, e⟩ := I.lstM hH
  obtain ⟨its2, r2, ⟨o2, e2, hc2, n2, hd2⟩, _⟩ := I.tuple hB
  obtain ⟨c2, d2, da2, sl2⟩ := o2
  cases hc2
  cases hd2
  have hl2 := r2.length
  have hsz : its.toArray.size + its2.toArray.size ≤ sizeLine := by rw [List.size_toArray, List.size_toArray]; omega
  have hlong : ¬ (!its.toArray.isEmpty && Builtin.List.listTooLong (its.toArray.size + its2.toArray.size)) = true := by
    rw [notLongL hsz, Bool.and_false]
    exact Bool.false_ne_true
  refine call_meets PySem.F.slot_list_extend ⟨_, e, rfl⟩ PySem.F.entry_list_extend (PySem.F.args_list_extend_2 _ _) (grown_by_tup hlong (by rw [List.size_toArray]; omega) (by omega)) ⟨e, e2, ?_⟩
  refine ⟨.non, _, I.lset (its' := its ++ its2) hH e (by simp) (r.append r2) ?_, rfl, q⟩
  rw [List.length_append]
  omega
/-- the greatest number of a tuple -/
theorem dpAll_ints {K : PySem.W.Frag} {H : Hp} : ∀ ns : List Int, DpAll K H (ns.map V.int) (ns.map PyData.int)
  | [] => .nil
  | n :: ns => .cons (.int n) (dpAll_ints ns)
theorem fold_max (n : Int) : ∀ ns : List Int, (ns.foldl max n = n ∨ ns.foldl max n ∈ ns) ∧ n ≤ ns.foldl max n ∧ ∀ y ∈ ns, y ≤ ns.foldl max n
  | [] => ⟨.inl rfl, Int.le_refl _, fun _ h => nomatch h⟩
  | k :: ns => by
    obtain ⟨h1, h2, h3⟩ := fold_max (max n k) ns
    rw [List.foldl_cons]
    refine ⟨?_, by omega, fun y hy => ?_⟩
    · rcases h1 with h1 | h1
      · rw [h1]
        by_cases hk : n ≤ k
        · right; rw [Int.max_eq_right hk]; exact List.mem_cons_self
        · left; exact Int.max_eq_left (by omega)
      · exact .inr (List.mem_cons_of_mem _ h1)
    · rcases List.mem_cons.mp hy with rfl | hy
      · omega
      · exact h3 y hy
theorem depth_ints : ∀ ns : List Int, PyData.depthAll (ns.map PyData.int) = 0
  | [] => by simp [PyData.depthAll]
  | n :: ns => by simp [PyData.depthAll, PyData.depth, depth_ints ns]
def rMaxT (K : PySem.W.Frag) : List V → Hp → VK → Prop := fun vs H Q => ∃ (a : Addr) (ns : List Int), vs = [V.ref a] ∧ SqT K H a (ns.map V.int) ∧ 0 < ns.length ∧ ∀ m, m ∈ ns → (∀ y ∈ ns, y ≤ m) → Q (.int m) H
theorem cr_maxT (hc : X.calm = true) (hu : X.A.units + 64 < cLine) : CallR X (.builtin "max") (rMaxT X.K) := by
  intro pins s σ H vs us Q I r h
  obtain ⟨a, ns, rfl, hs, hne, q⟩ := h
  obtain ⟨its, rv, hl, _⟩ := I.tuple hs
  rw [Vals.ref1 r]
  cases ns with
  | nil => simp at hne
  | cons n ns =>
    obtain ⟨as, ra⟩ := Dp.readsAll I ((n :: ns).map PyData.int) _ _ (dpAll_ints (n :: ns)) rv
    have hal : PySem.W.AlikeAll (PyData.int n :: ns.map PyData.int) := by
      have key : ∀ d ∈ (PyData.int n :: ns.map PyData.int), ∃ i, d = .int i := fun d hd => by
        rcases List.mem_cons.mp hd with rfl | hd
        · exact ⟨_, rfl⟩
        · obtain ⟨i, _, rfl⟩ := List.mem_map.mp hd
          exact ⟨i, rfl⟩
      refine ⟨fun x hx y hy => ?_, fun x hx => ?_⟩
      · obtain ⟨i, rfl⟩ := key x hx
        obtain ⟨j, rfl⟩ := key y hy
        rfl
      · obtain ⟨i, rfl⟩ := key x hx
        exact fun z => nomatch z
    have hd : PyData.depthAll (PyData.int n :: ns.map PyData.int) = 0 := depth_ints (n :: ns)
    refine PySem.W.max_tuple_data (I.ok.hd hc) hl ra hal (by rw [hd]; omega) fun i v h' tk bs hv hr hk => ?_
    rw [PySem.W.maxD_ints] at hr
    cases hr
    obtain ⟨f1, f2, f3⟩ := fold_max n ns
    refine ⟨.int _, H, I.kept hk, ⟨_, rfl⟩, q _ ?_ fun y hy => ?_⟩
    · rcases f1 with f1 | f1
      · rw [f1]; exact List.mem_cons_self
      · exact List.mem_cons_of_mem _ f1
    · rcases List.mem_cons.mp hy with rfl | hy
      · exact f2
      · exact f3 y hy
end
section
variable {K : PySem.W.Frag}
/-- extend by a list or a tuple -/
def dExtendA : DM := fun x ds st Q => match x, ds with
  | .loc n, [d] => ∃ es fs, st[n]? = some (.lst es) ∧ (d = .tup fs ∨ ∃ m, d = .loc m ∧ st[m]? = some (.lst fs)) ∧ es.length + fs.length ≤ sizeLine ∧ Q .non (st.set n (.lst (es ++ fs)))
  | _, _ => False
theorem extendA_ok : DMt K (fun x xs H Q => rExtend x xs H Q ∨ rExtendT K x xs H Q) dExtendA := by
  intro H μ st x v ds vs Qd Q s rx rs h hQ
  unfold dExtendA at h
  split at h
  · obtain ⟨u, rfl, ru⟩ := reps1 rs
    obtain ⟨a, rfl, hn⟩ := rx
    obtain ⟨es, fs, he, hd, hz, q⟩ := h
    obtain ⟨a', o, e1, e2, vs, rfl, hr⟩ := s.at' _ _ he
    rw [hn] at e1; cases e1
    rcases hd with rfl | ⟨m, rfl, hm⟩
    · obtain ⟨b, us, rfl, ht, hr'⟩ := ru
      have w := s.write (o' := .lst (vs ++ us)) (b := .lst (es ++ fs)) hn e2 ⟨_, rfl, hr.append hr'⟩
      exact .inr ⟨a, b, vs, us, rfl, rfl, e2, ht, by rw [← hr.length, ← hr'.length]; exact hz, hQ _ _ _ _ _ q w.1 w.2 rfl⟩
    · obtain ⟨b, rfl, hb⟩ := ru
      obtain ⟨b', o, e1, e3, us, rfl, hr'⟩ := s.at' _ _ hm
      rw [hb] at e1; cases e1
      have w := s.write (o' := .lst (vs ++ us)) (b := .lst (es ++ fs)) hn e2 ⟨_, rfl, hr.append hr'⟩
      exact .inl ⟨a, b, vs, us, rfl, rfl, e2, e3, by rw [← hr.length, ← hr'.length]; exact hz, hQ _ _ _ _ _ q w.1 w.2 rfl⟩
  · exact h.elim
/-- int(text), str(number) -/
def dIntS : DN := fun ds st Q => match ds with | [.str a] => ∃ n, PySem.intText? a = some n ∧ a.length ≤ 640 ∧ Q (.int n) st | _ => False
theorem intS_ok : DCl K (fun xs H Q => ∃ a n, xs = [.str a] ∧ PySem.intText? a = some n ∧ a.length ≤ 640 ∧ Q (.int n) H) dIntS := by
  intro H μ st ds vs Qd Q s r h hQ
  unfold dIntS at h
  split at h
  · obtain ⟨v, rfl, rv⟩ := reps1 r
    obtain ⟨n, h1, h2, q⟩ := h
    exact ⟨_, n, by rw [show v = _ from rv], h1, h2, hQ _ _ _ _ _ q (Ext.refl _ _) s rfl⟩
  · exact h.elim
def dStrI : DN := fun ds st Q => match ds with | [.int i] => i.natAbs.log2 < 1920 ∧ Q (.str (toString i)) st | _ => False
theorem strI_ok : DCl K (fun xs H Q => ∃ i, xs = [.int i] ∧ i.natAbs.log2 < 1920 ∧ Q (.str (toString i)) H) dStrI := by
  intro H μ st ds vs Qd Q s r h hQ
  unfold dStrI at h
  split at h
  · obtain ⟨v, rfl, rv⟩ := reps1 r
    exact ⟨_, by rw [show v = _ from rv], h.1, hQ _ _ _ _ _ h.2 (Ext.refl _ _) s rfl⟩
  · exact h.elim
def dMaxT : DN := fun ds st Q => match ds with | [.tup es] => ∃ ns : List Int, es = ns.map .int ∧ 0 < ns.length ∧ ∀ m, m ∈ ns → (∀ y ∈ ns, y ≤ m) → Q (.int m) st | _ => False
theorem maxT_ok : DCl K (rMaxT K) dMaxT := by
  intro H μ st ds vs Qd Q s r h hQ
  unfold dMaxT at h
  split at h
  · obtain ⟨v, rfl, a, us, rfl, ht, hr⟩ := reps1 r
    obtain ⟨ns, rfl, h1, q⟩ := h
    rw [reps_ints hr] at ht
    exact ⟨a, ns, rfl, ht, h1, fun m hm hy => hQ _ _ _ _ _ (q m hm hy) (Ext.refl _ _) s rfl⟩
  · exact h.elim
end
section
variable {X : Cx} {W : WX} {e : Expr} {es : List Expr} {t : DTA} {pos p : Pos}
theorem de_intS (hg : Gl X "int") (hm : X.mg "int" = none) (ha : DA X W (e :: es) t) (he : starEach (e :: es) X.env = (false, eval e X.env) :: starEach es X.env := by rfl) (hpl : (backTo pos (starEach es X.env)).any (·.1) = false := by rfl) :
    DE X W (.Call (.Name "int" p) (e :: es) [] pos) (dCB dIntS t) := de_callTy call_int_str intS_ok hg hm PyProof.Rows.boot_int ha (by decide) (by decide) he hpl
theorem de_strI (hg : Gl X "str") (hm : X.mg "str" = none) (ha : DA X W (e :: es) t) (he : starEach (e :: es) X.env = (false, eval e X.env) :: starEach es X.env := by rfl) (hpl : (backTo pos (starEach es X.env)).any (·.1) = false := by rfl) :
    DE X W (.Call (.Name "str" p) (e :: es) [] pos) (dCB dStrI t) := de_callTy call_str_int strI_ok hg hm PyProof.Rows.boot_str ha (by decide) (by decide) he hpl
theorem de_maxT (hc : X.calm = true) (hu : X.A.units + 64 < cLine) (hg : Gl X "max") (hm : X.mg "max" = none) (ha : DA X W (e :: es) t) (he : starEach (e :: es) X.env = (false, eval e X.env) :: starEach es X.env := by rfl) (hpl : (backTo pos (starEach es X.env)).any (·.1) = false := by rfl) :
    DE X W (.Call (.Name "max" p) (e :: es) [] pos) (dCB dMaxT t) := de_callB (cr_maxT hc hu) maxT_ok hg hm PyProof.Rows.boot_max ha (by decide) (by decide) he hpl
end
end DL
namespace DL
open PySem L2 PySem.Spec
open PyProof.Rows hiding St
variable [TC : TabCtx]
section
variable {X : Cx} {W : WX} {e e1 e2 : Expr} {es : List Expr} {t te : DTE} {pos : Pos}
def dFmt (te : DTE) : DTE := fun ρ st Q Z => te ρ st (fun x st1 => match x with
  | .str y => y.length ≤ sizeLine ∧ Q (.str y) st1
  | .int i => i.natAbs.log2 < 1920 ∧ Q (.str (toString i)) st1
  | _ => False) Z
def dJs : List DTE → Str → Env' → Sto → (Str → Sto → Prop) → DZ → Prop
  | [], acc, _, st, Q, _ => Q acc st
  | t :: ts, acc, ρ, st, Q, Z => t ρ st (fun x st1 => match x with | .str y => (acc ++ y).length ≤ sizeLine ∧ dJs ts (acc ++ y) ρ st1 Q Z | _ => False) Z
def dJoined (ts : List DTE) : DTE := fun ρ st Q Z => dJs ts Str.empty ρ st (fun out st1 => Q (.str out) st1) Z
end
def keyD : D → Option Key
  | .int i => some (.inl i)
  | .str x => some (.inr x)
  | _ => none
def valD (kvs : List (Key × D)) (k : Key) : Option D := (kvs.find? fun kv => decide (kv.1 = k)).map (·.2)
def putD (kvs : List (Key × D)) (k : Key) (v : D) : List (Key × D) :=
  if (kvs.any fun kv => decide (kv.1 = k)) = true then kvs.map (fun kv => if kv.1 = k then (kv.1, v) else kv) else kvs ++ [(k, v)]
def mergeD (kvs more : List (Key × D)) : List (Key × D) := more.foldl (fun acc kv => putD acc kv.1 kv.2) kvs
section
variable {K : PySem.W.Frag} {H : Hp} {μ : List Addr}
theorem key_rep {d : D} {k : Key} {v : V} (h : keyD d = some k) (r : Rep K H μ d v) : v = kV k := by
  cases d <;> simp [keyD] at h <;> subst h <;> exact r
theorem okv_nil {gs : List (Key × V)} (h : OKv K H μ [] gs) : gs = [] := by
  have := h.1
  cases gs with
  | nil => rfl
  | cons g gs => simp at this
theorem okv_cons {p : Key × D} {kvs : List (Key × D)} {gs : List (Key × V)} (h : OKv K H μ (p :: kvs) gs) : ∃ v gs', gs = (p.1, v) :: gs' ∧ Rep K H μ p.2 v ∧ OKv K H μ kvs gs' := by
  obtain ⟨h1, v, r, h2, h3, h4⟩ := h
  cases gs with
  | nil => simp at h1
  | cons g gs =>
    simp only [List.map_cons, List.cons.injEq] at h1 h2
    obtain ⟨gk, gv⟩ := g
    obtain ⟨e1, e2⟩ := h1
    obtain ⟨e3, e4⟩ := h2
    dsimp only at e1 e3
    subst e1 e3
    exact ⟨gv, gs, rfl, h3, e2, by rw [e4]; exact h4⟩
theorem okv_mk {p : Key × D} {kvs : List (Key × D)} {gs : List (Key × V)} {v : V} (r : Rep K H μ p.2 v) (h : OKv K H μ kvs gs) : OKv K H μ (p :: kvs) ((p.1, v) :: gs) :=
  ⟨by simp [h.1], v, gs.map (·.2), rfl, r, h.2⟩
theorem okv_app {kvs kvs' : List (Key × D)} {gs gs' : List (Key × V)} (h : OKv K H μ kvs gs) (h' : OKv K H μ kvs' gs') : OKv K H μ (kvs ++ kvs') (gs ++ gs') := by
  refine ⟨by simp [h.1, h'.1], ?_⟩
  simp only [List.map_append]
  exact h.2.append h'.2
theorem okv_val {k : Key} : ∀ {kvs : List (Key × D)} {gs : List (Key × V)}, OKv K H μ kvs gs → (valD kvs k = none ∧ valV gs k = none) ∨ ∃ d v, valD kvs k = some d ∧ valV gs k = some v ∧ Rep K H μ d v
  | [], gs, h => by rw [okv_nil h]; exact .inl ⟨rfl, rfl⟩
  | p :: kvs, gs, h => by
    obtain ⟨v, gs', rfl, r, h'⟩ := okv_cons h
    by_cases e : p.1 = k
    · exact .inr ⟨p.2, v, by simp [valD, e], by simp [valV, e], r⟩
    · rcases okv_val (k := k) h' with ⟨h1, h2⟩ | ⟨d, u, h1, h2, h3⟩
      · exact .inl ⟨by simpa [valD, e] using h1, by simpa [valV, e] using h2⟩
      · exact .inr ⟨d, u, by simpa [valD, e] using h1, by simpa [valV, e] using h2, h3⟩
theorem okv_any {k : Key} : ∀ {kvs : List (Key × D)} {gs : List (Key × V)}, OKv K H μ kvs gs → (kvs.any fun kv => decide (kv.1 = k)) = gs.any fun kv => decide (kv.1 = k)
  | [], gs, h => by rw [okv_nil h]; rfl
  | p :: kvs, gs, h => by
    obtain ⟨v, gs', rfl, r, h'⟩ := okv_cons h
    simp only [List.any_cons, okv_any (k := k) h']
theorem okv_upd {k : Key} {d : D} {v : V} (r : Rep K H μ d v) : ∀ {kvs : List (Key × D)} {gs : List (Key × V)}, OKv K H μ kvs gs → OKv K H μ (kvs.map fun kv => if kv.1 = k then (kv.1, d) else kv) (gs.map fun kv => if kv.1 = k then (kv.1, v) else kv)
  | [], gs, h => by rw [okv_nil h]; exact ⟨rfl, rfl⟩
  | p :: kvs, gs, h => by
    obtain ⟨u, gs', rfl, ru, h'⟩ := okv_cons h
    have ih := okv_upd (k := k) r h'
    simp only [List.map_cons]
    by_cases e : p.1 = k
    · rw [if_pos e, if_pos e]
      exact okv_mk (p := (p.1, d)) r ih
    · rw [if_neg e, if_neg e]
      exact okv_mk ru ih
theorem okv_put {k : Key} {d : D} {v : V} (r : Rep K H μ d v) {kvs : List (Key × D)} {gs : List (Key × V)} (h : OKv K H μ kvs gs) : OKv K H μ (putD kvs k d) (putK gs k v) := by
  unfold putD putK
  rw [okv_any h]
  split
  · exact okv_upd r h
  · exact okv_app h (okv_mk (p := (k, d)) r ⟨rfl, rfl⟩)
theorem okv_merge : ∀ {more : List (Key × D)} {ms : List (Key × V)} {kvs : List (Key × D)} {gs : List (Key × V)}, OKv K H μ more ms → OKv K H μ kvs gs → OKv K H μ (mergeD kvs more) (mergeK gs ms)
  | [], ms, kvs, gs, h, g => by rw [okv_nil h]; exact g
  | p :: more, ms, kvs, gs, h, g => by
    obtain ⟨v, ms', rfl, r, h'⟩ := okv_cons h
    show OKv K H μ (mergeD (putD kvs p.1 p.2) more) (mergeK (putK gs p.1 v) ms')
    exact okv_merge (more := more) h' (okv_put r g)
theorem okv_len {kvs : List (Key × D)} {gs : List (Key × V)} (h : OKv K H μ kvs gs) : kvs.length = gs.length := by
  have := congrArg List.length h.1
  simpa using this
end
section
variable {X : Cx} {W : WX} {a b o i e : Expr} {keys : List (Option Expr)} {values : List Expr} {ta tb td ti : DTE} {pos : Pos}
/-- d[k] -/
def dDGet (td ti : DTE) : DTE := fun ρ st Q Z => td ρ st (fun x st1 => ti ρ st1 (fun y st2 => ∃ n kvs k v, x = .loc n ∧ st2[n]? = some (.dK kvs) ∧ keyD y = some k ∧ valD kvs k = some v ∧ Q v st2) Z) Z
theorem de_dget (hu : X.A.units + 1 < cLine) (ho : DE X W o td) (hi : DE X W i ti) (hs : NoSl i := by intro _ _; rfl) : DE X W (.Subscript o i pos) (dDGet td ti) := pe_weak (pe_dget hu ho hi hs) fun σ H Q ⟨ρ, st, μ, Qd, Z, hS, ht, hQ, hZ⟩ =>
  ⟨ρ, st, μ, _, Z, hS, ht, fun x st1 H1 μ1 v hx e1 s1 rv => ⟨ρ, st1, μ1, _, Z, hS.mono e1 s1, hx, fun y st2 H2 μ2 u hy e2 s2 ru => by
    obtain ⟨n, kvs, k, d, rfl, hn, hk, hv, q⟩ := hy
    obtain ⟨a, rfl, ha⟩ := rv.mono e2
    obtain ⟨a', ob, q1, q2, gs, rfl, okv⟩ := s2.at' _ _ hn
    rw [ha] at q1; cases q1
    rcases okv_val (k := k) okv with ⟨h1, _⟩ | ⟨d', w, h1, h2, r⟩
    · rw [h1] at hv; cases hv
    · rw [h1] at hv; cases hv
      refine ⟨a, w, rfl, ?_, hQ _ _ _ _ _ q (e1.trans e2) s2 r⟩
      have := DGet.k (k := k) q2
      rw [h2] at this
      rw [key_rep hk ru]
      exact this, hZ.mono e1⟩, hZ⟩
/-- {k: v, ..} -/
def dPairs : List (DTE × DTE) → Env' → Sto → (List (D × D) → Sto → Prop) → DZ → Prop
  | [], _, st, Q, _ => Q [] st
  | (tk, tv) :: r, ρ, st, Q, Z => tk ρ st (fun x st1 => tv ρ st1 (fun y st2 => dPairs r ρ st2 (fun ps st3 => Q ((x, y) :: ps) st3) Z) Z) Z
inductive DPs (X : Cx) (W : WX) : List (Option Expr) → List Expr → List (DTE × DTE) → Prop where
  | nil : DPs X W [] [] []
  | cons {k v : Expr} {ks : List (Option Expr)} {vs : List Expr} {tk tv : DTE} {ts : List (DTE × DTE)} (hk : DE X W k tk) (hv : DE X W v tv) (r : DPs X W ks vs ts) : DPs X W (some k :: ks) (v :: vs) ((tk, tv) :: ts)
theorem DPs.pps {ts : List (DTE × DTE)} (h : DPs X W keys values ts) : PPs X pos keys values (ts.map fun p => (liftE X.K W p.1, liftE X.K W p.2)) := by
  induction h with
  | nil => exact pps_nil
  | cons hk hv r ih => exact pps_cons hk hv ih
/-- pairs as they are told -/
def Pairs (K : PySem.W.Frag) (H : Hp) (μ : List Addr) : List (D × D) → List (V × V) → Prop
  | [], ps => ps = []
  | p :: ds, ps => ∃ q r, ps = q :: r ∧ Rep K H μ p.1 q.1 ∧ Rep K H μ p.2 q.2 ∧ Pairs K H μ ds r
theorem pairs_lift {K : PySem.W.Frag} {ρ : Env'} {Z : DZ} {σ : St} : ∀ {ts : List (DTE × DTE)} {Qd : List (D × D) → Sto → Prop} {Q : List (V × V) → Hp → Prop} {st : Sto} {H : Hp} {μ : List Addr}, Stt K ρ st μ σ H → dPairs ts ρ st Qd Z →
    (∀ ps st' H' μ' vs, Qd ps st' → Ext H H' μ μ' → SRep K st' μ' H' → Pairs K H' μ' ps vs → Q vs H') → ZOk K W Z H μ → tPairs (ts.map fun p => (liftE K W p.1, liftE K W p.2)) σ H Q
  | [], Qd, Q, st, H, μ, hS, h, hQ, hZ => hQ _ _ _ _ _ h (Ext.refl _ _) hS.s rfl
  | (tk, tv) :: ts, Qd, Q, st, H, μ, hS, h, hQ, hZ => ⟨ρ, st, μ, _, Z, hS, h, fun x st1 H1 μ1 v hx e1 s1 rv => ⟨ρ, st1, μ1, _, Z, hS.mono e1 s1, hx, fun y st2 H2 μ2 u hy e2 s2 ru =>
    pairs_lift (hS.mono (e1.trans e2) s2) hy (fun ps st' H' μ' vs q e3 s3 rp => hQ _ _ _ _ _ q ((e1.trans e2).trans e3) s3 ⟨(v, u), vs, rfl, (rv.mono e2).mono e3, ru.mono e3, rp⟩) (hZ.mono (e1.trans e2)), hZ.mono e1⟩, hZ⟩
theorem pairs_kv {K : PySem.W.Frag} {H : Hp} {μ : List Addr} : ∀ {ps : List (D × D)} {vs : List (V × V)} {kvs : List (Key × D)}, Pairs K H μ ps vs → ps.map (fun p => (keyD p.1, p.2)) = kvs.map (fun p => (some p.1, p.2)) →
    ∃ gs : List (Key × V), vs = gs.map (fun kv => (kV kv.1, kv.2)) ∧ OKv K H μ kvs gs
  | [], vs, kvs, h, e => by
    cases kvs with
    | nil => rw [show vs = [] from h]; exact ⟨[], rfl, rfl, rfl⟩
    | cons p kvs => simp at e
  | p :: ps, vs, kvs, h, e => by
    obtain ⟨q, r, rfl, h1, h2, h3⟩ := h
    cases kvs with
    | nil => simp at e
    | cons g kvs =>
      obtain ⟨gk, gv⟩ := g
      simp only [List.map_cons, List.cons.injEq, Prod.mk.injEq] at e
      obtain ⟨⟨e1, e2⟩, e3⟩ := e
      obtain ⟨gs, rfl, hg⟩ := pairs_kv h3 e3
      obtain ⟨qk, qv⟩ := q
      refine ⟨(gk, qv) :: gs, ?_, okv_mk (p := (gk, gv)) (by rw [← e2]; exact h2) hg⟩
      dsimp only at h1
      rw [key_rep e1 h1]
      rfl
def dDisp (ts : List (DTE × DTE)) : DTE := fun ρ st Q Z => dPairs ts ρ (st ++ [.dK []]) (fun ps st1 => st1[st.length]? = some (.dK []) ∧ ∃ kvs : List (Key × D), ps.map (fun p => (keyD p.1, p.2)) = kvs.map (fun p => (some p.1, p.2)) ∧ kvs.length ≤ 15 ∧
  Q (.loc st.length) (st1.set st.length (.dK (mergeD [] kvs)))) Z
theorem de_disp {ts : List (DTE × DTE)} (h : DPs X W keys values ts) (hall : keys.all (·.isSome) = true := by rfl) (hl : keys.length = values.length := by rfl) (h0 : keys ≠ [] := by exact fun z => nomatch z) (h15 : keys.length ≤ 15 := by decide) :
    DE X W (.Dict keys values pos) (dDisp ts) := pe_weak (pe_disp h.pps hall hl h0 h15) fun σ H Q ⟨ρ, st, μ, Qd, Z, hS, ht, hQ, hZ⟩ p hp => by
  have x0 := Ext.push (μ := μ) (o := .dK []) hp
  have s0 := hS.s.push (o := .dK []) (b := .dK []) hp ⟨[], rfl, rfl, rfl⟩
  refine pairs_lift (hS.mono x0 s0) ht (fun ps st1 H1 μ1 vs hq e1 s1 rp => ?_) (hZ.mono x0)
  obtain ⟨hat, kvs, hk, h15', q⟩ := hq
  have hp1 : μ1[st.length]? = some p := e1.pre _ _ (by rw [hS.s.len]; exact getElem?_end _ _)
  obtain ⟨a, ob, q1, q2, gs0, rfl, okv⟩ := s1.at' _ _ hat
  rw [hp1] at q1; cases q1
  rw [okv_nil okv] at q2
  obtain ⟨gs, rfl, hg⟩ := pairs_kv rp hk
  refine ⟨q2, gs, rfl, by rw [← okv_len hg]; exact h15', ?_⟩
  have w := s1.write (o' := .dK (mergeK [] gs)) (b := .dK (mergeD [] kvs)) hp1 q2 ⟨_, rfl, okv_merge hg ⟨rfl, rfl⟩⟩
  exact hQ _ _ _ _ _ q ((x0.trans e1).trans w.1) w.2 ⟨p, rfl, hp1⟩
end
section
variable {K : PySem.W.Frag}
theorem ip_ok {g : Int → Int → Int} : DOp K (ipI g) (fun x y st Q => match x, y with | .int i, .int j => Q (.int (g i j)) st | _, _ => False) := by
  intro H μ st x y v u Qd Q s rx ry h hQ
  cases x <;> cases y <;> first | exact (show False from h).elim | skip
  exact ⟨_, _, rx, ry, hQ _ _ _ _ _ h (Ext.refl _ _) s rfl⟩
def dAddI : D2 := fun x y st Q => match x, y with | .int i, .int j => Q (.int (i + j)) st | _, _ => False
theorem ip_addI : DOp K (ipI fun i j => i + j) dAddI := ip_ok (g := fun i j => i + j)
end
end DL
namespace DL
open PySem L2 PySem.Spec
open PyProof.Rows hiding St
section
variable {ρ : Env'} {st : Sto} {Q : DK} {Z : DZ} {d x y z : D} {ds es : List D} {te ta tb tc td ti : DTE}
@[simp] theorem s_str0 {f : Str → Bool} {a : Str} : dStr0 f (.str a) [] st Q = Q (.bl (f a)) st := rfl
@[simp] theorem s_str1 {f : Str → Str → Bool} {a b : Str} : dStr1 f (.str a) [.str b] st Q = Q (.bl (f a b)) st := rfl
@[simp] theorem s_split {a b : Str} : dSplit (.str a) [.str b] st Q = ((b.length == 0) = false ∧ a.length + 2 ≤ sizeLine ∧ Q (.loc st.length) (st ++ [.lst ((Txt.split a b).map .str)])) := rfl
@[simp] theorem s_join {a : Str} : dJoin (.str a) [d] st Q = ∃ ys : List Str, itemsD st d = some (ys.map .str) ∧ (ys.map (·.length)).sum + ys.length * a.length ≤ 16777216 ∧ Q (.str (Txt.join a ys)) st := rfl
@[simp] theorem s_extendA {n : Nat} : dExtendA (.loc n) [d] st Q = ∃ es fs, st[n]? = some (.lst es) ∧ (d = .tup fs ∨ ∃ m, d = .loc m ∧ st[m]? = some (.lst fs)) ∧ es.length + fs.length ≤ sizeLine ∧ Q .non (st.set n (.lst (es ++ fs))) := rfl
@[simp] theorem s_tyD_str {T : String} {a : Str} : tyD st T (.str a) = (T = "str") := rfl
@[simp] theorem s_intS {a : Str} : dIntS [.str a] st Q = ∃ n, PySem.intText? a = some n ∧ a.length ≤ 640 ∧ Q (.int n) st := rfl
@[simp] theorem s_strI {i : Int} : dStrI [.int i] st Q = (i.natAbs.log2 < 1920 ∧ Q (.str (toString i)) st) := rfl
@[simp] theorem s_maxT : dMaxT [.tup es] st Q = ∃ ns : List Int, es = ns.map .int ∧ 0 < ns.length ∧ ∀ m, m ∈ ns → (∀ y ∈ ns, y ≤ m) → Q (.int m) st := rfl
@[simp] theorem s_fmt : dFmt te ρ st Q Z = te ρ st (fun x st1 => match x with
  | .str y => y.length ≤ sizeLine ∧ Q (.str y) st1
  | .int i => i.natAbs.log2 < 1920 ∧ Q (.str (toString i)) st1
  | _ => False) Z := rfl
@[simp] theorem s_joined {ts : List DTE} : dJoined ts ρ st Q Z = dJs ts Str.empty ρ st (fun out st1 => Q (.str out) st1) Z := rfl
@[simp] theorem s_js0 {acc : Str} {QS : Str → Sto → Prop} : dJs [] acc ρ st QS Z = QS acc st := rfl
@[simp] theorem s_js {t : DTE} {ts : List DTE} {acc : Str} {QS : Str → Sto → Prop} : dJs (t :: ts) acc ρ st QS Z = t ρ st (fun x st1 => match x with | .str y => (acc ++ y).length ≤ sizeLine ∧ dJs ts (acc ++ y) ρ st1 QS Z | _ => False) Z := rfl
@[simp] theorem s_addI {i j : Int} : dAddI (.int i) (.int j) st Q = Q (.int (i + j)) st := rfl
@[simp] theorem s_aug {i : Nat} {dr : D2} {E : DEnds} : dAug i te dr E ρ st = (match ρ[i]? with
  | some (some x) => te ρ st (fun y st1 => dr x y st1 fun z st2 => E.nx (ρ.set i (some z)) st2) E.xs
  | _ => False) := rfl
@[simp] theorem s_walk_str {z : Str} {QI : List D → (Sto → Prop) → Prop} : walkD st (.str z) QI = QI (strItems z) fun _ => True := rfl
@[simp] theorem s_slv_str {z : Str} {l u : Option Int} : dSlV (.str z) l u st Q = (z.length ≤ sizeLine ∧ Q (.str (cutS z l u)) st) := rfl
@[simp] theorem s_tru_str {z : Str} {Qb : Bool → Prop} : truD st (.str z) Qb = (z.length ≤ sizeLine ∧ Qb ((z.length : Int) != 0)) := rfl
end
end DL
namespace RD
open PySem L2 PySem.Spec DL
open PyProof.Rows hiding St
abbrev N_told_number : List Str := ["digits", "text"]
def t_told_number : DTS := (dSeq (dIfS (dOr (dTest (dOp dGt (dCB dLen (dCons (dVar 1) dNil)) (dVar 0))) (dOr (dNot (dTru (dBM "str" (dStr0 Txt.isascii) (dVar 1) dNil))) (dNot (dTru (dBM "str" (dStr0 Txt.isdigit) (dVar 1) dNil))))) (dRet (dC (.non))) dNext)
    (dSeq (dIfS (dAnd (dTest (dOp dNe (dVar 1) (dC (.str "0")))) (dTru (dBM "str" (dStr1 Txt.startswith) (dVar 1) (dCons (dC (.str "0")) dNil)))) (dRet (dC (.non))) dNext)
    (dRet (dCB dIntS (dCons (dVar 1) dNil)))))
abbrev N_told_version : List Str := ["text", "numbers", "word"]
def e_told_version_1 (s_is_version : DSp) (s_told_number : DSp) : DTE := (dCall 2 s_told_number (dCons (dC (.int 7)) (dCons (dVar 2) dNil)))
def t_told_version (s_is_version : DSp) (s_told_number : DSp) : DTS := (dSeq (dAsg (dCB dTupOf (dCons (dLc (iD (dBM "str" dSplit (dVar 0) (dCons (dC (.str ".")) dNil))) (gN 2) dYes (e_told_version_1 s_is_version s_told_number) [2]) dNil)) (gN 1))
    (dSeq (dIfS (dNot (dTru (dCall 1 s_is_version (dCons (dVar 1) dNil)))) (dRet (dC (.non))) dNext)
    (dRet (dVar 1))))
abbrev N_sign_of : List Str := ["part", "sign"]
def b_sign_of_1 : DTS := (dIfS (dTru (dBM "str" (dStr1 Txt.startswith) (dVar 0) (dCons (dVar 1) dNil))) (dRet (dVar 1)) dNext)
def t_sign_of : DTS := (dSeq (dFor (iD (dC (.tup [.str "<=", .str ">=", .str "<", .str ">", .str "!", .str "^", .str "~"]))) (gN 1) (b_sign_of_1))
    (dRet (dC (.str ""))))
abbrev N__law_version_text : List Str := ["version", "number"]
def e__law_version_text_1 : DTE := (dCB dStrI (dCons (dVar 1) dNil))
def t__law_version_text : DTS := (dRet (dBM "str" dJoin (dC (.str ".")) (dCons (dLc (iD (dVar 0)) (gN 1) dYes (e__law_version_text_1) [1]) dNil)))
abbrev N__law_part : List Str := ["word", "version", "a", "b", "c", "every", "first", "high", "later"]
def t__law_part (s__law_behind : DSp) (s__law_outside : DSp) : DTS := (dSeq (dAsg (dVar 1) (gTup' 3 (gCons' (gN 2) (gCons' (gN 3) (gCons' (gN 4) gNil')))))
    (dSeq (dAsg (dTup (dCons (dTup (dCons (dTup (dCons (dC (.int 0)) (dCons (dC (.int 0)) (dCons (dC (.int 0)) dNil)))) (dCons (dC (.non)) dNil))) dNil)) (gN 5))
    (dSeq (dIfS (dTest (dOp (dIn false) (dVar 0) (dTup (dCons (dC (.str "*")) (dCons (dC (.str ">=")) (dCons (dC (.str "<")) dNil)))))) (dSeq (dAsg (dIf (dTest (dOp dEq (dVar 1) (dTup (dCons (dC (.int 0)) (dCons (dC (.int 0)) (dCons (dC (.int 0)) dNil)))))) (dTup dNil) (dTup (dCons (dTup (dCons (dTup (dCons (dC (.int 0)) (dCons (dC (.int 0)) (dCons (dC (.int 0)) dNil)))) (dCons (dVar 1) dNil))) dNil))) (gN 6))
    (dRet (dDGet (dDisp [((dC (.str "*")), (dVar 5)), ((dC (.str ">=")), (dTup (dCons (dTup (dCons (dVar 1) (dCons (dC (.non)) dNil))) dNil))), ((dC (.str "<")), (dVar 6))]) (dVar 0)))) dNext)
    (dSeq (dIfS (dTest (dOp (dIn false) (dVar 0) (dTup (dCons (dC (.str "^")) (dCons (dC (.str "~")) dNil))))) (dSeq (dAsg (dTup (dCons (dVar 2) (dCons (dOp dAdd (dVar 3) (dC (.int 1))) (dCons (dC (.int 0)) dNil)))) (gN 7))
    (dSeq (dIfS (dTest (dOp dEq (dVar 0) (dC (.str "^")))) (dAsg (dIf (dTest (dOp dGt (dVar 2) (dC (.int 0)))) (dTup (dCons (dOp dAdd (dVar 2) (dC (.int 1))) (dCons (dC (.int 0)) (dCons (dC (.int 0)) dNil)))) (dIf (dTest (dOp dGt (dVar 3) (dC (.int 0)))) (dTup (dCons (dC (.int 0)) (dCons (dOp dAdd (dVar 3) (dC (.int 1))) (dCons (dC (.int 0)) dNil)))) (dTup (dCons (dC (.int 0)) (dCons (dC (.int 0)) (dCons (dOp dAdd (dVar 4) (dC (.int 1))) dNil)))))) (gN 7)) dNext)
    (dRet (dIf (dTest (dOp dGt (dCB dMaxT (dCons (dVar 7) dNil)) (dC (.int 1000000)))) (dC (.non)) (dTup (dCons (dTup (dCons (dVar 1) (dCons (dVar 7) dNil))) dNil)))))) dNext)
    (dSeq (dAsg (dCall 1 s__law_behind (dCons (dVar 1) dNil)) (gN 8))
    (dSeq (dIfS (dTest (dOp dGe (dVar 4) (dC (.int 1000000)))) (dRet (dC (.non))) dNext)
    (dSeq (dIfS (dTest (dOp dEq (dVar 0) (dC (.str "")))) (dRet (dTup (dCons (dTup (dCons (dVar 1) (dCons (dVar 8) dNil))) dNil))) dNext)
    (dSeq (dIfS (dTest (dOp dEq (dVar 0) (dC (.str "!")))) (dRet (dCall 1 s__law_outside (dCons (dTup (dCons (dTup (dCons (dVar 1) (dCons (dVar 8) dNil))) dNil)) dNil))) dNext)
    (dRet (dIf (dTest (dOp dEq (dVar 0) (dC (.str "<=")))) (dTup (dCons (dTup (dCons (dTup (dCons (dC (.int 0)) (dCons (dC (.int 0)) (dCons (dC (.int 0)) dNil)))) (dCons (dVar 8) dNil))) dNil)) (dTup (dCons (dTup (dCons (dVar 8) (dCons (dC (.non)) dNil))) dNil))))))))))))
abbrev N__law_is_part_text : List Str := ["text", "word", "begin", "numbers", "one"]
def b__law_is_part_text_1 (s__law_part : DSp) (s__law_read_number : DSp) : DTS := (dIfS (dAnd (dTest (dOp dEq (dVar 1) (dC (.str "")))) (dTru (dBM "str" (dStr1 Txt.startswith) (dVar 0) (dCons (dVar 2) dNil)))) (dAsg (dVar 2) (gN 1)) dNext)
def e__law_is_part_text_2 (s__law_part : DSp) (s__law_read_number : DSp) : DTE := (dCall 1 s__law_read_number (dCons (dVar 4) dNil))
def t__law_is_part_text (s__law_part : DSp) (s__law_read_number : DSp) : DTS := (dSeq (dIfS (dTest (dOp dEq (dVar 0) (dC (.str "*")))) (dRet (dC (.bl true))) dNext)
    (dSeq (dAsg (dC (.str "")) (gN 1))
    (dSeq (dFor (iD (dTup (dCons (dC (.str "<=")) (dCons (dC (.str ">=")) (dCons (dC (.str "<")) (dCons (dC (.str ">")) (dCons (dC (.str "!")) (dCons (dC (.str "^")) (dCons (dC (.str "~")) dNil))))))))) (gN 2) (b__law_is_part_text_1 s__law_part s__law_read_number))
    (dSeq (dAsg (dLc (iD (dBM "str" dSplit (dSl (dVar 0) (dPart (dCB dLen (dCons (dVar 1) dNil))) dNoPart) (dCons (dC (.str ".")) dNil))) (gN 4) dYes (e__law_is_part_text_2 s__law_part s__law_read_number) [4]) (gN 3))
    (dSeq (dIfS (dOr (dTest (dOp dNe (dCB dLen (dCons (dVar 3) dNil)) (dC (.int 3)))) (dTest (dOp (dIn false) (dC (.non)) (dVar 3)))) (dRet (dC (.bl false))) dNext)
    (dRet (dOp (dIsN not) (dCall 2 s__law_part (dCons (dVar 1) (dCons (dCB dTupOf (dCons (dVar 3) dNil)) dNil))) (dC (.non)))))))))
abbrev N__law_due : List Str := ["text", "parts", "alternative", "wrong", "at"]
def b__law_due_1 (s__law_is_part_text : DSp) : DTS := (dDrop (dBM "list" dExtendA (dVar 1) (dCons (dBM "str" dSplit (dVar 2) (dCons (dC (.str ", ")) dNil)) dNil)))
def i__law_due_2 (s__law_is_part_text : DSp) : DTT := (dNot (dTru (dCall 1 s__law_is_part_text (dCons (dOp dIx (dVar 1) (dVar 4)) dNil))))
def e__law_due_3 (s__law_is_part_text : DSp) : DTE := (dVar 4)
def t__law_due (s__law_is_part_text : DSp) : DTS := (dSeq (dIfS (dNot (dTru (dIsi (dVar 0) ["str"]))) (dRet (dUn dNegV (dC (.int 1)))) dNext)
    (dSeq (dAsg (dLst dNil) (gN 1))
    (dSeq (dFor (iD (dBM "str" dSplit (dVar 0) (dCons (dC (.str " | ")) dNil))) (gN 2) (b__law_due_1 s__law_is_part_text))
    (dSeq (dAsg (dLc (iR1 (dCons (dCB dLen (dCons (dVar 1) dNil)) dNil)) (gN 4) (i__law_due_2 s__law_is_part_text) (e__law_due_3 s__law_is_part_text) [4]) (gN 3))
    (dRet (dIf (dTest (dOp dGt (dCB dLen (dCons (dVar 3) dNil)) (dC (.int 0)))) (dOp dIx (dVar 3) (dC (.int 0))) (dC (.non))))))))
abbrev N_law_k03 : List Str := ["script", "hand", "turn", "words", "alternative", "some", "k", "word", "version", "text", "change", "thing"]
def e_law_k03_1 (s__law_hand : DSp) (s__law_draw : DSp) (s__law_some : DSp) (s__law_is : DSp) (s__law_deep : DSp) (s__law_part_text : DSp) (s__law_words : DSp) (s__law_due : DSp) (s__law_told : DSp) (s__law_bent : DSp) : DTE := (dCall 1 s__law_words (dCons (dVar 1) dNil))
def e_law_k03_2 (s__law_hand : DSp) (s__law_draw : DSp) (s__law_some : DSp) (s__law_is : DSp) (s__law_deep : DSp) (s__law_part_text : DSp) (s__law_words : DSp) (s__law_due : DSp) (s__law_told : DSp) (s__law_bent : DSp) : DTE := (dCall 2 s__law_part_text (dCons (dVar 7) (dCons (dVar 8) dNil)))
def b_law_k03_3 (s__law_hand : DSp) (s__law_draw : DSp) (s__law_some : DSp) (s__law_is : DSp) (s__law_deep : DSp) (s__law_part_text : DSp) (s__law_words : DSp) (s__law_due : DSp) (s__law_told : DSp) (s__law_bent : DSp) : DTS := (dSeq (dAsg (dLc (iR1 (dCons (dOp dAdd (dC (.int 1)) (dCall 2 s__law_draw (dCons (dVar 1) (dCons (dC (.int 3)) dNil)))) dNil)) (gN 6) dYes (e_law_k03_1 s__law_hand s__law_draw s__law_some s__law_is s__law_deep s__law_part_text s__law_words s__law_due s__law_told s__law_bent) [6]) (gN 5))
    (dDrop (dBM "list" dAppend (dVar 3) (dCons (dBM "str" dJoin (dC (.str ", ")) (dCons (dLc (iD (dVar 5)) (gTup' 2 (gCons' (gN 7) (gCons' (gN 8) gNil'))) dYes (e_law_k03_2 s__law_hand s__law_draw s__law_some s__law_is s__law_deep s__law_part_text s__law_words s__law_due s__law_told s__law_bent) [7, 8]) dNil)) dNil))))
def b_law_k03_4 (s__law_hand : DSp) (s__law_draw : DSp) (s__law_some : DSp) (s__law_is : DSp) (s__law_deep : DSp) (s__law_part_text : DSp) (s__law_words : DSp) (s__law_due : DSp) (s__law_told : DSp) (s__law_bent : DSp) : DTS := (dAsg (dCall 2 s__law_bent (dCons (dVar 1) (dCons (dVar 9) dNil))) (gN 9))
def b_law_k03_5 (s__law_hand : DSp) (s__law_draw : DSp) (s__law_some : DSp) (s__law_is : DSp) (s__law_deep : DSp) (s__law_part_text : DSp) (s__law_words : DSp) (s__law_due : DSp) (s__law_told : DSp) (s__law_bent : DSp) : DTS := (dSeq (dAsg (dLst dNil) (gN 3))
    (dSeq (dFor (iR1 (dCons (dOp dAdd (dC (.int 1)) (dCall 2 s__law_draw (dCons (dVar 1) (dCons (dC (.int 3)) dNil)))) dNil)) (gN 4) (b_law_k03_3 s__law_hand s__law_draw s__law_some s__law_is s__law_deep s__law_part_text s__law_words s__law_due s__law_told s__law_bent))
    (dSeq (dAsg (dBM "str" dJoin (dC (.str " | ")) (dCons (dVar 3) dNil)) (gN 9))
    (dSeq (dFor (iR1 (dCons (dCall 2 s__law_draw (dCons (dVar 1) (dCons (dC (.int 3)) dNil))) dNil)) (gN 10) (b_law_k03_4 s__law_hand s__law_draw s__law_some s__law_is s__law_deep s__law_part_text s__law_words s__law_due s__law_told s__law_bent))
    (dIfS (dTest (dOp dNe (dCall 1 s__law_told (dCons (dVar 9) dNil)) (dCall 1 s__law_due (dCons (dVar 9) dNil)))) (dRet (dC (.bl false))) dNext)))))
def t_law_k03 (s__law_hand : DSp) (s__law_draw : DSp) (s__law_some : DSp) (s__law_is : DSp) (s__law_deep : DSp) (s__law_part_text : DSp) (s__law_words : DSp) (s__law_due : DSp) (s__law_told : DSp) (s__law_bent : DSp) : DTS := (dSeq (dAsg (dCall 1 s__law_hand (dCons (dVar 0) dNil)) (gN 1))
    (dSeq (dFor (iR1 (dCons (dC (.int 10)) dNil)) (gN 2) (b_law_k03_5 s__law_hand s__law_draw s__law_some s__law_is s__law_deep s__law_part_text s__law_words s__law_due s__law_told s__law_bent))
    (dSeq (dAsg (dCall 2 s__law_some (dCons (dVar 1) (dCons (dLst (dCons (dC (.non)) (dCons (dC (.int 0)) (dCons (dC (.bl true)) (dCons (dLst (dCons (dC (.str "*")) dNil)) (dCons (dTup (dCons (dC (.str "*")) dNil)) (dCons dDict0 (dCons (dTup (dCons (dTup (dCons (dTup (dCons (dC (.int 0)) (dCons (dC (.int 0)) (dCons (dC (.int 0)) dNil)))) (dCons (dC (.non)) dNil))) dNil)) (dCons (dCall 1 s__law_deep (dCons (dC (.int 0)) dNil)) (dCons (dCall 1 s__law_deep (dCons (dC (.int 1)) dNil)) dNil)))))))))) dNil))) (gN 11))
    (dRet (dCall 2 s__law_is (dCons (dCall 1 s__law_told (dCons (dVar 11) dNil)) (dCons (dUn dNegV (dC (.int 1))) dNil)))))))
end RD
set_option maxHeartbeats 4000000
namespace L2
open PySem PySem.Spec PyProof.Rows
end L2
namespace DL
open PySem L2 PySem.Spec
open PyProof.Rows hiding St
class ErrCtx where
  A : Nat → Addr
def errA [EC : ErrCtx] (m : Nat) : Addr := EC.A m
def errX [EC : ErrCtx] (m : Nat) (fs : List (Str × D)) : DX := ⟨.ref (errA m), fs⟩
def spI1 (C : Addr) (f : Str) : Sp := fun vs H Q _ => ∃ (a : Addr) (y : V), vs = [.ref a, y] ∧ H a = some (exo a C none) ∧ ∀ dx, H dx = none → dx ≠ a → Q .non (upd (upd H dx (exd dx [(f, y)])) a (exo a C (some dx)))
/-- a statement within a class -/
def mthS (s : Stmt) (j : Nat) : Stmt := match s with
  | .ClassDef _ _ _ b _ _ _ _ _ _ _ => b.getD j (.Pass ⟨0, 0, 0, 0⟩)
  | _ => .Pass ⟨0, 0, 0, 0⟩
section
variable {P : Program} {w : World} {K : PySem.W.Frag} {mg : Str → Option Value} {base : Heap} {k : Nat} {s : Stmt} {f : Addr} {fd : FuncData} {qual fld : Str} {C : Addr}
theorem init1_ok {p1 p2 p3 p4 : Pos} (F : Fun K "__init__" qual s f fd) (S : FnScope ["self", fld] ["self", fld] (defScope s)) (hb : defBody s = [.Assign [.Attribute (.Name "self" p1) fld p2] (.Name fld p3) p4]) (T : OexC K C) (hno : PySem.W.findIn K (.ref C) fld = some none)
    (hd : (fld == ("__debug__" : Str)) = false) (hcd : (fld == ("__classdict__" : Str)) = false)
    (hv0 : Vis (defScope s) "self") (hv1 : Vis (defScope s) fld)
    (hs : ∀ env : Env, swapsWith (.Name fld p3) (some (.Attribute (.Name "self" p1) fld p2)) p4.line env = pure false) :
    FnOk P w K mg base (L2.CX P w) (k + 1) f fd ["self", fld] (spI1 C fld) := by
  refine F.okX S (fun vs H Q E h => by obtain ⟨a, y, rfl, _⟩ := h; rfl) (fun cdv A outer s0 H vs Q E hr h => ⟨tOst K fld (tVar 0) (tVar 1), ?_, ?_⟩)
  · rw [hb]
    exact pss_one (ps_ost (pe_var rfl hv0 (by decide) (by decide)) (pe_var rfl hv1 hd hcd) (hs _))
  · obtain ⟨a, y, rfl, ha, q⟩ := h
    refine ⟨y, rfl, .ref a, rfl, a, C, rfl, T, hno, .inl ⟨ha, q⟩⟩
end
/-- an error's class, made with one thing -/
structure Er1 [EC : ErrCtx] (P : Program) (w : World) (K : PySem.W.Frag) (mg : Str → Option Value) (base : Heap) (m : Nat) (x f : Str) : Prop where
  g : mg x = some (.ref (errA m))
  T : OexC K (errA m)
  i : ∃ fI fd, PySem.W.findIn K (.ref (errA m)) "__init__" = some (some (.ref fI)) ∧ PySem.W.typeIn K (.ref fI) = some (.type "function") ∧ FnOk P w K mg base (L2.CX P w) 1 fI fd ["self", f] (spI1 (errA m) f) ∧ Binds K fd ["self", f] []
section
variable [TC : TabCtx] [EC : ErrCtx] {X : Cx} {W : WX} {e : Expr} {es : List Expr} {te : DTE} {pos p pos2 : Pos} {x f : Str} {m k : Nat}
theorem passes0 {X : Cx} : Passes (L2.CX X.prog X.w) X (fun _ _ _ => False) := fun _ _ _ _ _ _ _ h => by
  obtain ⟨_, _, _, _, _, _, _, _, _, _, _, _, z⟩ := h
  exact z.elim
/-- raise X(e) -/
def dRaise1 (m : Nat) (f : Str) (te : DTE) : DTS := fun E ρ st => te ρ st (fun y st1 => E.xs (errX m [(f, y)]) ρ st1) E.xs
def dRaise0 (m : Nat) : DTS := fun E ρ st => E.xs (errX m []) ρ st
theorem ds_raise1 (hc : X.calm = true) (tk : Takes X W) (R : Er1 X.prog X.w X.K X.mg X.base m x f) (hr : Room k X.A) (hk : 2 ≤ k) (hg : Gl X x) (ha : DE X W e te)
    (hdb : (x == ("__debug__" : Str)) = false := by decide) (hs : starEach [e] X.env = (false, eval e X.env) :: starEach [] X.env := by rfl) (hpl : (backTo pos (starEach [] X.env)).any (·.1) = false := by rfl) :
    DS X W (.Raise (some (.Call (.Name x p) [e] [] pos)) none pos2) (dRaise1 m f te) := by
  obtain ⟨g, T, fI, fd, i1, i2, F, hb⟩ := R
  refine ps_weak (ps_raise hc tk (pmk_oex (ds := []) (dvs := []) T i1 i2 F (hr.mono hk) hb .nil passes0 hg g (da_cons ha da_nil hs) hdb hs hpl)) fun D σ H ⟨ρ, st, μ, DD, hS, ht, hO⟩ => ?_
  refine ⟨ρ, st, μ, fun ds st1 => ∃ y, ds = [y] ∧ DD.xs (errX m [(f, y)]) ρ st1, _, hS, ?_, fun ds st1 H1 μ1 vs hx e1 s1 rv => ?_, hO.xs⟩
  · show te ρ st _ _
    have : (fun x st1 => dNil ρ st1 (fun xs st2 => ∃ y, x :: xs = [y] ∧ DD.xs (errX m [(f, y)]) ρ st2) DD.xs) = fun y st1 => DD.xs (errX m [(f, y)]) ρ st1 := by
      funext y st1
      apply propext
      constructor
      · rintro ⟨z, e, h⟩
        cases e
        exact h
      · intro h
        exact ⟨y, rfl, h⟩
    rw [this]
    exact ht
  · obtain ⟨y, rfl, hx⟩ := hx
    obtain ⟨v, r, rfl, rv1, rfl⟩ := rv
    refine ⟨by show 1 ≤ 1000; decide, fun a ha => ⟨a, v, rfl, upd_same, fun dx hdx hne => ⟨rfl, dx, [(f, v)], upd_same, ?_, ?_, ?_⟩⟩⟩
    · rw [upd_ne hne, upd_same]
    · rw [upd_ne hne] at hdx
      exact hdx
    · rw [upd_ne hne] at hdx
      have eH : upd (del (upd (upd (upd H1 a (exo a (errA m) none)) dx (exd dx [(f, v)])) a (exo a (errA m) (some dx))) a) dx (.xd [(f, v)]) = upd H1 dx (.xd [(f, v)]) := by
        funext b
        by_cases hb : b = dx
        · rw [hb, upd_same, upd_same]
        · rw [upd_ne hb, upd_ne hb]
          by_cases hba : b = a
          · rw [hba, del_same, ha]
          · rw [del_ne hba, upd_ne hba, upd_ne hb, upd_ne hba]
      rw [eH]
      have e2 := Ext.laid (μ := μ1) (o := .xd [(f, v)]) hdx
      exact hO.xs _ _ _ σ _ μ1 _ _ hx (e1.trans e2) ⟨(hS.e.mono e1).mono e2, s1.laid hdx⟩ ⟨rfl, .inr ⟨dx, [(f, v)], rfl, upd_same, rfl, (Reps.one rv1).mono e2⟩⟩
end
/-- what a suite knows beside -/
abbrev tcx (TC : TabCtx) (d : Option Addr) (fs : List (Str × D)) : TabCtx := ⟨TC.T, match d with | some dd => (dd, fs) :: TC.xs | none => TC.xs⟩
def Caught [EC : ErrCtx] (ms : List Nat) (x : DX) : Prop := ∃ m ∈ ms, x.cls = .ref (errA m)
section
variable {TC : TabCtx} {K : PySem.W.Frag} {H : Hp} {μ : List Addr} {st : Sto} {d : Option Addr} {fs : List (Str × D)}
theorem SRep.drop (s : @SRep (tcx TC d fs) K st μ H) : @SRep TC K st μ H := by
  obtain ⟨h1, h2, h3, h4, h5⟩ := s
  refine @SRep.mk TC K st μ H h1 h2 h3 h4 fun p hp => h5 p ?_
  cases d with
  | none => exact hp
  | some dd => exact List.mem_cons_of_mem _ hp
theorem SRep.no_xd (s : @SRep TC K st μ H) {a : Addr} {gs : List (Str × V)} (h : H a = some (.xd gs)) : a ∉ μ := fun hm => by
  obtain ⟨n, b, o, _, _, ho, r⟩ := s.mem hm
  rw [h] at ho
  cases ho
  cases b with
  | lst ds => obtain ⟨vs, z, _⟩ := r; cases z
  | ins C fs => obtain ⟨dx, gs, z, _⟩ := r; cases z
  | dK fs => obtain ⟨gs, z, _⟩ := r; cases z
  | err e C d => have z : HO.xd _ = HO.ext _ := r; cases z
  | xdt dx fs => obtain ⟨gs, z, _⟩ := r; have z' : HO.xd _ = HO.ext _ := z; cases z'
  | dkF od fs => obtain ⟨gs, z, _⟩ := r; cases z
theorem SRep.hold (s : @SRep TC K st μ H) (h : ∀ dd, d = some dd → ∃ gs, H dd = some (.xd gs) ∧ OFs K H μ fs gs) : @SRep (tcx TC d fs) K st μ H := by
  have hno := fun (a : Addr) gs h => SRep.no_xd (a := a) (gs := gs) s h
  obtain ⟨h1, h2, h3, h4, h5⟩ := s
  refine @SRep.mk (tcx TC d fs) K st μ H h1 h2 h3 h4 fun p hp => ?_
  cases d with
  | none => exact h5 p hp
  | some dd =>
    rcases List.mem_cons.mp (show p ∈ (dd, fs) :: TC.xs from hp) with e | hp
    · obtain ⟨gs, e1, e2⟩ := h dd rfl
      rw [e]
      exact ⟨hno _ _ e1, gs, e1, e2⟩
    · exact h5 p hp
theorem OFs.lookup {fs : List (Str × D)} {gs : List (Str × V)} {n : Str} {y : D} : OFs K H μ fs gs → fs.lookup n = some y → ∃ v, gs.lookup n = some v ∧ Rep K H μ y v := by
  induction fs generalizing gs with
  | nil => intro _ h; cases h
  | cons p fs ih =>
    rintro ⟨h1, h2⟩ hl
    cases gs with
    | nil => cases h1
    | cons q gs =>
      obtain ⟨pn, pd⟩ := p
      obtain ⟨qn, qv⟩ := q
      simp only [List.map_cons, List.cons.injEq] at h1
      obtain ⟨v, r, e, r1, r2⟩ := h2
      simp only [List.map_cons, List.cons.injEq] at e
      obtain ⟨rfl, rfl⟩ := e
      obtain ⟨rfl, h1⟩ := h1
      by_cases e : n = pn
      · subst e
        simp [List.lookup] at hl ⊢
        subst hl
        exact r1
      · have e' : (n == pn) = false := by simpa using e
        simp only [List.lookup, e'] at hl ⊢
        exact ih ⟨h1, r2⟩ hl
end
section
variable [TC : TabCtx] [EC : ErrCtx] {X : Cx} {W : WX} {body suite : List Stmt} {b₀ : Stmt} {np pos pos' : Pos} {x n : Str} {i m : Nat} {ms : List Nat} {tb : DTS} {ts : Addr → DX → DTS}
/-- try: body, except C as n: suite -/
def dTryAs (ms : List Nat) (i : Nat) (tb : DTS) (ts : Addr → DX → DTS) : DTS := fun E ρ st => tb { E with xs := fun x ρ1 st1 => Caught ms x ∧ ∀ a, ts a x { nx := fun ρ2 st2 => E.nx (ρ2.set i none) st2, rt := E.rt, bk := fun ρ2 st2 => E.bk (ρ2.set i none) st2, ct := fun ρ2 st2 => E.ct (ρ2.set i none) st2 } (ρ1.set i (some (.adr a))) st1 } ρ st
/-- try: body, except C: suite -/
def dTryOnly (ms : List Nat) (tb : DTS) (ts : Addr → DX → DTS) : DTS := fun E ρ st => tb { E with xs := fun x ρ1 st1 => Caught ms x ∧ ∀ a, ts a x { nx := E.nx, rt := E.rt, bk := E.bk, ct := E.ct } ρ1 st1 } ρ st
theorem ds_try_as (hs : X.stack = X.env :: X.outer) (hf : X.env.frame = some X.env.locals) (hN : X.N.Nodup) (hi : X.N[i]? = some n) (hln : X.env.kindOf n = some .local) (hc : Names X x (.ref (errA m))) (tk : Takes X W)
    (hm : ∀ q ∈ ms, PySem.W.exmOne X.K (.ref (errA q)) (.ref (errA m)) = some true)
    (hb : ∀ (W : WX) (pn : List (Addr × Obj)) (xe : Value → Shared → Prop), Takes (X.tr pn xe) W → PassesOwn (model X.prog X.w) X.A X.env xe → DSs (X.tr pn xe) W body tb)
    (hsu : ∀ (TC' : TabCtx) (a : Addr) (oe : Obj) (x : DX) (d : Option Addr) (pn : List (Addr × Obj)), (∀ dd, d = some dd → (dd, x.fs) ∈ TC'.xs) → Zc x.cls d oe → (∃ vs, oe.data = .fields vs) → (d = none → x.fs = []) → @DSs TC' (X.suite a ((a, oe) :: pn)) W0 (b₀ :: suite) (ts a x)) :
    DS X W (.Try body [.ExceptHandler (some (.Name x np)) (some n) (b₀ :: suite) pos'] [] [] pos) (dTryAs ms i tb ts) := by
  refine ps_weak (ps_try_as (tb := fun W => liftS X.K W tb) (ts := fun a cls d D σ H => ∃ x : DX, cls = x.cls ∧ (d = none → x.fs = []) ∧ @liftS (tcx TC d x.fs) X.K W0 (ts a x) D σ H) (Wout := W) hs hf hN hi hln hc tk (fun W pn xe tk pw => hb W pn xe tk pw) fun a oe cls d pn hz hv => ?_) fun D σ H ⟨ρ, st, μ, DD, hS, ht, hO⟩ => ?_
  · exact ⟨fun pins s σ H D I ⟨x, ec, hd, h⟩ => (hsu (tcx TC d x.fs) a oe x d pn (fun dd e => by subst e; exact List.mem_cons_self) (ec ▸ hz) hv hd).run pins s σ H D I h⟩
  · refine ⟨ρ, st, μ, _, hS, ht, hO.nx, hO.rt, hO.bk, hO.ct, ?_⟩
    rintro x ρ1 st1 σ1 H1 μ1 c dx ⟨⟨q, hq, ec⟩, hx⟩ e1 hS1 ⟨rc, rx⟩
    refine ⟨true, by rw [rc, ec]; exact hm q hq, fun _ a ha => ⟨x, rc, ?_, ?_⟩, fun z => nomatch z⟩
    · intro hd
      rcases rx with ⟨_, h⟩ | ⟨dd, gs, h, _⟩
      · exact h
      · rw [hd] at h; cases h
    · have sh : @SRep (tcx TC dx x.fs) X.K st1 μ1 H1 := hS1.s.hold fun dd hd => by
        rcases rx with ⟨h, _⟩ | ⟨d2, gs, h, h1, h2⟩
        · rw [hd] at h; cases h
        · rw [hd] at h; cases h
          exact ⟨gs, h1, h2⟩
      have back : ∀ {st' : Sto} {H' : Hp} {μ' : List Addr} {ρ' : Env'} {σ' : St}, @Stt (tcx TC dx x.fs) X.K ρ' st' μ' σ' H' → Stt X.K (ρ'.set i none) st' μ' (σ'.set i none) H' := fun z => by
        obtain ⟨z1, z2⟩ := z
        exact ⟨z1.unset i, z2.drop⟩
      have hS2 : @Stt (tcx TC dx x.fs) X.K (ρ1.set i (some (.adr a))) st1 μ1 (σ1.set i (some (.ref a))) H1 := @Stt.mk (tcx TC dx x.fs) _ _ _ _ _ _ (hS1.e.set i (show Rep X.K H1 μ1 (.adr a) (.ref a) from rfl)) sh
      refine ⟨ρ1.set i (some (.adr a)), st1, μ1, _, hS2, hx a, @SOk.mk (tcx TC dx x.fs) _ _ _ _ _ _ ?_ ?_ ?_ ?_ (fun _ _ _ _ _ _ _ _ (z : False) => z.elim)⟩
      · exact fun ρ2 st2 σ2 H2 μ2 q e2 s2 => hO.nx _ _ _ _ _ q (e1.trans e2) (back s2)
      · exact fun y st2 H2 μ2 v q e2 s2 r => hO.rt _ _ _ _ _ q (e1.trans e2) s2.drop r
      · exact fun ρ2 st2 σ2 H2 μ2 q e2 s2 => hO.bk _ _ _ _ _ q (e1.trans e2) (back s2)
      · exact fun ρ2 st2 σ2 H2 μ2 q e2 s2 => hO.ct _ _ _ _ _ q (e1.trans e2) (back s2)
end
end DL
namespace L2
open PySem PySem.Spec PyProof.Rows
/-- isinstance(e, c), e the exception that the suite holds, its dict told -/
theorem call_isEd {X : Cx} {a D : Addr} {oe : Obj} {pn : List (Addr × Obj)} {d : Option Addr} (C : ExcC X.K D) (hz : Zc (.ref D) d oe) (hf : ∃ vs, oe.data = .fields vs) : CallR (X.suite a ((a, oe) :: pn)) (.builtin "isinstance")
    (fun xs H Q => (∀ dd, d = some dd → ∃ gs, H dd = some (.xd gs)) ∧ rIsE X.K D a xs H Q) := by
  intro pins s σ H xs us Q I r h
  obtain ⟨hdd, c, cv, b, rfl, hcv, e, q⟩ := h
  cases r with
  | cons rx rr =>
    cases rr with
    | cons rt rr =>
      cases rr
      cases rx
      have ec := hcv _ rt
      subst ec
      obtain ⟨hget, _⟩ := I.pin (a, oe) (List.mem_append.mpr (.inl List.mem_cons_self))
      obtain ⟨vs, hv⟩ := hf
      have hcl : (PySem.W.clsIn X.K D).isSome = true := by
        obtain ⟨cd, hc, _⟩ := PySem.W.any_some C.hd
        rw [hc]; rfl
      have J : ∃ od, PySem.W.InstAt s.heap a oe D od := by
        cases d with
        | none =>
          refine ⟨none, hget, hz.1, ?_, ?_⟩
          · unfold PySem.W.notCls; rw [hv] <;> rfl
          · rw [hz.2]; trivial
        | some dd =>
          obtain ⟨gs, ea⟩ := hdd dd rfl
          have hx : ObjOk X.prog X.w H s.heap dd (.xd gs) := I.hok dd _ ea
          obtain ⟨mA, hns, hr⟩ := hx
          obtain ⟨od, ho, hl⟩ := lookIn_ns hns
          exact ⟨some od, hget, hz.1, by unfold PySem.W.notCls; rw [hv] <;> rfl, by rw [hz.2]; exact ho⟩
      obtain ⟨od, J⟩ := J
      exact PySem.W.kia_one (PySem.W.kitx_exc hcl C.hg C.hk C.hs C.ha C.hn C.ht C.hm) I.kIn J e (fun z => nomatch z) fun tk => ⟨.bl b, H, I.kept (t' := tk) fun _ _ z => z, rfl, q⟩
end L2
namespace DL
open PySem L2 PySem.Spec
open PyProof.Rows hiding St
theorem kit_own {K : PySem.W.Frag} {q x : Addr} {b : Bool} (hd : PySem.W.hasDictIn K x = true) (ht : PySem.W.typeIn K (.ref x) = some (.type "type")) (h0 : PySem.W.subIn K (.ref q) (.ref q) = some true) (hs : PySem.W.subIn K (.ref q) (.ref x) = some b) : PySem.W.kitOne K (.ref q) (.ref x) = some b := by
  obtain ⟨cd, hc, _⟩ := PySem.W.any_some hd
  unfold PySem.W.kitOne
  by_cases e : (Value.ref q == Value.ref x) = true
  · rw [if_pos e]
    have : q = x := Value.ref.inj (beq_iff_eq.mp e)
    subst this
    exact h0.symm.trans hs
  · rw [if_neg e]
    unfold PySem.W.kitCls
    dsimp only
    rw [if_pos (by rw [hc, ht]; rfl)]
    exact hs
theorem kit_ve {K : PySem.W.Frag} {q : Addr} (hs : PySem.W.subIn K (.ref q) (.type "ValueError") = some true) : PySem.W.kitOne K (.ref q) (.type "ValueError") = some true := by
  unfold PySem.W.kitOne
  rw [if_neg (by simp)]
  unfold PySem.W.kitCls
  dsimp only
  rw [if_pos (by decide +kernel)]
  exact hs
/-- a sign in a text -/
def dInC : D2 := fun x y st Q => ∃ (c : Nat) (z : Str), x = .str ⟨#[c]⟩ ∧ y = .str z ∧ Q (.bl (decide (c ∈ z.cps.toList))) st
theorem cm_inC [TC : TabCtx] {X : Cx} : Cm X .In dInC := ⟨_, op_in_sign, fun {H μ st x y v u Qd Q} s rx ry h hQ => by
  obtain ⟨c, z, rfl, rfl, q⟩ := h
  exact ⟨c, z, rx, ry, hQ _ _ _ _ _ q (Ext.refl _ _) s rfl⟩⟩
/-- what is read of a held error -/
structure ErF [EC : ErrCtx] (K : PySem.W.Frag) (m : Nat) : Prop where
  xf : XfC K (errA m)
  ex : ExcC K (errA m)
section
variable [TC : TabCtx] [EC : ErrCtx] {X : Cx} {W : WX} {e c : Expr} {te : DTE} {pos p : Pos} {x n : Str} {m : Nat} {a : Addr} {oe : Obj} {xx : DX} {d : Option Addr} {pn : List (Addr × Obj)}
/-- e.f, e the exception held -/
def dXf (a : Addr) (x : DX) (m : Nat) (n : Str) (te : DTE) : DTE := fun ρ st Q Z => te ρ st (fun y st1 => y = .adr a ∧ x.cls = .ref (errA m) ∧ ∃ v, x.fs.lookup n = some v ∧ Q v st1) Z
theorem de_xf (hT : ∀ dd, d = some dd → (dd, xx.fs) ∈ TC.xs) (T : XfC X.K (errA m)) (hno : PySem.W.findIn X.K (.ref (errA m)) n = some none) (hz : Zc xx.cls d oe) (hf : ∃ vs, oe.data = .fields vs) (hd : d = none → xx.fs = []) (he : DE (X.suite a ((a, oe) :: pn)) W e te)
    (hb : attributeBase e n X.env (eval e X.env) = eval e X.env := by rfl) : DE (X.suite a ((a, oe) :: pn)) W (.Attribute e n pos) (dXf a xx m n te) :=
  pe_weak (pe_xf T hno hz hf he hb) fun σ H Q ⟨ρ, st, μ, Qd, Z, hS, ht, hQ, hZ⟩ => ⟨ρ, st, μ, _, Z, hS, ht, fun y st1 H1 μ1 v hx e1 s1 rv => by
    obtain ⟨rfl, ec, dv, hl, q⟩ := hx
    refine ⟨rv, ec, ?_⟩
    cases d with
    | none => rw [hd rfl] at hl; cases hl
    | some dd =>
      obtain ⟨h1, h2, h3, h4, h5⟩ := s1
      obtain ⟨hn, gs, eg, r⟩ := h5 (dd, xx.fs) (hT dd rfl)
      obtain ⟨w, hw, rw'⟩ := OFs.lookup r hl
      exact ⟨dd, gs, w, rfl, eg, hw, hQ _ _ _ _ _ q e1 ⟨h1, h2, h3, h4, h5⟩ rw'⟩, hZ⟩
/-- isinstance(e, c), e the exception held; tbl: its class, the answer -/
def dXi (a : Addr) (x : DX) (tbl : List (Nat × Bool)) (te : DTE) : DTE := fun ρ st Q Z => ∃ p ∈ tbl, x.cls = .ref (errA p.1) ∧ te ρ st (fun y st1 => y = .adr a ∧ Q (.bl p.2) st1) Z
theorem de_xi {tbl : List (Nat × Bool)} {cv : V} {cu : Value} (hT : ∀ dd, d = some dd → (dd, xx.fs) ∈ TC.xs) (hg : Gl X "isinstance") (hm : X.mg "isinstance" = none) (ht : ∀ p ∈ tbl, ErF X.K p.1 ∧ PySem.W.kitOne X.K (.ref (errA p.1)) cu = some p.2) (hcv : ∀ u, RelV cv u → u = cu)
    (hz : Zc xx.cls d oe) (hf : ∃ vs, oe.data = .fields vs) (he : DE (X.suite a ((a, oe) :: pn)) W e te) (hc : PE (X.suite a ((a, oe) :: pn)) c (tC cv))
    (hs1 : starEach [e, c] X.env = (false, eval e X.env) :: starEach [c] X.env := by rfl) (hs2 : starEach [c] X.env = (false, eval c X.env) :: starEach [] X.env := by rfl) (hpl : (backTo pos (starEach [c] X.env)).any (·.1) = false := by rfl) :
    DE (X.suite a ((a, oe) :: pn)) W (.Call (.Name "isinstance" p) [e, c] [] pos) (dXi a xx tbl te) := by
  refine ⟨fun pins s σ H Q I ⟨ρ, st, μ, Qd, Z, hS, ⟨q, hq, ec, hx⟩, hQ, hZ⟩ => ?_⟩
  have hz' : Zc (.ref (errA q.1)) d oe := ec ▸ hz
  have R := pe_callB (call_isEd (X := X) (pn := pn) (ht q hq).1.ex hz' hf) hg hm PyProof.Rows.boot_isinstance (pa_cons he (pa_cons hc pa_nil hs2) hs1) (by decide) (by decide) hs1 hpl (p := p) (pos := pos)
  refine R.run pins s σ H Q I ⟨ρ, st, μ, _, Z, hS, hx, fun y st1 H1 μ1 v hy e1 s1 rv => ?_, hZ⟩
  obtain ⟨rfl, qq⟩ := hy
  have qq' := hQ _ _ _ _ _ qq e1 s1 rfl
  refine ⟨fun dd hdd => ?_, cv, cu, q.2, ?_, hcv, (ht q hq).2, qq'⟩
  · obtain ⟨h1, h2, h3, h4, h5⟩ := s1
    subst hdd
    obtain ⟨hn, gs, eg, r⟩ := h5 (dd, xx.fs) (hT dd rfl)
    exact ⟨gs, eg⟩
  · rw [show v = _ from rv]
end
section
variable [EC : ErrCtx] {st : Sto} {ρ : Env'} {Q : DK} {Z : DZ} {E : DEnds} {te : DTE} {tb : DTS} {ts : Addr → DX → DTS} {m i : Nat} {ms : List Nat} {f : Str} {a : Addr} {x : DX}
@[simp] theorem s_raise1 : dRaise1 m f te E ρ st = te ρ st (fun y st1 => E.xs (errX m [(f, y)]) ρ st1) E.xs := rfl
@[simp] theorem s_raise0 : dRaise0 m E ρ st = E.xs (errX m []) ρ st := rfl
@[simp] theorem s_tryAs : dTryAs ms i tb ts E ρ st = tb { E with xs := fun x ρ1 st1 => Caught ms x ∧ ∀ a, ts a x { nx := fun ρ2 st2 => E.nx (ρ2.set i none) st2, rt := E.rt, bk := fun ρ2 st2 => E.bk (ρ2.set i none) st2, ct := fun ρ2 st2 => E.ct (ρ2.set i none) st2 } (ρ1.set i (some (.adr a))) st1 } ρ st := rfl
@[simp] theorem s_tryOnly : dTryOnly ms tb ts E ρ st = tb { E with xs := fun x ρ1 st1 => Caught ms x ∧ ∀ a, ts a x { nx := E.nx, rt := E.rt, bk := E.bk, ct := E.ct } ρ1 st1 } ρ st := rfl
@[simp] theorem s_xf {n : Str} : dXf a x m n te ρ st Q Z = te ρ st (fun y st1 => y = .adr a ∧ x.cls = .ref (errA m) ∧ ∃ v, x.fs.lookup n = some v ∧ Q v st1) Z := rfl
@[simp] theorem s_xi {tbl : List (Nat × Bool)} : dXi a x tbl te ρ st Q Z = ∃ p ∈ tbl, x.cls = .ref (errA p.1) ∧ te ρ st (fun y st1 => y = .adr a ∧ Q (.bl p.2) st1) Z := rfl
@[simp] theorem errX_cls {fs : List (Str × D)} : (errX m fs).cls = .ref (errA m) := rfl
@[simp] theorem errX_fs {fs : List (Str × D)} : (errX m fs).fs = fs := rfl
theorem all_cons {α : Type} {P : α → Prop} {a : α} {as : List α} (h : P a) (hs : ∀ q ∈ as, P q) : ∀ q ∈ a :: as, P q := fun q hq => by
  rcases List.mem_cons.mp hq with e | hq
  · rw [e]; exact h
  · exact hs q hq
theorem caught {fs : List (Str × D)} (h : m ∈ ms) : Caught ms (errX m fs) := ⟨m, h, rfl⟩
end
end DL
namespace RD
open PySem L2 PySem.Spec DL
open PyProof.Rows hiding St
abbrev N_read_range : List Str := ["text", "found", "many", "alternative", "missing", "part", "rng"]
def b_read_range_1 [ErrCtx] (s_stretched : DSp) (s_outside : DSp) (s_told_part : DSp) : DTS := (dSeq (dAsg (dCall 1 s_told_part (dCons (dVar 5) dNil)) (gN 6))
    (dSeq (dIfS (dTest (dOp (dIsN id) (dVar 6) (dC (.non)))) (dRaise1 1 "index" (dVar 2)) dNext)
    (dSeq (dDrop (dBM "list" dExtendA (dVar 4) (dCons (dCall 1 s_outside (dCons (dVar 6) dNil)) dNil)))
    (dAug 2 (dC (.int 1)) dAddI))))
def b_read_range_2 [ErrCtx] (s_stretched : DSp) (s_outside : DSp) (s_told_part : DSp) : DTS := (dSeq (dAsg (dLst dNil) (gN 4))
    (dSeq (dFor (iD (dBM "str" dSplit (dVar 3) (dCons (dC (.str ", ")) dNil))) (gN 5) (b_read_range_1 s_stretched s_outside s_told_part))
    (dDrop (dBM "list" dExtendA (dVar 1) (dCons (dCall 1 s_outside (dCons (dCall 1 s_stretched (dCons (dVar 4) dNil)) dNil)) dNil)))))
def t_read_range [ErrCtx] (s_stretched : DSp) (s_outside : DSp) (s_told_part : DSp) : DTS := (dSeq (dIfS (dNot (dTru (dIsi (dVar 0) ["str"]))) (dRaise1 1 "index" (dUn dNegV (dC (.int 1)))) dNext)
    (dSeq (dAsg (dLst dNil) (gN 1))
    (dSeq (dAsg (dC (.int 0)) (gN 2))
    (dSeq (dFor (iD (dBM "str" dSplit (dVar 0) (dCons (dC (.str " | ")) dNil))) (gN 3) (b_read_range_2 s_stretched s_outside s_told_part))
    (dRet (dCall 1 s_stretched (dCons (dVar 1) dNil)))))))
abbrev N__law_read_number : List Str := ["text", "sign"]
def e__law_read_number_1 : DTE := (dOp dInC (dVar 1) (dC (.str "0123456789")))
def t__law_read_number : DTS := (dSeq (dIfS (dOr (dTest (dOp dEq (dVar 0) (dC (.str "")))) (dOr (dNot (dTru (dCB dAll (dCons (dLc (iD (dVar 0)) (gN 1) dYes (e__law_read_number_1) [1]) dNil)))) (dTest (dOp dGt (dCB dLen (dCons (dVar 0) dNil)) (dC (.int 7)))))) (dRet (dC (.non))) dNext)
    (dSeq (dIfS (dOr (dAnd (dTest (dOp dGt (dCB dLen (dCons (dVar 0) dNil)) (dC (.int 1)))) (dTest (dOp dEq (dOp dIx (dVar 0) (dC (.int 0))) (dC (.str "0"))))) (dTest (dOp dGt (dCB dIntS (dCons (dVar 0) dNil)) (dC (.int 1000000))))) (dRet (dC (.non))) dNext)
    (dRet (dCB dIntS (dCons (dVar 0) dNil)))))
abbrev N__law_told : List Str := ["text", "found", "e"]
def b__law_told_1 [ErrCtx] (s_read_range : DSp) : DTS := (dDrop (dCall 1 s_read_range (dCons (dVar 0) dNil)))
def s__law_told_2 [ErrCtx] (s_read_range : DSp) : Addr → DX → DTS := fun a x => (dAsg (dIf (dAnd (dTru (dXi a x [(1, true)] (dVar 2))) (dTru (dXi a x [(1, true)] (dVar 2)))) (dXf a x 1 "index" (dVar 2)) (dC (.str "odd"))) (gN 1))
def t__law_told [ErrCtx] (s_read_range : DSp) : DTS := (dSeq (dAsg (dC (.non)) (gN 1))
    (dSeq (dTryAs [1] 2 (b__law_told_1 s_read_range) ((s__law_told_2 s_read_range)))
    (dRet (dVar 1))))
end RD
namespace Lk03
open PySem L2 PySem.Spec DL
open PyProof.Rows hiding St
def topS (i : Nat) : Stmt := PySem.Challenge.pw_lockwright_k03_first_wrong_parts_of_rang.main.body.getD i (.Pass ⟨0, 0, 0, 0⟩)
abbrev S_is_integer : Stmt := topS 4
abbrev N_is_integer : List Str := RD.N_is_integer
theorem sc_is_integer : FnScope N_is_integer ["thing"] (defScope S_is_integer) := ⟨rfl, rfl, rfl, by decide +kernel, rfl, by decide +kernel, by decide +kernel⟩
abbrev S_is_number : Stmt := topS 5
abbrev N_is_number : List Str := RD.N_is_number
theorem sc_is_number : FnScope N_is_number ["thing"] (defScope S_is_number) := ⟨rfl, rfl, rfl, by decide +kernel, rfl, by decide +kernel, by decide +kernel⟩
abbrev S_is_tuple_of : Stmt := topS 6
abbrev N_is_tuple_of : List Str := RD.N_is_tuple_of
theorem sc_is_tuple_of : FnScope N_is_tuple_of ["many", "thing"] (defScope S_is_tuple_of) := ⟨rfl, rfl, rfl, by decide +kernel, rfl, by decide +kernel, by decide +kernel⟩
abbrev S_is_version : Stmt := topS 13
abbrev N_is_version : List Str := RD.N_is_version
theorem sc_is_version : FnScope N_is_version ["thing"] (defScope S_is_version) := ⟨rfl, rfl, rfl, by decide +kernel, rfl, by decide +kernel, by decide +kernel⟩
abbrev S_is_stretch : Stmt := topS 14
abbrev N_is_stretch : List Str := RD.N_is_stretch
theorem sc_is_stretch : FnScope N_is_stretch ["thing"] (defScope S_is_stretch) := ⟨rfl, rfl, rfl, by decide +kernel, rfl, by decide +kernel, by decide +kernel⟩
abbrev S_is_range : Stmt := topS 15
abbrev N_is_range : List Str := RD.N_is_range
theorem sc_is_range : FnScope N_is_range ["thing"] (defScope S_is_range) := ⟨rfl, rfl, rfl, by decide +kernel, rfl, by decide +kernel, by decide +kernel⟩
abbrev S_reaches : Stmt := topS 16
abbrev N_reaches : List Str := RD.N_reaches
theorem sc_reaches : FnScope N_reaches ["high", "low"] (defScope S_reaches) := ⟨rfl, rfl, rfl, by decide +kernel, rfl, by decide +kernel, by decide +kernel⟩
abbrev S_later_end : Stmt := topS 17
abbrev N_later_end : List Str := RD.N_later_end
theorem sc_later_end : FnScope N_later_end ["one", "other"] (defScope S_later_end) := ⟨rfl, rfl, rfl, by decide +kernel, rfl, by decide +kernel, by decide +kernel⟩
abbrev S_stretched : Stmt := topS 18
abbrev N_stretched : List Str := RD.N_stretched
theorem sc_stretched : FnScope N_stretched ["pairs"] (defScope S_stretched) := ⟨rfl, rfl, rfl, by decide +kernel, rfl, by decide +kernel, by decide +kernel⟩
abbrev S_outside : Stmt := topS 19
abbrev N_outside : List Str := RD.N_outside
theorem sc_outside : FnScope N_outside ["rng"] (defScope S_outside) := ⟨rfl, rfl, rfl, by decide +kernel, rfl, by decide +kernel, by decide +kernel⟩
abbrev S_version_behind : Stmt := topS 20
abbrev N_version_behind : List Str := RD.N_version_behind
theorem sc_version_behind : FnScope N_version_behind ["version"] (defScope S_version_behind) := ⟨rfl, rfl, rfl, by decide +kernel, rfl, by decide +kernel, by decide +kernel⟩
abbrev S_told_number : Stmt := topS 21
abbrev N_told_number : List Str := RD.N_told_number
theorem sc_told_number : FnScope N_told_number ["digits", "text"] (defScope S_told_number) := ⟨rfl, rfl, rfl, by decide +kernel, rfl, by decide +kernel, by decide +kernel⟩
abbrev S_told_version : Stmt := topS 22
abbrev N_told_version : List Str := RD.N_told_version
theorem sc_told_version : FnScope N_told_version ["text"] (defScope S_told_version) := ⟨rfl, rfl, rfl, by decide +kernel, rfl, by decide +kernel, by decide +kernel⟩
abbrev S_caret_end : Stmt := topS 23
abbrev N_caret_end : List Str := RD.N_caret_end
theorem sc_caret_end : FnScope N_caret_end ["version"] (defScope S_caret_end) := ⟨rfl, rfl, rfl, by decide +kernel, rfl, by decide +kernel, by decide +kernel⟩
abbrev S_range_of_sign : Stmt := topS 24
abbrev N_range_of_sign : List Str := RD.N_range_of_sign
theorem sc_range_of_sign : FnScope N_range_of_sign ["sign", "version"] (defScope S_range_of_sign) := ⟨rfl, rfl, rfl, by decide +kernel, rfl, by decide +kernel, by decide +kernel⟩
abbrev S_sign_of : Stmt := topS 25
abbrev N_sign_of : List Str := RD.N_sign_of
theorem sc_sign_of : FnScope N_sign_of ["part"] (defScope S_sign_of) := ⟨rfl, rfl, rfl, by decide +kernel, rfl, by decide +kernel, by decide +kernel⟩
abbrev S_told_part : Stmt := topS 26
abbrev N_told_part : List Str := RD.N_told_part
theorem sc_told_part : FnScope N_told_part ["part"] (defScope S_told_part) := ⟨rfl, rfl, rfl, by decide +kernel, rfl, by decide +kernel, by decide +kernel⟩
abbrev S_read_range : Stmt := topS 27
abbrev N_read_range : List Str := RD.N_read_range
theorem sc_read_range : FnScope N_read_range ["text"] (defScope S_read_range) := ⟨rfl, rfl, rfl, by decide +kernel, rfl, by decide +kernel, by decide +kernel⟩
abbrev S__law_hand : Stmt := topS 29
abbrev N__law_hand : List Str := RD.N__law_hand
theorem sc__law_hand : FnScope N__law_hand ["script"] (defScope S__law_hand) := ⟨rfl, rfl, rfl, by decide +kernel, rfl, by decide +kernel, by decide +kernel⟩
abbrev S__law_draw : Stmt := topS 30
abbrev N__law_draw : List Str := RD.N__law_draw
theorem sc__law_draw : FnScope N__law_draw ["hand", "many"] (defScope S__law_draw) := ⟨rfl, rfl, rfl, by decide +kernel, rfl, by decide +kernel, by decide +kernel⟩
abbrev S__law_some : Stmt := topS 31
abbrev N__law_some : List Str := RD.N__law_some
theorem sc__law_some : FnScope N__law_some ["hand", "things"] (defScope S__law_some) := ⟨rfl, rfl, rfl, by decide +kernel, rfl, by decide +kernel, by decide +kernel⟩
abbrev S__law_is : Stmt := topS 32
abbrev N__law_is : List Str := RD.N__law_is
theorem sc__law_is : FnScope N__law_is ["told", "due"] (defScope S__law_is) := ⟨rfl, rfl, rfl, by decide +kernel, rfl, by decide +kernel, by decide +kernel⟩
abbrev S__law_deep : Stmt := topS 33
abbrev N__law_deep : List Str := RD.N__law_deep
theorem sc__law_deep : FnScope N__law_deep ["kind"] (defScope S__law_deep) := ⟨rfl, rfl, rfl, by decide +kernel, rfl, by decide +kernel, by decide +kernel⟩
abbrev S__law_version : Stmt := topS 34
abbrev N__law_version : List Str := RD.N__law_version
theorem sc__law_version : FnScope N__law_version ["hand"] (defScope S__law_version) := ⟨rfl, rfl, rfl, by decide +kernel, rfl, by decide +kernel, by decide +kernel⟩
abbrev S__law_behind : Stmt := topS 35
abbrev N__law_behind : List Str := RD.N__law_behind
theorem sc__law_behind : FnScope N__law_behind ["version"] (defScope S__law_behind) := ⟨rfl, rfl, rfl, by decide +kernel, rfl, by decide +kernel, by decide +kernel⟩
abbrev S__law_has : Stmt := topS 36
abbrev N__law_has : List Str := RD.N__law_has
theorem sc__law_has : FnScope N__law_has ["rng", "version"] (defScope S__law_has) := ⟨rfl, rfl, rfl, by decide +kernel, rfl, by decide +kernel, by decide +kernel⟩
abbrev S__law_marks : Stmt := topS 37
abbrev N__law_marks : List Str := RD.N__law_marks
theorem sc__law_marks : FnScope N__law_marks ["ranges"] (defScope S__law_marks) := ⟨rfl, rfl, rfl, by decide +kernel, rfl, by decide +kernel, by decide +kernel⟩
abbrev S__law_made : Stmt := topS 38
abbrev N__law_made : List Str := RD.N__law_made
theorem sc__law_made : FnScope N__law_made ["marks", "flags"] (defScope S__law_made) := ⟨rfl, rfl, rfl, by decide +kernel, rfl, by decide +kernel, by decide +kernel⟩
abbrev S__law_outside : Stmt := topS 39
abbrev N__law_outside : List Str := RD.N__law_outside
theorem sc__law_outside : FnScope N__law_outside ["rng"] (defScope S__law_outside) := ⟨rfl, rfl, rfl, by decide +kernel, rfl, by decide +kernel, by decide +kernel⟩
abbrev S__law_version_text : Stmt := topS 40
abbrev N__law_version_text : List Str := RD.N__law_version_text
theorem sc__law_version_text : FnScope N__law_version_text ["version"] (defScope S__law_version_text) := ⟨rfl, rfl, rfl, by decide +kernel, rfl, by decide +kernel, by decide +kernel⟩
abbrev S__law_part_text : Stmt := topS 41
abbrev N__law_part_text : List Str := RD.N__law_part_text
theorem sc__law_part_text : FnScope N__law_part_text ["word", "version"] (defScope S__law_part_text) := ⟨rfl, rfl, rfl, by decide +kernel, rfl, by decide +kernel, by decide +kernel⟩
abbrev S__law_part : Stmt := topS 42
abbrev N__law_part : List Str := RD.N__law_part
theorem sc__law_part : FnScope N__law_part ["word", "version"] (defScope S__law_part) := ⟨rfl, rfl, rfl, by decide +kernel, rfl, by decide +kernel, by decide +kernel⟩
abbrev S__law_words : Stmt := topS 43
abbrev N__law_words : List Str := RD.N__law_words
theorem sc__law_words : FnScope N__law_words ["hand"] (defScope S__law_words) := ⟨rfl, rfl, rfl, by decide +kernel, rfl, by decide +kernel, by decide +kernel⟩
abbrev S__law_read_number : Stmt := topS 44
abbrev N__law_read_number : List Str := RD.N__law_read_number
theorem sc__law_read_number : FnScope N__law_read_number ["text"] (defScope S__law_read_number) := ⟨rfl, rfl, rfl, by decide +kernel, rfl, by decide +kernel, by decide +kernel⟩
abbrev S__law_is_part_text : Stmt := topS 45
abbrev N__law_is_part_text : List Str := RD.N__law_is_part_text
theorem sc__law_is_part_text : FnScope N__law_is_part_text ["text"] (defScope S__law_is_part_text) := ⟨rfl, rfl, rfl, by decide +kernel, rfl, by decide +kernel, by decide +kernel⟩
abbrev S__law_due : Stmt := topS 46
abbrev N__law_due : List Str := RD.N__law_due
theorem sc__law_due : FnScope N__law_due ["text"] (defScope S__law_due) := ⟨rfl, rfl, rfl, by decide +kernel, rfl, by decide +kernel, by decide +kernel⟩
abbrev S__law_told : Stmt := topS 47
abbrev N__law_told : List Str := RD.N__law_told
theorem sc__law_told : FnScope N__law_told ["text"] (defScope S__law_told) := ⟨rfl, rfl, rfl, by decide +kernel, rfl, by decide +kernel, by decide +kernel⟩
abbrev S__law_bent : Stmt := topS 48
abbrev N__law_bent : List Str := RD.N__law_bent
theorem sc__law_bent : FnScope N__law_bent ["hand", "text"] (defScope S__law_bent) := ⟨rfl, rfl, rfl, by decide +kernel, rfl, by decide +kernel, by decide +kernel⟩
abbrev S_law : Stmt := topS 49
abbrev N_law : List Str := RD.N_law_k03
theorem sc_law : FnScope N_law ["script"] (defScope S_law) := ⟨rfl, rfl, rfl, by decide +kernel, rfl, by decide +kernel, by decide +kernel⟩
abbrev SI_BadText : Stmt := mthS (topS 2) 0
theorem sci_BadText : FnScope ["self", "index"] ["self", "index"] (defScope SI_BadText) := ⟨rfl, rfl, rfl, by decide +kernel, rfl, by decide +kernel, by decide +kernel⟩
structure Glob [ErrCtx] (K : PySem.W.Frag) (mg : Str → Option Value) (c_stretched : Addr) : Prop where
  g_BadText : mg "BadText" = some (.ref (errA 1))
  g_LockError : mg "LockError" = some (.ref (errA 0))
  xm_BadText_BadText : PySem.W.exmOne K (.ref (errA 1)) (.ref (errA 1)) = some true
  ef_BadText : ErF K 1
  no_BadText : PySem.W.findIn K (.ref (errA 1)) "index" = some none
  kt_BadText_LockError : PySem.W.kitOne K (.ref (errA 1)) (.ref (errA 0)) = some true
  kt_BadText_ValueError : PySem.W.kitOne K (.ref (errA 1)) (.type "ValueError") = some true
  d_is_integer : DefIn K mg "is_integer" S_is_integer ["thing"]
  d_is_number : DefIn K mg "is_number" S_is_number ["thing"]
  d_is_tuple_of : DefIn K mg "is_tuple_of" S_is_tuple_of ["many", "thing"]
  d_is_version : DefIn K mg "is_version" S_is_version ["thing"]
  d_is_stretch : DefIn K mg "is_stretch" S_is_stretch ["thing"]
  d_is_range : DefIn K mg "is_range" S_is_range ["thing"]
  d_reaches : DefIn K mg "reaches" S_reaches ["high", "low"]
  d_later_end : DefIn K mg "later_end" S_later_end ["one", "other"]
  d_stretched : DefInC K mg "stretched" S_stretched ["pairs"] c_stretched
  d_outside : DefIn K mg "outside" S_outside ["rng"]
  d_version_behind : DefIn K mg "version_behind" S_version_behind ["version"]
  d_told_number : DefIn K mg "told_number" S_told_number ["digits", "text"]
  d_told_version : DefIn K mg "told_version" S_told_version ["text"]
  d_caret_end : DefIn K mg "caret_end" S_caret_end ["version"]
  d_range_of_sign : DefIn K mg "range_of_sign" S_range_of_sign ["sign", "version"]
  d_sign_of : DefIn K mg "sign_of" S_sign_of ["part"]
  d_told_part : DefIn K mg "told_part" S_told_part ["part"]
  d_read_range : DefIn K mg "read_range" S_read_range ["text"]
  d__law_hand : DefIn K mg "_law_hand" S__law_hand ["script"]
  d__law_draw : DefIn K mg "_law_draw" S__law_draw ["hand", "many"]
  d__law_some : DefIn K mg "_law_some" S__law_some ["hand", "things"]
  d__law_is : DefIn K mg "_law_is" S__law_is ["told", "due"]
  d__law_deep : DefIn K mg "_law_deep" S__law_deep ["kind"]
  d__law_version : DefIn K mg "_law_version" S__law_version ["hand"]
  d__law_behind : DefIn K mg "_law_behind" S__law_behind ["version"]
  d__law_has : DefIn K mg "_law_has" S__law_has ["rng", "version"]
  d__law_marks : DefIn K mg "_law_marks" S__law_marks ["ranges"]
  d__law_made : DefIn K mg "_law_made" S__law_made ["marks", "flags"]
  d__law_outside : DefIn K mg "_law_outside" S__law_outside ["rng"]
  d__law_version_text : DefIn K mg "_law_version_text" S__law_version_text ["version"]
  d__law_part_text : DefIn K mg "_law_part_text" S__law_part_text ["word", "version"]
  d__law_part : DefIn K mg "_law_part" S__law_part ["word", "version"]
  d__law_words : DefIn K mg "_law_words" S__law_words ["hand"]
  d__law_read_number : DefIn K mg "_law_read_number" S__law_read_number ["text"]
  d__law_is_part_text : DefIn K mg "_law_is_part_text" S__law_is_part_text ["text"]
  d__law_due : DefIn K mg "_law_due" S__law_due ["text"]
  d__law_told : DefIn K mg "_law_told" S__law_told ["text"]
  d__law_bent : DefIn K mg "_law_bent" S__law_bent ["hand", "text"]
  d_law : DefIn K mg "law" S_law ["script"]
  z_ValueError : mg "ValueError" = none
  z_abs : mg "abs" = none
  z_all : mg "all" = none
  z_bool : mg "bool" = none
  z_dict : mg "dict" = none
  z_enumerate : mg "enumerate" = none
  z_int : mg "int" = none
  z_isinstance : mg "isinstance" = none
  z_len : mg "len" = none
  z_list : mg "list" = none
  z_max : mg "max" = none
  z_range : mg "range" = none
  z_set : mg "set" = none
  z_sorted : mg "sorted" = none
  z_str : mg "str" = none
  z_tuple : mg "tuple" = none
  c_NUMBER_MOST : Cst K mg "NUMBER_MOST" (.int 1000000)
  c_NUMBER_DIGITS : Cst K mg "NUMBER_DIGITS" (.int 7)
  c_LEAST : Cst K mg "LEAST" (.tup [.int 0, .int 0, .int 0])
  c_EVERY : Cst K mg "EVERY" (.tup [.tup [.tup [.int 0, .int 0, .int 0], .non]])
  c_SIGNS : Cst K mg "SIGNS" (.tup [.str "<=", .str ">=", .str "<", .str ">", .str "!", .str "^", .str "~"])
section
variable [TC : TabCtx] [EC : ErrCtx] {P : Program} {w : World} {K : PySem.W.Frag} {mg : Str → Option Value} {base : Heap} {k : Nat} {c_stretched p_stretched : Addr}
theorem h_is_integer {dsp : DSp} (G : Glob K mg c_stretched) (hd : Rd 1 dsp (RD.t_is_integer) N_is_integer) : Has P w K mg base (k + 1) "is_integer" 1 dsp :=
  has_mk G.d_is_integer sc_is_integer rfl fun f cdv A outer s0 H E hr => by
    have hu := hr.units
    have hu1 : _ + 1 < cLine := Nat.lt_of_le_of_lt (Nat.add_le_add_left (by decide : 1 ≤ 64) _) hu
    exact ⟨RD.t_is_integer, (dss_one (ds_ret (de_and (de_isi (by rfl) G.z_isinstance (dv 0) (pe_ty (by rfl) G.z_int PyProof.Rows.boot_int)) (de_one (de_not (de_isi (by rfl) G.z_isinstance (dv 0) (pe_ty (by rfl) G.z_bool PyProof.Rows.boot_bool))))))), hd⟩
theorem h_is_number {dsp : DSp} {s_is_integer : DSp} (G : Glob K mg c_stretched) (H_is_integer : Has P w K mg base k "is_integer" 1 s_is_integer) (hd : Rd 1 dsp (RD.t_is_number s_is_integer) N_is_number) : Has P w K mg base (k + 1) "is_number" 1 dsp :=
  has_mk G.d_is_number sc_is_number rfl fun f cdv A outer s0 H E hr => by
    have hu := hr.units
    have hu1 : _ + 1 < cLine := Nat.lt_of_le_of_lt (Nat.add_le_add_left (by decide : 1 ≤ 64) _) hu
    exact ⟨RD.t_is_number s_is_integer, (dss_one (ds_ret (de_and (de_call H_is_integer hr (by rfl) (pasT (takes_of rfl rfl rfl rfl)) (da_cons (dv 0) da_nil)) (de_one (de_cm (cm_ge hu) (nomark _) (dv 0) de_int))))), hd⟩
theorem h_is_tuple_of {dsp : DSp} (G : Glob K mg c_stretched) (hd : Rd 2 dsp (RD.t_is_tuple_of) N_is_tuple_of) : Has P w K mg base (k + 1) "is_tuple_of" 2 dsp :=
  has_mk G.d_is_tuple_of sc_is_tuple_of rfl fun f cdv A outer s0 H E hr => by
    have hu := hr.units
    have hu1 : _ + 1 < cLine := Nat.lt_of_le_of_lt (Nat.add_le_add_left (by decide : 1 ≤ 64) _) hu
    exact ⟨RD.t_is_tuple_of, (dss_one (ds_ret (de_and (de_isi (by rfl) G.z_isinstance (dv 1) (pe_ty (by rfl) G.z_tuple PyProof.Rows.boot_tuple)) (de_one (de_cm (cm_eq hu) (nomark _) (de_len (by rfl) G.z_len (da_cons (dv 1) da_nil)) (dv 0)))))), hd⟩
theorem h_is_version {dsp : DSp} {s_is_number : DSp} {s_is_tuple_of : DSp} (G : Glob K mg c_stretched) (H_is_number : Has P w K mg base k "is_number" 1 s_is_number) (H_is_tuple_of : Has P w K mg base k "is_tuple_of" 2 s_is_tuple_of) (hd : Rd 1 dsp (RD.t_is_version s_is_number s_is_tuple_of) N_is_version) : Has P w K mg base (k + 1) "is_version" 1 dsp :=
  has_mk G.d_is_version sc_is_version rfl fun f cdv A outer s0 H E hr => by
    have hu := hr.units
    have hu1 : _ + 1 < cLine := Nat.lt_of_le_of_lt (Nat.add_le_add_left (by decide : 1 ≤ 64) _) hu
    exact ⟨RD.t_is_version s_is_number s_is_tuple_of, (dss_cons (ds_if (dt_not (dt_tru (de_call H_is_tuple_of hr (by rfl) (pasT (takes_of rfl rfl rfl rfl)) (da_cons de_int (da_cons (dv 0) da_nil))))) (dss_one (ds_ret de_bl)) dss_nil)
      (dss_cons (ds_for (passes_of rfl) rfl (di_seq (dv 0)) (dg_name (i := 1) sc_is_version.nd rfl (by first | exact .inl rfl | exact .inr rfl)) (dss_one (ds_if (dw_pt (dw_or (dt_not (dt_tru (de_call H_is_number hr (by rfl) (pasT (takes_of rfl rfl rfl rfl)) (da_cons (dv 1) da_nil)))) (dw_or1 (dt_cm (cm_gt hu) (nomark _) (dv 1) (de_cst (by rfl) G.c_NUMBER_MOST))))) (dss_one (ds_ret de_bl)) dss_nil)))
      (dss_one (ds_ret de_bl)))), hd⟩
theorem h_is_stretch {dsp : DSp} {s_is_tuple_of : DSp} {s_is_version : DSp} (G : Glob K mg c_stretched) (H_is_tuple_of : Has P w K mg base k "is_tuple_of" 2 s_is_tuple_of) (H_is_version : Has P w K mg base k "is_version" 1 s_is_version) (hd : Rd 1 dsp (RD.t_is_stretch s_is_tuple_of s_is_version) N_is_stretch) : Has P w K mg base (k + 1) "is_stretch" 1 dsp :=
  has_mk G.d_is_stretch sc_is_stretch rfl fun f cdv A outer s0 H E hr => by
    have hu := hr.units
    have hu1 : _ + 1 < cLine := Nat.lt_of_le_of_lt (Nat.add_le_add_left (by decide : 1 ≤ 64) _) hu
    exact ⟨RD.t_is_stretch s_is_tuple_of s_is_version, (dss_cons (ds_if (dt_not (dt_tru (de_call H_is_tuple_of hr (by rfl) (pasT (takes_of rfl rfl rfl rfl)) (da_cons de_int (da_cons (dv 0) da_nil))))) (dss_one (ds_ret de_bl)) dss_nil)
      (dss_cons (ds_asg (dv 0) (dg_tup (n := 2) rfl (dgs_cons (dg_name (i := 1) sc_is_stretch.nd rfl (by first | exact .inl rfl | exact .inr rfl)) (dgs_cons (dg_name (i := 2) sc_is_stretch.nd rfl (by first | exact .inl rfl | exact .inr rfl)) dgs_nil))))
      (dss_cons (ds_if (dt_not (dt_tru (de_call H_is_version hr (by rfl) (pasT (takes_of rfl rfl rfl rfl)) (da_cons (dv 1) da_nil)))) (dss_one (ds_ret de_bl)) dss_nil)
      (dss_one (ds_ret (de_or (de_cm cm_is (nomark _) (dv 2) de_non) (de_one (de_and (de_call H_is_version hr (by rfl) (pasT (takes_of rfl rfl rfl rfl)) (da_cons (dv 2) da_nil)) (de_one (de_cm (cm_lt hu) (nomark _) (dv 1) (dv 2))))))))))), hd⟩
theorem h_is_range {dsp : DSp} {s_is_stretch : DSp} {s_reaches : DSp} (G : Glob K mg c_stretched) (H_is_stretch : Has P w K mg base k "is_stretch" 1 s_is_stretch) (H_reaches : Has P w K mg base k "reaches" 2 s_reaches) (hd : Rd 1 dsp (RD.t_is_range s_is_stretch s_reaches) N_is_range) : Has P w K mg base (k + 1) "is_range" 1 dsp :=
  has_mk G.d_is_range sc_is_range rfl fun f cdv A outer s0 H E hr => by
    have hu := hr.units
    have hu1 : _ + 1 < cLine := Nat.lt_of_le_of_lt (Nat.add_le_add_left (by decide : 1 ≤ 64) _) hu
    exact ⟨RD.t_is_range s_is_stretch s_reaches, (dss_cons (ds_if (dt_not (dt_tru (de_isi (by rfl) G.z_isinstance (dv 0) (pe_ty (by rfl) G.z_tuple PyProof.Rows.boot_tuple)))) (dss_one (ds_ret de_bl)) dss_nil)
      (dss_cons (ds_for (passes_of rfl) rfl (di_enum (by rfl) G.z_enumerate (da_cons (dv 0) da_nil)) (dg_tup (n := 2) rfl (dgs_cons (dg_name (i := 1) sc_is_range.nd rfl (by first | exact .inl rfl | exact .inr rfl)) (dgs_cons (dg_name (i := 2) sc_is_range.nd rfl (by first | exact .inl rfl | exact .inr rfl)) dgs_nil))) (dss_cons (ds_if (dt_not (dt_tru (de_call H_is_stretch hr (by rfl) (pasT (takes_of rfl rfl rfl rfl)) (da_cons (dv 2) da_nil)))) (dss_one (ds_ret de_bl)) dss_nil)
      (dss_one (ds_if (dw_pt (dw_and (dt_cm (cm_gt hu) (nomark _) (dv 1) de_int) (dw_and1 (dt_tru (de_call H_reaches hr (by rfl) (pasT (takes_of rfl rfl rfl rfl)) (da_cons (de_ix (de_ix (dv 0) (de_sub (dv 1) de_int)) de_int) (da_cons (de_ix (dv 2) de_int) da_nil))))))) (dss_one (ds_ret de_bl)) dss_nil))))
      (dss_one (ds_ret de_bl)))), hd⟩
theorem h_reaches {dsp : DSp} (G : Glob K mg c_stretched) (hd : Rd 2 dsp (RD.t_reaches) N_reaches) : Has P w K mg base (k + 1) "reaches" 2 dsp :=
  has_mk G.d_reaches sc_reaches rfl fun f cdv A outer s0 H E hr => by
    have hu := hr.units
    have hu1 : _ + 1 < cLine := Nat.lt_of_le_of_lt (Nat.add_le_add_left (by decide : 1 ≤ 64) _) hu
    exact ⟨RD.t_reaches, (dss_one (ds_ret (de_or (de_cm cm_is (nomark _) (dv 0) de_non) (de_one (de_cm (cm_le hu) (nomark _) (dv 1) (dv 0)))))), hd⟩
theorem h_later_end {dsp : DSp} (G : Glob K mg c_stretched) (hd : Rd 2 dsp (RD.t_later_end) N_later_end) : Has P w K mg base (k + 1) "later_end" 2 dsp :=
  has_mk G.d_later_end sc_later_end rfl fun f cdv A outer s0 H E hr => by
    have hu := hr.units
    have hu1 : _ + 1 < cLine := Nat.lt_of_le_of_lt (Nat.add_le_add_left (by decide : 1 ≤ 64) _) hu
    exact ⟨RD.t_later_end, (dss_cons (ds_if (dw_pt (dw_or (dt_cm cm_is (nomark _) (dv 0) de_non) (dw_or1 (dt_cm cm_is (nomark _) (dv 1) de_non)))) (dss_one (ds_ret de_non)) dss_nil)
      (dss_one (ds_ret (de_max2 rfl hu (by rfl) G.z_max (da_cons (dv 0) (da_cons (dv 1) da_nil)))))), hd⟩
theorem h_stretched {dsp : DSp} {s_reaches : DSp} {s_later_end : DSp} (G : Glob K mg c_stretched) (H_reaches : Has P w K mg base k "reaches" 2 s_reaches) (H_later_end : Has P w K mg base k "later_end" 2 s_later_end) (TB : LamX.TabB base mg c_stretched p_stretched) (hmT : (p_stretched, Str.ofString "stretched" ++ ".<locals>." ++ "<lambda>") ∈ TC.T) (hun : ∀ p ∈ TC.T, p.1 = p_stretched → p.2 = Str.ofString "stretched" ++ ".<locals>." ++ "<lambda>") (hd : Rd 1 dsp (RD.t_stretched s_reaches s_later_end) N_stretched) : Has P w K mg base (k + 1) "stretched" 1 dsp :=
  has_mkC G.d_stretched sc_stretched rfl fun f A outer s0 H E hr => by
    have hu := hr.units
    have hu1 : _ + 1 < cLine := Nat.lt_of_le_of_lt (Nat.add_le_add_left (by decide : 1 ≤ 64) _) hu
    exact ⟨RD.t_stretched s_reaches s_later_end, (dss_cons (ds_set (i := 1) sc_stretched.nd rfl (by first | exact .inl rfl | exact .inr rfl) (de_lst da_nil))
      (dss_cons (ds_for (passes_of rfl) rfl (di_seq (de_sortK hr.depth hu (by rfl) G.z_sorted TB rfl hmT hun (da_cons (dv 0) da_nil))) (dg_tup (n := 2) rfl (dgs_cons (dg_name (i := 2) sc_stretched.nd rfl (by first | exact .inl rfl | exact .inr rfl)) (dgs_cons (dg_name (i := 3) sc_stretched.nd rfl (by first | exact .inl rfl | exact .inr rfl)) dgs_nil))) (dss_one (ds_if (dw_pt (dw_and (dt_tru (dv 1)) (dw_and1 (dt_tru (de_call H_reaches hr (by rfl) (pasT (takes_of rfl rfl rfl rfl)) (da_cons (de_ix (de_ix (dv 1) (de_neg de_int)) de_int) (da_cons (dv 2) da_nil))))))) (dss_cons (ds_asg (de_ix (dv 1) (de_neg de_int)) (dg_tup (n := 2) rfl (dgs_cons (dg_name (i := 4) sc_stretched.nd rfl (by first | exact .inl rfl | exact .inr rfl)) (dgs_cons (dg_name (i := 5) sc_stretched.nd rfl (by first | exact .inl rfl | exact .inr rfl)) dgs_nil))))
      (dss_one (ds_asg (de_tup (da_cons (dv 4) (da_cons (de_call H_later_end hr (by rfl) (pasT (takes_of rfl rfl rfl rfl)) (da_cons (dv 5) (da_cons (dv 3) da_nil))) da_nil))) (dg_sub (dv 1) (de_neg de_int) set_list setL_ok)))) (dss_one (ds_expr (de_append (dv 1) (da_cons (de_tup (da_cons (dv 2) (da_cons (dv 3) da_nil))) da_nil)))))))
      (dss_one (ds_ret (de_tuple (by rfl) G.z_tuple (da_cons (dv 1) da_nil)))))), hd⟩
theorem h_outside {dsp : DSp} (G : Glob K mg c_stretched) (hd : Rd 1 dsp (RD.t_outside) N_outside) : Has P w K mg base (k + 1) "outside" 1 dsp :=
  has_mk G.d_outside sc_outside rfl fun f cdv A outer s0 H E hr => by
    have hu := hr.units
    have hu1 : _ + 1 < cLine := Nat.lt_of_le_of_lt (Nat.add_le_add_left (by decide : 1 ≤ 64) _) hu
    exact ⟨RD.t_outside, (dss_cons (ds_set (i := 1) sc_outside.nd rfl (by first | exact .inl rfl | exact .inr rfl) (de_lst da_nil))
      (dss_cons (ds_set (i := 2) sc_outside.nd rfl (by first | exact .inl rfl | exact .inr rfl) (de_cst (by rfl) G.c_LEAST))
      (dss_cons (ds_for (passes_of rfl) rfl (di_seq (dv 0)) (dg_tup (n := 2) rfl (dgs_cons (dg_name (i := 3) sc_outside.nd rfl (by first | exact .inl rfl | exact .inr rfl)) (dgs_cons (dg_name (i := 4) sc_outside.nd rfl (by first | exact .inl rfl | exact .inr rfl)) dgs_nil))) (dss_cons (ds_if (dt_cm (cm_lt hu) (nomark _) (dv 2) (dv 3)) (dss_one (ds_expr (de_append (dv 1) (da_cons (de_tup (da_cons (dv 2) (da_cons (dv 3) da_nil))) da_nil)))) dss_nil)
      (dss_one (ds_set (i := 2) sc_outside.nd rfl (by first | exact .inl rfl | exact .inr rfl) (dv 4)))))
      (dss_cons (ds_if (dt_cm cm_isnot (nomark _) (dv 2) de_non) (dss_one (ds_expr (de_append (dv 1) (da_cons (de_tup (da_cons (dv 2) (da_cons de_non da_nil))) da_nil)))) dss_nil)
      (dss_one (ds_ret (de_tuple (by rfl) G.z_tuple (da_cons (dv 1) da_nil)))))))), hd⟩
theorem h_version_behind {dsp : DSp} (G : Glob K mg c_stretched) (hd : Rd 1 dsp (RD.t_version_behind) N_version_behind) : Has P w K mg base (k + 1) "version_behind" 1 dsp :=
  has_mk G.d_version_behind sc_version_behind rfl fun f cdv A outer s0 H E hr => by
    have hu := hr.units
    have hu1 : _ + 1 < cLine := Nat.lt_of_le_of_lt (Nat.add_le_add_left (by decide : 1 ≤ 64) _) hu
    exact ⟨RD.t_version_behind, (dss_cons (ds_asg (dv 0) (dg_tup (n := 3) rfl (dgs_cons (dg_name (i := 1) sc_version_behind.nd rfl (by first | exact .inl rfl | exact .inr rfl)) (dgs_cons (dg_name (i := 2) sc_version_behind.nd rfl (by first | exact .inl rfl | exact .inr rfl)) (dgs_cons (dg_name (i := 3) sc_version_behind.nd rfl (by first | exact .inl rfl | exact .inr rfl)) dgs_nil)))))
      (dss_one (ds_ret (de_tup (da_cons (dv 1) (da_cons (dv 2) (da_cons (de_add (dv 3) de_int) da_nil))))))), hd⟩
theorem h_told_number {dsp : DSp} (G : Glob K mg c_stretched) (hd : Rd 2 dsp (RD.t_told_number) N_told_number) : Has P w K mg base (k + 1) "told_number" 2 dsp :=
  has_mk G.d_told_number sc_told_number rfl fun f cdv A outer s0 H E hr => by
    have hu := hr.units
    have hu1 : _ + 1 < cLine := Nat.lt_of_le_of_lt (Nat.add_le_add_left (by decide : 1 ≤ 64) _) hu
    exact ⟨RD.t_told_number, (dss_cons (ds_if (dw_pt (dw_or (dt_cm (cm_gt hu) (nomark _) (de_len (by rfl) G.z_len (da_cons (dv 1) da_nil)) (dv 0)) (dw_or (dt_not (dt_tru (de_bm0 PySem.F.plainAttrs_str PySem.F.slot_str_isascii PySem.F.type_str_isascii mt_isascii str0_ok (dv 1)))) (dw_or1 (dt_not (dt_tru (de_bm0 PySem.F.plainAttrs_str PySem.F.slot_str_isdigit PySem.F.type_str_isdigit mt_isdigit str0_ok (dv 1)))))))) (dss_one (ds_ret de_non)) dss_nil)
      (dss_cons (ds_if (dw_pt (dw_and (dt_cm (cm_ne hu) (nomark _) (dv 1) de_str) (dw_and1 (dt_tru (de_bm PySem.F.plainAttrs_str PySem.F.slot_str_startswith PySem.F.type_str_startswith mt_startswith str1_ok (dv 1) (da_cons de_str da_nil)))))) (dss_one (ds_ret de_non)) dss_nil)
      (dss_one (ds_ret (de_intS (by rfl) G.z_int (da_cons (dv 1) da_nil)))))), hd⟩
theorem h_told_version {dsp : DSp} {s_is_version : DSp} {s_told_number : DSp} (G : Glob K mg c_stretched) (H_is_version : Has P w K mg base k "is_version" 1 s_is_version) (H_told_number : Has P w K mg base k "told_number" 2 s_told_number) (hd : Rd 1 dsp (RD.t_told_version s_is_version s_told_number) N_told_version) : Has P w K mg base (k + 1) "told_version" 1 dsp :=
  has_mk G.d_told_version sc_told_version rfl fun f cdv A outer s0 H E hr => by
    have hu := hr.units
    have hu1 : _ + 1 < cLine := Nat.lt_of_le_of_lt (Nat.add_le_add_left (by decide : 1 ≤ 64) _) hu
    exact ⟨RD.t_told_version s_is_version s_told_number, (dss_cons (ds_set (i := 1) sc_told_version.nd rfl (by first | exact .inl rfl | exact .inr rfl) (de_tuple (by rfl) G.z_tuple (da_cons (de_lc (own := [("word", 2)]) rfl sc_told_version.nd (di_seq (de_bm PySem.F.plainAttrs_str PySem.F.slot_str_split PySem.F.type_str_split mt_split split_ok (dv 0) (da_cons de_str da_nil))) (blkOk_by (N := N_told_version) (sc := defScope S_told_version) (own := [("word", 2)]) (by decide +kernel)) (by decide) (fun _ _ _ _ _ => (dg_name (i := 2) sc_told_version.nd rfl (by first | exact .inl rfl | exact .inr rfl))) (fun _ _ _ _ _ => dts_nil) (fun _ _ _ _ _ => (de_call H_told_number hr (by rfl) pas0 (da_cons (de_cst (by rfl) G.c_NUMBER_DIGITS) (da_cons (dv 2) da_nil))))) da_nil)))
      (dss_cons (ds_if (dt_not (dt_tru (de_call H_is_version hr (by rfl) (pasT (takes_of rfl rfl rfl rfl)) (da_cons (dv 1) da_nil)))) (dss_one (ds_ret de_non)) dss_nil)
      (dss_one (ds_ret (dv 1))))), hd⟩
theorem h_caret_end {dsp : DSp} (G : Glob K mg c_stretched) (hd : Rd 1 dsp (RD.t_caret_end) N_caret_end) : Has P w K mg base (k + 1) "caret_end" 1 dsp :=
  has_mk G.d_caret_end sc_caret_end rfl fun f cdv A outer s0 H E hr => by
    have hu := hr.units
    have hu1 : _ + 1 < cLine := Nat.lt_of_le_of_lt (Nat.add_le_add_left (by decide : 1 ≤ 64) _) hu
    exact ⟨RD.t_caret_end, (dss_cons (ds_asg (dv 0) (dg_tup (n := 3) rfl (dgs_cons (dg_name (i := 1) sc_caret_end.nd rfl (by first | exact .inl rfl | exact .inr rfl)) (dgs_cons (dg_name (i := 2) sc_caret_end.nd rfl (by first | exact .inl rfl | exact .inr rfl)) (dgs_cons (dg_name (i := 3) sc_caret_end.nd rfl (by first | exact .inl rfl | exact .inr rfl)) dgs_nil)))))
      (dss_cons (ds_if (dt_cm (cm_gt hu) (nomark _) (dv 1) de_int) (dss_one (ds_ret (de_tup (da_cons (de_add (dv 1) de_int) (da_cons de_int (da_cons de_int da_nil)))))) dss_nil)
      (dss_cons (ds_if (dt_cm (cm_gt hu) (nomark _) (dv 2) de_int) (dss_one (ds_ret (de_tup (da_cons de_int (da_cons (de_add (dv 2) de_int) (da_cons de_int da_nil)))))) dss_nil)
      (dss_one (ds_ret (de_tup (da_cons de_int (da_cons de_int (da_cons (de_add (dv 3) de_int) da_nil))))))))), hd⟩
theorem h_range_of_sign {dsp : DSp} {s_outside : DSp} {s_version_behind : DSp} {s_caret_end : DSp} (G : Glob K mg c_stretched) (H_outside : Has P w K mg base k "outside" 1 s_outside) (H_version_behind : Has P w K mg base k "version_behind" 1 s_version_behind) (H_caret_end : Has P w K mg base k "caret_end" 1 s_caret_end) (hd : Rd 2 dsp (RD.t_range_of_sign s_outside s_version_behind s_caret_end) N_range_of_sign) : Has P w K mg base (k + 1) "range_of_sign" 2 dsp :=
  has_mk G.d_range_of_sign sc_range_of_sign rfl fun f cdv A outer s0 H E hr => by
    have hu := hr.units
    have hu1 : _ + 1 < cLine := Nat.lt_of_le_of_lt (Nat.add_le_add_left (by decide : 1 ≤ 64) _) hu
    exact ⟨RD.t_range_of_sign s_outside s_version_behind s_caret_end, (dss_cons (ds_set (i := 2) sc_range_of_sign.nd rfl (by first | exact .inl rfl | exact .inr rfl) (de_call H_version_behind hr (by rfl) (pasT (takes_of rfl rfl rfl rfl)) (da_cons (dv 1) da_nil)))
      (dss_cons (ds_if (dt_cm (cm_eq hu) (nomark _) (dv 0) de_str) (dss_one (ds_ret (de_call H_outside hr (by rfl) (pasT (takes_of rfl rfl rfl rfl)) (da_cons (de_tup (da_cons (de_tup (da_cons (dv 1) (da_cons de_non da_nil))) da_nil)) da_nil)))) dss_nil)
      (dss_cons (ds_if (dt_cm (cm_eq hu) (nomark _) (dv 0) de_str) (dss_one (ds_ret (de_tup (da_cons (de_tup (da_cons (de_cst (by rfl) G.c_LEAST) (da_cons (dv 2) da_nil))) da_nil)))) dss_nil)
      (dss_cons (ds_if (dt_cm (cm_eq hu) (nomark _) (dv 0) de_str) (dss_one (ds_ret (de_tup (da_cons (de_tup (da_cons (dv 2) (da_cons de_non da_nil))) da_nil)))) dss_nil)
      (dss_cons (ds_if (dt_cm (cm_eq hu) (nomark _) (dv 0) de_str) (dss_one (ds_ret (de_tup (da_cons (de_tup (da_cons (dv 1) (da_cons de_non da_nil))) da_nil)))) dss_nil)
      (dss_cons (ds_if (dt_cm (cm_eq hu) (nomark _) (dv 0) de_str) (dss_one (ds_ret (de_call H_outside hr (by rfl) (pasT (takes_of rfl rfl rfl rfl)) (da_cons (de_tup (da_cons (de_tup (da_cons (dv 1) (da_cons (dv 2) da_nil))) da_nil)) da_nil)))) dss_nil)
      (dss_cons (ds_if (dt_cm (cm_eq hu) (nomark _) (dv 0) de_str) (dss_one (ds_ret (de_tup (da_cons (de_tup (da_cons (dv 1) (da_cons (de_call H_caret_end hr (by rfl) (pasT (takes_of rfl rfl rfl rfl)) (da_cons (dv 1) da_nil)) da_nil))) da_nil)))) dss_nil)
      (dss_cons (ds_if (dt_cm (cm_eq hu) (nomark _) (dv 0) de_str) (dss_one (ds_ret (de_tup (da_cons (de_tup (da_cons (dv 1) (da_cons (de_tup (da_cons (de_ix (dv 1) de_int) (da_cons (de_add (de_ix (dv 1) de_int) de_int) (da_cons de_int da_nil)))) da_nil))) da_nil)))) dss_nil)
      (dss_one (ds_ret (de_tup (da_cons (de_tup (da_cons (dv 1) (da_cons (dv 2) da_nil))) da_nil)))))))))))), hd⟩
theorem h_sign_of {dsp : DSp} (G : Glob K mg c_stretched) (hd : Rd 1 dsp (RD.t_sign_of) N_sign_of) : Has P w K mg base (k + 1) "sign_of" 1 dsp :=
  has_mk G.d_sign_of sc_sign_of rfl fun f cdv A outer s0 H E hr => by
    have hu := hr.units
    have hu1 : _ + 1 < cLine := Nat.lt_of_le_of_lt (Nat.add_le_add_left (by decide : 1 ≤ 64) _) hu
    exact ⟨RD.t_sign_of, (dss_cons (ds_for (passes_of rfl) rfl (di_seq (de_cst (by rfl) G.c_SIGNS)) (dg_name (i := 1) sc_sign_of.nd rfl (by first | exact .inl rfl | exact .inr rfl)) (dss_one (ds_if (dt_tru (de_bm PySem.F.plainAttrs_str PySem.F.slot_str_startswith PySem.F.type_str_startswith mt_startswith str1_ok (dv 0) (da_cons (dv 1) da_nil))) (dss_one (ds_ret (dv 1))) dss_nil)))
      (dss_one (ds_ret de_str))), hd⟩
theorem h_told_part {dsp : DSp} {s_is_range : DSp} {s_told_version : DSp} {s_range_of_sign : DSp} {s_sign_of : DSp} (G : Glob K mg c_stretched) (H_is_range : Has P w K mg base k "is_range" 1 s_is_range) (H_told_version : Has P w K mg base k "told_version" 1 s_told_version) (H_range_of_sign : Has P w K mg base k "range_of_sign" 2 s_range_of_sign) (H_sign_of : Has P w K mg base k "sign_of" 1 s_sign_of) (hd : Rd 1 dsp (RD.t_told_part s_is_range s_told_version s_range_of_sign s_sign_of) N_told_part) : Has P w K mg base (k + 1) "told_part" 1 dsp :=
  has_mk G.d_told_part sc_told_part rfl fun f cdv A outer s0 H E hr => by
    have hu := hr.units
    have hu1 : _ + 1 < cLine := Nat.lt_of_le_of_lt (Nat.add_le_add_left (by decide : 1 ≤ 64) _) hu
    exact ⟨RD.t_told_part s_is_range s_told_version s_range_of_sign s_sign_of, (dss_cons (ds_if (dt_cm (cm_eq hu) (nomark _) (dv 0) de_str) (dss_one (ds_ret (de_cst (by rfl) G.c_EVERY))) dss_nil)
      (dss_cons (ds_set (i := 1) sc_told_part.nd rfl (by first | exact .inl rfl | exact .inr rfl) (de_call H_sign_of hr (by rfl) (pasT (takes_of rfl rfl rfl rfl)) (da_cons (dv 0) da_nil)))
      (dss_cons (ds_set (i := 2) sc_told_part.nd rfl (by first | exact .inl rfl | exact .inr rfl) (de_call H_told_version hr (by rfl) (pasT (takes_of rfl rfl rfl rfl)) (da_cons (de_slice (dv 0) (do_some (de_len (by rfl) G.z_len (da_cons (dv 1) da_nil))) do_none) da_nil)))
      (dss_cons (ds_if (dt_cm cm_is (nomark _) (dv 2) de_non) (dss_one (ds_ret de_non)) dss_nil)
      (dss_cons (ds_set (i := 3) sc_told_part.nd rfl (by first | exact .inl rfl | exact .inr rfl) (de_call H_range_of_sign hr (by rfl) (pasT (takes_of rfl rfl rfl rfl)) (da_cons (dv 1) (da_cons (dv 2) da_nil))))
      (dss_cons (ds_if (dt_not (dt_tru (de_call H_is_range hr (by rfl) (pasT (takes_of rfl rfl rfl rfl)) (da_cons (dv 3) da_nil)))) (dss_one (ds_ret de_non)) dss_nil)
      (dss_one (ds_ret (dv 3))))))))), hd⟩
theorem h_read_range {dsp : DSp} {s_stretched : DSp} {s_outside : DSp} {s_told_part : DSp} (G : Glob K mg c_stretched) (H_stretched : Has P w K mg base k "stretched" 1 s_stretched) (H_outside : Has P w K mg base k "outside" 1 s_outside) (H_told_part : Has P w K mg base k "told_part" 1 s_told_part) (E_BadText : Er1 P w K mg base 1 "BadText" "index") (hk : 2 ≤ k) (hd : Rd 1 dsp (RD.t_read_range s_stretched s_outside s_told_part) N_read_range) : Has P w K mg base (k + 1) "read_range" 1 dsp :=
  has_mk G.d_read_range sc_read_range rfl fun f cdv A outer s0 H E hr => by
    have hu := hr.units
    have hu1 : _ + 1 < cLine := Nat.lt_of_le_of_lt (Nat.add_le_add_left (by decide : 1 ≤ 64) _) hu
    exact ⟨RD.t_read_range s_stretched s_outside s_told_part, (dss_cons (ds_if (dt_not (dt_tru (de_isi (by rfl) G.z_isinstance (dv 0) (pe_ty (by rfl) G.z_str PyProof.Rows.boot_str)))) (dss_one (ds_raise1 rfl (takes_of rfl rfl rfl rfl) E_BadText hr hk (by rfl) (de_neg de_int))) dss_nil)
      (dss_cons (ds_set (i := 1) sc_read_range.nd rfl (by first | exact .inl rfl | exact .inr rfl) (de_lst da_nil))
      (dss_cons (ds_set (i := 2) sc_read_range.nd rfl (by first | exact .inl rfl | exact .inr rfl) de_int)
      (dss_cons (ds_for (passes_of rfl) rfl (di_seq (de_bm PySem.F.plainAttrs_str PySem.F.slot_str_split PySem.F.type_str_split mt_split split_ok (dv 0) (da_cons de_str da_nil))) (dg_name (i := 3) sc_read_range.nd rfl (by first | exact .inl rfl | exact .inr rfl)) (dss_cons (ds_set (i := 4) sc_read_range.nd rfl (by first | exact .inl rfl | exact .inr rfl) (de_lst da_nil))
      (dss_cons (ds_for (passes_of rfl) rfl (di_seq (de_bm PySem.F.plainAttrs_str PySem.F.slot_str_split PySem.F.type_str_split mt_split split_ok (dv 3) (da_cons de_str da_nil))) (dg_name (i := 5) sc_read_range.nd rfl (by first | exact .inl rfl | exact .inr rfl)) (dss_cons (ds_set (i := 6) sc_read_range.nd rfl (by first | exact .inl rfl | exact .inr rfl) (de_call H_told_part hr (by rfl) (pasT (takes_of rfl rfl rfl rfl)) (da_cons (dv 5) da_nil)))
      (dss_cons (ds_if (dt_cm cm_is (nomark _) (dv 6) de_non) (dss_one (ds_raise1 rfl (takes_of rfl rfl rfl rfl) E_BadText hr hk (by rfl) (dv 2))) dss_nil)
      (dss_cons (ds_expr (de_bm PySem.F.plainAttrs_list PySem.F.slot_list_extend PySem.F.type_list_extend (MtR.or mt_extend mt_extendT) extendA_ok (dv 4) (da_cons (de_call H_outside hr (by rfl) (pasT (takes_of rfl rfl rfl rfl)) (da_cons (dv 6) da_nil)) da_nil)))
      (dss_one (ds_aug (i := 2) sc_read_range.nd rfl (by first | exact .inl rfl | exact .inr rfl) de_int ip_add ip_addI))))))
      (dss_one (ds_expr (de_bm PySem.F.plainAttrs_list PySem.F.slot_list_extend PySem.F.type_list_extend (MtR.or mt_extend mt_extendT) extendA_ok (dv 1) (da_cons (de_call H_outside hr (by rfl) (pasT (takes_of rfl rfl rfl rfl)) (da_cons (de_call H_stretched hr (by rfl) (pasT (takes_of rfl rfl rfl rfl)) (da_cons (dv 4) da_nil)) da_nil)) da_nil)))))))
      (dss_one (ds_ret (de_call H_stretched hr (by rfl) (pasT (takes_of rfl rfl rfl rfl)) (da_cons (dv 1) da_nil)))))))), hd⟩
theorem h__law_hand {dsp : DSp} (G : Glob K mg c_stretched) (hd : Rd 1 dsp (RD.t__law_hand) N__law_hand) : Has P w K mg base (k + 1) "_law_hand" 1 dsp :=
  has_mk G.d__law_hand sc__law_hand rfl fun f cdv A outer s0 H E hr => by
    have hu := hr.units
    have hu1 : _ + 1 < cLine := Nat.lt_of_le_of_lt (Nat.add_le_add_left (by decide : 1 ≤ 64) _) hu
    exact ⟨RD.t__law_hand, (dss_cons (ds_setLc (i := 1) (own := [("cell", 2)]) rfl sc__law_hand.nd rfl rfl (sw_true rfl rfl rfl (by decide +kernel)) (di_seq (de_slice (dv 0) do_none (do_some de_int))) (blkOk_by (N := N__law_hand) (sc := defScope S__law_hand) (own := [("cell", 2)]) (by decide +kernel)) (by decide) (fun _ _ _ _ _ => (dg_name (i := 2) sc__law_hand.nd rfl (by first | exact .inl rfl | exact .inr rfl))) (fun _ _ _ _ _ => dts_nil) (fun _ _ _ _ _ => (de_abs (by rfl) G.z_abs (da_cons (de_int' (by rfl) G.z_int (da_cons (dv 2) da_nil)) da_nil))))
      (dss_one (ds_ret (de_lst (da_cons (dv 1) (da_cons de_int (da_cons de_int (da_cons (de_add de_int (de_len (by rfl) G.z_len (da_cons (dv 1) da_nil))) (da_cons de_int da_nil))))))))), hd⟩
theorem h__law_draw {dsp : DSp} (G : Glob K mg c_stretched) (hd : Rd 2 dsp (RD.t__law_draw) N__law_draw) : Has P w K mg base (k + 1) "_law_draw" 2 dsp :=
  has_mk G.d__law_draw sc__law_draw rfl fun f cdv A outer s0 H E hr => by
    have hu := hr.units
    have hu1 : _ + 1 < cLine := Nat.lt_of_le_of_lt (Nat.add_le_add_left (by decide : 1 ≤ 64) _) hu
    exact ⟨RD.t__law_draw, (dss_cons (ds_if (dw_pt (dw_and (dt_cm (cm_eq hu) (nomark _) (de_ix (dv 0) de_int) de_int) (dw_and1 (dt_cm (cm_lt hu) (nomark _) (de_ix (dv 0) de_int) (de_len (by rfl) G.z_len (da_cons (de_ix (dv 0) de_int) da_nil)))))) (dss_cons (ds_set (i := 2) sc__law_draw.nd rfl (by first | exact .inl rfl | exact .inr rfl) (de_ix (de_ix (dv 0) de_int) (de_ix (dv 0) de_int)))
      (dss_cons (ds_asg (de_add (de_ix (dv 0) de_int) de_int) (dg_sub (dv 0) de_int set_list setL_ok))
      (dss_cons (ds_asg (de_mod (de_int' (by rfl) G.z_int (da_cons (de_add (de_add (de_mul (de_ix (dv 0) de_int) de_int) (dv 2)) de_int) da_nil)) de_int) (dg_sub (dv 0) de_int set_list setL_ok))
      (dss_one (ds_if (dt_cm (cm_ge hu) (nomark _) (dv 2) (de_pow de_int de_int)) (dss_one (ds_asg (dv 2) (dg_sub (dv 0) de_int set_list setL_ok))) dss_nil))))) dss_nil)
      (dss_cons (ds_if (dt_cm (cm_gt hu) (nomark _) (de_ix (dv 0) de_int) de_int) (dss_cons (ds_set (i := 3) sc__law_draw.nd rfl (by first | exact .inl rfl | exact .inr rfl) (de_mod (de_int' (by rfl) G.z_int (da_cons (de_ix (dv 0) de_int) da_nil)) (dv 1)))
      (dss_cons (ds_asg (de_div (de_ix (dv 0) de_int) (dv 1)) (dg_sub (dv 0) de_int set_list setL_ok))
      (dss_one (ds_ret (dv 3))))) dss_nil)
      (dss_cons (ds_asg (de_add (de_ix (dv 0) de_int) de_int) (dg_sub (dv 0) de_int set_list setL_ok))
      (dss_cons (ds_set (i := 4) sc__law_draw.nd rfl (by first | exact .inl rfl | exact .inr rfl) (de_mod (de_int' (by rfl) G.z_int (da_cons (de_mul (de_int' (by rfl) G.z_int (da_cons (de_add (de_ix (dv 0) de_int) (de_mul de_int (de_ix (dv 0) de_int))) da_nil)) de_int) da_nil)) de_int))
      (dss_cons (ds_set (i := 4) sc__law_draw.nd rfl (by first | exact .inl rfl | exact .inr rfl) (de_mod (de_int' (by rfl) G.z_int (da_cons (de_mul (dv 4) (de_add (de_div (dv 4) de_int) de_int)) da_nil)) de_int))
      (dss_cons (ds_set (i := 4) sc__law_draw.nd rfl (by first | exact .inl rfl | exact .inr rfl) (de_mod (de_int' (by rfl) G.z_int (da_cons (de_mul (dv 4) (de_add (de_div (dv 4) de_int) de_int)) da_nil)) de_int))
      (dss_one (ds_ret (de_mod (de_int' (by rfl) G.z_int (da_cons (de_div (dv 4) de_int) da_nil)) (dv 1)))))))))), hd⟩
theorem h__law_some {dsp : DSp} {s__law_draw : DSp} (G : Glob K mg c_stretched) (H__law_draw : Has P w K mg base k "_law_draw" 2 s__law_draw) (hd : Rd 2 dsp (RD.t__law_some s__law_draw) N__law_some) : Has P w K mg base (k + 1) "_law_some" 2 dsp :=
  has_mk G.d__law_some sc__law_some rfl fun f cdv A outer s0 H E hr => by
    have hu := hr.units
    have hu1 : _ + 1 < cLine := Nat.lt_of_le_of_lt (Nat.add_le_add_left (by decide : 1 ≤ 64) _) hu
    exact ⟨RD.t__law_some s__law_draw, (dss_one (ds_ret (de_ix (dv 1) (de_call H__law_draw hr (by rfl) (pasT (takes_of rfl rfl rfl rfl)) (da_cons (dv 0) (da_cons (de_len (by rfl) G.z_len (da_cons (dv 1) da_nil)) da_nil)))))), hd⟩
theorem h__law_is {dsp : DSp} {s__law_is : DSp} (G : Glob K mg c_stretched) (H__law_is : Has P w K mg base k "_law_is" 2 s__law_is) (hd : Rd 2 dsp (RD.t__law_is s__law_is) N__law_is) : Has P w K mg base (k + 1) "_law_is" 2 dsp :=
  has_mk G.d__law_is sc__law_is rfl fun f cdv A outer s0 H E hr => by
    have hu := hr.units
    have hu1 : _ + 1 < cLine := Nat.lt_of_le_of_lt (Nat.add_le_add_left (by decide : 1 ≤ 64) _) hu
    exact ⟨RD.t__law_is s__law_is, (dss_cons (ds_if (dt_tru (de_isi2 (by rfl) G.z_isinstance (dv 1) (pe_ty (by rfl) G.z_tuple PyProof.Rows.boot_tuple) (pe_ty (by rfl) G.z_list PyProof.Rows.boot_list))) (dss_cons (ds_if (dw_pt (dw_or (dt_cm (cm_ne hu) (nomark _) (de_isi (by rfl) G.z_isinstance (dv 0) (pe_ty (by rfl) G.z_tuple PyProof.Rows.boot_tuple)) (de_isi (by rfl) G.z_isinstance (dv 1) (pe_ty (by rfl) G.z_tuple PyProof.Rows.boot_tuple))) (dw_or1 (dt_cm (cm_ne hu) (nomark _) (de_isi (by rfl) G.z_isinstance (dv 0) (pe_ty (by rfl) G.z_list PyProof.Rows.boot_list)) (de_isi (by rfl) G.z_isinstance (dv 1) (pe_ty (by rfl) G.z_list PyProof.Rows.boot_list)))))) (dss_one (ds_ret de_bl)) dss_nil)
      (dss_one (ds_ret (de_and (de_cm (cm_eq hu) (nomark _) (de_len (by rfl) G.z_len (da_cons (dv 0) da_nil)) (de_len (by rfl) G.z_len (da_cons (dv 1) da_nil))) (de_one (de_all rfl (by rfl) G.z_all (da_cons (de_lc (own := [("k", 2)]) rfl sc__law_is.nd (di_range1 (by rfl) G.z_range (da_cons (de_len (by rfl) G.z_len (da_cons (dv 1) da_nil)) da_nil)) (blkOk_by (N := N__law_is) (sc := defScope S__law_is) (own := [("k", 2)]) (by decide +kernel)) (by decide) (fun _ _ _ _ _ => (dg_name (i := 2) sc__law_is.nd rfl (by first | exact .inl rfl | exact .inr rfl))) (fun _ _ _ _ _ => dts_nil) (fun _ _ _ _ _ => (de_call H__law_is hr (by rfl) pas0 (da_cons (de_ix (dv 0) (dv 2)) (da_cons (de_ix (dv 1) (dv 2)) da_nil))))) da_nil))))))) dss_nil)
      (dss_cons (ds_if (dt_tru (de_isi (by rfl) G.z_isinstance (dv 1) (pe_ty (by rfl) G.z_dict PyProof.Rows.boot_dict))) (dss_one (ds_ret (de_and (de_isi (by rfl) G.z_isinstance (dv 0) (pe_ty (by rfl) G.z_dict PyProof.Rows.boot_dict)) (de_and (de_cm (cm_eq hu) (nomark _) (dv 0) (dv 1)) (de_one (de_all rfl (by rfl) G.z_all (da_cons (de_lc (own := [("key", 3)]) rfl sc__law_is.nd (di_seq (dv 1)) (blkOk_by (N := N__law_is) (sc := defScope S__law_is) (own := [("key", 3)]) (by decide +kernel)) (by decide) (fun _ _ _ _ _ => (dg_name (i := 3) sc__law_is.nd rfl (by first | exact .inl rfl | exact .inr rfl))) (fun _ _ _ _ _ => dts_nil) (fun _ _ _ _ _ => (de_call H__law_is hr (by rfl) pas0 (da_cons (de_ix (dv 0) (dv 3)) (da_cons (de_ix (dv 1) (dv 3)) da_nil))))) da_nil))))))) dss_nil)
      (dss_one (ds_ret (de_and (de_cm (cm_eq hu) (nomark _) (de_isi (by rfl) G.z_isinstance (dv 0) (pe_ty (by rfl) G.z_bool PyProof.Rows.boot_bool)) (de_isi (by rfl) G.z_isinstance (dv 1) (pe_ty (by rfl) G.z_bool PyProof.Rows.boot_bool))) (de_one (de_cm (cm_eq hu) (nomark _) (dv 0) (dv 1)))))))), hd⟩
theorem h__law_deep {dsp : DSp} (G : Glob K mg c_stretched) (hd : Rd 1 dsp (RD.t__law_deep) N__law_deep) : Has P w K mg base (k + 1) "_law_deep" 1 dsp :=
  has_mk G.d__law_deep sc__law_deep rfl fun f cdv A outer s0 H E hr => by
    have hu := hr.units
    have hu1 : _ + 1 < cLine := Nat.lt_of_le_of_lt (Nat.add_le_add_left (by decide : 1 ≤ 64) _) hu
    exact ⟨RD.t__law_deep, (dss_cons (ds_set (i := 1) sc__law_deep.nd rfl (by first | exact .inl rfl | exact .inr rfl) de_non)
      (dss_cons (ds_for (passes_of rfl) rfl (di_range1 (by rfl) G.z_range (da_cons de_int da_nil)) (dg_name (i := 2) sc__law_deep.nd rfl (by first | exact .inl rfl | exact .inr rfl)) (dss_one (ds_set (i := 1) sc__law_deep.nd rfl (by first | exact .inl rfl | exact .inr rfl) (de_if (dt_cm (cm_eq hu) (nomark _) (dv 0) de_int) (de_lst (da_cons (dv 1) da_nil)) (de_tup (da_cons (dv 1) da_nil))))))
      (dss_one (ds_ret (dv 1))))), hd⟩
theorem h__law_version {dsp : DSp} {s__law_draw : DSp} {s__law_some : DSp} (G : Glob K mg c_stretched) (H__law_draw : Has P w K mg base k "_law_draw" 2 s__law_draw) (H__law_some : Has P w K mg base k "_law_some" 2 s__law_some) (hd : Rd 1 dsp (RD.t__law_version s__law_draw s__law_some) N__law_version) : Has P w K mg base (k + 1) "_law_version" 1 dsp :=
  has_mk G.d__law_version sc__law_version rfl fun f cdv A outer s0 H E hr => by
    have hu := hr.units
    have hu1 : _ + 1 < cLine := Nat.lt_of_le_of_lt (Nat.add_le_add_left (by decide : 1 ≤ 64) _) hu
    exact ⟨RD.t__law_version s__law_draw s__law_some, (dss_cons (ds_set (i := 1) sc__law_version.nd rfl (by first | exact .inl rfl | exact .inr rfl) (de_call H__law_draw hr (by rfl) (pasT (takes_of rfl rfl rfl rfl)) (da_cons (dv 0) (da_cons de_int da_nil))))
      (dss_cons (ds_if (dt_cm (cm_eq hu) (nomark _) (dv 1) de_int) (dss_one (ds_ret (de_tuple (by rfl) G.z_tuple (da_cons (de_lc (own := [("k", 2)]) rfl sc__law_version.nd (di_range1 (by rfl) G.z_range (da_cons de_int da_nil)) (blkOk_by (N := N__law_version) (sc := defScope S__law_version) (own := [("k", 2)]) (by decide +kernel)) (by decide) (fun _ _ _ _ _ => (dg_name (i := 2) sc__law_version.nd rfl (by first | exact .inl rfl | exact .inr rfl))) (fun _ _ _ _ _ => dts_nil) (fun _ _ _ _ _ => (de_call H__law_some hr (by rfl) pas0 (da_cons (dv 0) (da_cons (de_lst (da_cons de_int (da_cons de_int (da_cons de_int (da_cons de_int (da_cons de_int (da_cons de_int (da_cons (de_call H__law_draw hr (by rfl) pas0 (da_cons (dv 0) (da_cons de_int da_nil))) da_nil)))))))) da_nil))))) da_nil)))) dss_nil)
      (dss_cons (ds_set (i := 3) sc__law_version.nd rfl (by first | exact .inl rfl | exact .inr rfl) (de_call H__law_some hr (by rfl) (pasT (takes_of rfl rfl rfl rfl)) (da_cons (dv 0) (da_cons (de_lst (da_cons de_int (da_cons de_int (da_cons de_int (da_cons de_int da_nil))))) da_nil))))
      (dss_one (ds_ret (de_tup (da_cons (de_call H__law_draw hr (by rfl) (pasT (takes_of rfl rfl rfl rfl)) (da_cons (dv 0) (da_cons (dv 3) da_nil))) (da_cons (de_call H__law_draw hr (by rfl) (pasT (takes_of rfl rfl rfl rfl)) (da_cons (dv 0) (da_cons (dv 3) da_nil))) (da_cons (de_call H__law_draw hr (by rfl) (pasT (takes_of rfl rfl rfl rfl)) (da_cons (dv 0) (da_cons (dv 3) da_nil))) da_nil))))))))), hd⟩
theorem h__law_behind {dsp : DSp} (G : Glob K mg c_stretched) (hd : Rd 1 dsp (RD.t__law_behind) N__law_behind) : Has P w K mg base (k + 1) "_law_behind" 1 dsp :=
  has_mk G.d__law_behind sc__law_behind rfl fun f cdv A outer s0 H E hr => by
    have hu := hr.units
    have hu1 : _ + 1 < cLine := Nat.lt_of_le_of_lt (Nat.add_le_add_left (by decide : 1 ≤ 64) _) hu
    exact ⟨RD.t__law_behind, (dss_one (ds_ret (de_tup (da_cons (de_ix (dv 0) de_int) (da_cons (de_ix (dv 0) de_int) (da_cons (de_add (de_ix (dv 0) de_int) de_int) da_nil)))))), hd⟩
theorem h__law_has {dsp : DSp} (G : Glob K mg c_stretched) (hd : Rd 2 dsp (RD.t__law_has) N__law_has) : Has P w K mg base (k + 1) "_law_has" 2 dsp :=
  has_mk G.d__law_has sc__law_has rfl fun f cdv A outer s0 H E hr => by
    have hu := hr.units
    have hu1 : _ + 1 < cLine := Nat.lt_of_le_of_lt (Nat.add_le_add_left (by decide : 1 ≤ 64) _) hu
    exact ⟨RD.t__law_has, (dss_cons (ds_for (passes_of rfl) rfl (di_seq (dv 0)) (dg_tup (n := 2) rfl (dgs_cons (dg_name (i := 2) sc__law_has.nd rfl (by first | exact .inl rfl | exact .inr rfl)) (dgs_cons (dg_name (i := 3) sc__law_has.nd rfl (by first | exact .inl rfl | exact .inr rfl)) dgs_nil))) (dss_one (ds_if (dw_pt (dw_and (dt_cm (cm_le hu) (nomark _) (dv 2) (dv 1)) (dw_and1 (dw_pt (dw_or (dt_cm cm_is (nomark _) (dv 3) de_non) (dw_or1 (dt_cm (cm_lt hu) (nomark _) (dv 1) (dv 3)))))))) (dss_one (ds_ret de_bl)) dss_nil)))
      (dss_one (ds_ret de_bl))), hd⟩
theorem h__law_marks {dsp : DSp} (G : Glob K mg c_stretched) (hd : Rd 1 dsp (RD.t__law_marks) N__law_marks) : Has P w K mg base (k + 1) "_law_marks" 1 dsp :=
  has_mk G.d__law_marks sc__law_marks rfl fun f cdv A outer s0 H E hr => by
    have hu := hr.units
    have hu1 : _ + 1 < cLine := Nat.lt_of_le_of_lt (Nat.add_le_add_left (by decide : 1 ≤ 64) _) hu
    exact ⟨RD.t__law_marks, (dss_cons (ds_set (i := 1) sc__law_marks.nd rfl (by first | exact .inl rfl | exact .inr rfl) (de_lst (da_cons (de_tup (da_cons de_int (da_cons de_int (da_cons de_int da_nil)))) da_nil)))
      (dss_cons (ds_for (passes_of rfl) rfl (di_seq (dv 0)) (dg_name (i := 2) sc__law_marks.nd rfl (by first | exact .inl rfl | exact .inr rfl)) (dss_one (ds_for (passes_of rfl) rfl (di_seq (dv 2)) (dg_tup (n := 2) rfl (dgs_cons (dg_name (i := 3) sc__law_marks.nd rfl (by first | exact .inl rfl | exact .inr rfl)) (dgs_cons (dg_name (i := 4) sc__law_marks.nd rfl (by first | exact .inl rfl | exact .inr rfl)) dgs_nil))) (dss_one (ds_expr (de_extend (dv 1) (da_cons (de_if (dt_cm cm_is (nomark _) (dv 4) de_non) (de_lst (da_cons (dv 3) da_nil)) (de_lst (da_cons (dv 3) (da_cons (dv 4) da_nil)))) da_nil)))))))
      (dss_one (ds_ret (de_sortSetT rfl hu (by rfl) G.z_sorted (by rfl) G.z_set (da_cons (dv 1) da_nil)))))), hd⟩
theorem h__law_made {dsp : DSp} (G : Glob K mg c_stretched) (hd : Rd 2 dsp (RD.t__law_made) N__law_made) : Has P w K mg base (k + 1) "_law_made" 2 dsp :=
  has_mk G.d__law_made sc__law_made rfl fun f cdv A outer s0 H E hr => by
    have hu := hr.units
    have hu1 : _ + 1 < cLine := Nat.lt_of_le_of_lt (Nat.add_le_add_left (by decide : 1 ≤ 64) _) hu
    exact ⟨RD.t__law_made, (dss_cons (ds_set (i := 2) sc__law_made.nd rfl (by first | exact .inl rfl | exact .inr rfl) (de_lst da_nil))
      (dss_cons (ds_for (passes_of rfl) rfl (di_range1 (by rfl) G.z_range (da_cons (de_len (by rfl) G.z_len (da_cons (dv 0) da_nil)) da_nil)) (dg_name (i := 3) sc__law_made.nd rfl (by first | exact .inl rfl | exact .inr rfl)) (dss_cons (ds_if (dw_pt (dw_and (dt_tru (de_ix (dv 1) (dv 3))) (dw_and1 (dw_pt (dw_or (dt_cm (cm_eq hu) (nomark _) (dv 3) de_int) (dw_or1 (dt_not (dt_tru (de_ix (dv 1) (de_sub (dv 3) de_int)))))))))) (dss_one (ds_expr (de_append (dv 2) (da_cons (de_tup (da_cons (de_ix (dv 0) (dv 3)) (da_cons de_non da_nil))) da_nil)))) dss_nil)
      (dss_one (ds_if (dw_pt (dw_and (dt_cm (cm_gt hu) (nomark _) (dv 3) de_int) (dw_and (dt_tru (de_ix (dv 1) (de_sub (dv 3) de_int))) (dw_and1 (dt_not (dt_tru (de_ix (dv 1) (dv 3)))))))) (dss_one (ds_asg (de_tup (da_cons (de_ix (de_ix (dv 2) (de_neg de_int)) de_int) (da_cons (de_ix (dv 0) (dv 3)) da_nil))) (dg_sub (dv 2) (de_neg de_int) set_list setL_ok))) dss_nil))))
      (dss_one (ds_ret (de_tuple (by rfl) G.z_tuple (da_cons (dv 2) da_nil)))))), hd⟩
theorem h__law_outside {dsp : DSp} {s__law_has : DSp} {s__law_marks : DSp} {s__law_made : DSp} (G : Glob K mg c_stretched) (H__law_has : Has P w K mg base k "_law_has" 2 s__law_has) (H__law_marks : Has P w K mg base k "_law_marks" 1 s__law_marks) (H__law_made : Has P w K mg base k "_law_made" 2 s__law_made) (hd : Rd 1 dsp (RD.t__law_outside s__law_has s__law_marks s__law_made) N__law_outside) : Has P w K mg base (k + 1) "_law_outside" 1 dsp :=
  has_mk G.d__law_outside sc__law_outside rfl fun f cdv A outer s0 H E hr => by
    have hu := hr.units
    have hu1 : _ + 1 < cLine := Nat.lt_of_le_of_lt (Nat.add_le_add_left (by decide : 1 ≤ 64) _) hu
    exact ⟨RD.t__law_outside s__law_has s__law_marks s__law_made, (dss_cons (ds_set (i := 1) sc__law_outside.nd rfl (by first | exact .inl rfl | exact .inr rfl) (de_call H__law_marks hr (by rfl) (pasT (takes_of rfl rfl rfl rfl)) (da_cons (de_lst (da_cons (dv 0) da_nil)) da_nil)))
      (dss_one (ds_ret (de_call H__law_made hr (by rfl) (pasT (takes_of rfl rfl rfl rfl)) (da_cons (dv 1) (da_cons (de_lc (own := [("mark", 2)]) rfl sc__law_outside.nd (di_seq (dv 1)) (blkOk_by (N := N__law_outside) (sc := defScope S__law_outside) (own := [("mark", 2)]) (by decide +kernel)) (by decide) (fun _ _ _ _ _ => (dg_name (i := 2) sc__law_outside.nd rfl (by first | exact .inl rfl | exact .inr rfl))) (fun _ _ _ _ _ => dts_nil) (fun _ _ _ _ _ => (de_not (de_call H__law_has hr (by rfl) pas0 (da_cons (dv 0) (da_cons (dv 2) da_nil)))))) da_nil)))))), hd⟩
theorem h__law_version_text {dsp : DSp} (G : Glob K mg c_stretched) (hd : Rd 1 dsp (RD.t__law_version_text) N__law_version_text) : Has P w K mg base (k + 1) "_law_version_text" 1 dsp :=
  has_mk G.d__law_version_text sc__law_version_text rfl fun f cdv A outer s0 H E hr => by
    have hu := hr.units
    have hu1 : _ + 1 < cLine := Nat.lt_of_le_of_lt (Nat.add_le_add_left (by decide : 1 ≤ 64) _) hu
    exact ⟨RD.t__law_version_text, (dss_one (ds_ret (de_bm PySem.F.plainAttrs_str PySem.F.slot_str_join PySem.F.type_str_join mt_join join_ok de_str (da_cons (de_lc (own := [("number", 1)]) rfl sc__law_version_text.nd (di_seq (dv 0)) (blkOk_by (N := N__law_version_text) (sc := defScope S__law_version_text) (own := [("number", 1)]) (by decide +kernel)) (by decide) (fun _ _ _ _ _ => (dg_name (i := 1) sc__law_version_text.nd rfl (by first | exact .inl rfl | exact .inr rfl))) (fun _ _ _ _ _ => dts_nil) (fun _ _ _ _ _ => (de_strI (by rfl) G.z_str (da_cons (dv 1) da_nil)))) da_nil)))), hd⟩
theorem h__law_part_text {dsp : DSp} {s__law_version_text : DSp} (G : Glob K mg c_stretched) (H__law_version_text : Has P w K mg base k "_law_version_text" 1 s__law_version_text) (hd : Rd 2 dsp (RD.t__law_part_text s__law_version_text) N__law_part_text) : Has P w K mg base (k + 1) "_law_part_text" 2 dsp :=
  has_mk G.d__law_part_text sc__law_part_text rfl fun f cdv A outer s0 H E hr => by
    have hu := hr.units
    have hu1 : _ + 1 < cLine := Nat.lt_of_le_of_lt (Nat.add_le_add_left (by decide : 1 ≤ 64) _) hu
    exact ⟨RD.t__law_part_text s__law_version_text, (dss_one (ds_ret (de_if (dt_cm (cm_eq hu) (nomark _) (dv 0) de_str) de_str (de_add (dv 0) (de_call H__law_version_text hr (by rfl) (pasT (takes_of rfl rfl rfl rfl)) (da_cons (dv 1) da_nil)))))), hd⟩
theorem h__law_part {dsp : DSp} {s__law_behind : DSp} {s__law_outside : DSp} (G : Glob K mg c_stretched) (H__law_behind : Has P w K mg base k "_law_behind" 1 s__law_behind) (H__law_outside : Has P w K mg base k "_law_outside" 1 s__law_outside) (hd : Rd 2 dsp (RD.t__law_part s__law_behind s__law_outside) N__law_part) : Has P w K mg base (k + 1) "_law_part" 2 dsp :=
  has_mk G.d__law_part sc__law_part rfl fun f cdv A outer s0 H E hr => by
    have hu := hr.units
    have hu1 : _ + 1 < cLine := Nat.lt_of_le_of_lt (Nat.add_le_add_left (by decide : 1 ≤ 64) _) hu
    exact ⟨RD.t__law_part s__law_behind s__law_outside, (dss_cons (ds_asg (dv 1) (dg_tup (n := 3) rfl (dgs_cons (dg_name (i := 2) sc__law_part.nd rfl (by first | exact .inl rfl | exact .inr rfl)) (dgs_cons (dg_name (i := 3) sc__law_part.nd rfl (by first | exact .inl rfl | exact .inr rfl)) (dgs_cons (dg_name (i := 4) sc__law_part.nd rfl (by first | exact .inl rfl | exact .inr rfl)) dgs_nil)))))
      (dss_cons (ds_set (i := 5) sc__law_part.nd rfl (by first | exact .inl rfl | exact .inr rfl) (de_tup (da_cons (de_tup (da_cons (de_tup (da_cons de_int (da_cons de_int (da_cons de_int da_nil)))) (da_cons de_non da_nil))) da_nil)))
      (dss_cons (ds_if (dt_cm cm_in (by rfl) (dv 0) (de_tup (da_cons de_str (da_cons de_str (da_cons de_str da_nil))))) (dss_cons (ds_set (i := 6) sc__law_part.nd rfl (by first | exact .inl rfl | exact .inr rfl) (de_if (dt_cm (cm_eq hu) (nomark _) (dv 1) (de_tup (da_cons de_int (da_cons de_int (da_cons de_int da_nil))))) (de_tup da_nil) (de_tup (da_cons (de_tup (da_cons (de_tup (da_cons de_int (da_cons de_int (da_cons de_int da_nil)))) (da_cons (dv 1) da_nil))) da_nil))))
      (dss_one (ds_ret (de_dget hu1 (de_disp (DPs.cons de_str (dv 5) (DPs.cons de_str (de_tup (da_cons (de_tup (da_cons (dv 1) (da_cons de_non da_nil))) da_nil)) (DPs.cons de_str (dv 6) DPs.nil)))) (dv 0))))) dss_nil)
      (dss_cons (ds_if (dt_cm cm_in (by rfl) (dv 0) (de_tup (da_cons de_str (da_cons de_str da_nil)))) (dss_cons (ds_set (i := 7) sc__law_part.nd rfl (by first | exact .inl rfl | exact .inr rfl) (de_tup (da_cons (dv 2) (da_cons (de_add (dv 3) de_int) (da_cons de_int da_nil)))))
      (dss_cons (ds_if (dt_cm (cm_eq hu) (nomark _) (dv 0) de_str) (dss_one (ds_set (i := 7) sc__law_part.nd rfl (by first | exact .inl rfl | exact .inr rfl) (de_if (dt_cm (cm_gt hu) (nomark _) (dv 2) de_int) (de_tup (da_cons (de_add (dv 2) de_int) (da_cons de_int (da_cons de_int da_nil)))) (de_if (dt_cm (cm_gt hu) (nomark _) (dv 3) de_int) (de_tup (da_cons de_int (da_cons (de_add (dv 3) de_int) (da_cons de_int da_nil)))) (de_tup (da_cons de_int (da_cons de_int (da_cons (de_add (dv 4) de_int) da_nil)))))))) dss_nil)
      (dss_one (ds_ret (de_if (dt_cm (cm_gt hu) (nomark _) (de_maxT rfl hu (by rfl) G.z_max (da_cons (dv 7) da_nil)) de_int) de_non (de_tup (da_cons (de_tup (da_cons (dv 1) (da_cons (dv 7) da_nil))) da_nil))))))) dss_nil)
      (dss_cons (ds_set (i := 8) sc__law_part.nd rfl (by first | exact .inl rfl | exact .inr rfl) (de_call H__law_behind hr (by rfl) (pasT (takes_of rfl rfl rfl rfl)) (da_cons (dv 1) da_nil)))
      (dss_cons (ds_if (dt_cm (cm_ge hu) (nomark _) (dv 4) de_int) (dss_one (ds_ret de_non)) dss_nil)
      (dss_cons (ds_if (dt_cm (cm_eq hu) (nomark _) (dv 0) de_str) (dss_one (ds_ret (de_tup (da_cons (de_tup (da_cons (dv 1) (da_cons (dv 8) da_nil))) da_nil)))) dss_nil)
      (dss_cons (ds_if (dt_cm (cm_eq hu) (nomark _) (dv 0) de_str) (dss_one (ds_ret (de_call H__law_outside hr (by rfl) (pasT (takes_of rfl rfl rfl rfl)) (da_cons (de_tup (da_cons (de_tup (da_cons (dv 1) (da_cons (dv 8) da_nil))) da_nil)) da_nil)))) dss_nil)
      (dss_one (ds_ret (de_if (dt_cm (cm_eq hu) (nomark _) (dv 0) de_str) (de_tup (da_cons (de_tup (da_cons (de_tup (da_cons de_int (da_cons de_int (da_cons de_int da_nil)))) (da_cons (dv 8) da_nil))) da_nil)) (de_tup (da_cons (de_tup (da_cons (dv 8) (da_cons de_non da_nil))) da_nil))))))))))))), hd⟩
theorem h__law_words {dsp : DSp} {s__law_some : DSp} {s__law_version : DSp} (G : Glob K mg c_stretched) (H__law_some : Has P w K mg base k "_law_some" 2 s__law_some) (H__law_version : Has P w K mg base k "_law_version" 1 s__law_version) (hd : Rd 1 dsp (RD.t__law_words s__law_some s__law_version) N__law_words) : Has P w K mg base (k + 1) "_law_words" 1 dsp :=
  has_mk G.d__law_words sc__law_words rfl fun f cdv A outer s0 H E hr => by
    have hu := hr.units
    have hu1 : _ + 1 < cLine := Nat.lt_of_le_of_lt (Nat.add_le_add_left (by decide : 1 ≤ 64) _) hu
    exact ⟨RD.t__law_words s__law_some s__law_version, (dss_cons (ds_set (i := 1) sc__law_words.nd rfl (by first | exact .inl rfl | exact .inr rfl) (de_call H__law_some hr (by rfl) (pasT (takes_of rfl rfl rfl rfl)) (da_cons (dv 0) (da_cons (de_lst (da_cons de_str (da_cons de_str (da_cons de_str (da_cons de_str (da_cons de_str (da_cons de_str (da_cons de_str (da_cons de_str (da_cons de_str (da_cons de_str (da_cons de_str (da_cons de_str da_nil))))))))))))) da_nil))))
      (dss_one (ds_ret (de_tup (da_cons (dv 1) (da_cons (de_call H__law_version hr (by rfl) (pasT (takes_of rfl rfl rfl rfl)) (da_cons (dv 0) da_nil)) da_nil)))))), hd⟩
theorem h__law_read_number {dsp : DSp} (G : Glob K mg c_stretched) (hd : Rd 1 dsp (RD.t__law_read_number) N__law_read_number) : Has P w K mg base (k + 1) "_law_read_number" 1 dsp :=
  has_mk G.d__law_read_number sc__law_read_number rfl fun f cdv A outer s0 H E hr => by
    have hu := hr.units
    have hu1 : _ + 1 < cLine := Nat.lt_of_le_of_lt (Nat.add_le_add_left (by decide : 1 ≤ 64) _) hu
    exact ⟨RD.t__law_read_number, (dss_cons (ds_if (dw_pt (dw_or (dt_cm (cm_eq hu) (nomark _) (dv 0) de_str) (dw_or (dt_not (dt_tru (de_all rfl (by rfl) G.z_all (da_cons (de_lc (own := [("sign", 1)]) rfl sc__law_read_number.nd (di_seq (dv 0)) (blkOk_by (N := N__law_read_number) (sc := defScope S__law_read_number) (own := [("sign", 1)]) (by decide +kernel)) (by decide) (fun _ _ _ _ _ => (dg_name (i := 1) sc__law_read_number.nd rfl (by first | exact .inl rfl | exact .inr rfl))) (fun _ _ _ _ _ => dts_nil) (fun _ _ _ _ _ => (de_cm cm_inC (by rfl) (dv 1) de_str))) da_nil)))) (dw_or1 (dt_cm (cm_gt hu) (nomark _) (de_len (by rfl) G.z_len (da_cons (dv 0) da_nil)) de_int))))) (dss_one (ds_ret de_non)) dss_nil)
      (dss_cons (ds_if (dw_pt (dw_or (dw_pt (dw_and (dt_cm (cm_gt hu) (nomark _) (de_len (by rfl) G.z_len (da_cons (dv 0) da_nil)) de_int) (dw_and1 (dt_cm (cm_eq hu) (nomark _) (de_ix (dv 0) de_int) de_str)))) (dw_or1 (dt_cm (cm_gt hu) (nomark _) (de_intS (by rfl) G.z_int (da_cons (dv 0) da_nil)) de_int)))) (dss_one (ds_ret de_non)) dss_nil)
      (dss_one (ds_ret (de_intS (by rfl) G.z_int (da_cons (dv 0) da_nil)))))), hd⟩
theorem h__law_is_part_text {dsp : DSp} {s__law_part : DSp} {s__law_read_number : DSp} (G : Glob K mg c_stretched) (H__law_part : Has P w K mg base k "_law_part" 2 s__law_part) (H__law_read_number : Has P w K mg base k "_law_read_number" 1 s__law_read_number) (hd : Rd 1 dsp (RD.t__law_is_part_text s__law_part s__law_read_number) N__law_is_part_text) : Has P w K mg base (k + 1) "_law_is_part_text" 1 dsp :=
  has_mk G.d__law_is_part_text sc__law_is_part_text rfl fun f cdv A outer s0 H E hr => by
    have hu := hr.units
    have hu1 : _ + 1 < cLine := Nat.lt_of_le_of_lt (Nat.add_le_add_left (by decide : 1 ≤ 64) _) hu
    exact ⟨RD.t__law_is_part_text s__law_part s__law_read_number, (dss_cons (ds_if (dt_cm (cm_eq hu) (nomark _) (dv 0) de_str) (dss_one (ds_ret de_bl)) dss_nil)
      (dss_cons (ds_set (i := 1) sc__law_is_part_text.nd rfl (by first | exact .inl rfl | exact .inr rfl) de_str)
      (dss_cons (ds_for (passes_of rfl) rfl (di_seq (de_tup (da_cons de_str (da_cons de_str (da_cons de_str (da_cons de_str (da_cons de_str (da_cons de_str (da_cons de_str da_nil))))))))) (dg_name (i := 2) sc__law_is_part_text.nd rfl (by first | exact .inl rfl | exact .inr rfl)) (dss_one (ds_if (dw_pt (dw_and (dt_cm (cm_eq hu) (nomark _) (dv 1) de_str) (dw_and1 (dt_tru (de_bm PySem.F.plainAttrs_str PySem.F.slot_str_startswith PySem.F.type_str_startswith mt_startswith str1_ok (dv 0) (da_cons (dv 2) da_nil)))))) (dss_one (ds_set (i := 1) sc__law_is_part_text.nd rfl (by first | exact .inl rfl | exact .inr rfl) (dv 2))) dss_nil)))
      (dss_cons (ds_setLc (i := 3) (own := [("one", 4)]) rfl sc__law_is_part_text.nd rfl rfl (sw_true rfl rfl rfl (by decide +kernel)) (di_seq (de_bm PySem.F.plainAttrs_str PySem.F.slot_str_split PySem.F.type_str_split mt_split split_ok (de_slice (dv 0) (do_some (de_len (by rfl) G.z_len (da_cons (dv 1) da_nil))) do_none) (da_cons de_str da_nil))) (blkOk_by (N := N__law_is_part_text) (sc := defScope S__law_is_part_text) (own := [("one", 4)]) (by decide +kernel)) (by decide) (fun _ _ _ _ _ => (dg_name (i := 4) sc__law_is_part_text.nd rfl (by first | exact .inl rfl | exact .inr rfl))) (fun _ _ _ _ _ => dts_nil) (fun _ _ _ _ _ => (de_call H__law_read_number hr (by rfl) pas0 (da_cons (dv 4) da_nil))))
      (dss_cons (ds_if (dw_pt (dw_or (dt_cm (cm_ne hu) (nomark _) (de_len (by rfl) G.z_len (da_cons (dv 3) da_nil)) de_int) (dw_or1 (dt_cm cm_in (by rfl) de_non (dv 3))))) (dss_one (ds_ret de_bl)) dss_nil)
      (dss_one (ds_ret (de_cm cm_isnot (nomark _) (de_call H__law_part hr (by rfl) (pasT (takes_of rfl rfl rfl rfl)) (da_cons (dv 1) (da_cons (de_tuple (by rfl) G.z_tuple (da_cons (dv 3) da_nil)) da_nil))) de_non)))))))), hd⟩
theorem h__law_due {dsp : DSp} {s__law_is_part_text : DSp} (G : Glob K mg c_stretched) (H__law_is_part_text : Has P w K mg base k "_law_is_part_text" 1 s__law_is_part_text) (hd : Rd 1 dsp (RD.t__law_due s__law_is_part_text) N__law_due) : Has P w K mg base (k + 1) "_law_due" 1 dsp :=
  has_mk G.d__law_due sc__law_due rfl fun f cdv A outer s0 H E hr => by
    have hu := hr.units
    have hu1 : _ + 1 < cLine := Nat.lt_of_le_of_lt (Nat.add_le_add_left (by decide : 1 ≤ 64) _) hu
    exact ⟨RD.t__law_due s__law_is_part_text, (dss_cons (ds_if (dt_not (dt_tru (de_isi (by rfl) G.z_isinstance (dv 0) (pe_ty (by rfl) G.z_str PyProof.Rows.boot_str)))) (dss_one (ds_ret (de_neg de_int))) dss_nil)
      (dss_cons (ds_set (i := 1) sc__law_due.nd rfl (by first | exact .inl rfl | exact .inr rfl) (de_lst da_nil))
      (dss_cons (ds_for (passes_of rfl) rfl (di_seq (de_bm PySem.F.plainAttrs_str PySem.F.slot_str_split PySem.F.type_str_split mt_split split_ok (dv 0) (da_cons de_str da_nil))) (dg_name (i := 2) sc__law_due.nd rfl (by first | exact .inl rfl | exact .inr rfl)) (dss_one (ds_expr (de_bm PySem.F.plainAttrs_list PySem.F.slot_list_extend PySem.F.type_list_extend (MtR.or mt_extend mt_extendT) extendA_ok (dv 1) (da_cons (de_bm PySem.F.plainAttrs_str PySem.F.slot_str_split PySem.F.type_str_split mt_split split_ok (dv 2) (da_cons de_str da_nil)) da_nil)))))
      (dss_cons (ds_setLc (i := 3) (own := [("at", 4)]) rfl sc__law_due.nd rfl rfl (sw_true rfl rfl rfl (by decide +kernel)) (di_range1 (by rfl) G.z_range (da_cons (de_len (by rfl) G.z_len (da_cons (dv 1) da_nil)) da_nil)) (blkOk_by (N := N__law_due) (sc := defScope S__law_due) (own := [("at", 4)]) (by decide +kernel)) (by decide) (fun _ _ _ _ _ => (dg_name (i := 4) sc__law_due.nd rfl (by first | exact .inl rfl | exact .inr rfl))) (fun _ _ _ _ _ => (dts_one (dt_not (dt_tru (de_call H__law_is_part_text hr (by rfl) pas0 (da_cons (de_ix (dv 1) (dv 4)) da_nil)))))) (fun _ _ _ _ _ => (dv 4)))
      (dss_one (ds_ret (de_if (dt_cm (cm_gt hu) (nomark _) (de_len (by rfl) G.z_len (da_cons (dv 3) da_nil)) de_int) (de_ix (dv 3) de_int) de_non))))))), hd⟩
theorem h__law_told {dsp : DSp} {s_read_range : DSp} (G : Glob K mg c_stretched) (H_read_range : Has P w K mg base k "read_range" 1 s_read_range) (hd : Rd 1 dsp (RD.t__law_told s_read_range) N__law_told) : Has P w K mg base (k + 1) "_law_told" 1 dsp :=
  has_mk G.d__law_told sc__law_told rfl fun f cdv A outer s0 H E hr => by
    have hu := hr.units
    have hu1 : _ + 1 < cLine := Nat.lt_of_le_of_lt (Nat.add_le_add_left (by decide : 1 ≤ 64) _) hu
    exact ⟨RD.t__law_told s_read_range, (dss_cons (ds_set (i := 1) sc__law_told.nd rfl (by first | exact .inl rfl | exact .inr rfl) de_non)
      (dss_cons (ds_try_as (ms := [1]) (i := 2) rfl rfl sc__law_told.nd rfl rfl ⟨by rfl, by decide, .inl G.g_BadText⟩ (takes_of rfl rfl rfl rfl) (all_cons G.xm_BadText_BadText (fun _ h => nomatch h)) (fun W pn xe tk po => (dss_one (ds_expr (de_call H_read_range hr (by rfl) (pasT tk) (da_cons (dv 0) da_nil))))) (fun TC' a oe x d pn hT hz hv hd => by exact ((dss_one (ds_set (i := 1) sc__law_told.nd rfl (by first | exact .inl rfl | exact .inr rfl) (de_if (dw_pt (dw_and (dt_tru (de_xi (X := XDef P w K mg base N__law_told "_law_told" S__law_told f cdv A outer s0 H E) (a := a) (oe := oe) (pn := pn) (xx := x) (d := d) (tbl := [(1, true)]) (cv := .ref (errA 0)) (cu := .ref (errA 0)) hT (by rfl) G.z_isinstance (all_cons ⟨G.ef_BadText, G.kt_BadText_LockError⟩ (fun _ h => nomatch h)) (fun u r => r) hz hv (dv 2) (pe_glob (by rfl) G.g_LockError (show RelV (.ref (errA 0)) (.ref (errA 0)) from rfl)))) (dw_and1 (dt_tru (de_xi (X := XDef P w K mg base N__law_told "_law_told" S__law_told f cdv A outer s0 H E) (a := a) (oe := oe) (pn := pn) (xx := x) (d := d) (tbl := [(1, true)]) (cv := .ty "ValueError") (cu := .type "ValueError") hT (by rfl) G.z_isinstance (all_cons ⟨G.ef_BadText, G.kt_BadText_ValueError⟩ (fun _ h => nomatch h)) (fun u r => r) hz hv (dv 2) (pe_bltn (by rfl) G.z_ValueError boot_ValueError (show RelV (.ty "ValueError") (.type "ValueError") from rfl))))))) (de_xf (X := XDef P w K mg base N__law_told "_law_told" S__law_told f cdv A outer s0 H E) (a := a) (oe := oe) (pn := pn) (xx := x) (d := d) (m := 1) hT G.ef_BadText.xf G.no_BadText hz hv hd (dv 2)) de_str))))))
      (dss_one (ds_ret (dv 1))))), hd⟩
theorem h__law_bent {dsp : DSp} {s__law_draw : DSp} {s__law_some : DSp} (G : Glob K mg c_stretched) (H__law_draw : Has P w K mg base k "_law_draw" 2 s__law_draw) (H__law_some : Has P w K mg base k "_law_some" 2 s__law_some) (hd : Rd 2 dsp (RD.t__law_bent s__law_draw s__law_some) N__law_bent) : Has P w K mg base (k + 1) "_law_bent" 2 dsp :=
  has_mk G.d__law_bent sc__law_bent rfl fun f cdv A outer s0 H E hr => by
    have hu := hr.units
    have hu1 : _ + 1 < cLine := Nat.lt_of_le_of_lt (Nat.add_le_add_left (by decide : 1 ≤ 64) _) hu
    exact ⟨RD.t__law_bent s__law_draw s__law_some, (dss_cons (ds_set (i := 2) sc__law_bent.nd rfl (by first | exact .inl rfl | exact .inr rfl) (de_call H__law_draw hr (by rfl) (pasT (takes_of rfl rfl rfl rfl)) (da_cons (dv 0) (da_cons (de_add (de_len (by rfl) G.z_len (da_cons (dv 1) da_nil)) de_int) da_nil))))
      (dss_cons (ds_set (i := 3) sc__law_bent.nd rfl (by first | exact .inl rfl | exact .inr rfl) (de_lst (da_cons de_str (da_cons de_str (da_cons de_str (da_cons de_str (da_cons de_str (da_cons de_str (da_cons de_str (da_cons de_str (da_cons de_str (da_cons de_str (da_cons de_str (da_cons de_str (da_cons de_str (da_cons de_str (da_cons de_str (da_cons de_str (da_cons de_str (da_cons de_str (da_cons de_str da_nil)))))))))))))))))))))
      (dss_cons (ds_set (i := 4) sc__law_bent.nd rfl (by first | exact .inl rfl | exact .inr rfl) (de_call H__law_some hr (by rfl) (pasT (takes_of rfl rfl rfl rfl)) (da_cons (dv 0) (da_cons (dv 3) da_nil))))
      (dss_cons (ds_set (i := 5) sc__law_bent.nd rfl (by first | exact .inl rfl | exact .inr rfl) (de_call H__law_draw hr (by rfl) (pasT (takes_of rfl rfl rfl rfl)) (da_cons (dv 0) (da_cons de_int da_nil))))
      (dss_cons (ds_if (dt_cm (cm_eq hu) (nomark _) (dv 5) de_int) (dss_one (ds_ret (de_add (de_slice (dv 1) do_none (do_some (dv 2))) (de_slice (dv 1) (do_some (de_add (dv 2) de_int)) do_none)))) dss_nil)
      (dss_cons (ds_if (dt_cm (cm_eq hu) (nomark _) (dv 5) de_int) (dss_one (ds_ret (de_add (de_add (de_slice (dv 1) do_none (do_some (dv 2))) (dv 4)) (de_slice (dv 1) (do_some (de_add (dv 2) de_int)) do_none)))) dss_nil)
      (dss_cons (ds_if (dt_cm (cm_eq hu) (nomark _) (dv 5) de_int) (dss_cons (ds_set (i := 6) sc__law_bent.nd rfl (by first | exact .inl rfl | exact .inr rfl) (de_lst (da_cons de_str (da_cons de_str (da_cons de_str (da_cons de_str (da_cons de_str (da_cons de_str da_nil))))))))
      (dss_cons (ds_set (i := 6) sc__law_bent.nd rfl (by first | exact .inl rfl | exact .inr rfl) (de_add (dv 6) (de_lst (da_cons de_str (da_cons de_str (da_cons de_str (da_cons de_str da_nil)))))))
      (dss_cons (ds_set (i := 6) sc__law_bent.nd rfl (by first | exact .inl rfl | exact .inr rfl) (de_add (dv 6) (de_lst (da_cons de_str (da_cons de_str (da_cons de_str da_nil))))))
      (dss_cons (ds_set (i := 6) sc__law_bent.nd rfl (by first | exact .inl rfl | exact .inr rfl) (de_add (dv 6) (de_lst (da_cons de_str (da_cons de_str (da_cons de_str (da_cons de_str (da_cons de_str (da_cons de_str (da_cons de_str (da_cons de_str da_nil)))))))))))
      (dss_one (ds_ret (de_add (de_add (dv 1) (de_call H__law_some hr (by rfl) (pasT (takes_of rfl rfl rfl rfl)) (da_cons (dv 0) (da_cons (de_lst (da_cons de_str (da_cons de_str da_nil))) da_nil)))) (de_call H__law_some hr (by rfl) (pasT (takes_of rfl rfl rfl rfl)) (da_cons (dv 0) (da_cons (dv 6) da_nil)))))))))) dss_nil)
      (dss_one (ds_ret (de_add (de_add (de_slice (dv 1) do_none (do_some (dv 2))) (dv 4)) (de_slice (dv 1) (do_some (dv 2)) do_none))))))))))), hd⟩
theorem h_law {dsp : DSp} {s__law_hand : DSp} {s__law_draw : DSp} {s__law_some : DSp} {s__law_is : DSp} {s__law_deep : DSp} {s__law_part_text : DSp} {s__law_words : DSp} {s__law_due : DSp} {s__law_told : DSp} {s__law_bent : DSp} {f : Addr} {fd : FuncData} (G : Glob K mg c_stretched) (F : Fun K "law" "law" S_law f fd) (H__law_hand : Has P w K mg base k "_law_hand" 1 s__law_hand) (H__law_draw : Has P w K mg base k "_law_draw" 2 s__law_draw) (H__law_some : Has P w K mg base k "_law_some" 2 s__law_some) (H__law_is : Has P w K mg base k "_law_is" 2 s__law_is) (H__law_deep : Has P w K mg base k "_law_deep" 1 s__law_deep) (H__law_part_text : Has P w K mg base k "_law_part_text" 2 s__law_part_text) (H__law_words : Has P w K mg base k "_law_words" 1 s__law_words) (H__law_due : Has P w K mg base k "_law_due" 1 s__law_due) (H__law_told : Has P w K mg base k "_law_told" 1 s__law_told) (H__law_bent : Has P w K mg base k "_law_bent" 2 s__law_bent) (hd : Rd 1 dsp (RD.t_law_k03 s__law_hand s__law_draw s__law_some s__law_is s__law_deep s__law_part_text s__law_words s__law_due s__law_told s__law_bent) N_law) : FnOk P w K mg base (L2.CX P w) (k + 1) f fd ["script"] (liftSp K 1 dsp) :=
  fn_mk F sc_law rfl fun f cdv A outer s0 H E hr => by
    have hu := hr.units
    have hu1 : _ + 1 < cLine := Nat.lt_of_le_of_lt (Nat.add_le_add_left (by decide : 1 ≤ 64) _) hu
    exact ⟨RD.t_law_k03 s__law_hand s__law_draw s__law_some s__law_is s__law_deep s__law_part_text s__law_words s__law_due s__law_told s__law_bent, (dss_cons (ds_set (i := 1) sc_law.nd rfl (by first | exact .inl rfl | exact .inr rfl) (de_call H__law_hand hr (by rfl) (pasT (takes_of rfl rfl rfl rfl)) (da_cons (dv 0) da_nil)))
      (dss_cons (ds_for (passes_of rfl) rfl (di_range1 (by rfl) G.z_range (da_cons de_int da_nil)) (dg_name (i := 2) sc_law.nd rfl (by first | exact .inl rfl | exact .inr rfl)) (dss_cons (ds_set (i := 3) sc_law.nd rfl (by first | exact .inl rfl | exact .inr rfl) (de_lst da_nil))
      (dss_cons (ds_for (passes_of rfl) rfl (di_range1 (by rfl) G.z_range (da_cons (de_add de_int (de_call H__law_draw hr (by rfl) (pasT (takes_of rfl rfl rfl rfl)) (da_cons (dv 1) (da_cons de_int da_nil)))) da_nil)) (dg_name (i := 4) sc_law.nd rfl (by first | exact .inl rfl | exact .inr rfl)) (dss_cons (ds_setLc (i := 5) (own := [("k", 6)]) rfl sc_law.nd rfl rfl (sw_true rfl rfl rfl (by decide +kernel)) (di_range1 (by rfl) G.z_range (da_cons (de_add de_int (de_call H__law_draw hr (by rfl) (pasT (takes_of rfl rfl rfl rfl)) (da_cons (dv 1) (da_cons de_int da_nil)))) da_nil)) (blkOk_by (N := N_law) (sc := defScope S_law) (own := [("k", 6)]) (by decide +kernel)) (by decide) (fun _ _ _ _ _ => (dg_name (i := 6) sc_law.nd rfl (by first | exact .inl rfl | exact .inr rfl))) (fun _ _ _ _ _ => dts_nil) (fun _ _ _ _ _ => (de_call H__law_words hr (by rfl) pas0 (da_cons (dv 1) da_nil))))
      (dss_one (ds_expr (de_append (dv 3) (da_cons (de_bm PySem.F.plainAttrs_str PySem.F.slot_str_join PySem.F.type_str_join mt_join join_ok de_str (da_cons (de_lc (own := [("word", 7), ("version", 8)]) rfl sc_law.nd (di_seq (dv 5)) (blkOk_by (N := N_law) (sc := defScope S_law) (own := [("word", 7), ("version", 8)]) (by decide +kernel)) (by decide) (fun _ _ _ _ _ => (dg_tup (n := 2) rfl (dgs_cons (dg_name (i := 7) sc_law.nd rfl (by first | exact .inl rfl | exact .inr rfl)) (dgs_cons (dg_name (i := 8) sc_law.nd rfl (by first | exact .inl rfl | exact .inr rfl)) dgs_nil)))) (fun _ _ _ _ _ => dts_nil) (fun _ _ _ _ _ => (de_call H__law_part_text hr (by rfl) pas0 (da_cons (dv 7) (da_cons (dv 8) da_nil))))) da_nil)) da_nil))))))
      (dss_cons (ds_set (i := 9) sc_law.nd rfl (by first | exact .inl rfl | exact .inr rfl) (de_bm PySem.F.plainAttrs_str PySem.F.slot_str_join PySem.F.type_str_join mt_join join_ok de_str (da_cons (dv 3) da_nil)))
      (dss_cons (ds_for (passes_of rfl) rfl (di_range1 (by rfl) G.z_range (da_cons (de_call H__law_draw hr (by rfl) (pasT (takes_of rfl rfl rfl rfl)) (da_cons (dv 1) (da_cons de_int da_nil))) da_nil)) (dg_name (i := 10) sc_law.nd rfl (by first | exact .inl rfl | exact .inr rfl)) (dss_one (ds_set (i := 9) sc_law.nd rfl (by first | exact .inl rfl | exact .inr rfl) (de_call H__law_bent hr (by rfl) (pasT (takes_of rfl rfl rfl rfl)) (da_cons (dv 1) (da_cons (dv 9) da_nil))))))
      (dss_one (ds_if (dt_cm (cm_ne hu) (nomark _) (de_call H__law_told hr (by rfl) (pasT (takes_of rfl rfl rfl rfl)) (da_cons (dv 9) da_nil)) (de_call H__law_due hr (by rfl) (pasT (takes_of rfl rfl rfl rfl)) (da_cons (dv 9) da_nil))) (dss_one (ds_ret de_bl)) dss_nil)))))))
      (dss_cons (ds_set (i := 11) sc_law.nd rfl (by first | exact .inl rfl | exact .inr rfl) (de_call H__law_some hr (by rfl) (pasT (takes_of rfl rfl rfl rfl)) (da_cons (dv 1) (da_cons (de_lst (da_cons de_non (da_cons de_int (da_cons de_bl (da_cons (de_lst (da_cons de_str da_nil)) (da_cons (de_tup (da_cons de_str da_nil)) (da_cons de_dict0 (da_cons (de_tup (da_cons (de_tup (da_cons (de_tup (da_cons de_int (da_cons de_int (da_cons de_int da_nil)))) (da_cons de_non da_nil))) da_nil)) (da_cons (de_call H__law_deep hr (by rfl) (pasT (takes_of rfl rfl rfl rfl)) (da_cons de_int da_nil)) (da_cons (de_call H__law_deep hr (by rfl) (pasT (takes_of rfl rfl rfl rfl)) (da_cons de_int da_nil)) da_nil)))))))))) da_nil))))
      (dss_one (ds_ret (de_call H__law_is hr (by rfl) (pasT (takes_of rfl rfl rfl rfl)) (da_cons (de_call H__law_told hr (by rfl) (pasT (takes_of rfl rfl rfl rfl)) (da_cons (dv 11) da_nil)) (da_cons (de_neg de_int) da_nil)))))))), hd⟩
end
end Lk03
namespace CM
open PySem L2 PySem.Spec DL
open PyProof.Rows hiding St
mutual
def pu : D → Bool
  | .non => true
  | .int _ => true
  | .str x => PyData.strOk x
  | .tup ds => pus ds
  | _ => false
def pus : List D → Bool
  | [] => true
  | d :: ds => pu d && pus ds
end
mutual
def dp : D → Nat
  | .tup ds => dps ds + 1
  | _ => 0
def dps : List D → Nat
  | [] => 0
  | d :: ds => max (dp d) (dps ds)
end
mutual
def pd : D → PyData
  | .int i => .int i
  | .str x => .str x
  | .bl b => .bool b
  | .tup ds => .tuple (pds ds)
  | _ => .none
def pds : List D → List PyData
  | [] => []
  | d :: ds => pd d :: pds ds
end
mutual
theorem pd_depth : ∀ d, (pd d).depth = dp d
  | .non => by simp [pd, dp, PyData.depth]
  | .bl _ => by simp [pd, dp, PyData.depth]
  | .int _ => by simp [pd, dp, PyData.depth]
  | .str _ => by simp [pd, dp, PyData.depth]
  | .fls _ => by simp [pd, dp, PyData.depth]
  | .loc _ => by simp [pd, dp, PyData.depth]
  | .adr _ => by simp [pd, dp, PyData.depth]
  | .ty _ => by simp [pd, dp, PyData.depth]
  | .tup ds => by simp [pd, dp, PyData.depth, pds_depth ds]
theorem pds_depth : ∀ ds, PyData.depthAll (pds ds) = dps ds
  | [] => by simp [pds, dps, PyData.depthAll]
  | d :: ds => by simp [pds, dps, PyData.depthAll, pd_depth d, pds_depth ds]
end
mutual
theorem pd_lay : ∀ d, pu d = true → (pd d).canLay0 = true
  | .non, _ => by simp [pd, PyData.canLay0]
  | .int _, _ => by simp [pd, PyData.canLay0]
  | .str x, h => by simpa [pd, PyData.canLay0, pu] using h
  | .tup ds, h => by simpa [pd, PyData.canLay0] using pds_lay ds (by simpa [pu] using h)
  | .bl _, h => by simp [pu] at h
  | .fls _, h => by simp [pu] at h
  | .loc _, h => by simp [pu] at h
  | .adr _, h => by simp [pu] at h
  | .ty _, h => by simp [pu] at h
theorem pds_lay : ∀ ds, pus ds = true → PyData.canLayAll0 (pds ds) = true
  | [], _ => by simp [pds, PyData.canLayAll0]
  | d :: ds, h => by
    simp only [pus, Bool.and_eq_true] at h
    simp [pds, PyData.canLayAll0, pd_lay d h.1, pds_lay ds h.2]
end
theorem shaped_pd {d : D} (h : pu d = true) (hd : dp d ≤ 60) : SeqAt.shaped (pd d) = true := by
  unfold SeqAt.shaped
  rw [pd_lay d h, pd_depth d]
  simp
  omega
theorem mapM_pds {st : Sto} {n : Nat} (ih : ∀ d, pu d = true → dp d ≤ n → pdF st n d = some (pd d)) : ∀ ds : List D, pus ds = true → dps ds ≤ n → ds.mapM (pdF st n) = some (pds ds)
  | [], _, _ => rfl
  | d :: ds, h, hd => by
    simp only [pus, Bool.and_eq_true] at h
    simp only [dps] at hd
    rw [List.mapM_cons, ih d h.1 (by omega), mapM_pds ih ds h.2 (by omega)]
    rfl
theorem pdF_pd (st : Sto) : ∀ (n : Nat) (d : D), pu d = true → dp d ≤ n → pdF st n d = some (pd d) := by
  intro n
  induction n with
  | zero =>
    intro d h hd
    cases d <;> simp [pu, dp] at h hd <;> simp [pdF, pd]
  | succ n ih =>
    intro d h hd
    cases d <;> simp [pu, dp] at h hd <;> try simp [pdF, pd]
    rename_i ds
    rw [mapM_pds ih ds h (by omega)]
mutual
theorem eqv_pd : ∀ x y : D, pu x = true → pu y = true → (PyData.eqv (pd x) (pd y) = true ↔ x = y)
  | .non, y, _, hy => by cases y <;> simp [pu] at hy <;> simp [pd, PyData.eqv]
  | .int i, y, _, hy => by cases y <;> simp [pu] at hy <;> simp [pd, PyData.eqv]
  | .str x, y, _, hy => by cases y <;> simp [pu] at hy <;> simp [pd, PyData.eqv]
  | .tup ds, y, hx, hy => by
    cases y <;> simp [pu] at hx hy <;> simp [pd, PyData.eqv]
    exact eqv_pds ds _ hx hy
  | .bl _, _, h, _ => by simp [pu] at h
  | .fls _, _, h, _ => by simp [pu] at h
  | .loc _, _, h, _ => by simp [pu] at h
  | .adr _, _, h, _ => by simp [pu] at h
  | .ty _, _, h, _ => by simp [pu] at h
theorem eqv_pds : ∀ xs ys : List D, pus xs = true → pus ys = true → (PyData.eqvAll (pds xs) (pds ys) = true ↔ xs = ys)
  | [], [], _, _ => by simp [pds, PyData.eqvAll]
  | [], y :: ys, _, _ => by simp [pds, PyData.eqvAll]
  | x :: xs, [], _, _ => by simp [pds, PyData.eqvAll]
  | x :: xs, y :: ys, hx, hy => by
    simp only [pus, Bool.and_eq_true] at hx hy
    simp only [pds, PyData.eqvAll, Bool.and_eq_true, eqv_pd x y hx.1 hy.1, eqv_pds xs ys hx.2 hy.2, List.cons.injEq]
end
/-- == of plain data -/
theorem eq_plain {f : Bool → Bool} {x y : D} {st : Sto} {Q : DK} {b : Bool} (hx : pu x = true) (hy : pu y = true) (dx : dp x ≤ 60) (dy : dp y ≤ 60) (hb : b = true ↔ x = y) (q : Q (.bl (f b)) st) : dEqB f x y st Q := by
  unfold dEqB
  split
  · rename_i b' e
    have : b' = b := by
      cases x <;> cases y <;> simp [atomEq] at e <;> cases b <;> simp_all
    rw [this]; exact q
  · refine ⟨60, pd x, pd y, pdF_pd st 60 x hx dx, pdF_pd st 60 y hy dy, shaped_pd hx dx, shaped_pd hy dy, ?_⟩
    have : PyData.eqv (pd x) (pd y) = b := by
      have h := eqv_pd x y hx hy
      cases b <;> cases e : PyData.eqv (pd x) (pd y) <;> simp_all
    rw [this]; exact q
def vA (n : Nat) : Nat := n / 1000001 / 1000001
def vB (n : Nat) : Nat := n / 1000001 % 1000001
def vC (n : Nat) : Nat := n % 1000001
def mkV (a b c : Nat) : Nat := (a * 1000001 + b) * 1000001 + c
def vI (n : Nat) : List Int := [(vA n : Int), (vB n : Int), (vC n : Int)]
def encV (n : Nat) : D := .tup [.int (vA n), .int (vB n), .int (vC n)]
theorem mkV_eq (n : Nat) : mkV (vA n) (vB n) (vC n) = n := by unfold mkV vA vB vC; omega
theorem vA_mk {a b c : Nat} (hb : b < 1000001) (hc : c < 1000001) : vA (mkV a b c) = a := by unfold mkV vA; omega
theorem vB_mk {a b c : Nat} (hb : b < 1000001) (hc : c < 1000001) : vB (mkV a b c) = b := by unfold mkV vB; omega
theorem vC_mk {a b c : Nat} (hc : c < 1000001) : vC (mkV a b c) = c := by unfold mkV vC; omega
theorem vI_lt (m n : Nat) : vI m < vI n ↔ m < n := by
  unfold vI
  simp only [List.cons_lt_cons_iff, List.not_lt_nil, and_false, or_false]
  unfold vA vB vC
  omega
theorem vI_inj {m n : Nat} : vI m = vI n ↔ m = n := by
  constructor
  · intro h
    unfold vI at h
    simp only [List.cons.injEq, and_true] at h
    obtain ⟨h1, h2, h3⟩ := h
    rw [← mkV_eq m, ← mkV_eq n, Int.ofNat_inj.mp h1, Int.ofNat_inj.mp h2, Int.ofNat_inj.mp h3]
  · intro h; rw [h]
theorem encV_inj {m n : Nat} : encV m = encV n ↔ m = n := by
  rw [← vI_inj]
  unfold encV vI
  simp
theorem pu_encV (n : Nat) : pu (encV n) = true := by simp [encV, pu, pus]
theorem dp_encV (n : Nat) : dp (encV n) = 1 := by simp [encV, dp, dps]
theorem pd_encV (n : Nat) : pd (encV n) = .tuple ((vI n).map .int) := by simp [encV, pd, pds, vI]
theorem dataLt_encV (m n : Nat) : PySem.W.dataLt (pd (encV m)) (pd (encV n)) = decide (m < n) := by
  rw [pd_encV, pd_encV, PySem.W.dataLt_tuple]
  refine (PySem.W.dataLt_ints (vI m) (vI n)).trans ?_
  simp only [vI_lt]
theorem alike_encV (m n : Nat) : PySem.W.alike (pd (encV m)) (pd (encV n)) = true := by
  rw [pd_encV, pd_encV]
  simp [vI, PySem.W.alike, PySem.W.alikeAll]
section
variable {st : Sto} {Q : DK} {m n : Nat}
theorem pdF_encV (k : Nat) : pdF st k (encV n) = if k = 0 then none else some (pd (encV n)) := by
  cases k with
  | zero => rfl
  | succ k => rw [if_neg (Nat.succ_ne_zero k)]; exact pdF_pd st (k + 1) _ (pu_encV n) (by rw [dp_encV]; omega)
theorem ord_encV {f : Int → Int → Bool} {g : PyData → PyData → Bool} : dOrd f g (encV m) (encV n) st Q = Q (.bl (g (pd (encV m)) (pd (encV n)))) st := by
  show (∃ k d e, pdF st k (encV m) = some d ∧ pdF st k (encV n) = some e ∧ PySem.W.alike d e = true ∧ d ≠ .none ∧ d.depth ≤ 64 ∧ Q (.bl (g d e)) st) = _
  apply propext
  constructor
  · rintro ⟨k, d, e, h1, h2, _, _, _, q⟩
    rw [pdF_encV] at h1 h2
    split at h1
    · cases h1
    · rename_i hk
      rw [if_neg hk] at h2
      cases h1
      cases h2
      exact q
  · intro q
    refine ⟨1, _, _, pdF_encV 1, pdF_encV 1, alike_encV m n, ?_, ?_, q⟩
    · rw [pd_encV]; simp
    · rw [pd_depth, dp_encV]; decide
@[simp] theorem lt_encV : dLt (encV m) (encV n) st Q = Q (.bl (decide (m < n))) st := by rw [dLt, ord_encV, dataLt_encV]
@[simp] theorem gt_encV : dGt (encV m) (encV n) st Q = Q (.bl (decide (n < m))) st := by rw [dGt, ord_encV, dataLt_encV]
@[simp] theorem le_encV : dLe (encV m) (encV n) st Q = Q (.bl (decide (m ≤ n))) st := by
  rw [dLe, ord_encV, dataLt_encV]
  have : (!decide (n < m)) = decide (m ≤ n) := by
    by_cases h : n < m
    · simp [h]
    · simp [h]; omega
  rw [this]
theorem max_encV : dMax2 [encV m, encV n] st Q ↔ Q (encV (max m n)) st := by
  have hq : (if PySem.W.dataLt (pd (encV m)) (pd (encV n)) = true then encV n else encV m) = encV (max m n) := by
    rw [dataLt_encV]
    by_cases h : m < n
    · simp [h, Nat.max_eq_right (Nat.le_of_lt h)]
    · simp [h, Nat.max_eq_left (Nat.le_of_not_lt h)]
  constructor
  · rintro ⟨k, d, e, h1, h2, _, _, _, _, _, q⟩
    rw [pdF_encV] at h1 h2
    split at h1
    · cases h1
    · rename_i hk
      rw [if_neg hk] at h2
      cases h1
      cases h2
      rwa [hq] at q
  · intro q
    refine ⟨1, _, _, pdF_encV 1, pdF_encV 1, ⟨alike_encV m m, alike_encV m n, alike_encV n m, alike_encV n n⟩, ?_, ?_, ?_, ?_, ?_⟩
    · rw [pd_encV]; simp
    · rw [pd_encV]; simp
    · rw [pd_depth, dp_encV]; decide
    · rw [pd_depth, dp_encV]; decide
    · rw [hq]; exact q
end
@[simp] theorem isNon_encV {n : Nat} : isNonD (encV n) = false := rfl
def encO : Option Nat → D
  | none => .non
  | some n => encV n
abbrev Rng := List (Nat × Option Nat)
def encP (p : Nat × Option Nat) : D := .tup [encV p.1, encO p.2]
def encR (r : Rng) : D := .tup (r.map encP)
@[simp] theorem isNon_encO {o : Option Nat} : isNonD (encO o) = o.isNone := by cases o <;> rfl
theorem encO_inj {a b : Option Nat} : encO a = encO b ↔ a = b := by
  cases a <;> cases b <;> simp [encO, encV_inj] <;> simp [encV]
theorem encP_inj {p q : Nat × Option Nat} : encP p = encP q ↔ p = q := by
  obtain ⟨a, b⟩ := p
  obtain ⟨c, d⟩ := q
  simp [encP, encV_inj, encO_inj]
theorem encR_inj {r s : Rng} : encR r = encR s ↔ r = s := by
  unfold encR
  simp only [D.tup.injEq]
  constructor
  · intro h
    exact (List.map_inj_right fun _ _ h => encP_inj.mp h).mp h
  · intro h; rw [h]
end CM
namespace CM
open PySem L2 PySem.Spec DL
open PyProof.Rows hiding St
mutual
def ok (st : Sto) : D → Prop
  | .tup ds => oks st ds
  | .loc n => (∃ es, st[n]? = some (.lst es)) ∨ ∃ es, st[n]? = some (.dK es)
  | .adr _ => False
  | .ty _ => False
  | _ => True
def oks (st : Sto) : List D → Prop
  | [] => True
  | d :: ds => ok st d ∧ oks st ds
end
theorem oks_iff {st : Sto} : ∀ {ds : List D}, oks st ds ↔ ∀ d ∈ ds, ok st d
  | [] => by simp [oks]
  | d :: ds => by simp [oks, oks_iff (ds := ds)]
theorem ok_cases {st : Sto} {d : D} (h : ok st d) : d = .non ∨ (∃ b, d = .bl b) ∨ (∃ i, d = .int i) ∨ (∃ x, d = .str x) ∨ (∃ ds, d = .tup ds ∧ oks st ds) ∨ (∃ ds, d = .fls ds) ∨ (∃ n es, d = .loc n ∧ st[n]? = some (.lst es)) ∨ ∃ n es, d = .loc n ∧ st[n]? = some (.dK es) := by
  cases d <;> simp [ok] at h ⊢
  · exact h
  · exact h
/-- lists stay lists, dicts stay dicts -/
structure Kin (st st' : Sto) : Prop where
  lst : ∀ (n : Nat) es, st[n]? = some (.lst es) → ∃ es', st'[n]? = some (.lst es')
  dK : ∀ (n : Nat) es, st[n]? = some (.dK es) → ∃ es', st'[n]? = some (.dK es')
theorem Kin.app (st g : Sto) : Kin st (st ++ g) :=
  ⟨fun n es h => ⟨es, by rw [List.getElem?_append_left (List.getElem?_eq_some_iff.mp h).1]; exact h⟩, fun n es h => ⟨es, by rw [List.getElem?_append_left (List.getElem?_eq_some_iff.mp h).1]; exact h⟩⟩
theorem Kin.trans {st st1 st2 : Sto} (a : Kin st st1) (b : Kin st1 st2) : Kin st st2 :=
  ⟨fun n es h => let ⟨_, h1⟩ := a.lst n es h; b.lst n _ h1, fun n es h => let ⟨_, h1⟩ := a.dK n es h; b.dK n _ h1⟩
mutual
theorem ok_mono {st st' : Sto} (h : Kin st st') : ∀ {d : D}, ok st d → ok st' d
  | .tup ds, hd => by simp only [ok] at hd ⊢; exact oks_mono h hd
  | .loc n, hd => by
    simp only [ok] at hd ⊢
    rcases hd with ⟨es, e⟩ | ⟨es, e⟩
    · exact .inl (h.lst n es e)
    · exact .inr (h.dK n es e)
  | .non, _ => by simp [ok]
  | .bl _, _ => by simp [ok]
  | .int _, _ => by simp [ok]
  | .str _, _ => by simp [ok]
  | .fls _, _ => by simp [ok]
  | .adr _, hd => by simp [ok] at hd
  | .ty _, hd => by simp [ok] at hd
theorem oks_mono {st st' : Sto} (h : Kin st st') : ∀ {ds : List D}, oks st ds → oks st' ds
  | [], _ => by simp [oks]
  | d :: ds, hd => by
    simp only [oks] at hd ⊢
    exact ⟨ok_mono h hd.1, oks_mono h hd.2⟩
end
def numOf : D → Option Nat
  | .int i => if 0 ≤ i then some i.toNat else none
  | _ => none
def numMost (most : Nat) (d : D) : Option Nat := match numOf d with
  | some n => if n ≤ most then some n else none
  | none => none
def verM (most : Nat) : D → Option Nat
  | .tup [a, b, c] => match numMost most a, numMost most b, numMost most c with
    | some x, some y, some z => some (mkV x y z)
    | _, _, _ => none
  | _ => none
def intIs : D → Bool
  | .int _ => true
  | _ => false
def sp_is_integer : DSp := fun ds st Q _ => match ds with
  | [d] => ok st d ∧ Q (.bl (intIs d)) st
  | _ => False
def sp_is_number : DSp := fun ds st Q _ => match ds with
  | [d] => ok st d ∧ Q (.bl (numOf d).isSome) st
  | _ => False
def lenIs (i : Int) : D → Bool
  | .tup es => decide ((es.length : Int) = i)
  | _ => false
def sp_is_tuple_of : DSp := fun ds st Q _ => match ds with
  | [.int i, d] => ok st d ∧ Q (.bl (lenIs i d)) st
  | _ => False
def sp_is_version : DSp := fun ds st Q _ => match ds with
  | [d] => ok st d ∧ Q (.bl (verM 1000000 d).isSome) st
  | _ => False
section
variable {st : Sto} {Q : DK} {Z : DX → Sto → Prop} {d : D} {i : Int} {ds : List D}
@[simp] theorem e_is_integer : sp_is_integer [d] st Q Z = (ok st d ∧ Q (.bl (intIs d)) st) := rfl
@[simp] theorem e_is_number : sp_is_number [d] st Q Z = (ok st d ∧ Q (.bl (numOf d).isSome) st) := rfl
@[simp] theorem e_is_tuple_of : sp_is_tuple_of [.int i, d] st Q Z = (ok st d ∧ Q (.bl (lenIs i d)) st) := rfl
@[simp] theorem e_is_version : sp_is_version [d] st Q Z = (ok st d ∧ Q (.bl (verM 1000000 d).isSome) st) := rfl
@[simp] theorem lenIs_tup : lenIs i (.tup ds) = decide ((ds.length : Int) = i) := rfl
@[simp] theorem lenIs_non : lenIs i .non = false := rfl
@[simp] theorem lenIs_bl {b : Bool} : lenIs i (.bl b) = false := rfl
@[simp] theorem lenIs_int {b : Int} : lenIs i (.int b) = false := rfl
@[simp] theorem lenIs_str {b : Str} : lenIs i (.str b) = false := rfl
@[simp] theorem lenIs_fls : lenIs i (.fls ds) = false := rfl
@[simp] theorem lenIs_loc {n : Nat} : lenIs i (.loc n) = false := rfl
@[simp] theorem ok_non : ok st .non = True := rfl
@[simp] theorem ok_bl {b : Bool} : ok st (.bl b) = True := rfl
@[simp] theorem ok_int {b : Int} : ok st (.int b) = True := rfl
@[simp] theorem ok_str {b : Str} : ok st (.str b) = True := rfl
@[simp] theorem ok_fls : ok st (.fls ds) = True := rfl
@[simp] theorem ok_tup : ok st (.tup ds) = oks st ds := rfl
@[simp] theorem oks_nil : oks st [] = True := rfl
@[simp] theorem oks_cons : oks st (d :: ds) = (ok st d ∧ oks st ds) := rfl
theorem ok_lst {n : Nat} {es : List D} (h : st[n]? = some (.lst es)) : ok st (.loc n) := .inl ⟨es, h⟩
end
theorem r_is_integer : Rd 1 sp_is_integer RD.t_is_integer RD.N_is_integer := by
  intro ds st Q Z hl h
  match ds, hl with
  | [d], _ =>
    obtain ⟨ht, q⟩ := h
    unfold RD.t_is_integer
    rcases ok_cases ht with rfl | ⟨b, rfl⟩ | ⟨i, rfl⟩ | ⟨s, rfl⟩ | ⟨ds, rfl, _⟩ | ⟨ds, rfl⟩ | ⟨n, es, rfl, e⟩ | ⟨n, es, rfl, e⟩ <;> simp [tySub, *, tyN] <;> exact .inl q
theorem r_is_number : Rd 1 sp_is_number (RD.t_is_number sp_is_integer) RD.N_is_number := by
  intro ds st Q Z hl h
  match ds, hl with
  | [d], _ =>
    obtain ⟨ht, q⟩ := h
    unfold RD.t_is_number
    rcases ok_cases ht with rfl | ⟨b, rfl⟩ | ⟨i, rfl⟩ | ⟨s, rfl⟩ | ⟨ds, rfl, ho⟩ | ⟨ds, rfl⟩ | ⟨n, es, rfl, e⟩ | ⟨n, es, rfl, e⟩
    case inr.inr.inl =>
      simp [intIs]
      refine .inl ?_
      have : (numOf (.int i)).isSome = decide (0 ≤ i) := by
        unfold numOf
        by_cases hi : 0 ≤ i <;> simp [hi]
      rw [this] at q
      exact q
    all_goals simp [intIs, ht]; exact .inl q
theorem r_is_tuple_of : Rd 2 sp_is_tuple_of RD.t_is_tuple_of RD.N_is_tuple_of := by
  intro ds st Q Z hl h
  match ds, hl, h with
  | [.int i, d], _, h =>
    obtain ⟨ht, q⟩ := h
    unfold RD.t_is_tuple_of
    rcases ok_cases ht with rfl | ⟨b, rfl⟩ | ⟨i, rfl⟩ | ⟨s, rfl⟩ | ⟨ds, rfl, _⟩ | ⟨ds, rfl⟩ | ⟨n, es, rfl, e⟩ | ⟨n, es, rfl, e⟩ <;> simp [tySub, *, tyN] <;> exact .inl q
theorem verM_len {most : Nat} {ds : List D} (h : ds.length ≠ 3) : verM most (.tup ds) = none := by
  match ds, h with
  | [], _ => rfl
  | [_], _ => rfl
  | [_, _], _ => rfl
  | [_, _, _], h => exact absurd rfl h
  | _ :: _ :: _ :: _ :: _, _ => rfl
theorem num_some {d : D} {n : Nat} (h : numOf d = some n) : d = .int n := by
  unfold numOf at h
  split at h
  · rename_i i
    split at h
    · cases h
      rw [Int.toNat_of_nonneg (by assumption)]
    · cases h
  · cases h
theorem num_int {n : Nat} : numOf (.int n) = some n := by
  unfold numOf
  simp
theorem most_some {d : D} {most n : Nat} (h : numMost most d = some n) : d = .int n ∧ n ≤ most := by
  unfold numMost at h
  split at h
  · rename_i m e
    split at h
    · cases h
      exact ⟨num_some e, by assumption⟩
    · cases h
  · cases h
theorem most_int {n most : Nat} (h : n ≤ most) : numMost most (.int n) = some n := by
  unfold numMost
  rw [num_int]
  simp [h]
theorem r_is_version : Rd 1 sp_is_version (RD.t_is_version sp_is_number sp_is_tuple_of) RD.N_is_version := by
  intro ds st Q Z hl h
  match ds, hl with
  | [d], _ =>
    obtain ⟨ht, q⟩ := h
    unfold RD.t_is_version
    rcases ok_cases ht with rfl | ⟨b, rfl⟩ | ⟨i, rfl⟩ | ⟨s, rfl⟩ | ⟨ds, rfl, ho⟩ | ⟨ds, rfl⟩ | ⟨n, es, rfl, e⟩ | ⟨n, es, rfl, e⟩
    case inr.inr.inr.inr.inl =>
      by_cases hl : ds.length = 3
      · match ds, hl with
        | [a, b, c], _ =>
          simp [ht, runG_nil, runG_cons, RD.b_is_version_1] at ho q ⊢
          have hv : ∀ (h : numMost 1000000 a = none ∨ numMost 1000000 b = none ∨ numMost 1000000 c = none), DL.Back st Q (.bl false) st := fun h => by
            have e : (verM 1000000 (.tup [a, b, c])).isSome = false := by
              unfold verM
              rcases h with h | h | h <;> simp only [h]
              · rfl
              · cases numMost 1000000 a <;> rfl
              · cases numMost 1000000 a <;> cases numMost 1000000 b <;> rfl
            rw [e] at q
            exact .inl q
          have big : ∀ {n : Nat}, ¬ n ≤ 1000000 → numMost 1000000 (.int n) = none := fun h => by unfold numMost; rw [num_int]; simp [h]
          have nn : ∀ {x : D}, numOf x = none → numMost 1000000 x = none := fun h => by unfold numMost; rw [h]
          refine ⟨ho.1, ?_⟩
          cases e1 : numOf a with
          | none => simp; exact hv (.inl (nn e1))
          | some x =>
            obtain rfl := num_some e1
            by_cases h1 : x ≤ 1000000
            · have h1' : ¬ (1000000 : Int) < x := by omega
              simp [h1']
              refine ⟨ho.2.1, ?_⟩
              cases e2 : numOf b with
              | none => simp; exact hv (.inr (.inl (nn e2)))
              | some y =>
                obtain rfl := num_some e2
                by_cases h2 : y ≤ 1000000
                · have h2' : ¬ (1000000 : Int) < y := by omega
                  simp [h2']
                  refine ⟨ho.2.2, ?_⟩
                  cases e3 : numOf c with
                  | none => simp; exact hv (.inr (.inr (nn e3)))
                  | some z =>
                    obtain rfl := num_some e3
                    by_cases h3 : z ≤ 1000000
                    · have h3' : ¬ (1000000 : Int) < z := by omega
                      simp [h3']
                      have e : (verM 1000000 (.tup [.int (x : Int), .int (y : Int), .int (z : Int)])).isSome = true := by
                        simp only [verM, most_int h1, most_int h2, most_int h3, Option.isSome_some]
                      rw [e] at q
                      exact .inl q
                    · have h3' : (1000000 : Int) < z := by omega
                      simp [h3']
                      exact hv (.inr (.inr (big h3)))
                · have h2' : (1000000 : Int) < y := by omega
                  simp [h2']
                  exact hv (.inr (.inl (big h2)))
            · have h1' : (1000000 : Int) < x := by omega
              simp [h1']
              exact hv (.inl (big h1))
      · have h3 : ¬ ((ds.length : Int) = 3) := by omega
        simp [ho, verM_len hl, h3] at q ⊢
        exact .inl q
    all_goals
      simp [*]
      exact .inl q
end CM
namespace CM
open PySem L2 PySem.Spec DL
open PyProof.Rows hiding St
theorem verM_some {most n : Nat} {d : D} (hm : most ≤ 1000000) (h : verM most d = some n) : d = encV n ∧ vA n ≤ most ∧ vB n ≤ most ∧ vC n ≤ most := by
  unfold verM at h
  split at h
  · rename_i a b c
    split at h
    · rename_i x y z e1 e2 e3
      cases h
      obtain ⟨rfl, h1⟩ := most_some e1
      obtain ⟨rfl, h2⟩ := most_some e2
      obtain ⟨rfl, h3⟩ := most_some e3
      unfold encV
      rw [vA_mk (by omega) (by omega), vB_mk (by omega) (by omega), vC_mk (by omega)]
      exact ⟨rfl, h1, h2, h3⟩
    · cases h
  · cases h
theorem verM_enc {most n : Nat} (h1 : vA n ≤ most) (h2 : vB n ≤ most) (h3 : vC n ≤ most) : verM most (encV n) = some n := by
  unfold verM encV
  simp only [most_int h1, most_int h2, most_int h3, mkV_eq]
/-- versions as they may stand -/
def okV (n : Nat) : Prop := vA n ≤ 1000000
theorem vB_le (n : Nat) : vB n ≤ 1000000 := by unfold vB; omega
theorem vC_le (n : Nat) : vC n ≤ 1000000 := by unfold vC; omega
theorem ver_enc {n : Nat} (h : okV n) : verM 1000000 (encV n) = some n := verM_enc h (vB_le n) (vC_le n)
theorem ver_some {n : Nat} {d : D} (h : verM 1000000 d = some n) : d = encV n ∧ okV n := let ⟨a, b, _⟩ := verM_some (Nat.le_refl _) h; ⟨a, b⟩
/-- a pair of a range -/
def endOf : D → Option (Option Nat)
  | .non => some none
  | d => match verM 1000000 d with | some x => some (some x) | none => none
def pairOf : D → Option (Nat × Option Nat)
  | .tup [a, b] => match verM 1000000 a, endOf b with
    | some l, some none => some (l, none)
    | some l, some (some h) => if l < h then some (l, some h) else none
    | _, _ => none
  | _ => none
theorem pairOf_len {ds : List D} (h : ds.length ≠ 2) : pairOf (.tup ds) = none := by
  match ds, h with
  | [], _ => rfl
  | [_], _ => rfl
  | [_, _], h => exact absurd rfl h
  | _ :: _ :: _ :: _, _ => rfl
theorem endOf_some {d : D} {o : Option Nat} (h : endOf d = some o) : d = encO o ∧ ∀ x, o = some x → okV x := by
  unfold endOf at h
  split at h
  · cases h
    exact ⟨rfl, fun _ e => by cases e⟩
  · split at h
    · rename_i x e
      cases h
      obtain ⟨h1, h2⟩ := ver_some e
      exact ⟨h1, fun _ e => by cases e; exact h2⟩
    · cases h
def okP (p : Nat × Option Nat) : Prop := okV p.1 ∧ ∀ x, p.2 = some x → okV x ∧ p.1 < x
theorem pairOf_some {d : D} {p : Nat × Option Nat} (h : pairOf d = some p) : d = encP p ∧ okP p := by
  unfold pairOf at h
  split at h
  · rename_i a b
    split at h
    · rename_i l e1 e2
      cases h
      obtain ⟨rfl, h1⟩ := ver_some e1
      obtain ⟨rfl, h2⟩ := endOf_some e2
      exact ⟨rfl, h1, fun _ e => by cases e⟩
    · rename_i l x e1 e2
      split at h
      · cases h
        obtain ⟨rfl, h1⟩ := ver_some e1
        obtain ⟨rfl, h2⟩ := endOf_some e2
        exact ⟨rfl, h1, fun _ e => by cases e; exact ⟨h2 _ rfl, by assumption⟩⟩
      · cases h
    · cases h
  · cases h
theorem endOf_enc {o : Option Nat} (h : ∀ x, o = some x → okV x) : endOf (encO o) = some o := by
  cases o with
  | none => rfl
  | some x =>
    have e := ver_enc (h x rfl)
    unfold endOf
    rw [show encO (some x) = encV x from rfl]
    split
    · rename_i e'; exact absurd e' (by simp [encV])
    · rw [e]
theorem pairOf_enc {p : Nat × Option Nat} (h : okP p) : pairOf (encP p) = some p := by
  obtain ⟨l, o⟩ := p
  unfold pairOf encP
  dsimp only
  rw [ver_enc h.1, endOf_enc fun x e => (h.2 x e).1]
  cases o with
  | none => rfl
  | some x =>
    have := (h.2 x rfl).2
    dsimp only at this ⊢
    rw [if_pos this]
/-- a pair touches the one ahead -/
def touch : Option (Option Nat) → Nat → Bool
  | none, _ => false
  | some none, _ => true
  | some (some x), l => decide (l ≤ x)
def rngL : Option (Option Nat) → List D → Option Rng
  | _, [] => some []
  | prev, d :: ds => match pairOf d with
    | none => none
    | some (l, h) => if touch prev l then none else (rngL (some h) ds).map ((l, h) :: ·)
def rngOf : D → Option Rng
  | .tup ds => rngL none ds
  | _ => none
/-- each pair is one, and ends below the next -/
def okR : Option (Option Nat) → Rng → Prop
  | _, [] => True
  | prev, (l, h) :: r => okP (l, h) ∧ touch prev l = false ∧ okR (some h) r
theorem rngL_some : ∀ {ds : List D} {prev : Option (Option Nat)} {r : Rng}, rngL prev ds = some r → ds = r.map encP ∧ okR prev r
  | [], prev, r, h => by cases h; exact ⟨rfl, trivial⟩
  | d :: ds, prev, r, h => by
    unfold rngL at h
    split at h
    · cases h
    · rename_i l o e
      split at h
      · cases h
      · rename_i ht
        rw [Option.map_eq_some_iff] at h
        obtain ⟨s, h1, rfl⟩ := h
        obtain ⟨rfl, h2⟩ := pairOf_some e
        obtain ⟨rfl, h3⟩ := rngL_some h1
        exact ⟨rfl, h2, by simpa using ht, h3⟩
theorem rngL_enc : ∀ {r : Rng} {prev : Option (Option Nat)}, okR prev r → rngL prev (r.map encP) = some r
  | [], _, _ => rfl
  | (l, o) :: r, prev, h => by
    obtain ⟨h1, h2, h3⟩ := h
    rw [List.map_cons, rngL, pairOf_enc h1]
    dsimp only
    rw [h2, rngL_enc h3]
    rfl
abbrev wf (r : Rng) : Prop := okR none r
theorem rngOf_some {d : D} {r : Rng} (h : rngOf d = some r) : d = encR r ∧ wf r := by
  unfold rngOf at h
  split at h
  · obtain ⟨e, h2⟩ := rngL_some h
    exact ⟨by rw [e]; rfl, h2⟩
  · cases h
theorem rngOf_enc {r : Rng} (h : wf r) : rngOf (encR r) = some r := rngL_enc h
def sp_is_stretch : DSp := fun ds st Q _ => match ds with
  | [d] => ok st d ∧ Q (.bl (pairOf d).isSome) st
  | _ => False
def sp_reaches : DSp := fun ds st Q _ => match ds with
  | [d, e] => ∃ o l, d = encO o ∧ e = encV l ∧ Q (.bl (touch (some o) l)) st
  | _ => False
def sp_is_range : DSp := fun ds st Q _ => match ds with
  | [d] => ok st d ∧ Q (.bl (rngOf d).isSome) st
  | _ => False
def sp_whole : DSp := fun ds st Q _ => match ds with
  | [d] => ok st d ∧ Q (.bl (match d with | .int _ => true | _ => false)) st
  | _ => False
def sp_law_is_version : DSp := fun ds st Q _ => match ds with
  | [d, .int m] => ok st d ∧ ∃ most : Nat, m = most ∧ Q (.bl (verM most d).isSome) st
  | _ => False
section
variable {st : Sto} {Q : DK} {Z : DX → Sto → Prop} {d : D} {i : Int} {ds : List D} {o : Option Nat} {l : Nat}
@[simp] theorem e_is_stretch : sp_is_stretch [d] st Q Z = (ok st d ∧ Q (.bl (pairOf d).isSome) st) := rfl
@[simp] theorem e_reaches : sp_reaches [encO o, encV l] st Q Z = Q (.bl (touch (some o) l)) st := by
  apply propext
  constructor
  · rintro ⟨o', l', h1, h2, q⟩
    rw [encO_inj] at h1
    rw [encV_inj] at h2
    subst h1 h2
    exact q
  · intro q
    exact ⟨o, l, rfl, rfl, q⟩
@[simp] theorem e_is_range : sp_is_range [d] st Q Z = (ok st d ∧ Q (.bl (rngOf d).isSome) st) := rfl
@[simp] theorem e_whole : sp_whole [d] st Q Z = (ok st d ∧ Q (.bl (match d with | .int _ => true | _ => false)) st) := rfl
@[simp] theorem e_law_is_version {m : Nat} : sp_law_is_version [d, .int m] st Q Z = (ok st d ∧ Q (.bl (verM m d).isSome) st) := by
  apply propext
  constructor
  · rintro ⟨h, most, e, q⟩
    have : m = most := Int.ofNat_inj.mp e
    subst this
    exact ⟨h, q⟩
  · rintro ⟨h, q⟩
    exact ⟨h, m, rfl, q⟩
@[simp] theorem e_law_is_version1 : sp_law_is_version [d, .int 1000000] st Q Z = (ok st d ∧ Q (.bl (verM 1000000 d).isSome) st) := e_law_is_version (m := 1000000)
@[simp] theorem e_law_is_version2 : sp_law_is_version [d, .int 999999] st Q Z = (ok st d ∧ Q (.bl (verM 999999 d).isSome) st) := e_law_is_version (m := 999999)
@[simp] theorem ok_encV {n : Nat} : ok st (encV n) = True := by simp [encV]
@[simp] theorem ok_encO : ok st (encO o) = True := by cases o <;> simp [encO]
theorem ok_encPs : ∀ {r : Rng}, oks st (r.map encP)
  | [] => trivial
  | p :: r => ⟨by simp [encP], ok_encPs⟩
@[simp] theorem ok_encR {r : Rng} : ok st (encR r) = True := by simp [encR, ok_encPs]
end
theorem r_reaches : Rd 2 sp_reaches RD.t_reaches RD.N_reaches := by
  intro ds st Q Z hl h
  match ds, hl, h with
  | [d, e], _, h =>
    obtain ⟨o, l, rfl, rfl, q⟩ := h
    unfold RD.t_reaches
    cases o with
    | none => simp [touch] at q ⊢; exact .inl q
    | some x => simp [touch, encO] at q ⊢; exact .inl q
theorem r_is_stretch : Rd 1 sp_is_stretch (RD.t_is_stretch sp_is_tuple_of sp_is_version) RD.N_is_stretch := by
  intro ds st Q Z hl h
  match ds, hl with
  | [d], _ =>
    obtain ⟨ht, q⟩ := h
    unfold RD.t_is_stretch
    rcases ok_cases ht with rfl | ⟨b, rfl⟩ | ⟨i, rfl⟩ | ⟨s, rfl⟩ | ⟨ds, rfl, ho⟩ | ⟨ds, rfl⟩ | ⟨n, es, rfl, e⟩ | ⟨n, es, rfl, e⟩
    case inr.inr.inr.inr.inl =>
      by_cases hl : ds.length = 2
      · match ds, hl with
        | [a, b], _ =>
          simp at ho
          simp [ho]
          cases e1 : verM 1000000 a with
          | none =>
            simp [pairOf, e1] at q ⊢
            exact .inl q
          | some l =>
            obtain ⟨rfl, h1⟩ := ver_some e1
            cases e2 : endOf b with
            | none =>
              simp [pairOf, e1, e2] at q ⊢
              have e3 : isNonD b = false := by
                cases b <;> first | rfl | (simp [endOf] at e2; done)
              have e4 : verM 1000000 b = none := by
                unfold endOf at e2
                split at e2
                · cases e2
                · split at e2
                  · cases e2
                  · assumption
              simp [e3, e4]
              exact .inl q
            | some o =>
              obtain ⟨rfl, h2⟩ := endOf_some e2
              cases o with
              | none =>
                simp [pairOf, e1, e2] at q ⊢
                exact .inl q
              | some x =>
                have e4 := ver_enc (h2 x rfl)
                simp [pairOf, e1, e2] at q ⊢
                simp [encO, e4]
                by_cases hx : l < x
                · simp [hx] at q ⊢
                  exact .inl q
                · simp [hx] at q ⊢
                  exact .inl q
      · have h3 : ¬ ((ds.length : Int) = 2) := by omega
        simp [ho, pairOf_len hl, h3] at q ⊢
        exact .inl q
    all_goals
      simp [*]
      exact .inl q
end CM
namespace CM
open PySem L2 PySem.Spec DL
open PyProof.Rows hiding St
def enumFrom : Nat → List D → List D
  | _, [] => []
  | n, d :: ds => .tup [.int (n : Nat), d] :: enumFrom (n + 1) ds
theorem enumFrom_eq : ∀ (ds : List D) (n : Nat), ds.mapIdx (fun i d => D.tup [.int ((n + i : Nat) : Int), d]) = enumFrom n ds
  | [], _ => rfl
  | d :: ds, n => by
    rw [List.mapIdx_cons, enumFrom, ← enumFrom_eq ds (n + 1)]
    congr 1
    refine congrArg (fun f => List.mapIdx f ds) ?_
    funext i x
    have : n + (i + 1) = n + 1 + i := by omega
    rw [this]
theorem enumItems_eq (ds : List D) : enumItems ds = enumFrom 0 ds := by
  rw [← enumFrom_eq]
  unfold enumItems
  refine congrArg (fun f => List.mapIdx f ds) ?_
  funext i x
  rw [Nat.zero_add]
theorem atI_end {pre suf : List D} {p : D} : atI (pre ++ p :: suf) (pre.length : Int) = some p := atI_nat (by simp)
section
variable {st : Sto} {Q : DK} {Z : DX → Sto → Prop}
@[simp] theorem atI_0 {a : D} {ds : List D} : atI (a :: ds) 0 = some a := atI_nat (j := 0) rfl
@[simp] theorem atI_1 {a b : D} {ds : List D} : atI (a :: b :: ds) 1 = some b := atI_nat (j := 1) rfl
@[simp] theorem atI_2 {a b c : D} {ds : List D} : atI (a :: b :: c :: ds) 2 = some c := atI_nat (j := 2) rfl
/-- what stands ahead of a place -/
def ahead (pre : List D) (prev : Option (Option Nat)) : Prop := (pre = [] ∧ prev = none) ∨ ∃ pr l h, pre = pr ++ [encP (l, h)] ∧ prev = some h
theorem lp_is_range (E : DEnds) : ∀ (suf pre : List D) (prev : Option (Option Nat)) (x1 x2 : Option D), oks st suf → ahead pre prev →
    ((rngL prev suf).isSome = true → ∀ y1 y2, E.nx [some (.tup (pre ++ suf)), y1, y2] st) → ((rngL prev suf).isSome = false → E.rt (.bl false) st) →
    runG (gTup' 2 (gCons' (gN 1) (gCons' (gN 2) gNil'))) (RD.b_is_range_1 sp_is_stretch sp_reaches) E (fun _ => True) (enumFrom pre.length suf) [some (.tup (pre ++ suf)), x1, x2] st := by
  intro suf
  induction suf with
  | nil =>
    intro pre prev x1 x2 _ _ hy hn
    simp [enumFrom, runG_nil]
    simpa using hy rfl x1 x2
  | cons d suf ih =>
    intro pre prev x1 x2 ho hp hy hn
    simp at ho
    rw [enumFrom, runG_cons]
    refine ⟨trivial, ?_⟩
    simp only [s_gTup, s_gCons, s_gN, s_gNil]
    refine ⟨rfl, ?_⟩
    simp [RD.b_is_range_1, ho]
    cases e : pairOf d with
    | none => simp; exact hn (by simp [rngL, e])
    | some p =>
      obtain ⟨l, h⟩ := p
      obtain ⟨rfl, h1⟩ := pairOf_some e
      have no : touch prev l = true → E.rt (.bl false) st := fun ht => hn (by simp [rngL, e, ht])
      have go : touch prev l = false → ∀ x1 x2, runG (gTup' 2 (gCons' (gN 1) (gCons' (gN 2) gNil'))) (RD.b_is_range_1 sp_is_stretch sp_reaches) E (fun _ => True) (enumFrom (pre.length + 1) suf) [some (.tup (pre ++ encP (l, h) :: suf)), x1, x2] st := fun ht x1 x2 => by
        have := ih (pre ++ [encP (l, h)]) (some h) x1 x2 ho.2 (.inr ⟨pre, l, h, rfl, rfl⟩) (fun h' y1 y2 => by
          have := hy (by simpa [rngL, e, ht] using h') y1 y2
          simpa using this) fun h' => hn (by simpa [rngL, e, ht] using h')
        simpa using this
      rcases hp with ⟨rfl, rfl⟩ | ⟨pr, l0, h0, rfl, rfl⟩
      · simp
        exact go rfl _ _
      · have hat : atI (pr ++ encP (l0, h0) :: encP (l, h) :: suf) (pr.length : Int) = some (encP (l0, h0)) := atI_end
        have hix : (pr.length : Int) + 1 - 1 = pr.length := by omega
        simp [hat, hix]
        simp only [encP, s_ix_tup, atI_1, atI_0]
        simp
        cases ht : touch (some h0) l with
        | true => simp; exact no ht
        | false =>
          have := go ht (some (.int ((pr.length : Int) + 1))) (some (encP (l, h)))
          simp [encP] at this ⊢
          exact this
theorem r_is_range : Rd 1 sp_is_range (RD.t_is_range sp_is_stretch sp_reaches) RD.N_is_range := by
  intro ds st Q Z hl h
  match ds, hl with
  | [d], _ =>
    obtain ⟨ht, q⟩ := h
    unfold RD.t_is_range
    rcases ok_cases ht with rfl | ⟨b, rfl⟩ | ⟨i, rfl⟩ | ⟨s, rfl⟩ | ⟨ds, rfl, ho⟩ | ⟨ds, rfl⟩ | ⟨n, es, rfl, e⟩ | ⟨n, es, rfl, e⟩
    case inr.inr.inr.inr.inl =>
      simp [tySub, enumItems_eq]
      refine lp_is_range _ ds [] none none none ho (.inl ⟨rfl, rfl⟩) (fun h y1 y2 => ?_) fun h => ?_
      · simp [rngOf, h] at q ⊢
        exact .inl q
      · simp only [rngOf, h] at q
        exact .inl q
    all_goals
      simp [tySub, tyN, *]
      exact .inl q
end
end CM
namespace CM
open PySem L2 PySem.Spec DL
open PyProof.Rows hiding St
theorem getElem?_push {α : Type} {l : List α} {x : α} : (l ++ [x])[l.length]? = some x := by simp
end CM
namespace CM
def inP (p : Nat × Option Nat) (v : Nat) : Prop := p.1 ≤ v ∧ ∀ x, p.2 = some x → v < x
instance (p : Nat × Option Nat) (v : Nat) : Decidable (inP p v) := by
  unfold inP
  cases e : p.2 with
  | none => exact if h : p.1 ≤ v then .isTrue ⟨h, fun _ e => by cases e⟩ else .isFalse fun q => h q.1
  | some x => exact if h : p.1 ≤ v ∧ v < x then .isTrue ⟨h.1, fun _ e => by cases e; exact h.2⟩ else .isFalse fun q => h ⟨q.1, q.2 x rfl⟩
def Has : Rng → Nat → Prop
  | [], _ => False
  | p :: r, v => inP p v ∨ Has r v
instance decHas : ∀ (r : Rng) (v : Nat), Decidable (Has r v)
  | [], _ => .isFalse id
  | p :: r, v => match (inferInstance : Decidable (inP p v)), decHas r v with
    | .isTrue h, _ => .isTrue (.inl h)
    | .isFalse _, .isTrue h => .isTrue (.inr h)
    | .isFalse h, .isFalse k => .isFalse fun q => q.elim h k
theorem has_append : ∀ {r s : Rng} {v : Nat}, Has (r ++ s) v ↔ Has r v ∨ Has s v
  | [], s, v => by simp [Has]
  | p :: r, s, v => by simp [Has, has_append (r := r), or_assoc]
theorem has_iff {r : Rng} {v : Nat} : Has r v ↔ ∃ p ∈ r, inP p v := by
  induction r with
  | nil => simp [Has]
  | cons p r ih => simp [Has, ih]
/-- all lows are beyond what is ahead -/
theorem okR_low : ∀ {r : Rng} {prev : Option (Option Nat)}, okR prev r → ∀ p ∈ r, okP p ∧ touch prev p.1 = false
  | [], _, _, p, hp => by simp at hp
  | (l, h) :: r, prev, ⟨h1, h2, h3⟩, p, hp => by
    rcases List.mem_cons.mp hp with rfl | hp
    · exact ⟨h1, h2⟩
    · obtain ⟨q1, q2⟩ := okR_low h3 p hp
      refine ⟨q1, ?_⟩
      cases prev with
      | none => rfl
      | some o =>
        cases o with
        | none => exact h2
        | some x =>
          have hx : ¬ l ≤ x := by simpa [touch] using h2
          cases h with
          | none => simp [touch] at q2
          | some y =>
            have hy : ¬ p.1 ≤ y := by simpa [touch] using q2
            have := (h1.2 y rfl).2
            dsimp only at this
            simp [touch]
            omega
theorem okR_has {r : Rng} {x v : Nat} (h : okR (some (some x)) r) (hv : Has r v) : x < v := by
  obtain ⟨p, hp, h1, _⟩ := has_iff.mp hv
  have := (okR_low h p hp).2
  have : ¬ p.1 ≤ x := by simpa [touch] using this
  omega
theorem okR_none {r : Rng} (h : okR (some none) r) : r = [] := by
  cases r with
  | nil => rfl
  | cons p r => obtain ⟨l, o⟩ := p; have := h.2.1; simp [touch] at this
theorem okR_wf {r : Rng} {prev : Option (Option Nat)} (h : okR prev r) : wf r := by
  cases r with
  | nil => trivial
  | cons p r => exact ⟨h.1, rfl, h.2.2⟩
/-- two ranges that have the same are one -/
theorem has_uniq : ∀ {r s : Rng}, wf r → wf s → (∀ v, Has r v ↔ Has s v) → r = s
  | [], [], _, _, _ => rfl
  | [], (l, h) :: s, _, hs, e => by
    have : Has ((l, h) :: s) l := .inl ⟨Nat.le_refl _, fun x ex => (hs.1.2 x ex).2⟩
    exact ((e l).mpr this).elim
  | (l, h) :: r, [], hr, _, e => by
    have : Has ((l, h) :: r) l := .inl ⟨Nat.le_refl _, fun x ex => (hr.1.2 x ex).2⟩
    exact ((e l).mp this).elim
  | (l, h) :: r, (l', h') :: s, hr, hs, e => by
    have low : ∀ {l : Nat} {h : Option Nat} {r : Rng}, wf ((l, h) :: r) → ∀ {v}, Has ((l, h) :: r) v → l ≤ v := by
      intro l h r hr v hv
      rcases hv with ⟨q, _⟩ | hv
      · exact q
      · cases h with
        | none => rw [okR_none hr.2.2] at hv; exact hv.elim
        | some x =>
          have := okR_has hr.2.2 hv
          have := (hr.1.2 x rfl).2
          dsimp only at this
          omega
    have at' : ∀ {l : Nat} {h : Option Nat} {r : Rng}, wf ((l, h) :: r) → Has ((l, h) :: r) l := fun hr => .inl ⟨Nat.le_refl _, fun x ex => (hr.1.2 x ex).2⟩
    have el : l = l' := Nat.le_antisymm (low hr ((e l').mpr (at' hs))) (low hs ((e l).mp (at' hr)))
    subst el
    have gap : ∀ {l : Nat} {x : Nat} {r : Rng}, wf ((l, some x) :: r) → ¬ Has ((l, some x) :: r) x := by
      intro l x r hr hv
      rcases hv with ⟨_, q⟩ | hv
      · exact Nat.lt_irrefl _ (q x rfl)
      · exact Nat.lt_irrefl _ (okR_has hr.2.2 hv)
    have eh : h = h' := by
      cases h with
      | none =>
        cases h' with
        | none => rfl
        | some y =>
          have hy := (hs.1.2 y rfl).2
          dsimp only at hy
          exact (gap hs ((e y).mp (.inl ⟨Nat.le_of_lt hy, fun _ ex => by cases ex⟩))).elim
      | some x =>
        have hx := (hr.1.2 x rfl).2
        dsimp only at hx
        cases h' with
        | none => exact (gap hr ((e x).mpr (.inl ⟨Nat.le_of_lt hx, fun _ ex => by cases ex⟩))).elim
        | some y =>
          have hy := (hs.1.2 y rfl).2
          dsimp only at hy
          rcases Nat.lt_trichotomy x y with c | c | c
          · exact (gap hr ((e x).mpr (.inl ⟨Nat.le_of_lt hx, fun _ ex => by cases ex; exact c⟩))).elim
          · rw [c]
          · exact (gap hs ((e y).mp (.inl ⟨Nat.le_of_lt hy, fun _ ex => by cases ex; exact c⟩))).elim
    subst eh
    congr 1
    refine has_uniq (okR_wf hr.2.2) (okR_wf hs.2.2) fun v => ?_
    cases h with
    | none => rw [okR_none hr.2.2, okR_none hs.2.2]
    | some x =>
      constructor
      · intro hv
        have c := okR_has hr.2.2 hv
        rcases (e v).mp (.inr hv) with ⟨_, q⟩ | q
        · exact absurd (q x rfl) (by omega)
        · exact q
      · intro hv
        have c := okR_has hs.2.2 hv
        rcases (e v).mpr (.inr hv) with ⟨_, q⟩ | q
        · exact absurd (q x rfl) (by omega)
        · exact q
def outF : Option Nat → Rng → Rng
  | none, _ => []
  | some b, [] => [(b, none)]
  | some b, (l, h) :: r => if b < l then (b, some l) :: outF h r else outF h r
theorem outF_spec : ∀ (r : Rng) (b : Nat) (prev : Option (Option Nat)), okR prev r → okV b → ((prev = none ∧ b = 0) ∨ prev = some (some b)) →
    (∀ v, Has (outF (some b) r) v ↔ b ≤ v ∧ ¬ Has r v) ∧ ∀ q : Option (Option Nat), touch q b = false → okR q (outF (some b) r)
  | [], b, prev, _, hb, _ => by
    refine ⟨fun v => ?_, fun q hq => ⟨⟨hb, fun _ e => by cases e⟩, hq, trivial⟩⟩
    simp [outF, Has, inP]
  | (l, h) :: r, b, prev, ho, hb, hp => by
    have hbl : b ≤ l := by
      rcases hp with ⟨_, rfl⟩ | rfl
      · exact Nat.zero_le _
      · have := ho.2.1
        simp [touch] at this
        omega
    have step : (∀ v, Has (outF h r) v ↔ (∃ x, h = some x ∧ x ≤ v) ∧ ¬ Has r v) ∧ ∀ q, (∀ x, h = some x → touch q x = false) → okR q (outF h r) := by
      cases h with
      | none =>
        rw [okR_none ho.2.2]
        refine ⟨fun v => ?_, fun q _ => trivial⟩
        simp [outF, Has]
      | some x =>
        obtain ⟨s1, s2⟩ := outF_spec r x (some (some x)) ho.2.2 (ho.1.2 x rfl).1 (.inr rfl)
        exact ⟨fun v => by rw [s1]; simp, fun q hq => s2 q (hq x rfl)⟩
    have lx : ∀ x, h = some x → l < x := fun x ex => (ho.1.2 x ex).2
    have nr : ∀ v, Has r v → ∃ x, h = some x ∧ x < v := fun v hv => by
      cases h with
      | none => rw [okR_none ho.2.2] at hv; exact hv.elim
      | some x => exact ⟨x, rfl, okR_has ho.2.2 hv⟩
    have main : ∀ v, (∃ x, h = some x ∧ x ≤ v) ∧ ¬ Has r v ↔ l ≤ v ∧ ¬ Has ((l, h) :: r) v := fun v => by
      constructor
      · rintro ⟨⟨x, ex, hx⟩, hn⟩
        have := lx x ex
        refine ⟨by omega, ?_⟩
        rintro (⟨_, q⟩ | q)
        · have := q x ex
          omega
        · exact hn q
      · rintro ⟨h1, hn⟩
        refine ⟨?_, fun q => hn (.inr q)⟩
        cases h with
        | none => exact (hn (.inl ⟨h1, fun _ e => by cases e⟩)).elim
        | some x =>
          refine ⟨x, rfl, ?_⟩
          refine Nat.le_of_not_lt fun c => hn (.inl ⟨h1, fun _ e => by cases e; exact c⟩)
    unfold outF
    by_cases c : b < l
    · rw [if_pos c]
      refine ⟨fun v => ?_, fun q hq => ⟨⟨hb, fun x e => by cases e; exact ⟨ho.1.1, c⟩⟩, hq, step.2 _ fun x ex => by simp [touch]; exact lx x ex⟩⟩
      show inP (b, some l) v ∨ Has (outF h r) v ↔ _
      rw [step.1, main]
      constructor
      · rintro (⟨h1, h2⟩ | ⟨h1, h2⟩)
        · have := h2 l rfl
          refine ⟨h1, ?_⟩
          rintro (⟨q, _⟩ | q)
          · dsimp only at q; omega
          · obtain ⟨x, ex, hx⟩ := nr v q
            have := lx x ex
            omega
        · exact ⟨by omega, h2⟩
      · rintro ⟨h1, h2⟩
        by_cases hv : v < l
        · exact .inl ⟨h1, fun _ e => by cases e; exact hv⟩
        · exact .inr ⟨by omega, h2⟩
    · rw [if_neg c]
      have : b = l := by omega
      subst this
      refine ⟨fun v => ?_, fun q hq => step.2 q fun x ex => ?_⟩
      · rw [step.1, main]
      · have := lx x ex
        cases q with
        | none => rfl
        | some o =>
          cases o with
          | none => simp [touch] at hq
          | some y => simp [touch] at hq ⊢; omega
abbrev outR (r : Rng) : Rng := outF (some 0) r
theorem okV0 : okV 0 := by unfold okV vA; omega
theorem has_out {r : Rng} (h : wf r) (v : Nat) : Has (outR r) v ↔ ¬ Has r v := by
  rw [(outF_spec r 0 none h okV0 (.inl ⟨rfl, rfl⟩)).1]
  simp
theorem wf_out {r : Rng} (h : wf r) : wf (outR r) := (outF_spec r 0 none h okV0 (.inl ⟨rfl, rfl⟩)).2 none rfl
end CM
namespace CM
def laterE : Option Nat → Option Nat → Option Nat
  | some x, some y => some (max x y)
  | _, _ => none
def mF : Nat × Option Nat → Rng → Rng
  | cur, [] => [cur]
  | (b, e), (l, h) :: r => if touch (some e) l = true then mF (b, laterE e h) r else (b, e) :: mF (l, h) r
theorem mF_spec : ∀ (ps : Rng) (b : Nat) (e : Option Nat), okP (b, e) → (∀ p ∈ ps, okP p ∧ b ≤ p.1) → ps.Pairwise (fun p q => p.1 ≤ q.1) →
    (∀ v, Has (mF (b, e) ps) v ↔ Has ((b, e) :: ps) v) ∧ ∀ q : Option (Option Nat), touch q b = false → okR q (mF (b, e) ps)
  | [], b, e, ho, _, _ => ⟨fun _ => Iff.rfl, fun q hq => ⟨ho, hq, trivial⟩⟩
  | (l, h) :: r, b, e, ho, ha, hs => by
    obtain ⟨hs1, hs2⟩ := List.pairwise_cons.mp hs
    obtain ⟨hp, hl⟩ := ha (l, h) List.mem_cons_self
    dsimp only at hl
    have hr : ∀ p ∈ r, okP p ∧ l ≤ p.1 := fun p hp => ⟨(ha p (List.mem_cons_of_mem _ hp)).1, hs1 p hp⟩
    unfold mF
    by_cases ht : touch (some e) l = true
    · rw [if_pos ht]
      have hok : okP (b, laterE e h) := by
        refine ⟨ho.1, fun x ex => ?_⟩
        cases e with
        | none => simp [laterE] at ex
        | some y =>
          cases h with
          | none => simp [laterE] at ex
          | some z =>
            simp only [laterE, Option.some.injEq] at ex
            have h1 := ho.2 y rfl
            have h2 := hp.2 z rfl
            dsimp only at h1 h2
            subst ex
            rcases Nat.le_total y z with c | c
            · rw [Nat.max_eq_right c]; exact ⟨h2.1, by omega⟩
            · rw [Nat.max_eq_left c]; exact ⟨h1.1, by omega⟩
      obtain ⟨m1, m2⟩ := mF_spec r b (laterE e h) hok (fun p hp' => ⟨(hr p hp').1, Nat.le_trans hl (hr p hp').2⟩) hs2
      refine ⟨fun v => ?_, m2⟩
      rw [m1]
      show inP (b, laterE e h) v ∨ Has r v ↔ inP (b, e) v ∨ inP (l, h) v ∨ Has r v
      rw [← or_assoc]
      have : inP (b, laterE e h) v ↔ inP (b, e) v ∨ inP (l, h) v := by
        unfold inP
        cases e with
        | none =>
          simp only [laterE]
          constructor
          · intro q; exact .inl ⟨q.1, fun _ e => by cases e⟩
          · rintro (q | q)
            · exact ⟨q.1, fun _ e => by cases e⟩
            · exact ⟨Nat.le_trans hl q.1, fun _ e => by cases e⟩
        | some y =>
          have hy : l ≤ y := by simpa [touch] using ht
          have hby := (ho.2 y rfl).2
          dsimp only at hby
          cases h with
          | none =>
            simp only [laterE]
            constructor
            · intro q
              by_cases c : v < y
              · exact .inl ⟨q.1, fun _ e => by cases e; exact c⟩
              · refine .inr ⟨?_, fun _ e => by cases e⟩
                show l ≤ v
                omega
            · rintro (q | q)
              · exact ⟨q.1, fun _ e => by cases e⟩
              · exact ⟨Nat.le_trans hl q.1, fun _ e => by cases e⟩
          | some z =>
            simp only [laterE, Option.some.injEq, forall_eq']
            omega
      rw [this]
    · rw [if_neg ht]
      obtain ⟨m1, m2⟩ := mF_spec r l h hp hr hs2
      refine ⟨fun v => ?_, fun q hq => ⟨ho, hq, m2 _ (by simpa using ht)⟩⟩
      show inP (b, e) v ∨ Has (mF (l, h) r) v ↔ _
      rw [m1]
      exact Iff.rfl
def leP (p q : Nat × Option Nat) : Bool := decide (p.1 ≤ q.1)
def sortP (ps : Rng) : Rng := ps.mergeSort leP
def stF : Rng → Rng
  | [] => []
  | p :: r => mF p r
def strR (ps : Rng) : Rng := stF (sortP ps)
theorem str_spec {ps : Rng} (h : ∀ p ∈ ps, okP p) : (∀ v, Has (strR ps) v ↔ Has ps v) ∧ wf (strR ps) := by
  have hp : (sortP ps).Perm ps := List.mergeSort_perm ps leP
  have hs : (sortP ps).Pairwise (fun p q => p.1 ≤ q.1) := by
    have := List.pairwise_mergeSort (le := leP) (fun a b c h1 h2 => by simp [leP] at h1 h2 ⊢; omega) (fun a b => by simp [leP]; omega) ps
    exact this.imp fun h => by simpa [leP] using h
  have hm : ∀ v, Has (sortP ps) v ↔ Has ps v := fun v => by
    rw [has_iff, has_iff]
    constructor
    · rintro ⟨p, h1, h2⟩; exact ⟨p, hp.mem_iff.mp h1, h2⟩
    · rintro ⟨p, h1, h2⟩; exact ⟨p, hp.mem_iff.mpr h1, h2⟩
  have ho : ∀ p ∈ sortP ps, okP p := fun p h' => h p (hp.mem_iff.mp h')
  unfold strR
  generalize sortP ps = qs at *
  cases qs with
  | nil => exact ⟨hm, trivial⟩
  | cons q r =>
    obtain ⟨b, e⟩ := q
    obtain ⟨h1, h2⟩ := List.pairwise_cons.mp hs
    obtain ⟨m1, m2⟩ := mF_spec r b e (ho _ List.mem_cons_self) (fun p hp => ⟨ho p (List.mem_cons_of_mem _ hp), h1 p hp⟩) h2
    exact ⟨fun v => by rw [show stF ((b, e) :: r) = mF (b, e) r from rfl, m1, hm], m2 none rfl⟩
abbrev eitherR (r s : Rng) : Rng := strR (r ++ s)
abbrev bothR (r s : Rng) : Rng := outR (eitherR (outR r) (outR s))
theorem okP_of {r : Rng} (h : wf r) : ∀ p ∈ r, okP p := fun p hp => (okR_low h p hp).1
theorem okP_app {r s : Rng} (h : wf r) (h2 : wf s) : ∀ p ∈ r ++ s, okP p := fun p hp => (List.mem_append.mp hp).elim (okP_of h p) (okP_of h2 p)
theorem has_either {r s : Rng} (h : wf r) (h2 : wf s) (v : Nat) : Has (eitherR r s) v ↔ Has r v ∨ Has s v := by
  rw [(str_spec (okP_app h h2)).1, has_append]
theorem wf_either {r s : Rng} (h : wf r) (h2 : wf s) : wf (eitherR r s) := (str_spec (okP_app h h2)).2
theorem has_both {r s : Rng} (h : wf r) (h2 : wf s) (v : Nat) : Has (bothR r s) v ↔ Has r v ∧ Has s v := by
  rw [has_out (wf_either (wf_out h) (wf_out h2)), has_either (wf_out h) (wf_out h2), has_out h, has_out h2]
  by_cases a : Has r v <;> by_cases b : Has s v <;> simp [a, b]
theorem wf_both {r s : Rng} (h : wf r) (h2 : wf s) : wf (bothR r s) := wf_out (wf_either (wf_out h) (wf_out h2))
def endsOf : Rng → List Nat
  | [] => []
  | (l, none) :: r => l :: endsOf r
  | (l, some x) :: r => l :: x :: endsOf r
theorem ends_mem {r : Rng} {m : Nat} : m ∈ endsOf r ↔ ∃ p ∈ r, m = p.1 ∨ p.2 = some m := by
  induction r with
  | nil => simp [endsOf]
  | cons p r ih =>
    obtain ⟨l, o⟩ := p
    cases o with
    | none => simp [endsOf, ih]
    | some x =>
      simp only [endsOf, List.mem_cons, ih]
      constructor
      · rintro (rfl | rfl | ⟨q, h1, h2⟩)
        · exact ⟨_, .inl rfl, .inl rfl⟩
        · exact ⟨_, .inl rfl, .inr rfl⟩
        · exact ⟨q, .inr h1, h2⟩
      · rintro ⟨q, rfl | h1, h2⟩
        · rcases h2 with h2 | h2
          · exact .inl h2
          · cases h2; exact .inr (.inl rfl)
        · exact .inr (.inr ⟨q, h1, h2⟩)
/-- between two ends nothing changes -/
theorem has_same {r : Rng} {m v : Nat} (hmv : m ≤ v) (h : ∀ e ∈ endsOf r, ¬ (m < e ∧ e ≤ v)) : Has r v ↔ Has r m := by
  rw [has_iff, has_iff]
  constructor
  · rintro ⟨p, hp, h1, h2⟩
    refine ⟨p, hp, ?_, fun x ex => ?_⟩
    · have := h p.1 (ends_mem.mpr ⟨p, hp, .inl rfl⟩)
      omega
    · have := h2 x ex
      omega
  · rintro ⟨p, hp, h1, h2⟩
    refine ⟨p, hp, by omega, fun x ex => ?_⟩
    have := h x (ends_mem.mpr ⟨p, hp, .inr ex⟩)
    have := h2 x ex
    omega
/-- stretches from marks and flags -/
def mkF (f : Nat → Bool) : Option Nat → List Nat → Rng
  | none, [] => []
  | some b, [] => [(b, none)]
  | none, m :: r => if f m = true then mkF f (some m) r else mkF f none r
  | some b, m :: r => if f m = true then mkF f (some b) r else (b, some m) :: mkF f none r
theorem mkF_spec (f : Nat → Bool) : ∀ (ms : List Nat) (o : Option Nat) (c : Nat), ms.Pairwise (· < ·) → (∀ m ∈ ms, c < m ∧ okV m) → (∀ b, o = some b → b ≤ c ∧ okV b) →
    (∀ v, c ≤ v → (Has (mkF f o ms) v ↔ if (∃ m ∈ ms, m ≤ v) then (∃ m ∈ ms, m ≤ v ∧ (∀ k ∈ ms, k ≤ v → k ≤ m) ∧ f m = true) else o.isSome = true)) ∧
    ∀ q : Option (Option Nat), (∀ b, o = some b → touch q b = false) → (o = none → ∀ m ∈ ms, touch q m = false) → okR q (mkF f o ms)
  | [], none, c, _, _, _ => ⟨fun v _ => by simp [mkF, Has], fun q _ _ => trivial⟩
  | [], some b, c, _, _, hb => ⟨fun v hv => by
      have := (hb b rfl).1
      simp [mkF, Has, inP]
      omega, fun q hq _ => ⟨⟨(hb b rfl).2, fun _ e => by cases e⟩, hq b rfl, trivial⟩⟩
  | m :: ms, o, c, hs, hm, hb => by
    obtain ⟨hs1, hs2⟩ := List.pairwise_cons.mp hs
    have hcm := hm m List.mem_cons_self
    have hm' : ∀ k ∈ ms, m < k ∧ okV k := fun k hk => ⟨hs1 k hk, (hm k (List.mem_cons_of_mem _ hk)).2⟩
    -- the reading of the whole by that of the rest
    have join : ∀ (o' : Option Nat) (v : Nat), m ≤ v → o'.isSome = f m → ((if (∃ k ∈ ms, k ≤ v) then (∃ k ∈ ms, k ≤ v ∧ (∀ j ∈ ms, j ≤ v → j ≤ k) ∧ f k = true) else o'.isSome = true) ↔
        if (∃ k ∈ m :: ms, k ≤ v) then (∃ k ∈ m :: ms, k ≤ v ∧ (∀ j ∈ m :: ms, j ≤ v → j ≤ k) ∧ f k = true) else o.isSome = true) := by
      intro o' v hv ho'
      rw [if_pos (show ∃ k ∈ m :: ms, k ≤ v from ⟨m, List.mem_cons_self, hv⟩)]
      by_cases hex : ∃ k ∈ ms, k ≤ v
      · rw [if_pos hex]
        constructor
        · rintro ⟨k, h1, h2, h3, h4⟩
          refine ⟨k, List.mem_cons_of_mem _ h1, h2, fun j hj hjv => ?_, h4⟩
          rcases List.mem_cons.mp hj with rfl | hj
          · exact Nat.le_of_lt (hs1 k h1)
          · exact h3 j hj hjv
        · rintro ⟨k, h1, h2, h3, h4⟩
          rcases List.mem_cons.mp h1 with rfl | h1
          · obtain ⟨j, hj, hjv⟩ := hex
            have := h3 j (List.mem_cons_of_mem _ hj) hjv
            have := hs1 j hj
            omega
          · exact ⟨k, h1, h2, fun j hj hjv => h3 j (List.mem_cons_of_mem _ hj) hjv, h4⟩
      · rw [if_neg hex, ho']
        constructor
        · intro h
          refine ⟨m, List.mem_cons_self, hv, fun j hj hjv => ?_, h⟩
          rcases List.mem_cons.mp hj with rfl | hj
          · exact Nat.le_refl _
          · exact (hex ⟨j, hj, hjv⟩).elim
        · rintro ⟨k, h1, h2, h3, h4⟩
          rcases List.mem_cons.mp h1 with rfl | h1
          · exact h4
          · exact (hex ⟨k, h1, h2⟩).elim
    have below : ∀ v, ¬ m ≤ v → ¬ ∃ k ∈ m :: ms, k ≤ v := fun v hv ⟨k, h1, h2⟩ => by
      rcases List.mem_cons.mp h1 with rfl | h1
      · exact hv h2
      · have := hs1 k h1; omega
    cases o with
    | none =>
      cases hf : f m with
      | true =>
        obtain ⟨a1, a2⟩ := mkF_spec f ms (some m) m hs2 hm' fun b e => by cases e; exact ⟨Nat.le_refl _, hcm.2⟩
        refine ⟨fun v hv => ?_, fun q _ hq => ?_⟩
        · rw [mkF, if_pos hf]
          by_cases hmv : m ≤ v
          · rw [a1 v hmv]; exact join (some m) v hmv (by rw [hf]; rfl)
          · rw [if_neg (below v hmv)]
            simp only [Option.isSome_none, Bool.false_eq_true, iff_false]
            intro hv'
            have : okR none (mkF f (some m) ms) := a2 none (fun _ _ => rfl) fun e => by cases e
            obtain ⟨p, hp, h1, _⟩ := has_iff.mp hv'
            have hq := a2 (some (some v)) (fun b e => by cases e; simp [touch]; omega) fun e => by cases e
            have := (okR_low hq p hp).2
            simp [touch] at this
            omega
        · rw [mkF, if_pos hf]
          exact a2 q (fun b e => by cases e; exact hq rfl m List.mem_cons_self) fun e => by cases e
      | false =>
        obtain ⟨a1, a2⟩ := mkF_spec f ms none m hs2 hm' fun b e => by cases e
        refine ⟨fun v hv => ?_, fun q _ hq => ?_⟩
        · rw [mkF, if_neg (by rw [hf]; decide)]
          by_cases hmv : m ≤ v
          · rw [a1 v hmv]; exact join none v hmv (by rw [hf]; rfl)
          · rw [if_neg (below v hmv)]
            simp only [Option.isSome_none, Bool.false_eq_true, iff_false]
            intro hv'
            obtain ⟨p, hp, h1, _⟩ := has_iff.mp hv'
            have hq := a2 (some (some v)) (fun b e => by cases e) fun _ k hk => by have := hs1 k hk; simp [touch]; omega
            have := (okR_low hq p hp).2
            simp [touch] at this
            omega
        · rw [mkF, if_neg (by rw [hf]; decide)]
          exact a2 q (fun b e => by cases e) fun _ k hk => hq rfl k (List.mem_cons_of_mem _ hk)
    | some b =>
      have hbc := hb b rfl
      cases hf : f m with
      | true =>
        obtain ⟨a1, a2⟩ := mkF_spec f ms (some b) m hs2 hm' fun b' e => by cases e; exact ⟨by omega, hbc.2⟩
        refine ⟨fun v hv => ?_, fun q hq _ => ?_⟩
        · rw [mkF, if_pos hf]
          by_cases hmv : m ≤ v
          · rw [a1 v hmv]; exact join (some b) v hmv (by rw [hf]; rfl)
          · rw [if_neg (below v hmv)]
            obtain ⟨c1, _⟩ := mkF_spec f ms (some b) c hs2 (fun k hk => ⟨by have := hm k (List.mem_cons_of_mem _ hk); omega, (hm' k hk).2⟩) fun b' e => by cases e; exact hbc
            rw [c1 v hv, if_neg fun ⟨k, h1, h2⟩ => by have := hs1 k h1; omega]
        · rw [mkF, if_pos hf]
          exact a2 q hq fun e => by cases e
      | false =>
        obtain ⟨a1, a2⟩ := mkF_spec f ms none m hs2 hm' fun b e => by cases e
        have hlow : ∀ v, Has (mkF f none ms) v → m < v := fun v hv' => by
          obtain ⟨p, hp, h1, _⟩ := has_iff.mp hv'
          have hq := a2 (some (some m)) (fun b e => by cases e) fun _ k hk => by have := hs1 k hk; simp [touch]; omega
          have := (okR_low hq p hp).2
          simp [touch] at this
          omega
        refine ⟨fun v hv => ?_, fun q hq _ => ?_⟩
        · rw [mkF, if_neg (by rw [hf]; decide)]
          show inP (b, some m) v ∨ Has (mkF f none ms) v ↔ _
          by_cases hmv : m ≤ v
          · rw [← join none v hmv (by rw [hf]; rfl), ← a1 v hmv]
            constructor
            · rintro (⟨_, h⟩ | h)
              · have := h m rfl; omega
              · exact h
            · exact .inr
          · rw [if_neg (below v hmv)]
            simp only [Option.isSome_some, iff_true]
            exact .inl ⟨by dsimp only; omega, fun x e => by cases e; omega⟩
        · rw [mkF, if_neg (by rw [hf]; decide)]
          refine ⟨⟨hbc.2, fun x e => by cases e; exact ⟨hcm.2, by dsimp only; omega⟩⟩, hq b rfl, a2 _ (fun b e => by cases e) fun _ k hk => ?_⟩
          have := hs1 k hk
          simp [touch]
          omega
/-- the range of marks and flags -/
abbrev mkR (f : Nat → Bool) (ms : List Nat) : Rng := mkF f none ms
/-- what the law makes of all marks: just what the flag says, where it changes at marks alone -/
theorem mkR_spec {f : Nat → Bool} {ms : List Nat} (hs : (0 :: ms).Pairwise (· < ·)) (hm : ∀ m ∈ ms, okV m) (hf : ∀ m v, m ≤ v → (∀ e ∈ 0 :: ms, ¬ (m < e ∧ e ≤ v)) → f v = f m) :
    (∀ v, Has (mkR f (0 :: ms)) v ↔ f v = true) ∧ wf (mkR f (0 :: ms)) := by
  obtain ⟨hs1, hs2⟩ := List.pairwise_cons.mp hs
  -- the first mark stands at nothing: begin one step in
  have key : ∀ o : Option Nat, (∀ b, o = some b → b = 0) → o.isSome = f 0 → (∀ v, Has (mkF f o ms) v ↔ f v = true) ∧ wf (mkF f o ms) := fun o ho hof => by
    obtain ⟨a1, a2⟩ := mkF_spec f ms o 0 hs2 (fun m h => ⟨hs1 m h, hm m h⟩) fun b e => by rw [ho b e]; exact ⟨Nat.le_refl _, okV0⟩
    refine ⟨fun v => ?_, a2 none (fun _ _ => rfl) fun _ _ _ => rfl⟩
    rw [a1 v (Nat.zero_le v)]
    by_cases hex : ∃ m ∈ ms, m ≤ v
    · rw [if_pos hex]
      constructor
      · rintro ⟨m, h1, h2, h3, h4⟩
        rw [hf m v h2 fun e he ⟨q1, q2⟩ => ?_]
        · exact h4
        · rcases List.mem_cons.mp he with rfl | he
          · omega
          · have := h3 e he q2
            omega
      · intro hv
        -- the last mark up to v
        have : ∀ l : List Nat, (∃ m ∈ l, m ≤ v) → ∃ m ∈ l, m ≤ v ∧ ∀ k ∈ l, k ≤ v → k ≤ m := by
          intro l
          induction l with
          | nil => rintro ⟨m, h, _⟩; simp at h
          | cons x l ih =>
            rintro ⟨m, h1, h2⟩
            by_cases hl : ∃ m ∈ l, m ≤ v
            · obtain ⟨k, k1, k2, k3⟩ := ih hl
              by_cases hx : x ≤ v ∧ k < x
              · refine ⟨x, List.mem_cons_self, hx.1, fun j hj hjv => ?_⟩
                rcases List.mem_cons.mp hj with rfl | hj
                · exact Nat.le_refl _
                · have := k3 j hj hjv; omega
              · refine ⟨k, List.mem_cons_of_mem _ k1, k2, fun j hj hjv => ?_⟩
                rcases List.mem_cons.mp hj with rfl | hj
                · omega
                · exact k3 j hj hjv
            · refine ⟨m, h1, h2, fun j hj hjv => ?_⟩
              rcases List.mem_cons.mp h1 with rfl | h1
              · rcases List.mem_cons.mp hj with rfl | hj
                · exact Nat.le_refl _
                · exact (hl ⟨j, hj, hjv⟩).elim
              · exact (hl ⟨m, h1, h2⟩).elim
        obtain ⟨m, h1, h2, h3⟩ := this ms hex
        refine ⟨m, h1, h2, h3, ?_⟩
        rw [← hf m v h2 fun e he ⟨q1, q2⟩ => ?_]
        · exact hv
        · rcases List.mem_cons.mp he with rfl | he
          · omega
          · have := h3 e he q2
            omega
    · rw [if_neg hex, hof]
      rw [hf 0 v (Nat.zero_le v) fun e he ⟨q1, q2⟩ => ?_]
      rcases List.mem_cons.mp he with rfl | he
      · omega
      · exact hex ⟨e, he, q2⟩
  unfold mkR
  rw [mkF]
  cases h0 : f 0 with
  | true => rw [if_pos rfl]; exact key (some 0) (fun b e => by cases e; rfl) (by rw [h0]; rfl)
  | false => rw [if_neg (by decide)]; exact key none (fun b e => by cases e) (by rw [h0]; rfl)
/-- marks: 0 and all ends, ascending, each once -/
def IsMarks (ms : List Nat) (rs : List Rng) : Prop := ms.Pairwise (· < ·) ∧ ∀ m, m ∈ ms ↔ m = 0 ∨ ∃ r ∈ rs, m ∈ endsOf r
theorem ends_ok {r : Rng} (h : wf r) {m : Nat} (hm : m ∈ endsOf r) : okV m := by
  obtain ⟨p, hp, e⟩ := ends_mem.mp hm
  have := okP_of h p hp
  rcases e with rfl | e
  · exact this.1
  · exact (this.2 m e).1
theorem marks_spec {ms : List Nat} {rs : List Rng} {f : Nat → Bool} (h : IsMarks ms rs) (hw : ∀ r ∈ rs, wf r) (hf : ∀ m v, (∀ r ∈ rs, Has r v ↔ Has r m) → f v = f m) :
    (∀ v, Has (mkR f ms) v ↔ f v = true) ∧ wf (mkR f ms) := by
  obtain ⟨h1, h2⟩ := h
  have h0 : 0 ∈ ms := (h2 0).mpr (.inl rfl)
  cases ms with
  | nil => simp at h0
  | cons m ms =>
    obtain ⟨p1, p2⟩ := List.pairwise_cons.mp h1
    have : m = 0 := by
      rcases List.mem_cons.mp h0 with e | e
      · exact e.symm
      · have := p1 0 e; omega
    subst this
    refine mkR_spec h1 (fun m hm => ?_) fun m v hmv hb => hf m v fun r hr => has_same hmv fun e he => hb e ((h2 e).mpr (.inr ⟨r, hr, he⟩))
    rcases (h2 m).mp (List.mem_cons_of_mem _ hm) with rfl | ⟨r, hr, he⟩
    · exact okV0
    · exact ends_ok (hw r hr) he
end CM
namespace CM
open PySem L2 PySem.Spec DL
open PyProof.Rows hiding St
theorem encV_0 : D.tup [.int 0, .int 0, .int 0] = encV 0 := rfl
theorem sizeLine_big {n : Nat} (h : n < 1048577) : n < sizeLine := by
  have : sizeLine = 16777216 := by decide
  omega
/-- a tuple told from a list made apart: all else is as it was -/
theorem back_tup {st st' : Sto} {Q : DK} {d : D} (h : ∃ g, st' = st ++ g) (hb : D.blw st.length d = true) (q : Q d st) : DL.Back st Q d st' := by
  obtain ⟨g, rfl⟩ := h
  exact .inr ⟨st, g, rfl, rfl, fun b hb => .inl hb, .inl ⟨hb, q⟩⟩
theorem blw_encV (n m : Nat) : D.blw n (encV m) = true := by simp [encV, D.blw, D.blws]
theorem blw_encO (n : Nat) (o : Option Nat) : D.blw n (encO o) = true := by cases o; rfl; exact blw_encV _ _
theorem blws_encP (n : Nat) : ∀ r : Rng, D.blws n (r.map encP) = true
  | [] => rfl
  | p :: r => by simp [D.blws, encP, D.blw, blw_encV, blw_encO, blws_encP n r]
theorem blw_encR (n : Nat) (r : Rng) : D.blw n (encR r) = true := by simp [encR, D.blw, blws_encP]
def few (r : Rng) : Prop := r.length < 1048576
def sp_later_end : DSp := fun ds st Q _ => match ds with
  | [d, e] => ∃ a b, d = encO a ∧ e = encO b ∧ Q (encO (laterE a b)) st
  | _ => False
def sp_has : DSp := fun ds st Q _ => match ds with
  | [d, e] => ∃ r v, d = encR r ∧ e = encV v ∧ Q (.bl (decide (Has r v))) st
  | _ => False
def sp_stretched : DSp := fun ds st Q _ => match ds with
  | [d] => ∃ ps, itemsD st d = some (ps.map encP) ∧ few ps ∧ (∀ p ∈ ps, okP p) ∧ Q (encR (strR ps)) st
  | _ => False
def sp_outside : DSp := fun ds st Q _ => match ds with
  | [d] => ∃ r, d = encR r ∧ wf r ∧ few r ∧ Q (encR (outR r)) st
  | _ => False
def sp_either : DSp := fun ds st Q _ => match ds with
  | [d, e] => ∃ r s, d = encR r ∧ e = encR s ∧ wf r ∧ wf s ∧ r.length + s.length < 1048576 ∧ Q (encR (eitherR r s)) st
  | _ => False
def sp_both : DSp := fun ds st Q _ => match ds with
  | [d, e] => ∃ r s, d = encR r ∧ e = encR s ∧ wf r ∧ wf s ∧ r.length + s.length < 1000000 ∧ Q (encR (bothR r s)) st
  | _ => False
section
variable {st : Sto} {Q : DK} {Z : DX → Sto → Prop} {d : D} {r s : Rng} {a b : Option Nat} {v : Nat}
theorem ex1 {p : Rng → Prop} : (∃ t, encR r = encR t ∧ p t) = p r := by
  apply propext
  constructor
  · rintro ⟨t, e, h⟩
    rw [encR_inj] at e
    subst e
    exact h
  · intro h; exact ⟨r, rfl, h⟩
@[simp] theorem e_later_end : sp_later_end [encO a, encO b] st Q Z = Q (encO (laterE a b)) st := by
  apply propext
  constructor
  · rintro ⟨a', b', h1, h2, q⟩
    rw [encO_inj] at h1 h2
    subst h1 h2
    exact q
  · intro q; exact ⟨a, b, rfl, rfl, q⟩
@[simp] theorem e_has : sp_has [encR r, encV v] st Q Z = Q (.bl (decide (Has r v))) st := by
  apply propext
  constructor
  · rintro ⟨r', v', h1, h2, q⟩
    rw [encR_inj] at h1
    rw [encV_inj] at h2
    subst h1 h2
    exact q
  · intro q; exact ⟨r, v, rfl, rfl, q⟩
@[simp] theorem e_outside : sp_outside [encR r] st Q Z = (wf r ∧ few r ∧ Q (encR (outR r)) st) := ex1
@[simp] theorem e_either : sp_either [encR r, encR s] st Q Z = (wf r ∧ wf s ∧ r.length + s.length < 1048576 ∧ Q (encR (eitherR r s)) st) := by
  apply propext
  constructor
  · rintro ⟨r', s', h1, h2, q⟩
    rw [encR_inj] at h1 h2
    subst h1 h2
    exact q
  · intro q; exact ⟨r, s, rfl, rfl, q⟩
@[simp] theorem e_both : sp_both [encR r, encR s] st Q Z = (wf r ∧ wf s ∧ r.length + s.length < 1000000 ∧ Q (encR (bothR r s)) st) := by
  apply propext
  constructor
  · rintro ⟨r', s', h1, h2, q⟩
    rw [encR_inj] at h1 h2
    subst h1 h2
    exact q
  · intro q; exact ⟨r, s, rfl, rfl, q⟩
end
theorem r_later_end : Rd 2 sp_later_end RD.t_later_end RD.N_later_end := by
  intro ds st Q Z hl h
  match ds, hl, h with
  | [d, e], _, h =>
    obtain ⟨a, b, rfl, rfl, q⟩ := h
    unfold RD.t_later_end
    cases a with
    | none => simp [laterE] at q ⊢; exact .inl q
    | some x =>
      cases b with
      | none => simp [laterE] at q ⊢; exact .inl q
      | some y =>
        simp [encO, max_encV]
        exact .inl q
theorem lp_has (E : DEnds) {a1 : D} {v : Nat} : ∀ (r : Rng) (x2 x3 : Option D) {st : Sto}, (Has r v → E.rt (.bl true) st) → (¬ Has r v → ∀ y2 y3, E.nx [some a1, some (encV v), y2, y3] st) →
    runG (gTup' 2 (gCons' (gN 2) (gCons' (gN 3) gNil'))) RD.b_has_1 E (fun _ => True) (r.map encP) [some a1, some (encV v), x2, x3] st
  | [], x2, x3, st, _, hn => ⟨trivial, hn id x2 x3⟩
  | (l, o) :: r, x2, x3, st, hy, hn => by
    rw [List.map_cons, runG_cons]
    refine ⟨trivial, ?_⟩
    have ih := fun (h : ¬ inP (l, o) v) x2 x3 => lp_has E r x2 x3 (st := st) (fun q => hy (.inr q)) fun q => hn fun q' => q'.elim h q
    simp only [encP, s_gTup, s_gCons, s_gN, s_gNil]
    refine ⟨rfl, ?_⟩
    generalize hR : runG (gTup' 2 (gCons' (gN 2) (gCons' (gN 3) gNil'))) RD.b_has_1 E (fun _ => True) (r.map encP) = R at ih ⊢
    unfold RD.b_has_1
    cases o with
    | none =>
      simp [encO]
      by_cases h : l ≤ v
      · rw [if_pos h]
        exact hy (.inl ⟨h, fun _ e => by cases e⟩)
      · rw [if_neg h]
        exact ih (fun q => h q.1) _ _
    | some x =>
      simp [encO]
      by_cases h : l ≤ v
      · rw [if_pos h]
        by_cases h2 : v < x
        · rw [if_pos h2]
          exact hy (.inl ⟨h, fun _ e => by cases e; exact h2⟩)
        · rw [if_neg h2]
          exact ih (fun q => h2 (q.2 x rfl)) _ _
      · rw [if_neg h]
        exact ih (fun q => h q.1) _ _
theorem r_has : Rd 2 sp_has RD.t_has RD.N_has := by
  intro ds st Q Z hl h
  match ds, hl, h with
  | [d, e], _, h =>
    obtain ⟨r, v, rfl, rfl, q⟩ := h
    unfold RD.t_has
    simp [encR]
    refine lp_has _ r none none (fun h => ?_) fun h y2 y3 => ?_
    · simp [h] at q; exact .inl q
    · simp [h] at q ⊢; exact .inl q
theorem r__law_has : Rd 2 sp_has RD.t__law_has RD.N__law_has := r_has
end CM
namespace CM
open PySem L2 PySem.Spec DL
open PyProof.Rows hiding St
theorem length_out : ∀ (r : Rng) (b : Option Nat), (outF b r).length ≤ r.length + 1
  | [], none => by simp [outF]
  | [], some b => by simp [outF]
  | (l, h) :: r, none => by simp [outF]
  | (l, h) :: r, some b => by
    have := length_out r h
    unfold outF
    split <;> simp <;> omega
def endOut (acc : Rng) : Option Nat → Rng
  | none => acc
  | some b => acc ++ [(b, none)]
theorem lp_outside (E : DEnds) {a0 : D} {st : Sto} : ∀ (r : Rng) (b : Nat) (prev : Option (Option Nat)) (acc : Rng) (x3 x4 : Option D), okR prev r → ((prev = none ∧ b = 0) ∨ prev = some (some b)) → acc.length + r.length < 1048576 →
    (∀ acc' bo y3 y4, endOut acc' bo = acc ++ outF (some b) r → acc'.length < 1048576 → E.nx [some a0, some (.loc st.length), some (encO bo), y3, y4] (st ++ [.lst (acc'.map encP)])) →
    runG (gTup' 2 (gCons' (gN 3) (gCons' (gN 4) gNil'))) RD.b_outside_1 E (fun _ => True) (r.map encP) [some a0, some (.loc st.length), some (encV b), x3, x4] (st ++ [.lst (acc.map encP)])
  | [], b, prev, acc, x3, x4, _, _, hl, hk => ⟨trivial, hk acc (some b) x3 x4 rfl (by simpa using hl)⟩
  | (l, h) :: r, b, prev, acc, x3, x4, ho, hp, hl, hk => by
    rw [List.map_cons, runG_cons]
    refine ⟨trivial, ?_⟩
    simp only [List.length_cons] at hl
    have fin : ∀ acc2 x3 x4, acc2 ++ outF h r = acc ++ outF (some b) ((l, h) :: r) → acc2.length + r.length < 1048576 →
        runG (gTup' 2 (gCons' (gN 3) (gCons' (gN 4) gNil'))) RD.b_outside_1 E (fun _ => True) (r.map encP) [some a0, some (.loc st.length), some (encO h), x3, x4] (st ++ [.lst (acc2.map encP)]) := fun acc2 x3 x4 e hl2 => by
      cases h with
      | none =>
        have : r = [] := okR_none ho.2.2
        subst this
        exact ⟨trivial, hk acc2 none x3 x4 (by rw [← e]; simp [endOut, outF]) (by simpa using hl2)⟩
      | some x =>
        exact lp_outside E r x (some (some x)) acc2 x3 x4 ho.2.2 (.inr rfl) hl2 fun acc' bo y3 y4 e' => hk acc' bo y3 y4 (e'.trans e)
    simp only [encP, s_gTup, s_gCons, s_gN, s_gNil]
    refine ⟨rfl, ?_⟩
    generalize hR : runG (gTup' 2 (gCons' (gN 3) (gCons' (gN 4) gNil'))) RD.b_outside_1 E (fun _ => True) (r.map encP) = R at fin ⊢
    unfold RD.b_outside_1
    have hb : b ≤ l := by
      rcases hp with ⟨_, rfl⟩ | rfl
      · exact Nat.zero_le _
      · have := ho.2.1
        simp [touch] at this
        omega
    by_cases hlt : b < l
    · simp [hlt]
      refine ⟨by decide, by apply sizeLine_big; omega, ?_⟩
      have := fin (acc ++ [(b, some l)]) (some (encV l)) (some (encO h)) (by simp [outF, hlt]) (by simp; omega)
      simp [encP, encO] at this
      exact this
    · simp [hlt]
      have := fin acc (some (encV l)) (some (encO h)) (by simp [outF, hlt]) (by omega)
      exact this
theorem r_outside : Rd 1 sp_outside RD.t_outside RD.N_outside := by
  intro ds st Q Z hl h
  match ds, hl, h with
  | [d], _, h =>
    obtain ⟨r, rfl, hw, hf, q⟩ := h
    unfold RD.t_outside
    simp [encV_0, encR]
    refine lp_outside _ r 0 none [] none none hw (.inl ⟨rfl, rfl⟩) (by simpa [few] using hf) fun acc bo y3 y4 e hl => ?_
    simp at e
    have hq : ∀ {rr : Rng}, rr = outR r → Q (.tup (rr.map encP)) st := fun e => by rw [e]; exact q
    cases bo with
    | none =>
      simp [encO]
      exact back_tup ⟨_, rfl⟩ (by simp [D.blw, blws_encP]) (hq e)
    | some b =>
      simp [encO]
      refine ⟨by decide, by apply sizeLine_big; omega, ?_⟩
      refine back_tup ⟨_, rfl⟩ ?_ ?_
      · have := blws_encP st.length (acc ++ [(b, none)])
        simp [encP, encO] at this
        simp [D.blw, this]
      · have := hq (rr := acc ++ [(b, none)]) e
        simpa [encP, encO] using this
@[simp] theorem atI_m1 {xs : List D} {v : D} : atI (xs ++ [v]) (-1) = some v := atI_last xs v
@[simp] theorem ixN_m1 {n : Nat} : ixN (n + 1) (-1) = some n := by
  unfold ixN
  rw [if_neg (by decide), if_pos (by omega)]
  congr 1
  omega
theorem keys_encP (p : Nat × Option Nat) : ∃ d r, encP p = .tup (d :: r) ∧ ∀ st n, pdF st (n + 1) d = some (.tuple ((vI p.1).map .int)) := by
  refine ⟨encV p.1, [encO p.2], rfl, fun st n => ?_⟩
  rw [pdF_encV, if_neg (Nat.succ_ne_zero n), pd_encV]
def lowI : D → List Int
  | .tup (.tup [.int a, .int b, .int c] :: _) => [a, b, c]
  | _ => []
theorem lowI_encP (p : Nat × Option Nat) : lowI (encP p) = vI p.1 := rfl
theorem keyI_encP (p : Nat × Option Nat) : keyInts lowI (encP p) = pd (encV p.1) := by
  rw [pd_encV]
  unfold keyInts
  rw [lowI_encP]
theorem sort_encP (ps : Rng) : (ps.map encP).mergeSort (PySem.W.dataLe false (keyInts lowI)) = (sortP ps).map encP := by
  rw [DL.sort_map encP (keyInts lowI)]
  unfold sortP
  congr 2
  funext p q
  rw [PySem.W.dataLe_eq]
  simp only [cond_false, keyI_encP, dataLt_encV, leP]
  by_cases h : q.1 < p.1
  · simp [h]
  · simp [h]; omega
theorem sortK_encP {st : Sto} {Q : DK} {d : D} {ps : Rng} (h : itemsD st d = some (ps.map encP)) (q : Q (.loc st.length) (st ++ [.lst ((sortP ps).map encP)])) : dSortK [d] st Q := by
  refine ⟨ps.map encP, 1, lowI, h, fun e he => ?_, ?_, ?_, fun e he => ?_, by rw [sort_encP]; exact q⟩
  · obtain ⟨p, hp, rfl⟩ := List.mem_map.mp he
    obtain ⟨d, r, e1, e2⟩ := keys_encP p
    exact ⟨d, r, e1, by rw [e2 st 0]; rfl⟩
  · intro x hx y hy
    obtain ⟨e, he, rfl⟩ := List.mem_map.mp hx
    obtain ⟨p, hp, rfl⟩ := List.mem_map.mp he
    obtain ⟨e, he, rfl⟩ := List.mem_map.mp hy
    obtain ⟨p', hp', rfl⟩ := List.mem_map.mp he
    rw [keyI_encP, keyI_encP]
    exact alike_encV _ _
  · left
    intro x hx
    obtain ⟨e, he, rfl⟩ := List.mem_map.mp hx
    obtain ⟨p, hp, rfl⟩ := List.mem_map.mp he
    rw [keyI_encP, pd_encV]
    exact ⟨_, _, rfl⟩
  · obtain ⟨p, hp, rfl⟩ := List.mem_map.mp he
    rw [keyI_encP, pd_depth, dp_encV]
    decide
theorem length_mF : ∀ (ps : Rng) (c : Nat × Option Nat), (mF c ps).length ≤ ps.length + 1
  | [], c => by simp [mF]
  | (l, h) :: r, (b, e) => by
    have h1 := length_mF r (b, laterE e h)
    have h2 := length_mF r (l, h)
    unfold mF
    split <;> simp <;> omega
theorem length_str (ps : Rng) : (strR ps).length ≤ ps.length := by
  unfold strR
  have : (sortP ps).length = ps.length := List.length_mergeSort ps
  generalize sortP ps = qs at *
  cases qs with
  | nil => simp [stF]
  | cons q r =>
    have := length_mF r q
    simp [stF]
    simp at *
    omega
/-- found, as it grows: what is done, and the last stretch -/
theorem lp_stretched (E : DEnds) {a0 : D} {st : Sto} {sorted : List D} : ∀ (ps : Rng) (cur : Option (Nat × Option Nat)) (done : Rng) (x2 x3 x4 x5 : Option D), done.length + ps.length < 1048576 →
    (∀ y2 y3 y4 y5, E.nx [some a0, some (.loc st.length), y2, y3, y4, y5] (st ++ [.lst ((match cur with | none => stF ps | some c => done ++ mF c ps).map encP), .lst sorted])) → (cur = none → done = []) →
    runG (gTup' 2 (gCons' (gN 2) (gCons' (gN 3) gNil'))) (RD.b_stretched_1 sp_reaches sp_later_end) E (fun st' => st'[st.length + 1]? = some (.lst sorted)) (ps.map encP)
      [some a0, some (.loc st.length), x2, x3, x4, x5] (st ++ [.lst ((match cur with | none => [] | some c => done ++ [c]).map encP), .lst sorted])
  | [], cur, done, x2, x3, x4, x5, _, hk, hc => by
    rw [List.map_nil, runG_nil]
    refine ⟨by simp, ?_⟩
    cases cur with
    | none => exact hk _ _ _ _
    | some c => exact hk _ _ _ _
  | (l, h) :: r, cur, done, x2, x3, x4, x5, hl, hk, hc => by
    rw [List.map_cons, runG_cons]
    refine ⟨by simp, ?_⟩
    simp only [List.length_cons] at hl
    simp only [encP, s_gTup, s_gCons, s_gN, s_gNil]
    refine ⟨rfl, ?_⟩
    have ih := fun cur' done' x2 x3 x4 x5 h1 h2 h3 => lp_stretched E (a0 := a0) (st := st) (sorted := sorted) r cur' done' x2 x3 x4 x5 h1 h2 h3
    generalize hR : runG (gTup' 2 (gCons' (gN 2) (gCons' (gN 3) gNil'))) (RD.b_stretched_1 sp_reaches sp_later_end) E (fun st' => st'[st.length + 1]? = some (.lst sorted)) (r.map encP) = R at ih ⊢
    unfold RD.b_stretched_1
    cases cur with
    | none =>
      have := ih (some (l, h)) [] (some (encV l)) (some (encO h)) x4 x5 (by simp; omega) (by simpa [stF] using hk) (fun e => by cases e)
      simp [encP] at this
      simp
      refine ⟨by decide, by decide, this⟩
    | some c =>
      obtain ⟨b, e⟩ := c
      simp
      simp only [encP, s_ix_tup, atI_1]
      simp
      by_cases ht : touch (some e) l = true
      · simp [ht]
        refine ⟨by decide, ?_⟩
        have := ih (some (b, laterE e h)) done (some (encV l)) (some (encO h)) (some (encV b)) (some (encO e)) (by omega) (by simpa [mF, ht] using hk) (fun e => by cases e)
        simp [encP] at this
        exact this
      · simp [ht]
        refine ⟨by decide, by apply sizeLine_big; omega, ?_⟩
        have := ih (some (l, h)) (done ++ [(b, e)]) (some (encV l)) (some (encO h)) x4 x5 (by simp; omega) (by simpa [mF, ht] using hk) (fun e => by cases e)
        simp [encP] at this
        exact this
theorem r_stretched : Rd 1 sp_stretched (RD.t_stretched sp_reaches sp_later_end) RD.N_stretched := by
  intro ds st Q Z hl h
  match ds, hl, h with
  | [d], _, h =>
    obtain ⟨ps, hi, hf, hp, q⟩ := h
    unfold RD.t_stretched
    simp
    refine sortK_encP (ps := ps) ?_ ?_
    · cases d <;> simp [itemsD] at hi ⊢ <;> try exact hi
      rename_i n _
      have hn : n < st.length := by
        by_cases h : n < st.length
        · exact h
        · rw [List.getElem?_eq_none (by omega)] at hi; simp at hi
      rw [List.getElem?_append_left hn]
      exact hi
    · simp
      have hlen : (sortP ps).length = ps.length := List.length_mergeSort ps
      refine lp_stretched _ (sortP ps) none [] none none none none (by rw [hlen]; simpa [few] using hf) (fun y2 y3 y4 y5 => ?_) (fun _ => rfl)
      simp
      exact back_tup ⟨_, rfl⟩ (by simp [D.blw, blws_encP]) q
end CM
namespace CM
open PySem L2 PySem.Spec DL
open PyProof.Rows hiding St
@[simp] theorem e_stretched {st : Sto} {Q : DK} {Z : DX → Sto → Prop} {d : D} : sp_stretched [d] st Q Z = ∃ ps, itemsD st d = some (ps.map encP) ∧ few ps ∧ (∀ p ∈ ps, okP p) ∧ Q (encR (strR ps)) st := rfl
def sp_least_of : DSp := fun ds st Q _ => match ds with
  | [d] => ∃ r, d = encR r ∧ Q (encO (match r with | [] => none | p :: _ => some p.1)) st
  | _ => False
theorem tups_encV (ls : List Nat) : ls.map encV = (ls.map vI).map tupI := by
  rw [List.map_map]
  rfl
theorem bd_vI {n : Nat} (h : okV n) : TS.Bd 1000001 (vI n) := by
  intro m hm
  have h1 : vA n ≤ 1000000 := h
  have h2 := vB_le n
  have h3 := vC_le n
  unfold vI at hm
  simp only [List.mem_cons, List.not_mem_nil, or_false] at hm
  rcases hm with rfl | rfl | rfl <;> constructor <;> omega
theorem code_vI (n : Nat) : TS.code 1000001 (vI n) = n := by
  unfold vI
  simp only [TS.code, List.length_cons, List.length_nil]
  have := mkV_eq n
  unfold mkV at this
  have h2 : ((1000001 : Int) ^ (0 + 1 + 1)) = 1000002000001 := by decide
  have h1 : ((1000001 : Int) ^ (0 + 1)) = 1000001 := by decide
  rw [h2, h1]
  omega
/-- sorted(set(..)) of versions -/
theorem sortSet_encV {st : Sto} {Q : DK} {n : Nat} {ls : List Nat} (h : st[n]? = some (.lst (ls.map encV))) (hf : ls.length < 64) (ho : ∀ m ∈ ls, okV m)
    (q : ∀ ms : List Nat, ms.Pairwise (· < ·) → (∀ m, m ∈ ms ↔ m ∈ ls) → Q (.loc st.length) (st ++ [.lst (ms.map encV)])) : dSortSetT [.loc n] st Q := by
  refine ⟨ls.map vI, 3, 1000001, .inr ⟨n, rfl, by rw [h, tups_encV]⟩, by simpa using hf, by decide, fun l hl => ?_, fun ms hn hm hp => ?_⟩
  · obtain ⟨m, h1, rfl⟩ := List.mem_map.mp hl
    exact ⟨rfl, bd_vI (ho m h1)⟩
  · -- ms are versions
    obtain ⟨ns, rfl⟩ : ∃ ns : List Nat, ms = ns.map vI := by
      have : ∀ l ∈ ms, ∃ n, l = vI n := fun l hl => by
        obtain ⟨m, _, e⟩ := List.mem_map.mp ((hm l).mp hl)
        exact ⟨m, e.symm⟩
      clear hn hm hp
      induction ms with
      | nil => exact ⟨[], rfl⟩
      | cons l ms ih =>
        obtain ⟨n, rfl⟩ := this l List.mem_cons_self
        obtain ⟨ns, rfl⟩ := ih fun l hl => this l (List.mem_cons_of_mem _ hl)
        exact ⟨n :: ns, rfl⟩
    have := q ns ?_ fun m => ?_
    · rw [tups_encV] at this
      exact this
    · rw [List.pairwise_map] at hp
      have hn' : ns.Pairwise (· ≠ ·) := by
        have : (ns.map vI).Pairwise (· ≠ ·) := hn
        rw [List.pairwise_map] at this
        exact this.imp fun h e => h (by rw [e])
      refine (hp.and hn').imp fun ⟨h1, h2⟩ => ?_
      rw [code_vI, code_vI] at h1
      omega
    · have := hm (vI m)
      rw [List.mem_map, List.mem_map] at this
      constructor
      · intro h
        obtain ⟨k, h1, h2⟩ := this.mp ⟨m, h, rfl⟩
        rw [vI_inj] at h2
        subst h2
        exact h1
      · intro h
        obtain ⟨k, h1, h2⟩ := this.mpr ⟨m, h, rfl⟩
        rw [vI_inj] at h2
        subst h2
        exact h1
end CM
namespace CM
open PySem L2 PySem.Spec DL
open PyProof.Rows hiding St
section
variable {α : Type} {l g : List α} {x y : α}
theorem g0 : (l ++ x :: g)[l.length]? = some x := by simp
theorem gl : (l ++ x :: (g ++ [y]))[l.length + (g.length + 1)]? = some y := by
  rw [List.getElem?_append_right (by omega)]
  simp
theorem s0 : (l ++ x :: g).set l.length y = l ++ y :: g := by
  rw [List.set_append_right _ _ (Nat.le_refl _)]
  simp
theorem gb {n : Nat} (h : l[n]? = some x) : (l ++ g)[n]? = some x := by
  rw [List.getElem?_append_left (List.getElem?_eq_some_iff.mp h).1]
  exact h
end
def allEnds (rs : List Rng) : List Nat := rs.flatMap endsOf
theorem allEnds_nil : allEnds [] = [] := rfl
theorem allEnds_cons (r : Rng) (rs : List Rng) : allEnds (r :: rs) = endsOf r ++ allEnds rs := rfl
def sp_marks : DSp := fun ds st Q _ => match ds with
  | [d] => ∃ rs : List Rng, itemsD st d = some (rs.map encR) ∧ (∀ r ∈ rs, wf r) ∧ (allEnds rs).length < 63 ∧ ∀ ms, IsMarks ms rs → ms.length < 64 → Q (.loc st.length) (st ++ [.lst (ms.map encV)])
  | _ => False
theorem lp_marks_in (E : DEnds) {a0 a2 : D} {st : Sto} : ∀ (r : Rng) (acc : List Nat) (g : Sto) (x3 x4 : Option D), acc.length + (endsOf r).length < 1000 →
    (∀ g' y3 y4, E.nx [some a0, some (.loc st.length), some a2, y3, y4] (st ++ .lst ((acc ++ endsOf r).map encV) :: g')) →
    runG (gTup' 2 (gCons' (gN 3) (gCons' (gN 4) gNil'))) RD.b__law_marks_1 E (fun _ => True) (r.map encP) [some a0, some (.loc st.length), some a2, x3, x4] (st ++ .lst (acc.map encV) :: g)
  | [], acc, g, x3, x4, _, hk => by
    rw [List.map_nil, runG_nil]
    refine ⟨trivial, ?_⟩
    have := hk g x3 x4
    simpa [endsOf] using this
  | (l, h) :: r, acc, g, x3, x4, hl, hk => by
    rw [List.map_cons, runG_cons]
    refine ⟨trivial, ?_⟩
    simp only [encP, s_gTup, s_gCons, s_gN, s_gNil]
    refine ⟨rfl, ?_⟩
    have ih := fun acc g x3 x4 h1 h2 => lp_marks_in E (a0 := a0) (a2 := a2) (st := st) r acc g x3 x4 h1 h2
    generalize hR : runG (gTup' 2 (gCons' (gN 3) (gCons' (gN 4) gNil'))) RD.b__law_marks_1 E (fun _ => True) (r.map encP) = R at ih ⊢
    unfold RD.b__law_marks_1
    cases h with
    | none =>
      simp [endsOf] at hl hk
      have := ih (acc ++ [l]) (g ++ [.lst [encV l]]) (some (encV l)) (some (encO none)) (by simp; omega) (by simpa using hk)
      simp at this
      simp [g0, gl, s0]
      exact ⟨by decide, by have := sizeLine_big (n := acc.length + 1) (by omega); omega, this⟩
    | some x =>
      simp [endsOf] at hl hk
      have := ih (acc ++ [l, x]) (g ++ [.lst [encV l, encV x]]) (some (encV l)) (some (encO (some x))) (by simp; omega) (by simpa using hk)
      simp at this
      simp [g0, gl, s0, encO] at this ⊢
      exact ⟨by decide, by have := sizeLine_big (n := acc.length + 2) (by omega); omega, this⟩
theorem lp_marks (E : DEnds) {a0 : D} {st : Sto} {G : Sto → Prop} (hG : ∀ g, G (st ++ g)) : ∀ (rs : List Rng) (acc : List Nat) (g : Sto) (x2 x3 x4 : Option D), acc.length + (allEnds rs).length < 1000 →
    (∀ g' y2 y3 y4, E.nx [some a0, some (.loc st.length), y2, y3, y4] (st ++ .lst ((acc ++ allEnds rs).map encV) :: g')) →
    runG (gN 2) RD.b__law_marks_2 E G (rs.map encR) [some a0, some (.loc st.length), x2, x3, x4] (st ++ .lst (acc.map encV) :: g)
  | [], acc, g, x2, x3, x4, _, hk => by
    rw [List.map_nil, runG_nil]
    refine ⟨hG _, ?_⟩
    have := hk g x2 x3 x4
    simpa [allEnds_nil] using this
  | r :: rs, acc, g, x2, x3, x4, hl, hk => by
    rw [List.map_cons, runG_cons]
    refine ⟨hG _, ?_⟩
    rw [allEnds_cons, List.length_append] at hl
    have ih := fun acc g x2 x3 x4 h1 h2 => lp_marks E (a0 := a0) (st := st) hG rs acc g x2 x3 x4 h1 h2
    generalize hR : runG (gN 2) RD.b__law_marks_2 E G (rs.map encR) = R at ih ⊢
    unfold RD.b__law_marks_2
    simp [encR]
    refine lp_marks_in _ r acc g x3 x4 (by omega) fun g' y3 y4 => ?_
    exact ih (acc ++ endsOf r) g' (some (.tup (r.map encP))) y3 y4 (by simp; omega) fun g' y2 y3 y4 => by
      have := hk g' y2 y3 y4
      simpa [allEnds_cons] using this
/-- a list told that was made apart -/
theorem back_lst {st st' : Sto} {Q : DK} {m : Nat} {ds : List D} (h : ∃ g, st' = st ++ g) (hm : st'[m]? = some (.lst ds)) (hge : st.length ≤ m) (hb : D.blws st.length ds = true) (q : Q (.loc st.length) (st ++ [.lst ds])) : DL.Back st Q (.loc m) st' := by
  obtain ⟨g, rfl⟩ := h
  exact .inr ⟨st, g, rfl, rfl, fun b hb => .inl hb, .inr ⟨m, ds, rfl, hm, hge, hb, q⟩⟩
theorem blws_encV (n : Nat) : ∀ ms : List Nat, D.blws n (ms.map encV) = true
  | [] => rfl
  | m :: ms => by simp [D.blws, blw_encV, blws_encV n ms]
theorem few_marks {ms ls : List Nat} (h1 : ms.Pairwise (· < ·)) (h2 : ∀ m ∈ ms, m ∈ ls) : ms.length ≤ ls.length := by
  induction ms generalizing ls with
  | nil => exact Nat.zero_le _
  | cons m ms ih =>
    obtain ⟨p1, p2⟩ := List.pairwise_cons.mp h1
    have hm := h2 m List.mem_cons_self
    have := ih (ls := ls.erase m) p2 fun k hk => by
      rw [List.mem_erase_of_ne (by have := p1 k hk; omega)]
      exact h2 k (List.mem_cons_of_mem _ hk)
    rw [List.length_erase_of_mem hm] at this
    have := List.length_pos_of_mem hm
    simp only [List.length_cons]
    omega
theorem r__law_marks : Rd 1 sp_marks RD.t__law_marks RD.N__law_marks := by
  intro ds st Q Z hl h
  match ds, hl, h with
  | [d], _, h =>
    obtain ⟨rs, hi, hw, hf, q⟩ := h
    unfold RD.t__law_marks
    have fin : ∀ g' y2 y3 y4 , dRet (dCB dSortSetT (dCons (dVar 1) dNil)) { nx := fun _ st1 => DL.Back st Q .non st1, rt := DL.Back st Q, xs := fun x _ st1 => BackX st Z x st1 } [some d, some (.loc st.length), y2, y3, y4] (st ++ .lst (([0] ++ allEnds rs).map encV) :: g') := fun g' y2 y3 y4 => by
      simp
      refine sortSet_encV (ls := [0] ++ allEnds rs) ?_ (by simp; omega) (fun m hm => ?_) fun ms h1 h2 => ?_
      · rw [g0]; simp
      · rcases List.mem_append.mp hm with hm | hm
        · rw [List.mem_singleton.mp hm]; exact okV0
        · obtain ⟨r, hr, he⟩ := List.mem_flatMap.mp hm
          exact ends_ok (hw r hr) he
      · refine back_lst ⟨.lst (([0] ++ allEnds rs).map encV) :: g' ++ [.lst (ms.map encV)], by simp⟩ (by simp) (by simp) (blws_encV _ _) (q ms ⟨h1, fun m => ?_⟩ ?_)
        · rw [h2 m]
          simp [allEnds, List.mem_flatMap]
        · have := few_marks h1 fun m hm => (h2 m).mp hm
          simp at this
          omega
    cases d <;> simp [itemsD] at hi
    · subst hi
      simp [encV_0]
      refine ⟨by decide, by decide, ?_⟩
      exact lp_marks _ (st := st) (fun _ => trivial) rs [0] [] none none none (by simp; omega) fun g' y2 y3 y4 => fin g' y2 y3 y4
    · subst hi
      simp [encV_0]
      refine ⟨by decide, by decide, ?_⟩
      exact lp_marks _ (st := st) (fun _ => trivial) rs [0] [] none none none (by simp; omega) fun g' y2 y3 y4 => fin g' y2 y3 y4
    · rename_i n _
      have hn : st[n]? = some (.lst (rs.map encR)) := by
        split at hi
        · rename_i e; cases hi; exact e
        · cases hi
      simp [encV_0]
      refine ⟨by decide, by decide, rs.map encR, gb hn, ?_⟩
      exact lp_marks _ (st := st) (fun g => gb hn) rs [0] [] none none none (by simp; omega) fun g' y2 y3 y4 => fin g' y2 y3 y4
end CM
namespace CM
open PySem L2 PySem.Spec DL
open PyProof.Rows hiding St
/-- ints from a number on -/
def upFrom : Nat → Nat → List D
  | _, 0 => []
  | i, n + 1 => .int (i : Nat) :: upFrom (i + 1) n
theorem upFrom_eq : ∀ (n i : Nat), (List.range n).map (fun (j : Nat) => D.int ((i : Int) + (j : Int))) = upFrom i n
  | 0, _ => rfl
  | n + 1, i => by
    rw [List.range_succ_eq_map, List.map_cons, List.map_map, upFrom, ← upFrom_eq n (i + 1)]
    congr 1
    refine congrArg (fun f => List.map f (List.range n)) ?_
    funext j
    simp only [Function.comp]
    congr 1
    omega
theorem rngItems_up (n : Nat) : rngItems 0 n = upFrom 0 n := by
  rw [← upFrom_eq]
  unfold rngItems
  rfl
def sp_made : DSp := fun ds st Q _ => match ds with
  | [.loc a, .loc b] => ∃ (ms : List Nat) (f : Nat → Bool), st[a]? = some (.lst (ms.map encV)) ∧ st[b]? = some (.lst ((ms.map f).map .bl)) ∧ ms.length < 1000 ∧ Q (encR (mkR f ms)) st
  | _ => False
def foundOf (done : Rng) : Option Nat → Rng
  | none => done
  | some b => done ++ [(b, none)]
theorem atI_map {α : Type} {g : α → D} {pre suf : List α} {k : α} : atI ((pre ++ k :: suf).map g) (pre.length : Int) = some (g k) := atI_nat (by simp)
theorem lp_made (E : DEnds) {a b : Nat} {st : Sto} {f : Nat → Bool} {all : List Nat} (ha : st[a]? = some (.lst (all.map encV))) (hb : st[b]? = some (.lst ((all.map f).map .bl))) : ∀ (suf pre : List Nat) (o : Option Nat) (done : Rng) (x3 : Option D), all = pre ++ suf →
    ((pre = [] ∧ o = none) ∨ ∃ p k, pre = p ++ [k] ∧ f k = o.isSome) → done.length + suf.length < 1000 →
    (∀ y3, E.nx [some (.loc a), some (.loc b), some (.loc st.length), y3] (st ++ [.lst ((done ++ mkF f o suf).map encP)])) →
    runG (gN 3) RD.b__law_made_1 E (fun _ => True) (upFrom pre.length suf.length) [some (.loc a), some (.loc b), some (.loc st.length), x3] (st ++ [.lst ((foundOf done o).map encP)])
  | [], pre, o, done, x3, _, _, _, hk => by
    simp only [List.length_nil, upFrom]
    rw [runG_nil]
    refine ⟨trivial, ?_⟩
    have := hk x3
    cases o <;> simpa [mkF, foundOf] using this
  | m :: suf, pre, o, done, x3, hall, hp, hl, hk => by
    simp only [List.length_cons, upFrom]
    rw [runG_cons]
    refine ⟨trivial, ?_⟩
    simp only [s_gN]
    have ih := fun o done x3 h2 h3 h4 => lp_made E ha hb suf (pre ++ [m]) o done x3 (by rw [hall]; simp) h2 h3 h4
    simp only [List.length_append, List.length_singleton] at ih
    generalize hR : runG (gN 3) RD.b__law_made_1 E (fun _ => True) (upFrom (pre.length + 1) suf.length) = R at ih ⊢
    unfold RD.b__law_made_1
    simp only [List.length_cons] at hl
    have h1 : atI (all.map encV) (pre.length : Int) = some (encV m) := by rw [hall]; exact atI_map
    have h2 : atI ((all.map f).map D.bl) (pre.length : Int) = some (.bl (f m)) := by rw [hall, List.map_map]; exact atI_map (g := D.bl ∘ f)
    have ga : ∀ g, (st ++ g)[a]? = some (.lst (all.map encV)) := fun g => gb ha
    have gb' : ∀ g, (st ++ g)[b]? = some (.lst ((all.map f).map .bl)) := fun g => gb hb
    rcases hp with ⟨rfl, rfl⟩ | ⟨p, k, rfl, hfk⟩
    · simp at h1 h2
      simp only [List.map_map] at gb'
      cases hf : f m with
      | true =>
        have := ih (some m) done (some (.int (0 : Nat))) (.inr ⟨[], m, rfl, hf⟩) (by omega) (fun y3 => by simpa [mkF, hf] using hk y3)
        simp [foundOf, encP, encO] at this
        simp [ga, gb', h1, h2, hf, foundOf]
        refine ⟨by decide, by apply sizeLine_big; omega, this⟩
      | false =>
        have := ih none done (some (.int (0 : Nat))) (.inr ⟨[], m, rfl, hf⟩) (by omega) (fun y3 => by simpa [mkF, hf] using hk y3)
        simp [foundOf] at this
        simp [ga, gb', h1, h2, hf, foundOf]
        exact this
    · have h3 : atI ((all.map f).map D.bl) (p.length : Int) = some (.bl (f k)) := by rw [hall, List.map_map, List.append_assoc]; exact atI_map (g := D.bl ∘ f)
      have hq : ((p ++ [k]).length : Int) = (p.length : Int) + 1 := by simp
      have hix : (p.length : Int) + 1 - 1 = p.length := by omega
      have hne : ¬ ((p.length : Int) + 1 = 0) := by omega
      have hpos : (0 : Int) < (p.length : Int) + 1 := by omega
      rw [hq] at h1 h2 ⊢
      simp only [List.map_map] at h2 h3 gb'
      have last : p ++ [k] ++ [m] = (p ++ [k]) ++ [m] := rfl
      cases hf : f m with
      | true =>
        cases o with
        | none =>
          have := ih (some m) done (some (.int ((p.length : Int) + 1))) (.inr ⟨p ++ [k], m, rfl, hf⟩) (by omega) (fun y3 => by simpa [mkF, hf] using hk y3)
          simp [foundOf, encP, encO] at this
          simp at hfk
          simp [ga, gb', h1, h2, h3, hix, hne, hpos, hf, hfk, foundOf]
          refine ⟨by decide, by apply sizeLine_big; omega, this⟩
        | some c =>
          have := ih (some c) done (some (.int ((p.length : Int) + 1))) (.inr ⟨p ++ [k], m, rfl, hf⟩) (by omega) (fun y3 => by simpa [mkF, hf] using hk y3)
          simp [foundOf] at this
          simp at hfk
          simp [ga, gb', h1, h2, h3, hix, hne, hpos, hf, hfk, foundOf]
          exact this
      | false =>
        cases o with
        | none =>
          have := ih none done (some (.int ((p.length : Int) + 1))) (.inr ⟨p ++ [k], m, rfl, hf⟩) (by omega) (fun y3 => by simpa [mkF, hf] using hk y3)
          simp [foundOf] at this
          simp at hfk
          simp [ga, gb', h1, h2, h3, hix, hne, hpos, hf, hfk, foundOf]
          exact this
        | some c =>
          have := ih none (done ++ [(c, some m)]) (some (.int ((p.length : Int) + 1))) (.inr ⟨p ++ [k], m, rfl, hf⟩) (by simp; omega) (fun y3 => by simpa [mkF, hf] using hk y3)
          simp [foundOf, encP, encO] at this
          simp at hfk
          simp [ga, gb', h1, h2, h3, hix, hne, hpos, hf, hfk, foundOf]
          simp only [encP, s_ix_tup, atI_0]
          simp
          exact ⟨_, ga _, _, h1, by decide, this⟩
theorem r__law_made : Rd 2 sp_made RD.t__law_made RD.N__law_made := by
  intro ds st Q Z hl h
  match ds, hl, h with
  | [.loc a, .loc b], _, h =>
    obtain ⟨ms, f, ha, hb, hl, q⟩ := h
    unfold RD.t__law_made
    simp [gb ha]
    refine ⟨by omega, ?_⟩
    rw [rngItems_up]
    have := lp_made { nx := dRet (dCB dTupOf (dCons (dVar 2) dNil)) { nx := fun _ st1 => DL.Back st Q .non st1, rt := DL.Back st Q, xs := fun x _ st1 => BackX st Z x st1 }, rt := DL.Back st Q, xs := fun x _ st1 => BackX st Z x st1 }
      ha hb ms [] none [] none rfl (.inl ⟨rfl, rfl⟩) (by simpa using hl) fun y3 => by
        simp
        exact back_tup ⟨_, rfl⟩ (by simp [D.blw, blws_encP]) q
    exact this
end CM
namespace CM
open PySem L2 PySem.Spec DL
open PyProof.Rows hiding St
/-- a comprehension whose turns leave the store be -/
theorem runC_pure {te : DTE} {ρ : Env'} {Q : DK} {G : Sto → Prop} {i : Nat} {α : Type} {inj : α → D} {out : α → D} {st : Sto} (hG : G st)
    (ht : ∀ x (QT : DK), QT (out x) st → te (ρ.set i (some (inj x))) st QT Z0) : ∀ (xs : List α) (acc : List D), acc.length + xs.length < 1048576 →
    Q (.loc st.length) (st ++ [.lst (acc ++ xs.map out)]) → runC (gN i) dYes te ρ Q G (xs.map inj) acc st
  | [], acc, _, q => by
    rw [List.map_nil, runC_nil]
    exact ⟨hG, by simpa using q⟩
  | x :: xs, acc, hl, q => by
    rw [List.map_cons, runC_cons]
    refine ⟨hG, ?_⟩
    simp only [List.length_cons] at hl
    simp
    refine ht x _ ⟨sizeLine_big (by omega), ?_⟩
    exact runC_pure hG ht xs (acc ++ [out x]) (by simp; omega) (by simpa using q)
def sp_law_both : DSp := fun ds st Q _ => match ds with
  | [d, e] => ∃ r s, d = encR r ∧ e = encR s ∧ wf r ∧ wf s ∧ (allEnds [r, s]).length < 63 ∧ Q (encR (bothR r s)) st
  | _ => False
def sp_law_either : DSp := fun ds st Q _ => match ds with
  | [d, e] => ∃ r s, d = encR r ∧ e = encR s ∧ wf r ∧ wf s ∧ (allEnds [r, s]).length < 63 ∧ Q (encR (eitherR r s)) st
  | _ => False
def sp_law_outside : DSp := fun ds st Q _ => match ds with
  | [d] => ∃ r, d = encR r ∧ wf r ∧ (allEnds [r]).length < 63 ∧ Q (encR (outR r)) st
  | _ => False
@[simp] theorem e_marks {st : Sto} {Q : DK} {Z : DX → Sto → Prop} {d : D} : sp_marks [d] st Q Z = ∃ rs : List Rng, itemsD st d = some (rs.map encR) ∧ (∀ r ∈ rs, wf r) ∧ (allEnds rs).length < 63 ∧ ∀ ms, IsMarks ms rs → ms.length < 64 → Q (.loc st.length) (st ++ [.lst (ms.map encV)]) := rfl
@[simp] theorem e_made {st : Sto} {Q : DK} {Z : DX → Sto → Prop} {a b : Nat} : sp_made [.loc a, .loc b] st Q Z = ∃ (ms : List Nat) (f : Nat → Bool), st[a]? = some (.lst (ms.map encV)) ∧ st[b]? = some (.lst ((ms.map f).map .bl)) ∧ ms.length < 1000 ∧ Q (encR (mkR f ms)) st := rfl
theorem outside_marks {r : Rng} {ms : List Nat} (hr : wf r) (h : IsMarks ms [r]) : mkR (fun m => !decide (Has r m)) ms = outR r := by
  obtain ⟨a, b⟩ := marks_spec (f := fun m => !decide (Has r m)) h (by simp [hr]) fun m v hb => by
    have h1 := hb r (by simp)
    simp [h1]
  refine has_uniq b (wf_out hr) fun v => ?_
  rw [a, has_out hr]
  simp
theorem r__law_outside : Rd 1 sp_law_outside (RD.t__law_outside sp_has sp_marks sp_made) RD.N__law_outside := by
  intro ds st Q Z hl h
  match ds, hl, h with
  | [d], _, h =>
    obtain ⟨r, rfl, hr, hf, q⟩ := h
    unfold RD.t__law_outside
    simp
    refine ⟨by decide, [r], rfl, by simp [hr], hf, fun ms hm hl => ?_⟩
    refine runC_pure (out := fun m => .bl (!decide (Has r m))) (inj := encV) (by simp) (fun x QT hq => ?_) ms [] (by simp; omega) ?_
    · unfold RD.e__law_outside_1
      simp
      by_cases h1 : Has r x <;> simp [h1] at hq ⊢ <;> exact hq
    · simp
      refine ⟨ms, rfl, fun m => !decide (Has r m), rfl, by omega, ?_⟩
      rw [outside_marks hr hm]
      exact back_tup ⟨_, rfl⟩ (blw_encR _ _) q
end CM
namespace CM
open PySem L2 PySem.Spec DL
open PyProof.Rows hiding St
def handOb (c : Nat) (a b d e : Int) : Ob := .lst [.loc c, .int a, .int b, .int d, .int e]
structure Hd (st : Sto) (h c : Nat) : Prop where
  ex : ∃ (cells : List Int) (a b d e : Int), st[h]? = some (handOb c a b d e) ∧ st[c]? = some (.lst (cells.map .int)) ∧ 0 ≤ a
theorem Hd.ne {st : Sto} {h c : Nat} (H : Hd st h c) : c ≠ h := by
  obtain ⟨cells, a, b, d, e, h1, h2, _⟩ := H.ex
  intro z
  rw [z, h1] at h2
  have h2 := Option.some.inj h2
  simp only [handOb, Ob.lst.injEq] at h2
  cases cells with
  | nil => simp at h2
  | cons x xs => simp at h2
theorem Hd.hlt {st : Sto} {h c : Nat} (H : Hd st h c) : h < st.length := by
  obtain ⟨cells, a, b, d, e, h1, h2, _⟩ := H.ex
  exact (List.getElem?_eq_some_iff.mp h1).1
theorem Hd.clt {st : Sto} {h c : Nat} (H : Hd st h c) : c < st.length := by
  obtain ⟨cells, a, b, d, e, h1, h2, _⟩ := H.ex
  exact (List.getElem?_eq_some_iff.mp h2).1
theorem Hd.app {st : Sto} {h c : Nat} (H : Hd st h c) (g : Sto) : Hd (st ++ g) h c := by
  obtain ⟨cells, a, b, d, e, h1, h2, h3⟩ := H.ex
  exact ⟨cells, a, b, d, e, gb h1, gb h2, h3⟩
/-- only the hand is another -/
structure Sm (h : Nat) (st st' : Sto) : Prop where
  len : st'.length = st.length
  same : ∀ n, n ≠ h → st'[n]? = st[n]?
theorem Sm.refl (h : Nat) (st : Sto) : Sm h st st := ⟨rfl, fun _ _ => rfl⟩
theorem Sm.trans {h : Nat} {st st1 st2 : Sto} (a : Sm h st st1) (b : Sm h st1 st2) : Sm h st st2 := ⟨b.len.trans a.len, fun n hn => (b.same n hn).trans (a.same n hn)⟩
theorem Sm.set {h : Nat} {st : Sto} {o : Ob} : Sm h st (st.set h o) := ⟨by simp, fun n hn => by rw [List.getElem?_set_ne (Ne.symm hn)]⟩
/-- grown: the old things but the hand stand -/
structure Gr (h c : Nat) (st st' : Sto) : Prop where
  len : st.length ≤ st'.length
  same : ∀ n, n < st.length → n ≠ h → st'[n]? = st[n]?
  hd : Hd st' h c
  hd0 : Hd st h c
theorem Gr.hlt {h c : Nat} {st st' : Sto} (g : Gr h c st st') : h < st.length := g.hd0.hlt
theorem Gr.clt {h c : Nat} {st st' : Sto} (g : Gr h c st st') : c < st.length := g.hd0.clt
theorem Gr.refl {h c : Nat} {st : Sto} (H : Hd st h c) : Gr h c st st := ⟨Nat.le_refl _, fun _ _ _ => rfl, H, H⟩
theorem Gr.trans {h c : Nat} {st st1 st2 : Sto} (a : Gr h c st st1) (b : Gr h c st1 st2) : Gr h c st st2 :=
  ⟨Nat.le_trans a.len b.len, fun n hn hne => (b.same n (Nat.lt_of_lt_of_le hn a.len) hne).trans (a.same n hn hne), b.hd, a.hd0⟩
theorem Gr.sm {h c : Nat} {st st1 st2 : Sto} (g : Gr h c st st1) (s : Sm h st1 st2) (H : Hd st2 h c) : Gr h c st st2 :=
  ⟨by rw [s.len]; exact g.len, fun n hn hne => (s.same n hne).trans (g.same n hn hne), H, g.hd0⟩
theorem Gr.app {h c : Nat} {st st1 : Sto} (g : Gr h c st st1) (x : Sto) : Gr h c st (st1 ++ x) :=
  ⟨by simp; have := g.len; omega, fun n hn hne => by rw [List.getElem?_append_left (by have := g.len; omega)]; exact g.same n hn hne, g.hd.app x, g.hd0⟩
theorem Gr.get {h c n : Nat} {st st1 : Sto} {b : Ob} (g : Gr h c st st1) (hb : st[n]? = some b) (hne : n ≠ h) : st1[n]? = some b := by
  rw [g.same n (List.getElem?_eq_some_iff.mp hb).1 hne]; exact hb
theorem Gr.kin {h c : Nat} {st st1 : Sto} (g : Gr h c st st1) : Kin st st1 :=
  ⟨fun n es e => by
    by_cases hn : n = h
    · subst hn
      obtain ⟨cells, a, b, d, e', h1, _, _⟩ := g.hd.ex
      exact ⟨_, h1⟩
    · exact ⟨es, g.get e hn⟩, fun n es e => by
    by_cases hn : n = h
    · subst hn
      obtain ⟨cells, a, b, d, e', h1, _, _⟩ := g.hd0.ex
      rw [h1] at e
      cases e
    · exact ⟨es, g.get e hn⟩⟩
theorem below_hand {n c : Nat} {a b d e : Int} (h : c < n) : Ob.below n (handOb c a b d e) = true := by
  simp [Ob.below, handOb, D.blws, D.blw, h]
/-- what is told, all else but the hand being forgotten -/
theorem back_hand {h c : Nat} {st st' : Sto} {Q : DK} {d : D} (g : Gr h c st st') (hb : D.blw st.length d = true) (q : ∀ st1, Hd st1 h c → Sm h st st1 → Q d st1) : DL.Back st Q d st' := by
  have hl := g.len
  have htl : (st'.take st.length).length = st.length := by simp; omega
  have hg : ∀ n, n < st.length → (st'.take st.length)[n]? = st'[n]? := fun n hn => by rw [List.getElem?_take]; simp [hn]
  have hs : Sm h st (st'.take st.length) := ⟨htl, fun n hne => by
    by_cases hn : n < st.length
    · rw [hg n hn, g.same n hn hne]
    · rw [List.getElem?_eq_none (by omega), List.getElem?_eq_none (by omega)]⟩
  obtain ⟨cells, a, b, d', e, h1, h2, h3⟩ := g.hd.ex
  have hH : Hd (st'.take st.length) h c := ⟨cells, a, b, d', e, by rw [hg h g.hlt]; exact h1, by rw [hg c g.clt]; exact h2, h3⟩
  refine .inr ⟨st'.take st.length, st'.drop st.length, (List.take_append_drop _ _).symm, htl, fun x hx => ?_, .inl ⟨hb, q _ hH hs⟩⟩
  obtain ⟨n, hn⟩ := List.mem_iff_getElem?.mp hx
  have hlt : n < st.length := by
    have := (List.getElem?_eq_some_iff.mp hn).1
    omega
  by_cases hne : n = h
  · subst hne
    rw [hg n hlt, h1] at hn
    cases hn
    exact .inr (below_hand g.clt)
  · rw [hs.same n hne] at hn
    exact .inl (List.mem_of_getElem? hn)
def sp_hand : DSp := fun ds st Q _ => match ds with
  | [d] => ∃ ns : List Int, IsL st d ns ∧ ns.length ≤ 63 ∧ ∀ st' h c, (∃ g, st' = st ++ g) → Hd st' h c → st.length ≤ h → st.length ≤ c → Q (.loc h) st'
  | _ => False
def sp_draw : DSp := fun ds st Q _ => match ds with
  | [.loc h, .int m] => ∃ c, Hd st h c ∧ 0 < m ∧ m < 1000000000 ∧ ∀ r st', 0 ≤ r → r < m → Hd st' h c → Sm h st st' → Q (.int r) st'
  | _ => False
def sp_some : DSp := fun ds st Q _ => match ds with
  | [.loc h, t] => ∃ c es, Hd st h c ∧ itemsD st t = some es ∧ t ≠ .loc h ∧ 0 < es.length ∧ es.length < 1000000000 ∧ ∀ e st', e ∈ es → Hd st' h c → Sm h st st' → Q e st'
  | _ => False
def sp_flag : DSp := fun ds st Q _ => match ds with
  | [.bl a, .bl b] => Q (.bl (decide (a = b))) st
  | _ => False
theorem big_mul1 {i j : Int} (h : -(2 ^ 64) < j ∧ j < 2 ^ 64) : CMul i j := .inr h
theorem big_mul2 {i j : Int} (h : -(2 ^ 64) < i ∧ i < 2 ^ 64) : CMul i j := .inl h
@[simp] theorem atI_3 {a b c d : D} {ds : List D} : atI (a :: b :: c :: d :: ds) 3 = some d := atI_nat (j := 3) rfl
@[simp] theorem atI_4 {a b c d e : D} {ds : List D} : atI (a :: b :: c :: d :: e :: ds) 4 = some e := atI_nat (j := 4) rfl
theorem ix51 : ixN 5 1 = some 1 := rfl
theorem ix52 : ixN 5 2 = some 2 := rfl
theorem ix53 : ixN 5 3 = some 3 := rfl
theorem ix54 : ixN 5 4 = some 4 := rfl
theorem mod_in {x m : Int} (h : 0 < m) : 0 ≤ x % m ∧ x % m < m := ⟨Int.emod_nonneg _ (by omega), Int.emod_lt_of_pos _ h⟩
theorem r__law_draw : Rd 2 sp_draw RD.t__law_draw RD.N__law_draw := by
  intro ds st Q Z hl h
  match ds, hl, h with
  | [.loc h, .int m], _, hx =>
    obtain ⟨c, H, hm, hm2, q⟩ := hx
    have hlt := H.hlt
    have hne := H.ne
    obtain ⟨cells, a, b, d, e, h1, h2, h3⟩ := H.ex
    unfold handOb at h1
    unfold RD.t__law_draw
    have gs : ∀ x, (st.set h x)[h]? = some x := fun x => by rw [List.getElem?_set_self hlt]
    have gc : ∀ x, (st.set h x)[c]? = some (.lst (cells.map .int)) := fun x => by rw [List.getElem?_set_ne (Ne.symm hne)]; exact h2
    have hd : ∀ a b d e : Int, 0 ≤ a → Hd (st.set h (handOb c a b d e)) h c := fun a b d e ha => ⟨cells, a, b, d, e, gs _, gc _, ha⟩
    have fin : ∀ (r a b d e : Int), 0 ≤ r → r < m → 0 ≤ a → DL.Back st Q (.int r) (st.set h (.lst [.loc c, .int a, .int b, .int d, .int e])) := fun r a b d e h1 h2 h3 => .inl (q r _ h1 h2 (hd a b d e h3) Sm.set)
    have tail : ∀ (a b d e : Int) (y2 : Option D) (st' : Sto), 0 ≤ a → st' = st.set h (handOb c a b d e) →
        dSeq (dIfS (dTest (dOp dGt (dOp dIx (dVar 0) (dC (.int 2))) (dC (.int 0)))) (dSeq (dAsg (dOp dMod (dCB dInt (dCons (dOp dIx (dVar 0) (dC (.int 2))) dNil)) (dVar 1)) (gN 3))
          (dSeq (dAsg (dOp dDiv (dOp dIx (dVar 0) (dC (.int 2))) (dVar 1)) (gSub' (dVar 0) (dC (.int 2)) dSetL)) (dRet (dVar 3)))) dNext)
          (dSeq (dAsg (dOp dAdd (dOp dIx (dVar 0) (dC (.int 4))) (dC (.int 1))) (gSub' (dVar 0) (dC (.int 4)) dSetL))
          (dSeq (dAsg (dOp dMod (dCB dInt (dCons (dOp dMul (dCB dInt (dCons (dOp dAdd (dOp dIx (dVar 0) (dC (.int 3))) (dOp dMul (dC (.int 7919)) (dOp dIx (dVar 0) (dC (.int 4))))) dNil)) (dC (.int 48271))) dNil)) (dC (.int 2147483647))) (gN 4))
          (dSeq (dAsg (dOp dMod (dCB dInt (dCons (dOp dMul (dVar 4) (dOp dAdd (dOp dDiv (dVar 4) (dC (.int 1009))) (dC (.int 69621)))) dNil)) (dC (.int 2147483647))) (gN 4))
          (dSeq (dAsg (dOp dMod (dCB dInt (dCons (dOp dMul (dVar 4) (dOp dAdd (dOp dDiv (dVar 4) (dC (.int 2003))) (dC (.int 40692)))) dNil)) (dC (.int 2147483399))) (gN 4))
          (dRet (dOp dMod (dCB dInt (dCons (dOp dDiv (dVar 4) (dC (.int 16))) dNil)) (dVar 1)))))))
          { nx := fun _ st1 => DL.Back st Q .non st1, rt := DL.Back st Q, xs := fun x _ st1 => BackX st Z x st1 } [some (.loc h), some (.int m), y2, none, none] st' := by
      intro a b d e y2 st' ha hst
      subst hst
      unfold handOb
      simp [gs, ix52]
      by_cases hb : 0 < b
      · simp [hb]
        obtain ⟨m1, m2⟩ := mod_in (x := b) hm
        exact ⟨hm, ⟨hm, by omega⟩, fin _ _ _ _ _ m1 m2 ha⟩
      · simp [hb, gs, ix54]
        generalize hx : (d + 7919 * (e + 1)) * 48271 % 2147483647 = x
        have hx1 := mod_in (x := (d + 7919 * (e + 1)) * 48271) (m := 2147483647) (by decide)
        rw [hx] at hx1
        generalize hy : x * (x / 1009 + 69621) % 2147483647 = y
        have hy1 := mod_in (x := x * (x / 1009 + 69621)) (m := 2147483647) (by decide)
        rw [hy] at hy1
        generalize hz : y * (y / 2003 + 40692) % 2147483399 = z
        obtain ⟨m1, m2⟩ := mod_in (x := z / 16) hm
        refine ⟨big_mul2 (by decide), big_mul1 (by decide), ⟨by decide, by decide⟩, big_mul2 ⟨by omega, by omega⟩, ⟨by decide, by decide⟩, big_mul2 ⟨by omega, by omega⟩, ⟨by decide, by decide⟩, hm, fin _ _ _ _ _ m1 m2 ha⟩
    have keep : st.set h (handOb c a b d e) = st := by
      refine List.ext_getElem? fun n => ?_
      by_cases hn : n = h
      · subst hn; rw [gs]; exact h1.symm
      · rw [List.getElem?_set_ne (Ne.symm hn)]
    have tail' := fun a b d e y2 ha => tail a b d e y2 _ ha rfl
    clear tail
    rw [s_seq]
    generalize dSeq (dIfS (dTest (dOp dGt (dOp dIx (dVar 0) (dC (.int 2))) (dC (.int 0)))) _ _) _ _ = nx at tail' ⊢
    have t0 := tail' a b d e none h3
    rw [keep] at t0
    unfold handOb at tail'
    simp [h1, h2]
    by_cases hb : b = 0
    · rw [if_pos hb]
      by_cases ha : a < cells.length
      · rw [if_pos ha]
        have hcell : (cells.map D.int)[a.toNat]? = some (.int (cells[a.toNat]'(by omega))) := by
          rw [List.getElem?_map, List.getElem?_eq_getElem (by omega)]
          rfl
        have hat : atI (cells.map D.int) a = some (.int (cells[a.toNat]'(by omega))) := by
          have := atI_nat hcell
          rwa [Int.toNat_of_nonneg h3] at this
        generalize cells[a.toNat]'(by omega) = cell at hat
        simp [hat, ix51, ix53, gs]
        refine ⟨big_mul1 ⟨by decide, by decide⟩, ⟨by decide, by decide, by decide⟩, ?_⟩
        have e1 : ((10 : Int) ^ (18 : Nat)) = 1000000000000000000 := by decide
        by_cases hc : (1000000000000000000 : Int) ≤ cell
        · simp [hc, gs, ix52]
          exact tail' (a + 1) cell _ e _ (by omega)
        · simp [hc]
          exact tail' (a + 1) b _ e _ (by omega)
      · rw [if_neg ha]
        exact t0
    · rw [if_neg hb]
      exact t0
end CM
namespace CM
open PySem L2 PySem.Spec DL
open PyProof.Rows hiding St
@[simp] theorem e_draw {st : Sto} {Q : DK} {Z : DX → Sto → Prop} {h : Nat} {m : Int} : sp_draw [.loc h, .int m] st Q Z = ∃ c, Hd st h c ∧ 0 < m ∧ m < 1000000000 ∧ ∀ r st', 0 ≤ r → r < m → Hd st' h c → Sm h st st' → Q (.int r) st' := rfl
@[simp] theorem e_some {st : Sto} {Q : DK} {Z : DX → Sto → Prop} {h : Nat} {t : D} : sp_some [.loc h, t] st Q Z = ∃ c es, Hd st h c ∧ itemsD st t = some es ∧ t ≠ .loc h ∧ 0 < es.length ∧ es.length < 1000000000 ∧ ∀ e st', e ∈ es → Hd st' h c → Sm h st st' → Q e st' := rfl
@[simp] theorem e_flag {st : Sto} {Q : DK} {Z : DX → Sto → Prop} {a b : Bool} : sp_flag [.bl a, .bl b] st Q Z = Q (.bl (decide (a = b))) st := rfl
theorem at_mem {es : List D} {r : Int} (h0 : 0 ≤ r) (h1 : r < es.length) : ∃ e ∈ es, atI es r = some e := by
  have hl : r.toNat < es.length := by omega
  refine ⟨es[r.toNat], List.getElem_mem hl, ?_⟩
  have := atI_nat (List.getElem?_eq_getElem hl)
  rwa [Int.toNat_of_nonneg h0] at this
theorem r__law_some : Rd 2 sp_some (RD.t__law_some sp_draw) RD.N__law_some := by
  intro ds st Q Z hl h
  match ds, hl, h with
  | [.loc h, t], _, hx =>
    obtain ⟨c, es, H, hi, hne, hpos, hbig, q⟩ := hx
    unfold RD.t__law_some
    cases t <;> simp [itemsD] at hi
    · subst hi
      simp
      refine ⟨c, H, by omega, by omega, fun r st' h0 h1 H' s => ?_⟩
      obtain ⟨e, he, ha⟩ := at_mem h0 h1
      exact ⟨e, ha, .inl (q e st' he H' s)⟩
    · subst hi
      simp
      refine ⟨c, H, by omega, by omega, fun r st' h0 h1 H' s => ?_⟩
      obtain ⟨e, he, ha⟩ := at_mem h0 h1
      exact ⟨e, ha, .inl (q e st' he H' s)⟩
    · rename_i n _
      have hn : st[n]? = some (.lst es) := by
        split at hi
        · rename_i e; cases hi; exact e
        · cases hi
      have hnh : n ≠ h := fun e => hne (by rw [e])
      simp [hn]
      refine ⟨c, H, by omega, by omega, fun r st' h0 h1 H' s => ?_⟩
      obtain ⟨e, he, ha⟩ := at_mem h0 h1
      exact ⟨es, by rw [s.same n hnh]; exact hn, e, ha, .inl (q e st' he H' s)⟩
theorem cut63 {ns : List Int} (h : ns.length ≤ 63) : cutL (ns.map D.int) none (some 63) = ns.map .int := by
  have e : _root_.HT.sIx (ns.map D.int).length (ns.map D.int).length (some 63) = (ns.map D.int).length := by
    show (if (63 : Int) < 0 then ((63 : Int) + ((ns.map D.int).length : Int)).toNat else min (63 : Int).toNat (ns.map D.int).length) = _
    rw [if_neg (by decide)]
    simp
    omega
  unfold cutL
  rw [e, show _root_.HT.sIx (ns.map D.int).length 0 none = 0 from rfl]
  simp
  exact List.take_of_length_le (by simp)
theorem r__law_hand : Rd 1 sp_hand RD.t__law_hand RD.N__law_hand := by
  intro ds st Q Z hl h
  match ds, hl, h with
  | [d], _, hx =>
    obtain ⟨ns, hd, hl, q⟩ := hx
    unfold RD.t__law_hand
    rcases hd with rfl | ⟨m, rfl, hm⟩
    all_goals
      simp (config := {failIfUnchanged := false}) [cut63 hl, *]
      refine runC_pure (out := fun i => .int (if i < 0 then -i else i)) (inj := D.int) (by simp) (fun x QT hq => ?_) ns [] (by simp; omega) ?_
      · unfold RD.e__law_hand_1
        simp
        exact hq
      · simp
        refine ⟨by decide, .inl (q _ _ (st.length + 1) ⟨_, rfl⟩ ⟨⟨ns.map fun i => if i < 0 then -i else i, 0, 0, 1 + ns.length, 0, ?_, ?_, by decide⟩⟩ (by omega) (by omega))⟩
        · simp [handOb]
        · simp
end CM
namespace CM
open PySem L2 PySem.Spec DL
open PyProof.Rows hiding St
def smallV (n : Nat) : Prop := vA n ≤ 999999 ∧ vB n ≤ 999999 ∧ vC n ≤ 999999
theorem smallV.ok {n : Nat} (h : smallV n) : okV n := by unfold okV; have := h.1; omega
theorem small_mk {a b c : Int} (ha : 0 ≤ a ∧ a ≤ 999999) (hb : 0 ≤ b ∧ b ≤ 999999) (hc : 0 ≤ c ∧ c ≤ 999999) : ∃ n, D.tup [.int a, .int b, .int c] = encV n ∧ smallV n := by
  obtain ⟨x, rfl⟩ := Int.eq_ofNat_of_zero_le ha.1
  obtain ⟨y, rfl⟩ := Int.eq_ofNat_of_zero_le hb.1
  obtain ⟨z, rfl⟩ := Int.eq_ofNat_of_zero_le hc.1
  refine ⟨mkV x y z, ?_, ?_⟩
  · unfold encV
    rw [vA_mk (by omega) (by omega), vB_mk (by omega) (by omega), vC_mk (by omega)]
  · unfold smallV
    rw [vA_mk (by omega) (by omega), vB_mk (by omega) (by omega), vC_mk (by omega)]
    omega
def sp_lversion : DSp := fun ds st Q _ => match ds with
  | [.loc h] => ∃ c, Hd st h c ∧ ∀ n st', smallV n → Hd st' h c → Sm h st st' → Q (encV n) st'
  | _ => False
@[simp] theorem e_lversion {st : Sto} {Q : DK} {Z : DX → Sto → Prop} {h : Nat} : sp_lversion [.loc h] st Q Z = ∃ c, Hd st h c ∧ ∀ n st', smallV n → Hd st' h c → Sm h st st' → Q (encV n) st' := rfl
theorem lv_num {h c : Nat} {st0 st1 : Sto} {QT : DK} {y1 y2 y3 : Option D} (g : Gr h c st0 st1) (q : ∀ v st2, (0 : Int) ≤ v ∧ v ≤ 999999 → Gr h c st0 st2 → QT (.int v) st2) :
    RD.e__law_version_1 sp_draw sp_some [some (.loc h), y1, y2, y3] st1 QT Z0 := by
  unfold RD.e__law_version_1
  simp
  refine ⟨c, g.hd, fun r st2 h0 h1 H2 s2 => ⟨by decide, c, H2.app _, ?_, ?_⟩⟩
  · have := H2.hlt; omega
  · intro e st3 he H3 s3
    have g2 := ((g.sm s2 H2).app [Ob.lst [D.int 0, D.int 1, D.int 9, D.int 10, D.int 99, D.int 999999, D.int r]]).sm s3 H3
    rcases he with rfl | rfl | rfl | rfl | rfl | rfl | rfl <;> exact q _ _ (by omega) g2
theorem r__law_version : Rd 1 sp_lversion (RD.t__law_version sp_draw sp_some) RD.N__law_version := by
  intro ds st Q Z hl h
  match ds, hl, h with
  | [.loc h], _, hx =>
    obtain ⟨c, H, q⟩ := hx
    unfold RD.t__law_version
    simp
    refine ⟨c, H, fun r st1 h0 h1 H1 s1 => ?_⟩
    have g1 : Gr h c st st1 := (Gr.refl H).sm s1 H1
    by_cases hr : r = 0
    · rw [if_pos hr]
      rw [rngItems_up]
      simp [upFrom, runC_cons, runC_nil]
      refine lv_num g1 fun v2 st2 hv2 g2 => ⟨by decide, lv_num g2 fun v3 st3 hv3 g3 => ⟨by decide, lv_num g3 fun v4 st4 hv4 g4 => ⟨by decide, ?_⟩⟩⟩
      obtain ⟨n, e, hn⟩ := small_mk hv2 hv3 hv4
      rw [e]
      exact back_hand (g4.app _) (blw_encV _ _) fun st5 H5 s5 => q n st5 hn H5 s5
    · rw [if_neg hr]
      refine ⟨by decide, c, H1.app _, by have := H1.hlt; omega, ?_⟩
      intro most st2 hm H2 s2
      have g2 := (g1.app [Ob.lst [D.int 2, D.int 3, D.int 3, D.int 4]]).sm s2 H2
      have : ∃ m : Int, most = .int m ∧ 0 < m ∧ m ≤ 4 := by
        rcases hm with rfl | rfl | rfl | rfl
        · exact ⟨_, rfl, by decide, by decide⟩
        · exact ⟨_, rfl, by decide, by decide⟩
        · exact ⟨_, rfl, by decide, by decide⟩
      obtain ⟨m, rfl, m0, m4⟩ := this
      simp
      refine ⟨c, H2, m0, by omega, fun a st3 a0 a1 H3 s3 => ⟨c, H3, m0, by omega, fun b st4 b0 b1 H4 s4 => ⟨c, H4, m0, by omega, fun d st5 d0 d1 H5 s5 => ⟨by decide, ?_⟩⟩⟩⟩
      obtain ⟨n, e, hn⟩ := small_mk (a := a) (b := b) (c := d) ⟨a0, by omega⟩ ⟨b0, by omega⟩ ⟨d0, by omega⟩
      rw [e]
      exact back_hand (((g2.sm s3 H3).sm s4 H4).sm s5 H5) (blw_encV _ _) fun st6 H6 s6 => q n st6 hn H6 s6
/-- all ends are small -/
def smE (r : Rng) : Prop := ∀ e ∈ endsOf r, smallV e
def sp_lrange : DSp := fun ds st Q _ => match ds with
  | [.loc h] => ∃ c, Hd st h c ∧ ∀ r st', wf r → smE r → r.length ≤ 6 → Hd st' h c → Sm h st st' → Q (encR r) st'
  | _ => False
@[simp] theorem e_lrange {st : Sto} {Q : DK} {Z : DX → Sto → Prop} {h : Nat} : sp_lrange [.loc h] st Q Z = ∃ c, Hd st h c ∧ ∀ r st', wf r → smE r → r.length ≤ 6 → Hd st' h c → Sm h st st' → Q (encR r) st' := rfl
end CM
namespace CM
open PySem L2 PySem.Spec DL
open PyProof.Rows hiding St
def leafD : D → Prop
  | .non => True
  | .bl _ => True
  | .int _ => True
  | .str _ => True
  | _ => False
def sam (st : Sto) : Nat → D → D → Prop
  | 0, t, d => t = d ∧ leafD d
  | n + 1, t, d => (t = d ∧ leafD d) ∨ ∃ ts ds, ((t = .tup ts ∧ d = .tup ds) ∨ ∃ a b, t = .loc a ∧ d = .loc b ∧ st[a]? = some (.lst ts) ∧ st[b]? = some (.lst ds)) ∧
      (ts.length = ds.length ∧ ∀ (k : Nat) x y, ts[k]? = some x → ds[k]? = some y → sam st n x y) ∧ ts.length < 1048576
def sp_is (n : Nat) : DSp := fun ds st Q _ => match ds with
  | [t, d] => sam st n t d ∧ Q (.bl true) st
  | _ => False
@[simp] theorem e_is {n : Nat} {st : Sto} {Q : DK} {Z : DX → Sto → Prop} {t d : D} : sp_is n [t, d] st Q Z = (sam st n t d ∧ Q (.bl true) st) := rfl
/-- a comprehension whose turns leave the store be, each item being one that was there -/
theorem runC_mem {te : DTE} {ρ : Env'} {Q : DK} {G : Sto → Prop} {i : Nat} {α : Type} {inj : α → D} {out : α → D} {st : Sto} (hG : G st) : ∀ (xs : List α) (acc : List D),
    (∀ x ∈ xs, ∀ (QT : DK), QT (out x) st → te (ρ.set i (some (inj x))) st QT Z0) → acc.length + xs.length < 1048576 →
    Q (.loc st.length) (st ++ [.lst (acc ++ xs.map out)]) → runC (gN i) dYes te ρ Q G (xs.map inj) acc st
  | [], acc, _, _, q => by
    rw [List.map_nil, runC_nil]
    exact ⟨hG, by simpa using q⟩
  | x :: xs, acc, ht, hl, q => by
    rw [List.map_cons, runC_cons]
    refine ⟨hG, ?_⟩
    simp only [List.length_cons] at hl
    simp
    refine ht x List.mem_cons_self _ ⟨sizeLine_big (by omega), ?_⟩
    exact runC_mem hG xs (acc ++ [out x]) (fun y hy => ht y (List.mem_cons_of_mem _ hy)) (by simp; omega) (by simpa using q)
theorem rngItems_map (n : Nat) : rngItems 0 n = (List.range n).map fun j : Nat => D.int (j : Int) := by
  unfold rngItems
  refine List.map_congr_left fun j _ => ?_
  congr 1
  omega
theorem all_true {α : Type} (xs : List α) : (xs.map fun _ => true).all id = true := by
  induction xs with
  | nil => rfl
  | cons x xs ih => simpa using ih
theorem leaf_eq {d : D} {st : Sto} {Q : DK} (h : leafD d) (q : Q (.bl true) st) : dEqB id d d st Q := by
  cases d <;> simp [leafD] at h
  · exact eq_plain (b := true) rfl rfl (by decide) (by decide) (by simp) q
  · simpa using q
  · simpa using q
  · simpa using q
theorem r__law_is {n : Nat} {s : DSp} (hs : ∀ m, n = m + 1 → ∀ ds st Q Z, sp_is m ds st Q Z → s ds st Q Z) : Rd 2 (sp_is n) (RD.t__law_is s) RD.N__law_is := by
  intro ds st Q Z hl h
  match ds, hl, h with
  | [t, d], _, hx =>
    obtain ⟨hsam, q⟩ := hx
    unfold RD.t__law_is
    have leaf : t = d → leafD d → RD.t__law_is s { nx := fun _ st1 => DL.Back st Q .non st1, rt := DL.Back st Q, xs := fun x _ st1 => BackX st Z x st1 } (startD RD.N__law_is [t, d]) st := fun e hd => by
      subst e
      unfold RD.t__law_is
      cases t <;> simp [leafD] at hd
      all_goals
        simp [tySub]
        first
          | exact Or.inl q
          | exact leaf_eq (d := .non) trivial (Or.inl q)
    unfold RD.t__law_is at leaf
    cases n with
    | zero => exact leaf hsam.1 hsam.2
    | succ n =>
      rcases hsam with h | ⟨ts, ds, hk, ⟨hl, hall⟩, hlen⟩
      · exact leaf h.1 h.2
      · clear leaf
        have hturn : ∀ (ρ : Env'), ρ[0]? = some (some t) → ρ[1]? = some (some d) → 2 < ρ.length → ∀ (QT : DK) (k : Nat), k ∈ List.range ds.length → QT (.bl true) st → RD.e__law_is_1 s (ρ.set 2 (some (.int (k : Int)))) st QT Z0 := fun ρ h0 h1 h2 QT k hk' qt => by
          have hk2 : k < ds.length := List.mem_range.mp hk'
          have e0 : (ρ.set 2 (some (D.int (k : Int))))[0]? = some (some t) := by rw [List.getElem?_set_ne (by decide)]; exact h0
          have e1 : (ρ.set 2 (some (D.int (k : Int))))[1]? = some (some d) := by rw [List.getElem?_set_ne (by decide)]; exact h1
          have e2 : (ρ.set 2 (some (D.int (k : Int))))[2]? = some (some (.int (k : Int))) := List.getElem?_set_self h2
          have a1 : atI ts (k : Int) = some ts[k] := atI_nat (List.getElem?_eq_getElem (by omega))
          have a2 : atI ds (k : Int) = some ds[k] := atI_nat (List.getElem?_eq_getElem hk2)
          have fin : s [ts[k], ds[k]] st QT (fun x st2 => Z0 x (ρ.set 2 (some (D.int (k : Int)))) st2) := hs n rfl _ _ _ _ ⟨hall k _ _ (List.getElem?_eq_getElem (by omega)) (List.getElem?_eq_getElem hk2), qt⟩
          unfold RD.e__law_is_1
          rw [s_call, s_cons, s_op, s_var, e0]
          dsimp only
          rw [s_var, e2]
          dsimp only
          rcases hk with ⟨rfl, rfl⟩ | ⟨a, b, rfl, rfl, ha, hb⟩
          · rw [s_ix_tup]
            refine ⟨_, a1, ?_⟩
            rw [s_cons, s_op, s_var, e1]
            dsimp only
            rw [s_var, e2]
            dsimp only
            rw [s_ix_tup]
            exact ⟨_, a2, rfl, fin⟩
          · rw [s_ix_loc]
            refine ⟨_, _, ha, a1, ?_⟩
            rw [s_cons, s_op, s_var, e1]
            dsimp only
            rw [s_var, e2]
            dsimp only
            rw [s_ix_loc]
            exact ⟨_, _, hb, a2, rfl, fin⟩
        have fin : DL.Back st Q (.bl true) (st ++ [.lst ((List.range ds.length).map fun _ => D.bl true)]) := back_tup ⟨_, rfl⟩ rfl q
        have all : ∃ bs : List Bool, (st ++ [.lst ((List.range ds.length).map fun _ => D.bl true)])[st.length]? = some (.lst (bs.map .bl)) ∧ DL.Back st Q (.bl (bs.all id)) (st ++ [.lst ((List.range ds.length).map fun _ => D.bl true)]) :=
          ⟨(List.range ds.length).map fun _ => true, by simp, by rw [all_true]; exact fin⟩
        have hb62 : (ds.length : Int) < 2 ^ 62 := by
          have : (1048576 : Int) < 2 ^ 62 := by decide
          omega
        have hb62' : -(2 ^ 62 : Int) ≤ (ds.length : Int) := by
          have : (0 : Int) ≤ 2 ^ 62 := by decide
          omega
        have loop : ∀ ρ : Env', ρ[0]? = some (some t) → ρ[1]? = some (some d) → 2 < ρ.length → runC (gN 2) dYes (RD.e__law_is_1 s) ρ (fun x st1 => dAll [x] st1 (DL.Back st Q)) (fun _ => True) (rngItems 0 ds.length) [] st := fun ρ h0 h1 h2 => by
          rw [rngItems_map]
          refine runC_mem (out := fun _ => .bl true) (inj := fun k : Nat => D.int (k : Int)) trivial _ [] (fun k hk' QT qt => hturn ρ h0 h1 h2 QT k hk' qt) (by simp; omega) ?_
          simpa using all
        rcases hk with ⟨rfl, rfl⟩ | ⟨a, b, rfl, rfl, ha, hb⟩
        · simp [tySub, hl]
          refine ⟨by simpa using hb62, ?_⟩
          exact loop _ rfl rfl (by simp)
        · simp [tySub, tyN, ha, hb, hl]
          refine ⟨by simpa using hb62, ?_⟩
          exact loop _ rfl rfl (by simp)
mutual
def wd : D → Bool
  | .non => true
  | .bl _ => true
  | .int _ => true
  | .str _ => true
  | .tup ds => decide (ds.length < 1048576) && wds ds
  | _ => false
def wds : List D → Bool
  | [] => true
  | d :: ds => wd d && wds ds
end
theorem wds_get : ∀ {ds : List D} {k : Nat} {x : D}, wds ds = true → ds[k]? = some x → wd x = true
  | [], k, x, _, h => by simp at h
  | d :: ds, 0, x, h, e => by
    simp only [wds, Bool.and_eq_true] at h
    simp at e
    rw [← e]; exact h.1
  | d :: ds, k + 1, x, h, e => by
    simp only [wds, Bool.and_eq_true] at h
    exact wds_get h.2 (by simpa using e)
theorem dps_get : ∀ {ds : List D} {k : Nat} {x : D}, ds[k]? = some x → dp x ≤ dps ds
  | [], k, x, h => by simp at h
  | d :: ds, 0, x, e => by
    simp at e
    rw [← e, dps]; omega
  | d :: ds, k + 1, x, e => by
    have := dps_get (ds := ds) (k := k) (x := x) (by simpa using e)
    rw [dps]; omega
/-- plain data is like itself -/
theorem sam_refl (st : Sto) : ∀ (n : Nat) (d : D), wd d = true → dp d ≤ n → sam st n d d := by
  intro n
  induction n with
  | zero =>
    intro d h hd
    cases d <;> simp [wd, dp] at h hd <;> exact ⟨rfl, trivial⟩
  | succ n ih =>
    intro d h hd
    cases d <;> simp [wd, dp] at h hd <;> try exact .inl ⟨rfl, trivial⟩
    rename_i ds
    refine .inr ⟨ds, ds, .inl ⟨rfl, rfl⟩, ⟨rfl, fun k x y e1 e2 => ?_⟩, h.1⟩
    rw [e1] at e2
    cases e2
    have := dps_get e1
    exact ih x (wds_get h.2 e1) (by omega)
end CM
namespace CM
open PySem L2 PySem.Spec DL
open PyProof.Rows hiding St
@[simp] theorem e_law_both {st : Sto} {Q : DK} {Z : DX → Sto → Prop} {r s : Rng} : sp_law_both [encR r, encR s] st Q Z = (wf r ∧ wf s ∧ (allEnds [r, s]).length < 63 ∧ Q (encR (bothR r s)) st) := by
  apply propext
  constructor
  · rintro ⟨r', s', h1, h2, q⟩
    obtain rfl := encR_inj.mp h1
    obtain rfl := encR_inj.mp h2
    exact q
  · exact fun q => ⟨r, s, rfl, rfl, q⟩
@[simp] theorem e_law_either {st : Sto} {Q : DK} {Z : DX → Sto → Prop} {r s : Rng} : sp_law_either [encR r, encR s] st Q Z = (wf r ∧ wf s ∧ (allEnds [r, s]).length < 63 ∧ Q (encR (eitherR r s)) st) := by
  apply propext
  constructor
  · rintro ⟨r', s', h1, h2, q⟩
    obtain rfl := encR_inj.mp h1
    obtain rfl := encR_inj.mp h2
    exact q
  · exact fun q => ⟨r, s, rfl, rfl, q⟩
@[simp] theorem e_law_outside {st : Sto} {Q : DK} {Z : DX → Sto → Prop} {r : Rng} : sp_law_outside [encR r] st Q Z = (wf r ∧ (allEnds [r]).length < 63 ∧ Q (encR (outR r)) st) := by
  apply propext
  constructor
  · rintro ⟨r', h1, q⟩
    obtain rfl := encR_inj.mp h1
    exact q
  · exact fun q => ⟨r, rfl, q⟩
@[simp] theorem e_least_of {st : Sto} {Q : DK} {Z : DX → Sto → Prop} {r : Rng} : sp_least_of [encR r] st Q Z = Q (encO (match r with | [] => none | p :: _ => some p.1)) st := ex1
theorem ends_len : ∀ (r : Rng), (endsOf r).length ≤ 2 * r.length
  | [] => by simp [endsOf]
  | (l, none) :: r => by have := ends_len r; simp [endsOf]; omega
  | (l, some x) :: r => by have := ends_len r; simp [endsOf]; omega
theorem out_len (r : Rng) : (outR r).length ≤ r.length + 1 := length_out r (some 0)
theorem ends_mF : ∀ (ps : Rng) (b : Nat) (e : Option Nat) (m : Nat), m ∈ endsOf (mF (b, e) ps) → m = b ∨ e = some m ∨ m ∈ endsOf ps
  | [], b, e, m, h => by
    simp only [mF] at h
    cases e with
    | none => simp [endsOf] at h; exact .inl h
    | some x =>
      simp [endsOf] at h
      rcases h with rfl | rfl
      · exact .inl rfl
      · exact .inr (.inl rfl)
  | (l, o) :: r, b, e, m, h => by
    have sub : m ∈ endsOf r → m ∈ endsOf ((l, o) :: r) := fun hx => by clear h; cases o <;> simp [endsOf, hx]
    have sub2 : o = some m → m ∈ endsOf ((l, o) :: r) := fun hx => by clear h; subst hx; simp [endsOf]
    have sub3 : m = l → m ∈ endsOf ((l, o) :: r) := fun hx => by clear h; cases o <;> simp [endsOf, hx]
    unfold mF at h
    split at h
    · rcases ends_mF r b (laterE e o) m h with h | h | h
      · exact .inl h
      · cases e with
        | none => cases h
        | some x =>
          cases o with
          | none => cases h
          | some y =>
            simp only [laterE, Option.some.injEq] at h
            by_cases hx : x ≤ y
            · rw [Nat.max_eq_right hx] at h
              exact .inr (.inr (sub2 (by rw [h])))
            · rw [Nat.max_eq_left (by omega)] at h
              exact .inr (.inl (by rw [h]))
      · exact .inr (.inr (sub h))
    · have h' : m = b ∨ e = some m ∨ m ∈ endsOf (mF (l, o) r) := by
        cases e with
        | none =>
          simp [endsOf] at h
          rcases h with h | h
          · exact .inl h
          · exact .inr (.inr h)
        | some x =>
          simp [endsOf] at h
          rcases h with h | h | h
          · exact .inl h
          · exact .inr (.inl (by rw [h]))
          · exact .inr (.inr h)
      rcases h' with h | h | h
      · exact .inl h
      · exact .inr (.inl h)
      · rcases ends_mF r l o m h with h | h | h
        · exact .inr (.inr (sub3 h))
        · exact .inr (.inr (sub2 h))
        · exact .inr (.inr (sub h))
theorem ends_str {ps : Rng} {m : Nat} (h : m ∈ endsOf (strR ps)) : m ∈ endsOf ps := by
  have hp : (sortP ps).Perm ps := List.mergeSort_perm ps leP
  have key : ∀ qs : Rng, m ∈ endsOf (stF qs) → m ∈ endsOf qs := fun qs h => by
    cases qs with
    | nil => exact h
    | cons q r =>
      obtain ⟨b, e⟩ := q
      rcases ends_mF r b e m h with hx | hx | hx
      · clear h; cases e <;> simp [endsOf, hx]
      · clear h; subst hx; simp [endsOf]
      · clear h; cases e <;> simp [endsOf, hx]
  have := key _ h
  rw [ends_mem] at this ⊢
  obtain ⟨p, h1, h2⟩ := this
  exact ⟨p, hp.mem_iff.mp h1, h2⟩
@[simp] theorem len_encR {r : Rng} {st : Sto} {Q : DK} : dLen [encR r] st Q = Q (.int r.length) st := by simp [encR]
@[simp] theorem ix0_encR {p : Nat × Option Nat} {r : Rng} {st : Sto} {Q : DK} : dIx (encR (p :: r)) (.int 0) st Q = Q (encP p) st := by simp [encR]
@[simp] theorem ix0_encP {p : Nat × Option Nat} {st : Sto} {Q : DK} : dIx (encP p) (.int 0) st Q = Q (encV p.1) st := by simp [encP]
@[simp] theorem max_int {i j : Int} {st : Sto} {Q : DK} : dMax2 [.int i, .int j] st Q ↔ Q (.int (if i < j then j else i)) st := by
  have hq : (if PySem.W.dataLt (.int i) (.int j) = true then D.int j else D.int i) = .int (if i < j then j else i) := by
    rw [PySem.W.dataLt_int]
    by_cases h : i < j
    · rw [if_pos h, if_pos (decide_eq_true h)]
    · rw [if_neg h, if_neg (by simpa using h)]
  constructor
  · rintro ⟨k, d, e, h1, h2, _, _, _, _, _, q⟩
    rw [show pdF st k (.int i) = some (.int i) by cases k <;> rfl] at h1
    rw [show pdF st k (.int j) = some (.int j) by cases k <;> rfl] at h2
    cases h1
    cases h2
    rwa [hq] at q
  · intro q
    refine ⟨0, .int i, .int j, rfl, rfl, ⟨by rfl, by rfl, by rfl, by rfl⟩, by simp, by simp, by simp [PyData.depth], by simp [PyData.depth], ?_⟩
    rw [hq]; exact q
end CM
namespace CM
open PySem L2 PySem.Spec DL
open PyProof.Rows hiding St
open TL (tl pre spl numL joinL)
theorem uni_dig : ∀ c, c < 128 → Unicode.isDigit c = (decide (48 ≤ c) && decide (c ≤ 57)) := by decide +kernel
/-- the number that signs tell -/
def okNum (l : List Nat) : Option Nat := if l ≠ [] ∧ l.length ≤ 7 ∧ (∀ c ∈ l, 48 ≤ c ∧ c ≤ 57) ∧ (l = [48] ∨ l.head? ≠ some 48) then some (NumText.digitsVal l) else none
theorem ascii_iff {x : Str} : Txt.isascii x = true ↔ ∀ c ∈ tl x, c < 128 := by
  unfold Txt.isascii tl
  rw [Array.all_eq_true']
  simp [Array.mem_toList_iff]
theorem dig_iff {x : Str} (h : Txt.isascii x = true) : Txt.isdigit x = true ↔ tl x ≠ [] ∧ ∀ c ∈ tl x, 48 ≤ c ∧ c ≤ 57 := by
  have ha := ascii_iff.mp h
  unfold Txt.isdigit
  rw [Bool.and_eq_true, Array.all_eq_true']
  have e1 : (decide (x.length > 0) = true) ↔ tl x ≠ [] := by
    rw [TL.len_tl]
    cases tl x <;> simp
  rw [e1]
  refine and_congr_right fun _ => ?_
  constructor
  · intro q c hc
    have := q c (Array.mem_toList_iff.mp hc)
    rw [uni_dig c (ha c hc)] at this
    simpa using this
  · intro q c hc
    have hc' : c ∈ tl x := Array.mem_toList_iff.mpr hc
    rw [uni_dig c (ha c hc')]
    simpa using q c hc'
theorem starts_pre (x y : Str) : Txt.startswith x y = pre (tl y) (tl x) := by
  have e : Txt.startswith x y = (decide (0 + y.length ≤ x.length) && Builtin.Str.subAt x y 0) := rfl
  rw [e, PySem.StrLaws.subAt_eq, List.drop_zero]
  have hx := TL.len_tl x
  have hy := TL.len_tl y
  show _ = ((tl x).take (tl y).length == tl y)
  rw [show x.cps.toList = tl x from rfl, show y.cps.toList = tl y from rfl, ← hy]
  by_cases h : 0 + y.length ≤ x.length
  · simp [h]
    intro _
    omega
  · have : ((tl x).take y.length == tl y) = false := by
      rw [beq_eq_false_iff_ne]
      intro z
      have := congrArg List.length z
      rw [List.length_take, ← hy, ← hx] at this
      omega
    rw [this, Bool.and_false]
def encN : Option Nat → D
  | none => .non
  | some n => .int n
/-- the number that signs tell, at most so many of them -/
def okNumD (m : Nat) (l : List Nat) : Option Nat := if l ≠ [] ∧ l.length ≤ m ∧ (∀ c ∈ l, 48 ≤ c ∧ c ≤ 57) ∧ (l = [48] ∨ l.head? ≠ some 48) then some (NumText.digitsVal l) else none
def sp_told_number : DSp := fun ds st Q _ => match ds with
  | [.int m, .str t] => 0 ≤ m ∧ m ≤ 100 ∧ t.length ≤ 1000000 ∧ Q (encN (okNumD m.toNat (tl t))) st
  | _ => False
@[simp] theorem e_told_numberD {st : Sto} {Q : DK} {Z : DX → Sto → Prop} {m : Int} {t : Str} : sp_told_number [.int m, .str t] st Q Z = (0 ≤ m ∧ m ≤ 100 ∧ t.length ≤ 1000000 ∧ Q (encN (okNumD m.toNat (tl t))) st) := rfl
theorem str_eq {x y : Str} : x = y ↔ tl x = tl y := ⟨fun h => by rw [h], TL.ext_tl⟩
theorem tl_0 : tl ("0" : Str) = [48] := by rw [show ("0" : Str) = Str.ofString "0" from rfl, TL.tl_ofString]; rfl
theorem r_told_number : Rd 2 sp_told_number RD.t_told_number RD.N_told_number := by
  intro ds st Q Z hl h
  match ds, hl, h with
  | [.int m, .str t], _, hx =>
    obtain ⟨hm0, hm1, ht, q⟩ := hx
    obtain ⟨M, rfl⟩ : ∃ M : Nat, m = M := ⟨m.toNat, by omega⟩
    rw [Int.toNat_natCast] at q
    have hsz : t.length ≤ sizeLine := by have := sizeLine_big (n := t.length) (by omega); omega
    have hlen := TL.len_tl t
    unfold RD.t_told_number
    have none' : okNumD M (tl t) = none → DL.Back st Q .non st := fun e => by rw [e] at q; exact .inl q
    by_cases h7 : (M : Int) < t.length
    · simp [hsz, h7]
      exact none' (by unfold okNumD; rw [if_neg]; rintro ⟨_, h, _⟩; omega)
    cases ha : Txt.isascii t with
    | false =>
      simp [hsz, h7, ha]
      refine none' ?_
      unfold okNumD
      rw [if_neg]
      rintro ⟨_, _, h, _⟩
      rw [ascii_iff.mpr fun c hc => by have := h c hc; omega] at ha
      cases ha
    | true =>
      have hd := dig_iff ha
      cases he : Txt.isdigit t with
      | false =>
        simp [hsz, h7, ha, he]
        refine none' ?_
        unfold okNumD
        rw [if_neg]
        rintro ⟨h1, _, h2, _⟩
        rw [hd.mpr ⟨h1, h2⟩] at he
        cases he
      | true =>
        obtain ⟨h1, h2⟩ := hd.mp he
        have hs0 : Txt.startswith t "0" = decide ((tl t).head? = some 48) := by
          rw [starts_pre, tl_0]
          cases e : tl t with
          | nil => exact absurd e h1
          | cons c r =>
            show ([c] == [48]) = _
            by_cases hc : c = 48 <;> simp [hc]
        have h0 : (t = "0") ↔ tl t = [48] := by rw [str_eq, tl_0]
        simp [hsz, h7, ha, he, hs0]
        by_cases hz : tl t = [48] ∨ (tl t).head? ≠ some 48
        · have e1 : ¬ (¬ t = "0" ∧ (tl t).head? = some 48) := fun ⟨a, b⟩ => hz.elim (fun z => a (h0.mpr z)) fun z => z b
          have e2 : okNumD M (tl t) = some (NumText.digitsVal (tl t)) := by
            unfold okNumD
            rw [if_pos ⟨h1, by omega, h2, hz⟩]
          have e3 : intText? t = some ((NumText.digitsVal (tl t) : Nat) : Int) := intText_digits (x := t) h2 h1 (by omega)
          rw [e2] at q
          by_cases a : t = "0"
          · simp [a]
            subst a
            exact ⟨_, e3, by omega, .inl q⟩
          · have b : ¬ (tl t).head? = some 48 := fun z => e1 ⟨a, z⟩
            simp [a, b]
            exact ⟨_, e3, by omega, .inl q⟩
        · have a : ¬ t = "0" := fun z => hz (.inl (h0.mp z))
          have b : (tl t).head? = some 48 := Decidable.not_not.mp fun z => hz (.inr z)
          simp [a, b]
          exact none' (by unfold okNumD; rw [if_neg]; rintro ⟨_, _, _, h⟩; exact hz h)
end CM
namespace CM
open PySem L2 PySem.Spec DL
open PyProof.Rows hiding St
open TL (tl pre spl numL joinL)
theorem joinL_len (S : List Nat) : ∀ {ps : List (List Nat)} {p : List Nat}, p ∈ ps → p.length ≤ (joinL S ps).length
  | [q], p, h => by rw [List.mem_singleton.mp h]; exact Nat.le_refl _
  | q :: q2 :: r, p, h => by
    show _ ≤ (q ++ (S ++ joinL S (q2 :: r))).length
    rw [List.length_append, List.length_append]
    rcases List.mem_cons.mp h with rfl | h
    · omega
    · have := joinL_len S h
      omega
theorem split_len {x y w : Str} (h : w ∈ Txt.split x y) : w.length ≤ x.length := by
  have e := PySem.StrLaws.join_split x y
  have e2 := TL.tl_join y (Txt.split x y)
  rw [e] at e2
  have := joinL_len (tl y) (List.mem_map_of_mem (f := tl) h)
  rw [← e2, ← TL.len_tl, ← TL.len_tl] at this
  exact this
theorem tl_dot : tl ("." : Str) = [46] := by rw [show ("." : Str) = Str.ofString "." from rfl, TL.tl_ofString]; rfl
theorem tl_comma : tl (", " : Str) = [44, 32] := by rw [show (", " : Str) = Str.ofString ", " from rfl, TL.tl_ofString]; rfl
theorem tl_bar : tl (" | " : Str) = [32, 124, 32] := by rw [show (" | " : Str) = Str.ofString " | " from rfl, TL.tl_ofString]; rfl
theorem cps256 {y : Str} (h : ∀ c ∈ tl y, c < 256) : y.cps.all (· < 256) = true := by
  rw [Array.all_eq_true']
  intro c hc
  simpa using h c (Array.mem_toList_iff.mpr hc)
theorem split_tl {x y : Str} {S : List Nat} (e : tl y = S) (hS : S ≠ []) (h : ∀ c ∈ S, c < 256) : (Txt.split x y).map tl = spl S 0 [] (tl x) := by
  subst e
  exact TL.split_spl x y hS (TL.kind_ok (cps256 h))
/-- the version that signs tell -/
def verText (l : List Nat) : Option Nat := verM 1000000 (.tup ((spl [46] 0 [] l).map fun w => encN (okNum w)))
def sp_told_version : DSp := fun ds st Q _ => match ds with
  | [.str t] => t.length ≤ 1000000 ∧ Q (encO (verText (tl t))) st
  | _ => False
@[simp] theorem e_told_version {st : Sto} {Q : DK} {Z : DX → Sto → Prop} {t : Str} : sp_told_version [.str t] st Q Z = (t.length ≤ 1000000 ∧ Q (encO (verText (tl t))) st) := rfl
theorem ok_encN {st : Sto} {o : Option Nat} : ok st (encN o) := by cases o <;> simp [encN]
theorem blw_encN (n : Nat) (o : Option Nat) : D.blw n (encN o) = true := by cases o <;> rfl
theorem sz1m {n : Nat} (h : n ≤ 1000000) : n + 2 ≤ sizeLine := by have := sizeLine_big (n := n + 2) (by omega); omega
theorem r_told_version : Rd 1 sp_told_version (RD.t_told_version sp_is_version sp_told_number) RD.N_told_version := by
  intro ds st Q Z hl h
  match ds, hl, h with
  | [.str t], _, hx =>
    obtain ⟨ht, q⟩ := hx
    unfold RD.t_told_version
    rw [s_seq]
    generalize hR : dSeq _ _ _ = R
    have hcut := split_tl (x := t) tl_dot (by simp) (by simp)
    simp
    refine ⟨by decide, sz1m ht, ?_⟩
    have hk : (st ++ [Ob.lst ((Txt.split t ".").map D.str)])[st.length]? = some (.lst ((Txt.split t ".").map D.str)) := getElem?_push
    have hcount : (Txt.split t ".").length ≤ t.length + 2 := PyProof.Rows.split_le t "."
    refine runC_mem (inj := D.str) (out := fun w => encN (okNum (tl w))) hk (Txt.split t ".") [] (fun w hw QT qt => ?_) (by simp; omega) ?_
    · unfold RD.e_told_version_1
      simp
      exact ⟨by have := split_len hw; omega, qt⟩
    have e : (Txt.split t ".").map (fun w => encN (okNum (tl w))) = (spl [46] 0 [] (tl t)).map fun w => encN (okNum w) := by rw [← hcut, List.map_map]; rfl
    simp [e]
    generalize hw : (spl [46] 0 [] (tl t)).map (fun w => encN (okNum w)) = ws
    have hok : ∀ st', ok st' (.tup ws) := fun st' => by
      simp only [ok, oks_iff]
      intro d hd
      rw [← hw] at hd
      obtain ⟨w, _, rfl⟩ := List.mem_map.mp hd
      exact ok_encN
    have hv : verText (tl t) = verM 1000000 (.tup ws) := by unfold verText; rw [hw]
    rw [hv] at q
    subst hR
    simp
    refine ⟨by simpa using hok _, ?_⟩
    cases ev : verM 1000000 (.tup ws) with
    | none =>
      rw [ev] at q
      simp
      exact back_tup ⟨_, rfl⟩ rfl q
    | some n =>
      obtain ⟨e1, _⟩ := ver_some ev
      rw [ev] at q
      rw [e1]
      simp
      exact back_tup ⟨_, rfl⟩ (blw_encV _ _) q
end CM
namespace CM
open PySem L2 PySem.Spec DL
open PyProof.Rows hiding St
open TL (tl pre spl numL joinL)
def t3 (a b c : Int) : D := .tup [.int a, .int b, .int c]
def behD (n : Nat) : D := t3 (vA n) (vB n) ((vC n : Int) + 1)
def carD (n : Nat) : D := if 0 < vA n then t3 ((vA n : Int) + 1) 0 0 else if 0 < vB n then t3 0 ((vB n : Int) + 1) 0 else t3 0 0 ((vC n : Int) + 1)
def sp_behind : DSp := fun ds st Q _ => match ds with
  | [d] => ∃ n, d = encV n ∧ Q (behD n) st
  | _ => False
def sp_caret : DSp := fun ds st Q _ => match ds with
  | [d] => ∃ n, d = encV n ∧ Q (carD n) st
  | _ => False
section
variable {st : Sto} {Q : DK} {Z : DX → Sto → Prop} {n : Nat}
theorem exV {p : Nat → Prop} : (∃ m, encV n = encV m ∧ p m) = p n := by
  apply propext
  constructor
  · rintro ⟨m, e, h⟩
    rw [encV_inj] at e
    subst e
    exact h
  · intro h; exact ⟨n, rfl, h⟩
@[simp] theorem e_behind : sp_behind [encV n] st Q Z = Q (behD n) st := exV
@[simp] theorem e_caret : sp_caret [encV n] st Q Z = Q (carD n) st := exV
end
theorem r_version_behind : Rd 1 sp_behind RD.t_version_behind RD.N_version_behind := by
  intro ds st Q Z hl h
  match ds, hl, h with
  | [d], _, hx =>
    obtain ⟨n, rfl, q⟩ := hx
    unfold RD.t_version_behind
    simp [encV]
    exact ⟨by decide, .inl q⟩
theorem r__law_behind : Rd 1 sp_behind RD.t__law_behind RD.N__law_behind := by
  intro ds st Q Z hl h
  match ds, hl, h with
  | [d], _, hx =>
    obtain ⟨n, rfl, q⟩ := hx
    unfold RD.t__law_behind
    simp [encV]
    exact ⟨by decide, .inl q⟩
theorem r_caret_end : Rd 1 sp_caret RD.t_caret_end RD.N_caret_end := by
  intro ds st Q Z hl h
  match ds, hl, h with
  | [d], _, hx =>
    obtain ⟨n, rfl, q⟩ := hx
    unfold RD.t_caret_end
    unfold carD t3 at q
    simp [encV]
    by_cases h1 : 0 < vA n
    · rw [if_pos h1] at q ⊢
      exact ⟨by decide, .inl q⟩
    · rw [if_neg h1] at q ⊢
      by_cases h2 : 0 < vB n
      · rw [if_pos h2] at q ⊢
        exact ⟨by decide, .inl q⟩
      · rw [if_neg h2] at q ⊢
        exact ⟨by decide, .inl q⟩
def signs : List Str := ["<=", ">=", "<", ">", "!", "^", "~"]
def signOf (l : List Nat) : Str := (signs.find? fun s => pre (tl s) l).getD ""
def sp_sign_of : DSp := fun ds st Q _ => match ds with
  | [.str t] => Q (.str (signOf (tl t))) st
  | _ => False
@[simp] theorem e_sign_of {st : Sto} {Q : DK} {Z : DX → Sto → Prop} {t : Str} : sp_sign_of [.str t] st Q Z = Q (.str (signOf (tl t))) st := rfl
theorem lp_sign (E : DEnds) {t : Str} {st : Sto} : ∀ (ss : List Str) (x1 : Option D), (∀ s, ss.find? (fun s => pre (tl s) (tl t)) = some s → E.rt (.str s) st) → (ss.find? (fun s => pre (tl s) (tl t)) = none → ∀ y, E.nx [some (.str t), y] st) →
    runG (gN 1) RD.b_sign_of_1 E (fun _ => True) (ss.map D.str) [some (.str t), x1] st
  | [], x1, _, hn => ⟨trivial, hn rfl x1⟩
  | s :: ss, x1, hy, hn => by
    rw [List.map_cons, runG_cons]
    refine ⟨trivial, ?_⟩
    have ih := fun (h : pre (tl s) (tl t) = false) x1 => lp_sign E ss x1 (fun s' e => hy s' (by simpa [h] using e)) fun e => hn (by simpa [h] using e)
    simp only [s_gN]
    generalize hR : runG (gN 1) RD.b_sign_of_1 E (fun _ => True) (ss.map D.str) = R at ih ⊢
    unfold RD.b_sign_of_1
    simp [starts_pre]
    cases h : pre (tl s) (tl t) with
    | true => simp; exact hy s (by simp [h])
    | false => simp; exact ih h _
theorem r_sign_of : Rd 1 sp_sign_of RD.t_sign_of RD.N_sign_of := by
  intro ds st Q Z hl h
  match ds, hl, h with
  | [.str t], _, q =>
    unfold RD.t_sign_of
    rw [s_seq, s_for, s_iD, s_c, s_walk_tup]
    refine lp_sign _ signs none (fun s e => ?_) fun e y => ?_
    · have : signOf (tl t) = s := by unfold signOf; rw [e]; rfl
      rw [e_sign_of, this] at q
      exact .inl q
    · have : signOf (tl t) = "" := by unfold signOf; rw [e]; rfl
      rw [e_sign_of, this] at q
      exact .inl q
def rawOut (n : Nat) (d : D) : D := .tup ((if 0 < n then [.tup [encV 0, encV n]] else []) ++ [.tup [d, .non]])
def sp_outX : DSp := fun ds st Q Z => ∃ n a b c, ds = [.tup [.tup [encV n, t3 a b c]]] ∧ Q (rawOut n (t3 a b c)) st
theorem r_outX : Rd 1 sp_outX RD.t_outside RD.N_outside := by
  intro ds st Q Z hl h
  obtain ⟨n, a, b, c, rfl, q⟩ := h
  unfold RD.t_outside
  unfold rawOut at q
  simp [encV_0, runG_cons, runG_nil, RD.b_outside_1, t3] at q ⊢
  by_cases h : 0 < n
  · simp [h] at q ⊢
    refine ⟨by decide, by decide, by decide, by decide, ?_⟩
    exact back_tup ⟨_, rfl⟩ (by simp [D.blw, D.blws, blw_encV]) q
  · simp [h] at q ⊢
    refine ⟨by decide, by decide, ?_⟩
    exact back_tup ⟨_, rfl⟩ (by simp [D.blw, D.blws]) q
def rosD (s : Str) (n : Nat) : D :=
  if s = "<" then encR (outR [(n, none)]) else
  if s = "<=" then .tup [.tup [encV 0, behD n]] else
  if s = ">" then .tup [.tup [behD n, .non]] else
  if s = ">=" then encR [(n, none)] else
  if s = "!" then rawOut n (behD n) else
  if s = "^" then .tup [.tup [encV n, carD n]] else
  if s = "~" then .tup [.tup [encV n, t3 (vA n) ((vB n : Int) + 1) 0]] else
  .tup [.tup [encV n, behD n]]
def sp_outY : DSp := fun ds st Q Z => sp_outside ds st Q Z ∨ sp_outX ds st Q Z
theorem r_outY : Rd 1 sp_outY RD.t_outside RD.N_outside := fun ds st Q Z hl h => by
  rcases h with h | h
  · exact r_outside ds st Q Z hl h
  · exact r_outX ds st Q Z hl h
def sp_ros : DSp := fun ds st Q _ => match ds with
  | [.str s, d] => ∃ n, d = encV n ∧ okV n ∧ Q (rosD s n) st
  | _ => False
@[simp] theorem e_ros {st : Sto} {Q : DK} {Z : DX → Sto → Prop} {s : Str} {n : Nat} : sp_ros [.str s, encV n] st Q Z = (okV n ∧ Q (rosD s n) st) := exV
theorem szk (n : Nat) (h : n < 1000) : n ≤ sizeLine := Nat.le_of_lt (sizeLine_big (by omega))
/-- one text behind another is asked for -/
theorem case_str {s lit : Str} {i : Nat} {ρ : Env'} {st : Sto} {a r : DTS} {E : DEnds} (hi : ρ[i]? = some (some (.str s))) (h1 : s = lit → a { E with nx := r E } ρ st) (h2 : s ≠ lit → r E ρ st) :
    dSeq (dIfS (dTest (dOp dEq (dVar i) (dC (.str lit)))) a dNext) r E ρ st := by
  rw [s_seq, s_ifS, s_test, s_op, s_var, hi]
  dsimp only
  rw [s_c]
  show dEqB id _ _ _ _
  rw [s_eq_str]
  by_cases h : s = lit
  · simp only [h, decide_true, id, if_true]
    exact h1 h
  · simp only [h, decide_false, id]
    exact h2 h
theorem rng1 {d e : D} {ρ : Env'} {st : Sto} {E : DEnds} {td te : DTE} (hd : ∀ (Q : DK) Z, Q d st → td ρ st Q Z) (he : ∀ (Q : DK) Z, Q e st → te ρ st Q Z) (q : E.rt (.tup [.tup [d, e]]) st) :
    dRet (dTup (dCons (dTup (dCons td (dCons te dNil))) dNil)) E ρ st := by
  rw [s_ret, s_dtup, s_cons, s_dtup, s_cons]
  refine hd _ _ ?_
  rw [s_cons]
  refine he _ _ ?_
  exact ⟨szk 2 (by decide), szk 1 (by decide), q⟩
theorem r_range_of_sign : Rd 2 sp_ros (RD.t_range_of_sign sp_outY sp_behind sp_caret) RD.N_range_of_sign := by
  intro ds st Q Z hl h
  match ds, hl, h with
  | [.str s, d], _, hx =>
    obtain ⟨n, rfl, hn, q⟩ := hx
    unfold RD.t_range_of_sign
    unfold rosD at q
    rw [s_seq, s_asg, s_call, s_cons, s_var]
    simp only [s_start, List.map_cons, List.map_nil, List.cons_append, List.nil_append, List.getElem?_cons_succ, List.getElem?_cons_zero, s_nil, e_behind]
    refine ⟨rfl, ?_⟩
    rw [s_gN]
    show dSeq _ _ _ [some (.str s), some (encV n), some (behD n)] st
    have v0 : ∀ (i : Nat) (d : D) (Q : DK) Z, [some (D.str s), some (encV n), some (behD n)][i]? = some (some d) → Q d st → dVar i [some (.str s), some (encV n), some (behD n)] st Q Z := fun i d Q Z h q => by
      rw [s_var, h]
      exact q
    refine case_str rfl (fun e => ?_) fun n1 => ?_
    · rw [if_pos e] at q
      rw [s_ret, s_call, s_cons, s_dtup, s_cons, s_dtup, s_cons]
      refine v0 1 _ _ _ rfl ?_
      refine ⟨szk 2 (by decide), szk 1 (by decide), rfl, .inl ⟨[(n, none)], rfl, ⟨⟨hn, fun _ e => by cases e⟩, rfl, trivial⟩, by simp [few], .inl q⟩⟩
    rw [if_neg n1] at q
    refine case_str rfl (fun e => ?_) fun n2 => ?_
    · rw [if_pos e] at q
      exact rng1 (fun _ _ q => q) (fun _ _ q => v0 2 _ _ _ rfl q) (.inl q)
    rw [if_neg n2] at q
    refine case_str rfl (fun e => ?_) fun n3 => ?_
    · rw [if_pos e] at q
      exact rng1 (fun _ _ q => v0 2 _ _ _ rfl q) (fun _ _ q => q) (.inl q)
    rw [if_neg n3] at q
    refine case_str rfl (fun e => ?_) fun n4 => ?_
    · rw [if_pos e] at q
      exact rng1 (fun _ _ q => v0 1 _ _ _ rfl q) (fun _ _ q => q) (.inl q)
    rw [if_neg n4] at q
    refine case_str rfl (fun e => ?_) fun n5 => ?_
    · rw [if_pos e] at q
      rw [s_ret, s_call, s_cons, s_dtup, s_cons, s_dtup, s_cons]
      refine v0 1 _ _ _ rfl ?_
      rw [s_cons]
      refine v0 2 _ _ _ rfl ?_
      exact ⟨szk 2 (by decide), szk 1 (by decide), rfl, .inr ⟨n, _, _, _, rfl, .inl q⟩⟩
    rw [if_neg n5] at q
    refine case_str rfl (fun e => ?_) fun n6 => ?_
    · rw [if_pos e] at q
      refine rng1 (d := encV n) (e := carD n) (fun _ _ q => v0 1 _ _ _ rfl q) (fun _ _ q => ?_) (.inl q)
      rw [s_call, s_cons]
      refine v0 1 _ _ _ rfl ?_
      exact ⟨rfl, e_caret.symm ▸ q⟩
    rw [if_neg n6] at q
    refine case_str rfl (fun e => ?_) fun n7 => ?_
    · rw [if_pos e] at q
      refine rng1 (d := encV n) (e := t3 (vA n) ((vB n : Int) + 1) 0) (fun _ _ q => v0 1 _ _ _ rfl q) (fun _ _ q => ?_) (.inl q)
      simp [encV]
      exact ⟨by decide, q⟩
    rw [if_neg n7] at q
    exact rng1 (fun _ _ q => v0 1 _ _ _ rfl q) (fun _ _ q => v0 2 _ _ _ rfl q) (.inl q)
end CM
namespace CM
open PySem L2 PySem.Spec DL
open PyProof.Rows hiding St
open TL (tl pre spl numL joinL)
def encOR : Option Rng → D
  | none => .non
  | some r => encR r
def everyR : Rng := [(0, none)]
def partOf (l : List Nat) : Option Rng := if l = [42] then some everyR else match verText (l.drop (tl (signOf l)).length) with
  | none => none
  | some n => rngOf (rosD (signOf l) n)
def sp_told_part : DSp := fun ds st Q _ => match ds with
  | [.str t] => t.length ≤ 1000000 ∧ Q (encOR (partOf (tl t))) st
  | _ => False
@[simp] theorem e_told_part {st : Sto} {Q : DK} {Z : DX → Sto → Prop} {t : Str} : sp_told_part [.str t] st Q Z = (t.length ≤ 1000000 ∧ Q (encOR (partOf (tl t))) st) := rfl
theorem tl_cut (t : Str) (k : Nat) : tl (cutS t (some (k : Int)) none) = (tl t).drop k := by
  have hl := TL.len_tl t
  show ((tl t).drop (_root_.HT.sIx t.length 0 (some (k : Int)))).take (_root_.HT.sIx t.length t.length none - _root_.HT.sIx t.length 0 (some (k : Int))) = _
  have e1 : _root_.HT.sIx t.length t.length none = t.length := rfl
  have e2 : _root_.HT.sIx t.length 0 (some (k : Int)) = min k t.length := by
    show (if ((k : Int)) < 0 then ((k : Int) + (t.length : Int)).toNat else min (k : Int).toNat t.length) = _
    rw [if_neg (by omega)]
    rfl
  rw [e1, e2]
  by_cases h : k ≤ t.length
  · rw [Nat.min_eq_left h]
    rw [List.take_of_length_le (by rw [List.length_drop]; omega)]
  · rw [Nat.min_eq_right (by omega), Nat.sub_self, List.take_zero, List.drop_eq_nil_of_le (by omega)]
theorem sign_len (l : List Nat) : (tl (signOf l)).length ≤ 2 := by
  unfold signOf
  cases e : signs.find? fun s => pre (tl s) l with
  | none => decide
  | some s =>
    have hm := List.mem_of_find?_eq_some e
    show (tl s).length ≤ 2
    have : ∀ s ∈ signs, (tl s).length ≤ 2 := by decide
    exact this s hm
theorem ok_t3 {st : Sto} {a b c : Int} : ok st (t3 a b c) := by simp [t3]
theorem ok_carD {st : Sto} {n : Nat} : ok st (carD n) := by
  unfold carD
  split
  · exact ok_t3
  · split <;> exact ok_t3
theorem ok_behD {st : Sto} {n : Nat} : ok st (behD n) := ok_t3
theorem ok_ros {st : Sto} {s : Str} {n : Nat} : ok st (rosD s n) := by
  have h1 := ok_behD (st := st) (n := n)
  have h2 := ok_carD (st := st) (n := n)
  have h3 := ok_t3 (st := st) (a := vA n) (b := (vB n : Int) + 1) (c := 0)
  unfold rosD rawOut
  split
  · simp
  split
  · simp [h1]
  split
  · simp [h1]
  split
  · simp
  split
  · split <;> simp [h1]
  split
  · simp [h2]
  split
  · simp [h3]
  · simp [h1]
theorem tl_star : tl ("*" : Str) = [42] := by rw [show ("*" : Str) = Str.ofString "*" from rfl, TL.tl_ofString]; rfl
theorem r_told_part : Rd 1 sp_told_part (RD.t_told_part sp_is_range sp_told_version sp_ros sp_sign_of) RD.N_told_part := by
  intro ds st Q Z hl h
  match ds, hl, h with
  | [.str t], _, hx =>
    obtain ⟨ht, q⟩ := hx
    unfold RD.t_told_part
    unfold partOf at q
    refine case_str rfl (fun e => ?_) fun hne => ?_
    · rw [if_pos (by rw [e]; exact tl_star)] at q
      exact .inl q
    rw [if_neg fun e => hne (str_eq.mpr (e.trans tl_star.symm))] at q
    rw [s_seq]
    generalize hR : dSeq _ _ _ = R
    simp
    subst hR
    rw [s_seq]
    generalize hR : dSeq _ _ _ = R
    have hsl := sign_len (tl t)
    have hz : t.length ≤ sizeLine := by have := sizeLine_big (n := t.length) (by omega); omega
    have hsg : (signOf (tl t)).length ≤ sizeLine := by rw [TL.len_tl]; exact szk _ (by omega)
    simp [hsg, hz]
    refine ⟨by have := cutS_length t (some ((signOf (tl t)).length : Int)) none; omega, ?_⟩
    rw [tl_cut, TL.len_tl (signOf (tl t))]
    subst hR
    cases ev : verText (List.drop (tl (signOf (tl t))).length (tl t)) with
    | none =>
      rw [ev] at q
      simp [encO]
      exact .inl q
    | some n =>
      rw [ev] at q
      have hn : okV n := (ver_some ev).2
      dsimp only at q
      rw [s_seq]
      generalize hR : dSeq _ _ _ = R
      simp [encO]
      subst hR
      rw [s_seq]
      generalize hR : dSeq _ _ _ = R
      simp [hn]
      subst hR
      cases er : rngOf (rosD (signOf (tl t)) n) with
      | none =>
        rw [er] at q
        simp [er, ok_ros]
        exact .inl q
      | some r =>
        rw [er] at q
        simp [er, ok_ros]
        obtain ⟨e, _⟩ := rngOf_some er
        rw [e]
        exact .inl q
end CM
namespace CM
open PySem L2 PySem.Spec DL
open PyProof.Rows hiding St
open TL (tl pre spl numL joinL)
/-- what the law tells of a word and a version -/
def lawPart (w : Str) (n : Nat) : Option Rng := if w = "*" then some everyR else rngOf (rosD w n)
def words : List Str := ["*", "<=", ">=", "<", ">", "!", "^", "~", ""]
def sp_law_part : DSp := fun ds st Q _ => match ds with
  | [.str w, d] => ∃ n, d = encV n ∧ w ∈ words ∧ okV n ∧ Q (encOR (lawPart w n)) st
  | _ => False
@[simp] theorem e_law_part {st : Sto} {Q : DK} {Z : DX → Sto → Prop} {w : Str} {n : Nat} : sp_law_part [.str w, encV n] st Q Z = (w ∈ words ∧ okV n ∧ Q (encOR (lawPart w n)) st) := exV
theorem beh_lt {n : Nat} (h : vC n < 1000000) : behD n = encV (n + 1) := by
  unfold behD t3 encV vA vB vC at *
  have h1 : (n + 1) / 1000001 / 1000001 = n / 1000001 / 1000001 := by omega
  have h2 : (n + 1) / 1000001 % 1000001 = n / 1000001 % 1000001 := by omega
  have h3 : (n + 1) % 1000001 = n % 1000001 + 1 := by omega
  rw [h1, h2, h3]
  rfl
theorem okV_lt {n : Nat} (h : okV n) (hc : vC n < 1000000) : okV (n + 1) := by
  unfold okV vA vC at *
  omega
theorem beh_no {n : Nat} (h : ¬ vC n < 1000000) : verM 1000000 (behD n) = none := by
  have := vC_le n
  have e : (vC n : Int) + 1 = ((1000001 : Nat) : Int) := by omega
  unfold behD t3
  rw [e]
  have : numMost 1000000 (.int ((1000001 : Nat) : Int)) = none := by
    unfold numMost
    rw [num_int]
    rfl
  simp only [verM, this]
  cases numMost 1000000 (.int (vA n : Int)) <;> cases numMost 1000000 (.int (vB n : Int)) <;> rfl
theorem rngOf_one {d : D} : rngOf (.tup [d]) = (pairOf d).map fun p => [p] := by
  show rngL none [d] = _
  unfold rngL
  cases e : pairOf d with
  | none => rfl
  | some p =>
    obtain ⟨l, h⟩ := p
    rfl
theorem pair_enc {n : Nat} {d : D} (h : okV n) : pairOf (.tup [encV n, d]) = match endOf d with | some none => some (n, none) | some (some x) => if n < x then some (n, some x) else none | none => none := by
  unfold pairOf
  dsimp only
  rw [ver_enc h]
  cases endOf d with
  | none => rfl
  | some o => cases o <;> rfl
theorem end_t3 (a b c : Int) : endOf (t3 a b c) = (verM 1000000 (t3 a b c)).map some := by
  unfold endOf t3
  dsimp only
  cases verM 1000000 (.tup [.int a, .int b, .int c]) <;> rfl
theorem end_beh {n : Nat} : endOf (behD n) = (verM 1000000 (behD n)).map some := end_t3 _ _ _
/-- one behind another: the ranges of the signs -/
theorem ros_none {n : Nat} (hn : okV n) (hc : ¬ vC n < 1000000) : ∀ w : Str, w = "" ∨ w = "!" ∨ w = "<=" ∨ w = ">" → rngOf (rosD w n) = none := by
  have hb := beh_no hc
  have he : endOf (behD n) = none := by rw [end_beh, hb]; rfl
  intro w hw
  rcases hw with rfl | rfl | rfl | rfl
  · show rngOf (.tup [.tup [encV n, behD n]]) = none
    rw [rngOf_one, pair_enc hn, he]
    rfl
  · show rngOf (rawOut n (behD n)) = none
    unfold rawOut
    have hp : pairOf (.tup [behD n, .non]) = none := by
      unfold pairOf
      dsimp only
      rw [hb]
    by_cases h0 : 0 < n
    · rw [if_pos h0]
      show rngL none [.tup [encV 0, encV n], .tup [behD n, .non]] = none
      unfold rngL
      rw [pair_enc okV0, show endOf (encV n) = some (some n) from endOf_enc (o := some n) fun x e => by cases e; exact hn]
      simp only [h0, if_true]
      unfold rngL
      rw [hp]
      rfl
    · rw [if_neg h0]
      show rngOf (.tup [.tup [behD n, .non]]) = none
      rw [rngOf_one, hp]
      rfl
  · show rngOf (.tup [.tup [encV 0, behD n]]) = none
    rw [rngOf_one, pair_enc okV0, he]
    rfl
  · show rngOf (.tup [.tup [behD n, .non]]) = none
    have hp : pairOf (.tup [behD n, .non]) = none := by
      unfold pairOf
      dsimp only
      rw [hb]
    rw [rngOf_one, hp]
    rfl
theorem wf1 {n : Nat} (h : okV n) : wf [(n, none)] := ⟨⟨h, fun _ e => by cases e⟩, rfl, trivial⟩
theorem wf2 {n x : Nat} (h : okV n) (hx : okV x) (hl : n < x) : wf [(n, some x)] := ⟨⟨h, fun _ e => by cases e; exact ⟨hx, hl⟩⟩, rfl, trivial⟩
theorem ros_some {n : Nat} (hn : okV n) (hc : vC n < 1000000) : rngOf (rosD "" n) = some [(n, some (n + 1))] ∧ rngOf (rosD "!" n) = some (outR [(n, some (n + 1))]) ∧ rngOf (rosD "<=" n) = some [(0, some (n + 1))] ∧ rngOf (rosD ">" n) = some [(n + 1, none)] := by
  have hb := beh_lt hc
  have h1 := okV_lt hn hc
  refine ⟨?_, ?_, ?_, ?_⟩
  · show rngOf (.tup [.tup [encV n, behD n]]) = _
    rw [hb]
    exact rngOf_enc (r := [(n, some (n + 1))]) (wf2 hn h1 (by omega))
  · show rngOf (rawOut n (behD n)) = _
    rw [hb]
    have : rawOut n (encV (n + 1)) = encR (outR [(n, some (n + 1))]) := by
      unfold rawOut outR
      by_cases h0 : 0 < n
      · simp [h0, outF, encR, encP, encO]
      · simp [h0, outF, encR, encP, encO]
    rw [this]
    exact rngOf_enc (wf_out (wf2 hn h1 (by omega)))
  · show rngOf (.tup [.tup [encV 0, behD n]]) = _
    rw [hb]
    exact rngOf_enc (r := [(0, some (n + 1))]) (wf2 okV0 h1 (by omega))
  · show rngOf (.tup [.tup [behD n, .non]]) = _
    rw [hb]
    exact rngOf_enc (r := [(n + 1, none)]) (wf1 h1)
/-- where the end is a triple told -/
theorem ros_end {n a b c : Nat} (hn : okV n) (hlt : a ≤ 1000000 → b ≤ 1000000 → c ≤ 1000000 → n < mkV a b c) :
    rngOf (.tup [.tup [encV n, t3 a b c]]) = if a ≤ 1000000 ∧ b ≤ 1000000 ∧ c ≤ 1000000 then some [(n, some (mkV a b c))] else none := by
  have big : ∀ {k : Nat}, ¬ k ≤ 1000000 → numMost 1000000 (.int k) = none := fun h => by unfold numMost; rw [num_int]; simp [h]
  rw [rngOf_one, pair_enc hn, end_t3]
  by_cases ha : a ≤ 1000000
  · by_cases hb : b ≤ 1000000
    · by_cases hc : c ≤ 1000000
      · rw [if_pos ⟨ha, hb, hc⟩]
        have : verM 1000000 (t3 a b c) = some (mkV a b c) := by simp only [verM, t3, most_int ha, most_int hb, most_int hc]
        rw [this]
        simp [hlt ha hb hc]
      · rw [if_neg fun h => hc h.2.2]
        have : verM 1000000 (t3 a b c) = none := by simp only [verM, t3, most_int ha, most_int hb, big hc]
        rw [this]
        rfl
    · rw [if_neg fun h => hb h.2.1]
      have : verM 1000000 (t3 a b c) = none := by simp only [verM, t3, most_int ha, big hb]
      rw [this]
      rfl
  · rw [if_neg fun h => ha h.1]
    have : verM 1000000 (t3 a b c) = none := by simp only [verM, t3, big ha]
    rw [this]
    rfl
end CM
namespace CM
open PySem L2 PySem.Spec DL
open PyProof.Rows hiding St
open TL (tl pre spl numL joinL)
theorem inD_strs (w : Str) : ∀ ls : List Str, inD (.str w) (ls.map D.str) = decide (w ∈ ls)
  | [] => rfl
  | l :: ls => by
    have ih := inD_strs w ls
    unfold inD inV at ih ⊢
    simp only [List.map_cons, List.any_cons]
    rw [ih]
    have : eqV (flatVal (.str l)) (flatVal (.str w)) = decide (w = l) := by
      show (decide (l = w) : Bool) = decide (w = l)
      exact decide_eq_decide.mpr ⟨Eq.symm, Eq.symm⟩
    rw [this]
    by_cases h : w = l <;> simp [h]
theorem flat_strs : ∀ ls : List Str, (ls.map D.str).all flatD = true
  | [] => rfl
  | l :: ls => by simp [flatD, flat_strs ls]
theorem in_strs {w : Str} {ls : List Str} {st : Sto} {Q : DK} (q : Q (.bl (decide (w ∈ ls))) st) : dIn false (.str w) (.tup (ls.map .str)) st Q :=
  ⟨ls.map .str, rfl, rfl, flat_strs ls, by rw [inD_strs]; exact q⟩
section
variable {st : Sto} {E : DEnds} {w : Str} {n : Nat}
/-- the frame of the law's reckoning of a part -/
def fr (w : Str) (n : Nat) (y6 y7 y8 : Option D) : Env' := [some (.str w), some (encV n), some (.int (vA n)), some (.int (vB n)), some (.int (vC n)), some (encR everyR), y6, y7, y8]
theorem test_in {ls : List Str} {a r : DTS} {ρ : Env'} {t : DTA} (h0 : ρ[0]? = some (some (.str w))) (ht : ∀ (QA : List D → Sto → Prop) Z, QA (ls.map .str) st → t ρ st QA Z) (hl : ls.length < 1000) (h1 : w ∈ ls → a { E with nx := r E } ρ st) (h2 : w ∉ ls → r E ρ st) :
    dSeq (dIfS (dTest (dOp (dIn false) (dVar 0) (dTup t))) a dNext) r E ρ st := by
  rw [s_seq, s_ifS, s_test, s_op, s_var, h0]
  dsimp only
  rw [s_dtup]
  refine ht _ _ ⟨by rw [List.length_map]; exact szk _ hl, in_strs ?_⟩
  by_cases h : w ∈ ls
  · simp only [h, decide_true, if_true]
    exact h1 h
  · simp only [h, decide_false]
    exact h2 h
end
theorem k12 : (">=" : Str) ≠ "*" := by decide
theorem k13 : ("<" : Str) ≠ "*" := by decide
theorem k23 : ("<" : Str) ≠ ">=" := by decide
theorem merge3 (a b c : D) : mergeD [] [(.inr "*", a), (.inr ">=", b), (.inr "<", c)] = [(.inr "*", a), (.inr ">=", b), (.inr "<", c)] := by
  simp [mergeD, putD, k12, k13, k23, k12.symm, k13.symm, k23.symm]
/-- *, >=, < -/
theorem part_A {st : Sto} {E : DEnds} {w : Str} {n : Nat} {y6 y7 y8 : Option D} (hn : okV n) (hw : w ∈ (["*", ">=", "<"] : List Str)) (q : ∀ g, E.rt (encOR (lawPart w n)) (st ++ g)) :
    dSeq (dAsg (dIf (dTest (dOp dEq (dVar 1) (dTup (dCons (dC (.int 0)) (dCons (dC (.int 0)) (dCons (dC (.int 0)) dNil)))))) (dTup dNil) (dTup (dCons (dTup (dCons (dTup (dCons (dC (.int 0)) (dCons (dC (.int 0)) (dCons (dC (.int 0)) dNil)))) (dCons (dVar 1) dNil))) dNil))) (gN 6))
      (dRet (dDGet (dDisp [((dC (.str "*")), (dVar 5)), ((dC (.str ">=")), (dTup (dCons (dTup (dCons (dVar 1) (dCons (dC (.non)) dNil))) dNil))), ((dC (.str "<")), (dVar 6))]) (dVar 0))) E (fr w n y6 y7 y8) st := by
  have e0 : encV 0 = .tup [.int 0, .int 0, .int 0] := rfl
  have hfirst : ∀ (QE : DK) Z, QE (encR (outR [(n, none)])) st → dIf (dTest (dOp dEq (dVar 1) (dTup (dCons (dC (.int 0)) (dCons (dC (.int 0)) (dCons (dC (.int 0)) dNil)))))) (dTup dNil) (dTup (dCons (dTup (dCons (dTup (dCons (dC (.int 0)) (dCons (dC (.int 0)) (dCons (dC (.int 0)) dNil)))) (dCons (dVar 1) dNil))) dNil)) (fr w n y6 y7 y8) st QE Z := by
    intro QE Z q
    rw [s_if, s_test, s_op, s_var]
    show dTup _ (fr w n y6 y7 y8) st _ Z
    simp
    refine ⟨by decide, ?_⟩
    show dEqB id (encV n) (encV 0) st _
    refine eq_plain (b := decide (n = 0)) (pu_encV _) (pu_encV _) (by rw [dp_encV]; decide) (by rw [dp_encV]; decide) (by rw [encV_inj]; simp) ?_
    by_cases h : n = 0
    · simp [h]
      simpa [h, outR, outF, encR] using q
    · have h0 : 0 < n := by omega
      simp [h, fr]
      refine ⟨by decide, szk 2 (by decide), szk 1 (by decide), ?_⟩
      simpa [h0, outR, outF, encR, encP, encO, e0] using q
  rw [s_seq, s_asg]
  refine hfirst _ _ ?_
  rw [s_gN]
  dsimp only
  rw [s_ret]
  unfold dDGet dDisp
  simp [dPairs, fr, keyD]
  refine ⟨szk 2 (by decide), szk 1 (by decide), ?_⟩
  refine ⟨[(.inr "*", encR everyR), (.inr ">=", .tup [.tup [encV n, .non]]), (.inr "<", encR (outR [(n, none)]))], rfl, by simp, ?_⟩
  rw [merge3]
  simp only [List.mem_cons, List.not_mem_nil, or_false] at hw
  rcases hw with rfl | rfl | rfl
  · exact ⟨encR everyR, by simp [valD], q _⟩
  · refine ⟨.tup [.tup [encV n, .non]], by simp [valD, k12, k12.symm], ?_⟩
    have := q [Ob.dK [(.inr "*", encR everyR), (.inr ">=", .tup [.tup [encV n, .non]]), (.inr "<", encR (outR [(n, none)]))]]
    have e : lawPart ">=" n = some [(n, none)] := by
      unfold lawPart
      rw [if_neg k12]
      exact rngOf_enc (wf1 hn)
    rw [e] at this
    exact this
  · refine ⟨encR (outR [(n, none)]), by simp [valD, k13, k13.symm, k23, k23.symm], ?_⟩
    have := q [Ob.dK [(.inr "*", encR everyR), (.inr ">=", .tup [.tup [encV n, .non]]), (.inr "<", encR (outR [(n, none)]))]]
    have e : lawPart "<" n = some (outR [(n, none)]) := by
      unfold lawPart
      rw [if_neg k13]
      exact rngOf_enc (wf_out (wf1 hn))
    rw [e] at this
    exact this
/-- the greatest of three -/
theorem max3 {a b c : Nat} {st : Sto} {Q : DK} (q : ∀ m : Nat, (m ≤ 1000000 ↔ a ≤ 1000000 ∧ b ≤ 1000000 ∧ c ≤ 1000000) → Q (.int m) st) : dMaxT [t3 a b c] st Q := by
  refine ⟨[(a : Int), b, c], rfl, by simp, fun m hm hy => ?_⟩
  simp only [List.mem_cons, List.not_mem_nil, or_false] at hm
  have ha := hy a (by simp)
  have hb := hy b (by simp)
  have hc := hy c (by simp)
  obtain ⟨k, rfl⟩ := Int.eq_ofNat_of_zero_le (a := m) (by omega)
  refine q k ?_
  rcases hm with hm | hm | hm <;> constructor <;> intro h <;> omega
theorem car_nat (n : Nat) : ∃ a b c : Nat, carD n = t3 a b c ∧ (okV n → a ≤ 1000000 → b ≤ 1000000 → c ≤ 1000000 → n < mkV a b c) ∧
    (a, b, c) = (if 0 < vA n then (vA n + 1, 0, 0) else if 0 < vB n then (0, vB n + 1, 0) else (0, 0, vC n + 1)) := by
  have hm := mkV_eq n
  have hb := vB_le n
  have hc := vC_le n
  unfold carD
  by_cases h1 : 0 < vA n
  · rw [if_pos h1, if_pos h1]
    exact ⟨_, _, _, by rfl, fun _ _ _ _ => by unfold mkV at *; omega, rfl⟩
  · rw [if_neg h1, if_neg h1]
    by_cases h2 : 0 < vB n
    · rw [if_pos h2, if_pos h2]
      exact ⟨_, _, _, by rfl, fun _ _ _ _ => by unfold mkV at *; omega, rfl⟩
    · rw [if_neg h2, if_neg h2]
      exact ⟨_, _, _, by rfl, fun _ _ _ _ => by unfold mkV at *; omega, rfl⟩
theorem k1c : ("^" : Str) ≠ "*" := by decide
theorem k1t : ("~" : Str) ≠ "*" := by decide
theorem kct : ("~" : Str) ≠ "^" := by decide
/-- ^, ~ -/
theorem part_B {st : Sto} {E : DEnds} {w : Str} {n : Nat} {y6 y7 y8 : Option D} (hn : okV n) (hw : w = "^" ∨ w = "~") (q : E.rt (encOR (lawPart w n)) st) :
    dSeq (dAsg (dTup (dCons (dVar 2) (dCons (dOp dAdd (dVar 3) (dC (.int 1))) (dCons (dC (.int 0)) dNil)))) (gN 7))
      (dSeq (dIfS (dTest (dOp dEq (dVar 0) (dC (.str "^")))) (dAsg (dIf (dTest (dOp dGt (dVar 2) (dC (.int 0)))) (dTup (dCons (dOp dAdd (dVar 2) (dC (.int 1))) (dCons (dC (.int 0)) (dCons (dC (.int 0)) dNil)))) (dIf (dTest (dOp dGt (dVar 3) (dC (.int 0)))) (dTup (dCons (dC (.int 0)) (dCons (dOp dAdd (dVar 3) (dC (.int 1))) (dCons (dC (.int 0)) dNil)))) (dTup (dCons (dC (.int 0)) (dCons (dC (.int 0)) (dCons (dOp dAdd (dVar 4) (dC (.int 1))) dNil)))))) (gN 7)) dNext)
      (dRet (dIf (dTest (dOp dGt (dCB dMaxT (dCons (dVar 7) dNil)) (dC (.int 1000000)))) (dC (.non)) (dTup (dCons (dTup (dCons (dVar 1) (dCons (dVar 7) dNil))) dNil))))) E (fr w n y6 y7 y8) st := by
  have fin : ∀ (a b c : Nat) (E' : DEnds), (okV n → a ≤ 1000000 → b ≤ 1000000 → c ≤ 1000000 → n < mkV a b c) → E'.rt (encOR (rngOf (.tup [.tup [encV n, t3 a b c]]))) st →
      dRet (dIf (dTest (dOp dGt (dCB dMaxT (dCons (dVar 7) dNil)) (dC (.int 1000000)))) (dC (.non)) (dTup (dCons (dTup (dCons (dVar 1) (dCons (dVar 7) dNil))) dNil))) E' (fr w n y6 (some (t3 a b c)) y8) st := by
    intro a b c E' hlt q
    rw [ros_end hn (hlt hn)] at q
    rw [s_ret, s_if, s_test, s_op, s_cb, s_cons, s_var, show (fr w n y6 (some (t3 a b c)) y8)[7]? = some (some (t3 a b c)) from rfl]
    dsimp only
    rw [s_nil]
    refine max3 fun m hm => ?_
    by_cases h : m ≤ 1000000
    · have h' : ¬ (1000000 : Int) < m := by omega
      obtain ⟨ha, hb, hc⟩ := hm.mp h
      rw [if_pos (hm.mp h)] at q
      simp [h', fr]
      refine ⟨szk 2 (by decide), szk 1 (by decide), ?_⟩
      have e : encV (mkV a b c) = t3 a b c := by
        unfold encV t3
        rw [vA_mk (by omega) (by omega), vB_mk (by omega) (by omega), vC_mk (by omega)]
      have : encOR (some [(n, some (mkV a b c))]) = .tup [.tup [encV n, t3 a b c]] := by simp [encOR, encR, encP, encO, e]
      rw [this] at q
      exact q
    · have h' : (1000000 : Int) < m := by omega
      rw [if_neg fun z => h (hm.mpr z)] at q
      simp [h', fr]
      exact q
  rcases hw with rfl | rfl
  · have e1 : lawPart "^" n = rngOf (.tup [.tup [encV n, carD n]]) := by unfold lawPart; rw [if_neg k1c]; rfl
    rw [e1] at q
    obtain ⟨a, b, c, ec, hlt, habc⟩ := car_nat n
    rw [ec] at q
    rw [s_seq]
    generalize hR : dSeq _ _ _ = R
    simp [fr]
    refine ⟨by decide, ?_⟩
    subst hR
    refine case_str rfl (fun _ => ?_) fun h => absurd rfl h
    have hcar : carD n = (if 0 < vA n then D.tup [.int ((vA n : Int) + 1), .int 0, .int 0] else if 0 < vB n then .tup [.int 0, .int ((vB n : Int) + 1), .int 0] else .tup [.int 0, .int 0, .int ((vC n : Int) + 1)]) := rfl
    have go : ∀ d, d = carD n → dRet (dIf (dTest (dOp dGt (dCB dMaxT (dCons (dVar 7) dNil)) (dC (.int 1000000)))) (dC (.non)) (dTup (dCons (dTup (dCons (dVar 1) (dCons (dVar 7) dNil))) dNil))) E (fr "^" n y6 (some d) y8) st := fun d e => by
      rw [e, ec]
      exact fin a b c E hlt q
    unfold fr at go
    generalize dRet _ = R at go ⊢
    by_cases h1 : 0 < vA n
    · simp [h1]
      exact ⟨by decide, go _ (by rw [hcar, if_pos h1])⟩
    · by_cases h2 : 0 < vB n
      · simp [h1, h2]
        exact ⟨by decide, go _ (by rw [hcar, if_neg h1, if_pos h2])⟩
      · simp [h1, h2]
        exact ⟨by decide, go _ (by rw [hcar, if_neg h1, if_neg h2])⟩
  · have e1 : lawPart "~" n = rngOf (.tup [.tup [encV n, t3 (vA n) ((vB n + 1 : Nat) : Int) (0 : Nat)]]) := by unfold lawPart; rw [if_neg k1t]; rfl
    rw [e1] at q
    rw [s_seq]
    generalize hR : dSeq _ _ _ = R
    simp [fr]
    refine ⟨by decide, ?_⟩
    subst hR
    refine case_str rfl (fun e => absurd e kct) fun _ => ?_
    have hm := mkV_eq n
    have hc := vC_le n
    exact fin (vA n) (vB n + 1) 0 E (fun _ _ _ _ => by unfold mkV at *; omega) q
end CM
namespace CM
open PySem L2 PySem.Spec DL
open PyProof.Rows hiding St
open TL (tl pre spl numL joinL)
theorem kxb : ("!" : Str) ≠ "*" := by decide
theorem kxl : ("<=" : Str) ≠ "*" := by decide
theorem kxg : (">" : Str) ≠ "*" := by decide
theorem kxe : ("" : Str) ≠ "*" := by decide
theorem kbe : ("!" : Str) ≠ "" := by decide
theorem kle : ("<=" : Str) ≠ "" := by decide
theorem kge : (">" : Str) ≠ "" := by decide
theorem klb : ("<=" : Str) ≠ "!" := by decide
theorem kgb : (">" : Str) ≠ "!" := by decide
theorem kgl : (">" : Str) ≠ "<=" := by decide
/-- "", !, <=, > -/
theorem part_C {st : Sto} {E : DEnds} {w : Str} {n : Nat} {y6 y7 y8 : Option D} (hn : okV n) (hw : w = "" ∨ w = "!" ∨ w = "<=" ∨ w = ">") (q : E.rt (encOR (lawPart w n)) st) :
    dSeq (dAsg (dCall 1 sp_behind (dCons (dVar 1) dNil)) (gN 8))
      (dSeq (dIfS (dTest (dOp dGe (dVar 4) (dC (.int 1000000)))) (dRet (dC (.non))) dNext)
      (dSeq (dIfS (dTest (dOp dEq (dVar 0) (dC (.str "")))) (dRet (dTup (dCons (dTup (dCons (dVar 1) (dCons (dVar 8) dNil))) dNil))) dNext)
      (dSeq (dIfS (dTest (dOp dEq (dVar 0) (dC (.str "!")))) (dRet (dCall 1 sp_law_outside (dCons (dTup (dCons (dTup (dCons (dVar 1) (dCons (dVar 8) dNil))) dNil)) dNil))) dNext)
      (dRet (dIf (dTest (dOp dEq (dVar 0) (dC (.str "<=")))) (dTup (dCons (dTup (dCons (dTup (dCons (dC (.int 0)) (dCons (dC (.int 0)) (dCons (dC (.int 0)) dNil)))) (dCons (dVar 8) dNil))) dNil)) (dTup (dCons (dTup (dCons (dVar 8) (dCons (dC (.non)) dNil))) dNil))))))) E (fr w n y6 y7 y8) st := by
  have hlp : lawPart w n = rngOf (rosD w n) := by
    unfold lawPart
    rcases hw with rfl | rfl | rfl | rfl
    · rw [if_neg kxe]
    · rw [if_neg kxb]
    · rw [if_neg kxl]
    · rw [if_neg kxg]
  rw [hlp] at q
  rw [s_seq]
  generalize hR : dSeq _ _ _ = R
  simp [fr]
  subst hR
  by_cases hc : vC n < 1000000
  · obtain ⟨r1, r2, r3, r4⟩ := ros_some hn hc
    have hc' : ¬ (1000000 : Int) ≤ vC n := by omega
    rw [s_seq]
    generalize hR : dSeq _ _ _ = R
    simp [hc']
    subst hR
    rw [beh_lt hc]
    rcases hw with rfl | rfl | rfl | rfl
    · rw [r1] at q
      refine case_str rfl (fun _ => ?_) fun h => absurd rfl h
      exact rng1 (d := encV n) (e := encV (n + 1)) (fun _ _ q => q) (fun _ _ q => q) q
    · rw [r2] at q
      refine case_str rfl (fun e => absurd e kbe) fun _ => ?_
      refine case_str rfl (fun _ => ?_) fun h => absurd rfl h
      rw [s_ret, s_call, s_cons, s_dtup, s_cons, s_dtup, s_cons]
      show [encV n, encV (n + 1)].length ≤ sizeLine ∧ _
      refine ⟨szk 2 (by decide), szk 1 (by decide), rfl, [(n, some (n + 1))], rfl, wf2 hn (okV_lt hn hc) (by omega), by simp [allEnds_cons, allEnds_nil, endsOf], q⟩
    · rw [r3] at q
      refine case_str rfl (fun e => absurd e kle) fun _ => ?_
      refine case_str rfl (fun e => absurd e klb) fun _ => ?_
      simp
      refine ⟨by decide, szk 2 (by decide), szk 1 (by decide), ?_⟩
      simpa [encOR, encR, encP, encO, encV_0] using q
    · rw [r4] at q
      refine case_str rfl (fun e => absurd e kge) fun _ => ?_
      refine case_str rfl (fun e => absurd e kgb) fun _ => ?_
      simp [kgl]
      refine ⟨szk 2 (by decide), szk 1 (by decide), ?_⟩
      simpa [encOR, encR, encP, encO] using q
  · rw [ros_none hn hc w hw] at q
    have hc' : (1000000 : Int) ≤ vC n := by omega
    rw [s_seq]
    generalize hR : dSeq _ _ _ = R
    simp [hc']
    exact q
theorem blw_encOR (n : Nat) (o : Option Rng) : D.blw n (encOR o) = true := by cases o; rfl; exact blw_encR _ _
theorem gtup_V {i j k n : Nat} {ρ : Env'} {st : Sto} {Qn : Env' → Sto → Prop} (q : Qn (((ρ.set i (some (.int (vA n)))).set j (some (.int (vB n)))).set k (some (.int (vC n)))) st) : gTup' 3 (gCons' (gN i) (gCons' (gN j) (gCons' (gN k) gNil'))) (encV n) ρ st Qn := ⟨rfl, q⟩
theorem dtup_lit {ρ : Env'} {st : Sto} {Q : DK} {Z : DZ} (q : Q (encR everyR) st) : dTup (dCons (dTup (dCons (dTup (dCons (dC (.int 0)) (dCons (dC (.int 0)) (dCons (dC (.int 0)) dNil)))) (dCons (dC (.non)) dNil))) dNil) ρ st Q Z :=
  ⟨szk 3 (by decide), szk 2 (by decide), szk 1 (by decide), q⟩
theorem r__law_part : Rd 2 sp_law_part (RD.t__law_part sp_behind sp_law_outside) RD.N__law_part := by
  intro ds st Q Z hl h
  match ds, hl, h with
  | [.str w, d], _, hx =>
    obtain ⟨n, rfl, hw, hn, q⟩ := hx
    unfold RD.t__law_part
    have back : ∀ g, DL.Back st Q (encOR (lawPart w n)) (st ++ g) := fun g => back_tup ⟨g, rfl⟩ (blw_encOR _ _) q
    rw [s_seq, s_asg]
    refine gtup_V ?_
    dsimp only
    rw [s_seq, s_asg]
    refine dtup_lit ?_
    rw [s_gN]
    dsimp only
    refine test_in (w := w) (ls := ["*", ">=", "<"]) rfl (fun QA Z q => q) (by decide) (fun h => part_A (y6 := none) (y7 := none) (y8 := none) hn h back) fun h1 => ?_
    refine test_in (w := w) (ls := ["^", "~"]) rfl (fun QA Z q => q) (by decide) (fun h => part_B (y6 := none) (y7 := none) (y8 := none) hn (by simpa using h) (.inl q)) fun h2 => ?_
    refine part_C (y6 := none) (y7 := none) (y8 := none) hn ?_ (.inl q)
    simp only [words, List.mem_cons, List.not_mem_nil, or_false] at hw h1 h2
    rcases hw with h | h | h | h | h | h | h | h | h
    · exact absurd (.inl h) h1
    · exact .inr (.inr (.inl h))
    · exact absurd (.inr (.inl h)) h1
    · exact absurd (.inr (.inr h)) h1
    · exact .inr (.inr (.inr h))
    · exact .inr (.inl h)
    · exact absurd (.inl h) h2
    · exact absurd (.inr h) h2
    · exact .inl h
end CM
namespace CM
open PySem L2 PySem.Spec DL
open PyProof.Rows hiding St
open TL (tl pre spl numL joinL)
def SL (l : List Nat) : Str := ⟨l.toArray⟩
def vL (n : Nat) : List Nat := numL (vA n) ++ ([46] ++ (numL (vB n) ++ ([46] ++ numL (vC n))))
def vText (n : Nat) : Str := SL (vL n)
theorem num7 {n : Nat} (h : n ≤ 1000001) : (numL n).length ≤ 7 := TL.numL_len (by decide) (by omega)
theorem log_small {n : Nat} (h : n ≤ 1000001) : (n : Int).natAbs.log2 < 1920 := by
  rw [Int.natAbs_natCast]
  by_cases h0 : n = 0
  · rw [h0]; decide
  · refine (Nat.log2_lt h0).mpr (Nat.lt_of_le_of_lt h ?_)
    exact Nat.lt_of_lt_of_le (by decide : 1000001 < 2 ^ 20) (Nat.pow_le_pow_right (by decide) (by decide))
theorem vL_len {n : Nat} (h : okV n) : (vL n).length ≤ 23 := by
  have h1 := num7 (n := vA n) (by have : vA n ≤ 1000000 := h; omega)
  have h2 := num7 (n := vB n) (by have := vB_le n; omega)
  have h3 := num7 (n := vC n) (by have := vC_le n; omega)
  unfold vL
  simp only [List.length_append, List.length_singleton]
  omega
theorem vText_len {n : Nat} (h : okV n) : (vText n).length ≤ 23 := by rw [TL.len_tl]; exact vL_len h
def sp_vtext : DSp := fun ds st Q _ => match ds with
  | [d] => ∃ n, d = encV n ∧ okV n ∧ Q (.str (vText n)) st
  | _ => False
@[simp] theorem e_vtext {st : Sto} {Q : DK} {Z : DX → Sto → Prop} {n : Nat} : sp_vtext [encV n] st Q Z = (okV n ∧ Q (.str (vText n)) st) := exV
end CM
namespace CM
open PySem L2 PySem.Spec DL
open PyProof.Rows hiding St
open TL (tl pre spl numL joinL)
theorem r__law_version_text : Rd 1 sp_vtext RD.t__law_version_text RD.N__law_version_text := by
  intro ds st Q Z hl h
  match ds, hl, h with
  | [d], _, hx =>
    obtain ⟨n, rfl, hn, q⟩ := hx
    unfold RD.t__law_version_text
    have h1 := num7 (n := vA n) (by have : vA n ≤ 1000000 := hn; omega)
    have h2 := num7 (n := vB n) (by have := vB_le n; omega)
    have h3 := num7 (n := vC n) (by have := vC_le n; omega)
    have a1 := log_small (n := vA n) (by have : vA n ≤ 1000000 := hn; omega)
    have a2 := log_small (n := vB n) (by have := vB_le n; omega)
    have a3 := log_small (n := vC n) (by have := vC_le n; omega)
    have e : Txt.join "." [(toString (vA n : Int) : Str), (toString (vB n : Int) : Str), (toString (vC n : Int) : Str)] = vText n := by
      refine TL.ext_tl ?_
      rw [TL.join_eq, TL.tl_join]
      simp only [List.map_cons, List.map_nil, TL.tl_num, tl_dot, joinL]
      rfl
    simp [encV, runC_cons, runC_nil, RD.e__law_version_text_1]
    refine ⟨a1, by decide, a2, by decide, a3, by decide, [(toString (vA n : Int) : Str), (toString (vB n : Int) : Str), (toString (vC n : Int) : Str)], by simp, ?_, ?_⟩
    · simp only [List.map_cons, List.map_nil, List.sum_cons, List.sum_nil, List.length_cons, List.length_nil, TL.len_tl, TL.tl_num, tl_dot]
      omega
    · rw [e]
      exact back_tup ⟨_, rfl⟩ rfl q
def pText (w : Str) (n : Nat) : Str := if w = "*" then "*" else w ++ vText n
def sp_ptext : DSp := fun ds st Q _ => match ds with
  | [.str w, d] => ∃ n, d = encV n ∧ okV n ∧ w ∈ words ∧ Q (.str (pText w n)) st
  | _ => False
@[simp] theorem e_ptext {st : Sto} {Q : DK} {Z : DX → Sto → Prop} {w : Str} {n : Nat} : sp_ptext [.str w, encV n] st Q Z = (okV n ∧ w ∈ words ∧ Q (.str (pText w n)) st) := exV
theorem words_len {w : Str} (h : w ∈ words) : w.length ≤ 2 := by
  have : ∀ w ∈ words, w.length ≤ 2 := by decide
  exact this w h
theorem r__law_part_text : Rd 2 sp_ptext (RD.t__law_part_text sp_vtext) RD.N__law_part_text := by
  intro ds st Q Z hl h
  match ds, hl, h with
  | [.str w, d], _, hx =>
    obtain ⟨n, rfl, hn, hw, q⟩ := hx
    have l1 := words_len hw
    have l2 := vText_len hn
    unfold RD.t__law_part_text
    unfold pText at q
    by_cases h : w = "*"
    · rw [if_pos h] at q
      simp [h]
      exact .inl q
    · rw [if_neg h] at q
      simp [h, hn]
      exact ⟨szk _ (by omega), .inl q⟩
theorem pText_len {w : Str} {n : Nat} (hw : w ∈ words) (hn : okV n) : (pText w n).length ≤ 25 := by
  have l1 := words_len hw
  have l2 := vText_len hn
  unfold pText
  split
  · decide
  · rw [TL.len_tl, TL.tl_append, List.length_append, ← TL.len_tl, ← TL.len_tl]
    omega
def sText (l : Nat) : Option Nat → Str
  | none => (">=" : Str) ++ vText l
  | some h => if vC l < 1000000 ∧ h = l + 1 then vText l else (">=" : Str) ++ vText l ++ (", <" : Str) ++ vText h
theorem app_len (a b : Str) : (a ++ b).length = a.length + b.length := by
  rw [TL.len_tl, TL.tl_append, List.length_append, ← TL.len_tl, ← TL.len_tl]
def sp_stext : DSp := fun ds st Q _ => match ds with
  | [d, e] => ∃ l o, d = encV l ∧ e = encO o ∧ okP (l, o) ∧ Q (.str (sText l o)) st
  | _ => False
@[simp] theorem e_stext {st : Sto} {Q : DK} {Z : DX → Sto → Prop} {l : Nat} {o : Option Nat} : sp_stext [encV l, encO o] st Q Z = (okP (l, o) ∧ Q (.str (sText l o)) st) := by
  apply propext
  constructor
  · rintro ⟨l', o', h1, h2, q⟩
    rw [encV_inj] at h1
    rw [encO_inj] at h2
    subst h1 h2
    exact q
  · exact fun q => ⟨l, o, rfl, rfl, q⟩
end CM
namespace CM
open PySem L2 PySem.Spec DL
open PyProof.Rows hiding St
def sp_deep : DSp := fun ds st Q _ => match ds with
  | [.int _] => ∀ d st', (∃ g, st' = st ++ g) → ok st' d → (∀ r, d ≠ encR r) → Q d st'
  | _ => False
@[simp] theorem e_deep {st : Sto} {Q : DK} {Z : DX → Sto → Prop} {k : Int} : sp_deep [.int k] st Q Z = ∀ d st', (∃ g, st' = st ++ g) → ok st' d → (∀ r, d ≠ encR r) → Q d st' := rfl
def sp_oddv : DSp := fun ds st Q _ => match ds with
  | [.loc h, v] => ∃ c n, Hd st h c ∧ v = encV n ∧ ∀ d st', Gr h c st st' → ok st' d → Q d st'
  | _ => False
def DrE (h c : Nat) (st0 : Sto) (ρ : Env') (p : D → Prop) (te : DTE) : Prop :=
  ∀ st1 Q Z, Gr h c st0 st1 → (∀ d st2, Gr h c st1 st2 → ok st2 d → p d → Q d st2) → te ρ st1 Q Z
def DrL (h c : Nat) (st0 : Sto) (ρ : Env') (p : D → Prop) (n : Nat) (t : DTA) : Prop :=
  ∀ st1 (QA : List D → Sto → Prop) Z, Gr h c st0 st1 → (∀ ds st2, Gr h c st1 st2 → oks st2 ds → (∀ d ∈ ds, p d) → ds.length = n → QA ds st2) → t ρ st1 QA Z
section
variable {h c : Nat} {st0 : Sto} {ρ : Env'} {p : D → Prop} {n : Nat} {te : DTE} {t : DTA}
theorem DrL.nil : DrL h c st0 ρ p 0 dNil := fun st1 QA Z g q => q [] st1 (Gr.refl g.hd) trivial (by simp) rfl
theorem DrL.cons (a : DrE h c st0 ρ p te) (b : DrL h c st0 ρ p n t) : DrL h c st0 ρ p (n + 1) (dCons te t) := fun st1 QA Z g q => by
  rw [s_cons]
  refine a st1 _ Z g fun d st2 g2 h2 hp => b st2 _ Z (g.trans g2) fun ds st3 g3 h3 hps hl => q (d :: ds) st3 (g2.trans g3) ⟨ok_mono g3.kin h2, h3⟩ (fun e he => ?_) (by simp [hl])
  rcases List.mem_cons.mp he with rfl | he
  · exact hp
  · exact hps e he
theorem DrE.con {d : D} (ho : ∀ st, ok st d) (hp : p d) : DrE h c st0 ρ p (dC d) := fun st1 Q Z g q => q d st1 (Gr.refl g.hd) (ho _) hp
theorem DrE.tup (a : DrL h c st0 ρ (fun _ => True) n t) (hn : n < 1000) (hp : ∀ ds, ds.length = n → p (.tup ds)) : DrE h c st0 ρ p (dTup t) := fun st1 Q Z g q => by
  rw [s_dtup]
  exact a st1 _ Z g fun ds st2 g2 h2 _ hl => ⟨by have := sizeLine_big (n := ds.length) (by omega); omega, q _ st2 g2 (by simpa [ok] using h2) (hp ds hl)⟩
theorem DrE.lst (a : DrL h c st0 ρ (fun _ => True) n t) (hn : n < 1000) (hp : ∀ m, p (.loc m)) : DrE h c st0 ρ p (dLst t) := fun st1 Q Z g q => by
  rw [s_dlst]
  exact a st1 _ Z g fun ds st2 g2 h2 _ hl => ⟨by have := sizeLine_big (n := ds.length) (by omega); omega, q _ _ (g2.app _) (.inl ⟨ds, by simp⟩) (hp _)⟩
theorem DrE.dict (hp : ∀ m, p (.loc m)) : DrE h c st0 ρ p dDict0 := fun st1 Q Z g q => by
  rw [s_dict0]
  exact q _ _ ((Gr.refl g.hd).app _) (.inr ⟨[], by simp⟩) (hp _)
end
end CM
namespace CM
open PySem L2 PySem.Spec DL
open PyProof.Rows hiding St
@[simp] theorem e_oddv {st : Sto} {Q : DK} {Z : DX → Sto → Prop} {h : Nat} {v : D} : sp_oddv [.loc h, v] st Q Z = ∃ c n, Hd st h c ∧ v = encV n ∧ ∀ d st', Gr h c st st' → ok st' d → Q d st' := rfl
def sp_oddr : DSp := fun ds st Q _ => match ds with
  | [.loc h, r] => ∃ c rng, Hd st h c ∧ r = encR rng ∧ wf rng ∧ rng.length ≤ 6 ∧ ∀ d st', Gr h c st st' → ok st' d → (∀ s, d = encR s → s.length ≤ 13) → Q d st'
  | _ => False
@[simp] theorem e_oddr {st : Sto} {Q : DK} {Z : DX → Sto → Prop} {h : Nat} {r : D} : sp_oddr [.loc h, r] st Q Z = ∃ c rng, Hd st h c ∧ r = encR rng ∧ wf rng ∧ rng.length ≤ 6 ∧ ∀ d st', Gr h c st st' → ok st' d → (∀ s, d = encR s → s.length ≤ 13) → Q d st' := rfl
section
variable {h c : Nat} {st0 : Sto} {ρ : Env'} {p : D → Prop} {n : Nat} {te : DTE} {t : DTA}
theorem DrE.some {i j m : Nat} {fs : List D} (hi : ρ[i]? = some (some (.loc h))) (hj : ρ[j]? = some (some (.loc m))) (hm : st0[m]? = some (.lst fs)) (hne : m ≠ h) (ho : oks st0 fs) (hl : 0 < fs.length ∧ fs.length < 1000000000) (hp : ∀ e ∈ fs, p e) : DrE h c st0 ρ p (dCall 2 sp_some (dCons (dVar i) (dCons (dVar j) dNil))) := fun st1 Q Z g q => by
  have k := g.get hm hne
  simp [hi, hj]
  refine ⟨c, g.hd, fs, by simp [k], fun e => hne e, hl.1, hl.2, fun e st' he H s => ?_⟩
  have g2 := (Gr.refl g.hd).sm s H
  exact q e st' g2 (ok_mono (g.trans g2).kin (oks_iff.mp ho e he)) (hp e he)
end
theorem sz1000 (n : Nat) (h : n < 1000) : n ≤ sizeLine := Nat.le_of_lt (sizeLine_big (by omega))
/-- what is drawn from a list display -/
theorem some_lst {h c n : Nat} {st0 st1 : Sto} {ρ : Env'} {p : D → Prop} {t : DTA} {Q : DK} {Z : DZ} {i : Nat} (hi : ρ[i]? = some (some (.loc h))) (a : DrL h c st0 ρ p n t) (h0 : 0 < n) (hn : n < 1000) (g : Gr h c st0 st1)
    (q : ∀ d st', Gr h c st1 st' → ok st' d → p d → Q d st') : dCall 2 sp_some (dCons (dVar i) (dCons (dLst t) dNil)) ρ st1 Q Z := by
  rw [s_call, s_cons, s_var]
  simp only [hi]
  rw [s_cons, s_dlst]
  refine a st1 _ _ g fun ds st2 g2 o2 p2 l2 => ⟨sz1000 _ (by omega), rfl, c, ds, g2.hd.app _, by simp, fun e => ?_, by omega, by omega, fun e st3 he H3 s3 => ?_⟩
  · have := g2.hlt; have := g2.len; cases e; omega
  · have g3 := (g2.app [Ob.lst ds]).sm s3 H3
    refine q e st3 g3 (ok_mono ?_ (oks_iff.mp o2 e he)) (p2 e he)
    exact Kin.trans (Kin.app st2 _) ((Gr.refl (g2.hd.app [Ob.lst ds])).sm s3 H3).kin
end CM
namespace CM
open PySem L2 PySem.Spec DL
open PyProof.Rows hiding St
def sp_near : DSp := fun ds st Q _ => match ds with
  | [.loc h, .loc m] => ∃ c rs, Hd st h c ∧ m ≠ h ∧ st[m]? = some (.lst (rs.map encR)) ∧ (∀ r ∈ rs, wf r ∧ smE r) ∧ (allEnds rs).length < 63 ∧ ∀ n st', Hd st' h c → Sm h st st' → Q (encV n) st'
  | _ => False
@[simp] theorem e_near {st : Sto} {Q : DK} {Z : DX → Sto → Prop} {h m : Nat} : sp_near [.loc h, .loc m] st Q Z = ∃ c rs, Hd st h c ∧ m ≠ h ∧ st[m]? = some (.lst (rs.map encR)) ∧ (∀ r ∈ rs, wf r ∧ smE r) ∧ (allEnds rs).length < 63 ∧ ∀ n st', Hd st' h c → Sm h st st' → Q (encV n) st' := rfl
end CM
namespace CM
open PySem L2 PySem.Spec DL
open PyProof.Rows hiding St
open TL (tl pre spl numL joinL)
def sTx (p : Nat × Option Nat) : Str := sText p.1 p.2
def rText (r : Rng) : Str := if r = everyR then "*" else if r = [] then "<0.0.0" else Txt.join " | " (r.map sTx)
def sp_rtext : DSp := fun ds st Q _ => match ds with
  | [d] => ∃ r, d = encR r ∧ wf r ∧ r.length ≤ 1000 ∧ Q (.str (rText r)) st
  | _ => False
@[simp] theorem e_rtext {st : Sto} {Q : DK} {Z : DX → Sto → Prop} {r : Rng} : sp_rtext [encR r] st Q Z = (wf r ∧ r.length ≤ 1000 ∧ Q (.str (rText r)) st) := ex1
theorem sum_le {α : Type} (f : α → Nat) (k : Nat) : ∀ xs : List α, (∀ x ∈ xs, f x ≤ k) → (xs.map f).sum ≤ xs.length * k
  | [], _ => by simp
  | x :: xs, h => by
    have h1 := h x List.mem_cons_self
    have h2 := sum_le f k xs fun y hy => h y (List.mem_cons_of_mem _ hy)
    simp only [List.map_cons, List.sum_cons, List.length_cons, Nat.succ_mul]
    omega
def sp_words : DSp := fun ds st Q _ => match ds with
  | [.loc h] => ∃ c, Hd st h c ∧ ∀ w n st', w ∈ words → smallV n → Hd st' h c → Sm h st st' → Q (.tup [.str w, encV n]) st'
  | _ => False
@[simp] theorem e_words {st : Sto} {Q : DK} {Z : DX → Sto → Prop} {h : Nat} : sp_words [.loc h] st Q Z = ∃ c, Hd st h c ∧ ∀ w n st', w ∈ words → smallV n → Hd st' h c → Sm h st st' → Q (.tup [.str w, encV n]) st' := rfl
def isWord (d : D) : Prop := ∃ w, d = .str w ∧ w ∈ words
theorem word_ev {h c : Nat} {st0 : Sto} {ρ : Env'} (w : Str) (hw : w ∈ words) : DrE h c st0 ρ isWord (dC (.str w)) := .con (fun _ => by simp) ⟨w, rfl, hw⟩
theorem r__law_words : Rd 1 sp_words (RD.t__law_words sp_some sp_lversion) RD.N__law_words := by
  intro ds st Q Z hl h
  match ds, hl, h with
  | [.loc h], _, hx =>
    obtain ⟨c, H, q⟩ := hx
    unfold RD.t__law_words
    rw [s_seq, s_asg]
    refine some_lst (p := isWord) (h := h) (c := c) (st0 := st) rfl (.cons (word_ev _ (by decide)) (.cons (word_ev _ (by decide)) (.cons (word_ev _ (by decide)) (.cons (word_ev _ (by decide)) (.cons (word_ev _ (by decide)) (.cons (word_ev _ (by decide))
      (.cons (word_ev _ (by decide)) (.cons (word_ev _ (by decide)) (.cons (word_ev _ (by decide)) (.cons (word_ev _ (by decide)) (.cons (word_ev _ (by decide)) (.cons (word_ev _ (by decide)) .nil)))))))))))) (by decide) (by decide) (Gr.refl H) fun d st1 g1 _ ⟨w, e, hw⟩ => ?_
    subst e
    rw [s_gN]
    dsimp only
    simp
    refine ⟨c, g1.hd, fun n st2 hn H2 s2 => ⟨by decide, ?_⟩⟩
    exact back_hand (g1.sm s2 H2) (by simp [D.blw, D.blws, blw_encV]) fun st3 H3 s3 => q w n st3 hw hn H3 s3
end CM
namespace CM
open PySem L2 PySem.Spec DL
open PyProof.Rows hiding St
open TL (tl pre spl numL joinL)
def altsOf (l : List Nat) : List (List (Option Rng)) := (spl [32, 124, 32] 0 [] l).map fun a => (spl [44, 32] 0 [] a).map partOf
def altR (rs : List Rng) : Rng := outR (strR (rs.flatMap outR))
def readR (as : List (List Rng)) : Rng := strR (as.flatMap altR)
structure Mild (as : List (List Rng)) : Prop where
  len : as.length ≤ 1000
  each : ∀ a ∈ as, a.length ≤ 20 ∧ ∀ r ∈ a, wf r ∧ r.length ≤ 10
def sp_read : DSp := fun ds st Q _ => match ds with
  | [.str t] => ∃ as : List (List Rng), altsOf (tl t) = as.map (fun a => a.map some) ∧ t.length ≤ 1000000 ∧ Mild as ∧ Q (encR (readR as)) st
  | _ => False
/-- st0 stands at the beginning -/
def Pre (st0 st : Sto) : Prop := ∃ g, st = st0 ++ g
theorem Pre.app {st0 st : Sto} (h : Pre st0 st) (g : Sto) : Pre st0 (st ++ g) := by
  obtain ⟨x, rfl⟩ := h
  exact ⟨x ++ g, by simp⟩
theorem Pre.set {st0 st : Sto} (h : Pre st0 st) {n : Nat} (hn : st0.length ≤ n) (o : Ob) : Pre st0 (st.set n o) := by
  obtain ⟨x, rfl⟩ := h
  exact ⟨x.set (n - st0.length) o, by rw [List.set_append_right _ _ hn]⟩
theorem Pre.len {st0 st : Sto} (h : Pre st0 st) : st0.length ≤ st.length := by
  obtain ⟨x, rfl⟩ := h
  simp
theorem set_same {st : Sto} {n : Nat} {o : Ob} (h : st[n]? = some o) : st.set n o = st := by
  refine List.ext_getElem? fun k => ?_
  by_cases hk : k = n
  · subst hk
    rw [List.getElem?_set_self (List.getElem?_eq_some_iff.mp h).1, h]
  · rw [List.getElem?_set_ne (Ne.symm hk)]
theorem flat_len {α β : Type} (f : α → List β) (k : Nat) : ∀ xs : List α, (∀ x ∈ xs, (f x).length ≤ k) → (xs.flatMap f).length ≤ xs.length * k
  | [], _ => by simp
  | x :: xs, h => by
    have h1 := h x List.mem_cons_self
    have h2 := flat_len f k xs fun y hy => h y (List.mem_cons_of_mem _ hy)
    simp only [List.flatMap_cons, List.length_append, List.length_cons, Nat.succ_mul]
    omega
theorem okP_outs {rs : List Rng} (h : ∀ r ∈ rs, wf r) : ∀ p ∈ rs.flatMap outR, okP p := fun p hp => by
  obtain ⟨r, hr, h1⟩ := List.mem_flatMap.mp hp
  exact okP_of (wf_out (h r hr)) p h1
theorem altR_wf {rs : List Rng} (h : ∀ r ∈ rs, wf r) : wf (altR rs) := wf_out (str_spec (okP_outs h)).2
end CM
namespace CM
open PySem L2 PySem.Spec DL
open PyProof.Rows hiding St
open TL (tl pre spl numL joinL)
theorem join_len {S : List Nat} {k : Nat} : ∀ {ps : List (List Nat)}, (∀ p ∈ ps, p.length ≤ k) → (joinL S ps).length ≤ ps.length * (k + S.length)
  | [], _ => by simp [joinL]
  | [p], h => by have := h p (by simp); simp [joinL]; omega
  | p :: q :: r, h => by
    have h1 := h p (by simp)
    have h2 := join_len (S := S) (ps := q :: r) fun z hz => h z (List.mem_cons_of_mem _ hz)
    show (p ++ (S ++ joinL S (q :: r))).length ≤ _
    simp only [List.length_append, List.length_cons, Nat.succ_mul] at h2 ⊢
    omega
theorem lawP_ge {n : Nat} (h : okV n) : lawPart ">=" n = some [(n, none)] := by
  unfold lawPart
  rw [if_neg k12]
  exact rngOf_enc (wf1 h)
theorem lawP_lt {n : Nat} (h : okV n) : lawPart "<" n = some (outR [(n, none)]) := by
  unfold lawPart
  rw [if_neg k13]
  exact rngOf_enc (wf_out (wf1 h))
theorem lawP_e {n : Nat} (h : okV n) (hc : vC n < 1000000) : lawPart "" n = some [(n, some (n + 1))] := by
  unfold lawPart
  rw [if_neg kxe]
  exact (ros_some h hc).1
end CM
namespace CM
open PySem L2 PySem.Spec DL
open PyProof.Rows hiding St
open TL (tl pre spl numL joinL)
theorem ends_asc : ∀ (r : Rng) (prev : Option (Option Nat)), okR prev r → (endsOf r).Pairwise (· < ·) ∧ ∀ e ∈ endsOf r, ∀ x, prev = some (some x) → x < e
  | [], _, _ => ⟨List.Pairwise.nil, fun _ h => nomatch h⟩
  | (l, none) :: r, prev, ⟨h1, h2, h3⟩ => by
    have : r = [] := okR_none h3
    subst this
    refine ⟨by simp [endsOf], fun e he x hx => ?_⟩
    subst hx
    simp [endsOf] at he
    subst he
    simpa [touch] using h2
  | (l, some y) :: r, prev, ⟨h1, h2, h3⟩ => by
    obtain ⟨a, b⟩ := ends_asc r _ h3
    have hly := (h1.2 y rfl).2
    dsimp only at hly
    have hy : ∀ e ∈ endsOf r, y < e := fun e he => b e he y rfl
    refine ⟨?_, fun e he x hx => ?_⟩
    · simp only [endsOf, List.pairwise_cons, List.mem_cons]
      refine ⟨fun e he => ?_, hy, a⟩
      rcases he with rfl | he
      · exact hly
      · exact Nat.lt_trans hly (hy e he)
    · subst hx
      have hx : x < l := by simpa [touch] using h2
      simp only [endsOf, List.mem_cons] at he
      rcases he with rfl | rfl | he
      · exact hx
      · omega
      · have := hy e he; omega
theorem ends_outF : ∀ (r : Rng) (b : Option Nat) (m : Nat), m ∈ endsOf (outF b r) → b = some m ∨ m ∈ endsOf r
  | [], none, m, h => by simp [outF, endsOf] at h
  | [], some b, m, h => by simp [outF, endsOf] at h; exact .inl (by rw [h])
  | (l, o) :: r, none, m, h => by simp [outF, endsOf] at h
  | (l, o) :: r, some b, m, h => by
    have up : o = some m ∨ m ∈ endsOf r → m ∈ endsOf ((l, o) :: r) := fun q => by
      clear h
      rcases q with rfl | q
      · simp [endsOf]
      · cases o <;> simp [endsOf, q]
    have hl : m = l → m ∈ endsOf ((l, o) :: r) := fun q => by clear h; cases o <;> simp [endsOf, q]
    unfold outF at h
    split at h
    · simp only [endsOf, List.mem_cons] at h
      rcases h with h | h | h
      · exact .inl (by rw [h])
      · exact .inr (hl h)
      · exact .inr (up (ends_outF r o m h))
    · exact .inr (up (ends_outF r o m h))
theorem ends_out {r : Rng} {m : Nat} (h : m ∈ endsOf (outR r)) : m = 0 ∨ m ∈ endsOf r := by
  rcases ends_outF r (some 0) m h with h | h
  · cases h; exact .inl rfl
  · exact .inr h
theorem ends_app {r s : Rng} {m : Nat} (h : m ∈ endsOf (r ++ s)) : m ∈ endsOf r ∨ m ∈ endsOf s := by
  rw [ends_mem] at h
  obtain ⟨p, h1, h2⟩ := h
  rcases List.mem_append.mp h1 with h1 | h1
  · exact .inl (ends_mem.mpr ⟨p, h1, h2⟩)
  · exact .inr (ends_mem.mpr ⟨p, h1, h2⟩)
theorem ends_eith {r s : Rng} {m : Nat} (h : m ∈ endsOf (eitherR r s)) : m ∈ endsOf r ∨ m ∈ endsOf s := ends_app (ends_str (ps := r ++ s) h)
theorem ends_both {r s : Rng} {m : Nat} (h : m ∈ endsOf (bothR r s)) : m = 0 ∨ m ∈ endsOf r ∨ m ∈ endsOf s := by
  rcases ends_out (r := eitherR (outR r) (outR s)) h with h | h
  · exact .inl h
  · rcases ends_eith h with h | h
    · rcases ends_out h with h | h
      · exact .inl h
      · exact .inr (.inl h)
    · rcases ends_out h with h | h
      · exact .inl h
      · exact .inr (.inr h)
theorem len_both {r s : Rng} (hr : wf r) (hs : wf s) : (endsOf (bothR r s)).length ≤ 1 + (endsOf r).length + (endsOf s).length := by
  have := few_marks (ls := 0 :: (endsOf r ++ endsOf s)) (ends_asc _ _ (wf_both hr hs)).1 fun m hm => by
    rcases ends_both hm with h | h | h
    · simp [h]
    · simp [h]
    · simp [h]
  simp at this
  omega
theorem len_either {r s : Rng} (hr : wf r) (hs : wf s) : (endsOf (eitherR r s)).length ≤ (endsOf r).length + (endsOf s).length := by
  have := few_marks (ls := endsOf r ++ endsOf s) (ends_asc _ _ (wf_either hr hs)).1 fun m hm => by
    rcases ends_eith hm with h | h
    · simp [h]
    · simp [h]
  simpa using this
def lpR (w : Str) (n : Nat) : Rng := (lawPart w n).getD []
theorem law_some {w : Str} {n : Nat} (hw : w ∈ words) (hn : smallV n) : lawPart w n = some (lpR w n) ∧ wf (lpR w n) ∧ (endsOf (lpR w n)).length ≤ 4 := by
  have ho := hn.ok
  have hc : vC n < 1000000 := by have := hn.2.2; omega
  have key : ∀ r, lawPart w n = some r → wf r → (endsOf r).length ≤ 4 → lawPart w n = some (lpR w n) ∧ wf (lpR w n) ∧ (endsOf (lpR w n)).length ≤ 4 := fun r e h1 h2 => by
    have : lpR w n = r := by unfold lpR; rw [e]; rfl
    rw [this]
    exact ⟨e, h1, h2⟩
  have h1 := okV_lt ho hc
  obtain ⟨r1, r2, r3, r4⟩ := ros_some ho hc
  simp only [words, List.mem_cons, List.not_mem_nil, or_false] at hw
  rcases hw with rfl | rfl | rfl | rfl | rfl | rfl | rfl | rfl | rfl
  · exact key everyR (by unfold lawPart; rw [if_pos rfl]) (wf1 okV0) (by decide)
  · exact key [(0, some (n + 1))] (by unfold lawPart; rw [if_neg kxl]; exact r3) (wf2 okV0 h1 (by omega)) (by simp [endsOf])
  · exact key [(n, none)] (lawP_ge ho) (wf1 ho) (by simp [endsOf])
  · refine key _ (lawP_lt ho) (wf_out (wf1 ho)) ?_
    have := ends_len (outR [(n, none)])
    have := out_len [(n, (none : Option Nat))]
    simp at *
    omega
  · exact key [(n + 1, none)] (by unfold lawPart; rw [if_neg kxg]; exact r4) (wf1 h1) (by simp [endsOf])
  · refine key _ (by unfold lawPart; rw [if_neg kxb]; exact r2) (wf_out (wf2 ho h1 (by omega))) ?_
    have := ends_len (outR [(n, some (n + 1))])
    have := out_len [(n, (some (n + 1) : Option Nat))]
    simp at *
    omega
  · obtain ⟨a, b, c, ec, hlt, habc⟩ := car_nat n
    have hle : a ≤ 1000000 ∧ b ≤ 1000000 ∧ c ≤ 1000000 := by
      have := hn.1
      have := hn.2.1
      split at habc
      · cases habc; omega
      · split at habc
        · cases habc; omega
        · cases habc; omega
    have e := ros_end ho (hlt ho)
    rw [if_pos hle] at e
    refine key [(n, some (mkV a b c))] ?_ (wf2 ho ?_ (hlt ho hle.1 hle.2.1 hle.2.2)) (by simp [endsOf])
    · unfold lawPart
      rw [if_neg k1c, ← e, ← ec]
      rfl
    · unfold okV
      rw [vA_mk (by omega) (by omega)]
      exact hle.1
  · have hm := mkV_eq n
    have hle : vA n ≤ 1000000 ∧ vB n + 1 ≤ 1000000 ∧ 0 ≤ 1000000 := by
      have := hn.1
      have := hn.2.1
      omega
    have hlt : n < mkV (vA n) (vB n + 1) 0 := by
      have := vC_le n
      unfold mkV at *
      omega
    have e := ros_end (a := vA n) (b := vB n + 1) (c := 0) ho fun _ _ _ => hlt
    rw [if_pos hle] at e
    refine key [(n, some (mkV (vA n) (vB n + 1) 0))] ?_ (wf2 ho ?_ hlt) (by simp [endsOf])
    · unfold lawPart
      rw [if_neg k1t, ← e]
      rfl
    · unfold okV
      rw [vA_mk (by omega) (by omega)]
      exact hle.1
  · exact key [(n, some (n + 1))] (lawP_e ho hc) (wf2 ho h1 (by omega)) (by simp [endsOf])
end CM
namespace CM
open PySem L2 PySem.Spec DL
open PyProof.Rows hiding St
open TL (tl pre spl numL joinL)
theorem ros_len (s : Str) (n : Nat) : ∃ ds, rosD s n = .tup ds ∧ ds.length ≤ 2 := by
  unfold rosD
  have h1 : ∃ ds, encR (outR [(n, (none : Option Nat))]) = .tup ds ∧ ds.length ≤ 2 := ⟨_, rfl, by have := out_len [(n, (none : Option Nat))]; simp at *; omega⟩
  have h2 : ∃ ds, encR [(n, (none : Option Nat))] = .tup ds ∧ ds.length ≤ 2 := ⟨_, rfl, by simp⟩
  have h3 : ∃ ds, rawOut n (behD n) = .tup ds ∧ ds.length ≤ 2 := by
    unfold rawOut
    refine ⟨_, rfl, ?_⟩
    split <;> simp
  split
  · exact h1
  split
  · exact ⟨_, rfl, by simp⟩
  split
  · exact ⟨_, rfl, by simp⟩
  split
  · exact h2
  split
  · exact h3
  split
  · exact ⟨_, rfl, by simp⟩
  split
  · exact ⟨_, rfl, by simp⟩
  · exact ⟨_, rfl, by simp⟩
theorem part_wf {l : List Nat} {r : Rng} (h : partOf l = some r) : wf r ∧ r.length ≤ 2 := by
  unfold partOf at h
  split at h
  · cases h
    exact ⟨wf1 okV0, by decide⟩
  · split at h
    · cases h
    · obtain ⟨e, hw⟩ := rngOf_some h
      obtain ⟨ds, e2, hl⟩ := ros_len (signOf l) (by assumption)
      rw [e2] at e
      simp only [encR, D.tup.injEq] at e
      rw [e] at hl
      exact ⟨hw, by simpa using hl⟩
def wrong1 (os : List (Option Rng)) : Option Nat := os.findIdx? (·.isNone)
def wrongAt (as : List (List (Option Rng))) : Option Nat := wrong1 as.flatten
def gets (os : List (Option Rng)) : List Rng := os.map (·.getD [])
theorem wrong1_cons_none {os : List (Option Rng)} : wrong1 (none :: os) = some 0 := by simp [wrong1, List.findIdx?_cons]
theorem wrong1_cons_some {os : List (Option Rng)} {r : Rng} : wrong1 (some r :: os) = (wrong1 os).map (· + 1) := by simp [wrong1, List.findIdx?_cons]
theorem wrongAt_cons {a : List (Option Rng)} {as : List (List (Option Rng))} : wrongAt (a :: as) = match wrong1 a with | some j => some j | none => (wrongAt as).map (· + a.length) := by
  unfold wrongAt wrong1
  rw [List.flatten_cons, List.findIdx?_append]
  cases a.findIdx? (·.isNone) <;> rfl
/-- an error's way out, by the first wrong part -/
def XWay [ErrCtx] (E : DEnds) (st0 : Sto) (i : Int) : Prop := ∀ ρ st', Pre st0 st' → E.xs (errX 1 [("index", .int i)]) ρ st'
section
variable [ErrCtx]
theorem lp_rx1 (E : DEnds) {x0 x1 x3 : Option D} {m p : Nat} {P : List D} {st0 : Sto} (hpm : p ≠ m) (hm0 : st0.length ≤ m) : ∀ (ts : List Str) (acc : Rng) (st : Sto) (k : Int) (x5 x6 : Option D), (∀ t ∈ ts, t.length ≤ 1000000) →
    acc.length + ts.length * 3 < 1000000 → Pre st0 st → st[m]? = some (.lst (acc.map encP)) → st[p]? = some (.lst P) →
    (∀ j, wrong1 (ts.map fun t => partOf (tl t)) = some j → XWay E st0 (k + j)) →
    (wrong1 (ts.map fun t => partOf (tl t)) = none → ∀ y5 y6, E.nx [x0, x1, some (.int (k + ts.length)), x3, some (.loc m), y5, y6] (st.set m (.lst ((acc ++ (gets (ts.map fun t => partOf (tl t))).flatMap outR).map encP)))) →
    runG (gN 5) (RD.b_read_range_1 sp_stretched sp_outside sp_told_part) E (fun st => st[p]? = some (.lst P)) (ts.map .str) [x0, x1, some (.int k), x3, some (.loc m), x5, x6] st
  | [], acc, st, k, x5, x6, _, _, _, hm, hp, _, hk => by
    rw [List.map_nil, runG_nil]
    refine ⟨hp, ?_⟩
    have := hk rfl x5 x6
    simp only [List.map_nil, gets, List.flatMap_nil, List.append_nil, List.length_nil] at this
    rw [set_same hm] at this
    simpa using this
  | t :: ts, acc, st, k, x5, x6, ht, hl, hpre, hm, hp, hx, hk => by
    simp only [List.length_cons] at hl
    rw [List.map_cons, runG_cons]
    refine ⟨hp, ?_⟩
    have hmlt : m < st.length := (List.getElem?_eq_some_iff.mp hm).1
    simp only [List.map_cons] at hx hk
    cases e1 : partOf (tl t) with
    | none =>
      rw [e1] at hx
      have hx0 := hx 0 wrong1_cons_none
      generalize hR : runG (gN 5) (RD.b_read_range_1 sp_stretched sp_outside sp_told_part) E (fun st => st[p]? = some (.lst P)) (ts.map .str) = R
      unfold RD.b_read_range_1
      simp only [s_gN, List.set]
      rw [s_seq]
      generalize hR2 : dSeq _ _ _ = R2
      simp [e1, encOR]
      refine ⟨ht t List.mem_cons_self, ?_⟩
      subst hR2
      rw [s_seq]
      generalize hR2 : dSeq _ _ _ = R2
      simp
      have := hx0 [x0, x1, some (.int k), x3, some (.loc m), some (.str t), some .non] st hpre
      simpa using this
    | some r =>
      obtain ⟨hw, hr2⟩ := part_wf e1
      have lo := out_len r
      rw [e1] at hx hk
      have ih := lp_rx1 E (x0 := x0) (x1 := x1) (x3 := x3) hpm hm0 (P := P) ts (acc ++ outR r) (st.set m (.lst ((acc ++ outR r).map encP))) (k + 1) (some (.str t)) (some (encR r)) (fun t' h => ht t' (List.mem_cons_of_mem _ h))
        (by simp only [List.length_append]; omega) (hpre.set hm0 _) (List.getElem?_set_self hmlt) (by rw [List.getElem?_set_ne (Ne.symm hpm)]; exact hp) (fun j hj => by
          have := hx (j + 1) (by rw [wrong1_cons_some, hj]; rfl)
          have e : k + 1 + (j : Int) = k + ((j + 1 : Nat) : Int) := by omega
          rw [e]
          exact this) (fun hn y5 y6 => by
          have := hk (by rw [wrong1_cons_some, hn]; rfl) y5 y6
          rw [List.set_set]
          have e : k + 1 + (ts.length : Int) = k + ((t :: ts).length : Int) := by simp; omega
          rw [e]
          simpa [gets] using this)
      generalize hR : runG (gN 5) (RD.b_read_range_1 sp_stretched sp_outside sp_told_part) E (fun st => st[p]? = some (.lst P)) (ts.map .str) = R at ih ⊢
      unfold RD.b_read_range_1
      simp only [s_gN, List.set]
      rw [s_seq]
      generalize hR2 : dSeq _ _ _ = R2
      simp [e1, encOR]
      refine ⟨ht t List.mem_cons_self, ?_⟩
      subst hR2
      rw [s_seq]
      generalize hR2 : dSeq _ _ _ = R2
      simp [encR]
      subst hR2
      rw [s_seq]
      generalize hR2 : dAug _ _ _ _ = R2
      simp [hm]
      refine ⟨r, rfl, hw, by unfold few; omega, ?_⟩
      refine ⟨acc.map encP, hm, (outR r).map encP, .inl rfl, ?_, ?_⟩
      · simp only [List.length_map]
        have := sizeLine_big (n := acc.length + (outR r).length) (by omega)
        omega
      · subst hR2
        rw [← List.map_append]
        exact ih
omit [ErrCtx] in
theorem gets_ok {os : List (Option Rng)} (h : ∀ o ∈ os, ∀ r, o = some r → wf r ∧ r.length ≤ 2) : ∀ r ∈ gets os, wf r ∧ r.length ≤ 2 := fun r hr => by
  obtain ⟨o, ho, e⟩ := List.mem_map.mp hr
  cases o with
  | none => subst e; exact ⟨trivial, by simp⟩
  | some x => subst e; exact h _ ho _ rfl
omit [ErrCtx] in
theorem altR_len2 {rs : List Rng} (h2 : ∀ r ∈ rs, r.length ≤ 2) : (altR rs).length ≤ rs.length * 3 + 1 ∧ (strR (rs.flatMap outR)).length ≤ rs.length * 3 ∧ (rs.flatMap outR).length ≤ rs.length * 3 := by
  have a := flat_len outR 3 rs fun r hr => by have := out_len r; have := h2 r hr; omega
  have b := length_str (rs.flatMap outR)
  have c := out_len (strR (rs.flatMap outR))
  unfold altR
  omega
/-- the parts of an alternative's text -/
def partsOf (t : Str) : List (Option Rng) := (spl [44, 32] 0 [] (tl t)).map partOf
omit [ErrCtx] in
theorem parts_eq (t : Str) : (Txt.split t ", ").map (fun t => partOf (tl t)) = partsOf t := by
  have hcut := split_tl (x := t) tl_comma (by simp) (by simp)
  unfold partsOf
  rw [← hcut, List.map_map]
  rfl
omit [ErrCtx] in
theorem parts_ok {t : Str} : ∀ o ∈ partsOf t, ∀ r, o = some r → wf r ∧ r.length ≤ 2 := fun o ho r e => by
  obtain ⟨l, _, h⟩ := List.mem_map.mp ho
  exact part_wf (h.trans e)
omit [ErrCtx] in
theorem parts_len (t : Str) : (partsOf t).length ≤ t.length + 2 := by
  have := PyProof.Rows.split_le t ", "
  rw [← parts_eq]
  simpa using this
theorem lp_rx2 (E : DEnds) {x0 : Option D} {f a : Nat} {st0 : Sto} {A : List D} (hf0 : st0.length ≤ f) (hfa : a ≠ f) : ∀ (ts : List Str) (acc : Rng) (st : Sto) (k : Int) (x3 x4 x5 x6 : Option D),
    (∀ t ∈ ts, t.length ≤ 20000) → acc.length + (ts.map fun t => t.length * 3 + 7).sum < 1000000 → Pre st0 st → st[f]? = some (.lst (acc.map encP)) → st[a]? = some (.lst A) →
    (∀ j, wrongAt (ts.map partsOf) = some j → XWay E st0 (k + j)) →
    (wrongAt (ts.map partsOf) = none → ∀ st' k' y3 y4 y5 y6, Pre st0 st' → st'[f]? = some (.lst ((acc ++ (ts.map fun t => gets (partsOf t)).flatMap altR).map encP)) → E.nx [x0, some (.loc f), some (.int k'), y3, y4, y5, y6] st') →
    runG (gN 3) (RD.b_read_range_2 sp_stretched sp_outside sp_told_part) E (fun st => st[a]? = some (.lst A)) (ts.map .str) [x0, some (.loc f), some (.int k), x3, x4, x5, x6] st
  | [], acc, st, k, x3, x4, x5, x6, _, _, hp, hf, ha, _, hk => by
    rw [List.map_nil, runG_nil]
    exact ⟨ha, hk rfl st k x3 x4 x5 x6 hp (by simpa using hf)⟩
  | t :: ts, acc, st, k, x3, x4, x5, x6, ht, hl, hp, hf, ha, hx, hk => by
    have htl := ht t List.mem_cons_self
    have hpl := parts_len t
    simp only [List.map_cons, List.sum_cons] at hl
    simp only [List.map_cons, wrongAt_cons] at hx hk
    rw [List.map_cons, runG_cons]
    refine ⟨ha, ?_⟩
    have hflt : f < st.length := (List.getElem?_eq_some_iff.mp hf).1
    have halt : a < st.length := (List.getElem?_eq_some_iff.mp ha).1
    have hgw := gets_ok (parts_ok (t := t))
    have hwf : ∀ r ∈ gets (partsOf t), wf r := fun r hr => (hgw r hr).1
    obtain ⟨l1, l2, l3⟩ := altR_len2 (rs := gets (partsOf t)) fun r hr => (hgw r hr).2
    have lg : (gets (partsOf t)).length = (partsOf t).length := by simp [gets]
    have ih := fun (hn : wrong1 (partsOf t) = none) st' hp' hf' ha' x3 x4 x5 x6 => lp_rx2 E (x0 := x0) (st0 := st0) hf0 hfa (A := A) ts (acc ++ altR (gets (partsOf t))) st' (k + (partsOf t).length) x3 x4 x5 x6 (fun t' h => ht t' (List.mem_cons_of_mem _ h))
      (by simp only [List.length_append]; omega) hp' hf' ha' (fun j hj => by
        have := hx (j + (partsOf t).length) (by rw [hn]; simp [hj])
        have e : k + ((partsOf t).length : Int) + (j : Int) = k + ((j + (partsOf t).length : Nat) : Int) := by omega
        rw [e]
        exact this) (fun hn2 st' k' y3 y4 y5 y6 h1 h2 => hk (by rw [hn]; simp [hn2]) st' k' y3 y4 y5 y6 h1 (by simpa using h2))
    generalize hR : runG (gN 3) (RD.b_read_range_2 sp_stretched sp_outside sp_told_part) E (fun st => st[a]? = some (.lst A)) (ts.map .str) = R at ih ⊢
    unfold RD.b_read_range_2
    simp only [s_gN, List.set]
    rw [s_seq]
    generalize hR2 : dSeq _ _ _ = R2
    simp
    subst hR2
    rw [s_seq]
    generalize hR2 : dDrop _ _ = R2
    simp
    refine ⟨by decide, sz1m (by omega), ?_⟩
    have hsl := PyProof.Rows.split_le t ", "
    refine lp_rx1 _ (m := st.length) (p := st.length + 1) (P := (Txt.split t ", ").map .str) (st0 := st0) (by omega) hp.len (Txt.split t ", ") [] _ k x5 x6 (fun w hw => by have := split_len hw; omega) (by simp; omega) ((hp.app _)) (by simp) (by simp) (fun j hj => ?_) fun hn y5 y6 => ?_
    · rw [parts_eq] at hj
      have := hx j (by rw [hj])
      exact this
    rw [parts_eq] at hn
    rw [parts_eq]
    have hlen : ((Txt.split t ", ").length : Int) = (partsOf t).length := by rw [← parts_eq]; simp
    rw [hlen]
    have ih := ih hn
    generalize gets (partsOf t) = rs at *
    subst hR2
    have hst : ((st ++ [Ob.lst [], Ob.lst ((Txt.split t ", ").map D.str)]).set st.length (.lst (([] ++ rs.flatMap outR).map encP))) = st ++ [Ob.lst ((rs.flatMap outR).map encP), Ob.lst ((Txt.split t ", ").map D.str)] := by simp
    rw [hst]
    generalize hg : [Ob.lst ((rs.flatMap outR).map encP), Ob.lst ((Txt.split t ", ").map D.str)] = g
    have hm : (st ++ g)[st.length]? = some (.lst ((rs.flatMap outR).map encP)) := by rw [← hg]; simp
    have hf' : (st ++ g)[f]? = some (.lst (acc.map encP)) := gb hf
    have ha' : (st ++ g)[a]? = some (.lst A) := gb ha
    have hp' := hp.app g
    generalize st ++ g = st2 at hm hf' ha' hp'
    have hflt2 : f < st2.length := (List.getElem?_eq_some_iff.mp hf').1
    dsimp only
    rw [s_drop, s_bm, s_var]
    simp only [List.getElem?_cons_succ, List.getElem?_cons_zero]
    refine ⟨by simp [hf'], ?_⟩
    rw [s_cons, s_call, s_cons, s_call, s_cons, s_var]
    simp only [List.getElem?_cons_succ, List.getElem?_cons_zero, s_nil, e_stretched]
    refine ⟨rfl, rs.flatMap outR, by simp [hm], by unfold few; omega, okP_outs hwf, rfl, ?_⟩
    rw [e_outside]
    refine ⟨(str_spec (okP_outs hwf)).2, by unfold few; omega, ?_⟩
    show dExtendA (.loc f) [encR (altR rs)] st2 _
    refine ⟨acc.map encP, (altR rs).map encP, hf', .inl rfl, ?_, ?_⟩
    · simp only [List.length_map]
      have := sizeLine_big (n := acc.length + (altR rs).length) (by omega)
      omega
    · rw [← List.map_append]
      exact ih _ (hp'.set hf0 _) (List.getElem?_set_self hflt2) (by rw [List.getElem?_set_ne (Ne.symm hfa)]; exact ha') _ _ _ _
omit [ErrCtx] in
theorem sum_join (S : List Nat) : ∀ ps : List (List Nat), (ps.map (·.length)).sum ≤ (joinL S ps).length
  | [] => by simp [joinL]
  | [p] => by simp [joinL]
  | p :: q :: r => by
    have := sum_join S (q :: r)
    show _ ≤ (p ++ (S ++ joinL S (q :: r))).length
    simp only [List.map_cons, List.sum_cons, List.length_append] at this ⊢
    omega
omit [ErrCtx] in
theorem sum_split (x y : Str) : ((Txt.split x y).map (·.length)).sum ≤ x.length := by
  have e := PySem.StrLaws.join_split x y
  have e2 := TL.tl_join y (Txt.split x y)
  rw [e] at e2
  have := sum_join (tl y) ((Txt.split x y).map tl)
  rw [← e2, ← TL.len_tl, List.map_map] at this
  have e3 : (Txt.split x y).map (·.length) = (Txt.split x y).map ((fun p : List Nat => p.length) ∘ tl) := List.map_congr_left fun z _ => TL.len_tl z
  rw [e3]
  exact this
omit [ErrCtx] in
theorem sum_lin (a b : Nat) : ∀ ts : List Str, (ts.map fun t => t.length * a + b).sum = (ts.map (·.length)).sum * a + ts.length * b
  | [] => by simp
  | t :: ts => by
    have := sum_lin a b ts
    simp only [List.map_cons, List.sum_cons, List.length_cons, this, Nat.add_mul, Nat.succ_mul]
    omega
def readT (l : List Nat) : Rng := readR ((altsOf l).map gets)
omit [ErrCtx] in
theorem alts_eq (t : Str) : (Txt.split t " | ").map partsOf = altsOf (tl t) := by
  have hcut := split_tl (x := t) tl_bar (by simp) (by simp)
  unfold altsOf
  rw [← hcut, List.map_map]
  rfl
/-- what is told of a text: the range, or the number of the first wrong part -/
def sp_readX : DSp := fun ds st Q Z => match ds with
  | [d] => (∃ t, d = .str t ∧ t.length ≤ 20000 ∧ (∀ i, wrongAt (altsOf (tl t)) = some i → Z (errX 1 [("index", .int i)]) st) ∧ (wrongAt (altsOf (tl t)) = none → Q (encR (readT (tl t))) st)) ∨
    ((∃ T, tyN st d = some T ∧ T ≠ "str") ∧ Z (errX 1 [("index", .int (-1))]) st)
  | _ => False
theorem backX_pre {st st' : Sto} {Z : DX → Sto → Prop} {x : DX} (h : Pre st st') (hb : D.blws st.length (x.fs.map (·.2)) = true) (q : Z x st) : DL.BackX st Z x st' := by
  obtain ⟨g, rfl⟩ := h
  exact .inr ⟨st, g, rfl, rfl, fun b hb => .inl hb, hb, q⟩
theorem r_read_range : Rd 1 sp_readX (RD.t_read_range sp_stretched sp_outside sp_told_part) RD.N_read_range := by
  intro ds st Q Z hl h
  match ds, hl, h with
  | [d], _, .inr ⟨⟨T, e, hT⟩, q⟩ =>
    unfold RD.t_read_range
    rw [s_seq]
    generalize hR : dSeq _ _ _ = R
    have : tySub T "str" = false := by simp [tySub, hT]
    simp [e, this]
    exact .inl q
  | [_], _, .inl ⟨t, rfl, ht, qx, q⟩ =>
    unfold RD.t_read_range
    rw [s_seq]
    generalize hR : dSeq _ _ _ = R
    simp [tySub]
    subst hR
    rw [s_seq]
    generalize hR : dSeq _ _ _ = R
    simp
    subst hR
    rw [s_seq]
    generalize hR : dSeq _ _ _ = R
    simp
    subst hR
    rw [s_seq]
    generalize hR : dRet _ _ = R
    simp
    refine ⟨by decide, sz1m (by omega), ?_⟩
    have hsl := PyProof.Rows.split_le t " | "
    have hsum := sum_split t " | "
    have hlin := sum_lin 3 7 (Txt.split t " | ")
    refine lp_rx2 _ (f := st.length) (a := st.length + 1) (st0 := st) (A := (Txt.split t " | ").map .str) (Nat.le_refl _) (by omega) (Txt.split t " | ") [] _ 0 none none none none (fun w hw => by have := split_len hw; omega) (by rw [hlin]; simp; omega) ⟨_, rfl⟩ (by simp) (by simp) (fun j hj ρ st' hp => ?_) fun hn st' k' y3 y4 y5 y6 hp hf => ?_
    · rw [alts_eq] at hj
      have := qx j hj
      exact backX_pre hp rfl (by simpa using this)
    · rw [alts_eq] at hn
      have q := q hn
      have e : (Txt.split t " | ").map (fun t => gets (partsOf t)) = (altsOf (tl t)).map gets := by rw [← alts_eq, List.map_map]; rfl
      have hall : ∀ rs ∈ (altsOf (tl t)).map gets, ∀ r ∈ rs, wf r ∧ r.length ≤ 2 := fun rs hrs => by
        rw [← alts_eq, List.map_map] at hrs
        obtain ⟨w, _, rfl⟩ := List.mem_map.mp hrs
        exact gets_ok parts_ok
      have hsz : ((Txt.split t " | ").flatMap fun t => altR (gets (partsOf t))).length ≤ (((Txt.split t " | ").map fun t => t.length * 3 + 7)).sum := by
        generalize Txt.split t " | " = ws
        induction ws with
        | nil => simp
        | cons w ws ih =>
          have h1 := altR_len2 (rs := gets (partsOf w)) fun r hr => (gets_ok parts_ok r hr).2
          have h2 := parts_len w
          have h3 : (gets (partsOf w)).length = (partsOf w).length := by simp [gets]
          simp only [List.flatMap_cons, List.length_append, List.map_cons, List.sum_cons]
          omega
      rw [e] at hf
      have e2 : ((Txt.split t " | ").flatMap fun t => altR (gets (partsOf t))) = ((altsOf (tl t)).map gets).flatMap altR := by rw [← e, List.flatMap_map]
      rw [e2] at hsz
      unfold readT readR at q
      generalize (altsOf (tl t)).map gets = as at *
      subst hR
      simp only [List.nil_append] at hf
      dsimp only
      rw [s_ret, s_call, s_cons, s_var]
      simp only [List.getElem?_cons_succ, List.getElem?_cons_zero, s_nil, e_stretched]
      refine ⟨rfl, as.flatMap altR, by simp [hf], ?_, fun p hp' => ?_, ?_⟩
      · unfold few
        omega
      · obtain ⟨a, ha, h1⟩ := List.mem_flatMap.mp hp'
        exact okP_of (altR_wf fun r hr => (hall a ha r hr).1) p h1
      · exact back_tup hp (blw_encR _ _) q
end
end CM
namespace CM
open PySem L2 PySem.Spec DL
open PyProof.Rows hiding St
open TL (tl pre spl numL joinL)
section
variable [ErrCtx]
/-- the number of the first wrong part, None if there is none, -1 of what is no text -/
def sp_ltold : DSp := fun ds st Q _ => match ds with
  | [d] => (∃ t, d = .str t ∧ t.length ≤ 20000 ∧ Q (encN (wrongAt (altsOf (tl t)))) st) ∨ ((∃ T, tyN st d = some T ∧ T ≠ "str") ∧ Q (.int (-1)) st)
  | _ => False
theorem told_suite {E : DEnds} {a : Addr} {y0 y1 : Option D} {st : Sto} {i : Int} (q : E.nx [y0, some (.int i), some (.adr a)] st) :
    RD.s__law_told_2 sp_readX a (errX 1 [("index", .int i)]) E [y0, y1, some (.adr a)] st := by
  unfold RD.s__law_told_2
  simp
  exact q
theorem r__law_told : Rd 1 sp_ltold (RD.t__law_told sp_readX) RD.N__law_told := by
  intro ds st Q Z hl h
  match ds, hl, h with
  | [d], _, h =>
    unfold RD.t__law_told
    rw [s_seq]
    generalize hR : dSeq _ _ _ = R
    simp
    subst hR
    rw [s_seq]
    dsimp only
    rw [s_tryAs]
    unfold RD.b__law_told_1
    rw [s_drop, s_call, s_cons, s_var]
    simp only [List.getElem?_cons_zero, s_nil]
    refine ⟨rfl, ?_⟩
    have caughtI : ∀ i : Int, Caught [1] (errX 1 [("index", .int i)]) := fun i => caught (by simp)
    rcases h with ⟨t, rfl, ht, q⟩ | ⟨hT, q⟩
    · refine .inl ⟨t, rfl, ht, fun i hi => ⟨caughtI _, fun a => ?_⟩, fun hn => ?_⟩
      · rw [hi] at q
        refine told_suite ?_
        simp
        exact .inl q
      · rw [hn] at q
        simp
        exact .inl q
    · refine .inr ⟨hT, caughtI _, fun a => ?_⟩
      refine told_suite ?_
      dsimp only
      simp
      exact .inl q
end
def okNumM (l : List Nat) : Option Nat := match okNum l with
  | some n => if n ≤ 1000000 then some n else none
  | none => none
def digs (l : List Nat) : Bool := l.all fun c => decide (48 ≤ c ∧ c ≤ 57)
theorem dig_mem (c : Nat) : decide (c ∈ ("0123456789" : Str).cps.toList) = decide (48 ≤ c ∧ c ≤ 57) := by
  have e : ("0123456789" : Str).cps.toList = [48, 49, 50, 51, 52, 53, 54, 55, 56, 57] := by decide
  rw [e]
  refine decide_eq_decide.mpr ?_
  simp only [List.mem_cons, List.not_mem_nil, or_false]
  omega
def sp_lnum : DSp := fun ds st Q _ => match ds with
  | [.str t] => t.length ≤ 20000 ∧ Q (encN (okNumM (tl t))) st
  | _ => False
@[simp] theorem e_lnum {st : Sto} {Q : DK} {Z : DX → Sto → Prop} {t : Str} : sp_lnum [.str t] st Q Z = (t.length ≤ 20000 ∧ Q (encN (okNumM (tl t))) st) := rfl
theorem str_items (t : Str) : strItems t = (tl t).map fun c => .str ⟨#[c]⟩ := rfl
theorem atI_nat0 {α : Type} {x : α} {xs : List α} : atI (x :: xs) 0 = some x := by
  unfold atI ixN
  simp
theorem one_eq (c : Nat) : ((⟨#[c]⟩ : Str) = "0") ↔ c = 48 := by
  rw [str_eq, tl_0]
  show ([c] = [48]) ↔ _
  simp
theorem r__law_read_number : Rd 1 sp_lnum RD.t__law_read_number RD.N__law_read_number := by
  intro ds st Q Z hl h
  match ds, hl, h with
  | [.str t], _, ⟨ht, q⟩ =>
    have hsz : t.length ≤ sizeLine := by have := sizeLine_big (n := t.length) (by omega); omega
    have hlen := TL.len_tl t
    unfold RD.t__law_read_number
    have noneT : okNum (tl t) = none → okNumM (tl t) = none := fun e => by unfold okNumM; rw [e]
    have hemp : t = "" ↔ tl t = [] := by rw [str_eq]; rfl
    have hlt : (tl t).length ≤ 20000 := by rw [← hlen]; exact ht
    have hall : ∀ (QE : DK) Z, (∀ g, QE (.bl (digs (tl t))) (st ++ g)) → dCB dAll (dCons (dLc (iD (dVar 0)) (gN 1) dYes RD.e__law_read_number_1 [1]) dNil) [some (.str t), none] st QE Z := by
      intro QE Z q
      rw [s_cb, s_cons, s_lc, s_iD, s_var]
      simp only [List.getElem?_cons_zero]
      rw [s_walk_str, str_items]
      refine runC_mem (inj := fun c => .str ⟨#[c]⟩) (out := fun c => .bl (decide (48 ≤ c ∧ c ≤ 57))) trivial (tl t) [] (fun c hc QT qt => ?_) (by rw [List.length_nil]; omega) ?_
      · unfold RD.e__law_read_number_1
        simp
        refine ⟨c, ("0123456789" : Str), rfl, rfl, ?_⟩
        rw [dig_mem]
        simpa using qt
      · rw [s_nil]
        refine ⟨(tl t).map fun c => decide (48 ≤ c ∧ c ≤ 57), by simp, ?_⟩
        have := q [.lst ((tl t).map fun c => .bl (decide (48 ≤ c ∧ c ≤ 57)))]
        have e : ((tl t).map fun c => decide (48 ≤ c ∧ c ≤ 57)).all id = digs (tl t) := by unfold digs; rw [List.all_map]; rfl
        rw [e]
        simpa using this
    have back : ∀ g, DL.Back st Q (encN (okNumM (tl t))) (st ++ g) := fun g => back_tup ⟨g, rfl⟩ (blw_encN _ _) q
    have back0 : DL.Back st Q (encN (okNumM (tl t))) st := .inl q
    rw [s_seq]
    generalize hR : dSeq _ _ _ = R
    rw [s_ifS, s_or, s_test, s_op, s_var]
    simp only [s_start, List.map_cons, List.map_nil, List.cons_append, List.nil_append, List.getElem?_cons_zero, s_c, List.length_cons, List.length_nil, List.replicate]
    show dEqB id _ _ _ _
    rw [s_eq_str]
    by_cases h0 : t = ""
    · have e : okNumM (tl t) = none := noneT (by unfold okNum; rw [if_neg]; exact fun z => z.1 (hemp.mp h0))
      rw [e] at back0
      simp [h0]
      exact back0
    have hne : tl t ≠ [] := fun z => h0 (hemp.mpr z)
    simp only [h0, decide_false, id]
    rw [if_neg (by decide), s_or, s_not, s_tru]
    refine hall _ _ fun g => ?_
    cases hd : digs (tl t) with
    | false =>
      have e : okNumM (tl t) = none := noneT (by
        unfold okNum
        rw [if_neg]
        rintro ⟨_, _, h, _⟩
        have : digs (tl t) = true := by unfold digs; rw [List.all_eq_true]; intro c hc; simpa using h c hc
        rw [hd] at this
        cases this)
      have b := back g
      rw [e] at b
      simp
      exact b
    | true =>
      have hdg : ∀ c ∈ tl t, 48 ≤ c ∧ c ≤ 57 := fun c hc => by
        unfold digs at hd
        rw [List.all_eq_true] at hd
        simpa using hd c hc
      by_cases h7 : 7 < t.length
      · have e : okNumM (tl t) = none := noneT (by unfold okNum; rw [if_neg]; rintro ⟨_, h, _⟩; omega)
        have b := back g
        rw [e] at b
        have : (7 : Int) < t.length := by omega
        simp [hsz, this]
        exact b
      have h7' : ¬ (7 : Int) < t.length := by omega
      simp [hsz, h7']
      have b := back g
      clear back back0 hall q
      generalize st ++ g = st1 at b ⊢
      subst hR
      obtain ⟨c0, r, hc0⟩ : ∃ c r, tl t = c :: r := by
        cases e : tl t with
        | nil => exact absurd e hne
        | cons c r => exact ⟨c, r, rfl⟩
      have hl2 : t.length = r.length + 1 := by rw [hlen, hc0]; rfl
      have e3 : intText? t = some ((NumText.digitsVal (tl t) : Nat) : Int) := intText_digits (x := t) hdg hne (by omega)
      have fin : (tl t = [48] ∨ (tl t).head? ≠ some 48) → okNumM (tl t) = if NumText.digitsVal (tl t) ≤ 1000000 then some (NumText.digitsVal (tl t)) else none := fun hz => by
        unfold okNumM okNum
        rw [if_pos ⟨hne, by omega, hdg, hz⟩]
      rw [s_seq]
      generalize hR : dRet (dCB dIntS (dCons (dVar 0) dNil)) = R
      by_cases h1 : 1 < t.length
      · have h1' : (1 : Int) < t.length := by omega
        have hg0 : atI t.cps.toList 0 = some c0 := by
          show atI (tl t) 0 = some c0
          rw [hc0]; exact atI_nat0
        by_cases h48 : c0 = 48
        · have e : okNumM (tl t) = none := noneT (by
            unfold okNum
            rw [if_neg]
            rintro ⟨_, _, _, z | z⟩
            · rw [hc0] at z
              simp at z
              rw [z.2] at hl2
              simp at hl2
              omega
            · rw [hc0] at z
              simp [h48] at z)
          rw [e] at b
          have e1 : (⟨#[c0]⟩ : Str) = "0" := (one_eq c0).mpr h48
          simp [hsz, h1', hg0, e1]
          exact b
        · have hz : tl t = [48] ∨ (tl t).head? ≠ some 48 := .inr (by rw [hc0]; simpa using h48)
          have e := fin hz
          have e1 : ¬ (⟨#[c0]⟩ : Str) = "0" := fun z => h48 ((one_eq c0).mp z)
          by_cases hm : NumText.digitsVal (tl t) ≤ 1000000
          · have hm' : ¬ (1000000 : Int) < (NumText.digitsVal (tl t) : Nat) := by omega
            rw [e, if_pos hm] at b
            subst hR
            simp [hsz, h1', hg0, e1, e3, hm']
            exact ⟨by omega, b⟩
          · have hm' : (1000000 : Int) < (NumText.digitsVal (tl t) : Nat) := by omega
            rw [e, if_neg hm] at b
            simp [hsz, h1', hg0, e1, e3, hm']
            exact ⟨by omega, b⟩
      · have h1' : ¬ (1 : Int) < t.length := by omega
        have hr : r = [] := List.eq_nil_of_length_eq_zero (by omega)
        have hz : tl t = [48] ∨ (tl t).head? ≠ some 48 := by
          rw [hc0, hr]
          by_cases z : c0 = 48
          · left; rw [z]
          · right; simpa using z
        have e := fin hz
        by_cases hm : NumText.digitsVal (tl t) ≤ 1000000
        · have hm' : ¬ (1000000 : Int) < (NumText.digitsVal (tl t) : Nat) := by omega
          rw [e, if_pos hm] at b
          subst hR
          simp [hsz, h1', e3, hm']
          exact ⟨by omega, b⟩
        · have hm' : (1000000 : Int) < (NumText.digitsVal (tl t) : Nat) := by omega
          rw [e, if_neg hm] at b
          simp [hsz, h1', e3, hm']
          exact ⟨by omega, b⟩
end CM
namespace CM
open PySem L2 PySem.Spec DL
open PyProof.Rows hiding St
open TL (tl pre spl numL joinL)
def sp_ispart : DSp := fun ds st Q _ => match ds with
  | [.str t] => t.length ≤ 20000 ∧ Q (.bl (partOf (tl t)).isSome) st
  | _ => False
@[simp] theorem e_ispart {st : Sto} {Q : DK} {Z : DX → Sto → Prop} {t : Str} : sp_ispart [.str t] st Q Z = (t.length ≤ 20000 ∧ Q (.bl (partOf (tl t)).isSome) st) := rfl
theorem most_encN (w : List Nat) : numMost 1000000 (encN (okNum w)) = okNumM w := by
  unfold okNumM
  cases okNum w with
  | none => rfl
  | some n =>
    show numMost 1000000 (.int n) = _
    unfold numMost
    rw [num_int]
theorem okNumM_le {w : List Nat} {n : Nat} (h : okNumM w = some n) : n ≤ 1000000 := by
  unfold okNumM at h
  split at h
  · split at h
    · cases h; assumption
    · cases h
  · cases h
/-- the version by the numbers read -/
def verN : List (Option Nat) → Option Nat
  | [some a, some b, some c] => some (mkV a b c)
  | _ => none
theorem verText_eq (l : List Nat) : verText l = verN ((spl [46] 0 [] l).map okNumM) := by
  unfold verText
  generalize spl [46] 0 [] l = ws
  match ws with
  | [] => rfl
  | [a] => 
    show none = _
    cases h : okNumM a <;> simp [verN, h]
  | [a, b] =>
    show none = _
    cases h : okNumM a <;> cases h2 : okNumM b <;> simp [verN, h, h2]
  | [a, b, c] =>
    show (match numMost 1000000 (encN (okNum a)), numMost 1000000 (encN (okNum b)), numMost 1000000 (encN (okNum c)) with
      | some x, some y, some z => some (mkV x y z)
      | _, _, _ => none) = _
    rw [most_encN, most_encN, most_encN]
    simp only [List.map_cons, List.map_nil]
    cases okNumM a <;> cases okNumM b <;> cases okNumM c <;> rfl
  | a :: b :: c :: d :: r =>
    show none = _
    simp only [List.map_cons]
    cases okNumM a <;> cases okNumM b <;> cases okNumM c <;> rfl
theorem signs_ne : ∀ s ∈ signs, s ≠ "" := by decide
theorem lp_word (E : DEnds) {t : Str} {st : Sto} {y3 y4 : Option D} : ∀ (ss : List Str) (w : Str) (y : Option D), (∀ s ∈ ss, s ≠ "") → (∀ y, E.nx [some (.str t), some (.str (if w = "" then (ss.find? fun s => pre (tl s) (tl t)).getD "" else w)), y, y3, y4] st) →
    runG (gN 2) (RD.b__law_is_part_text_1 sp_law_part sp_lnum) E (fun _ => True) (ss.map D.str) [some (.str t), some (.str w), y, y3, y4] st
  | [], w, y, _, hk => by
    rw [List.map_nil, runG_nil]
    refine ⟨trivial, ?_⟩
    have := hk y
    by_cases h : w = ""
    · rw [if_pos h] at this
      rw [h]
      simpa using this
    · rw [if_neg h] at this
      exact this
  | s :: ss, w, y, hs, hk => by
    rw [List.map_cons, runG_cons]
    refine ⟨trivial, ?_⟩
    have hs0 := hs s List.mem_cons_self
    have ih := fun w y hk => lp_word E (t := t) (st := st) (y3 := y3) (y4 := y4) ss w y (fun s' h => hs s' (List.mem_cons_of_mem _ h)) hk
    simp only [s_gN, List.set]
    generalize hR : runG (gN 2) (RD.b__law_is_part_text_1 sp_law_part sp_lnum) E (fun _ => True) (ss.map D.str) = R at ih ⊢
    unfold RD.b__law_is_part_text_1
    by_cases h : w = ""
    · subst h
      simp [starts_pre]
      cases hp : pre (tl s) (tl t) with
      | true =>
        simp
        refine ih s _ fun y => ?_
        rw [if_neg hs0]
        have := hk y
        simpa [hp] using this
      | false =>
        simp
        refine ih "" _ fun y => ?_
        rw [if_pos rfl]
        have := hk y
        simpa [hp] using this
    · simp [h]
      refine ih w _ fun y => ?_
      rw [if_neg h]
      have := hk y
      rw [if_neg h] at this
      exact this
theorem inD_non : ∀ os : List (Option Nat), inD .non (os.map encN) = decide (none ∈ os)
  | [] => rfl
  | o :: os => by
    have ih := inD_non os
    unfold inD inV at ih ⊢
    simp only [List.map_cons, List.any_cons]
    rw [ih]
    cases o with
    | none => simp [encN, flatVal, eqV]
    | some n => simp [encN, flatVal, eqV]
theorem flat_encN : ∀ os : List (Option Nat), (os.map encN).all flatD = true
  | [] => rfl
  | o :: os => by
    simp only [List.map_cons, List.all_cons, flat_encN os, Bool.and_true]
    cases o <;> rfl
theorem signOf_mem (l : List Nat) : signOf l ∈ words ∧ signOf l ≠ "*" := by
  unfold signOf
  cases e : signs.find? fun s => pre (tl s) l with
  | none => exact ⟨by decide, by decide⟩
  | some s =>
    have hm := List.mem_of_find?_eq_some e
    show s ∈ words ∧ s ≠ "*"
    have : ∀ s ∈ signs, s ∈ words ∧ s ≠ "*" := by decide
    exact this s hm
theorem verN_some {os : List (Option Nat)} (h3 : os.length = 3) (hn : none ∉ os) : ∃ a b c, os = [some a, some b, some c] := by
  match os, h3 with
  | [x, y, z], _ =>
    cases x with
    | none => exact absurd (by simp) hn
    | some a =>
      cases y with
      | none => exact absurd (by simp) hn
      | some b =>
        cases z with
        | none => exact absurd (by simp) hn
        | some c => exact ⟨a, b, c, rfl⟩
theorem verN_none {os : List (Option Nat)} (h : os.length ≠ 3 ∨ none ∈ os) : verN os = none := by
  unfold verN
  split
  · rename_i a b c
    rcases h with h | h
    · exact absurd rfl h
    · simp at h
  · rfl
theorem part_not_star {l : List Nat} (h : l ≠ [42]) : partOf l = (verText (l.drop (tl (signOf l)).length)).bind fun n => rngOf (rosD (signOf l) n) := by
  unfold partOf
  rw [if_neg h]
  cases verText (l.drop (tl (signOf l)).length) <;> rfl
theorem ispart_end {E : DEnds} {t w : Str} {y : Option D} {st2 : Sto} {m : Nat} {os : List (Option Nat)} (hm : st2[m]? = some (.lst (os.map encN))) (hos : ∀ o ∈ os, ∀ n, o = some n → n ≤ 1000000) (hw1 : w ∈ words) (hw2 : w ≠ "*")
    (b : E.rt (.bl ((verN os).bind fun n => rngOf (rosD w n)).isSome) st2) :
    dSeq (dIfS (dOr (dTest (dOp dNe (dCB dLen (dCons (dVar 3) dNil)) (dC (.int 3)))) (dTest (dOp (dIn false) (dC (.non)) (dVar 3)))) (dRet (dC (.bl false))) dNext)
      (dRet (dOp (dIsN not) (dCall 2 sp_law_part (dCons (dVar 1) (dCons (dCB dTupOf (dCons (dVar 3) dNil)) dNil))) (dC (.non)))) E [some (.str t), some (.str w), y, some (.loc m), none] st2 := by
  rw [s_seq]
  generalize hR : dRet (dOp _ _ _) = R
  by_cases hbad : os.length ≠ 3 ∨ none ∈ os
  · rw [verN_none hbad] at b
    rw [s_ifS, s_or, s_test, s_op, s_cb, s_cons, s_var]
    simp only [List.getElem?_cons_succ, List.getElem?_cons_zero, s_nil]
    rw [s_len_loc, hm]
    dsimp only
    rw [s_c]
    show dEqB not _ _ _ _
    rw [s_eq_int]
    by_cases h3 : os.length = 3
    · have hno : none ∈ os := by
        rcases hbad with h | h
        · exact absurd h3 h
        · exact h
      simp [h3, hm]
      refine ⟨os.map encN, by simp [hm], rfl, flat_encN os, ?_⟩
      rw [inD_non]
      simp [hno]
      exact b
    · have : ¬ ((os.length : Int) = 3) := by omega
      simp [this]
      exact b
  · have h3 : os.length = 3 := by
      by_cases z : os.length = 3
      · exact z
      · exact absurd (.inl z) hbad
    have hno : none ∉ os := fun z => hbad (.inr z)
    obtain ⟨a, bb, c, rfl⟩ := verN_some h3 hno
    have ha := hos (some a) (by simp) a rfl
    have hb := hos (some bb) (by simp) bb rfl
    have hc := hos (some c) (by simp) c rfl
    have hv : encV (mkV a bb c) = .tup [.int a, .int bb, .int c] := by
      unfold encV
      rw [vA_mk (by omega) (by omega), vB_mk (by omega) (by omega), vC_mk (by omega)]
    have hov : okV (mkV a bb c) := by
      unfold okV
      rw [vA_mk (by omega) (by omega)]
      exact ha
    have b : E.rt (.bl (rngOf (rosD w (mkV a bb c))).isSome) st2 := b
    have hm' : st2[m]? = some (.lst [.int a, .int bb, .int c]) := hm
    rw [s_ifS, s_or, s_test, s_op, s_cb, s_cons, s_var]
    simp only [List.getElem?_cons_succ, List.getElem?_cons_zero, s_nil]
    rw [s_len_loc, hm']
    dsimp only
    rw [s_c]
    show dEqB not _ _ _ _
    rw [s_eq_int]
    simp [hm']
    refine ⟨[.int a, .int bb, .int c], by simp [hm'], rfl, rfl, ?_⟩
    have hin : inD .non [.int (a : Int), .int bb, .int c] = false := by
      have := inD_non [some a, some bb, some c]
      simpa [encN] using this
    simp [hin]
    subst hR
    simp [hm']
    refine ⟨mkV a bb c, hv.symm, hw1, hov, ?_⟩
    have hlp : lawPart w (mkV a bb c) = rngOf (rosD w (mkV a bb c)) := by unfold lawPart; rw [if_neg hw2]
    rw [hlp]
    cases hr : rngOf (rosD w (mkV a bb c)) with
    | none => rw [hr] at b; exact b
    | some r => rw [hr] at b; exact b
theorem r__law_is_part_text : Rd 1 sp_ispart (RD.t__law_is_part_text sp_law_part sp_lnum) RD.N__law_is_part_text := by
  intro ds st Q Z hl h
  match ds, hl, h with
  | [.str t], _, ⟨ht, q⟩ =>
    have hlen := TL.len_tl t
    have hz : t.length ≤ sizeLine := by have := sizeLine_big (n := t.length) (by omega); omega
    unfold RD.t__law_is_part_text
    refine case_str rfl (fun e => ?_) fun hne => ?_
    · have : partOf (tl t) = some everyR := by unfold partOf; rw [if_pos (by rw [e]; exact tl_star)]
      rw [this] at q
      exact .inl q
    rw [part_not_star fun e => hne (str_eq.mpr (e.trans tl_star.symm)), verText_eq] at q
    obtain ⟨hw1, hw2⟩ := signOf_mem (tl t)
    have hsl := sign_len (tl t)
    rw [s_seq, s_asg, s_c, s_gN]
    dsimp only
    rw [s_seq]
    generalize hR : dSeq _ _ _ = R
    rw [s_for, s_iD]
    refine ⟨szk 7 (by decide), ?_⟩
    show walkD st (.tup (signs.map .str)) _
    rw [s_walk_tup]
    refine lp_word _ signs "" _ signs_ne fun y => ?_
    rw [if_pos rfl]
    show R [some (.str t), some (.str (signOf (tl t))), y, none, none] st
    generalize signOf (tl t) = w at *
    subst hR
    rw [s_seq]
    generalize hR : dSeq _ _ _ = R
    have hwl : w.length ≤ sizeLine := by rw [TL.len_tl]; exact szk _ (by omega)
    generalize hx : cutS t (some (w.length : Int)) none = x at *
    have hxt : tl x = (tl t).drop (tl w).length := by rw [← hx, tl_cut, TL.len_tl w]
    have hxl : x.length ≤ 20000 := by
      rw [TL.len_tl, hxt, List.length_drop]
      omega
    have hcut := split_tl (x := x) tl_dot (by simp) (by simp)
    simp [hwl, hz, hx]
    refine ⟨by decide, sz1m (by omega), ?_⟩
    have hk : (st ++ [Ob.lst ((Txt.split x ".").map D.str)])[st.length]? = some (.lst ((Txt.split x ".").map D.str)) := getElem?_push
    have hcount : (Txt.split x ".").length ≤ x.length + 2 := PyProof.Rows.split_le x "."
    refine runC_mem (inj := D.str) (out := fun w => encN (okNumM (tl w))) hk (Txt.split x ".") [] (fun w hw QT qt => ?_) (by simp; omega) ?_
    · unfold RD.e__law_is_part_text_2
      simp
      exact ⟨by have := split_len hw; omega, qt⟩
    have e : (Txt.split x ".").map (fun w => encN (okNumM (tl w))) = (((spl [46] 0 [] ((tl t).drop (tl w).length))).map okNumM).map encN := by rw [← hxt, ← hcut, List.map_map, List.map_map]; rfl
    have hos : ∀ o ∈ (spl [46] 0 [] ((tl t).drop (tl w).length)).map okNumM, ∀ n, o = some n → n ≤ 1000000 := fun o ho n e => by
      obtain ⟨z, _, h⟩ := List.mem_map.mp ho
      exact okNumM_le (h.trans e)
    simp only [List.nil_append, e]
    generalize (spl [46] 0 [] ((tl t).drop (tl w).length)).map okNumM = os at q hos ⊢
    have back : ∀ g, DL.Back st Q (.bl ((verN os).bind fun n => rngOf (rosD w n)).isSome) (st ++ g) := fun g => back_tup ⟨g, rfl⟩ rfl q
    rw [List.append_assoc]
    generalize hg : ([Ob.lst ((Txt.split x ".").map D.str)] ++ [Ob.lst (os.map encN)]) = g
    have hm : (st ++ g)[st.length + 1]? = some (.lst (os.map encN)) := by rw [← hg]; simp
    have hidx : (st ++ [Ob.lst ((Txt.split x ".").map D.str)]).length = st.length + 1 := by simp
    have b := back g
    simp only [List.length_append, List.length_singleton]
    generalize st ++ g = st2 at b hm ⊢
    generalize st.length + 1 = m at hm ⊢
    subst hR
    exact ispart_end hm hos hw1 hw2 b
end CM
namespace CM
open PySem L2 PySem.Spec DL
open PyProof.Rows hiding St
open TL (tl pre spl numL joinL)
def wrongs (i : Nat) : List Str → List D
  | [] => []
  | w :: r => if (partOf (tl w)).isSome then wrongs (i + 1) r else .int (i : Nat) :: wrongs (i + 1) r
theorem wrongs_head : ∀ (W : List Str) (i : Nat), (wrongs i W).head? = (wrong1 (W.map fun w => partOf (tl w))).map fun j => .int ((i + j : Nat) : Int)
  | [], i => rfl
  | w :: r, i => by
    unfold wrongs
    rw [List.map_cons]
    cases e : partOf (tl w) with
    | none => rw [wrong1_cons_none]; rfl
    | some x =>
      rw [wrong1_cons_some]
      show (wrongs (i + 1) r).head? = _
      rw [wrongs_head r (i + 1)]
      cases wrong1 (r.map fun w => partOf (tl w)) with
      | none => rfl
      | some j =>
        show some (D.int ((i + 1 + j : Nat) : Int)) = some (D.int ((i + (j + 1) : Nat) : Int))
        congr 3
        omega
theorem wrongs_len : ∀ (W : List Str) (i : Nat), (wrongs i W).length ≤ W.length
  | [], i => Nat.le_refl _
  | w :: r, i => by
    have := wrongs_len r (i + 1)
    unfold wrongs
    split <;> simp <;> omega
section
variable {Q : DK} {st : Sto} {f : Nat} {W : List Str}
theorem lp_wrong {x0 x2 x3 : Option D} (hf : st[f]? = some (.lst (W.map .str))) (hW : ∀ w ∈ W, w.length ≤ 20000) : ∀ (rest : List Str) (i : Nat) (acc : List D), (∀ j, W[i + j]? = rest[j]?) → acc.length + rest.length < 1048576 →
    Q (.loc st.length) (st ++ [.lst (acc ++ wrongs i rest)]) → runC (gN 4) (RD.i__law_due_2 sp_ispart) (RD.e__law_due_3 sp_ispart) [x0, some (.loc f), x2, x3, none] Q (fun _ => True) (upFrom i rest.length) acc st
  | [], i, acc, _, _, q => ⟨trivial, by simpa [wrongs] using q⟩
  | w :: r, i, acc, hj, hl, q => by
    have hwi : W[i]? = some w := by simpa using hj 0
    have hwm := hW w (List.mem_of_getElem? hwi)
    simp only [List.length_cons] at hl
    have ih := fun acc hl q => lp_wrong (x0 := x0) (x2 := x2) (x3 := x3) hf hW r (i + 1) acc (fun j => by
      have := hj (j + 1)
      have e : i + (j + 1) = i + 1 + j := by omega
      rw [e] at this
      simpa using this) hl q
    rw [List.length_cons, show upFrom i (r.length + 1) = .int (i : Nat) :: upFrom (i + 1) r.length from rfl, runC_cons]
    refine ⟨trivial, ?_⟩
    rw [s_gN]
    generalize hR : runC (gN 4) (RD.i__law_due_2 sp_ispart) (RD.e__law_due_3 sp_ispart) [x0, some (.loc f), x2, x3, none] Q (fun _ => True) (upFrom (i + 1) r.length) = R at ih ⊢
    show RD.i__law_due_2 sp_ispart [x0, some (.loc f), x2, x3, some (.int (i : Nat))] st _ _
    unfold RD.i__law_due_2
    have hix : ∀ (QE : DK) Z, QE (.str w) st → dOp dIx (dVar 1) (dVar 4) [x0, some (.loc f), x2, x3, some (.int (i : Nat))] st QE Z := fun QE Z q => by
      rw [s_op, s_var]
      simp only [List.getElem?_cons_succ, List.getElem?_cons_zero]
      rw [s_var]
      simp only [List.getElem?_cons_succ, List.getElem?_cons_zero]
      rw [s_ix_loc]
      refine ⟨W.map .str, .str w, hf, ?_, q⟩
      exact atI_nat (by rw [List.getElem?_map, hwi]; rfl)
    rw [s_not, s_tru, s_call, s_cons]
    refine hix _ _ ?_
    rw [s_nil, e_ispart]
    refine ⟨rfl, hwm, ?_⟩
    rw [s_tru_bl]
    unfold wrongs at q
    cases e : (partOf (tl w)).isSome with
    | true =>
      rw [if_pos e] at q
      rw [if_neg (by decide)]
      exact ih acc (by omega) q
    | false =>
      rw [if_neg (by rw [e]; decide)] at q
      rw [Bool.not_false, if_pos rfl]
      unfold RD.e__law_due_3
      rw [s_var]
      exact ⟨sizeLine_big (by omega), ih (acc ++ [.int (i : Nat)]) (by simp; omega) (by simpa using q)⟩
theorem lp_parts (E : DEnds) {x0 x3 x4 : Option D} {a : Nat} {st0 : Sto} {A : List D} (hf0 : st0.length ≤ f) (hfa : a ≠ f) : ∀ (ts acc : List Str) (st : Sto) (x2 : Option D), (∀ t ∈ ts, t.length ≤ 20000) → acc.length + (ts.map fun t => t.length * 1 + 2).sum < 1000000 →
    Pre st0 st → st[f]? = some (.lst (acc.map .str)) → st[a]? = some (.lst A) → (∀ st' y2, Pre st0 st' → st'[f]? = some (.lst ((acc ++ ts.flatMap fun t => Txt.split t ", ").map .str)) → E.nx [x0, some (.loc f), y2, x3, x4] st') →
    runG (gN 2) (RD.b__law_due_1 sp_ispart) E (fun st => st[a]? = some (.lst A)) (ts.map .str) [x0, some (.loc f), x2, x3, x4] st
  | [], acc, st, x2, _, _, hp, hf, ha, hk => by
    rw [List.map_nil, runG_nil]
    exact ⟨ha, hk st x2 hp (by simpa using hf)⟩
  | t :: ts, acc, st, x2, ht, hl, hp, hf, ha, hk => by
    simp only [List.map_cons, List.sum_cons] at hl
    have htl := ht t List.mem_cons_self
    have hsl := PyProof.Rows.split_le t ", "
    rw [List.map_cons, runG_cons]
    refine ⟨ha, ?_⟩
    have hflt : f < st.length := (List.getElem?_eq_some_iff.mp hf).1
    have halt : a < st.length := (List.getElem?_eq_some_iff.mp ha).1
    have ih := fun st' hp' hf' ha' x2 => lp_parts E (x0 := x0) (x3 := x3) (x4 := x4) hf0 hfa (A := A) ts (acc ++ Txt.split t ", ") st' x2 (fun t' h => ht t' (List.mem_cons_of_mem _ h)) (by simp only [List.length_append]; omega) hp' hf' ha' (fun st' y2 h1 h2 => hk st' y2 h1 (by simpa using h2))
    generalize hR : runG (gN 2) (RD.b__law_due_1 sp_ispart) E (fun st => st[a]? = some (.lst A)) (ts.map .str) = R at ih ⊢
    unfold RD.b__law_due_1
    simp only [s_gN, List.set]
    have hf' : (st ++ [Ob.lst ((Txt.split t ", ").map D.str)])[f]? = some (.lst (acc.map .str)) := gb hf
    have ha' : (st ++ [Ob.lst ((Txt.split t ", ").map D.str)])[a]? = some (.lst A) := gb ha
    have hm : (st ++ [Ob.lst ((Txt.split t ", ").map D.str)])[st.length]? = some (.lst ((Txt.split t ", ").map .str)) := getElem?_push
    have hp' := hp.app [Ob.lst ((Txt.split t ", ").map D.str)]
    rw [s_drop, s_bm, s_var]
    simp only [List.getElem?_cons_succ, List.getElem?_cons_zero]
    refine ⟨by simp [hf], ?_⟩
    rw [s_cons, s_bm, s_var]
    simp only [List.getElem?_cons_succ, List.getElem?_cons_zero]
    refine ⟨rfl, ?_⟩
    rw [s_cons, s_c, s_nil, s_split]
    refine ⟨by decide, sz1m (by omega), ?_⟩
    rw [s_nil]
    refine ⟨acc.map .str, (Txt.split t ", ").map .str, hf', .inr ⟨_, rfl, hm⟩, ?_, ?_⟩
    · simp only [List.length_map]
      have := sizeLine_big (n := acc.length + (Txt.split t ", ").length) (by omega)
      omega
    · rw [← List.map_append]
      generalize st ++ [Ob.lst ((Txt.split t ", ").map D.str)] = st2 at hf' ha' hm hp' ⊢
      have hflt2 : f < st2.length := (List.getElem?_eq_some_iff.mp hf').1
      exact ih _ (hp'.set hf0 _) (List.getElem?_set_self hflt2) (by rw [List.getElem?_set_ne (Ne.symm hfa)]; exact ha') _
end
theorem flat_parts (t : Str) : ((Txt.split t " | ").flatMap fun t => Txt.split t ", ").map (fun w => partOf (tl w)) = (altsOf (tl t)).flatten := by
  rw [← alts_eq]
  generalize Txt.split t " | " = ws
  induction ws with
  | nil => rfl
  | cons w ws ih => rw [List.flatMap_cons, List.map_append, ih, parts_eq]; rfl
def sp_ldue : DSp := fun ds st Q _ => match ds with
  | [d] => (∃ t, d = .str t ∧ t.length ≤ 20000 ∧ Q (encN (wrongAt (altsOf (tl t)))) st) ∨ ((∃ T, tyN st d = some T ∧ T ≠ "str") ∧ Q (.int (-1)) st)
  | _ => False
theorem r__law_due : Rd 1 sp_ldue (RD.t__law_due sp_ispart) RD.N__law_due := by
  intro ds st Q Z hl h
  match ds, hl, h with
  | [d], _, .inr ⟨⟨T, e, hT⟩, q⟩ =>
    unfold RD.t__law_due
    rw [s_seq]
    generalize hR : dSeq _ _ _ = R
    have : tySub T "str" = false := by simp [tySub, hT]
    simp [e, this]
    exact .inl q
  | [_], _, .inl ⟨t, rfl, ht, q⟩ =>
    unfold RD.t__law_due
    rw [s_seq]
    generalize hR : dSeq _ _ _ = R
    simp [tySub]
    subst hR
    rw [s_seq]
    generalize hR : dSeq _ _ _ = R
    simp
    subst hR
    rw [s_seq]
    generalize hR : dSeq _ _ _ = R
    simp
    refine ⟨by decide, sz1m (by omega), ?_⟩
    have hsl := PyProof.Rows.split_le t " | "
    have hsum := sum_split t " | "
    have hlin := sum_lin 1 2 (Txt.split t " | ")
    refine lp_parts _ (f := st.length) (a := st.length + 1) (st0 := st) (A := (Txt.split t " | ").map .str) (Nat.le_refl _) (by omega) (Txt.split t " | ") [] _ none (fun w hw => by have := split_len hw; omega) (by rw [hlin]; simp; omega) ⟨_, rfl⟩ (by simp) (by simp) fun st' y2 hp hf => ?_
    subst hR
    simp only [List.nil_append] at hf
    have hWl : ∀ w ∈ ((Txt.split t " | ").flatMap fun t => Txt.split t ", "), w.length ≤ 20000 := fun w hw => by
      obtain ⟨z, hz, h1⟩ := List.mem_flatMap.mp hw
      have := split_len hz
      have := split_len h1
      omega
    have hcount : ((Txt.split t " | ").flatMap fun t => Txt.split t ", ").length ≤ ((Txt.split t " | ").map fun t => t.length * 1 + 2).sum := by
      generalize Txt.split t " | " = ws
      induction ws with
      | nil => simp
      | cons w ws ih =>
        have := PyProof.Rows.split_le w ", "
        simp only [List.flatMap_cons, List.length_append, List.map_cons, List.sum_cons]
        omega
    have hq : wrongAt (altsOf (tl t)) = wrong1 (((Txt.split t " | ").flatMap fun t => Txt.split t ", ").map fun w => partOf (tl w)) := by rw [flat_parts]; rfl
    rw [hq] at q
    have hh := wrongs_head ((Txt.split t " | ").flatMap fun t => Txt.split t ", ") 0
    have hwl := wrongs_len ((Txt.split t " | ").flatMap fun t => Txt.split t ", ") 0
    generalize ((Txt.split t " | ").flatMap fun t => Txt.split t ", ") = W at *
    dsimp only
    rw [s_seq]
    generalize hR : dRet _ = R
    rw [s_asg, s_lc, s_iR1, s_cons, s_cb, s_cons, s_var]
    simp only [List.getElem?_cons_succ, List.getElem?_cons_zero, s_nil]
    rw [s_len_loc, hf]
    dsimp only
    have hWn : (W.map D.str).length = W.length := List.length_map _
    rw [hWn]
    refine ⟨by omega, by omega, ?_⟩
    rw [show ((W.length : Int)).toNat = W.length from rfl, rngItems_up]
    refine lp_wrong hf hWl W 0 [] (fun j => by simp) (by simp; omega) ?_
    rw [s_gN]
    subst hR
    rw [List.nil_append]
    obtain ⟨g, rfl⟩ := hp
    have b : ∀ g', DL.Back st Q (encN (wrong1 (W.map fun w => partOf (tl w)))) (st ++ g ++ g') := fun g' => back_tup ⟨g ++ g', by simp⟩ (blw_encN _ _) q
    have b := b [Ob.lst (wrongs 0 W)]
    have hm : (st ++ g ++ [Ob.lst (wrongs 0 W)])[(st ++ g).length]? = some (.lst (wrongs 0 W)) := getElem?_push
    generalize st ++ g ++ [Ob.lst (wrongs 0 W)] = st2 at b hm ⊢
    generalize (st ++ g).length = m at hm ⊢
    show dRet _ _ [some (.str t), some (.loc st.length), y2, some (.loc m), none] st2
    cases hw : wrongs 0 W with
    | nil =>
      rw [hw] at hh hm
      have : wrong1 (W.map fun w => partOf (tl w)) = none := by
        cases e : wrong1 (W.map fun w => partOf (tl w)) with
        | none => rfl
        | some j => rw [e] at hh; simp at hh
      rw [this] at b
      simp [hm]
      exact b
    | cons d r =>
      rw [hw] at hh hm
      have : ∃ j : Nat, wrong1 (W.map fun w => partOf (tl w)) = some j ∧ d = .int (j : Int) := by
        cases e : wrong1 (W.map fun w => partOf (tl w)) with
        | none => rw [e] at hh; simp at hh
        | some j => rw [e] at hh; simp at hh; exact ⟨j, rfl, hh⟩
      obtain ⟨j, ej, rfl⟩ := this
      rw [ej] at b
      have hpos : (0 : Int) < (r.length : Int) + 1 := by omega
      simp [hm, hpos, atI_nat0]
      exact b
end CM
namespace CM
open PySem L2 PySem.Spec DL
open PyProof.Rows hiding St
open TL (tl pre spl numL joinL)
@[simp] theorem e_read {st : Sto} {Q : DK} {Z : DX → Sto → Prop} {t : Str} : sp_read [.str t] st Q Z = ∃ as : List (List Rng), altsOf (tl t) = as.map (fun a => a.map some) ∧ t.length ≤ 1000000 ∧ Mild as ∧ Q (encR (readR as)) st := rfl
theorem Hd.set {st : Sto} {h c m : Nat} (H : Hd st h c) (h1 : m ≠ h) (h2 : m ≠ c) (o : Ob) : Hd (st.set m o) h c := by
  obtain ⟨cells, a, b, d, e, q1, q2, q3⟩ := H.ex
  exact ⟨cells, a, b, d, e, by rw [List.getElem?_set_ne h1]; exact q1, by rw [List.getElem?_set_ne h2]; exact q2, q3⟩
abbrev PW := List (Str × Nat)
def drawnP (ps : PW) : Prop := ∀ p ∈ ps, p.1 ∈ words ∧ smallV p.2
structure EvOk (ev : Rng) (ps : PW) : Prop where
  w : wf ev
  has : ∀ v, Has ev v ↔ ∀ p ∈ ps, Has (lpR p.1 p.2) v
  len : (endsOf ev).length ≤ 1 + 5 * ps.length
  dr : drawnP ps
def pT (p : Str × Nat) : Str := pText p.1 p.2
theorem EvOk.nil : EvOk everyR [] := ⟨wf1 okV0, fun v => by simp [everyR, Has, inP], by decide, fun p hp => nomatch hp⟩
theorem EvOk.cons {ev : Rng} {ps : PW} (e : EvOk ev ps) {w : Str} {n : Nat} (hw : w ∈ words) (hn : smallV n) : EvOk (bothR ev (lpR w n)) (ps ++ [(w, n)]) := by
  obtain ⟨h1, h2, h3⟩ := law_some hw hn
  refine ⟨wf_both e.w h2, fun v => ?_, ?_, fun p hp => ?_⟩
  · rw [has_both e.w h2, e.has]
    simp only [List.mem_append, List.mem_singleton]
    constructor
    · rintro ⟨a, b⟩ p (hp | rfl)
      · exact a p hp
      · exact b
    · intro q
      exact ⟨fun p hp => q p (.inl hp), q (w, n) (.inr rfl)⟩
  · have := len_both e.w h2
    have := e.len
    simp
    omega
  · rcases List.mem_append.mp hp with hp | hp
    · exact e.dr p hp
    · rw [List.mem_singleton.mp hp]; exact ⟨hw, hn⟩
def aT (ps : PW) : Str := Txt.join ", " (ps.map pT)
structure DueOk (due : Rng) (as : List PW) : Prop where
  w : wf due
  has : ∀ v, Has due v ↔ ∃ ps ∈ as, ∀ p ∈ ps, Has (lpR p.1 p.2) v
  len : (endsOf due).length ≤ 16 * as.length
  dr : ∀ ps ∈ as, ps ≠ [] ∧ ps.length ≤ 3 ∧ drawnP ps
theorem DueOk.nil : DueOk [] [] := ⟨trivial, fun v => by simp [Has], by simp [endsOf], fun p hp => nomatch hp⟩
theorem DueOk.cons {due : Rng} {as : List PW} (d : DueOk due as) {ev : Rng} {ps : PW} (e : EvOk ev ps) (h0 : ps ≠ []) (h3 : ps.length ≤ 3) : DueOk (eitherR due ev) (as ++ [ps]) := by
  refine ⟨wf_either d.w e.w, fun v => ?_, ?_, fun q hq => ?_⟩
  · rw [has_either d.w e.w, d.has, e.has]
    simp only [List.mem_append, List.mem_singleton]
    constructor
    · rintro (⟨p, h1, h2⟩ | h1)
      · exact ⟨p, .inl h1, h2⟩
      · exact ⟨ps, .inr rfl, h1⟩
    · rintro ⟨p, h1 | rfl, h2⟩
      · exact .inl ⟨p, h1, h2⟩
      · exact .inr h2
  · have := len_either d.w e.w
    have := d.len
    have := e.len
    simp
    omega
  · rcases List.mem_append.mp hq with hq | hq
    · exact d.dr q hq
    · rw [List.mem_singleton.mp hq]; exact ⟨h0, h3, e.dr⟩
theorem pT_len {ps : PW} (h : drawnP ps) : ∀ p ∈ ps, (pT p).length ≤ 25 := fun p hp => pText_len (h p hp).1 (h p hp).2.ok
theorem parts_sum {ps : PW} (h : drawnP ps) (h3 : ps.length ≤ 3) : ((ps.map pT).map (·.length)).sum + (ps.map pT).length * (", " : Str).length ≤ 16777216 := by
  have := sum_le (fun p => (pT p).length) 25 ps (pT_len h)
  rw [List.map_map, List.length_map, show (", " : Str).length = 2 by decide, show ((fun x : Str => x.length) ∘ pT) = fun p => (pT p).length from rfl]
  omega
theorem aT_len {ps : PW} (h : drawnP ps) (h3 : ps.length ≤ 3) : (aT ps).length ≤ 100 := by
  unfold aT
  rw [TL.len_tl, TL.join_eq, TL.tl_join, tl_comma]
  have := join_len (S := [44, 32]) (k := 25) (ps := (ps.map pT).map tl) fun q hq => by
    rw [List.map_map] at hq
    obtain ⟨p, hp, rfl⟩ := List.mem_map.mp hq
    have := pT_len h p hp
    rw [TL.len_tl] at this
    exact this
  rw [List.length_map, List.length_map] at this
  simp only [List.length_cons, List.length_nil] at this
  omega
end CM
namespace CM
open PySem L2 PySem.Spec DL
open PyProof.Rows hiding St
open TL (tl pre spl numL joinL)
def bSigns : List Str := ["0", "1", "9", ".", " ", ",", "|", "*", "<", ">", "=", "!", "^", "~", "-", "+", "a", "\n", "_"]
def bw1 : List Str := ["1000001.0.0", "^1000000.0.0", "0.0.1000000", "<=0.0.1000000", ">1.1.1000000", "!0.0.1000000"]
def bw2 : List Str := ["~0.1000000.0", "^0.1000000.3", "^0.0.1000000", "<1000000.1000000.1000000"]
def bw3 : List Str := ["01.0.0", "1.0", ""]
def bw4 : List Str := [">=0.0.1000000", "1.0.0.0", "==1.0.0", "1.0.00", "=1.0.0", "<>1.0.0", "**", "1.-1.0"]
def bws : List Str := bw1 ++ bw2 ++ bw3 ++ bw4
def bseps : List Str := [", ", " | "]
theorem bSigns_len : ∀ s ∈ bSigns, s.length ≤ 30 := by decide
theorem bws_len : ∀ s ∈ bws, s.length ≤ 30 := by decide
theorem bseps_len : ∀ s ∈ bseps, s.length ≤ 30 := by decide
theorem dlst_con {ws : List Str} {t : DTA} {ρ : Env'} {st : Sto} {Q : DK} {Z : DZ} (ht : ∀ (QA : List D → Sto → Prop) Z, QA (ws.map .str) st → t ρ st QA Z) (hl : ws.length < 1000) (q : Q (.loc st.length) (st ++ [.lst (ws.map .str)])) : dLst t ρ st Q Z := by
  rw [s_dlst]
  exact ht _ _ ⟨by rw [List.length_map]; exact szk _ hl, q⟩
theorem dadd_loc {m n : Nat} {st : Sto} {Q : DK} {a b : List Str} (ha : st[m]? = some (.lst (a.map .str))) (hb : st[n]? = some (.lst (b.map .str))) (hl : a.length + b.length < 1000) (q : Q (.loc st.length) (st ++ [.lst ((a ++ b).map .str)])) : dAdd (.loc m) (.loc n) st Q := by
  rw [s_add_loc]
  exact ⟨_, _, ha, hb, by simp only [List.length_map]; exact szk _ hl, by rw [← List.map_append]; exact q⟩
/-- one of some texts -/
theorem some_str {h c m : Nat} {st : Sto} {ws : List Str} {Q : DK} {Z : DX → Sto → Prop} (H : Hd st h c) (hm : st[m]? = some (.lst (ws.map .str))) (hne : m ≠ h) (h0 : 0 < ws.length) (hl : ws.length < 1000) (q : ∀ s st', s ∈ ws → Hd st' h c → Sm h st st' → Q (.str s) st') : sp_some [.loc h, .loc m] st Q Z := by
  rw [e_some]
  refine ⟨c, ws.map .str, H, by simp [hm], fun e => hne (by cases e; rfl), by simpa using h0, by simp; omega, fun e st' he H' s' => ?_⟩
  obtain ⟨s, hs, rfl⟩ := List.mem_map.mp he
  exact q s st' hs H' s'
def sp_bent : DSp := fun ds st Q _ => match ds with
  | [.loc h, .str t] => ∃ c, Hd st h c ∧ t.length ≤ 10000 ∧ ∀ t' st', t'.length ≤ 2 * t.length + 60 → Hd st' h c → Sm h st st' → Q (.str t') st'
  | _ => False
@[simp] theorem e_bent {st : Sto} {Q : DK} {Z : DX → Sto → Prop} {h : Nat} {t : Str} : sp_bent [.loc h, .str t] st Q Z = ∃ c, Hd st h c ∧ t.length ≤ 10000 ∧ ∀ t' st', t'.length ≤ 2 * t.length + 60 → Hd st' h c → Sm h st st' → Q (.str t') st' := rfl
theorem sz_big {n : Nat} (h : n < 1000000) : n ≤ sizeLine := Nat.le_of_lt (sizeLine_big (by omega))
/-- text[:i] + .. -/
theorem cut_le (t : Str) (l u : Option Int) : (cutS t l u).length ≤ t.length := cutS_length t l u
theorem r__law_bent : Rd 2 sp_bent (RD.t__law_bent sp_draw sp_some) RD.N__law_bent := by
  intro ds st Q Z hl h
  match ds, hl, h with
  | [.loc h, .str t], _, ⟨c, H, ht, q⟩ =>
    unfold RD.t__law_bent
    have hz : t.length ≤ sizeLine := sz_big (by omega)
    rw [s_seq]
    generalize hR : dSeq _ _ _ = R
    simp [hz]
    refine ⟨c, H, by omega, fun r st1 r0 r1 H1 s1 => ?_⟩
    obtain ⟨i, rfl⟩ := Int.eq_ofNat_of_zero_le r0
    have g1 := (Gr.refl H).sm s1 H1
    subst hR
    rw [s_seq, s_asg]
    refine dlst_con (ws := bSigns) (fun QA Z q => q) (by decide) ?_
    rw [s_gN]
    dsimp only
    have hm : (st1 ++ [Ob.lst (bSigns.map .str)])[st1.length]? = some (.lst (bSigns.map .str)) := getElem?_push
    have hne : st1.length ≠ h := by have := g1.hd.hlt; omega
    have g2 := g1.app [Ob.lst (bSigns.map .str)]
    generalize st1 ++ [Ob.lst (bSigns.map .str)] = st2 at hm g2 ⊢
    generalize st1.length = m at hm hne ⊢
    rw [s_seq, s_asg, s_call, s_cons, s_var]
    simp only [s_start, List.map_cons, List.map_nil, List.cons_append, List.nil_append, List.set, List.getElem?_cons_succ, List.getElem?_cons_zero, List.length_cons, List.length_nil, List.replicate]
    rw [s_cons, s_var]
    simp only [List.getElem?_cons_succ, List.getElem?_cons_zero, s_nil]
    refine ⟨rfl, some_str g2.hd hm hne (by decide) (by decide) fun sg st3 hsg H3 s3 => ?_⟩
    have hsl := bSigns_len sg hsg
    have g3 := g2.sm s3 H3
    rw [s_gN]
    simp only [List.set]
    rw [s_seq]
    generalize hR : dSeq _ _ _ = R
    simp
    refine ⟨c, g3.hd, fun w st4 w0 w1 H4 s4 => ?_⟩
    have g4 := g3.sm s4 H4
    subst hR
    have fin : ∀ (x : Str) (st5 : Sto), Gr h c st st5 → x.length ≤ 2 * t.length + 60 → DL.Back st Q (.str x) st5 := fun x st5 g5 hx => back_hand g5 rfl fun st6 H6 s6 => q x st6 hx H6 s6
    have z1 := fun l u => cut_le t l u
    rw [s_seq]
    generalize hR : dSeq _ _ _ = R
    by_cases hw0 : w = 0
    · simp [hw0, hz]
      have a := z1 none (some (i : Int))
      have b := z1 (some ((i : Int) + 1)) none
      refine ⟨sz_big (by omega), fin _ _ g4 ?_⟩
      rw [app_len]
      omega
    simp [hw0]
    subst hR
    rw [s_seq]
    generalize hR : dSeq _ _ _ = R
    by_cases hw1 : w = 1
    · simp [hw1, hz]
      have a := z1 none (some (i : Int))
      have b := z1 (some ((i : Int) + 1)) none
      refine ⟨sz_big (by omega), ?_, fin _ _ g4 ?_⟩
      · rw [app_len]; exact sz_big (by omega)
      · rw [app_len, app_len]; omega
    simp [hw1]
    subst hR
    rw [s_seq]
    generalize hR : dRet (dOp dAdd (dOp dAdd (dSl (dVar 1) dNoPart (dPart (dVar 2))) (dVar 4)) (dSl (dVar 1) (dPart (dVar 2)) dNoPart)) = R
    rw [s_ifS, s_test, s_op, s_var]
    simp only [List.getElem?_cons_succ, List.getElem?_cons_zero, s_c]
    show dEqB id _ _ _ _
    rw [s_eq_int]
    by_cases hw2 : w = 2
    · simp only [hw2, decide_true, id, if_true]
      rw [s_seq, s_asg]
      refine dlst_con (ws := bw1) (fun QA Z q => q) (by decide) ?_
      rw [s_gN]
      simp only [List.set]
      have h6 : (st4 ++ [Ob.lst (bw1.map .str)])[st4.length]? = some (.lst (bw1.map .str)) := getElem?_push
      have g5 := g4.app [Ob.lst (bw1.map .str)]
      generalize st4 ++ [Ob.lst (bw1.map .str)] = st5 at h6 g5 ⊢
      have n6 : st4.length ≠ h := by have := g4.hd.hlt; omega
      generalize st4.length = m6 at h6 n6 ⊢
      -- three more, each behind
      have more : ∀ (a b : List Str) (t' : DTA) (ρ : Env') (st5 : Sto) (m6 : Nat) (QE : DK) (Z' : DZ), ρ[6]? = some (some (.loc m6)) → st5[m6]? = some (.lst (a.map .str)) → (∀ (QA : List D → Sto → Prop) Z, QA (b.map .str) st5 → t' ρ st5 QA Z) → a.length + b.length < 1000 → Gr h c st st5 →
          (∀ st6 m7, Gr h c st st6 → st6[m7]? = some (.lst ((a ++ b).map .str)) → m7 ≠ h → QE (.loc m7) st6) → dOp dAdd (dVar 6) (dLst t') ρ st5 QE Z' := by
        intro a b t' ρ st5 m6 QE Z' h0 ha htb hl g k
        rw [s_op, s_var, h0]
        dsimp only
        refine dlst_con htb (by omega) ?_
        refine dadd_loc (gb ha) getElem?_push hl ?_
        exact k _ _ ((g.app _).app _) getElem?_push (by have := (g.app [Ob.lst (b.map .str)]).hd.hlt; omega)
      rw [s_seq, s_asg]
      refine more bw1 bw2 _ _ _ m6 _ _ rfl h6 (fun QA Z q => q) (by decide) g5 fun st6 m7 g6 h7 n7 => ?_
      rw [s_gN]
      simp only [List.set]
      rw [s_seq, s_asg]
      refine more (bw1 ++ bw2) bw3 _ _ _ m7 _ _ rfl h7 (fun QA Z q => q) (by decide) g6 fun st7 m8 g7 h8 n8 => ?_
      rw [s_gN]
      simp only [List.set]
      rw [s_seq, s_asg]
      refine more (bw1 ++ bw2 ++ bw3) bw4 _ _ _ m8 _ _ rfl h8 (fun QA Z q => q) (by decide) g7 fun st8 m9 g8 h9 n9 => ?_
      rw [s_gN]
      simp only [List.set]
      rw [s_ret, s_op, s_op, s_var]
      simp only [List.getElem?_cons_succ, List.getElem?_cons_zero]
      rw [s_call, s_cons, s_var]
      simp only [List.getElem?_cons_succ, List.getElem?_cons_zero]
      rw [s_cons]
      refine dlst_con (ws := bseps) (fun QA Z q => q) (by decide) ?_
      rw [s_nil]
      have g9 := g8.app [Ob.lst (bseps.map .str)]
      have h9' : (st8 ++ [Ob.lst (bseps.map .str)])[m9]? = some (.lst (bws.map .str)) := gb h9
      refine ⟨rfl, some_str g9.hd getElem?_push (by have := g8.hd.hlt; omega) (by decide) (by decide) fun s1 st9 hs1 H9 sm9 => ?_⟩
      have l1 := bseps_len s1 hs1
      have g10 := g9.sm sm9 H9
      have h10 : st9[m9]? = some (.lst (bws.map .str)) := by rw [sm9.same m9 n9]; exact h9'
      rw [s_add_str]
      refine ⟨sz_big (by omega), ?_⟩
      rw [s_call, s_cons, s_var]
      simp only [List.getElem?_cons_succ, List.getElem?_cons_zero]
      rw [s_cons, s_var]
      simp only [List.getElem?_cons_succ, List.getElem?_cons_zero, s_nil]
      refine ⟨rfl, some_str g10.hd h10 n9 (by decide) (by decide) fun s2 st10 hs2 H10 sm10 => ?_⟩
      have l2 := bws_len s2 hs2
      have g11 := g10.sm sm10 H10
      rw [s_add_str]
      refine ⟨by rw [app_len]; exact sz_big (by omega), fin _ _ g11 ?_⟩
      rw [app_len, app_len]
      omega
    · simp only [hw2, decide_false, id]
      rw [if_neg (by decide), s_next]
      dsimp only
      subst hR
      have a := z1 none (some (i : Int))
      have b := z1 (some (i : Int)) none
      simp [hz]
      refine ⟨sz_big (by omega), ?_, fin _ _ g4 ?_⟩
      · rw [app_len]; exact sz_big (by omega)
      · rw [app_len, app_len]; omega
end CM
namespace CM
open PySem L2 PySem.Spec DL
open PyProof.Rows hiding St
open TL (tl pre spl numL joinL)
def noStr (d : D) : Prop := ∀ s, d ≠ .str s
def sp_deepS : DSp := fun ds st Q _ => match ds with
  | [.int _] => ∀ d st', (∃ g, st' = st ++ g) → ok st' d → noStr d → Q d st'
  | _ => False
@[simp] theorem e_deepS {st : Sto} {Q : DK} {Z : DX → Sto → Prop} {k : Int} : sp_deepS [.int k] st Q Z = ∀ d st', (∃ g, st' = st ++ g) → ok st' d → noStr d → Q d st' := rfl
theorem lp_deepS (E : DEnds) {k : Int} {st : Sto} (hk : ∀ d st' y, (∃ g, st' = st ++ g) → ok st' d → noStr d → E.nx [some (.int k), some d, y] st') : ∀ (n i : Nat) (d : D) (st1 : Sto) (x : Option D), (∃ g, st1 = st ++ g) → ok st1 d → noStr d →
    runG (gN 2) RD.b__law_deep_1 E (fun _ => True) (upFrom i n) [some (.int k), some d, x] st1
  | 0, i, d, st1, x, hg, ho, hr => by
    rw [upFrom, runG_nil]
    exact ⟨trivial, hk d st1 x hg ho hr⟩
  | n + 1, i, d, st1, x, ⟨g, hg⟩, ho, hr => by
    rw [upFrom, runG_cons]
    refine ⟨trivial, ?_⟩
    have ih := lp_deepS E hk n (i + 1)
    simp only [s_gN]
    generalize hR : runG (gN 2) RD.b__law_deep_1 E (fun _ => True) (upFrom (i + 1) n) = R at ih ⊢
    unfold RD.b__law_deep_1
    subst hg
    simp
    by_cases h0 : k = 0
    · rw [if_pos h0]
      refine ⟨by decide, ?_⟩
      have := ih (.loc (st ++ g).length) (st ++ g ++ [.lst [d]]) (some (.int (i : Nat))) ⟨g ++ [.lst [d]], by simp⟩ (ok_lst (es := [d]) (by simp)) (fun r e => by cases e)
      simpa using this
    · rw [if_neg h0]
      exact ⟨by decide, ih (.tup [d]) (st ++ g) (some (.int (i : Nat))) ⟨g, rfl⟩ (by simp [ho]) (fun r e => by cases e)⟩
theorem r__law_deepS : Rd 1 sp_deepS RD.t__law_deep RD.N__law_deep := by
  intro ds st Q Z hl h
  match ds, hl, h with
  | [.int k], _, q =>
    unfold RD.t__law_deep
    simp
    rw [rngItems_up]
    refine lp_deepS _ (st := st) (fun d st' y h1 h2 h3 => ?_) 36 0 .non st none ⟨[], by simp⟩ (by simp) (fun r e => by cases e)
    exact .inl (q d st' h1 h2 h3)
theorem ty_noStr {st : Sto} {d : D} (h : ok st d) (hn : noStr d) : ∃ T, tyN st d = some T ∧ T ≠ "str" := by
  rcases ok_cases h with rfl | ⟨b, rfl⟩ | ⟨i, rfl⟩ | ⟨x, rfl⟩ | ⟨ds, rfl, _⟩ | ⟨ds, rfl⟩ | ⟨n, es, rfl, e⟩ | ⟨n, es, rfl, e⟩
  · exact ⟨"NoneType", rfl, by decide⟩
  · exact ⟨"bool", rfl, by decide⟩
  · exact ⟨"int", rfl, by decide⟩
  · exact absurd rfl (hn x)
  · exact ⟨"tuple", rfl, by decide⟩
  · exact ⟨"list", rfl, by decide⟩
  · exact ⟨"list", by simp [tyN, e], by decide⟩
  · exact ⟨"dict", by simp [tyN, e], by decide⟩
def encW (p : Str × Nat) : D := .tup [.str p.1, encV p.2]
section
variable {h c : Nat}
theorem lp_ws {Q : DK} {x0 x2 x3 x4 x5 x7 x8 x9 x10 x11 : Option D} : ∀ (n i : Nat) (acc : List D) (st : Sto), Hd st h c → acc.length + n < 1000 →
    (∀ st' ps, Hd st' h c → Sm h st st' → ps.length = n → drawnP ps → Q (.loc st'.length) (st' ++ [.lst (acc ++ ps.map encW)])) →
    runC (gN 6) dYes (RD.e_law_k03_1 sp_hand sp_draw sp_some (sp_is 4) sp_deepS sp_ptext sp_words sp_ldue sp_ltold sp_bent) [x0, some (.loc h), x2, x3, x4, x5, none, x7, x8, x9, x10, x11] Q (fun _ => True) (upFrom i n) acc st
  | 0, i, acc, st, H, hl, q => ⟨trivial, by simpa using q st [] H (Sm.refl h st) rfl fun p hp => nomatch hp⟩
  | n + 1, i, acc, st, H, hl, q => by
    rw [show upFrom i (n + 1) = .int (i : Nat) :: upFrom (i + 1) n from rfl, runC_cons]
    refine ⟨trivial, ?_⟩
    have ih := fun acc st => lp_ws (Q := Q) (x0 := x0) (x2 := x2) (x3 := x3) (x4 := x4) (x5 := x5) (x7 := x7) (x8 := x8) (x9 := x9) (x10 := x10) (x11 := x11) n (i + 1) acc st
    generalize hR : runC (gN 6) dYes (RD.e_law_k03_1 sp_hand sp_draw sp_some (sp_is 4) sp_deepS sp_ptext sp_words sp_ldue sp_ltold sp_bent) [x0, some (.loc h), x2, x3, x4, x5, none, x7, x8, x9, x10, x11] Q (fun _ => True) (upFrom (i + 1) n) = R at ih ⊢
    rw [s_gN, s_yes, if_pos rfl]
    unfold RD.e_law_k03_1
    rw [s_call, s_cons, s_var]
    simp only [List.set, List.getElem?_cons_succ, List.getElem?_cons_zero, s_nil, e_words]
    refine ⟨rfl, c, H, fun w k st1 hw hk H1 s1 => ⟨sz_big (by omega), ?_⟩⟩
    refine ih _ st1 H1 (by simp; omega) fun st2 ps H2 s2 hps hd => ?_
    have := q st2 ((w, k) :: ps) H2 (s1.trans s2) (by simp [hps]) fun p hp => by
      rcases List.mem_cons.mp hp with rfl | hp
      · exact ⟨hw, hk⟩
      · exact hd p hp
    simpa [encW] using this
theorem lp_pt {Q : DK} {G : Sto → Prop} {x0 x1 x2 x3 x4 x5 x6 x9 x10 x11 : Option D} {st : Sto} (hG : G st) : ∀ (ps : PW) (acc : List D) (y7 y8 : Option D), drawnP ps → acc.length + ps.length < 1000 → y7 = none → y8 = none →
    Q (.loc st.length) (st ++ [.lst (acc ++ (ps.map pT).map .str)]) →
    runC (gTup' 2 (gCons' (gN 7) (gCons' (gN 8) gNil'))) dYes (RD.e_law_k03_2 sp_hand sp_draw sp_some (sp_is 4) sp_deepS sp_ptext sp_words sp_ldue sp_ltold sp_bent) [x0, x1, x2, x3, x4, x5, x6, y7, y8, x9, x10, x11] Q G (ps.map encW) acc st
  | [], acc, y7, y8, _, _, _, _, q => ⟨hG, by simpa using q⟩
  | (w, k) :: ps, acc, y7, y8, hd, hl, e7, e8, q => by
    obtain ⟨hw, hk⟩ := hd (w, k) List.mem_cons_self
    have ho := hk.ok
    simp only [List.length_cons] at hl
    rw [List.map_cons, runC_cons]
    refine ⟨hG, ?_⟩
    have ih := fun acc => lp_pt (Q := Q) (x0 := x0) (x1 := x1) (x2 := x2) (x3 := x3) (x4 := x4) (x5 := x5) (x6 := x6) (x9 := x9) (x10 := x10) (x11 := x11) hG ps acc y7 y8 (fun p hp => hd p (List.mem_cons_of_mem _ hp))
    generalize hR : runC (gTup' 2 (gCons' (gN 7) (gCons' (gN 8) gNil'))) dYes (RD.e_law_k03_2 sp_hand sp_draw sp_some (sp_is 4) sp_deepS sp_ptext sp_words sp_ldue sp_ltold sp_bent) [x0, x1, x2, x3, x4, x5, x6, y7, y8, x9, x10, x11] Q G (ps.map encW) = R at ih ⊢
    unfold encW
    rw [s_gTup]
    refine ⟨rfl, ?_⟩
    rw [s_gCons, s_gN, s_gCons, s_gN, s_gNil, s_yes, if_pos rfl]
    unfold RD.e_law_k03_2
    rw [s_call, s_cons, s_var]
    simp only [List.set, List.getElem?_cons_succ, List.getElem?_cons_zero]
    rw [s_cons, s_var]
    simp only [List.getElem?_cons_succ, List.getElem?_cons_zero, s_nil, e_ptext]
    refine ⟨rfl, ho, hw, sz_big (by omega), ?_⟩
    exact ih _ (by simp; omega) e7 e8 (by simpa [pT] using q)
def AltOk (ps : PW) : Prop := ps.length ≤ 3 ∧ drawnP ps
/-- one alternative -/
theorem k03_alt {E : DEnds} {x0 x2 x4 x5 x9 x10 x11 : Option D} {st : Sto} {m3 : Nat} {as : List PW} (H : Hd st h c) (h3 : st[m3]? = some (.lst ((as.map aT).map .str))) (n3 : m3 ≠ h) (c3 : m3 ≠ c) (hl : as.length < 3)
    (hk : ∀ st' ps y5, Hd st' h c → st'[m3]? = some (.lst (((as ++ [ps]).map aT).map .str)) → AltOk ps → E.nx [x0, some (.loc h), x2, some (.loc m3), x4, y5, none, none, none, x9, x10, x11] st') :
    RD.b_law_k03_3 sp_hand sp_draw sp_some (sp_is 4) sp_deepS sp_ptext sp_words sp_ldue sp_ltold sp_bent E [x0, some (.loc h), x2, some (.loc m3), x4, x5, none, none, none, x9, x10, x11] st := by
  unfold RD.b_law_k03_3
  rw [s_seq]
  generalize hR : dDrop _ _ = R
  rw [s_asg, s_lc, s_iR1, s_cons, s_op, s_c, s_call, s_cons, s_var]
  simp only [List.getElem?_cons_succ, List.getElem?_cons_zero]
  rw [s_cons, s_c, s_nil, e_draw]
  refine ⟨rfl, c, H, by decide, by decide, fun r st1 r0 r1 H1 s1 => ?_⟩
  show (match [D.int (1 + r)] with | [.int j] => _ | _ => False)
  dsimp only
  refine ⟨by omega, by omega, ?_⟩
  rw [rngItems_up]
  have h3' : st1[m3]? = some (.lst ((as.map aT).map .str)) := by rw [s1.same m3 n3]; exact h3
  refine lp_ws (c := c) (1 + r).toNat 0 [] st1 H1 (by simp; omega) fun st2 ps H2 s2 hps hd => ?_
  have h3'' : st2[m3]? = some (.lst ((as.map aT).map .str)) := by rw [s2.same m3 n3]; exact h3'
  have hps3 : ps.length ≤ 3 := by omega
  rw [s_gN]
  simp only [List.set, List.nil_append]
  have h5 : (st2 ++ [Ob.lst (ps.map encW)])[st2.length]? = some (.lst (ps.map encW)) := getElem?_push
  have h3a : (st2 ++ [Ob.lst (ps.map encW)])[m3]? = some (.lst ((as.map aT).map .str)) := gb h3''
  have H3 := H2.app [Ob.lst (ps.map encW)]
  generalize st2 ++ [Ob.lst (ps.map encW)] = st3 at h5 h3a H3 ⊢
  generalize st2.length = m5 at h5 ⊢
  subst hR
  rw [s_drop, s_bm, s_var]
  simp only [List.getElem?_cons_succ, List.getElem?_cons_zero]
  refine ⟨by simp [h3a], ?_⟩
  rw [s_cons, s_bm, s_c]
  refine ⟨rfl, ?_⟩
  rw [s_cons, s_lc, s_iD, s_var]
  simp only [List.getElem?_cons_succ, List.getElem?_cons_zero]
  rw [s_walk_loc]
  refine ⟨_, h5, ?_⟩
  refine lp_pt h5 ps [] none none hd (by simp; omega) rfl rfl ?_
  rw [s_nil, s_join]
  have hm : (st3 ++ [Ob.lst ([] ++ (ps.map pT).map D.str)])[st3.length]? = some (.lst ([] ++ (ps.map pT).map .str)) := getElem?_push
  have h3b : (st3 ++ [Ob.lst ([] ++ (ps.map pT).map D.str)])[m3]? = some (.lst ((as.map aT).map .str)) := gb h3a
  have H4 := H3.app [Ob.lst ([] ++ (ps.map pT).map D.str)]
  generalize st3 ++ [Ob.lst ([] ++ (ps.map pT).map D.str)] = st4 at hm h3b H4 ⊢
  refine ⟨ps.map pT, by simp [hm], parts_sum hd hps3, ?_⟩
  rw [s_nil, s_append]
  have hlt : m3 < st4.length := (List.getElem?_eq_some_iff.mp h3b).1
  refine ⟨_, h3b, by simp only [List.length_map]; exact sizeLine_big (by omega), ?_⟩
  have := hk (st4.set m3 (.lst (((as ++ [ps]).map aT).map .str))) ps (some (.loc m5)) (H4.set n3 c3 _) (List.getElem?_set_self hlt) ⟨hps3, hd⟩
  simpa [aT] using this
theorem lp_k03a (E : DEnds) {x0 x2 x9 x10 x11 : Option D} {m3 : Nat} (n3 : m3 ≠ h) (c3 : m3 ≠ c) : ∀ (n i : Nat) (as : List PW) (st : Sto) (x4 x5 : Option D), Hd st h c → st[m3]? = some (.lst ((as.map aT).map .str)) → (∀ ps ∈ as, AltOk ps) → as.length + n ≤ 3 →
    (∀ st' (as' : List PW) y4 y5, Hd st' h c → st'[m3]? = some (.lst ((as'.map aT).map .str)) → (∀ ps ∈ as', AltOk ps) → as'.length ≤ 3 → E.nx [x0, some (.loc h), x2, some (.loc m3), y4, y5, none, none, none, x9, x10, x11] st') →
    runG (gN 4) (RD.b_law_k03_3 sp_hand sp_draw sp_some (sp_is 4) sp_deepS sp_ptext sp_words sp_ldue sp_ltold sp_bent) E (fun _ => True) (upFrom i n) [x0, some (.loc h), x2, some (.loc m3), x4, x5, none, none, none, x9, x10, x11] st
  | 0, i, as, st, x4, x5, H, h3, ha, hl, hk => ⟨trivial, hk st as x4 x5 H h3 ha (by omega)⟩
  | n + 1, i, as, st, x4, x5, H, h3, ha, hl, hk => ⟨trivial, k03_alt H h3 n3 c3 (by omega) fun st' ps y5 H' h3' hp =>
      lp_k03a E n3 c3 n (i + 1) (as ++ [ps]) st' _ y5 H' h3' (fun q hq => by
        rcases List.mem_append.mp hq with hq | hq
        · exact ha q hq
        · rw [List.mem_singleton.mp hq]; exact hp) (by simp; omega) hk⟩
theorem alts3_sum {as : List PW} (ha : ∀ ps ∈ as, AltOk ps) (h3 : as.length ≤ 3) : ((as.map aT).map (·.length)).sum + (as.map aT).length * (" | " : Str).length ≤ 16777216 ∧ (Txt.join " | " (as.map aT)).length ≤ 400 := by
  have hal : ∀ ps ∈ as, (aT ps).length ≤ 100 := fun ps hps => aT_len (ha ps hps).2 (ha ps hps).1
  constructor
  · have := sum_le (fun p => (aT p).length) 100 as hal
    rw [List.map_map, List.length_map, show (" | " : Str).length = 3 by decide, show ((fun x : Str => x.length) ∘ aT) = fun p => (aT p).length from rfl]
    omega
  · rw [TL.len_tl, TL.join_eq, TL.tl_join, tl_bar]
    have := join_len (S := [32, 124, 32]) (k := 100) (ps := (as.map aT).map tl) fun q hq => by
      rw [List.map_map] at hq
      obtain ⟨p, hp, rfl⟩ := List.mem_map.mp hq
      have := hal p hp
      rw [TL.len_tl] at this
      exact this
    rw [List.length_map, List.length_map] at this
    simp only [List.length_cons, List.length_nil] at this
    omega
theorem lp_bend (E : DEnds) {x0 x2 x3 x4 x5 x11 : Option D} : ∀ (n i : Nat) (t : Str) (st : Sto) (x10 : Option D), Hd st h c → (t.length + 60) * 2 ^ n ≤ 5000 →
    (∀ st' t' y10, Hd st' h c → t'.length ≤ 5000 → E.nx [x0, some (.loc h), x2, x3, x4, x5, none, none, none, some (.str t'), y10, x11] st') →
    runG (gN 10) (RD.b_law_k03_4 sp_hand sp_draw sp_some (sp_is 4) sp_deepS sp_ptext sp_words sp_ldue sp_ltold sp_bent) E (fun _ => True) (upFrom i n) [x0, some (.loc h), x2, x3, x4, x5, none, none, none, some (.str t), x10, x11] st
  | 0, i, t, st, x10, H, hl, hk => ⟨trivial, hk st t x10 H (by omega)⟩
  | n + 1, i, t, st, x10, H, hl, hk => by
    have h2 : 1 ≤ 2 ^ n := Nat.one_le_two_pow
    have hp : (2 : Nat) ^ (n + 1) = 2 * 2 ^ n := by rw [Nat.pow_succ, Nat.mul_comm]
    have hl2 : (t.length + 60) * 2 ≤ 5000 := by
      rw [hp] at hl
      exact Nat.le_trans (Nat.mul_le_mul_left _ (by omega)) hl
    refine ⟨trivial, ?_⟩
    have ih := fun t st x10 => lp_bend E (x0 := x0) (x2 := x2) (x3 := x3) (x4 := x4) (x5 := x5) (x11 := x11) n (i + 1) t st x10
    generalize hR : runG (gN 10) (RD.b_law_k03_4 sp_hand sp_draw sp_some (sp_is 4) sp_deepS sp_ptext sp_words sp_ldue sp_ltold sp_bent) E (fun _ => True) (upFrom (i + 1) n) = R at ih ⊢
    rw [s_gN]
    unfold RD.b_law_k03_4
    rw [s_asg, s_call, s_cons, s_var]
    simp only [List.set, List.getElem?_cons_succ, List.getElem?_cons_zero]
    rw [s_cons, s_var]
    simp only [List.getElem?_cons_succ, List.getElem?_cons_zero, s_nil, e_bent]
    refine ⟨rfl, c, H, by omega, fun t' st' ht' H' s' => ?_⟩
    rw [s_gN]
    simp only [List.set]
    refine ih t' st' _ H' ?_ hk
    rw [hp] at hl
    refine Nat.le_trans (Nat.mul_le_mul_right (2 ^ n) (show t'.length + 60 ≤ (t.length + 60) * 2 by omega)) ?_
    rw [Nat.mul_assoc]
    exact hl
theorem pu_encN (o : Option Nat) : pu (encN o) = true := by cases o <;> rfl
theorem dp_encN (o : Option Nat) : dp (encN o) = 0 := by cases o <;> rfl
theorem k03_turn {E : DEnds} {x0 x2 x3 x4 x5 x9 x10 x11 : Option D} {st : Sto} (H : Hd st h c) (hk : ∀ st' y3 y4 y5 y9 y10, Hd st' h c → E.nx [x0, some (.loc h), x2, y3, y4, y5, none, none, none, y9, y10, x11] st') :
    RD.b_law_k03_5 sp_hand sp_draw sp_some (sp_is 4) sp_deepS sp_ptext sp_words sp_ldue sp_ltold sp_bent E [x0, some (.loc h), x2, x3, x4, x5, none, none, none, x9, x10, x11] st := by
  unfold RD.b_law_k03_5
  have hlth := H.hlt
  have hltc := H.clt
  rw [s_seq, s_asg, s_dlst, s_nil]
  refine ⟨szk 0 (by decide), ?_⟩
  rw [s_gN]
  simp only [List.set]
  have h3 : (st ++ [Ob.lst []])[st.length]? = some (.lst ((([] : List PW).map aT).map .str)) := getElem?_push
  have H' := H.app [Ob.lst []]
  generalize st ++ [Ob.lst []] = st1 at h3 H' ⊢
  have n3 : st.length ≠ h := by omega
  have c3 : st.length ≠ c := by omega
  generalize st.length = m3 at h3 n3 c3 ⊢
  rw [s_seq]
  generalize hR : dSeq _ _ _ = R
  rw [s_for, s_iR1, s_cons, s_op, s_c, s_call, s_cons, s_var]
  simp only [List.getElem?_cons_succ, List.getElem?_cons_zero]
  rw [s_cons, s_c, s_nil, e_draw]
  refine ⟨rfl, c, H', by decide, by decide, fun r st2 r0 r1 H2 s2 => ?_⟩
  show (match [D.int (1 + r)] with | [.int j] => _ | _ => False)
  dsimp only
  refine ⟨by omega, by omega, ?_⟩
  rw [rngItems_up]
  have h3' : st2[m3]? = some (.lst ((([] : List PW).map aT).map .str)) := by rw [s2.same m3 n3]; exact h3
  refine lp_k03a _ n3 c3 (1 + r).toNat 0 [] st2 _ _ H2 h3' (fun _ z => nomatch z) (by simp; omega) fun st3 as y4 y5 H3 g3 ha has => ?_
  obtain ⟨j1, j2⟩ := alts3_sum ha has
  subst hR
  dsimp only
  rw [s_seq, s_asg, s_bm, s_c]
  refine ⟨rfl, ?_⟩
  rw [s_cons, s_var]
  simp only [List.getElem?_cons_succ, List.getElem?_cons_zero, s_nil]
  rw [s_join]
  refine ⟨as.map aT, by simp [g3], j1, ?_⟩
  generalize Txt.join " | " (as.map aT) = t at j2 ⊢
  rw [s_gN]
  simp only [List.set]
  rw [s_seq]
  generalize hR : dIfS _ _ _ _ = R
  rw [s_for, s_iR1, s_cons, s_call, s_cons, s_var]
  simp only [List.getElem?_cons_succ, List.getElem?_cons_zero]
  rw [s_cons, s_c, s_nil, e_draw]
  refine ⟨rfl, c, H3, by decide, by decide, fun r st4 r0 r1 H4 s4 => ?_⟩
  rw [s_nil]
  dsimp only
  refine ⟨by omega, by omega, ?_⟩
  rw [rngItems_up]
  refine lp_bend (c := c) _ r.toNat 0 t st4 _ H4 ?_ fun st5 t' y10 H5 ht' => ?_
  · have : r.toNat ≤ 2 := by omega
    have h4 : 2 ^ r.toNat ≤ 2 ^ 2 := Nat.pow_le_pow_right (by decide) this
    exact Nat.le_trans (Nat.mul_le_mul (show t.length + 60 ≤ 460 by omega) h4) (by decide)
  subst hR
  dsimp only
  rw [s_ifS, s_test, s_op, s_call, s_cons, s_var]
  simp only [List.getElem?_cons_succ, List.getElem?_cons_zero, s_nil]
  refine ⟨rfl, .inl ⟨t', rfl, by omega, ?_⟩⟩
  dsimp only
  rw [s_call, s_cons, s_var]
  simp only [List.getElem?_cons_succ, List.getElem?_cons_zero, s_nil]
  refine ⟨rfl, .inl ⟨t', rfl, by omega, ?_⟩⟩
  dsimp only
  show dEqB not _ _ _ _
  refine eq_plain (b := true) (pu_encN _) (pu_encN _) (by rw [dp_encN]; decide) (by rw [dp_encN]; decide) (by simp) ?_
  show (if false = true then _ else _)
  rw [if_neg (by decide), s_next]
  exact hk _ _ _ _ _ _ H5
theorem lp_k03 (E : DEnds) {x0 x11 : Option D} (hk : ∀ st' y2 y3 y4 y5 y9 y10, Hd st' h c → E.nx [x0, some (.loc h), y2, y3, y4, y5, none, none, none, y9, y10, x11] st') : ∀ (n i : Nat) (st : Sto) (x2 x3 x4 x5 x9 x10 : Option D), Hd st h c →
    runG (gN 2) (RD.b_law_k03_5 sp_hand sp_draw sp_some (sp_is 4) sp_deepS sp_ptext sp_words sp_ldue sp_ltold sp_bent) E (fun _ => True) (upFrom i n) [x0, some (.loc h), x2, x3, x4, x5, none, none, none, x9, x10, x11] st
  | 0, i, st, x2, x3, x4, x5, x9, x10, H => ⟨trivial, hk st _ _ _ _ _ _ H⟩
  | n + 1, i, st, x2, x3, x4, x5, x9, x10, H => ⟨trivial, k03_turn H fun st' y3 y4 y5 y9 y10 H' => lp_k03 E hk n (i + 1) st' _ y3 y4 y5 y9 y10 H'⟩
end
theorem deepS_ev {h c : Nat} {st0 : Sto} {ρ : Env'} {k : Int} : DrE h c st0 ρ noStr (dCall 1 sp_deepS (dCons (dC (.int k)) dNil)) := fun st1 Q Z g q => by
  simp
  exact fun d x ho hne => q _ _ ((Gr.refl g.hd).app x) ho hne
theorem r_law_k03 : Rd 1 sp_law (RD.t_law_k03 sp_hand sp_draw sp_some (sp_is 4) sp_deepS sp_ptext sp_words sp_ldue sp_ltold sp_bent) RD.N_law_k03 := by
  intro ds st Q Z hl h
  match ds, hl, h with
  | [d], _, hx =>
    obtain ⟨ns, hd, hl, _, q⟩ := hx
    unfold RD.t_law_k03
    rw [s_seq]
    dsimp only
    generalize hR : dSeq _ _ _ = R
    have hh : ∀ (QE : DK) Z', (∀ st' h c, Hd st' h c → QE (.loc h) st') → sp_hand [d] st QE Z' := fun QE Z' q' => ⟨ns, hd, hl, fun st' h c _ H _ _ => q' st' h c H⟩
    simp
    refine hh _ _ fun st1 h c H => ?_
    subst hR
    rw [s_seq]
    dsimp only
    generalize hR : dSeq _ _ _ = R
    rw [s_for, s_iR1, s_cons, s_c, s_nil]
    dsimp only
    refine ⟨by decide, by decide, ?_⟩
    rw [rngItems_up]
    refine lp_k03 _ (fun st2 y2 y3 y4 y5 y9 y10 H2 => ?_) 10 0 st1 _ _ _ _ _ _ H
    subst hR
    dsimp only
    rw [s_seq, s_asg]
    have tc : ∀ {i : Int} {ρ : Env'}, DrE h c st2 ρ (fun _ => True) (dC (.int i)) := .con (fun _ => by simp [ok]) trivial
    have ts : ∀ {x : Str} {ρ : Env'}, DrE h c st2 ρ (fun _ => True) (dC (.str x)) := .con (fun _ => by simp [ok]) trivial
    have tn : ∀ {ρ : Env'}, DrE h c st2 ρ (fun _ => True) (dC .non) := .con (fun _ => by simp [ok]) trivial
    refine some_lst (p := noStr) (h := h) (c := c) (st0 := st2) rfl (.cons (.con (fun _ => by simp [ok]) (fun s e => by cases e)) (.cons (.con (fun _ => by simp [ok]) (fun s e => by cases e)) (.cons (.con (fun _ => by simp [ok]) (fun s e => by cases e))
      (.cons (.lst (.cons ts .nil) (by decide) (fun m s e => by cases e)) (.cons (.tup (.cons ts .nil) (by decide) (fun m _ s e => by cases e)) (.cons (.dict (fun m s e => by cases e))
      (.cons (.tup (.cons (.tup (.cons (.tup (.cons tc (.cons tc (.cons tc .nil))) (by decide) (fun _ _ => trivial)) (.cons tn .nil)) (by decide) (fun _ _ => trivial)) .nil) (by decide) (fun m _ s e => by cases e))
      (.cons deepS_ev (.cons deepS_ev .nil))))))))) (by decide) (by decide) (Gr.refl H2) fun d3 st3 g3 o3 p3 => ?_
    rw [s_gN]
    dsimp only
    have hT := ty_noStr o3 p3
    rw [s_ret, s_call, s_cons, s_call, s_cons, s_var]
    simp only [List.set, List.getElem?_cons_succ, List.getElem?_cons_zero, s_nil]
    refine ⟨rfl, .inr ⟨hT, ?_⟩⟩
    dsimp only
    rw [s_cons, s_un, s_c, s_neg, s_nil, e_is]
    exact ⟨rfl, sam_refl _ _ _ rfl (by simp [dp]), .inl (q st3)⟩
end CM
set_option maxHeartbeats 0
namespace Lk03
open PySem L2 PySem.Spec DL
open PyProof.Rows hiding St
theorem all_mk {l : PySem.W.OpenLaw} {w : World} {K : PySem.W.Frag} {h : Heap} {mg : Str → Option Value} {fa : Addr} (X : K.In h) (G : h.Ns mainGlobals mg) (hfa : mg "law" = some (.ref fa))
    {f_is_integer : Addr} {oc_is_integer kV_is_integer dc_is_integer pm_is_integer cd_is_integer ct_is_integer : Value} {od_is_integer an_is_integer : Option Addr} {sl_is_integer : Array (Option Value)}
    {f_is_number : Addr} {oc_is_number kV_is_number dc_is_number pm_is_number cd_is_number ct_is_number : Value} {od_is_number an_is_number : Option Addr} {sl_is_number : Array (Option Value)}
    {f_is_tuple_of : Addr} {oc_is_tuple_of kV_is_tuple_of dc_is_tuple_of pm_is_tuple_of cd_is_tuple_of ct_is_tuple_of : Value} {od_is_tuple_of an_is_tuple_of : Option Addr} {sl_is_tuple_of : Array (Option Value)}
    {f_is_version : Addr} {oc_is_version kV_is_version dc_is_version pm_is_version cd_is_version ct_is_version : Value} {od_is_version an_is_version : Option Addr} {sl_is_version : Array (Option Value)}
    {f_is_stretch : Addr} {oc_is_stretch kV_is_stretch dc_is_stretch pm_is_stretch cd_is_stretch ct_is_stretch : Value} {od_is_stretch an_is_stretch : Option Addr} {sl_is_stretch : Array (Option Value)}
    {f_is_range : Addr} {oc_is_range kV_is_range dc_is_range pm_is_range cd_is_range ct_is_range : Value} {od_is_range an_is_range : Option Addr} {sl_is_range : Array (Option Value)}
    {f_reaches : Addr} {oc_reaches kV_reaches dc_reaches pm_reaches cd_reaches ct_reaches : Value} {od_reaches an_reaches : Option Addr} {sl_reaches : Array (Option Value)}
    {f_later_end : Addr} {oc_later_end kV_later_end dc_later_end pm_later_end cd_later_end ct_later_end : Value} {od_later_end an_later_end : Option Addr} {sl_later_end : Array (Option Value)}
    {f_stretched c_stretched : Addr} {oc_stretched kV_stretched dc_stretched pm_stretched ct_stretched : Value} {od_stretched an_stretched : Option Addr} {sl_stretched : Array (Option Value)}
    {f_outside : Addr} {oc_outside kV_outside dc_outside pm_outside cd_outside ct_outside : Value} {od_outside an_outside : Option Addr} {sl_outside : Array (Option Value)}
    {f_version_behind : Addr} {oc_version_behind kV_version_behind dc_version_behind pm_version_behind cd_version_behind ct_version_behind : Value} {od_version_behind an_version_behind : Option Addr} {sl_version_behind : Array (Option Value)}
    {f_told_number : Addr} {oc_told_number kV_told_number dc_told_number pm_told_number cd_told_number ct_told_number : Value} {od_told_number an_told_number : Option Addr} {sl_told_number : Array (Option Value)}
    {f_told_version : Addr} {oc_told_version kV_told_version dc_told_version pm_told_version cd_told_version ct_told_version : Value} {od_told_version an_told_version : Option Addr} {sl_told_version : Array (Option Value)}
    {f_caret_end : Addr} {oc_caret_end kV_caret_end dc_caret_end pm_caret_end cd_caret_end ct_caret_end : Value} {od_caret_end an_caret_end : Option Addr} {sl_caret_end : Array (Option Value)}
    {f_range_of_sign : Addr} {oc_range_of_sign kV_range_of_sign dc_range_of_sign pm_range_of_sign cd_range_of_sign ct_range_of_sign : Value} {od_range_of_sign an_range_of_sign : Option Addr} {sl_range_of_sign : Array (Option Value)}
    {f_sign_of : Addr} {oc_sign_of kV_sign_of dc_sign_of pm_sign_of cd_sign_of ct_sign_of : Value} {od_sign_of an_sign_of : Option Addr} {sl_sign_of : Array (Option Value)}
    {f_told_part : Addr} {oc_told_part kV_told_part dc_told_part pm_told_part cd_told_part ct_told_part : Value} {od_told_part an_told_part : Option Addr} {sl_told_part : Array (Option Value)}
    {f_read_range : Addr} {oc_read_range kV_read_range dc_read_range pm_read_range cd_read_range ct_read_range : Value} {od_read_range an_read_range : Option Addr} {sl_read_range : Array (Option Value)}
    {f__law_hand : Addr} {oc__law_hand kV__law_hand dc__law_hand pm__law_hand cd__law_hand ct__law_hand : Value} {od__law_hand an__law_hand : Option Addr} {sl__law_hand : Array (Option Value)}
    {f__law_draw : Addr} {oc__law_draw kV__law_draw dc__law_draw pm__law_draw cd__law_draw ct__law_draw : Value} {od__law_draw an__law_draw : Option Addr} {sl__law_draw : Array (Option Value)}
    {f__law_some : Addr} {oc__law_some kV__law_some dc__law_some pm__law_some cd__law_some ct__law_some : Value} {od__law_some an__law_some : Option Addr} {sl__law_some : Array (Option Value)}
    {f__law_is : Addr} {oc__law_is kV__law_is dc__law_is pm__law_is cd__law_is ct__law_is : Value} {od__law_is an__law_is : Option Addr} {sl__law_is : Array (Option Value)}
    {f__law_deep : Addr} {oc__law_deep kV__law_deep dc__law_deep pm__law_deep cd__law_deep ct__law_deep : Value} {od__law_deep an__law_deep : Option Addr} {sl__law_deep : Array (Option Value)}
    {f__law_version : Addr} {oc__law_version kV__law_version dc__law_version pm__law_version cd__law_version ct__law_version : Value} {od__law_version an__law_version : Option Addr} {sl__law_version : Array (Option Value)}
    {f__law_behind : Addr} {oc__law_behind kV__law_behind dc__law_behind pm__law_behind cd__law_behind ct__law_behind : Value} {od__law_behind an__law_behind : Option Addr} {sl__law_behind : Array (Option Value)}
    {f__law_has : Addr} {oc__law_has kV__law_has dc__law_has pm__law_has cd__law_has ct__law_has : Value} {od__law_has an__law_has : Option Addr} {sl__law_has : Array (Option Value)}
    {f__law_marks : Addr} {oc__law_marks kV__law_marks dc__law_marks pm__law_marks cd__law_marks ct__law_marks : Value} {od__law_marks an__law_marks : Option Addr} {sl__law_marks : Array (Option Value)}
    {f__law_made : Addr} {oc__law_made kV__law_made dc__law_made pm__law_made cd__law_made ct__law_made : Value} {od__law_made an__law_made : Option Addr} {sl__law_made : Array (Option Value)}
    {f__law_outside : Addr} {oc__law_outside kV__law_outside dc__law_outside pm__law_outside cd__law_outside ct__law_outside : Value} {od__law_outside an__law_outside : Option Addr} {sl__law_outside : Array (Option Value)}
    {f__law_version_text : Addr} {oc__law_version_text kV__law_version_text dc__law_version_text pm__law_version_text cd__law_version_text ct__law_version_text : Value} {od__law_version_text an__law_version_text : Option Addr} {sl__law_version_text : Array (Option Value)}
    {f__law_part_text : Addr} {oc__law_part_text kV__law_part_text dc__law_part_text pm__law_part_text cd__law_part_text ct__law_part_text : Value} {od__law_part_text an__law_part_text : Option Addr} {sl__law_part_text : Array (Option Value)}
    {f__law_part : Addr} {oc__law_part kV__law_part dc__law_part pm__law_part cd__law_part ct__law_part : Value} {od__law_part an__law_part : Option Addr} {sl__law_part : Array (Option Value)}
    {f__law_words : Addr} {oc__law_words kV__law_words dc__law_words pm__law_words cd__law_words ct__law_words : Value} {od__law_words an__law_words : Option Addr} {sl__law_words : Array (Option Value)}
    {f__law_read_number : Addr} {oc__law_read_number kV__law_read_number dc__law_read_number pm__law_read_number cd__law_read_number ct__law_read_number : Value} {od__law_read_number an__law_read_number : Option Addr} {sl__law_read_number : Array (Option Value)}
    {f__law_is_part_text : Addr} {oc__law_is_part_text kV__law_is_part_text dc__law_is_part_text pm__law_is_part_text cd__law_is_part_text ct__law_is_part_text : Value} {od__law_is_part_text an__law_is_part_text : Option Addr} {sl__law_is_part_text : Array (Option Value)}
    {f__law_due : Addr} {oc__law_due kV__law_due dc__law_due pm__law_due cd__law_due ct__law_due : Value} {od__law_due an__law_due : Option Addr} {sl__law_due : Array (Option Value)}
    {f__law_told : Addr} {oc__law_told kV__law_told dc__law_told pm__law_told cd__law_told ct__law_told : Value} {od__law_told an__law_told : Option Addr} {sl__law_told : Array (Option Value)}
    {f__law_bent : Addr} {oc__law_bent kV__law_bent dc__law_bent pm__law_bent cd__law_bent ct__law_bent : Value} {od__law_bent an__law_bent : Option Addr} {sl__law_bent : Array (Option Value)}
    {f_law : Addr} {oc_law kV_law dc_law pm_law cd_law ct_law : Value} {od_law an_law : Option Addr} {sl_law : Array (Option Value)}
    {c_LockError : Addr}
    {c_BadText : Addr}
    {cl_BadText : Addr} {nm_BadText q_BadText : Str} {N_BadText : Addr} {bs_BadText : List Value} {sn_BadText : List Str} {sb_BadText : List Value} {ab_BadText : Bool} {co_BadText : Option Bool} {dd_BadText : Option Addr} {m0_BadText m1_BadText m2_BadText m3_BadText m5_BadText : Option Value}
    {fi_BadText : Addr} {oci_BadText kVi_BadText dci_BadText pmi_BadText cdi_BadText cti_BadText : Value} {odi_BadText ani_BadText : Option Addr} {sli_BadText : Array (Option Value)}
    {u_NUMBER_MOST : Value}
    {u_NUMBER_DIGITS : Value}
    {u_LEAST : Value}
    {u_EVERY : Value}
    {u_SIGNS : Value}
    {p_stretched : Addr} {vs_stretched : Array Value} {e_stretched : Value} {dd_stretched : Option Addr} {ss_stretched : Array (Option Value)}
    (a_is_integer : PySem.W.nsIn K mainGlobals "is_integer" = some (some (.ref f_is_integer)))
    (l_is_integer : K.lookup f_is_integer = some ⟨oc_is_integer, od_is_integer, .func (PySem.W.fnOf "is_integer" "is_integer" (defArgs S_is_integer) (defBody S_is_integer) (defScope S_is_integer) .none kV_is_integer dc_is_integer pm_is_integer an_is_integer cd_is_integer ct_is_integer), sl_is_integer⟩)
    (q_is_integer : PySem.W.codeIn K cd_is_integer "is_integer" = true)
    (k_is_integer : PySem.W.keepIn K (.ref f_is_integer) = true)
    (a_is_number : PySem.W.nsIn K mainGlobals "is_number" = some (some (.ref f_is_number)))
    (l_is_number : K.lookup f_is_number = some ⟨oc_is_number, od_is_number, .func (PySem.W.fnOf "is_number" "is_number" (defArgs S_is_number) (defBody S_is_number) (defScope S_is_number) .none kV_is_number dc_is_number pm_is_number an_is_number cd_is_number ct_is_number), sl_is_number⟩)
    (q_is_number : PySem.W.codeIn K cd_is_number "is_number" = true)
    (k_is_number : PySem.W.keepIn K (.ref f_is_number) = true)
    (a_is_tuple_of : PySem.W.nsIn K mainGlobals "is_tuple_of" = some (some (.ref f_is_tuple_of)))
    (l_is_tuple_of : K.lookup f_is_tuple_of = some ⟨oc_is_tuple_of, od_is_tuple_of, .func (PySem.W.fnOf "is_tuple_of" "is_tuple_of" (defArgs S_is_tuple_of) (defBody S_is_tuple_of) (defScope S_is_tuple_of) .none kV_is_tuple_of dc_is_tuple_of pm_is_tuple_of an_is_tuple_of cd_is_tuple_of ct_is_tuple_of), sl_is_tuple_of⟩)
    (q_is_tuple_of : PySem.W.codeIn K cd_is_tuple_of "is_tuple_of" = true)
    (k_is_tuple_of : PySem.W.keepIn K (.ref f_is_tuple_of) = true)
    (a_is_version : PySem.W.nsIn K mainGlobals "is_version" = some (some (.ref f_is_version)))
    (l_is_version : K.lookup f_is_version = some ⟨oc_is_version, od_is_version, .func (PySem.W.fnOf "is_version" "is_version" (defArgs S_is_version) (defBody S_is_version) (defScope S_is_version) .none kV_is_version dc_is_version pm_is_version an_is_version cd_is_version ct_is_version), sl_is_version⟩)
    (q_is_version : PySem.W.codeIn K cd_is_version "is_version" = true)
    (k_is_version : PySem.W.keepIn K (.ref f_is_version) = true)
    (a_is_stretch : PySem.W.nsIn K mainGlobals "is_stretch" = some (some (.ref f_is_stretch)))
    (l_is_stretch : K.lookup f_is_stretch = some ⟨oc_is_stretch, od_is_stretch, .func (PySem.W.fnOf "is_stretch" "is_stretch" (defArgs S_is_stretch) (defBody S_is_stretch) (defScope S_is_stretch) .none kV_is_stretch dc_is_stretch pm_is_stretch an_is_stretch cd_is_stretch ct_is_stretch), sl_is_stretch⟩)
    (q_is_stretch : PySem.W.codeIn K cd_is_stretch "is_stretch" = true)
    (k_is_stretch : PySem.W.keepIn K (.ref f_is_stretch) = true)
    (a_is_range : PySem.W.nsIn K mainGlobals "is_range" = some (some (.ref f_is_range)))
    (l_is_range : K.lookup f_is_range = some ⟨oc_is_range, od_is_range, .func (PySem.W.fnOf "is_range" "is_range" (defArgs S_is_range) (defBody S_is_range) (defScope S_is_range) .none kV_is_range dc_is_range pm_is_range an_is_range cd_is_range ct_is_range), sl_is_range⟩)
    (q_is_range : PySem.W.codeIn K cd_is_range "is_range" = true)
    (k_is_range : PySem.W.keepIn K (.ref f_is_range) = true)
    (a_reaches : PySem.W.nsIn K mainGlobals "reaches" = some (some (.ref f_reaches)))
    (l_reaches : K.lookup f_reaches = some ⟨oc_reaches, od_reaches, .func (PySem.W.fnOf "reaches" "reaches" (defArgs S_reaches) (defBody S_reaches) (defScope S_reaches) .none kV_reaches dc_reaches pm_reaches an_reaches cd_reaches ct_reaches), sl_reaches⟩)
    (q_reaches : PySem.W.codeIn K cd_reaches "reaches" = true)
    (k_reaches : PySem.W.keepIn K (.ref f_reaches) = true)
    (a_later_end : PySem.W.nsIn K mainGlobals "later_end" = some (some (.ref f_later_end)))
    (l_later_end : K.lookup f_later_end = some ⟨oc_later_end, od_later_end, .func (PySem.W.fnOf "later_end" "later_end" (defArgs S_later_end) (defBody S_later_end) (defScope S_later_end) .none kV_later_end dc_later_end pm_later_end an_later_end cd_later_end ct_later_end), sl_later_end⟩)
    (q_later_end : PySem.W.codeIn K cd_later_end "later_end" = true)
    (k_later_end : PySem.W.keepIn K (.ref f_later_end) = true)
    (a_stretched : PySem.W.nsIn K mainGlobals "stretched" = some (some (.ref f_stretched)))
    (l_stretched : K.lookup f_stretched = some ⟨oc_stretched, od_stretched, .func (PySem.W.fnOf "stretched" "stretched" (defArgs S_stretched) (defBody S_stretched) (defScope S_stretched) .none kV_stretched dc_stretched pm_stretched an_stretched (.ref c_stretched) ct_stretched), sl_stretched⟩)
    (q_stretched : PySem.W.codeIn K (.ref c_stretched) "stretched" = true)
    (k_stretched : PySem.W.keepIn K (.ref f_stretched) = true)
    (a_outside : PySem.W.nsIn K mainGlobals "outside" = some (some (.ref f_outside)))
    (l_outside : K.lookup f_outside = some ⟨oc_outside, od_outside, .func (PySem.W.fnOf "outside" "outside" (defArgs S_outside) (defBody S_outside) (defScope S_outside) .none kV_outside dc_outside pm_outside an_outside cd_outside ct_outside), sl_outside⟩)
    (q_outside : PySem.W.codeIn K cd_outside "outside" = true)
    (k_outside : PySem.W.keepIn K (.ref f_outside) = true)
    (a_version_behind : PySem.W.nsIn K mainGlobals "version_behind" = some (some (.ref f_version_behind)))
    (l_version_behind : K.lookup f_version_behind = some ⟨oc_version_behind, od_version_behind, .func (PySem.W.fnOf "version_behind" "version_behind" (defArgs S_version_behind) (defBody S_version_behind) (defScope S_version_behind) .none kV_version_behind dc_version_behind pm_version_behind an_version_behind cd_version_behind ct_version_behind), sl_version_behind⟩)
    (q_version_behind : PySem.W.codeIn K cd_version_behind "version_behind" = true)
    (k_version_behind : PySem.W.keepIn K (.ref f_version_behind) = true)
    (a_told_number : PySem.W.nsIn K mainGlobals "told_number" = some (some (.ref f_told_number)))
    (l_told_number : K.lookup f_told_number = some ⟨oc_told_number, od_told_number, .func (PySem.W.fnOf "told_number" "told_number" (defArgs S_told_number) (defBody S_told_number) (defScope S_told_number) .none kV_told_number dc_told_number pm_told_number an_told_number cd_told_number ct_told_number), sl_told_number⟩)
    (q_told_number : PySem.W.codeIn K cd_told_number "told_number" = true)
    (k_told_number : PySem.W.keepIn K (.ref f_told_number) = true)
    (a_told_version : PySem.W.nsIn K mainGlobals "told_version" = some (some (.ref f_told_version)))
    (l_told_version : K.lookup f_told_version = some ⟨oc_told_version, od_told_version, .func (PySem.W.fnOf "told_version" "told_version" (defArgs S_told_version) (defBody S_told_version) (defScope S_told_version) .none kV_told_version dc_told_version pm_told_version an_told_version cd_told_version ct_told_version), sl_told_version⟩)
    (q_told_version : PySem.W.codeIn K cd_told_version "told_version" = true)
    (k_told_version : PySem.W.keepIn K (.ref f_told_version) = true)
    (a_caret_end : PySem.W.nsIn K mainGlobals "caret_end" = some (some (.ref f_caret_end)))
    (l_caret_end : K.lookup f_caret_end = some ⟨oc_caret_end, od_caret_end, .func (PySem.W.fnOf "caret_end" "caret_end" (defArgs S_caret_end) (defBody S_caret_end) (defScope S_caret_end) .none kV_caret_end dc_caret_end pm_caret_end an_caret_end cd_caret_end ct_caret_end), sl_caret_end⟩)
    (q_caret_end : PySem.W.codeIn K cd_caret_end "caret_end" = true)
    (k_caret_end : PySem.W.keepIn K (.ref f_caret_end) = true)
    (a_range_of_sign : PySem.W.nsIn K mainGlobals "range_of_sign" = some (some (.ref f_range_of_sign)))
    (l_range_of_sign : K.lookup f_range_of_sign = some ⟨oc_range_of_sign, od_range_of_sign, .func (PySem.W.fnOf "range_of_sign" "range_of_sign" (defArgs S_range_of_sign) (defBody S_range_of_sign) (defScope S_range_of_sign) .none kV_range_of_sign dc_range_of_sign pm_range_of_sign an_range_of_sign cd_range_of_sign ct_range_of_sign), sl_range_of_sign⟩)
    (q_range_of_sign : PySem.W.codeIn K cd_range_of_sign "range_of_sign" = true)
    (k_range_of_sign : PySem.W.keepIn K (.ref f_range_of_sign) = true)
    (a_sign_of : PySem.W.nsIn K mainGlobals "sign_of" = some (some (.ref f_sign_of)))
    (l_sign_of : K.lookup f_sign_of = some ⟨oc_sign_of, od_sign_of, .func (PySem.W.fnOf "sign_of" "sign_of" (defArgs S_sign_of) (defBody S_sign_of) (defScope S_sign_of) .none kV_sign_of dc_sign_of pm_sign_of an_sign_of cd_sign_of ct_sign_of), sl_sign_of⟩)
    (q_sign_of : PySem.W.codeIn K cd_sign_of "sign_of" = true)
    (k_sign_of : PySem.W.keepIn K (.ref f_sign_of) = true)
    (a_told_part : PySem.W.nsIn K mainGlobals "told_part" = some (some (.ref f_told_part)))
    (l_told_part : K.lookup f_told_part = some ⟨oc_told_part, od_told_part, .func (PySem.W.fnOf "told_part" "told_part" (defArgs S_told_part) (defBody S_told_part) (defScope S_told_part) .none kV_told_part dc_told_part pm_told_part an_told_part cd_told_part ct_told_part), sl_told_part⟩)
    (q_told_part : PySem.W.codeIn K cd_told_part "told_part" = true)
    (k_told_part : PySem.W.keepIn K (.ref f_told_part) = true)
    (a_read_range : PySem.W.nsIn K mainGlobals "read_range" = some (some (.ref f_read_range)))
    (l_read_range : K.lookup f_read_range = some ⟨oc_read_range, od_read_range, .func (PySem.W.fnOf "read_range" "read_range" (defArgs S_read_range) (defBody S_read_range) (defScope S_read_range) .none kV_read_range dc_read_range pm_read_range an_read_range cd_read_range ct_read_range), sl_read_range⟩)
    (q_read_range : PySem.W.codeIn K cd_read_range "read_range" = true)
    (k_read_range : PySem.W.keepIn K (.ref f_read_range) = true)
    (a__law_hand : PySem.W.nsIn K mainGlobals "_law_hand" = some (some (.ref f__law_hand)))
    (l__law_hand : K.lookup f__law_hand = some ⟨oc__law_hand, od__law_hand, .func (PySem.W.fnOf "_law_hand" "_law_hand" (defArgs S__law_hand) (defBody S__law_hand) (defScope S__law_hand) .none kV__law_hand dc__law_hand pm__law_hand an__law_hand cd__law_hand ct__law_hand), sl__law_hand⟩)
    (q__law_hand : PySem.W.codeIn K cd__law_hand "_law_hand" = true)
    (k__law_hand : PySem.W.keepIn K (.ref f__law_hand) = true)
    (a__law_draw : PySem.W.nsIn K mainGlobals "_law_draw" = some (some (.ref f__law_draw)))
    (l__law_draw : K.lookup f__law_draw = some ⟨oc__law_draw, od__law_draw, .func (PySem.W.fnOf "_law_draw" "_law_draw" (defArgs S__law_draw) (defBody S__law_draw) (defScope S__law_draw) .none kV__law_draw dc__law_draw pm__law_draw an__law_draw cd__law_draw ct__law_draw), sl__law_draw⟩)
    (q__law_draw : PySem.W.codeIn K cd__law_draw "_law_draw" = true)
    (k__law_draw : PySem.W.keepIn K (.ref f__law_draw) = true)
    (a__law_some : PySem.W.nsIn K mainGlobals "_law_some" = some (some (.ref f__law_some)))
    (l__law_some : K.lookup f__law_some = some ⟨oc__law_some, od__law_some, .func (PySem.W.fnOf "_law_some" "_law_some" (defArgs S__law_some) (defBody S__law_some) (defScope S__law_some) .none kV__law_some dc__law_some pm__law_some an__law_some cd__law_some ct__law_some), sl__law_some⟩)
    (q__law_some : PySem.W.codeIn K cd__law_some "_law_some" = true)
    (k__law_some : PySem.W.keepIn K (.ref f__law_some) = true)
    (a__law_is : PySem.W.nsIn K mainGlobals "_law_is" = some (some (.ref f__law_is)))
    (l__law_is : K.lookup f__law_is = some ⟨oc__law_is, od__law_is, .func (PySem.W.fnOf "_law_is" "_law_is" (defArgs S__law_is) (defBody S__law_is) (defScope S__law_is) .none kV__law_is dc__law_is pm__law_is an__law_is cd__law_is ct__law_is), sl__law_is⟩)
    (q__law_is : PySem.W.codeIn K cd__law_is "_law_is" = true)
    (k__law_is : PySem.W.keepIn K (.ref f__law_is) = true)
    (a__law_deep : PySem.W.nsIn K mainGlobals "_law_deep" = some (some (.ref f__law_deep)))
    (l__law_deep : K.lookup f__law_deep = some ⟨oc__law_deep, od__law_deep, .func (PySem.W.fnOf "_law_deep" "_law_deep" (defArgs S__law_deep) (defBody S__law_deep) (defScope S__law_deep) .none kV__law_deep dc__law_deep pm__law_deep an__law_deep cd__law_deep ct__law_deep), sl__law_deep⟩)
    (q__law_deep : PySem.W.codeIn K cd__law_deep "_law_deep" = true)
    (k__law_deep : PySem.W.keepIn K (.ref f__law_deep) = true)
    (a__law_version : PySem.W.nsIn K mainGlobals "_law_version" = some (some (.ref f__law_version)))
    (l__law_version : K.lookup f__law_version = some ⟨oc__law_version, od__law_version, .func (PySem.W.fnOf "_law_version" "_law_version" (defArgs S__law_version) (defBody S__law_version) (defScope S__law_version) .none kV__law_version dc__law_version pm__law_version an__law_version cd__law_version ct__law_version), sl__law_version⟩)
    (q__law_version : PySem.W.codeIn K cd__law_version "_law_version" = true)
    (k__law_version : PySem.W.keepIn K (.ref f__law_version) = true)
    (a__law_behind : PySem.W.nsIn K mainGlobals "_law_behind" = some (some (.ref f__law_behind)))
    (l__law_behind : K.lookup f__law_behind = some ⟨oc__law_behind, od__law_behind, .func (PySem.W.fnOf "_law_behind" "_law_behind" (defArgs S__law_behind) (defBody S__law_behind) (defScope S__law_behind) .none kV__law_behind dc__law_behind pm__law_behind an__law_behind cd__law_behind ct__law_behind), sl__law_behind⟩)
    (q__law_behind : PySem.W.codeIn K cd__law_behind "_law_behind" = true)
    (k__law_behind : PySem.W.keepIn K (.ref f__law_behind) = true)
    (a__law_has : PySem.W.nsIn K mainGlobals "_law_has" = some (some (.ref f__law_has)))
    (l__law_has : K.lookup f__law_has = some ⟨oc__law_has, od__law_has, .func (PySem.W.fnOf "_law_has" "_law_has" (defArgs S__law_has) (defBody S__law_has) (defScope S__law_has) .none kV__law_has dc__law_has pm__law_has an__law_has cd__law_has ct__law_has), sl__law_has⟩)
    (q__law_has : PySem.W.codeIn K cd__law_has "_law_has" = true)
    (k__law_has : PySem.W.keepIn K (.ref f__law_has) = true)
    (a__law_marks : PySem.W.nsIn K mainGlobals "_law_marks" = some (some (.ref f__law_marks)))
    (l__law_marks : K.lookup f__law_marks = some ⟨oc__law_marks, od__law_marks, .func (PySem.W.fnOf "_law_marks" "_law_marks" (defArgs S__law_marks) (defBody S__law_marks) (defScope S__law_marks) .none kV__law_marks dc__law_marks pm__law_marks an__law_marks cd__law_marks ct__law_marks), sl__law_marks⟩)
    (q__law_marks : PySem.W.codeIn K cd__law_marks "_law_marks" = true)
    (k__law_marks : PySem.W.keepIn K (.ref f__law_marks) = true)
    (a__law_made : PySem.W.nsIn K mainGlobals "_law_made" = some (some (.ref f__law_made)))
    (l__law_made : K.lookup f__law_made = some ⟨oc__law_made, od__law_made, .func (PySem.W.fnOf "_law_made" "_law_made" (defArgs S__law_made) (defBody S__law_made) (defScope S__law_made) .none kV__law_made dc__law_made pm__law_made an__law_made cd__law_made ct__law_made), sl__law_made⟩)
    (q__law_made : PySem.W.codeIn K cd__law_made "_law_made" = true)
    (k__law_made : PySem.W.keepIn K (.ref f__law_made) = true)
    (a__law_outside : PySem.W.nsIn K mainGlobals "_law_outside" = some (some (.ref f__law_outside)))
    (l__law_outside : K.lookup f__law_outside = some ⟨oc__law_outside, od__law_outside, .func (PySem.W.fnOf "_law_outside" "_law_outside" (defArgs S__law_outside) (defBody S__law_outside) (defScope S__law_outside) .none kV__law_outside dc__law_outside pm__law_outside an__law_outside cd__law_outside ct__law_outside), sl__law_outside⟩)
    (q__law_outside : PySem.W.codeIn K cd__law_outside "_law_outside" = true)
    (k__law_outside : PySem.W.keepIn K (.ref f__law_outside) = true)
    (a__law_version_text : PySem.W.nsIn K mainGlobals "_law_version_text" = some (some (.ref f__law_version_text)))
    (l__law_version_text : K.lookup f__law_version_text = some ⟨oc__law_version_text, od__law_version_text, .func (PySem.W.fnOf "_law_version_text" "_law_version_text" (defArgs S__law_version_text) (defBody S__law_version_text) (defScope S__law_version_text) .none kV__law_version_text dc__law_version_text pm__law_version_text an__law_version_text cd__law_version_text ct__law_version_text), sl__law_version_text⟩)
    (q__law_version_text : PySem.W.codeIn K cd__law_version_text "_law_version_text" = true)
    (k__law_version_text : PySem.W.keepIn K (.ref f__law_version_text) = true)
    (a__law_part_text : PySem.W.nsIn K mainGlobals "_law_part_text" = some (some (.ref f__law_part_text)))
    (l__law_part_text : K.lookup f__law_part_text = some ⟨oc__law_part_text, od__law_part_text, .func (PySem.W.fnOf "_law_part_text" "_law_part_text" (defArgs S__law_part_text) (defBody S__law_part_text) (defScope S__law_part_text) .none kV__law_part_text dc__law_part_text pm__law_part_text an__law_part_text cd__law_part_text ct__law_part_text), sl__law_part_text⟩)
    (q__law_part_text : PySem.W.codeIn K cd__law_part_text "_law_part_text" = true)
    (k__law_part_text : PySem.W.keepIn K (.ref f__law_part_text) = true)
    (a__law_part : PySem.W.nsIn K mainGlobals "_law_part" = some (some (.ref f__law_part)))
    (l__law_part : K.lookup f__law_part = some ⟨oc__law_part, od__law_part, .func (PySem.W.fnOf "_law_part" "_law_part" (defArgs S__law_part) (defBody S__law_part) (defScope S__law_part) .none kV__law_part dc__law_part pm__law_part an__law_part cd__law_part ct__law_part), sl__law_part⟩)
    (q__law_part : PySem.W.codeIn K cd__law_part "_law_part" = true)
    (k__law_part : PySem.W.keepIn K (.ref f__law_part) = true)
    (a__law_words : PySem.W.nsIn K mainGlobals "_law_words" = some (some (.ref f__law_words)))
    (l__law_words : K.lookup f__law_words = some ⟨oc__law_words, od__law_words, .func (PySem.W.fnOf "_law_words" "_law_words" (defArgs S__law_words) (defBody S__law_words) (defScope S__law_words) .none kV__law_words dc__law_words pm__law_words an__law_words cd__law_words ct__law_words), sl__law_words⟩)
    (q__law_words : PySem.W.codeIn K cd__law_words "_law_words" = true)
    (k__law_words : PySem.W.keepIn K (.ref f__law_words) = true)
    (a__law_read_number : PySem.W.nsIn K mainGlobals "_law_read_number" = some (some (.ref f__law_read_number)))
    (l__law_read_number : K.lookup f__law_read_number = some ⟨oc__law_read_number, od__law_read_number, .func (PySem.W.fnOf "_law_read_number" "_law_read_number" (defArgs S__law_read_number) (defBody S__law_read_number) (defScope S__law_read_number) .none kV__law_read_number dc__law_read_number pm__law_read_number an__law_read_number cd__law_read_number ct__law_read_number), sl__law_read_number⟩)
    (q__law_read_number : PySem.W.codeIn K cd__law_read_number "_law_read_number" = true)
    (k__law_read_number : PySem.W.keepIn K (.ref f__law_read_number) = true)
    (a__law_is_part_text : PySem.W.nsIn K mainGlobals "_law_is_part_text" = some (some (.ref f__law_is_part_text)))
    (l__law_is_part_text : K.lookup f__law_is_part_text = some ⟨oc__law_is_part_text, od__law_is_part_text, .func (PySem.W.fnOf "_law_is_part_text" "_law_is_part_text" (defArgs S__law_is_part_text) (defBody S__law_is_part_text) (defScope S__law_is_part_text) .none kV__law_is_part_text dc__law_is_part_text pm__law_is_part_text an__law_is_part_text cd__law_is_part_text ct__law_is_part_text), sl__law_is_part_text⟩)
    (q__law_is_part_text : PySem.W.codeIn K cd__law_is_part_text "_law_is_part_text" = true)
    (k__law_is_part_text : PySem.W.keepIn K (.ref f__law_is_part_text) = true)
    (a__law_due : PySem.W.nsIn K mainGlobals "_law_due" = some (some (.ref f__law_due)))
    (l__law_due : K.lookup f__law_due = some ⟨oc__law_due, od__law_due, .func (PySem.W.fnOf "_law_due" "_law_due" (defArgs S__law_due) (defBody S__law_due) (defScope S__law_due) .none kV__law_due dc__law_due pm__law_due an__law_due cd__law_due ct__law_due), sl__law_due⟩)
    (q__law_due : PySem.W.codeIn K cd__law_due "_law_due" = true)
    (k__law_due : PySem.W.keepIn K (.ref f__law_due) = true)
    (a__law_told : PySem.W.nsIn K mainGlobals "_law_told" = some (some (.ref f__law_told)))
    (l__law_told : K.lookup f__law_told = some ⟨oc__law_told, od__law_told, .func (PySem.W.fnOf "_law_told" "_law_told" (defArgs S__law_told) (defBody S__law_told) (defScope S__law_told) .none kV__law_told dc__law_told pm__law_told an__law_told cd__law_told ct__law_told), sl__law_told⟩)
    (q__law_told : PySem.W.codeIn K cd__law_told "_law_told" = true)
    (k__law_told : PySem.W.keepIn K (.ref f__law_told) = true)
    (a__law_bent : PySem.W.nsIn K mainGlobals "_law_bent" = some (some (.ref f__law_bent)))
    (l__law_bent : K.lookup f__law_bent = some ⟨oc__law_bent, od__law_bent, .func (PySem.W.fnOf "_law_bent" "_law_bent" (defArgs S__law_bent) (defBody S__law_bent) (defScope S__law_bent) .none kV__law_bent dc__law_bent pm__law_bent an__law_bent cd__law_bent ct__law_bent), sl__law_bent⟩)
    (q__law_bent : PySem.W.codeIn K cd__law_bent "_law_bent" = true)
    (k__law_bent : PySem.W.keepIn K (.ref f__law_bent) = true)
    (a_law : PySem.W.nsIn K mainGlobals "law" = some (some (.ref f_law)))
    (l_law : K.lookup f_law = some ⟨oc_law, od_law, .func (PySem.W.fnOf "law" "law" (defArgs S_law) (defBody S_law) (defScope S_law) .none kV_law dc_law pm_law an_law cd_law ct_law), sl_law⟩)
    (q_law : PySem.W.codeIn K cd_law "law" = true)
    (k_law : PySem.W.keepIn K (.ref f_law) = true)
    (z_ValueError : PySem.W.nsIn K mainGlobals "ValueError" = some none)
    (z_abs : PySem.W.nsIn K mainGlobals "abs" = some none)
    (z_all : PySem.W.nsIn K mainGlobals "all" = some none)
    (z_bool : PySem.W.nsIn K mainGlobals "bool" = some none)
    (z_dict : PySem.W.nsIn K mainGlobals "dict" = some none)
    (z_enumerate : PySem.W.nsIn K mainGlobals "enumerate" = some none)
    (z_int : PySem.W.nsIn K mainGlobals "int" = some none)
    (z_isinstance : PySem.W.nsIn K mainGlobals "isinstance" = some none)
    (z_len : PySem.W.nsIn K mainGlobals "len" = some none)
    (z_list : PySem.W.nsIn K mainGlobals "list" = some none)
    (z_max : PySem.W.nsIn K mainGlobals "max" = some none)
    (z_range : PySem.W.nsIn K mainGlobals "range" = some none)
    (z_set : PySem.W.nsIn K mainGlobals "set" = some none)
    (z_sorted : PySem.W.nsIn K mainGlobals "sorted" = some none)
    (z_str : PySem.W.nsIn K mainGlobals "str" = some none)
    (z_tuple : PySem.W.nsIn K mainGlobals "tuple" = some none)
    (ea_LockError : PySem.W.nsIn K mainGlobals "LockError" = some (some (.ref c_LockError)))
    (ea_BadText : PySem.W.nsIn K mainGlobals "BadText" = some (some (.ref c_BadText)))
    (es_BadText : PySem.W.subIn K (.ref c_BadText) (.type "BaseException") = some true)
    (et_BadText : PySem.W.typeIn K (.ref c_BadText) = some (.type "type"))
    (eh_BadText : PySem.W.hasDictIn K c_BadText = true)
    (ex_BadText : K.lookup c_BadText = some (excClassObj nm_BadText q_BadText c_BadText N_BadText bs_BadText [.ref cl_BadText, .type "ValueError", .type "Exception", .type "BaseException", .type "object"] true sn_BadText sb_BadText ab_BadText co_BadText dd_BadText m0_BadText m1_BadText m2_BadText m3_BadText m5_BadText "ValueError.__new__"))
    (ew_BadText : PySem.W.findIn K (.ref c_BadText) "__setattr__" = some (some (.builtin "object.__setattr__")))
    (ek_BadText : PySem.W.keepIn K (.ref c_BadText) = true)
    (ei_BadText : PySem.W.findIn K (.ref c_BadText) "__init__" = some (some (.ref fi_BadText)))
    (ej_BadText : PySem.W.typeIn K (.ref fi_BadText) = some (.type "function"))
    (el_BadText : K.lookup fi_BadText = some ⟨oci_BadText, odi_BadText, .func (PySem.W.fnOf "__init__" "BadText.__init__" (defArgs SI_BadText) (defBody SI_BadText) (defScope SI_BadText) .none kVi_BadText dci_BadText pmi_BadText ani_BadText cdi_BadText cti_BadText), sli_BadText⟩)
    (eq_BadText : PySem.W.codeIn K cdi_BadText "BadText.__init__" = true)
    (er_BadText : PySem.W.keepIn K (.ref fi_BadText) = true)
    (en_BadText : PySem.W.findIn K (.ref c_BadText) "index" = some none)
    (eg_BadText : PySem.W.findIn K (.ref c_BadText) "__getattribute__" = some (some (.builtin "BaseException.__getattribute__")))
    (eu_BadText : PySem.W.findIn K (.ref c_BadText) "__getattr__" = some none)
    (ec_BadText : PySem.W.findIn K (.ref c_BadText) "__class__" = some (some (.builtin "object.__class__")))
    (eo_BadText : PySem.W.mroIn K c_BadText (.type "object") = some true)
    (e_sp : PySem.W.specialIn K (.builtin "object.__class__") "__get__" = some (some (.builtin "getset_descriptor.__get__")))
    (e_tk : PySem.W.takesIn K (.builtin "object.__class__") = some true)
    (fb_BadText : PySem.W.subIn K (.ref c_BadText) (.type "BaseException") = some true)
    (fh_BadText : PySem.W.hasDictIn K c_BadText = true)
    (ft_BadText : PySem.W.typeIn K (.ref c_BadText) = some (.type "type"))
    (eb_BadText_BadText : PySem.W.subIn K (.ref c_BadText) (.ref c_BadText) = some true)
    (fb_LockError : PySem.W.subIn K (.ref c_LockError) (.type "BaseException") = some true)
    (fh_LockError : PySem.W.hasDictIn K c_LockError = true)
    (ft_LockError : PySem.W.typeIn K (.ref c_LockError) = some (.type "type"))
    (eb_BadText_LockError : PySem.W.subIn K (.ref c_BadText) (.ref c_LockError) = some true)
    (eb_BadText_ValueError : PySem.W.subIn K (.ref c_BadText) (.type "ValueError") = some true)
    (n_NUMBER_MOST : PySem.W.nsIn K mainGlobals "NUMBER_MOST" = some (some u_NUMBER_MOST))
    (r_NUMBER_MOST : KRep K (.int 1000000) u_NUMBER_MOST)
    (n_NUMBER_DIGITS : PySem.W.nsIn K mainGlobals "NUMBER_DIGITS" = some (some u_NUMBER_DIGITS))
    (r_NUMBER_DIGITS : KRep K (.int 7) u_NUMBER_DIGITS)
    (n_LEAST : PySem.W.nsIn K mainGlobals "LEAST" = some (some u_LEAST))
    (r_LEAST : KRep K (.tup [.int 0, .int 0, .int 0]) u_LEAST)
    (n_EVERY : PySem.W.nsIn K mainGlobals "EVERY" = some (some u_EVERY))
    (r_EVERY : KRep K (.tup [.tup [.tup [.int 0, .int 0, .int 0], .non]]) u_EVERY)
    (n_SIGNS : PySem.W.nsIn K mainGlobals "SIGNS" = some (some u_SIGNS))
    (r_SIGNS : KRep K (.tup [.str "<=", .str ">=", .str "<", .str ">", .str "!", .str "^", .str "~"]) u_SIGNS)
    (g_stretched : K.lookup c_stretched = some ⟨e_stretched, dd_stretched, .fields vs_stretched, ss_stretched⟩)
    (i_stretched : vs_stretched[11]? = some (.ref p_stretched))
    (j_stretched : PySem.W.codeHdIn K c_stretched p_stretched = true)
    (o_stretched : K.lookup p_stretched = none)
    (t_stretched : h.get? p_stretched = some { cls := .none, data := .fields #[] }) :
    LamX.LawAtS l w K (L2.CX l.prog w) 9 63 "script" mg fa h := by
  have e := hfa.symm.trans (PySem.W.mg_of X G a_law)
  cases e
  letI : ErrCtx := ⟨fun m => match m with | 0 => c_LockError | 1 => c_BadText | _ => 0⟩
  have To_BadText : OexC K (errA 1) := ⟨⟨nm_BadText, q_BadText, N_BadText, bs_BadText, _, sn_BadText, sb_BadText, ab_BadText, co_BadText, dd_BadText, m0_BadText, m1_BadText, m2_BadText, m3_BadText, m5_BadText, ex_BadText, rfl⟩, ew_BadText, es_BadText, et_BadText, ek_BadText⟩
  letI : TabCtx := ⟨[(p_stretched, Str.ofString "stretched" ++ ".<locals>." ++ "<lambda>")], []⟩
  have GG : Glob K mg c_stretched := ⟨PySem.W.mg_of X G ea_BadText,
    PySem.W.mg_of X G ea_LockError,
    PySem.W.exm_ref fb_BadText fh_BadText ft_BadText eb_BadText_BadText,
    ⟨⟨eg_BadText, eu_BadText, es_BadText, eh_BadText⟩, ⟨eg_BadText, eu_BadText, es_BadText, eh_BadText, ec_BadText, e_sp, e_tk, eo_BadText⟩⟩,
    en_BadText,
    kit_own fh_LockError ft_LockError eb_BadText_BadText eb_BadText_LockError,
    kit_ve eb_BadText_ValueError,
    def_mk X G a_is_integer l_is_integer q_is_integer k_is_integer (fun _ _ _ _ _ _ us hl => match us, hl with | [_], _ => rfl),
    def_mk X G a_is_number l_is_number q_is_number k_is_number (fun _ _ _ _ _ _ us hl => match us, hl with | [_], _ => rfl),
    def_mk X G a_is_tuple_of l_is_tuple_of q_is_tuple_of k_is_tuple_of (fun _ _ _ _ _ _ us hl => match us, hl with | [_, _], _ => rfl),
    def_mk X G a_is_version l_is_version q_is_version k_is_version (fun _ _ _ _ _ _ us hl => match us, hl with | [_], _ => rfl),
    def_mk X G a_is_stretch l_is_stretch q_is_stretch k_is_stretch (fun _ _ _ _ _ _ us hl => match us, hl with | [_], _ => rfl),
    def_mk X G a_is_range l_is_range q_is_range k_is_range (fun _ _ _ _ _ _ us hl => match us, hl with | [_], _ => rfl),
    def_mk X G a_reaches l_reaches q_reaches k_reaches (fun _ _ _ _ _ _ us hl => match us, hl with | [_, _], _ => rfl),
    def_mk X G a_later_end l_later_end q_later_end k_later_end (fun _ _ _ _ _ _ us hl => match us, hl with | [_, _], _ => rfl),
    defc_mk X G a_stretched l_stretched q_stretched k_stretched (fun _ _ _ _ _ _ us hl => match us, hl with | [_], _ => rfl),
    def_mk X G a_outside l_outside q_outside k_outside (fun _ _ _ _ _ _ us hl => match us, hl with | [_], _ => rfl),
    def_mk X G a_version_behind l_version_behind q_version_behind k_version_behind (fun _ _ _ _ _ _ us hl => match us, hl with | [_], _ => rfl),
    def_mk X G a_told_number l_told_number q_told_number k_told_number (fun _ _ _ _ _ _ us hl => match us, hl with | [_, _], _ => rfl),
    def_mk X G a_told_version l_told_version q_told_version k_told_version (fun _ _ _ _ _ _ us hl => match us, hl with | [_], _ => rfl),
    def_mk X G a_caret_end l_caret_end q_caret_end k_caret_end (fun _ _ _ _ _ _ us hl => match us, hl with | [_], _ => rfl),
    def_mk X G a_range_of_sign l_range_of_sign q_range_of_sign k_range_of_sign (fun _ _ _ _ _ _ us hl => match us, hl with | [_, _], _ => rfl),
    def_mk X G a_sign_of l_sign_of q_sign_of k_sign_of (fun _ _ _ _ _ _ us hl => match us, hl with | [_], _ => rfl),
    def_mk X G a_told_part l_told_part q_told_part k_told_part (fun _ _ _ _ _ _ us hl => match us, hl with | [_], _ => rfl),
    def_mk X G a_read_range l_read_range q_read_range k_read_range (fun _ _ _ _ _ _ us hl => match us, hl with | [_], _ => rfl),
    def_mk X G a__law_hand l__law_hand q__law_hand k__law_hand (fun _ _ _ _ _ _ us hl => match us, hl with | [_], _ => rfl),
    def_mk X G a__law_draw l__law_draw q__law_draw k__law_draw (fun _ _ _ _ _ _ us hl => match us, hl with | [_, _], _ => rfl),
    def_mk X G a__law_some l__law_some q__law_some k__law_some (fun _ _ _ _ _ _ us hl => match us, hl with | [_, _], _ => rfl),
    def_mk X G a__law_is l__law_is q__law_is k__law_is (fun _ _ _ _ _ _ us hl => match us, hl with | [_, _], _ => rfl),
    def_mk X G a__law_deep l__law_deep q__law_deep k__law_deep (fun _ _ _ _ _ _ us hl => match us, hl with | [_], _ => rfl),
    def_mk X G a__law_version l__law_version q__law_version k__law_version (fun _ _ _ _ _ _ us hl => match us, hl with | [_], _ => rfl),
    def_mk X G a__law_behind l__law_behind q__law_behind k__law_behind (fun _ _ _ _ _ _ us hl => match us, hl with | [_], _ => rfl),
    def_mk X G a__law_has l__law_has q__law_has k__law_has (fun _ _ _ _ _ _ us hl => match us, hl with | [_, _], _ => rfl),
    def_mk X G a__law_marks l__law_marks q__law_marks k__law_marks (fun _ _ _ _ _ _ us hl => match us, hl with | [_], _ => rfl),
    def_mk X G a__law_made l__law_made q__law_made k__law_made (fun _ _ _ _ _ _ us hl => match us, hl with | [_, _], _ => rfl),
    def_mk X G a__law_outside l__law_outside q__law_outside k__law_outside (fun _ _ _ _ _ _ us hl => match us, hl with | [_], _ => rfl),
    def_mk X G a__law_version_text l__law_version_text q__law_version_text k__law_version_text (fun _ _ _ _ _ _ us hl => match us, hl with | [_], _ => rfl),
    def_mk X G a__law_part_text l__law_part_text q__law_part_text k__law_part_text (fun _ _ _ _ _ _ us hl => match us, hl with | [_, _], _ => rfl),
    def_mk X G a__law_part l__law_part q__law_part k__law_part (fun _ _ _ _ _ _ us hl => match us, hl with | [_, _], _ => rfl),
    def_mk X G a__law_words l__law_words q__law_words k__law_words (fun _ _ _ _ _ _ us hl => match us, hl with | [_], _ => rfl),
    def_mk X G a__law_read_number l__law_read_number q__law_read_number k__law_read_number (fun _ _ _ _ _ _ us hl => match us, hl with | [_], _ => rfl),
    def_mk X G a__law_is_part_text l__law_is_part_text q__law_is_part_text k__law_is_part_text (fun _ _ _ _ _ _ us hl => match us, hl with | [_], _ => rfl),
    def_mk X G a__law_due l__law_due q__law_due k__law_due (fun _ _ _ _ _ _ us hl => match us, hl with | [_], _ => rfl),
    def_mk X G a__law_told l__law_told q__law_told k__law_told (fun _ _ _ _ _ _ us hl => match us, hl with | [_], _ => rfl),
    def_mk X G a__law_bent l__law_bent q__law_bent k__law_bent (fun _ _ _ _ _ _ us hl => match us, hl with | [_, _], _ => rfl),
    def_mk X G a_law l_law q_law k_law (fun _ _ _ _ _ _ us hl => match us, hl with | [_], _ => rfl),
    PySem.W.mg_none_of X G z_ValueError,
    PySem.W.mg_none_of X G z_abs,
    PySem.W.mg_none_of X G z_all,
    PySem.W.mg_none_of X G z_bool,
    PySem.W.mg_none_of X G z_dict,
    PySem.W.mg_none_of X G z_enumerate,
    PySem.W.mg_none_of X G z_int,
    PySem.W.mg_none_of X G z_isinstance,
    PySem.W.mg_none_of X G z_len,
    PySem.W.mg_none_of X G z_list,
    PySem.W.mg_none_of X G z_max,
    PySem.W.mg_none_of X G z_range,
    PySem.W.mg_none_of X G z_set,
    PySem.W.mg_none_of X G z_sorted,
    PySem.W.mg_none_of X G z_str,
    PySem.W.mg_none_of X G z_tuple,
    Cst.of (PySem.W.mg_of X G n_NUMBER_MOST) r_NUMBER_MOST,
    Cst.of (PySem.W.mg_of X G n_NUMBER_DIGITS) r_NUMBER_DIGITS,
    Cst.of (PySem.W.mg_of X G n_LEAST) r_LEAST,
    Cst.of (PySem.W.mg_of X G n_EVERY) r_EVERY,
    Cst.of (PySem.W.mg_of X G n_SIGNS) r_SIGNS⟩
  have FL := fun_mk (st := S_law) l_law q_law k_law
  refine law_at (fd := PySem.W.fnOf "law" "law" (defArgs S_law) (defBody S_law) (defScope S_law) .none kV_law dc_law pm_law an_law cd_law ct_law) [(p_stretched, Str.ofString "stretched" ++ ".<locals>." ++ "<lambda>")] [(c_stretched, p_stretched)] (fun p hp => by rw [List.mem_singleton.mp hp]; simp) (fun p hp => by rw [List.mem_singleton.mp hp]; exact t_stretched) (fun p hp => by rw [List.mem_singleton.mp hp]; exact o_stretched) (fun p hp => by rw [List.mem_singleton.mp hp]; exact PySem.W.codeHd_of_K X j_stretched) (fun s u => .of_eq rfl) fun base _ _ TT => ?_
  have E_BadText : Er1 l.prog w K mg base 1 "BadText" "index" := ⟨PySem.W.mg_of X G ea_BadText, To_BadText, fi_BadText, _, ei_BadText, ej_BadText, init1_ok (fun_mk (st := SI_BadText) el_BadText eq_BadText er_BadText) sci_BadText rfl To_BadText en_BadText (by decide) (by decide) (by first | exact Or.inl rfl | exact Or.inr (Or.inl rfl) | exact Or.inr (Or.inr rfl)) (by first | exact Or.inl rfl | exact Or.inr (Or.inl rfl) | exact Or.inr (Or.inr rfl)) (fun _ => rfl), (fun_mk (st := SI_BadText) el_BadText eq_BadText er_BadText).binds fun _ _ _ _ _ _ us hl => match us, hl with | [_, _], _ => rfl⟩
  have H_is_integer := h_is_integer (P := l.prog) (w := w) (base := base) (k := 0) GG CM.r_is_integer
  have H_is_number := h_is_number (P := l.prog) (w := w) (base := base) (k := 1) GG (H_is_integer.mono (by decide)) CM.r_is_number
  have H_is_tuple_of := h_is_tuple_of (P := l.prog) (w := w) (base := base) (k := 0) GG CM.r_is_tuple_of
  have H_is_version := h_is_version (P := l.prog) (w := w) (base := base) (k := 2) GG (H_is_number.mono (by decide)) (H_is_tuple_of.mono (by decide)) CM.r_is_version
  have H_is_stretch := h_is_stretch (P := l.prog) (w := w) (base := base) (k := 3) GG (H_is_tuple_of.mono (by decide)) (H_is_version.mono (by decide)) CM.r_is_stretch
  have H_reaches := h_reaches (P := l.prog) (w := w) (base := base) (k := 0) GG CM.r_reaches
  have H_is_range := h_is_range (P := l.prog) (w := w) (base := base) (k := 4) GG (H_is_stretch.mono (by decide)) (H_reaches.mono (by decide)) CM.r_is_range
  have H_later_end := h_later_end (P := l.prog) (w := w) (base := base) (k := 0) GG CM.r_later_end
  have H_stretched := h_stretched (P := l.prog) (w := w) (base := base) (k := 1) GG (H_reaches.mono (by decide)) (H_later_end.mono (by decide)) (TT _ (List.mem_singleton.mpr rfl)) (List.mem_singleton.mpr rfl) (fun p hp _ => by rw [List.mem_singleton.mp hp]) CM.r_stretched
  have H_outside := h_outside (P := l.prog) (w := w) (base := base) (k := 0) GG CM.r_outside
  have H_outsideY := h_outside (P := l.prog) (w := w) (base := base) (k := 0) GG CM.r_outY
  have H_version_behind := h_version_behind (P := l.prog) (w := w) (base := base) (k := 0) GG CM.r_version_behind
  have H_told_number := h_told_number (P := l.prog) (w := w) (base := base) (k := 0) GG CM.r_told_number
  have H_told_version := h_told_version (P := l.prog) (w := w) (base := base) (k := 3) GG (H_is_version.mono (by decide)) (H_told_number.mono (by decide)) CM.r_told_version
  have H_caret_end := h_caret_end (P := l.prog) (w := w) (base := base) (k := 0) GG CM.r_caret_end
  have H_range_of_sign := h_range_of_sign (P := l.prog) (w := w) (base := base) (k := 1) GG (H_outsideY.mono (by decide)) (H_version_behind.mono (by decide)) (H_caret_end.mono (by decide)) CM.r_range_of_sign
  have H_sign_of := h_sign_of (P := l.prog) (w := w) (base := base) (k := 0) GG CM.r_sign_of
  have H_told_part := h_told_part (P := l.prog) (w := w) (base := base) (k := 5) GG (H_is_range.mono (by decide)) (H_told_version.mono (by decide)) (H_range_of_sign.mono (by decide)) (H_sign_of.mono (by decide)) CM.r_told_part
  have H_read_range := h_read_range (P := l.prog) (w := w) (base := base) (k := 6) GG (H_stretched.mono (by decide)) (H_outside.mono (by decide)) (H_told_part.mono (by decide)) E_BadText (by decide) CM.r_read_range
  have H__law_hand := h__law_hand (P := l.prog) (w := w) (base := base) (k := 0) GG CM.r__law_hand
  have H__law_draw := h__law_draw (P := l.prog) (w := w) (base := base) (k := 0) GG CM.r__law_draw
  have H__law_some := h__law_some (P := l.prog) (w := w) (base := base) (k := 1) GG (H__law_draw.mono (by decide)) CM.r__law_some
  have R__law_is : ∀ n, Has l.prog w K mg base (n + 1) "_law_is" 2 (CM.sp_is n) := fun n => by
    induction n with
    | zero => exact h__law_is (k := 0) GG (has_none GG.d__law_is) (CM.r__law_is fun m e => (nomatch e))
    | succ n ih => exact h__law_is (k := n + 1) GG ih (CM.r__law_is fun m e ds st Q Z q => by cases e; exact q)
  have H__law_is := R__law_is 4
  have H__law_deep := h__law_deep (P := l.prog) (w := w) (base := base) (k := 0) GG CM.r__law_deepS
  have H__law_version := h__law_version (P := l.prog) (w := w) (base := base) (k := 2) GG (H__law_draw.mono (by decide)) (H__law_some.mono (by decide)) CM.r__law_version
  have H__law_behind := h__law_behind (P := l.prog) (w := w) (base := base) (k := 0) GG CM.r__law_behind
  have H__law_has := h__law_has (P := l.prog) (w := w) (base := base) (k := 0) GG CM.r__law_has
  have H__law_marks := h__law_marks (P := l.prog) (w := w) (base := base) (k := 0) GG CM.r__law_marks
  have H__law_made := h__law_made (P := l.prog) (w := w) (base := base) (k := 0) GG CM.r__law_made
  have H__law_outside := h__law_outside (P := l.prog) (w := w) (base := base) (k := 1) GG (H__law_has.mono (by decide)) (H__law_marks.mono (by decide)) (H__law_made.mono (by decide)) CM.r__law_outside
  have H__law_version_text := h__law_version_text (P := l.prog) (w := w) (base := base) (k := 0) GG CM.r__law_version_text
  have H__law_part_text := h__law_part_text (P := l.prog) (w := w) (base := base) (k := 1) GG (H__law_version_text.mono (by decide)) CM.r__law_part_text
  have H__law_part := h__law_part (P := l.prog) (w := w) (base := base) (k := 2) GG (H__law_behind.mono (by decide)) (H__law_outside.mono (by decide)) CM.r__law_part
  have H__law_words := h__law_words (P := l.prog) (w := w) (base := base) (k := 3) GG (H__law_some.mono (by decide)) (H__law_version.mono (by decide)) CM.r__law_words
  have H__law_read_number := h__law_read_number (P := l.prog) (w := w) (base := base) (k := 0) GG CM.r__law_read_number
  have H__law_is_part_text := h__law_is_part_text (P := l.prog) (w := w) (base := base) (k := 3) GG (H__law_part.mono (by decide)) (H__law_read_number.mono (by decide)) CM.r__law_is_part_text
  have H__law_due := h__law_due (P := l.prog) (w := w) (base := base) (k := 4) GG (H__law_is_part_text.mono (by decide)) CM.r__law_due
  have H__law_told := h__law_told (P := l.prog) (w := w) (base := base) (k := 7) GG (H_read_range.mono (by decide)) CM.r__law_told
  have H__law_bent := h__law_bent (P := l.prog) (w := w) (base := base) (k := 2) GG (H__law_draw.mono (by decide)) (H__law_some.mono (by decide)) CM.r__law_bent
  exact h_law (k := 8) GG FL (H__law_hand.mono (by decide)) (H__law_draw.mono (by decide)) (H__law_some.mono (by decide)) (H__law_is.mono (by decide)) (H__law_deep.mono (by decide)) (H__law_part_text.mono (by decide)) (H__law_words.mono (by decide)) (H__law_due.mono (by decide)) (H__law_told.mono (by decide)) (H__law_bent.mono (by decide)) CM.r_law_k03
theorem walk {l : PySem.W.OpenLaw} {q : Program} {loose : List Str} {XP : (Str → Option Value) → Heap → Prop} {YP : World → Heap → Prop} {d : DefRec} {K : Params → PySem.W.Frag} (hn : l.most = some 63) (hdf : d.params.defaults = []) (hY : ∀ (w : World) (h : Heap), YP w h → (K w.params).In h)
    (F : ∀ (w : World) (mg : Str → Option Value) (fa : Addr) (h : Heap), YP w h → (K w.params).In h → h.Ns mainGlobals mg → mg d.name = some (.ref fa) → LamX.LawAtS l w (K w.params) (L2.CX l.prog w) 9 63 "script" mg fa h) :
    PySem.W.WalkO q loose XP YP l.row.toRowW d [] (fun f vs => PySem.call f vs) :=
  LamX.walk_ofTs (n := 63) (k := 9) (x := "script") (CX := fun w => L2.CX l.prog w) hn (by decide) hdf ⟨rfl, by decide, by decide⟩ hY F fun _ _ _ _ _ z => DL.cx_false z
end Lk03
open PySem PySem.W PyProof.Rows
set_option maxRecDepth 100000 in
set_option maxHeartbeats 0 in
theorem PySem.Challenge.cw_lockwright_k03_first_wrong_parts_of_rang_holds : PySem.Challenge.rw_lockwright_k03_first_wrong_parts_of_rang.Holds := by
  w_on; o_law; k_head; (case hw => w_witness2)
  k_fill
  refine Lk03.walk (l := PySem.Challenge.rw_lockwright_k03_first_wrong_parts_of_rang) rfl rfl (fun w h Y => PySem.W.km_in_of Y) ?F
  case F =>
    intro w mg fa h Y KX G hmg
    have hT := PySem.W.km_tabs_of Y
    refine' Lk03.all_mk KX G hmg ?a_is_integer ?l_is_integer ?q_is_integer ?k_is_integer ?a_is_number ?l_is_number ?q_is_number ?k_is_number ?a_is_tuple_of ?l_is_tuple_of ?q_is_tuple_of ?k_is_tuple_of ?a_is_version ?l_is_version ?q_is_version ?k_is_version ?a_is_stretch ?l_is_stretch ?q_is_stretch ?k_is_stretch ?a_is_range ?l_is_range ?q_is_range ?k_is_range ?a_reaches ?l_reaches ?q_reaches ?k_reaches ?a_later_end ?l_later_end ?q_later_end ?k_later_end ?a_stretched ?l_stretched ?q_stretched ?k_stretched ?a_outside ?l_outside ?q_outside ?k_outside ?a_version_behind ?l_version_behind ?q_version_behind ?k_version_behind ?a_told_number ?l_told_number ?q_told_number ?k_told_number ?a_told_version ?l_told_version ?q_told_version ?k_told_version ?a_caret_end ?l_caret_end ?q_caret_end ?k_caret_end ?a_range_of_sign ?l_range_of_sign ?q_range_of_sign ?k_range_of_sign ?a_sign_of ?l_sign_of ?q_sign_of ?k_sign_of ?a_told_part ?l_told_part ?q_told_part ?k_told_part ?a_read_range ?l_read_range ?q_read_range ?k_read_range ?a__law_hand ?l__law_hand ?q__law_hand ?k__law_hand ?a__law_draw ?l__law_draw ?q__law_draw ?k__law_draw ?a__law_some ?l__law_some ?q__law_some ?k__law_some ?a__law_is ?l__law_is ?q__law_is ?k__law_is ?a__law_deep ?l__law_deep ?q__law_deep ?k__law_deep ?a__law_version ?l__law_version ?q__law_version ?k__law_version ?a__law_behind ?l__law_behind ?q__law_behind ?k__law_behind ?a__law_has ?l__law_has ?q__law_has ?k__law_has ?a__law_marks ?l__law_marks ?q__law_marks ?k__law_marks ?a__law_made ?l__law_made ?q__law_made ?k__law_made ?a__law_outside ?l__law_outside ?q__law_outside ?k__law_outside ?a__law_version_text ?l__law_version_text ?q__law_version_text ?k__law_version_text ?a__law_part_text ?l__law_part_text ?q__law_part_text ?k__law_part_text ?a__law_part ?l__law_part ?q__law_part ?k__law_part ?a__law_words ?l__law_words ?q__law_words ?k__law_words ?a__law_read_number ?l__law_read_number ?q__law_read_number ?k__law_read_number ?a__law_is_part_text ?l__law_is_part_text ?q__law_is_part_text ?k__law_is_part_text ?a__law_due ?l__law_due ?q__law_due ?k__law_due ?a__law_told ?l__law_told ?q__law_told ?k__law_told ?a__law_bent ?l__law_bent ?q__law_bent ?k__law_bent ?a_law ?l_law ?q_law ?k_law ?z_ValueError ?z_abs ?z_all ?z_bool ?z_dict ?z_enumerate ?z_int ?z_isinstance ?z_len ?z_list ?z_max ?z_range ?z_set ?z_sorted ?z_str ?z_tuple ?ea_LockError ?ea_BadText ?es_BadText ?et_BadText ?eh_BadText ?ex_BadText ?ew_BadText ?ek_BadText ?ei_BadText ?ej_BadText ?el_BadText ?eq_BadText ?er_BadText ?en_BadText ?eg_BadText ?eu_BadText ?ec_BadText ?eo_BadText ?e_sp ?e_tk ?fb_BadText ?fh_BadText ?ft_BadText ?eb_BadText_BadText ?fb_LockError ?fh_LockError ?ft_LockError ?eb_BadText_LockError ?eb_BadText_ValueError ?n_NUMBER_MOST ?r_NUMBER_MOST ?n_NUMBER_DIGITS ?r_NUMBER_DIGITS ?n_LEAST ?r_LEAST ?n_EVERY ?r_EVERY ?n_SIGNS ?r_SIGNS ?g_stretched ?i_stretched ?j_stretched ?o_stretched ?t_stretched
    (case a_is_integer => k_is)
    (case l_is_integer => k_is)
    (case q_is_integer => k_is)
    (case k_is_integer => k_is)
    (case a_is_number => k_is)
    (case l_is_number => k_is)
    (case q_is_number => k_is)
    (case k_is_number => k_is)
    (case a_is_tuple_of => k_is)
    (case l_is_tuple_of => k_is)
    (case q_is_tuple_of => k_is)
    (case k_is_tuple_of => k_is)
    (case a_is_version => k_is)
    (case l_is_version => k_is)
    (case q_is_version => k_is)
    (case k_is_version => k_is)
    (case a_is_stretch => k_is)
    (case l_is_stretch => k_is)
    (case q_is_stretch => k_is)
    (case k_is_stretch => k_is)
    (case a_is_range => k_is)
    (case l_is_range => k_is)
    (case q_is_range => k_is)
    (case k_is_range => k_is)
    (case a_reaches => k_is)
    (case l_reaches => k_is)
    (case q_reaches => k_is)
    (case k_reaches => k_is)
    (case a_later_end => k_is)
    (case l_later_end => k_is)
    (case q_later_end => k_is)
    (case k_later_end => k_is)
    (case a_stretched => k_is)
    (case l_stretched => k_is)
    (case q_stretched => k_is)
    (case k_stretched => k_is)
    (case a_outside => k_is)
    (case l_outside => k_is)
    (case q_outside => k_is)
    (case k_outside => k_is)
    (case a_version_behind => k_is)
    (case l_version_behind => k_is)
    (case q_version_behind => k_is)
    (case k_version_behind => k_is)
    (case a_told_number => k_is)
    (case l_told_number => k_is)
    (case q_told_number => k_is)
    (case k_told_number => k_is)
    (case a_told_version => k_is)
    (case l_told_version => k_is)
    (case q_told_version => k_is)
    (case k_told_version => k_is)
    (case a_caret_end => k_is)
    (case l_caret_end => k_is)
    (case q_caret_end => k_is)
    (case k_caret_end => k_is)
    (case a_range_of_sign => k_is)
    (case l_range_of_sign => k_is)
    (case q_range_of_sign => k_is)
    (case k_range_of_sign => k_is)
    (case a_sign_of => k_is)
    (case l_sign_of => k_is)
    (case q_sign_of => k_is)
    (case k_sign_of => k_is)
    (case a_told_part => k_is)
    (case l_told_part => k_is)
    (case q_told_part => k_is)
    (case k_told_part => k_is)
    (case a_read_range => k_is)
    (case l_read_range => k_is)
    (case q_read_range => k_is)
    (case k_read_range => k_is)
    (case a__law_hand => k_is)
    (case l__law_hand => k_is)
    (case q__law_hand => k_is)
    (case k__law_hand => k_is)
    (case a__law_draw => k_is)
    (case l__law_draw => k_is)
    (case q__law_draw => k_is)
    (case k__law_draw => k_is)
    (case a__law_some => k_is)
    (case l__law_some => k_is)
    (case q__law_some => k_is)
    (case k__law_some => k_is)
    (case a__law_is => k_is)
    (case l__law_is => k_is)
    (case q__law_is => k_is)
    (case k__law_is => k_is)
    (case a__law_deep => k_is)
    (case l__law_deep => k_is)
    (case q__law_deep => k_is)
    (case k__law_deep => k_is)
    (case a__law_version => k_is)
    (case l__law_version => k_is)
    (case q__law_version => k_is)
    (case k__law_version => k_is)
    (case a__law_behind => k_is)
    (case l__law_behind => k_is)
    (case q__law_behind => k_is)
    (case k__law_behind => k_is)
    (case a__law_has => k_is)
    (case l__law_has => k_is)
    (case q__law_has => k_is)
    (case k__law_has => k_is)
    (case a__law_marks => k_is)
    (case l__law_marks => k_is)
    (case q__law_marks => k_is)
    (case k__law_marks => k_is)
    (case a__law_made => k_is)
    (case l__law_made => k_is)
    (case q__law_made => k_is)
    (case k__law_made => k_is)
    (case a__law_outside => k_is)
    (case l__law_outside => k_is)
    (case q__law_outside => k_is)
    (case k__law_outside => k_is)
    (case a__law_version_text => k_is)
    (case l__law_version_text => k_is)
    (case q__law_version_text => k_is)
    (case k__law_version_text => k_is)
    (case a__law_part_text => k_is)
    (case l__law_part_text => k_is)
    (case q__law_part_text => k_is)
    (case k__law_part_text => k_is)
    (case a__law_part => k_is)
    (case l__law_part => k_is)
    (case q__law_part => k_is)
    (case k__law_part => k_is)
    (case a__law_words => k_is)
    (case l__law_words => k_is)
    (case q__law_words => k_is)
    (case k__law_words => k_is)
    (case a__law_read_number => k_is)
    (case l__law_read_number => k_is)
    (case q__law_read_number => k_is)
    (case k__law_read_number => k_is)
    (case a__law_is_part_text => k_is)
    (case l__law_is_part_text => k_is)
    (case q__law_is_part_text => k_is)
    (case k__law_is_part_text => k_is)
    (case a__law_due => k_is)
    (case l__law_due => k_is)
    (case q__law_due => k_is)
    (case k__law_due => k_is)
    (case a__law_told => k_is)
    (case l__law_told => k_is)
    (case q__law_told => k_is)
    (case k__law_told => k_is)
    (case a__law_bent => k_is)
    (case l__law_bent => k_is)
    (case q__law_bent => k_is)
    (case k__law_bent => k_is)
    (case a_law => k_is)
    (case l_law => k_is)
    (case q_law => k_is)
    (case k_law => k_is)
    (case z_ValueError => k_is)
    (case z_abs => k_is)
    (case z_all => k_is)
    (case z_bool => k_is)
    (case z_dict => k_is)
    (case z_enumerate => k_is)
    (case z_int => k_is)
    (case z_isinstance => k_is)
    (case z_len => k_is)
    (case z_list => k_is)
    (case z_max => k_is)
    (case z_range => k_is)
    (case z_set => k_is)
    (case z_sorted => k_is)
    (case z_str => k_is)
    (case z_tuple => k_is)
    (case n_NUMBER_MOST => k_is)
    (case n_NUMBER_DIGITS => k_is)
    (case n_LEAST => k_is)
    (case n_EVERY => k_is)
    (case n_SIGNS => k_is)
    (case ea_LockError => k_is)
    (case ea_BadText => k_is)
    (case es_BadText => k_is)
    (case et_BadText => k_is)
    (case eh_BadText => k_is)
    (case ex_BadText => k_is)
    (case ew_BadText => k_is)
    (case ek_BadText => k_is)
    (case ei_BadText => k_is)
    (case ej_BadText => k_is)
    (case el_BadText => k_is)
    (case eq_BadText => k_is)
    (case er_BadText => k_is)
    (case en_BadText => k_is)
    (case eg_BadText => k_is)
    (case eu_BadText => k_is)
    (case ec_BadText => k_is)
    (case eo_BadText => k_is)
    (case e_sp => k_is)
    (case e_tk => k_is)
    (case fb_BadText => k_is)
    (case fh_BadText => k_is)
    (case ft_BadText => k_is)
    (case eb_BadText_BadText => k_is)
    (case fb_LockError => k_is)
    (case fh_LockError => k_is)
    (case ft_LockError => k_is)
    (case eb_BadText_LockError => k_is)
    (case eb_BadText_ValueError => k_is)
    (case r_NUMBER_MOST => (letI : DL.TabCtx := ⟨[], []⟩; exact ⟨_, rfl⟩))
    (case r_NUMBER_DIGITS => (letI : DL.TabCtx := ⟨[], []⟩; exact ⟨_, rfl⟩))
    (case r_LEAST => (letI : DL.TabCtx := ⟨[], []⟩; exact (DL.KRep.mkTup (by k_is) (by decide) ⟨_, _, rfl, ⟨_, rfl⟩, ⟨_, _, rfl, ⟨_, rfl⟩, ⟨_, _, rfl, ⟨_, rfl⟩, rfl⟩⟩⟩)))
    (case r_EVERY => (letI : DL.TabCtx := ⟨[], []⟩; exact (DL.KRep.mkTup (by k_is) (by decide) ⟨_, _, rfl, (DL.KRep.mkTup (by k_is) (by decide) ⟨_, _, rfl, (DL.KRep.mkTup (by k_is) (by decide) ⟨_, _, rfl, ⟨_, rfl⟩, ⟨_, _, rfl, ⟨_, rfl⟩, ⟨_, _, rfl, ⟨_, rfl⟩, rfl⟩⟩⟩), ⟨_, _, rfl, rfl, rfl⟩⟩), rfl⟩)))
    (case r_SIGNS => (letI : DL.TabCtx := ⟨[], []⟩; exact (DL.KRep.mkTup (by k_is) (by decide) ⟨_, _, rfl, ⟨_, rfl⟩, ⟨_, _, rfl, ⟨_, rfl⟩, ⟨_, _, rfl, ⟨_, rfl⟩, ⟨_, _, rfl, ⟨_, rfl⟩, ⟨_, _, rfl, ⟨_, rfl⟩, ⟨_, _, rfl, ⟨_, rfl⟩, ⟨_, _, rfl, ⟨_, rfl⟩, rfl⟩⟩⟩⟩⟩⟩⟩)))
    (case g_stretched => k_is)
    (case i_stretched => rfl)
    (case j_stretched => kernel_rfl)
    (case o_stretched => kernel_rfl)
    (case t_stretched => exact hT _ (by simp))
