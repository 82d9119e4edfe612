import PyProof.Rows.All
import Wide.All
import OpenK.AllK
import Wide.FinOn
import HandS.ForMost
import HandS.AnyAll
import HandS.Lambda
import HandS.Codes
import HandS.IsInst
import HandS.SortInts
import HandS.Zip
import HandS.TupAny
import HandS.Conv
import HandS.Defaults
import HandS.HeadHook4
import HandS.EndTab
import HandS.HeadWalk
import HandS.Exc
import HandS.ExcOwn
import HandS.WordsExc
import HandS.TryOnly
import HandS.Iter
import KE.GoesEnum
import PyProof.EnumMake
import HandS.ExcIs
import HandS.TupMul
import PyProof.MinMaxWalk
import PyProof.WalksMore
import HandS.FltList
import HandS.Style
import HandS.Rev
import KE.KRevSl
import PyProof.EqKinds
import HandS.Deep
import HandS.SetFor
import KE.GoesSet
import HandS.Strs
import HandS.RepeatKit
import HandS.Zip0
import PyProof.GenCompT
import PyProof.P3In
import PyProof.Rows.InDataRows
import HandS.Text
import HandS.DictComp
import HandS.Small
import KE.SortKeyHeap
import HandS.SortKw
import HandS.ExcInit
import KE.KExcSuper
import HandS.ExcField
import HandS.CallSlots
import KE.KStateDown
import HandS.More
import HandS.Words
import HandS.Head0
import HandS.Head1
import HandS.Head2
import HandS.Head3
import HandS.HeadEnd
import HandS.HeadHook1
import HandS.HeadHook2
import HandS.HeadHook3
import PySem.Challenge.RW_fretways_k12_refused_in_order
set_option Elab.async false
set_option linter.all false
set_option maxRecDepth 100000
set_option maxHeartbeats 4000000
/-! FW0: data instead of heaps. A value stands for a datum (PyData); what does not change stands in a frozen part F of the heap; a reading of the layer becomes a predicate over data. -/
namespace FW
open PySem PySem.Spec PyProof.Rows L2
abbrev D := PyData
theorem same_t {K : PySem.W.Frag} {F H : Hp} {a : Addr} {xs : List V} (e : Same F H) (h : SqT K F a xs) : SqT K H a xs := by
  rcases h with (h | ⟨o, h⟩) | h
  · exact .inl (.inl (e _ _ h))
  · exact .inl (.inr ⟨o, e _ _ h⟩)
  · exact .inr h
/-- a dict of texts and numbers -/
def dicV (m : List (Str × Int)) : List (Key × V) := m.map fun p => (Sum.inr p.1, V.int p.2)
def dicD (m : List (Str × Int)) : List (D × D) := m.map fun p => (.str p.1, .int p.2)
theorem dicV_ne {m : List (Str × Int)} (h : m ≠ []) : (!(dicV m).isEmpty) = true := by
  cases m with
  | nil => exact absurd rfl h
  | cons p m => rfl
theorem dicD_ne {m : List (Str × Int)} {kvs : List (D × D)} (h : m ≠ []) (e : kvs = dicD m) : kvs ≠ [] := fun z => by
  rw [z] at e
  exact h (List.map_eq_nil_iff.mp e.symm)
/-! ### data: as the layer's Dp, but a list stands in the frozen part itself -/
mutual
inductive Rp (K : PySem.W.Frag) (F : Hp) : V → D → Prop
  | non : Rp K F .non .none
  | bl (b : Bool) : Rp K F (.bl b) (.bool b)
  | int (i : Int) : Rp K F (.int i) (.int i)
  | str (x : Str) : Rp K F (.str x) (.str x)
  | lst {a : Addr} {xs : List V} {ds : List D} : F a = some (.lst xs) → RpAll K F xs ds → Rp K F (.ref a) (.list ds)
  | tup {a : Addr} {xs : List V} {ds : List D} : SqT K F a xs → RpAll K F xs ds → Rp K F (.ref a) (.tuple ds)
  | dic {a : Addr} {m : List (Str × Int)} {kvs : List (D × D)} : m ≠ [] → kvs = dicD m → F a = some (.dK (dicV m)) → Rp K F (.ref a) (.dict kvs)
inductive RpAll (K : PySem.W.Frag) (F : Hp) : List V → List D → Prop
  | nil : RpAll K F [] []
  | cons {v : V} {vs : List V} {d : D} {ds : List D} : Rp K F v d → RpAll K F vs ds → RpAll K F (v :: vs) (d :: ds)
end
mutual
theorem dp_same {K : PySem.W.Frag} {F H : Hp} (e : Same F H) : ∀ (d : D) (v : V), Rp K F v d → Rp K H v d
  | .none, _, h => by cases h; exact .non
  | .bool b, _, h => by cases h; exact .bl b
  | .int i, _, h => by cases h; exact .int i
  | .str x, _, h => by cases h; exact .str x
  | .list ds, _, h => by
    cases h with
    | lst hs ha => exact .lst (e _ _ hs) (dpAll_same e ds _ ha)
  | .tuple ds, _, h => by
    cases h with
    | tup hs ha => exact .tup (same_t e hs) (dpAll_same e ds _ ha)
  | .dict _, _, h => by
    cases h with
    | dic h0 h1 h2 => exact .dic h0 h1 (e _ _ h2)
theorem dpAll_same {K : PySem.W.Frag} {F H : Hp} (e : Same F H) : ∀ (ds : List D) (vs : List V), RpAll K F vs ds → RpAll K H vs ds
  | [], _, h => by cases h; exact .nil
  | d :: ds, _, h => by
    cases h with
    | cons h1 h2 => exact .cons (dp_same e d _ h1) (dpAll_same e ds _ h2)
end
mutual
theorem rp_dp {K : PySem.W.Frag} {F : Hp} : ∀ (d : D) (v : V), PyData.canLay0 d = true → Rp K F v d → Dp K F v d
  | .none, _, _, h => by cases h; exact .non
  | .bool b, _, _, h => by cases h; exact .bl b
  | .int i, _, _, h => by cases h; exact .int i
  | .str x, _, _, h => by cases h; exact .str x
  | .list ds, _, l, h => by
    cases h with
    | lst hs ha => exact .lst (SqL.of hs) (rpAll_dp ds _ (by simpa only [PyData.canLay0] using l) ha)
  | .tuple ds, _, l, h => by
    cases h with
    | tup hs ha => exact .tup hs (rpAll_dp ds _ (by simpa only [PyData.canLay0] using l) ha)
  | .dict _, _, l, _ => by simp only [PyData.canLay0] at l; cases l
theorem rpAll_dp {K : PySem.W.Frag} {F : Hp} : ∀ (ds : List D) (vs : List V), PyData.canLayAll0 ds = true → RpAll K F vs ds → DpAll K F vs ds
  | [], _, _, h => by cases h; exact .nil
  | d :: ds, _, l, h => by
    simp only [PyData.canLayAll0, Bool.and_eq_true] at l
    cases h with
    | cons h1 h2 => exact .cons (rp_dp d _ l.1 h1) (rpAll_dp ds _ l.2 h2)
end
/-! ### what stands around: the row of draws, the tables of code objects -/
structure Glb where
  K : PySem.W.Frag
  Ps : List Addr
  cls : Str → Addr
  /-- the tables of lambdas among them: whose names they tell -/
  Ls : List (Addr × Str) := []
structure Amb where
  g : Glb
  r : Addr
  a : Addr
  ns : List Int
abbrev Amb.K (c : Amb) : PySem.W.Frag := c.g.K
abbrev Amb.Ps (c : Amb) : List Addr := c.g.Ps
def RowOk (c : Amb) (H : Hp) : Prop := ∃ i x k : Int, H c.r = some (.lst [.ref c.a, .int i, .int x, .int k]) ∧ 0 ≤ i ∧ 0 ≤ x ∧ x < 2147483647 ∧ SqL c.K H c.a (c.ns.map V.int)
/-- a table of code objects; where lambdas are made: whose name each one bears -/
def TabL (c : Amb) (H : Hp) (P : Addr) : Prop := ∃ ps : Array Value, H P = some (.tbl ps) ∧ TriplesOk ps.toList ∧ ∀ q, (P, q) ∈ c.g.Ls → ∀ (pos : Pos) (cv : Value), codeAmong pos ps.toList = some cv → ∃ (d : Addr) (oc : Obj) (vs : Array Value) (t : Tok) (u : HO), cv = .ref d ∧ H d = some (.frz oc u) ∧ oc.data = .fields vs ∧ vs[1]? = some (.str q t)
theorem TabL.g {c : Amb} {H : Hp} {P : Addr} (h : TabL c H P) : GxR.TabG H P := let ⟨ps, e, t, _⟩ := h; ⟨ps, e, t⟩
theorem TabL.keep' {c : Amb} {H H' : Hp} {P : Addr} (h : TabL c H P) (kP : H' P = H P) (k : ∀ b o u, H b = some (.frz o u) → H' b = some (.frz o u)) : TabL c H' P := by
  obtain ⟨ps, e, t, n⟩ := h
  refine ⟨ps, kP.trans e, t, fun q hq pos cv hc => ?_⟩
  obtain ⟨d, oc, vs, tk, u, e1, e2, e3⟩ := n q hq pos cv hc
  exact ⟨d, oc, vs, tk, u, e1, k _ _ _ e2, e3⟩
theorem TabL.keep {c : Amb} {H H' : Hp} {P : Addr} (h : TabL c H P) (k : ∀ b o, H b = some o → H' b = some o) : TabL c H' P := by
  obtain ⟨ps, e, t, n⟩ := h
  exact TabL.keep' ⟨ps, e, t, n⟩ ((k _ _ e).trans e.symm) fun b o u e => k b _ e
/-- something else than a table, than a code object is changed -/
theorem TabL.upd {c : Amb} {H : Hp} {P L : Addr} {o1 o2 : HO} (h : TabL c H P) (hL : H L = some o1) (n1 : ∀ ps, o1 ≠ .tbl ps) (n2 : ∀ o u, o1 ≠ .frz o u) : TabL c (upd H L o2) P := by
  obtain ⟨ps, e, t, n⟩ := h
  refine TabL.keep' ⟨ps, e, t, n⟩ (upd_ne fun z => ?_) fun b o u e => ?_
  · rw [z, hL] at e
    exact n1 ps (Option.some.inj e)
  · rw [upd_ne fun z => ?_]
    · exact e
    · rw [z, hL] at e
      exact n2 o u (Option.some.inj e)
structure Wok (c : Amb) (H F : Hp) : Prop where
  sub : Same F H
  row : RowOk c H
  rF : F c.r = none
  tab : ∀ P ∈ c.Ps, TabL c H P ∧ F P = none
structure Ext (c : Amb) (H F H' F' : Hp) : Prop where
  ok : Wok c H' F'
  grow : Same F F'
  keep : ∀ b o, H b = some o → b ≠ c.r → b ∉ c.Ps → H' b = some o
  new : ∀ b, F b = none → F' b ≠ none → H b = none
  pre : SqL c.K H c.a (c.ns.map V.int)
theorem RowOk.sq {c : Amb} {H : Hp} (h : RowOk c H) : SqL c.K H c.a (c.ns.map V.int) := let ⟨_, _, _, _, _, _, _, h⟩ := h; h
section
variable {c : Amb} {H F H1 F1 H2 F2 H' F' : Hp}
theorem Ext.refl (W : Wok c H F) : Ext c H F H F := ⟨W, fun _ _ h => h, fun _ _ h _ _ => h, fun _ h h' => absurd h h', W.row.sq⟩
theorem Wok.rH (W : Wok c H F) : H c.r ≠ none := by
  obtain ⟨i, x, k, h, _⟩ := W.row
  rw [h]; simp
theorem Ext.free (x : Ext c H F H' F') {b : Addr} (h : H' b = none) : H b = none := by
  cases q : H b with
  | none => rfl
  | some o =>
    by_cases hr : b = c.r
    · rw [hr] at h; exact absurd h x.ok.rH
    · by_cases hp : b ∈ c.Ps
      · obtain ⟨⟨ps, e, _⟩, _⟩ := x.ok.tab b hp
        rw [e] at h; cases h
      · rw [x.keep b o q hr hp] at h; cases h
theorem Ext.trans (a : Ext c H F H1 F1) (b : Ext c H1 F1 H2 F2) : Ext c H F H2 F2 where
  ok := b.ok
  grow := a.grow.trans b.grow
  keep := fun x o h hr hp => b.keep x o (a.keep x o h hr hp) hr hp
  new := fun x h h' => by
    by_cases q : F1 x = none
    · exact a.free (b.new x q h')
    · exact a.new x h q
  pre := a.pre
theorem RowOk.keep (h : RowOk c H) (k : ∀ b o, H b = some o → b ∉ c.Ps → H' b = some o) (ht : ∀ P ∈ c.Ps, TabL c H P) : RowOk c H' := by
  obtain ⟨i, x, n, h1, h2, h3, h4, h5⟩ := h
  have nt : ∀ b o, H b = some o → (∀ ps, o ≠ .tbl ps) → H' b = some o := fun b o e ne => k b o e fun hb => by
    obtain ⟨ps, e', _⟩ := ht b hb
    rw [e] at e'; exact ne ps (Option.some.inj e')
  refine ⟨i, x, n, nt _ _ h1 (fun ps z => by cases z), h2, h3, h4, ?_⟩
  rcases h5 with (h5 | ⟨o, h5⟩) | h5
  · exact .inl (.inl (nt _ _ h5 fun ps z => by cases z))
  · exact .inl (.inr ⟨o, nt _ _ h5 fun ps z => by cases z⟩)
  · exact .inr h5
theorem upd_keep {p : Addr} {o : HO} (hp : H p = none) : ∀ b u, H b = some u → upd H p o b = some u := fun b u e => by
  rw [upd_ne (ne_of_none e hp)]; exact e
/-- a new object, frozen -/
theorem Ext.laid (W : Wok c H F) {p : Addr} (o : HO) (hp : H p = none) : Ext c H F (upd H p o) (upd F p o) := by
  have hF : F p = none := by
    cases q : F p with
    | none => rfl
    | some u => rw [W.sub p u q] at hp; cases hp
  have np : ∀ b, H b ≠ none → b ≠ p := fun b h z => h (by rw [z]; exact hp)
  refine ⟨⟨fun b u e => ?_, W.row.keep (fun b u e _ => upd_keep hp b u e) (fun P h => (W.tab P h).1), ?_, fun P h => ⟨TabL.keep (W.tab P h).1 (upd_keep hp), ?_⟩⟩, upd_keep hF, fun b u e _ _ => upd_keep hp b u e, fun b h h' => ?_, W.row.sq⟩
  · by_cases hb : b = p
    · rw [hb, upd_same] at e ⊢; exact e
    · rw [upd_ne hb] at e ⊢; exact W.sub b u e
  · rw [upd_ne (np _ W.rH)]; exact W.rF
  · obtain ⟨⟨ps, e, _⟩, z⟩ := W.tab P h
    rw [upd_ne (np _ (by rw [e]; simp))]; exact z
  · by_cases hb : b = p
    · rw [hb]; exact hp
    · rw [upd_ne hb] at h'; exact absurd h h'
/-- a new object, not frozen -/
theorem Ext.loose (W : Wok c H F) {p : Addr} (o : HO) (hp : H p = none) : Ext c H F (upd H p o) F :=
  ⟨⟨fun b u e => upd_keep hp b u (W.sub b u e), W.row.keep (fun b u e _ => upd_keep hp b u e) (fun P h => (W.tab P h).1), W.rF, fun P h => ⟨TabL.keep (W.tab P h).1 (upd_keep hp), (W.tab P h).2⟩⟩, fun _ _ h => h, fun b u e _ _ => upd_keep hp b u e, fun b h h' => absurd h h', W.row.sq⟩
/-- an object that stands already in the heap and is nobody's is frozen -/
theorem Wok.freeze (W : Wok c H F) {p : Addr} {o : HO} (hp : H p = some o) (hr : p ≠ c.r) (ht : ∀ ps, o ≠ .tbl ps) : Wok c H (upd F p o) := by
  refine ⟨fun b u e => ?_, W.row, ?_, fun P h => ⟨(W.tab P h).1, ?_⟩⟩
  · by_cases hb : b = p
    · rw [hb, upd_same] at e; rw [hb, hp]; exact e
    · rw [upd_ne hb] at e; exact W.sub b u e
  · rw [upd_ne (fun z => hr z.symm)]; exact W.rF
  · obtain ⟨⟨ps, e, _⟩, z⟩ := W.tab P h
    rw [upd_ne (fun q => ?_)]
    · exact z
    · rw [q, hp] at e; exact ht ps (Option.some.inj e)
/-- an object that is new and not frozen is changed -/
theorem Ext.mut (x : Ext c H F H' F') {L : Addr} {ws : List V} (h0 : H L = none) (h2 : H' L = some (.lst ws)) (n2 : F' L = none) (nr : L ≠ c.r) (ws' : List V) : Ext c H F (upd H' L (.lst ws')) F' := by
  have np : L ∉ c.Ps := fun hp => by
    obtain ⟨⟨ps, q, _⟩, _⟩ := x.ok.tab L hp
    rw [h2] at q; cases q
  refine ⟨⟨fun b o eb => ?_, ?_, x.ok.rF, fun P hP => ⟨?_, (x.ok.tab P hP).2⟩⟩, x.grow, fun b o eb hr hp => ?_, x.new, x.pre⟩
  · rw [upd_ne (fun z => by rw [z, n2] at eb; cases eb)]; exact x.ok.sub b o eb
  · obtain ⟨i, y, n, h1, h3, h4, h5, h6⟩ := x.ok.row
    refine ⟨i, y, n, by rw [upd_ne (fun z => nr z.symm)]; exact h1, h3, h4, h5, ?_⟩
    rcases h6 with (h6 | ⟨o, h6⟩) | h6
    · by_cases hz : c.a = L
      · rcases x.pre with (p | ⟨o, p⟩) | p
        · rw [hz, h0] at p; cases p
        · rw [hz, h0] at p; cases p
        · exact .inr p
      · exact .inl (.inl (by rw [upd_ne hz]; exact h6))
    · exact .inl (.inr ⟨o, by rw [upd_ne (fun z => by rw [z, h2] at h6; cases h6)]; exact h6⟩)
    · exact .inr h6
  · exact TabL.upd (x.ok.tab P hP).1 h2 (fun ps z => by cases z) (fun o u z => by cases z)
  · rw [upd_ne (fun z => by rw [z, h0] at eb; cases eb)]
    exact x.keep b o eb hr hp
/-! ### a datum of a value; the row is told as the empty dict -/
def RepV (c : Amb) (F : Hp) (v : V) (d : D) : Prop := Rp c.K F v d ∨ (d = .dict [] ∧ v = .ref c.r)
theorem RepV.grow {v : V} {d : D} (h : RepV c F v d) (e : Same F F') : RepV c F' v d := by
  rcases h with h | h
  · exact .inl (dp_same e _ _ h)
  · exact .inr h
theorem RepV.dp {v : V} {d : D} (h : RepV c F v d) (hd : d ≠ .dict []) : Rp c.K F v d := by
  rcases h with h | h
  · exact h
  · exact absurd h.1 hd
theorem RepV.int {i : Int} : RepV c F (.int i) (.int i) := .inl (.int i)
theorem RepV.bl {b : Bool} : RepV c F (.bl b) (.bool b) := .inl (.bl b)
theorem RepV.non : RepV c F .non .none := .inl .non
theorem RepV.str {x : Str} : RepV c F (.str x) (.str x) := .inl (.str x)
theorem RepV.int_inv {v : V} {i : Int} (h : RepV c F v (.int i)) : v = .int i := by
  have h := h.dp (by intro z; cases z)
  cases h; rfl
theorem RepV.bl_inv {v : V} {b : Bool} (h : RepV c F v (.bool b)) : v = .bl b := by
  have h := h.dp (by intro z; cases z)
  cases h; rfl
theorem RepV.non_inv {v : V} (h : RepV c F v .none) : v = .non := by
  have h := h.dp (by intro z; cases z)
  cases h; rfl
theorem RepV.str_inv {v : V} {x : Str} (h : RepV c F v (.str x)) : v = .str x := by
  have h := h.dp (by intro z; cases z)
  cases h; rfl
theorem RepV.row_inv {v : V} (h : RepV c F v (.dict [])) : v = .ref c.r := by
  rcases h with h | h
  · cases h with
    | dic h0 h1 _ => exact absurd (List.map_eq_nil_iff.mp h1.symm) h0
  · exact h.2
theorem RepV.list_inv {v : V} {ds : List D} (h : RepV c F v (.list ds)) : ∃ a vs, v = .ref a ∧ F a = some (.lst vs) ∧ RpAll c.K F vs ds := by
  have h := h.dp (by intro z; cases z)
  cases h with
  | lst hs ha => exact ⟨_, _, rfl, hs, ha⟩
theorem RepV.tup_inv {v : V} {ds : List D} (h : RepV c F v (.tuple ds)) : ∃ a vs, v = .ref a ∧ SqT c.K F a vs ∧ RpAll c.K F vs ds := by
  have h := h.dp (by intro z; cases z)
  cases h with
  | tup hs ha => exact ⟨_, _, rfl, hs, ha⟩
theorem dpAll_length {K : PySem.W.Frag} : ∀ {vs : List V} {ds : List D}, RpAll K F vs ds → vs.length = ds.length
  | _, _, .nil => rfl
  | _, _, .cons _ t => congrArg (· + 1) (dpAll_length t)
theorem dpAll_get {K : PySem.W.Frag} : ∀ {vs : List V} {ds : List D} {i : Nat} {v : V}, RpAll K F vs ds → vs[i]? = some v → ∃ d, ds[i]? = some d ∧ Rp K F v d
  | _, _, _, _, .nil, h => by simp at h
  | _, _, 0, _, .cons h _, e => by simp at e; subst e; exact ⟨_, rfl, h⟩
  | _, _, i + 1, _, .cons _ t, e => by
    obtain ⟨d, h1, h2⟩ := dpAll_get (i := i) t (by simpa using e)
    exact ⟨d, by simpa using h1, h2⟩
theorem dpAll_at {K : PySem.W.Frag} : ∀ {vs : List V} {ds : List D} {i : Nat} {d : D}, RpAll K F vs ds → ds[i]? = some d → ∃ v, vs[i]? = some v ∧ Rp K F v d
  | _, _, _, _, .nil, h => by simp at h
  | _, _, 0, _, .cons h _, e => by simp at e; subst e; exact ⟨_, rfl, h⟩
  | _, _, i + 1, _, .cons _ t, e => by
    obtain ⟨d, h1, h2⟩ := dpAll_at (i := i) t (by simpa using e)
    exact ⟨d, by simpa using h1, h2⟩
theorem dpAll_app {K : PySem.W.Frag} : ∀ {vs ws : List V} {ds es : List D}, RpAll K F vs ds → RpAll K F ws es → RpAll K F (vs ++ ws) (ds ++ es)
  | _, _, _, _, .nil, h => h
  | _, _, _, _, .cons h t, h2 => .cons h (dpAll_app t h2)
theorem dpAll_drop {K : PySem.W.Frag} : ∀ {vs : List V} {ds : List D} (n : Nat), RpAll K F vs ds → RpAll K F (vs.drop n) (ds.drop n)
  | _, _, 0, h => h
  | _, _, _ + 1, .nil => .nil
  | _, _, n + 1, .cons _ t => dpAll_drop n t
theorem dpAll_take {K : PySem.W.Frag} : ∀ {vs : List V} {ds : List D} (n : Nat), RpAll K F vs ds → RpAll K F (vs.take n) (ds.take n)
  | _, _, 0, _ => .nil
  | _, _, _ + 1, .nil => .nil
  | _, _, n + 1, .cons h t => .cons h (dpAll_take n t)
theorem dpAll_set {K : PySem.W.Frag} {v : V} {d : D} (h : Rp K F v d) : ∀ {vs : List V} {ds : List D} (i : Nat), RpAll K F vs ds → RpAll K F (vs.set i v) (ds.set i d)
  | _, _, _, .nil => .nil
  | _, _, 0, .cons _ t => .cons h t
  | _, _, i + 1, .cons q t => .cons q (dpAll_set h i t)
theorem dpAll_rev {K : PySem.W.Frag} : ∀ {vs : List V} {ds : List D}, RpAll K F vs ds → RpAll K F vs.reverse ds.reverse
  | _, _, .nil => .nil
  | _, _, .cons h t => by
    simp only [List.reverse_cons]
    exact dpAll_app (dpAll_rev t) (.cons h .nil)
theorem dpAll_ints {K : PySem.W.Frag} : ∀ (l : List Int), RpAll K F (l.map V.int) (l.map PyData.int)
  | [] => .nil
  | i :: l => .cons (.int i) (dpAll_ints l)
theorem dpAll_ints_inv {K : PySem.W.Frag} : ∀ (l : List Int) (vs : List V), RpAll K F vs (l.map PyData.int) → vs = l.map V.int
  | [], _, h => by cases h; rfl
  | i :: l, _, h => by
    cases h with
    | cons h1 h2 =>
      cases h1
      rw [dpAll_ints_inv l _ h2]; rfl
/-! ### the slots -/
inductive Sl where
  | un | val (d : D) | ownO (o : Option Hp) (ds : List D) | exc (a : Addr) (o : Option (Addr × Int) := none) | fix (k : Bool) (Fb : Hp) (d : D)
/-- without the lists of Fb -/
def cutF (F Fb : Hp) : Hp := fun b => match F b with
  | some (.lst vs) => (match Fb b with
    | none => some (.lst vs)
    | some _ => none)
  | o => o
theorem cutF_sub {F Fb : Hp} : Same (cutF F Fb) F := fun b o h => by
  unfold cutF at h
  split at h
  · rename_i vs e
    split at h
    · rw [e]; exact h
    · cases h
  · exact h
theorem cutF_some {F Fb : Hp} {b : Addr} {o : HO} (h : F b = some o) (k : (∃ vs, o = .lst vs) → Fb b = none) : cutF F Fb b = some o := by
  unfold cutF
  rw [h]
  cases o with
  | lst vs => show (match Fb b with | none => some (HO.lst vs) | some _ => none) = _; rw [k ⟨vs, rfl⟩]
  | _ => rfl
theorem cutF_new {F Fb : Hp} {b : Addr} {vs : List V} (h : cutF F Fb b = some (.lst vs)) : F b = some (.lst vs) ∧ Fb b = none := by
  refine ⟨cutF_sub _ _ h, ?_⟩
  have e := cutF_sub _ _ h
  unfold cutF at h
  rw [e] at h
  cases q : Fb b with
  | none => rfl
  | some o =>
    have h : (match Fb b with | none => some (HO.lst vs) | some _ => none) = some (HO.lst vs) := h
    rw [q] at h
    cases h
theorem cutF_grow {F F' Fb Fb' : Hp} (s : Same F F') (k : ∀ b, Fb b = none → F b ≠ none → Fb' b = none) : Same (cutF F Fb) (cutF F' Fb') := fun b o h => by
  have h1 := cutF_sub _ _ h
  refine cutF_some (s _ _ h1) fun ⟨vs, e⟩ => ?_
  subst e
  exact k b (cutF_new h).2 (by rw [h1]; simp)
/-- of data whose lists may be any -/
abbrev Sl.own (ds : List D) : Sl := .ownO none ds
def cutO (F : Hp) : Option Hp → Hp
  | none => F
  | some Fb => cutF F Fb
theorem cutO_grow {F F' : Hp} : ∀ (o : Option Hp), Same F F' → Same (cutO F o) (cutO F' o)
  | none, s => s
  | some _, s => cutF_grow s fun _ h _ => h
abbrev Sg := List Sl
/-- a slot that holds an object of which no more is told; an exception: the number that it bears -/
abbrev ExcOk (F : Hp) (σ : L2.St) (e : Sg) : Prop := ∀ (i : Nat) (a : Addr) (o : Option (Addr × Int)), e[i]? = some (.exc a o) → σ[i]? = some (some (.ref a)) ∧ ∀ p, o = some p → F p.1 = some (.xd [(("number" : Str), .int p.2)])
theorem exc_grow {F F' : Hp} {σ : L2.St} {e : Sg} (S : ExcOk F σ e) (g : Same F F') : ExcOk F' σ e := fun i a o h => ⟨(S i a o h).1, fun p hp => g _ _ ((S i a o h).2 p hp)⟩
structure RepS (c : Amb) (H0 : Hp) (σ : L2.St) (H F : Hp) (e : Sg) : Prop where
  len : σ.length = e.length
  val : ∀ (i : Nat) (d : D), e[i]? = some (.val d) → ∃ v, σ[i]? = some (some v) ∧ RepV c F v d
  ownO : ∀ (i : Nat) (o : Option Hp) (ds : List D), e[i]? = some (.ownO o ds) → ∃ a vs, σ[i]? = some (some (.ref a)) ∧ H a = some (.lst vs) ∧ F a = none ∧ H0 a = none ∧ a ≠ c.r ∧ RpAll c.K (cutO F o) vs ds
  distO : ∀ (i j : Nat) (o o' : Option Hp) (ds es : List D) (a : Addr), i ≠ j → e[i]? = some (.ownO o ds) → e[j]? = some (.ownO o' es) → σ[i]? = some (some (.ref a)) → σ[j]? = some (some (.ref a)) → False
  exc : ExcOk F σ e
  fix : ∀ (i : Nat) (k : Bool) (Fb : Hp) (d : D), e[i]? = some (.fix k Fb d) → Same Fb F ∧ ∃ v, σ[i]? = some (some v) ∧ RepV c (if k = true then cutF F Fb else Fb) v d
theorem RepS.own {c : Amb} {H0 : Hp} {σ : L2.St} {H F : Hp} {e : Sg} (S : RepS c H0 σ H F e) (i : Nat) (ds : List D) (h : e[i]? = some (.own ds)) : ∃ a vs, σ[i]? = some (some (.ref a)) ∧ H a = some (.lst vs) ∧ F a = none ∧ H0 a = none ∧ a ≠ c.r ∧ RpAll c.K F vs ds := S.ownO i none ds h
theorem RepS.dist {c : Amb} {H0 : Hp} {σ : L2.St} {H F : Hp} {e : Sg} (S : RepS c H0 σ H F e) (i j : Nat) (ds es : List D) (a : Addr) (hij : i ≠ j) (h1 : e[i]? = some (.own ds)) (h2 : e[j]? = some (.own es)) (h3 : σ[i]? = some (some (.ref a))) (h4 : σ[j]? = some (some (.ref a))) : False := S.distO i j none none ds es a hij h1 h2 h3 h4
abbrev FixOk (c : Amb) (F : Hp) (σ : L2.St) (e : Sg) : Prop := ∀ (i : Nat) (k : Bool) (Fb : Hp) (d : D), e[i]? = some (.fix k Fb d) → Same Fb F ∧ ∃ v, σ[i]? = some (some v) ∧ RepV c (if k = true then cutF F Fb else Fb) v d
theorem fix_set {c : Amb} {F : Hp} {e : Sg} {σ : L2.St} {i : Nat} {s : Sl} {o : Option V} (S : FixOk c F σ e) (hs : ∀ k Fb d, s ≠ .fix k Fb d) : FixOk c F (σ.set i o) (e.set i s) := fun j k Fb d h => by
  by_cases hij : i = j
  · subst hij
    by_cases hl : i < e.length
    · rw [List.getElem?_set_self hl] at h
      exact absurd (Option.some.inj h) (hs k Fb d)
    · rw [List.getElem?_eq_none (by simpa using hl)] at h; cases h
  · rw [List.getElem?_set_ne hij] at h ⊢
    exact S j k Fb d h
theorem fix_set0 {c : Amb} {F : Hp} {e : Sg} {σ : L2.St} {i : Nat} {s : Sl} (S : FixOk c F σ e) (hs : ∀ k Fb d, s ≠ .fix k Fb d) : FixOk c F σ (e.set i s) := fun j k Fb d h => by
  by_cases hij : i = j
  · subst hij
    by_cases hl : i < e.length
    · rw [List.getElem?_set_self hl] at h
      exact absurd (Option.some.inj h) (hs k Fb d)
    · rw [List.getElem?_eq_none (by simpa using hl)] at h; cases h
  · rw [List.getElem?_set_ne hij] at h
    exact S j k Fb d h
theorem fix_grow {c : Amb} {F F' : Hp} {e : Sg} {σ : L2.St} (S : FixOk c F σ e) (g : Same F F') : FixOk c F' σ e := fun j k Fb d h => by
  obtain ⟨h1, v, h2, h3⟩ := S j k Fb d h
  refine ⟨h1.trans g, v, h2, ?_⟩
  cases k with
  | false => exact h3
  | true => exact h3.grow (cutF_grow g fun _ z _ => z)
/-- a slot is set, to what is no exception -/
theorem exc_set {F : Hp} {e : Sg} {σ : L2.St} {i : Nat} {s : Sl} {o : Option V} (S : ExcOk F σ e) (hs : ∀ a o, s ≠ .exc a o) : ExcOk F (σ.set i o) (e.set i s) := fun j a u h => by
  by_cases hij : i = j
  · subst hij
    by_cases hl : i < e.length
    · rw [List.getElem?_set_self hl] at h
      exact absurd (Option.some.inj h) (hs a u)
    · rw [List.getElem?_eq_none (by simpa using hl)] at h; cases h
  · rw [List.getElem?_set_ne hij] at h ⊢
    exact S j a u h
theorem exc_set0 {F : Hp} {e : Sg} {σ : L2.St} {i : Nat} {s : Sl} (S : ExcOk F σ e) (hs : ∀ a o, s ≠ .exc a o) : ExcOk F σ (e.set i s) := fun j a u h => by
  by_cases hij : i = j
  · subst hij
    by_cases hl : i < e.length
    · rw [List.getElem?_set_self hl] at h
      exact absurd (Option.some.inj h) (hs a u)
    · rw [List.getElem?_eq_none (by simpa using hl)] at h; cases h
  · rw [List.getElem?_set_ne hij] at h
    exact S j a u h
variable {H0 : Hp} {σ : L2.St} {e : Sg}
theorem Wok.noP (W : Wok c H F) {a : Addr} {vs : List V} (h : H a = some (.lst vs)) : a ∉ c.Ps := fun hp => by
  obtain ⟨⟨ps, q, _⟩, _⟩ := W.tab a hp
  rw [h] at q; cases q
theorem RepS.ext (S : RepS c H0 σ H F e) (W : Wok c H F) (x : Ext c H F H' F') : RepS c H0 σ H' F' e where
  exc := exc_grow S.exc x.grow
  fix := fix_grow S.fix x.grow
  len := S.len
  val := fun i d h => by
    obtain ⟨v, h1, h2⟩ := S.val i d h
    exact ⟨v, h1, h2.grow x.grow⟩
  ownO := fun i o ds h => by
    obtain ⟨a, vs, h1, h2, h3, h4, h5, h6⟩ := S.ownO i o ds h
    refine ⟨a, vs, h1, x.keep a _ h2 h5 (W.noP h2), ?_, h4, h5, dpAll_same (cutO_grow o x.grow) _ _ h6⟩
    cases q : F' a with
    | none => rfl
    | some u =>
      have := x.new a h3 (by rw [q]; simp)
      rw [h2] at this; cases this
  distO := S.distO
theorem RepS.set_val (S : RepS c H0 σ H F e) (i : Nat) {v : V} {d : D} (r : RepV c F v d) : RepS c H0 (σ.set i (some v)) H F (e.set i (.val d)) where
  exc := exc_set S.exc fun _ _ z => nomatch z
  fix := fix_set S.fix fun _ _ _ z => nomatch z
  len := by simp [S.len]
  val := fun j d' h => by
    by_cases hij : i = j
    · subst hij
      by_cases hl : i < e.length
      · rw [List.getElem?_set_self hl] at h
        cases h
        exact ⟨v, by rw [List.getElem?_set_self (by rw [S.len]; exact hl)], r⟩
      · rw [List.getElem?_eq_none (by simpa using hl)] at h; cases h
    · rw [List.getElem?_set_ne hij] at h ⊢
      exact S.val j d' h
  ownO := fun j o' ds h => by
    by_cases hij : i = j
    · subst hij
      by_cases hl : i < e.length
      · rw [List.getElem?_set_self hl] at h; cases h
      · rw [List.getElem?_eq_none (by simpa using hl)] at h; cases h
    · rw [List.getElem?_set_ne hij] at h ⊢
      exact S.ownO j o' ds h
  distO := fun j k o1 o2 ds es a hjk h1 h2 h3 h4 => by
    have f : ∀ (j : Nat) (o : Option Hp) (ds : List D), (e.set i (.val d))[j]? = some (.ownO o ds) → i ≠ j := fun j o ds h z => by
      subst z
      by_cases hl : i < e.length
      · rw [List.getElem?_set_self hl] at h; cases h
      · rw [List.getElem?_eq_none (by simpa using hl)] at h; cases h
    have n1 := f j o1 ds h1
    have n2 := f k o2 es h2
    rw [List.getElem?_set_ne n1] at h1 h3
    rw [List.getElem?_set_ne n2] at h2 h4
    exact S.distO j k o1 o2 ds es a hjk h1 h2 h3 h4
theorem RepS.set_un (S : RepS c H0 σ H F e) (i : Nat) (o : Option V) : RepS c H0 (σ.set i o) H F (e.set i .un) where
  exc := exc_set S.exc fun _ _ z => nomatch z
  fix := fix_set S.fix fun _ _ _ z => nomatch z
  len := by simp [S.len]
  val := fun j d' h => by
    by_cases hij : i = j
    · subst hij
      by_cases hl : i < e.length
      · rw [List.getElem?_set_self hl] at h; cases h
      · rw [List.getElem?_eq_none (by simpa using hl)] at h; cases h
    · rw [List.getElem?_set_ne hij] at h ⊢
      exact S.val j d' h
  ownO := fun j o' ds h => by
    by_cases hij : i = j
    · subst hij
      by_cases hl : i < e.length
      · rw [List.getElem?_set_self hl] at h; cases h
      · rw [List.getElem?_eq_none (by simpa using hl)] at h; cases h
    · rw [List.getElem?_set_ne hij] at h ⊢
      exact S.ownO j o' ds h
  distO := fun j k o1 o2 ds es a hjk h1 h2 h3 h4 => by
    have f : ∀ (j : Nat) (o : Option Hp) (ds : List D), (e.set i Sl.un)[j]? = some (.ownO o ds) → i ≠ j := fun j o ds h z => by
      subst z
      by_cases hl : i < e.length
      · rw [List.getElem?_set_self hl] at h; cases h
      · rw [List.getElem?_eq_none (by simpa using hl)] at h; cases h
    have n1 := f j o1 ds h1
    have n2 := f k o2 es h2
    rw [List.getElem?_set_ne n1] at h1 h3
    rw [List.getElem?_set_ne n2] at h2 h4
    exact S.distO j k o1 o2 ds es a hjk h1 h2 h3 h4
/-- a slot gets a list of its own at p -/
theorem RepS.set_ownO (S : RepS c H0 σ H F e) (i : Nat) (o : Option Hp) {p : Addr} {vs : List V} {ds : List D} (hp : H p = some (.lst vs)) (hF : F p = none) (h0 : H0 p = none) (hr : p ≠ c.r) (hd : RpAll c.K (cutO F o) vs ds)
    (hn : ∀ (j : Nat) (o : Option Hp) (es : List D), j ≠ i → e[j]? = some (.ownO o es) → σ[j]? ≠ some (some (.ref p))) : RepS c H0 (σ.set i (some (.ref p))) H F (e.set i (.ownO o ds)) where
  exc := exc_set S.exc fun _ _ z => nomatch z
  fix := fix_set S.fix fun _ _ _ z => nomatch z
  len := by simp [S.len]
  val := fun j d' h => by
    by_cases hij : i = j
    · subst hij
      by_cases hl : i < e.length
      · rw [List.getElem?_set_self hl] at h; cases h
      · rw [List.getElem?_eq_none (by simpa using hl)] at h; cases h
    · rw [List.getElem?_set_ne hij] at h ⊢
      exact S.val j d' h
  ownO := fun j o' es h => by
    by_cases hij : i = j
    · subst hij
      by_cases hl : i < e.length
      · rw [List.getElem?_set_self hl] at h
        cases h
        exact ⟨p, vs, by rw [List.getElem?_set_self (by rw [S.len]; exact hl)], hp, hF, h0, hr, hd⟩
      · rw [List.getElem?_eq_none (by simpa using hl)] at h; cases h
    · rw [List.getElem?_set_ne hij] at h ⊢
      exact S.ownO j o' es h
  distO := fun j k o1 o2 es fs a hjk h1 h2 h3 h4 => by
    by_cases n1 : i = j
    · subst n1
      have n2 : i ≠ k := hjk
      rw [List.getElem?_set_ne n2] at h2 h4
      have : a = p := by
        by_cases hl : i < σ.length
        · rw [List.getElem?_set_self hl] at h3; cases h3; rfl
        · rw [List.getElem?_eq_none (by simpa using hl)] at h3; cases h3
      subst this
      exact hn k o2 fs (fun z => n2 z.symm) h2 h4
    · by_cases n2 : i = k
      · subst n2
        rw [List.getElem?_set_ne n1] at h1 h3
        have : a = p := by
          by_cases hl : i < σ.length
          · rw [List.getElem?_set_self hl] at h4; cases h4; rfl
          · rw [List.getElem?_eq_none (by simpa using hl)] at h4; cases h4
        subst this
        exact hn j o1 es (fun z => n1 z.symm) h1 h3
      · rw [List.getElem?_set_ne n1] at h1 h3
        rw [List.getElem?_set_ne n2] at h2 h4
        exact S.distO j k o1 o2 es fs a hjk h1 h2 h3 h4
theorem RepS.set_own (S : RepS c H0 σ H F e) (i : Nat) {p : Addr} {vs : List V} {ds : List D} (hp : H p = some (.lst vs)) (hF : F p = none) (h0 : H0 p = none) (hr : p ≠ c.r) (hd : RpAll c.K F vs ds)
    (hn : ∀ (j : Nat) (o : Option Hp) (es : List D), j ≠ i → e[j]? = some (.ownO o es) → σ[j]? ≠ some (some (.ref p))) : RepS c H0 (σ.set i (some (.ref p))) H F (e.set i (.own ds)) := S.set_ownO i none hp hF h0 hr hd hn
end
end FW
/-! FW1: readings over data: expressions, tests, arguments, statements. -/
namespace FW
open PySem PySem.Spec PyProof.Rows L2
/-! ### a judgement asks less where its reading asks more -/
section
variable {X : Cx}
theorem pe_w {e : Expr} {t t' : TE} (h : PE X e t) (k : ∀ σ H Q, t' σ H Q → t σ H Q) : PE X e t' := ⟨fun pins s σ H Q I q => h.run pins s σ H Q I (k σ H Q q)⟩
theorem pt_w {e : Expr} {t t' : TT} (h : PT X e t) (k : ∀ σ H Q, t' σ H Q → t σ H Q) : PT X e t' := ⟨fun pins s σ H Q I q => h.run pins s σ H Q I (k σ H Q q)⟩
theorem pw_w {e : Expr} {t t' : TT} (h : PW X e t) (k : ∀ σ H Q, t' σ H Q → t σ H Q) : PW X e t' := ⟨fun wh pins s σ H Q I q => h.run wh pins s σ H Q I (k σ H Q q)⟩
theorem pa_w {es : List Expr} {t t' : TA} (h : PA X es t) (k : ∀ σ H Q, t' σ H Q → t σ H Q) : PA X es t' := ⟨fun pos pins s σ H Q I q => h.run pos pins s σ H Q I (k σ H Q q)⟩
theorem ps_w {st : Stmt} {t t' : TS} (h : PS X st t) (k : ∀ D σ H, t' D σ H → t D σ H) : PS X st t' := ⟨fun pins s σ H D I q => h.run pins s σ H D I (k D σ H q)⟩
theorem pss_w {st : List Stmt} {t t' : TS} (h : PSs X st t) (k : ∀ D σ H, t' D σ H → t D σ H) : PSs X st t' := ⟨fun pins s σ H D I q => h.run pins s σ H D I (k D σ H q)⟩
theorem pts_w {es : List Expr} {t t' : TT} (h : PTs X es t) (k : ∀ σ H Q, t' σ H Q → t σ H Q) : PTs X es t' := ⟨fun pins s σ H Q I q => h.run pins s σ H Q I (k σ H Q q)⟩
theorem pi_w {tg it : Expr} {t t' : TI} (h : PI X tg it t) (k : ∀ σ H R, t' σ H R → t σ H R) : PI X tg it t' := ⟨fun pins s σ H R I q => h.run pins s σ H R I (k σ H R q)⟩
end
/-! ### readings over data -/
abbrev W := Sg → (D → Prop) → Prop
abbrev WT := Sg → (Bool → Prop) → Prop
abbrev WA := Sg → (List D → Prop) → Prop
abbrev RepVs (c : Amb) (F : Hp) : List V → List D → Prop := Paired (RepV c F)
section
variable (c : Amb)
def Post (H F : Hp) (R : D → Prop) (Q : VK) : Prop := ∀ d v H' F', R d → Ext c H F H' F' → RepV c F' v d → Q v H'
def tD (w : W) : TE := fun σ H Q => ∃ e F H0 R, Wok c H F ∧ RepS c H0 σ H F e ∧ w e R ∧ Post c H F R Q
def tT (w : WT) : TT := fun σ H Q => ∃ e F H0 R, Wok c H F ∧ RepS c H0 σ H F e ∧ w e R ∧ ∀ b H' F', R b → Ext c H F H' F' → Q b H'
def tA (w : WA) : TA := fun σ H Q => ∃ e F H0 R, Wok c H F ∧ RepS c H0 σ H F e ∧ w e R ∧ ∀ ds vs H' F', R ds → Ext c H F H' F' → RepVs c F' vs ds → Q vs H'
/-- a new list, nobody's yet -/
def tN (w : WA) : TE := fun σ H Q => ∃ e F H0 R, Wok c H F ∧ RepS c H0 σ H F e ∧ w e R ∧ ∀ ds p vs H' F', R ds → Ext c H F H' F' → H p = none → H' p = some (.lst vs) → F' p = none → p ≠ c.r → RpAll c.K F' vs ds → Q (.ref p) H'
end
section
variable {c : Amb} {H F H0 H1 F1 H' F' : Hp} {σ : L2.St} {e : Sg} {X : Cx}
theorem Post.ext {R : D → Prop} {Q : VK} (P : Post c H F R Q) (x : Ext c H F H1 F1) : Post c H1 F1 R Q := fun d v H' F' r x' rv => P d v H' F' r (x.trans x') rv
theorem Post.here {R : D → Prop} {Q : VK} (P : Post c H F R Q) (W : Wok c H F) {d : D} {v : V} (r : R d) (rv : RepV c F v d) : Q v H := P d v H F r (Ext.refl W) rv
theorem repVs_grow : ∀ {vs : List V} {ds : List D}, RepVs c F vs ds → Same F F' → RepVs c F' vs ds
  | _, _, .nil, _ => .nil
  | _, _, .cons h t, e => .cons (h.grow e) (repVs_grow t e)
theorem repVs_dp : ∀ {vs : List V} {ds : List D}, RepVs c F vs ds → (∀ d ∈ ds, d ≠ .dict []) → RpAll c.K F vs ds
  | _, _, .nil, _ => .nil
  | _, _, .cons h t, k => .cons (h.dp (k _ List.mem_cons_self)) (repVs_dp t fun d hd => k d (List.mem_cons_of_mem _ hd))
theorem dpAll_rep : ∀ {vs : List V} {ds : List D}, RpAll c.K F vs ds → RepVs c F vs ds
  | _, _, .nil => .nil
  | _, _, .cons h t => .cons (.inl h) (dpAll_rep t)
/-! ### values -/
/-- what a slot tells -/
@[simp] def rd : Option Sl → Option D
  | some (.val d) => some d
  | some (.fix _ _ d) => some d
  | _ => none
theorem RepS.rd (S : RepS c H0 σ H F e) {i : Nat} {d : D} (h : rd e[i]? = some d) : ∃ v, σ[i]? = some (some v) ∧ RepV c F v d := by
  cases q : e[i]? with
  | none => rw [q] at h; cases h
  | some s =>
    rw [q] at h
    cases s with
    | val d' => cases h; exact S.val i d q
    | fix k Fb d' =>
      cases h
      obtain ⟨h1, v, h2, h3⟩ := S.fix i k Fb d q
      refine ⟨v, h2, ?_⟩
      cases k with
      | false => exact h3.grow h1
      | true => exact h3.grow cutF_sub
    | _ => cases h
@[simp] def dVar (i : Nat) : W := fun e R => ∃ d, rd e[i]? = some d ∧ R d
@[simp] def dC (d : D) : W := fun _ R => R d
theorem xd_var {i : Nat} : ∀ σ H Q, tD c (dVar i) σ H Q → tVar i σ H Q := fun σ H Q ⟨e, F, H0, R, W, S, ⟨d, h, r⟩, P⟩ => by
  obtain ⟨v, h1, h2⟩ := S.rd h
  exact ⟨v, h1, P.here W r h2⟩
theorem xd_c {v : V} {d : D} (h : ∀ F, RepV c F v d) : ∀ σ H Q, tD c (dC d) σ H Q → tC v σ H Q := fun σ H Q ⟨e, F, H0, R, W, S, r, P⟩ => P.here W r (h F)
def OpD (c : Amb) (r : R2) (rd : D → D → (D → Prop) → Prop) : Prop := ∀ H F x y d e R Q, Wok c H F → RepV c F x d → RepV c F y e → rd d e R → Post c H F R Q → r x y H Q
@[simp] def dOp (rd : D → D → (D → Prop) → Prop) (wa wb : W) : W := fun e R => wa e fun x => wb e fun y => rd x y R
theorem xd_op {r : R2} {rd : D → D → (D → Prop) → Prop} (hd : OpD c r rd) {wa wb : W} : ∀ σ H Q, tD c (dOp rd wa wb) σ H Q → tOp r (tD c wa) (tD c wb) σ H Q := fun σ H Q ⟨e, F, H0, R, W, S, q, P⟩ =>
  ⟨e, F, H0, _, W, S, q, fun d v H1 F1 q1 x1 r1 => ⟨e, F1, H0, _, x1.ok, S.ext W x1, q1, fun d2 v2 H2 F2 q2 x2 r2 =>
    hd H2 F2 v v2 d d2 R Q x2.ok (r1.grow x2.grow) r2 q2 (P.ext (x1.trans x2))⟩⟩
@[simp] def rdI (g : Int → Int → D) : D → D → (D → Prop) → Prop := fun x y R => ∃ i j, x = .int i ∧ y = .int j ∧ R (g i j)
@[simp] def rdC (C : Int → Int → Prop) (g : Int → Int → D) : D → D → (D → Prop) → Prop := fun x y R => ∃ i j, x = .int i ∧ y = .int j ∧ C i j ∧ R (g i j)
theorem od_I0 {g : Int → Int → V} {gd : Int → Int → D} (h : ∀ F i j, RepV c F (g i j) (gd i j)) : OpD c (rI0 g) (rdI gd) := by
  rintro H F x y d e R Q W rx ry ⟨i, j, rfl, rfl, r⟩ P
  exact ⟨i, j, rx.int_inv, ry.int_inv, P.here W r (h F i j)⟩
theorem od_I {C : Int → Int → Prop} {g : Int → Int → V} {gd : Int → Int → D} (h : ∀ F i j, RepV c F (g i j) (gd i j)) : OpD c (rI C g) (rdC C gd) := by
  rintro H F x y d e R Q W rx ry ⟨i, j, rfl, rfl, hc, r⟩ P
  exact ⟨i, j, rx.int_inv, ry.int_inv, hc, P.here W r (h F i j)⟩
abbrev rdAdd := rdI fun i j => .int (i + j)
abbrev rdSub := rdI fun i j => .int (i - j)
abbrev rdLt := rdI fun i j => .bool (decide (i < j))
abbrev rdLe := rdI fun i j => .bool (decide (i ≤ j))
abbrev rdGt := rdI fun i j => .bool (decide (j < i))
abbrev rdGe := rdI fun i j => .bool (decide (j ≤ i))
abbrev rdMul := rdC CMul fun i j => .int (i * j)
abbrev rdDiv := rdC CDivN fun i j => .int (i.fdiv j)
abbrev rdMod := rdC (fun _ j => j ≠ 0) fun i j => .int (i.fmod j)
abbrev rdPow := rdC CPow fun i j => .int (i ^ j.toNat)
theorem od_add : OpD c (rI0 fun i j => .int (i + j)) rdAdd := od_I0 fun _ _ _ => .int
theorem od_sub : OpD c (rI0 fun i j => .int (i - j)) rdSub := od_I0 fun _ _ _ => .int
theorem od_lt : OpD c (rI0 fun i j => .bl (decide (i < j))) rdLt := od_I0 fun _ _ _ => .bl
theorem od_le : OpD c (rI0 fun i j => .bl (decide (i ≤ j))) rdLe := od_I0 fun _ _ _ => .bl
theorem od_gt : OpD c (rI0 fun i j => .bl (decide (j < i))) rdGt := od_I0 fun _ _ _ => .bl
theorem od_ge : OpD c (rI0 fun i j => .bl (decide (j ≤ i))) rdGe := od_I0 fun _ _ _ => .bl
theorem od_mul : OpD c (rI CMul fun i j => .int (i * j)) rdMul := od_I fun _ _ _ => .int
theorem od_div : OpD c (rI CDivN fun i j => .int (i.fdiv j)) rdDiv := od_I fun _ _ _ => .int
theorem od_mod : OpD c (rI (fun _ j => j ≠ 0) fun i j => .int (i.fmod j)) rdMod := od_I fun _ _ _ => .int
theorem od_pow : OpD c (rI CPow fun i j => .int (i ^ j.toNat)) rdPow := od_I fun _ _ _ => .int
/-- == and != of any data -/
@[simp] def rdEq : D → D → (D → Prop) → Prop := fun x y R => SeqAt.shaped x = true ∧ SeqAt.shaped y = true ∧ x ≠ .dict [] ∧ y ≠ .dict [] ∧ R (.bool (PyData.eqv x y))
@[simp] def rdNe : D → D → (D → Prop) → Prop := fun x y R => SeqAt.shaped x = true ∧ SeqAt.shaped y = true ∧ x ≠ .dict [] ∧ y ≠ .dict [] ∧ R (.bool (!PyData.eqv x y))
theorem od_eq : OpD c (rEqD c.K) rdEq := by
  rintro H F x y d e R Q W rx ry ⟨h1, h2, h3, h4, r⟩ P
  exact ⟨d, e, rp_dp _ _ (SeqAt.canLay_of_shaped h1) (dp_same W.sub _ _ (rx.dp h3)), rp_dp _ _ (SeqAt.canLay_of_shaped h2) (dp_same W.sub _ _ (ry.dp h4)), h1, h2, P.here W r .bl⟩
theorem od_ne : OpD c (rNeD c.K) rdNe := by
  rintro H F x y d e R Q W rx ry ⟨h1, h2, h3, h4, r⟩ P
  exact ⟨d, e, rp_dp _ _ (SeqAt.canLay_of_shaped h1) (dp_same W.sub _ _ (rx.dp h3)), rp_dp _ _ (SeqAt.canLay_of_shaped h2) (dp_same W.sub _ _ (ry.dp h4)), h1, h2, P.here W r .bl⟩
/-- is None -/
def isNone : D → Bool
  | .none => true
  | _ => false
@[simp] def dIsN (w : W) : W := fun e R => w e fun d => R (.bool (isNone d))
@[simp] def dNotN (w : W) : W := fun e R => w e fun d => R (.bool (!isNone d))
theorem isN_eq {v : V} {d : D} (r : RepV c F v d) : decide (v = .non) = isNone d := by
  rcases r with h | ⟨rfl, rfl⟩
  · cases h <;> simp [isNone]
  · simp [isNone]
theorem xd_isN {w : W} : ∀ σ H Q, tD c (dIsN w) σ H Q → tIsN (tD c w) σ H Q := fun σ H Q ⟨e, F, H0, R, W, S, q, P⟩ =>
  ⟨e, F, H0, _, W, S, q, fun d v H1 F1 q1 x1 r1 => by show Q (.bl (decide (v = .non))) H1; rw [isN_eq r1]; exact P _ _ _ _ q1 x1 .bl⟩
theorem xd_notN {w : W} : ∀ σ H Q, tD c (dNotN w) σ H Q → tNotN (tD c w) σ H Q := fun σ H Q ⟨e, F, H0, R, W, S, q, P⟩ =>
  ⟨e, F, H0, _, W, S, q, fun d v H1 F1 q1 x1 r1 => by
    show Q (.bl (!decide (v = .non))) H1
    rw [isN_eq r1]
    exact P _ _ _ _ q1 x1 .bl⟩
@[simp] def dNeg (w : W) : W := fun e R => w e fun d => ∃ i, d = .int i ∧ R (.int (-i))
theorem xd_neg {w : W} : ∀ σ H Q, tD c (dNeg w) σ H Q → tUn (rU fun i => .int (-i)) (tD c w) σ H Q := fun σ H Q ⟨e, F, H0, R, W, S, q, P⟩ =>
  ⟨e, F, H0, _, W, S, q, fun d v H1 F1 ⟨i, hi, q1⟩ x1 r1 => by subst hi; exact ⟨i, r1.int_inv, P _ _ _ _ q1 x1 .int⟩⟩
/-! ### tests -/
@[simp] def bB (w : W) : WT := fun e R => w e fun d => ∃ b, d = .bool b ∧ R b
theorem xt_test {w : W} : ∀ σ H Q, tT c (bB w) σ H Q → tTest (tD c w) σ H Q := fun σ H Q ⟨e, F, H0, R, W, S, q, P⟩ =>
  ⟨e, F, H0, _, W, S, q, fun d v H1 F1 ⟨b, hb, q1⟩ x1 r1 => by subst hb; exact ⟨b, r1.bl_inv, P _ _ _ q1 x1⟩⟩
theorem xt_B {w : W} : ∀ σ H Q, tT c (bB w) σ H Q → tB (tD c w) σ H Q := xt_test
@[simp] def tru : D → Bool
  | .none => false
  | .bool b => b
  | .int i => i != 0
  | .str _ => true
  | .list ds => !ds.isEmpty
  | .tuple ds => !ds.isEmpty
  | .dict _ => true
/-- truth of what is no text -/
@[simp] def bTru (w : W) : WT := fun e R => w e fun d => (∀ x, d ≠ .str x) ∧ d ≠ .dict [] ∧ R (tru d)
theorem isEmpty_len {α β : Type} {xs : List α} {ys : List β} (h : xs.length = ys.length) : xs.isEmpty = ys.isEmpty := by
  cases xs <;> cases ys <;> simp_all
theorem xt_tru {w : W} : ∀ σ H Q, tT c (bTru w) σ H Q → (fun σ H Q => tD c w σ H fun x H' => ∃ k, TruV c.K x H' k ∧ Q k H') σ H Q := fun σ H Q ⟨e, F, H0, R, W, S, q, P⟩ =>
  ⟨e, F, H0, _, W, S, q, fun d v H1 F1 ⟨n1, n2, q1⟩ x1 r1 => ⟨tru d, by
    have h := r1.dp n2
    cases h with
    | non => exact rfl
    | bl b => exact rfl
    | int i => exact rfl
    | str x => exact absurd rfl (n1 x)
    | lst hs ha => exact .inl ⟨_, SqL.of (x1.ok.sub _ _ hs), by show (!_) = (!_); rw [isEmpty_len (dpAll_length ha)]⟩
    | tup hs ha => exact .inr (.inl ⟨_, same_t x1.ok.sub hs, by show (!_) = (!_); rw [isEmpty_len (dpAll_length ha)]⟩)
    | dic h0 h1 h2 => exact .inr (.inr ⟨_, x1.ok.sub _ _ h2, (dicV_ne h0).symm⟩), P _ _ _ q1 x1⟩⟩
@[simp] def bAnd (a b : WT) : WT := fun e R => a e fun x => if x = true then b e R else R false
@[simp] def bOr (a b : WT) : WT := fun e R => a e fun x => if x = true then R true else b e R
@[simp] def bNot (a : WT) : WT := fun e R => a e fun x => R (!x)
theorem xt_and {a b : WT} : ∀ σ H Q, tT c (bAnd a b) σ H Q → tAnd (tT c a) (tT c b) σ H Q := fun σ H Q ⟨e, F, H0, R, W, S, q, P⟩ =>
  ⟨e, F, H0, _, W, S, q, fun x H1 F1 q1 x1 => by
    cases x with
    | true => exact ⟨e, F1, H0, R, x1.ok, S.ext W x1, by simpa using q1, fun b H2 F2 r x2 => P b H2 F2 r (x1.trans x2)⟩
    | false => exact P false H1 F1 (by simpa using q1) x1⟩
theorem xt_or {a b : WT} : ∀ σ H Q, tT c (bOr a b) σ H Q → tOr (tT c a) (tT c b) σ H Q := fun σ H Q ⟨e, F, H0, R, W, S, q, P⟩ =>
  ⟨e, F, H0, _, W, S, q, fun x H1 F1 q1 x1 => by
    cases x with
    | true => exact P true H1 F1 (by simpa using q1) x1
    | false => exact ⟨e, F1, H0, R, x1.ok, S.ext W x1, by simpa using q1, fun b H2 F2 r x2 => P b H2 F2 r (x1.trans x2)⟩⟩
theorem xt_not {a : WT} : ∀ σ H Q, tT c (bNot a) σ H Q → tNot (tT c a) σ H Q := fun σ H Q ⟨e, F, H0, R, W, S, q, P⟩ =>
  ⟨e, F, H0, _, W, S, q, fun x H1 F1 q1 x1 => P _ H1 F1 q1 x1⟩
theorem xt_yes : ∀ σ H Q, tT c (fun _ R => R true) σ H Q → tYes σ H Q := fun σ H Q ⟨e, F, H0, R, W, S, q, P⟩ => P true H F q (Ext.refl W)
/-- and, or, not of truth values, as values -/
@[simp] def dAnd (a b : W) : W := fun e R => a e fun x => ∃ k, x = .bool k ∧ if k = true then b e R else R (.bool false)
@[simp] def dOr (a b : W) : W := fun e R => a e fun x => ∃ k, x = .bool k ∧ if k = true then R (.bool true) else b e R
@[simp] def dNot (a : W) : W := fun e R => a e fun x => ∃ k, x = .bool k ∧ R (.bool (!k))
theorem xd_and {a b : W} : ∀ σ H Q, tD c (dAnd a b) σ H Q → tAndV (tD c a) (tD c b) σ H Q := fun σ H Q ⟨e, F, H0, R, W, S, q, P⟩ =>
  ⟨e, F, H0, _, W, S, q, fun d v H1 F1 ⟨k, hk, q1⟩ x1 r1 => by
    subst hk
    refine ⟨k, r1.bl_inv, ?_⟩
    cases k with
    | true => exact ⟨e, F1, H0, R, x1.ok, S.ext W x1, by simpa using q1, P.ext x1⟩
    | false => exact P _ _ H1 F1 (by simpa using q1) x1 .bl⟩
theorem xd_or {a b : W} : ∀ σ H Q, tD c (dOr a b) σ H Q → tOrV (tD c a) (tD c b) σ H Q := fun σ H Q ⟨e, F, H0, R, W, S, q, P⟩ =>
  ⟨e, F, H0, _, W, S, q, fun d v H1 F1 ⟨k, hk, q1⟩ x1 r1 => by
    subst hk
    refine ⟨k, r1.bl_inv, ?_⟩
    cases k with
    | true => exact P _ _ H1 F1 (by simpa using q1) x1 .bl
    | false => exact ⟨e, F1, H0, R, x1.ok, S.ext W x1, by simpa using q1, P.ext x1⟩⟩
theorem xd_not {a : W} : ∀ σ H Q, tD c (dNot a) σ H Q → tNotV (tD c a) σ H Q := fun σ H Q ⟨e, F, H0, R, W, S, q, P⟩ =>
  ⟨e, F, H0, _, W, S, q, fun d v H1 F1 ⟨k, hk, q1⟩ x1 r1 => by
    subst hk
    exact ⟨k, r1.bl_inv, P _ _ H1 F1 q1 x1 .bl⟩⟩
@[simp] def dIf (t : WT) (a b : W) : W := fun e R => t e fun x => if x = true then a e R else b e R
theorem xd_if {t : WT} {a b : W} : ∀ σ H Q, tD c (dIf t a b) σ H Q → tIf (tT c t) (tD c a) (tD c b) σ H Q := fun σ H Q ⟨e, F, H0, R, W, S, q, P⟩ =>
  ⟨e, F, H0, _, W, S, q, fun x H1 F1 q1 x1 => by
    cases x with
    | true => exact ⟨e, F1, H0, R, x1.ok, S.ext W x1, by simpa using q1, P.ext x1⟩
    | false => exact ⟨e, F1, H0, R, x1.ok, S.ext W x1, by simpa using q1, P.ext x1⟩⟩
@[simp] def dChain (r r' : D → D → (D → Prop) → Prop) (wa wb wc : W) : W := fun e R => wa e fun x => wb e fun y => r x y fun z => ∃ k, z = .bool k ∧ if k = true then wc e fun u => r' y u R else R (.bool false)
theorem xd_chain {r r' : R2} {rd rd' : D → D → (D → Prop) → Prop} (h : OpD c r rd) (h' : OpD c r' rd') {wa wb wc : W} : ∀ σ H Q, tD c (dChain rd rd' wa wb wc) σ H Q → tChain r r' (tD c wa) (tD c wb) (tD c wc) σ H Q :=
  fun σ H Q ⟨e, F, H0, R, W, S, q, P⟩ => ⟨e, F, H0, _, W, S, q, fun d v H1 F1 q1 x1 r1 => ⟨e, F1, H0, _, x1.ok, S.ext W x1, q1, fun d2 v2 H2 F2 q2 x2 r2 =>
    h H2 F2 v v2 d d2 _ _ x2.ok (r1.grow x2.grow) r2 q2 fun d3 v3 H3 F3 ⟨k, hk, q3⟩ x3 r3 => by
      subst hk
      refine ⟨k, r3.bl_inv, ?_⟩
      have x13 := (x1.trans x2).trans x3
      cases k with
      | true => exact ⟨e, F3, H0, _, x3.ok, S.ext W x13, by simpa using q3, fun d4 v4 H4 F4 q4 x4 r4 => h' H4 F4 v2 v4 d2 d4 R Q x4.ok (r2.grow (x3.trans x4).grow) r4 q4 (P.ext (x13.trans x4))⟩
      | false => exact P _ _ H3 F3 (by simpa using q3) x13 .bl⟩⟩
/-! ### arguments, displays -/
@[simp] def aNil : WA := fun _ R => R []
@[simp] def aCons (w : W) (r : WA) : WA := fun e R => w e fun d => r e fun ds => R (d :: ds)
theorem xa_nil : ∀ σ H Q, tA c aNil σ H Q → tNil σ H Q := fun σ H Q ⟨e, F, H0, R, W, S, q, P⟩ => P [] [] H F q (Ext.refl W) .nil
theorem xa_cons {w : W} {r : WA} : ∀ σ H Q, tA c (aCons w r) σ H Q → tCons (tD c w) (tA c r) σ H Q := fun σ H Q ⟨e, F, H0, R, W, S, q, P⟩ =>
  ⟨e, F, H0, _, W, S, q, fun d v H1 F1 q1 x1 r1 => ⟨e, F1, H0, _, x1.ok, S.ext W x1, q1, fun ds vs H2 F2 q2 x2 r2 => P _ _ H2 F2 q2 (x1.trans x2) (.cons (r1.grow x2.grow) r2)⟩⟩
theorem Wok.newR (W : Wok c H F) {p : Addr} (h : H p = none) : p ≠ c.r := fun z => W.rH (by rw [← z]; exact h)
theorem Wok.newF (W : Wok c H F) {p : Addr} (h : H p = none) : F p = none := by
  cases q : F p with
  | none => rfl
  | some u => rw [W.sub p u q] at h; cases h
theorem repLst {p : Addr} {vs : List V} {ds : List D} (h : F p = some (.lst vs)) (k : RpAll c.K F vs ds) : RepV c F (.ref p) (.list ds) := .inl (.lst h k)
theorem repTup {p : Addr} {vs : List V} {ds : List D} (h : F p = some (.tup vs)) (k : RpAll c.K F vs ds) : RepV c F (.ref p) (.tuple ds) := .inl (.tup (SqT.of h) k)
/-- a new tuple of these -/
theorem Post.newTup {R : D → Prop} {Q : VK} (P : Post c H F R Q) (W : Wok c H F) {vs : List V} {ds : List D} (k : RpAll c.K F vs ds) (r : R (.tuple ds)) : ∀ p, H p = none → Q (.ref p) (upd H p (.tup vs)) := fun p hp =>
  P _ _ _ _ r (Ext.laid W _ hp) (repTup upd_same (dpAll_same (upd_keep (W.newF hp)) _ _ k))
theorem Post.newLst {R : D → Prop} {Q : VK} (P : Post c H F R Q) (W : Wok c H F) {vs : List V} {ds : List D} (k : RpAll c.K F vs ds) (r : R (.list ds)) : ∀ p, H p = none → Q (.ref p) (upd H p (.lst vs)) := fun p hp =>
  P _ _ _ _ r (Ext.laid W _ hp) (repLst upd_same (dpAll_same (upd_keep (W.newF hp)) _ _ k))
theorem len_le {n : Nat} (h : n ≤ 1000000) : n ≤ sizeLine := Nat.le_trans h (by rw [sizeLine_eq]; decide)
theorem len_lt {n : Nat} (h : n < 1000000) : n < sizeLine := Nat.lt_of_lt_of_le h (by rw [sizeLine_eq]; decide)
/-- no item is the row -/
def noRow (ds : List D) : Prop := ∀ d ∈ ds, d ≠ .dict []
@[simp] def dTup (w : WA) : W := fun e R => w e fun ds => ds.length ≤ 1000000 ∧ noRow ds ∧ R (.tuple ds)
@[simp] def dLst (w : WA) : W := fun e R => w e fun ds => ds.length ≤ 1000000 ∧ noRow ds ∧ R (.list ds)
theorem paired_len {α β : Type} {G : α → β → Prop} {xs : List α} {ys : List β} (h : Paired G xs ys) : xs.length = ys.length := h.length
theorem xd_tup {w : WA} : ∀ σ H Q, tD c (dTup w) σ H Q → tTup (tA c w) σ H Q := fun σ H Q ⟨e, F, H0, R, W, S, q, P⟩ =>
  ⟨e, F, H0, _, W, S, q, fun ds vs H1 F1 ⟨hl, hn, q1⟩ x1 r1 => ⟨by rw [r1.length]; exact len_le hl, (P.ext x1).newTup x1.ok (repVs_dp r1 hn) q1⟩⟩
theorem xd_lst {w : WA} : ∀ σ H Q, tD c (dLst w) σ H Q → tLst (tA c w) σ H Q := fun σ H Q ⟨e, F, H0, R, W, S, q, P⟩ =>
  ⟨e, F, H0, _, W, S, q, fun ds vs H1 F1 ⟨hl, hn, q1⟩ x1 r1 => ⟨by rw [r1.length]; exact len_le hl, (P.ext x1).newLst x1.ok (repVs_dp r1 hn) q1⟩⟩
/-- a new list that is nobody's yet -/
@[simp] def nLst (w : WA) : WA := fun e R => w e fun ds => ds.length ≤ 1000000 ∧ noRow ds ∧ R ds
theorem xn_lst {w : WA} : ∀ σ H Q, tN c (nLst w) σ H Q → tLst (tA c w) σ H Q := fun σ H Q ⟨e, F, H0, R, W, S, q, P⟩ =>
  ⟨e, F, H0, _, W, S, q, fun ds vs H1 F1 ⟨hl, hn, q1⟩ x1 r1 => ⟨by rw [r1.length]; exact len_le hl, fun p hp =>
    have x2 := Ext.loose x1.ok (.lst vs) hp
    P ds p vs _ _ q1 (x1.trans x2) (x1.free hp) upd_same (x1.ok.newF hp) (x1.ok.newR hp) (repVs_dp r1 hn)⟩⟩
/-- a new list is a list -/
@[simp] def dN (w : WA) : W := fun e R => w e fun ds => R (.list ds)
theorem Post.frozen {R : D → Prop} {Q : VK} (P : Post c H F R Q) (x : Ext c H F H1 F1) {p : Addr} {vs : List V} {ds : List D} (h0 : H p = none) (h1 : H1 p = some (.lst vs)) (hr : p ≠ c.r) (hF : F1 p = none) (k : RpAll c.K F1 vs ds) (r : R (.list ds)) : Q (.ref p) H1 := by
  refine P _ _ H1 (upd F1 p (.lst vs)) r ⟨x.ok.freeze h1 hr (fun ps z => by cases z), fun b o e => upd_keep hF b o (x.grow b o e), x.keep, fun b hb hb' => ?_, x.pre⟩ (repLst upd_same (dpAll_same (upd_keep hF) _ _ k))
  by_cases hp : b = p
  · rw [hp]; exact h0
  · rw [upd_ne hp] at hb'; exact x.new b hb hb'
theorem xd_N {w : WA} : ∀ σ H Q, tD c (dN w) σ H Q → tN c w σ H Q := fun σ H Q ⟨e, F, H0, R, W, S, q, P⟩ =>
  ⟨e, F, H0, _, W, S, q, fun ds p vs H1 F1 r x h0 h1 hF hr k => P.frozen x h0 h1 hr hF k r⟩
/-! ### calls of values -/
def CallD (c : Amb) (r : List V → Hp → VK → Prop) (rd : List D → (D → Prop) → Prop) : Prop := ∀ H F vs ds R Q, Wok c H F → RepVs c F vs ds → rd ds R → Post c H F R Q → r vs H Q
@[simp] def dCall (rd : List D → (D → Prop) → Prop) (w : WA) : W := fun e R => w e fun ds => rd ds R
theorem xd_cb {r : List V → Hp → VK → Prop} {rd : List D → (D → Prop) → Prop} (h : CallD c r rd) {w : WA} : ∀ σ H Q, tD c (dCall rd w) σ H Q → tCB r (tA c w) σ H Q := fun σ H Q ⟨e, F, H0, R, W, S, q, P⟩ =>
  ⟨e, F, H0, _, W, S, q, fun ds vs H1 F1 q1 x1 r1 => h H1 F1 vs ds R Q x1.ok r1 q1 (P.ext x1)⟩
/-- a def's promise over data -/
abbrev Fd := List D → (D → Prop) → Prop
abbrev Fn := List D → (List D → Prop) → Prop
def spD (g : Glb) (f : Fd) : Sp := fun vs H Q _ => ∃ (c : Amb) (F : Hp) (ds : List D) (R : D → Prop), c.g = g ∧ Wok c H F ∧ RepVs c F vs ds ∧ f ds R ∧ Post c H F R Q
def spN (g : Glb) (f : Fn) : Sp := fun vs H Q _ => ∃ (c : Amb) (F : Hp) (ds : List D) (R : List D → Prop), c.g = g ∧ Wok c H F ∧ RepVs c F vs ds ∧ f ds R ∧
  ∀ ds p vs H' F', R ds → Ext c H F H' F' → H p = none → H' p = some (.lst vs) → F' p = none → p ≠ c.r → RpAll c.K F' vs ds → Q (.ref p) H'
theorem xd_call {f : Fd} {w : WA} : ∀ σ H Q, tD c (dCall f w) σ H Q → tCall (spD c.g f) [] E0 (tA c w) σ H Q := fun σ H Q ⟨e, F, H0, R, W, S, q, P⟩ =>
  ⟨e, F, H0, _, W, S, q, fun ds vs H1 F1 q1 x1 r1 => ⟨c, F1, ds, R, rfl, x1.ok, by rw [List.append_nil]; exact r1, q1, P.ext x1⟩⟩
@[simp] def nCall (f : Fn) (w : WA) : WA := fun e R => w e fun ds => f ds R
theorem xn_call {f : Fn} {w : WA} : ∀ σ H Q, tN c (nCall f w) σ H Q → tCall (spN c.g f) [] E0 (tA c w) σ H Q := fun σ H Q ⟨e, F, H0, R, W, S, q, P⟩ =>
  ⟨e, F, H0, _, W, S, q, fun ds vs H1 F1 q1 x1 r1 => ⟨c, F1, ds, R, rfl, x1.ok, by rw [List.append_nil]; exact r1, q1, fun es p us H' F' r x h0 h1 hF hr k => P es p us H' F' r (x1.trans x) (x1.free h0) h1 hF hr k⟩⟩
end
end FW
/-! FW2: statements, targets, loops, comprehensions over data; lists of one's own. -/
namespace FW
open PySem PySem.Spec PyProof.Rows L2
abbrev Exc := Str × Option Int
structure EndsD where
  nx : Sg → Prop
  rt : D → Prop
  rn : List D → Prop := fun _ => False
  bk : Sg → Prop := fun _ => False
  ct : Sg → Prop := fun _ => False
  ex : Exc → Prop := fun _ => False
  /-- a frozen part to which one may go back -/
  base : Hp → Prop := fun _ => False
  pin : Bool := false
  /-- handed back, its lists new -/
  rf : D → Prop := fun _ => False
abbrev WS := EndsD → Sg → Prop
def ExcAt (c : Amb) (E : XK) (H F : Hp) : Exc → Prop
  | (n, none) => E (.ref (c.g.cls n)) none H
  | (n, some k) => ∀ d, F d = some (.xd [(("number" : Str), .int k)]) → E (.ref (c.g.cls n)) (some d) H
structure EndsOk (c : Amb) (E : XK) (H0 F0 : Hp) (De : EndsD) (Dn : Ends) : Prop where
  nx : ∀ e σ H F, De.nx e → Ext c H0 F0 H F → RepS c H0 σ H F e → Dn.nx σ H
  rt : ∀ d v H F, De.rt d → Ext c H0 F0 H F → RepV c F v d → Dn.rt v H
  rn : ∀ ds p vs H F, De.rn ds → Ext c H0 F0 H F → H0 p = none → H p = some (.lst vs) → F p = none → p ≠ c.r → RpAll c.K F vs ds → Dn.rt (.ref p) H
  bk : ∀ e σ H F, De.bk e → Ext c H0 F0 H F → RepS c H0 σ H F e → Dn.bk σ H
  ct : ∀ e σ H F, De.ct e → Ext c H0 F0 H F → RepS c H0 σ H F e → Dn.ct σ H
  ex : ∀ x H F, De.ex x → Ext c H0 F0 H F → ExcAt c E H F x
  base : ∀ Fb, De.base Fb → Same F0 Fb ∧ ∀ b, F0 b = none → Fb b ≠ none → H0 b = none
  rf : ∀ d v H F, De.rf d → Ext c H0 F0 H F → RepV c (cutF F F0) v d → Dn.rt v H
  pin : De.pin = true → ∀ Fb, Same F0 Fb → (∀ b, F0 b = none → Fb b ≠ none → H0 b = none) → De.base Fb
def sD (c : Amb) (E : XK) (w : WS) : TS := fun Dn σ H => ∃ e F H0 F0 De, Ext c H0 F0 H F ∧ RepS c H0 σ H F e ∧ w De e ∧ EndsOk c E H0 F0 De Dn
section
variable {c : Amb} {E : XK} {H F H0 F0 H1 F1 : Hp} {σ : L2.St} {X : Cx} {De : EndsD} {Dn : Ends}
theorem EndsOk.next (h : EndsOk c E H0 F0 De Dn) {n : Sg → Prop} {N : L2.St → Hp → Prop} (k : ∀ e σ H F, n e → Ext c H0 F0 H F → RepS c H0 σ H F e → N σ H) : EndsOk c E H0 F0 { De with nx := n } { Dn with nx := N } := ⟨k, h.rt, h.rn, h.bk, h.ct, h.ex, h.base, h.rf, h.pin⟩
@[simp] def dNext : WS := fun De e => De.nx e
@[simp] def dSeq (w1 w2 : WS) : WS := fun De e => w1 { De with nx := w2 De } e
theorem xs_next : ∀ Dn σ H, sD c E dNext Dn σ H → tNext Dn σ H := fun Dn σ H ⟨e, F, H0, F0, De, x, S, q, K⟩ => K.nx e σ H F q x S
theorem xs_seq {w1 w2 : WS} : ∀ Dn σ H, sD c E (dSeq w1 w2) Dn σ H → tSeq (sD c E w1) (sD c E w2) Dn σ H := fun Dn σ H ⟨e, F, H0, F0, De, x, S, q, K⟩ =>
  ⟨e, F, H0, F0, _, x, S, q, K.next fun e' σ' H' F' n x' S' => ⟨e', F', H0, F0, De, x', S', n, K⟩⟩
theorem pssd_nil : PSs X [] (sD c E dNext) := pss_w pss_nil xs_next
theorem pssd_cons {st : Stmt} {rest : List Stmt} {w1 w2 : WS} (h1 : PS X st (sD c E w1)) (h2 : PSs X rest (sD c E w2)) : PSs X (st :: rest) (sD c E (dSeq w1 w2)) := pss_w (pss_cons h1 h2) xs_seq
theorem pssd_one {st : Stmt} {w1 : WS} (h1 : PS X st (sD c E w1)) : PSs X [st] (sD c E w1) := pss_one h1
/-! ### assignment to names -/
@[simp] def dAsg (i : Nat) (w : W) : WS := fun De e => w e fun d => De.nx (e.set i (.val d))
theorem xs_asg {i : Nat} {w : W} : ∀ Dn σ H, sD c E (dAsg i w) Dn σ H → tAsg (tD c w) (gName i) Dn σ H := fun Dn σ H ⟨e, F, H0, F0, De, x, S, q, K⟩ =>
  ⟨e, F, H0, _, x.ok, S, q, fun d v H' F' r x' rv => K.nx _ _ _ _ r (x.trans x') ((S.ext x.ok x').set_val i rv)⟩
@[simp] def dOwn (i : Nat) (w : WA) : WS := fun De e => w e fun ds => De.nx (e.set i (.own ds))
theorem xs_own {i : Nat} {w : WA} : ∀ Dn σ H, sD c E (dOwn i w) Dn σ H → tAsg (tN c w) (gName i) Dn σ H := fun Dn σ H ⟨e, F, H0, F0, De, x, S, q, K⟩ =>
  ⟨e, F, H0, _, x.ok, S, q, fun ds p vs H' F' r x' hp hp' hF hr k => K.nx _ _ _ _ r (x.trans x') ((S.ext x.ok x').set_own i hp' hF (x.free hp) hr k fun j o es _ hj z => by
    obtain ⟨a, ws, h1, h2, _⟩ := S.ownO j o es hj
    rw [h1] at z
    cases z
    rw [hp] at h2; cases h2)⟩
@[simp] def dDrop (w : W) : WS := fun De e => w e fun _ => De.nx e
theorem xs_drop {w : W} : ∀ Dn σ H, sD c E (dDrop w) Dn σ H → tDrop (tD c w) Dn σ H := fun Dn σ H ⟨e, F, H0, F0, De, x, S, q, K⟩ =>
  ⟨e, F, H0, _, x.ok, S, q, fun d v H' F' r x' rv => K.nx _ _ _ _ r (x.trans x') (S.ext x.ok x')⟩
@[simp] def dRet (w : W) : WS := fun De e => w e De.rt
theorem xs_ret {w : W} : ∀ Dn σ H, sD c E (dRet w) Dn σ H → tRet (tD c w) Dn σ H := fun Dn σ H ⟨e, F, H0, F0, De, x, S, q, K⟩ =>
  ⟨e, F, H0, _, x.ok, S, q, fun d v H' F' r x' rv => K.rt d v H' F' r (x.trans x') rv⟩
@[simp] def dRetL (w : WA) : WS := fun De e => w e De.rn
theorem xs_retL {w : WA} : ∀ Dn σ H, sD c E (dRetL w) Dn σ H → tRet (tN c w) Dn σ H := fun Dn σ H ⟨e, F, H0, F0, De, x, S, q, K⟩ =>
  ⟨e, F, H0, _, x.ok, S, q, fun ds p vs H' F' r x' hp hp' hF hr k => K.rn ds p vs H' F' r (x.trans x') (x.free hp) hp' hF hr k⟩
/-- return of a slot's own list -/
@[simp] def dRetO (i : Nat) : WS := fun De e => ∃ ds, e[i]? = some (.own ds) ∧ De.rn ds
theorem xs_retO {i : Nat} : ∀ Dn σ H, sD c E (dRetO i) Dn σ H → tRet (tVar i) Dn σ H := fun Dn σ H ⟨e, F, H0, F0, De, x, S, ⟨ds, h, q⟩, K⟩ => by
  obtain ⟨a, vs, h1, h2, h3, h4, h5, h6⟩ := S.own i ds h
  exact ⟨_, h1, K.rn ds a vs H F q x h4 h2 h3 h5 h6⟩
@[simp] def dRetN : WS := fun De _ => De.rt .none
theorem xs_retN : ∀ Dn σ H, sD c E dRetN Dn σ H → tRetN Dn σ H := fun Dn σ H ⟨e, F, H0, F0, De, x, S, q, K⟩ => K.rt _ _ H F q x .non
@[simp] def dIfS (t : WT) (a b : WS) : WS := fun De e => t e fun k => if k = true then a De e else b De e
theorem xs_if {t : WT} {a b : WS} : ∀ Dn σ H, sD c E (dIfS t a b) Dn σ H → tIfS (tT c t) (sD c E a) (sD c E b) Dn σ H := fun Dn σ H ⟨e, F, H0, F0, De, x, S, q, K⟩ =>
  ⟨e, F, H0, _, x.ok, S, q, fun k H' F' r x' => by
    cases k with
    | true => exact ⟨e, F', H0, F0, De, x.trans x', S.ext x.ok x', by simpa using r, K⟩
    | false => exact ⟨e, F', H0, F0, De, x.trans x', S.ext x.ok x', by simpa using r, K⟩⟩
@[simp] def dBreak : WS := fun De e => De.bk e
@[simp] def dCont : WS := fun De e => De.ct e
theorem xs_break : ∀ Dn σ H, sD c E dBreak Dn σ H → tBreak Dn σ H := fun Dn σ H ⟨e, F, H0, F0, De, x, S, q, K⟩ => K.bk e σ H F q x S
theorem xs_cont : ∀ Dn σ H, sD c E dCont Dn σ H → tCont Dn σ H := fun Dn σ H ⟨e, F, H0, F0, De, x, S, q, K⟩ => K.ct e σ H F q x S
@[simp] def dNever : WS := fun _ _ => False
theorem xs_never : ∀ Dn σ H, sD c E dNever Dn σ H → tNever Dn σ H := fun Dn σ H ⟨e, F, H0, F0, De, x, S, q, K⟩ => q.elim
/-- a slot's own list is its own no more: from here on it is data -/
@[simp] def dFrz (i : Nat) (w : WS) : WS := fun De e => ∃ ds, e[i]? = some (.own ds) ∧ w De (e.set i (.val (.list ds)))
theorem RepS.frz {e : Sg} (S : RepS c H0 σ H F e) {i : Nat} {o0 : Option Hp} {ds : List D} (h : e[i]? = some (.ownO o0 ds)) {a : Addr} {vs : List V} (h1 : σ[i]? = some (some (.ref a))) (h2 : H a = some (.lst vs)) (h3 : F a = none) (k : RpAll c.K F vs ds) :
    RepS c H0 σ H (upd F a (.lst vs)) (e.set i (.val (.list ds))) where
  exc := exc_set0 (exc_grow S.exc (upd_keep h3)) fun _ _ z => nomatch z
  fix := fix_set0 (fix_grow S.fix (upd_keep h3)) fun _ _ _ z => nomatch z
  len := by simp [S.len]
  val := fun j d hj => by
    by_cases hij : i = j
    · subst hij
      have hl := (List.getElem?_eq_some_iff.mp h).1
      rw [List.getElem?_set_self hl] at hj
      cases hj
      exact ⟨_, h1, repLst upd_same (dpAll_same (upd_keep h3) _ _ k)⟩
    · rw [List.getElem?_set_ne hij] at hj
      obtain ⟨v, h5, h6⟩ := S.val j d hj
      exact ⟨v, h5, h6.grow (upd_keep h3)⟩
  ownO := fun j o es hj => by
    by_cases hij : i = j
    · subst hij
      have hl := (List.getElem?_eq_some_iff.mp h).1
      rw [List.getElem?_set_self hl] at hj
      cases hj
    · rw [List.getElem?_set_ne hij] at hj
      obtain ⟨b, ws, g1, g2, g3, g4, g5, g6⟩ := S.ownO j o es hj
      refine ⟨b, ws, g1, g2, ?_, g4, g5, dpAll_same (cutO_grow o (upd_keep h3)) _ _ g6⟩
      rw [upd_ne (fun z => ?_)]
      · exact g3
      · rw [z] at g1
        exact S.distO i j o0 o ds es a hij h hj h1 g1
  distO := fun j k o1 o2 es fs b hjk q1 q2 q3 q4 => by
    have f : ∀ (j : Nat) (o : Option Hp) (es : List D), (e.set i (.val (.list ds)))[j]? = some (.ownO o es) → i ≠ j := fun j o es hj z => by
      subst z
      have hl := (List.getElem?_eq_some_iff.mp h).1
      rw [List.getElem?_set_self hl] at hj
      cases hj
    rw [List.getElem?_set_ne (f j o1 es q1)] at q1
    rw [List.getElem?_set_ne (f k o2 fs q2)] at q2
    exact S.distO j k o1 o2 es fs b hjk q1 q2 q3 q4
theorem Ext.frz (x : Ext c H0 F0 H F) {a : Addr} {vs : List V} (h2 : H a = some (.lst vs)) (h3 : F a = none) (h4 : H0 a = none) (h5 : a ≠ c.r) : Ext c H0 F0 H (upd F a (.lst vs)) :=
  ⟨x.ok.freeze h2 h5 (fun ps z => by cases z), fun b o e => upd_keep h3 b o (x.grow b o e), x.keep, fun b hb hb' => by
    by_cases hp : b = a
    · rw [hp]; exact h4
    · rw [upd_ne hp] at hb'; exact x.new b hb hb', x.pre⟩
theorem xs_frz {i : Nat} {w : WS} : ∀ Dn σ H, sD c E (dFrz i w) Dn σ H → sD c E w Dn σ H := fun Dn σ H ⟨e, F, H0, F0, De, x, S, ⟨ds, h, q⟩, K⟩ => by
  obtain ⟨a, vs, h1, h2, h3, h4, h5, h6⟩ := S.own i ds h
  exact ⟨_, _, H0, F0, De, x.frz h2 h3 h4 h5, S.frz h h1 h2 h3 h6, q, K⟩
/-! ### targets -/
@[simp] def setAll : Sg → List Nat → List D → Sg
  | e, i :: is, d :: ds => setAll (e.set i (.val d)) is ds
  | e, _, _ => e
def gNames : List Nat → TGs
  | [] => gNil
  | i :: is => gCons (gName i) (gNames is)
theorem gNames_ok : ∀ (is : List Nat) {vs : List V} {ds : List D} {σ : L2.St} {e : Sg} {Q : L2.St → Hp → Prop}, RepS c H0 σ H F e → RpAll c.K F vs ds → ds.length = is.length →
    (∀ σ', RepS c H0 σ' H F (setAll e is ds) → Q σ' H) → gNames is vs σ H Q
  | [], _, _, _, _, _, S, k, hl, q => by
    cases k with
    | nil => exact ⟨rfl, q _ S⟩
    | cons _ _ => simp at hl
  | i :: is, _, _, _, _, _, S, k, hl, q => by
    cases k with
    | nil => simp at hl
    | cons h t => exact ⟨_, _, rfl, gNames_ok is (S.set_val i (.inl h)) t (by simpa using hl) q⟩
@[simp] def dUnp (is : List Nat) (w : W) : WS := fun De e => w e fun d => ∃ ds, d = .tuple ds ∧ ds.length = is.length ∧ De.nx (setAll e is ds)
theorem xs_unp {is : List Nat} {n : Nat} (hn : n = is.length) {w : W} : ∀ Dn σ H, sD c E (dUnp is w) Dn σ H → tAsg (tD c w) (gTup c.K n (gNames is)) Dn σ H := fun Dn σ H ⟨e, F, H0, F0, De, x, S, q, K⟩ =>
  ⟨e, F, H0, _, x.ok, S, q, fun d v H' F' ⟨ds, hd, hl, r⟩ x' rv => by
    subst hd
    obtain ⟨a, vs, rfl, ht, k⟩ := rv.tup_inv
    exact ⟨a, vs, rfl, same_t x'.ok.sub ht, by rw [dpAll_length k, hl, hn], gNames_ok is (S.ext x.ok x') k hl fun σ' S' => K.nx _ _ _ _ r (x.trans x') S'⟩⟩
/-! ### what is walked -/
structure Yields (c : Amb) (J : It) (F1 : Hp) (ds : List D) : Prop where
  go : ∀ i H F, i < ds.length → Wok c H F → Same F1 F → J.go i H
  yld : ∀ (i : Nat) d H F x H', ds[i]? = some d → Wok c H F → Same F1 F → J.yld i H x H' → ∃ F', Ext c H F H' F' ∧ RepV c F' x d
  stop : ∀ H F, Wok c H F → Same F1 F → J.stop ds.length H
theorem Yields.grow {J : It} {ds : List D} (Y : Yields c J F ds) (e : Same F F1) : Yields c J F1 ds :=
  ⟨fun i H F hi W s => Y.go i H F hi W (e.trans s), fun i d H F x H' hd W s y => Y.yld i d H F x H' hd W (e.trans s) y, fun H F W s => Y.stop H F W (e.trans s)⟩
def tI (c : Amb) (w : WA) : TI := fun σ H R => ∃ e F H0 Rd, Wok c H F ∧ RepS c H0 σ H F e ∧ w e Rd ∧ ∀ ds J H' F', Rd ds → Ext c H F H' F' → Yields c J F' ds → R J H'
@[simp] def iLst (w : W) : WA := fun e R => w e fun d => ∃ ds, d = .list ds ∧ R ds
@[simp] def iTpl (w : W) : WA := fun e R => w e fun d => ∃ ds, d = .tuple ds ∧ R ds
theorem yields_list {a : Addr} {vs : List V} {ds : List D} (h : F a = some (.lst vs)) (k : RpAll c.K F vs ds) : Yields c (Itl c.K a) F ds where
  go := fun i H G hi W s => by
    have hl := dpAll_length k
    exact ⟨vs, vs[i]'(by omega), SqL.of (W.sub _ _ (s _ _ h)), List.getElem?_eq_getElem _⟩
  yld := fun i d H G x H' hd W s ⟨e, y⟩ => by
    subst e
    have hx := y vs (SqL.of (W.sub _ _ (s _ _ h)))
    obtain ⟨d', h1, h2⟩ := dpAll_get k hx
    rw [hd] at h1
    cases h1
    exact ⟨G, Ext.refl W, .inl (dp_same s _ _ h2)⟩
  stop := fun H G W s => ⟨vs, SqL.of (W.sub _ _ (s _ _ h)), Nat.le_of_eq (dpAll_length k)⟩
theorem yields_tup {a : Addr} {vs : List V} {ds : List D} (h : SqT c.K F a vs) (k : RpAll c.K F vs ds) : Yields c (Itt c.K a) F ds where
  go := fun i H G hi W s => by
    have hl := dpAll_length k
    exact ⟨vs, vs[i]'(by omega), same_t (s.trans W.sub) h, List.getElem?_eq_getElem _⟩
  yld := fun i d H G x H' hd W s ⟨e, y⟩ => by
    subst e
    have hx := y vs (same_t (s.trans W.sub) h)
    obtain ⟨d', h1, h2⟩ := dpAll_get k hx
    rw [hd] at h1
    cases h1
    exact ⟨G, Ext.refl W, .inl (dp_same s _ _ h2)⟩
  stop := fun H G W s => ⟨vs, same_t (s.trans W.sub) h, Nat.le_of_eq (dpAll_length k)⟩
def rngD (lo : Int) (n : Nat) : List D := (List.range n).map fun k => .int (lo + (k : Nat))
theorem rngD_length {lo : Int} {n : Nat} : (rngD lo n).length = n := by simp [rngD]
theorem rngD_get {lo : Int} {n i : Nat} {d : D} (h : (rngD lo n)[i]? = some d) : i < n ∧ d = .int (lo + (i : Nat)) := by
  unfold rngD at h
  rw [List.getElem?_map] at h
  cases q : (List.range n)[i]? with
  | none => rw [q] at h; cases h
  | some j =>
    rw [q] at h
    cases h
    obtain ⟨hi, e⟩ := List.getElem?_eq_some_iff.mp q
    rw [List.getElem_range] at e
    subst e
    exact ⟨by simpa using hi, rfl⟩
theorem yields_rng {lo : Int} {n : Nat} : Yields c (Itr lo n) F (rngD lo n) where
  go := fun i H G hi W s => by rw [rngD_length] at hi; exact hi
  yld := fun i d H G x H' hd W s ⟨e, y⟩ => by
    subst e
    obtain ⟨_, rfl⟩ := rngD_get hd
    rw [y]
    exact ⟨G, Ext.refl W, .int⟩
  stop := fun H G W s => by rw [rngD_length]; exact Nat.le_refl n
theorem xi_list {w : W} : ∀ σ H R, tI c (iLst w) σ H R → iList c.K (tD c w) σ H R := fun σ H R ⟨e, F, H0, Rd, W, S, q, P⟩ =>
  ⟨e, F, H0, _, W, S, q, fun d v H' F' ⟨ds, hd, r⟩ x rv => by
    subst hd
    obtain ⟨a, vs, rfl, h, k⟩ := rv.list_inv
    exact ⟨a, rfl, ⟨vs, SqL.of (x.ok.sub _ _ h)⟩, P ds _ H' F' r x (yields_list h k)⟩⟩
theorem xi_tup {w : W} : ∀ σ H R, tI c (iTpl w) σ H R → iTup c.K (tD c w) σ H R := fun σ H R ⟨e, F, H0, Rd, W, S, q, P⟩ =>
  ⟨e, F, H0, _, W, S, q, fun d v H' F' ⟨ds, hd, r⟩ x rv => by
    subst hd
    obtain ⟨a, vs, rfl, h, k⟩ := rv.tup_inv
    exact ⟨a, rfl, ⟨vs, same_t x.ok.sub h⟩, P ds _ H' F' r x (yields_tup h k)⟩⟩
theorem repVs_ints_inv : ∀ {vs : List V} {l : List Int}, RepVs c F vs (l.map PyData.int) → vs = l.map V.int
  | _, [], .nil => rfl
  | _, _ :: _, .cons h t => by rw [repVs_ints_inv t, h.int_inv]; rfl
@[simp] def iR1 (w : WA) : WA := fun e R => w e fun ds => ∃ j : Int, ds = [.int j] ∧ -(2 ^ 62) ≤ j ∧ j < 2 ^ 62 ∧ R (rngD 0 j.toNat)
@[simp] def iR2 (w : WA) : WA := fun e R => w e fun ds => ∃ i j : Int, ds = [.int i, .int j] ∧ (-(2 ^ 62) ≤ i ∧ i < 2 ^ 62 ∧ -(2 ^ 62) ≤ j ∧ j < 2 ^ 62) ∧ R (rngD i (j - i).toNat)
theorem xi_rng1 {w : WA} : ∀ σ H R, tI c (iR1 w) σ H R → iRng1 (tA c w) σ H R := fun σ H R ⟨e, F, H0, Rd, W, S, q, P⟩ =>
  ⟨e, F, H0, _, W, S, q, fun ds vs H' F' ⟨j, hd, h1, h2, r⟩ x rv => by
    subst hd
    exact ⟨j, repVs_ints_inv (l := [j]) rv, h1, h2, P _ _ H' F' r x yields_rng⟩⟩
theorem xi_rng2 {w : WA} : ∀ σ H R, tI c (iR2 w) σ H R → iRng2 (tA c w) σ H R := fun σ H R ⟨e, F, H0, Rd, W, S, q, P⟩ =>
  ⟨e, F, H0, _, W, S, q, fun ds vs H' F' ⟨i, j, hd, h1, r⟩ x rv => by
    subst hd
    exact ⟨i, j, repVs_ints_inv (l := [i, j]) rv, h1, P _ _ H' F' r x yields_rng⟩⟩
/-! ### for -/
abbrev WG := D → Sg → (Sg → Prop) → Prop
/-- a target's reading: where it stores a datum -/
def gD (c : Amb) (wg : WG) (g : TG) : Prop := ∀ (v : V) (d : D) (σ : L2.St) (H F H0 : Hp) (e : Sg) (R : Sg → Prop) (Q : L2.St → Hp → Prop), Wok c H F → RepS c H0 σ H F e → RepV c F v d → wg d e R → (∀ σ' e', R e' → RepS c H0 σ' H F e' → Q σ' H) → g v σ H Q
@[simp] def tgN (i : Nat) : WG := fun d e R => R (e.set i (.val d))
@[simp] def tgT (is : List Nat) : WG := fun d e R => ∃ ds, d = .tuple ds ∧ ds.length = is.length ∧ R (setAll e is ds)
theorem gd_name {i : Nat} : gD c (tgN i) (gName i) := fun v d σ H F H0 e R Q W S rv r k => k _ _ r (S.set_val i rv)
theorem gd_tup {is : List Nat} {n : Nat} (hn : n = is.length) : gD c (tgT is) (gTup c.K n (gNames is)) := fun v d σ H F H0 e R Q W S rv ⟨ds, hd, hl, r⟩ k => by
  subst hd
  obtain ⟨a, vs, rfl, ht, kk⟩ := rv.tup_inv
  exact ⟨a, vs, rfl, same_t W.sub ht, by rw [dpAll_length kk, hl, hn], gNames_ok is S kk hl fun σ' S' => k _ _ r S'⟩
/-- a for over these, one after another -/
def forRun (wg : WG) (wb : WS) (De : EndsD) : List D → Sg → Prop
  | [], e => De.nx e
  | d :: ds, e => wg d e fun e' => wb { De with nx := fun e2 => forRun wg wb De ds e2, ct := fun e2 => forRun wg wb De ds e2, bk := De.nx, base := fun _ => False, pin := false } e'
@[simp] def dFor (wi : WA) (wg : WG) (wb : WS) : WS := fun De e => wi e fun ds => forRun wg wb De ds e
theorem drop_at {α : Type} {l : List α} {i : Nat} (h : i < l.length) : l.drop i = l[i] :: l.drop (i + 1) := List.drop_eq_getElem_cons h
theorem xs_for {wi : WA} {wg : WG} {wb : WS} {g : TG} (hg : gD c wg g) : ∀ Dn σ H, sD c E (dFor wi wg wb) Dn σ H → tFor (tI c wi) g (sD c E wb) Dn σ H := fun Dn σ H ⟨e, F, H0, F0, De, x, S, q, K⟩ =>
  ⟨e, F, H0, _, x.ok, S, q, fun ds J H1 F1 i0 x1 Y => by
    refine ⟨fun i m σ H => m = ds.length - i ∧ i ≤ ds.length ∧ ∃ e F, Ext c H0 F0 H F ∧ RepS c H0 σ H F e ∧ Same F1 F ∧ forRun wg wb De (ds.drop i) e, ⟨_, rfl, Nat.zero_le _, e, F1, x.trans x1, S.ext x.ok x1, fun _ _ h => h, i0⟩, ?_⟩
    rintro i m σ' H' ⟨rfl, hi, e', F', x', S', s', h'⟩
    by_cases hlt : i < ds.length
    · refine .inr ⟨Y.go i H' F' hlt x'.ok s', fun σ2 H2 => ∃ e F, Ext c H0 F0 H2 F ∧ RepS c H0 σ2 H2 F e ∧ Same F1 F ∧ forRun wg wb De (ds.drop (i + 1)) e, fun σ2 H2 ⟨e2, F2, a, b, d, f⟩ => ⟨ds.length - (i + 1), by omega, rfl, hlt, e2, F2, a, b, d, f⟩, fun v H2 y => ?_⟩
      have hd : ds[i]? = some ds[i] := List.getElem?_eq_getElem hlt
      rw [drop_at hlt] at h'
      obtain ⟨F2, x2, rv⟩ := Y.yld i _ H' F' v H2 hd x'.ok s' y
      refine hg v _ σ' H2 F2 H0 e' _ _ x2.ok (S'.ext x'.ok x2) rv h' fun σ3 e3 r3 S3 => ?_
      -- the frozen part has grown since the loop's start: it is carried in what is kept
      refine ⟨e3, F2, H0, F2, _, ⟨x2.ok, fun _ _ h => h, (x'.trans x2).keep, fun b h h' => absurd h h', x.pre⟩, S3, r3, ?_⟩
      have up : ∀ {H3 F3 : Hp}, Ext c H0 F2 H3 F3 → Ext c H0 F0 H3 F3 := fun {H3 F3} z => ⟨z.ok, fun b o h => z.grow b o ((x'.trans x2).grow b o h), z.keep, fun b h h' => by
        by_cases q2 : F2 b = none
        · exact z.new b q2 h'
        · exact (x'.trans x2).new b h q2, x.pre⟩
      refine ⟨fun e4 σ4 H4 F4 n z S4 => ⟨e4, F4, up z, S4, (s'.trans x2.grow).trans z.grow, n⟩, fun d4 v4 H4 F4 n z rv => K.rt d4 v4 H4 F4 n (up z) rv, fun ds4 p vs4 H4 F4 n z h0 h1 h2 h3 k4 => K.rn ds4 p vs4 H4 F4 n (up z) h0 h1 h2 h3 k4,
        fun e4 σ4 H4 F4 n z S4 => K.nx e4 σ4 H4 F4 n (up z) S4, fun e4 σ4 H4 F4 n z S4 => ⟨e4, F4, up z, S4, (s'.trans x2.grow).trans z.grow, n⟩, fun x4 H4 F4 n z => K.ex x4 H4 F4 n (up z), fun _ z => z.elim, fun d4 v4 H4 F4 n z rv => K.rf d4 v4 H4 F4 n (up z) (rv.grow (cutF_grow (fun _ _ h => h) fun b q _ => ?_)), fun z => nomatch z⟩
      cases q0 : F0 b with
      | none => rfl
      | some o =>
        have := x2.grow b o (x'.grow b o q0)
        rw [q] at this; cases this
    · have he : i = ds.length := by omega
      subst he
      rw [List.drop_length] at h'
      exact .inl ⟨Y.stop H' F' x'.ok s', K.nx e' σ' H' F' h' x' S'⟩⟩
/-! ### comprehensions -/
@[simp] def wipeS : Sg → List Nat → Sg
  | e, [] => e
  | e, v :: vs => (wipeS e vs).set v .un
theorem RepS.wipe {e : Sg} (S : RepS c H0 σ H F e) : ∀ vs : List Nat, RepS c H0 (wipe σ vs) H F (wipeS e vs)
  | [] => S
  | v :: vs => (S.wipe vs).set_un v none
/-- the slots that a target stores: what they forget again is as before -/
def Stores (g : TG) (vs : List Nat) : Prop := ∀ (v : V) (σ : L2.St) (H : Hp) (Q : L2.St → Hp → Prop), g v (wipe σ vs) H Q → g v (wipe σ vs) H fun σ2 H2 => wipe σ2 vs = wipe σ vs ∧ Q σ2 H2
theorem stores_name {i : Nat} : Stores (gName i) [i] := fun v σ H Q h => ⟨by simp [L2.wipe], h⟩
/-- a comprehension over these, one after another; acc: what is made so far -/
def lcRun (g : D → (Sg → Prop) → Prop) (wt : WT) (we : W) (R : List D → Prop) : List D → List D → Prop
  | [], acc => R acc
  | d :: ds, acc => g d fun e' => wt e' fun b => if b = true then we e' fun y => y ≠ .dict [] ∧ lcRun g wt we R ds (acc ++ [y]) else lcRun g wt we R ds acc
@[simp] def dLcW (wi : WA) (wg : WG) (wt : WT) (we : W) (vs : List Nat) : WA := fun e R => wi e fun ds => ds.length ≤ 1000000 ∧ lcRun (fun d k => wg d (wipeS e vs) k) wt we R ds []
theorem xn_lc {wi : WA} {wg : WG} {wt : WT} {we : W} {g : TG} {vs : List Nat} (hg : gD c wg g) (hs : Stores g vs) : ∀ σ H Q, tN c (dLcW wi wg wt we vs) σ H Q → tLc (tI c wi) g (tT c wt) (tD c we) vs σ H Q := fun σ H Q ⟨e, F, H0, R, W, S, q, P⟩ =>
  ⟨e, F, H0, _, W, S, q, fun ds J H1 F1 ⟨hlen, i0⟩ x1 Y => fun L hL => by
    have n0 : F1 L = none := x1.ok.newF hL
    have nr : L ≠ c.r := x1.ok.newR hL
    have h0 : H L = none := x1.free hL
    refine ⟨fun i m H2 => m = ds.length - i ∧ i ≤ ds.length ∧ ∃ F2 ws acc, Ext c H F H2 F2 ∧ Same F1 F2 ∧ H2 L = some (.lst ws) ∧ F2 L = none ∧ RpAll c.K F2 ws acc ∧ acc.length ≤ i ∧ lcRun (fun d k => wg d (wipeS e vs) k) wt we R (ds.drop i) acc,
      ⟨_, rfl, Nat.zero_le _, F1, [], [], x1.trans (Ext.loose x1.ok _ hL), fun _ _ h => h, upd_same, n0, .nil, Nat.le_refl _, i0⟩, ?_⟩
    rintro i m H2 ⟨rfl, hi, F2, ws, acc, x2, s2, hL2, n2, k2, ha, hI⟩
    by_cases hlt : i < ds.length
    · refine .inr ⟨Y.go i H2 F2 hlt x2.ok s2, fun H3 => ∃ F3 ws acc, Ext c H F H3 F3 ∧ Same F1 F3 ∧ H3 L = some (.lst ws) ∧ F3 L = none ∧ RpAll c.K F3 ws acc ∧ acc.length ≤ i + 1 ∧ lcRun (fun d k => wg d (wipeS e vs) k) wt we R (ds.drop (i + 1)) acc,
        fun H3 ⟨F3, ws3, acc3, a1, a2, a3, a4, a5, a6, a7⟩ => ⟨ds.length - (i + 1), by omega, rfl, hlt, F3, ws3, acc3, a1, a2, a3, a4, a5, a6, a7⟩, fun v H3 y => ?_⟩
      have hd : ds[i]? = some ds[i] := List.getElem?_eq_getElem hlt
      rw [drop_at hlt] at hI
      obtain ⟨F3, x3, rv⟩ := Y.yld i _ H2 F2 v H3 hd x2.ok s2 y
      have still : ∀ {H4 F4 : Hp}, Ext c H2 F2 H4 F4 → H4 L = some (.lst ws) ∧ F4 L = none ∧ RpAll c.K F4 ws acc := fun {H4 F4} z => by
        refine ⟨z.keep L _ hL2 nr (x2.ok.noP hL2), ?_, dpAll_same z.grow _ _ k2⟩
        cases q4 : F4 L with
        | none => exact rfl
        | some u =>
          have := z.new L n2 (by rw [q4]; simp)
          rw [hL2] at this; cases this
      refine hs v σ H3 _ (hg v _ _ H3 F3 H0 _ _ _ x3.ok ((S.wipe vs).ext W (x2.trans x3)) rv hI fun σ4 e4 r4 S4 => ?_)
      refine ⟨e4, F3, H0, _, x3.ok, S4, r4, fun b H5 F5 r5 x5 => ?_⟩
      have x35 := x3.trans x5
      cases b with
      | false =>
        obtain ⟨b1, b2, b3⟩ := still x35
        exact ⟨F5, ws, acc, x2.trans x35, (s2.trans x35.grow), b1, b2, b3, by omega, by simpa using r5⟩
      | true =>
        refine ⟨e4, F5, H0, fun y => y ≠ .dict [] ∧ lcRun (fun d k => wg d (wipeS e vs) k) wt we R (ds.drop (i + 1)) (acc ++ [y]), x5.ok, S4.ext x3.ok x5, by simpa using r5, fun y v6 H6 F6 ⟨hy, r6⟩ x6 rv6 => ?_⟩
        have x36 := x35.trans x6
        obtain ⟨b1, b2, b3⟩ := still x36
        have hz : ws.length = acc.length := dpAll_length k2
        refine ⟨ws, b1, len_lt (by omega), ⟨F6, ws ++ [v6], acc ++ [y], ?_, s2.trans x36.grow, upd_same, b2, dpAll_app b3 (.cons (rv6.dp hy) .nil), by simp; omega, r6⟩⟩
        exact (x2.trans x36).mut h0 b1 b2 nr _
    · have he : i = ds.length := by omega
      subst he
      rw [List.drop_length] at hI
      exact .inl ⟨Y.stop H2 F2 x2.ok s2, P acc L ws H2 F2 hI x2 h0 hL2 n2 nr k2⟩⟩
end
end FW
/-! FW3: built-ins, subscripts, slices, a slot's own list, defs. -/
namespace FW
open PySem PySem.Spec PyProof.Rows L2
section
variable {c : Amb} {E : XK} {H F H0 F0 H1 F1 : Hp} {σ : L2.St} {X : Cx}
theorem pe_gint {x : Str} {i : Int} {pos : Pos} (hg : Gl X x) (h : ∃ t, X.mg x = some (.int i t)) (hd : (x == ("__debug__" : Str)) = false := by decide) : PE X (.Name x pos) (tC (.int i)) := by
  obtain ⟨t, e⟩ := h
  exact pe_glob hg e ⟨t, rfl⟩ hd
/-! ### sequences read -/
inductive IsSeq : D → List D → Prop
  | lst (ds : List D) : IsSeq (.list ds) ds
  | tup (ds : List D) : IsSeq (.tuple ds) ds
theorem seq_inv {d : D} {ds : List D} (h : IsSeq d ds) {v : V} (r : RepV c F v d) (s : Same F H) : ∃ a vs, v = .ref a ∧ (SqL c.K H a vs ∨ SqT c.K H a vs) ∧ RpAll c.K F vs ds := by
  cases h with
  | lst =>
    obtain ⟨a, vs, e, h1, h2⟩ := r.list_inv
    exact ⟨a, vs, e, .inl (SqL.of (s _ _ h1)), h2⟩
  | tup =>
    obtain ⟨a, vs, e, h1, h2⟩ := r.tup_inv
    exact ⟨a, vs, e, .inr (same_t s h1), h2⟩
theorem reps1 {vs : List V} {d : D} (r : RepVs c F vs [d]) : ∃ v, vs = [v] ∧ RepV c F v d := by
  cases r with
  | cons h t => cases t; exact ⟨_, rfl, h⟩
theorem reps2 {vs : List V} {d e : D} (r : RepVs c F vs [d, e]) : ∃ v u, vs = [v, u] ∧ RepV c F v d ∧ RepV c F u e := by
  cases r with
  | cons h t =>
    obtain ⟨u, rfl, q⟩ := reps1 t
    exact ⟨_, _, rfl, h, q⟩
@[simp] def rdLen : List D → (D → Prop) → Prop := fun ds R => ∃ d xs, ds = [d] ∧ IsSeq d xs ∧ R (.int (xs.length : Nat))
theorem cd_len : CallD c (fun xs H Q => ∃ p ys, xs = [.ref p] ∧ (SqL c.K H p ys ∨ SqT c.K H p ys) ∧ Q (.int ys.length) H) rdLen := by
  rintro H F vs ds R Q W rv ⟨d, xs, rfl, hs, r⟩ P
  obtain ⟨v, rfl, q⟩ := reps1 rv
  obtain ⟨a, ws, rfl, h1, h2⟩ := seq_inv hs q W.sub
  refine ⟨a, ws, rfl, h1, P.here W r ?_⟩
  rw [dpAll_length h2]; exact .int
@[simp] def rdTuple : List D → (D → Prop) → Prop := fun ds R => ∃ d xs, ds = [d] ∧ IsSeq d xs ∧ R (.tuple xs)
theorem cd_tuple : CallD c (fun xs H Q => ∃ p ys, xs = [.ref p] ∧ ((SqL c.K H p ys ∧ ∀ l, H l = none → Q (.ref l) (upd H l (.tup ys))) ∨ (SqT c.K H p ys ∧ Q (.ref p) H))) rdTuple := by
  rintro H F vs ds R Q W rv ⟨d, xs, rfl, hs, r⟩ P
  obtain ⟨v, rfl, q⟩ := reps1 rv
  cases hs with
  | lst =>
    obtain ⟨a, ws, rfl, h1, h2⟩ := q.list_inv
    exact ⟨a, ws, rfl, .inl ⟨SqL.of (W.sub _ _ h1), P.newTup W h2 r⟩⟩
  | tup =>
    obtain ⟨a, ws, rfl, h1, h2⟩ := q.tup_inv
    exact ⟨a, ws, rfl, .inr ⟨same_t W.sub h1, P.here W r (.inl (.tup h1 h2))⟩⟩
@[simp] def rdList : List D → (D → Prop) → Prop := fun ds R => ∃ d xs, ds = [d] ∧ IsSeq d xs ∧ R (.list xs)
theorem cd_list : CallD c (fun xs H Q => ∃ p ys, xs = [.ref p] ∧ (SqL c.K H p ys ∨ SqT c.K H p ys) ∧ ∀ l, H l = none → Q (.ref l) (upd H l (.lst ys))) rdList := by
  rintro H F vs ds R Q W rv ⟨d, xs, rfl, hs, r⟩ P
  obtain ⟨v, rfl, q⟩ := reps1 rv
  obtain ⟨a, ws, rfl, h1, h2⟩ := seq_inv hs q W.sub
  exact ⟨a, ws, rfl, h1, P.newLst W h2 r⟩
def rdMax2 : List D → (D → Prop) → Prop := fun ds R => ∃ i j, ds = [.int i, .int j] ∧ R (.int (if j > i then j else i))
def rdMin2 : List D → (D → Prop) → Prop := fun ds R => ∃ i j, ds = [.int i, .int j] ∧ R (.int (if j < i then j else i))
theorem cd_max2 : CallD c (fun xs H Q => ∃ i j, xs = [.int i, .int j] ∧ Q (.int (if j > i then j else i)) H) rdMax2 := by
  rintro H F vs ds R Q W rv ⟨i, j, rfl, r⟩ P
  exact ⟨i, j, repVs_ints_inv (l := [i, j]) rv, P.here W r .int⟩
theorem cd_min2 : CallD c (fun xs H Q => ∃ i j, xs = [.int i, .int j] ∧ Q (.int (if j < i then j else i)) H) rdMin2 := by
  rintro H F vs ds R Q W rv ⟨i, j, rfl, r⟩ P
  exact ⟨i, j, repVs_ints_inv (l := [i, j]) rv, P.here W r .int⟩
def rdInt1 : List D → (D → Prop) → Prop := fun ds R => (∃ i, ds = [.int i] ∧ R (.int i)) ∨ ∃ k, ds = [.bool k] ∧ R (.int (if k then 1 else 0))
theorem cd_int1 : CallD c (fun xs H Q => (∃ i, xs = [.int i] ∧ Q (.int i) H) ∨ ∃ k, xs = [.bl k] ∧ Q (.int (if k then 1 else 0)) H) rdInt1 := by
  rintro H F vs ds R Q W rv (⟨i, rfl, r⟩ | ⟨k, rfl, r⟩) P
  · obtain ⟨v, rfl, q⟩ := reps1 rv
    exact .inl ⟨i, by rw [q.int_inv], P.here W r .int⟩
  · obtain ⟨v, rfl, q⟩ := reps1 rv
    exact .inr ⟨k, by rw [q.bl_inv], P.here W r .int⟩
def rdMaxL : List D → (D → Prop) → Prop := fun ds R => ∃ ns : List Int, ds = [.list (ns.map .int)] ∧ 0 < ns.length ∧ ∀ m, m ∈ ns → (∀ y, y ∈ ns → y ≤ m) → R (.int m)
def rdMinL : List D → (D → Prop) → Prop := fun ds R => ∃ ns : List Int, ds = [.list (ns.map .int)] ∧ 0 < ns.length ∧ ∀ m, m ∈ ns → (∀ y, y ∈ ns → m ≤ y) → R (.int m)
theorem cd_maxL : CallD c (rMax c.K) rdMaxL := by
  rintro H F vs ds R Q W rv ⟨ns, rfl, h, r⟩ P
  obtain ⟨v, rfl, q⟩ := reps1 rv
  obtain ⟨a, ws, rfl, h1, h2⟩ := q.list_inv
  have e := dpAll_ints_inv ns ws h2
  subst e
  exact ⟨a, ns, rfl, SqL.of (W.sub _ _ h1), h, fun m hm hle => P.here W (r m hm hle) .int⟩
theorem cd_minL : CallD c (rMin c.K) rdMinL := by
  rintro H F vs ds R Q W rv ⟨ns, rfl, h, r⟩ P
  obtain ⟨v, rfl, q⟩ := reps1 rv
  obtain ⟨a, ws, rfl, h1, h2⟩ := q.list_inv
  have e := dpAll_ints_inv ns ws h2
  subst e
  exact ⟨a, ns, rfl, SqL.of (W.sub _ _ h1), h, fun m hm hle => P.here W (r m hm hle) .int⟩
/-- sorted of ints -/
def rdSortI : List D → (D → Prop) → Prop := fun ds R => ∃ ns : List Int, ds = [.list (ns.map .int)] ∧ ∀ ns' : List Int, ns'.Perm ns → ns'.Pairwise (· ≤ ·) → R (.list (ns'.map .int))
theorem cd_sortI : CallD c (rSortedI c.K) rdSortI := by
  rintro H F vs ds R Q W rv ⟨ns, rfl, r⟩ P
  obtain ⟨v, rfl, q⟩ := reps1 rv
  obtain ⟨a, ws, rfl, h1, h2⟩ := q.list_inv
  have e := dpAll_ints_inv ns ws h2
  subst e
  exact ⟨a, ns, rfl, SqL.of (W.sub _ _ h1), fun ns' p hp hs hn => P.newLst W (dpAll_ints ns') (r ns' hp hs) p hn⟩
/-! ### a[i] -/
@[simp] def rdIx : D → D → (D → Prop) → Prop := fun x y R => ∃ ds i d, IsSeq x ds ∧ y = .int i ∧ atI ds i = some d ∧ R d
theorem atI_dp {K : PySem.W.Frag} {vs : List V} {ds : List D} {i : Int} {d : D} (k : RpAll K F vs ds) (h : atI ds i = some d) : ∃ v, atI vs i = some v ∧ Rp K F v d := by
  unfold atI at h ⊢
  rw [dpAll_length k]
  cases q : ixN ds.length i with
  | none => rw [q] at h; cases h
  | some j =>
    rw [q] at h
    exact dpAll_at k h
theorem od_ixL : OpD c (fun x y H Q => rIxL c.K x y H Q ∨ rIxT c.K x y H Q) rdIx := by
  rintro H F x y d e R Q W rx ry ⟨ds, i, d', hs, rfl, hi, r⟩ P
  cases hs with
  | lst =>
    obtain ⟨a, ws, rfl, h1, h2⟩ := rx.list_inv
    obtain ⟨v, e1, e2⟩ := atI_dp h2 hi
    exact .inl ⟨a, ws, i, v, rfl, ry.int_inv, SqL.of (W.sub _ _ h1), e1, P.here W r (.inl e2)⟩
  | tup =>
    obtain ⟨a, ws, rfl, h1, h2⟩ := rx.tup_inv
    obtain ⟨v, e1, e2⟩ := atI_dp h2 hi
    exact .inr ⟨a, ws, i, v, rfl, ry.int_inv, same_t W.sub h1, e1, P.here W r (.inl e2)⟩
theorem ix_lt : IxR X (fun x y H Q => rIxL X.K x y H Q ∨ rIxT X.K x y H Q) := ix_list.or ix_tup
/-! ### a[lo:hi] -/
abbrev WO := Sg → (Option Int → Prop) → Prop
def tO (c : Amb) (w : WO) : TO := fun σ H Q => ∃ e F H0 R, Wok c H F ∧ RepS c H0 σ H F e ∧ w e R ∧ ∀ o H' F', R o → Ext c H F H' F' → Q o H'
theorem po_w {X : Cx} {o : Option Expr} {t t' : TO} (h : PO X o t) (k : ∀ σ H Q, t' σ H Q → t σ H Q) : PO X o t' := ⟨fun pins s σ H Q I q => h.run pins s σ H Q I (k σ H Q q)⟩
@[simp] def oNone : WO := fun _ R => R none
@[simp] def oSome (w : W) : WO := fun e R => w e fun d => ∃ i, d = .int i ∧ R (some i)
theorem xo_none : ∀ σ H Q, tO c oNone σ H Q → tNoPart σ H Q := fun σ H Q ⟨e, F, H0, R, W, S, q, P⟩ => P none H F q (Ext.refl W)
theorem xo_some {w : W} : ∀ σ H Q, tO c (oSome w) σ H Q → tPart (tD c w) σ H Q := fun σ H Q ⟨e, F, H0, R, W, S, q, P⟩ =>
  ⟨e, F, H0, _, W, S, q, fun d v H1 F1 ⟨i, hi, q1⟩ x1 r1 => by subst hi; exact ⟨i, r1.int_inv, P _ H1 F1 q1 x1⟩⟩
def cutD (ds : List D) (lo hi : Option Int) : List D := (ds.drop (HT.sIx ds.length 0 lo)).take (HT.sIx ds.length ds.length hi - HT.sIx ds.length 0 lo)
theorem cut_dp {K : PySem.W.Frag} {vs : List V} {ds : List D} (k : RpAll K F vs ds) (lo hi : Option Int) : RpAll K F (cutV vs lo hi) (cutD ds lo hi) := by
  unfold cutV cutD
  rw [dpAll_length k]
  exact dpAll_take _ (dpAll_drop _ k)
@[simp] def dSl (w : W) (lo hi : WO) (mk : List D → D) : W := fun e R => w e fun d => lo e fun l => hi e fun h => ∃ ds, d = mk ds ∧ R (mk (cutD ds l h))
theorem xd_slT {w : W} {lo hi : WO} : ∀ σ H Q, tD c (dSl w lo hi .tuple) σ H Q → tSl (rSlA c.K) (tD c w) (tO c lo) (tO c hi) σ H Q := fun σ H Q ⟨e, F, H0, R, W, S, q, P⟩ =>
  ⟨e, F, H0, _, W, S, q, fun d v H1 F1 q1 x1 r1 => ⟨e, F1, H0, _, x1.ok, S.ext W x1, q1, fun l H2 F2 q2 x2 => ⟨e, F2, H0, _, x2.ok, (S.ext W x1).ext x1.ok x2, q2, fun h H3 F3 ⟨ds, hd, q3⟩ x3 => by
    subst hd
    have x13 := (x1.trans x2).trans x3
    obtain ⟨a, vs, rfl, h1, h2⟩ := (r1.grow (x2.trans x3).grow).tup_inv
    refine ⟨a, vs, rfl, same_t x3.ok.sub h1, fun hw => ?_, fun _ => (P.ext x13).newTup x3.ok (cut_dp h2 l h) q3⟩
    have e1 : cutD ds l h = ds := by
      unfold cutD
      rw [← dpAll_length h2, hw.1, hw.2]
      simp [dpAll_length h2]
    rw [e1] at q3
    exact P _ _ _ _ q3 x13 (.inl (.tup h1 h2))⟩⟩⟩
theorem xd_slL {w : W} {lo hi : WO} : ∀ σ H Q, tD c (dSl w lo hi .list) σ H Q → tSl (rSlL c.K) (tD c w) (tO c lo) (tO c hi) σ H Q := fun σ H Q ⟨e, F, H0, R, W, S, q, P⟩ =>
  ⟨e, F, H0, _, W, S, q, fun d v H1 F1 q1 x1 r1 => ⟨e, F1, H0, _, x1.ok, S.ext W x1, q1, fun l H2 F2 q2 x2 => ⟨e, F2, H0, _, x2.ok, (S.ext W x1).ext x1.ok x2, q2, fun h H3 F3 ⟨ds, hd, q3⟩ x3 => by
    subst hd
    have x13 := (x1.trans x2).trans x3
    obtain ⟨a, vs, rfl, h1, h2⟩ := (r1.grow (x2.trans x3).grow).list_inv
    exact ⟨a, vs, rfl, SqL.of (x3.ok.sub _ _ h1), (P.ext x13).newLst x3.ok (cut_dp h2 l h) q3⟩⟩⟩⟩
/-! ### + and * of sequences -/
@[simp] def rdCatT : D → D → (D → Prop) → Prop := fun x y R => ∃ xs ys, x = .tuple xs ∧ y = .tuple ys ∧ xs.length + ys.length ≤ 1000000 ∧ R (.tuple (xs ++ ys))
theorem od_catT : OpD c (rCatA c.K) rdCatT := by
  rintro H F x y d e R Q W rx ry ⟨xs, ys, rfl, rfl, hl, r⟩ P
  obtain ⟨a, vs, rfl, h1, h2⟩ := rx.tup_inv
  obtain ⟨b, us, rfl, g1, g2⟩ := ry.tup_inv
  have l1 := dpAll_length h2
  have l2 := dpAll_length g2
  refine ⟨a, b, vs, us, rfl, rfl, same_t W.sub h1, same_t W.sub g1, len_le (by omega), fun z => ?_, fun _ z => ?_, fun _ _ => P.newTup W (dpAll_app h2 g2) r⟩
  · subst z
    cases h2
    exact P.here W r (.inl (.tup g1 g2))
  · subst z
    cases g2
    rw [List.append_nil] at r
    exact P.here W r (.inl (.tup h1 h2))
@[simp] def rdCatL : D → D → (D → Prop) → Prop := fun x y R => ∃ xs ys, x = .list xs ∧ y = .list ys ∧ xs.length + ys.length ≤ 1000000 ∧ R (.list (xs ++ ys))
theorem od_catL : OpD c rCat rdCatL := by
  rintro H F x y d e R Q W rx ry ⟨xs, ys, rfl, rfl, hl, r⟩ P
  obtain ⟨a, vs, rfl, h1, h2⟩ := rx.list_inv
  obtain ⟨b, us, rfl, g1, g2⟩ := ry.list_inv
  have l1 := dpAll_length h2
  have l2 := dpAll_length g2
  exact ⟨a, b, vs, us, rfl, rfl, W.sub _ _ h1, W.sub _ _ g1, len_le (by omega), P.newLst W (dpAll_app h2 g2) r⟩
/-! ### in, not in, of flat data -/
def flatD : D → Bool
  | .none => true
  | .bool _ => true
  | .int _ => true
  | .str _ => true
  | _ => false
theorem flat_rp {K : PySem.W.Frag} {v : V} {d : D} (h : Rp K F v d) (hd : flatD d = true) : flatV v = true := by
  cases h <;> first | rfl | cases hd
theorem flat_all {K : PySem.W.Frag} : ∀ {vs : List V} {ds : List D}, RpAll K F vs ds → ds.all flatD = true → vs.all flatV = true
  | _, _, .nil, _ => rfl
  | _, _, .cons h t, e => by
    rw [List.all_cons, Bool.and_eq_true] at e ⊢
    exact ⟨flat_rp h e.1, flat_all t e.2⟩
def intsOf : List D → Option (List Int)
  | [] => some []
  | .int i :: r => (intsOf r).map (i :: ·)
  | _ => none
theorem inV_ints (i : Int) : ∀ l : List Int, inV (.int i) (l.map V.int) = decide (i ∈ l)
  | [] => rfl
  | j :: l => by
    have h := inV_ints i l
    unfold inV at h ⊢
    rw [List.map_cons, List.any_cons, h]
    have e : eqV (.int j) (.int i) = decide (j = i) := by
      show (j == i) = _
      exact Bool.beq_eq_decide_eq j i
    rw [e]
    by_cases q : i = j
    · subst q; simp
    · have q' : ¬ j = i := fun z => q z.symm
      simp [q, q']
theorem flat_ints : ∀ l : List Int, (l.map V.int).all flatV = true
  | [] => rfl
  | _ :: l => by rw [List.map_cons, List.all_cons, flat_ints l]; rfl
/-- an int in a sequence of ints -/
def rdInI (neg : Bool) : D → D → (D → Prop) → Prop := fun x y R => ∃ (i : Int) (ns : List Int), x = .int i ∧ (IsSeq y (ns.map PyData.int)) ∧ R (.bool (if neg = true then !decide (i ∈ ns) else decide (i ∈ ns)))
theorem od_inI {neg : Bool} : OpD c (rIn c.K neg) (rdInI neg) := by
  rintro H F x y d e R Q W rx ry ⟨i, ns, rfl, hs, r⟩ P
  have ex := rx.int_inv
  subst ex
  obtain ⟨a, vs, rfl, h1, h2⟩ := seq_inv hs ry W.sub
  have ev := dpAll_ints_inv ns vs h2
  subst ev
  refine ⟨a, _, rfl, h1, rfl, flat_ints ns, ?_⟩
  rw [inV_ints]
  exact P.here W r .bl
/-! ### list(range(..)) -/
def tRgD (c : Amb) (w : Sg → (Int → Int → Prop) → Prop) : L2.St → Hp → (Int → Int → Hp → Prop) → Prop := fun σ H Q => ∃ e F H0 R, Wok c H F ∧ RepS c H0 σ H F e ∧ w e R ∧ ∀ a b H' F', R a b → Ext c H F H' F' → Q a b H'
theorem prg_w {x : Expr} {t t' : L2.St → Hp → (Int → Int → Hp → Prop) → Prop} (h : PRg X x t) (k : ∀ σ H Q, t' σ H Q → t σ H Q) : PRg X x t' := fun pins s σ H Q I q => h pins s σ H Q I (k σ H Q q)
@[simp] def gRg2 (wa wb : W) : Sg → (Int → Int → Prop) → Prop := fun e R => wa e fun x => wb e fun y => ∃ i j, x = .int i ∧ y = .int j ∧ R i j
@[simp] def gRg1 (wa : W) : Sg → (Int → Int → Prop) → Prop := fun e R => wa e fun x => ∃ i, x = .int i ∧ R 0 i
theorem xg_rg2 {wa wb : W} : ∀ σ H Q, tRgD c (gRg2 wa wb) σ H Q → tRg2 (tD c wa) (tD c wb) σ H Q := fun σ H Q ⟨e, F, H0, R, W, S, q, P⟩ =>
  ⟨e, F, H0, _, W, S, q, fun d v H1 F1 q1 x1 r1 => ⟨e, F1, H0, _, x1.ok, S.ext W x1, q1, fun d2 v2 H2 F2 ⟨i, j, h1, h2, r⟩ x2 r2 => by
    subst h1 h2
    exact ⟨i, j, r1.int_inv, r2.int_inv, P i j H2 F2 r (x1.trans x2)⟩⟩⟩
theorem xg_rg1 {wa : W} : ∀ σ H Q, tRgD c (gRg1 wa) σ H Q → tRg1 (tD c wa) σ H Q := fun σ H Q ⟨e, F, H0, R, W, S, q, P⟩ =>
  ⟨e, F, H0, _, W, S, q, fun d v H1 F1 ⟨i, h1, r⟩ x1 r1 => by
    subst h1
    exact ⟨i, r1.int_inv, P 0 i H1 F1 r x1⟩⟩
@[simp] def dLstRg (w : Sg → (Int → Int → Prop) → Prop) : W := fun e R => w e fun a b => RgOk a b ∧ R (.list (rngD a (b - a).toNat))
theorem rgV_dp {K : PySem.W.Frag} (a b : Int) : RpAll K F (rgV a b) (rngD a (b - a).toNat) := by
  unfold rgV rngD
  have e1 : ∀ n : List Nat, n.map (fun i => V.int (a + (i : Nat))) = (n.map fun i => a + (i : Nat)).map V.int := fun n => by rw [List.map_map]; rfl
  have e2 : ∀ n : List Nat, n.map (fun i => PyData.int (a + (i : Nat))) = (n.map fun i => a + (i : Nat)).map PyData.int := fun n => by rw [List.map_map]; rfl
  rw [e1, e2]
  exact dpAll_ints _
theorem xd_lstRg {w : Sg → (Int → Int → Prop) → Prop} : ∀ σ H Q, tD c (dLstRg w) σ H Q → tLstRg (tRgD c w) σ H Q := fun σ H Q ⟨e, F, H0, R, W, S, q, P⟩ =>
  ⟨e, F, H0, _, W, S, q, fun a b H1 F1 ⟨h, r⟩ x1 => ⟨h, (P.ext x1).newLst x1.ok (rgV_dp a b) r⟩⟩
/-! ### zip of two tuples, a pair as the target -/
def rdZip (ds : List D) (R : List D → Prop) : Prop := ∃ xs ys, ds = [.tuple xs, .tuple ys] ∧ R ((xs.zip ys).map fun p => .tuple [p.1, p.2])
@[simp] def iZip (w : WA) : WA := fun e R => w e fun ds => rdZip ds R
theorem yields_zip {a b : Addr} {vs us : List V} {xs ys : List D} (h : SqT c.K F a vs) (k : RpAll c.K F vs xs) (h' : SqT c.K F b us) (k' : RpAll c.K F us ys) : Yields c (RZ.ItzT c.K a b) F ((xs.zip ys).map fun p => .tuple [p.1, p.2]) where
  go := fun i H G hi W s => by
    have hl := dpAll_length k
    have hl' := dpAll_length k'
    simp at hi
    exact ⟨vs, us, vs[i]'(by omega), us[i]'(by omega), same_t (s.trans W.sub) h, same_t (s.trans W.sub) h', List.getElem?_eq_getElem _, List.getElem?_eq_getElem _⟩
  yld := fun i d H G x H' hd W s ⟨T, x1, x2, e, hT, hH, q1, q2⟩ => by
    subst e hH
    obtain ⟨d1, e1, r1⟩ := dpAll_get k (q1 vs (same_t (s.trans W.sub) h))
    obtain ⟨d2, e2, r2⟩ := dpAll_get k' (q2 us (same_t (s.trans W.sub) h'))
    have e3 : ((xs.zip ys).map fun p => PyData.tuple [p.1, p.2])[i]? = some (.tuple [d1, d2]) := by
      rw [List.getElem?_map, List.getElem?_zip_eq_some (z := (d1, d2)) |>.mpr ⟨e1, e2⟩]; rfl
    rw [hd] at e3
    cases e3
    exact ⟨_, Ext.laid W _ hT, repTup upd_same (.cons (dp_same (s.trans (upd_keep (W.newF hT))) _ _ r1) (.cons (dp_same (s.trans (upd_keep (W.newF hT))) _ _ r2) .nil))⟩
  stop := fun H G W s => by
    have hl := dpAll_length k
    have hl' := dpAll_length k'
    refine ⟨vs, us, same_t (s.trans W.sub) h, same_t (s.trans W.sub) h', ?_⟩
    simp
    omega
theorem xi_zip {w : WA} : ∀ σ H R, tI c (iZip w) σ H R → RZ.iZipA c.K (tA c w) σ H R := fun σ H R ⟨e, F, H0, Rd, W, S, q, P⟩ =>
  ⟨e, F, H0, _, W, S, q, fun ds vs H' F' ⟨xs, ys, hd, r⟩ x rv => by
    subst hd
    obtain ⟨v, u, rfl, r1, r2⟩ := reps2 rv
    obtain ⟨a, us, rfl, h1, h2⟩ := r1.tup_inv
    obtain ⟨b, ws, rfl, g1, g2⟩ := r2.tup_inv
    exact ⟨a, b, us, ws, rfl, .inr ⟨same_t x.ok.sub h1, same_t x.ok.sub g1, P _ _ H' F' r x (yields_zip h1 h2 g1 g2)⟩⟩⟩
theorem stores_pair {K : PySem.W.Frag} {i j : Nat} : Stores (gTup K 2 (gNames [i, j])) [i, j] := fun v σ H Q ⟨a, xs, h1, h2, h3, x, r, h4, y, r', h5, h6, q⟩ =>
  ⟨a, xs, h1, h2, h3, x, r, h4, y, r', h5, h6, by
    simp [L2.wipe]
    apply List.ext_getElem?
    intro k
    simp only [List.getElem?_set, List.length_set]
    split <;> split <;> simp_all, q⟩
/-! ### a slot's own list -/
/-- x[k] -/
@[simp] def dOwnIx (i : Nat) (w : W) : W := fun e R => ∃ ds, e[i]? = some (.own ds) ∧ w e fun k => ∃ n d, k = .int n ∧ atI ds n = some d ∧ R d
theorem xd_ownIx {i : Nat} {w : W} : ∀ σ H Q, tD c (dOwnIx i w) σ H Q → tOp (fun x y H Q => rIxL c.K x y H Q ∨ rIxT c.K x y H Q) (tVar i) (tD c w) σ H Q := fun σ H Q ⟨e, F, H0, R, W, S, ⟨ds, h, q⟩, P⟩ => by
  obtain ⟨a, vs, h1, h2, h3, h4, h5, h6⟩ := S.own i ds h
  refine ⟨.ref a, h1, e, F, H0, _, W, S, q, fun d v H1 F1 ⟨n, d', g2, g3, r⟩ x1 rv => ?_⟩
  subst g2
  obtain ⟨v', e1, e2⟩ := atI_dp (dpAll_same x1.grow _ _ h6) g3
  exact .inl ⟨a, vs, n, v', rfl, rv.int_inv, SqL.of (x1.keep a _ h2 h5 (W.noP h2)), e1, P _ _ H1 F1 r x1 (.inl e2)⟩
/-- len(x) -/
@[simp] def dOwnLen (i : Nat) : W := fun e R => ∃ ds, e[i]? = some (.own ds) ∧ R (.int (ds.length : Nat))
theorem xd_ownLen {i : Nat} : ∀ σ H Q, tD c (dOwnLen i) σ H Q → tCB (fun xs H Q => ∃ p ys, xs = [.ref p] ∧ (SqL c.K H p ys ∨ SqT c.K H p ys) ∧ Q (.int ys.length) H) (tCons (tVar i) tNil) σ H Q := fun σ H Q ⟨e, F, H0, R, W, S, ⟨ds, h, q⟩, P⟩ => by
  obtain ⟨a, vs, h1, h2, h3, h4, h5, h6⟩ := S.own i ds h
  refine ⟨.ref a, h1, a, vs, rfl, .inl (SqL.of h2), P.here W q ?_⟩
  rw [dpAll_length h6]; exact .int
/-- the list of slot i becomes another one -/
theorem RepS.mutO {e : Sg} (S : RepS c H0 σ H F e) {i : Nat} {o0 : Option Hp} {ds : List D} (h : e[i]? = some (.ownO o0 ds)) {a : Addr} {vs : List V} (h1 : σ[i]? = some (some (.ref a))) (h3 : F a = none) (h4 : H0 a = none) (h5 : a ≠ c.r) {ds' : List D} (k : RpAll c.K (cutO F o0) vs ds') :
    RepS c H0 σ (upd H a (.lst vs)) F (e.set i (.ownO o0 ds')) where
  exc := exc_set0 S.exc fun _ _ z => nomatch z
  fix := fix_set0 S.fix fun _ _ _ z => nomatch z
  len := by simp [S.len]
  val := fun j d hj => by
    by_cases hij : i = j
    · subst hij
      have hl := (List.getElem?_eq_some_iff.mp h).1
      rw [List.getElem?_set_self hl] at hj
      cases hj
    · rw [List.getElem?_set_ne hij] at hj
      exact S.val j d hj
  ownO := fun j o es hj => by
    by_cases hij : i = j
    · subst hij
      have hl := (List.getElem?_eq_some_iff.mp h).1
      rw [List.getElem?_set_self hl] at hj
      cases hj
      exact ⟨a, vs, h1, upd_same, h3, h4, h5, k⟩
    · rw [List.getElem?_set_ne hij] at hj
      obtain ⟨b, ws, g1, g2, g3, g4, g5, g6⟩ := S.ownO j o es hj
      refine ⟨b, ws, g1, ?_, g3, g4, g5, g6⟩
      rw [upd_ne (fun z => ?_)]
      · exact g2
      · rw [z] at g1
        exact S.distO i j o0 o ds es a hij h hj h1 g1
  distO := fun j k' o1 o2 es fs b hjk q1 q2 q3 q4 => by
    have f : ∀ (j : Nat) (o : Option Hp) (es : List D), (e.set i (.ownO o0 ds'))[j]? = some (.ownO o es) → ∃ o', ∃ es', e[j]? = some (.ownO o' es') := fun j o es hj => by
      by_cases hij : i = j
      · subst hij
        exact ⟨o0, ds, h⟩
      · rw [List.getElem?_set_ne hij] at hj
        exact ⟨o, es, hj⟩
    obtain ⟨o3, es1, p1⟩ := f j o1 es q1
    obtain ⟨o4, es2, p2⟩ := f k' o2 fs q2
    exact S.distO j k' o3 o4 es1 es2 b hjk p1 p2 q3 q4
theorem RepS.mut {e : Sg} (S : RepS c H0 σ H F e) {i : Nat} {ds : List D} (h : e[i]? = some (.own ds)) {a : Addr} {vs : List V} (h1 : σ[i]? = some (some (.ref a))) (h3 : F a = none) (h4 : H0 a = none) (h5 : a ≠ c.r) {ds' : List D} (k : RpAll c.K F vs ds') :
    RepS c H0 σ (upd H a (.lst vs)) F (e.set i (.own ds')) := S.mutO h h1 h3 h4 h5 k
/-- x.append(e) -/
@[simp] def dApp (i : Nat) (w : W) : WS := fun De e => ∃ ds, e[i]? = some (.own ds) ∧ w e fun d => d ≠ .dict [] ∧ ds.length < 1000000 ∧ De.nx (e.set i (.own (ds ++ [d])))
theorem xs_app {i : Nat} {w : W} : ∀ Dn σ H, sD c E (dApp i w) Dn σ H → tDrop (tBM c.K "list" rAppend (tVar i) (tCons (tD c w) tNil)) Dn σ H := fun Dn σ H ⟨e, F, H0, F0, De, x, S, ⟨ds, h, q⟩, K⟩ => by
  obtain ⟨a, vs, h1, h2, h3, h4, h5, h6⟩ := S.own i ds h
  refine ⟨.ref a, h1, .inl ⟨rfl, vs, SqL.of h2⟩, e, F, H0, _, x.ok, S, q, fun d v H1 F1 ⟨hd, hl, r⟩ x1 rv => ?_⟩
  have g2 := x1.keep a _ h2 h5 (x.ok.noP h2)
  have g3 : F1 a = none := by
    obtain ⟨b, ws, e1, e2, e3, _⟩ := (S.ext x.ok x1).own i ds h
    rw [h1] at e1; cases e1; exact e3
  have kk := dpAll_app (dpAll_same x1.grow _ _ h6) (.cons (rv.dp hd) .nil)
  refine ⟨a, vs, v, rfl, rfl, g2, len_lt (by rw [dpAll_length h6]; exact hl), ?_⟩
  exact K.nx _ _ _ _ r ((x.trans x1).mut h4 g2 g3 h5 _) ((S.ext x.ok x1).mut h h1 g3 h4 h5 kk)
/-- x.extend(e) -/
@[simp] def dExt (i : Nat) (w : W) : WS := fun De e => ∃ ds, e[i]? = some (.own ds) ∧ w e fun d => ∃ es, d = .list es ∧ ds.length + es.length ≤ 1000000 ∧ De.nx (e.set i (.own (ds ++ es)))
theorem xs_ext {i : Nat} {w : W} : ∀ Dn σ H, sD c E (dExt i w) Dn σ H → tDrop (tBM c.K "list" rExtend (tVar i) (tCons (tD c w) tNil)) Dn σ H := fun Dn σ H ⟨e, F, H0, F0, De, x, S, ⟨ds, h, q⟩, K⟩ => by
  obtain ⟨a, vs, h1, h2, h3, h4, h5, h6⟩ := S.own i ds h
  refine ⟨.ref a, h1, .inl ⟨rfl, vs, SqL.of h2⟩, e, F, H0, _, x.ok, S, q, fun d v H1 F1 ⟨es, hd, hl, r⟩ x1 rv => ?_⟩
  subst hd
  obtain ⟨b, us, rfl, b1, b2⟩ := rv.list_inv
  have g2 := x1.keep a _ h2 h5 (x.ok.noP h2)
  have g3 : F1 a = none := by
    obtain ⟨b, ws, e1, e2, e3, _⟩ := (S.ext x.ok x1).own i ds h
    rw [h1] at e1; cases e1; exact e3
  have kk := dpAll_app (dpAll_same x1.grow _ _ h6) b2
  refine ⟨a, b, vs, us, rfl, rfl, g2, x1.ok.sub _ _ b1, len_le (by rw [dpAll_length h6, dpAll_length b2]; exact hl), ?_⟩
  exact K.nx _ _ _ _ r ((x.trans x1).mut h4 g2 g3 h5 _) ((S.ext x.ok x1).mut h h1 g3 h4 h5 kk)
/-- x[k] = e -/
@[simp] def dSetI (i : Nat) (w wk : W) : WS := fun De e => w e fun d => ∃ ds, e[i]? = some (.own ds) ∧ wk e fun k => ∃ n j, k = .int n ∧ ixN ds.length n = some j ∧ d ≠ .dict [] ∧ De.nx (e.set i (.own (ds.set j d)))
theorem xs_setI {i : Nat} {w wk : W} : ∀ Dn σ H, sD c E (dSetI i w wk) Dn σ H → tAsg (tD c w) (gSub (tVar i) (tD c wk) rSetL) Dn σ H := fun Dn σ H ⟨e, F, H0, F0, De, x, S, q, K⟩ => by
  refine ⟨e, F, H0, _, x.ok, S, q, fun d v H1 F1 ⟨ds, h, q1⟩ x1 rv => ?_⟩
  have S1 := S.ext x.ok x1
  obtain ⟨a, vs, h1, h2, h3, h4, h5, h6⟩ := S1.own i ds h
  refine ⟨.ref a, h1, e, F1, H0, _, x1.ok, S1, q1, fun k u H2 F2 ⟨n, j, hk, hj, hd, r⟩ x2 ru => ?_⟩
  subst hk
  have g2 := x2.keep a _ h2 h5 (x1.ok.noP h2)
  have g3 : F2 a = none := by
    obtain ⟨b, ws, e1, e2, e3, _⟩ := (S1.ext x1.ok x2).own i ds h
    rw [h1] at e1; cases e1; exact e3
  have kk := dpAll_set ((rv.grow x2.grow).dp hd) j (dpAll_same x2.grow _ _ h6)
  refine ⟨a, vs, n, j, rfl, ru.int_inv, g2, by rw [dpAll_length h6]; exact hj, ?_⟩
  exact K.nx _ _ _ _ r (((x.trans x1).trans x2).mut h4 g2 g3 h5 _) ((S1.ext x1.ok x2).mut h h1 g3 h4 h5 kk)
/-- [v] * n, nobody's yet -/
@[simp] def nRep (w : WA) (wn : W) : WA := fun e R => w e fun ds => ds.length ≤ 1000 ∧ noRow ds ∧ wn e fun y => ∃ k : Int, y = .int k ∧ 0 ≤ k ∧ k ≤ 1000 ∧ R (List.replicate k.toNat ds).flatten
end
/-! ### defs -/
/-- a def of the top, as the head tells it -/
abbrev FunP (K : PySem.W.Frag) (x : Str) (st : Stmt) (f : Addr) (fd : FuncData) : Prop := FunD K x x (defArgs st) (defBody st) (defScope st) [] [] f fd
@[simp] def startD (N : List Str) (ds : List D) : Sg := ds.map .val ++ List.replicate (N.length - ds.length) .un
theorem rep_start {c : Amb} {H F : Hp} {N : List Str} : ∀ {vs : List V} {ds : List D}, RepVs c F vs ds → RepS c H (L2.start N vs) H F (startD N ds) := fun {vs ds} r => by
  have hl := r.length
  have vals : ∀ {vs : List V} {ds : List D}, RepVs c F vs ds → ∀ (i : Nat) (d : D), ds[i]? = some d → ∃ v, vs[i]? = some v ∧ RepV c F v d := by
    intro vs ds r
    induction r with
    | nil => intro i d h; simp at h
    | cons h t ih =>
      intro i d e
      cases i with
      | zero => simp at e; subst e; exact ⟨_, rfl, h⟩
      | succ i => obtain ⟨v, h1, h2⟩ := ih i d (by simpa using e); exact ⟨v, by simpa using h1, h2⟩
  have noOwn : ∀ (i : Nat) (o : Option Hp) (es : List D), (startD N ds)[i]? ≠ some (.ownO o es) := fun i o es h => by
    unfold startD at h
    by_cases hi : i < ds.length
    · rw [List.getElem?_append_left (by simpa using hi), List.getElem?_map] at h
      cases q : ds[i]? with
      | none => rw [q] at h; cases h
      | some d => rw [q] at h; cases h
    · rw [List.getElem?_append_right (by simpa using hi), List.getElem?_replicate] at h
      split at h <;> cases h
  have noFix : ∀ (i : Nat) (k : Bool) (Fb : Hp) (d : D), (startD N ds)[i]? ≠ some (.fix k Fb d) := fun i k Fb d0 h => by
    unfold startD at h
    by_cases hi : i < ds.length
    · rw [List.getElem?_append_left (by simpa using hi), List.getElem?_map] at h
      cases q : ds[i]? with
      | none => rw [q] at h; cases h
      | some d => rw [q] at h; cases h
    · rw [List.getElem?_append_right (by simpa using hi), List.getElem?_replicate] at h
      split at h <;> cases h
  have noExc : ∀ (i : Nat) (a : Addr) (o : Option (Addr × Int)), (startD N ds)[i]? ≠ some (.exc a o) := fun i a o h => by
    unfold startD at h
    by_cases hi : i < ds.length
    · rw [List.getElem?_append_left (by simpa using hi), List.getElem?_map] at h
      cases q : ds[i]? with
      | none => rw [q] at h; cases h
      | some d => rw [q] at h; cases h
    · rw [List.getElem?_append_right (by simpa using hi), List.getElem?_replicate] at h
      split at h <;> cases h
  refine ⟨by unfold L2.start startD; simp [hl], fun i d h => ?_, fun i o es h => absurd h (noOwn i o es), fun i j o _ es fs a _ h => absurd h (noOwn i o es), fun i a o h => absurd h (noExc i a o), fun i k Fb d h => absurd h (noFix i k Fb d)⟩
  unfold startD at h
  by_cases hi : i < ds.length
  · rw [List.getElem?_append_left (by simpa using hi), List.getElem?_map] at h
    cases q : ds[i]? with
    | none => rw [q] at h; cases h
    | some d' =>
      rw [q] at h
      cases h
      obtain ⟨v, h1, h2⟩ := vals r i d q
      refine ⟨v, ?_, h2⟩
      unfold L2.start
      rw [List.getElem?_append_left (by simp; omega), List.getElem?_map, h1]; rfl
  · rw [List.getElem?_append_right (by simpa using hi), List.getElem?_replicate] at h
    split at h <;> cases h
section
variable {P : Program} {w : World} {g : Glb} {mg : Str → Option Value} {base : Heap} {x : Str} {st : Stmt} {f : Addr} {fd : FuncData} {N ps : List Str} {k : Nat} {wb : WS}
/-- THE RULE for a def: its body over data -/
theorem calD {f0 : Fd} (Fn : FunP g.K x st f fd) (mgf : mg x = some (.ref f)) (b : Binds g.K fd ps []) (S : FnScope N ps (defScope st)) (hlen : ∀ ds R, f0 ds R → ds.length = ps.length)
    (hb : ∀ (cdv : Value) (A : Around) (outer : List PySem.Env) (s : Shared) (H : Hp) (E : XK) (r a : Addr) (ns : List Int), Room k (A.deeper (envOfC x (defScope st) s.heap.objs.size f cdv)) →
      PSs (cxOf CX0 P w g.K mg base N x (defScope st) f cdv A outer s H E).nox (defBody st) (sD ⟨g, r, a, ns⟩ E wb))
    (hp : ∀ ds R, f0 ds R → wb { nx := fun _ => R .none, rt := R } (startD N ds)) : C8.Cal P w g.K mg base (k + 1) x (spD g f0) [] := by
  refine ⟨f, fd, ps, [], Fn.ok S (fun vs H Q E h => ?_) (fun cdv A outer s H vs Q E hr h => ?_), mgf, Fn.kp, b, .nil⟩
  · obtain ⟨c, F, ds, R, _, _, rv, h, _⟩ := h
    rw [rv.length]; exact hlen ds R h
  · obtain ⟨⟨g', r, a, ns⟩, F, ds, R, hg, W, rv, h, P'⟩ := h
    have hg' : g' = g := hg
    subst hg'
    refine ⟨_, (hb cdv A outer s H E r a ns hr).nox, startD N ds, F, H, F, _, Ext.refl W, rep_start rv, hp ds R h, ?_⟩
    exact ⟨fun e σ H' F' q x S' => P' _ _ H' F' q x .non, fun d v H' F' q x rv => P' d v H' F' q x rv, fun _ _ _ _ _ z => z.elim, fun _ _ _ _ z => z.elim, fun _ _ _ _ z => z.elim, fun _ _ _ z => z.elim, fun _ z => z.elim, fun _ _ _ _ z => z.elim, fun z => nomatch z⟩
/-- .. that hands back a new list -/
theorem calN {f0 : Fn} (Fn : FunP g.K x st f fd) (mgf : mg x = some (.ref f)) (b : Binds g.K fd ps []) (S : FnScope N ps (defScope st)) (hlen : ∀ ds R, f0 ds R → ds.length = ps.length)
    (hb : ∀ (cdv : Value) (A : Around) (outer : List PySem.Env) (s : Shared) (H : Hp) (E : XK) (r a : Addr) (ns : List Int), Room k (A.deeper (envOfC x (defScope st) s.heap.objs.size f cdv)) →
      PSs (cxOf CX0 P w g.K mg base N x (defScope st) f cdv A outer s H E).nox (defBody st) (sD ⟨g, r, a, ns⟩ E wb))
    (hp : ∀ ds R, f0 ds R → wb { nx := fun _ => False, rt := fun _ => False, rn := R } (startD N ds)) : C8.Cal P w g.K mg base (k + 1) x (spN g f0) [] := by
  refine ⟨f, fd, ps, [], Fn.ok S (fun vs H Q E h => ?_) (fun cdv A outer s H vs Q E hr h => ?_), mgf, Fn.kp, b, .nil⟩
  · obtain ⟨c, F, ds, R, _, _, rv, h, _⟩ := h
    rw [rv.length]; exact hlen ds R h
  · obtain ⟨⟨g', r, a, ns⟩, F, ds, R, hg, W, rv, h, P'⟩ := h
    have hg' : g' = g := hg
    subst hg'
    refine ⟨_, (hb cdv A outer s H E r a ns hr).nox, startD N ds, F, H, F, _, Ext.refl W, rep_start rv, hp ds R h, ?_⟩
    exact ⟨fun _ _ _ _ z => z.elim, fun _ _ _ _ z => z.elim, fun ds p vs H' F' q x h0 h1 h2 h3 kk => P' ds p vs H' F' q x h0 h1 h2 h3 kk, fun _ _ _ _ z => z.elim, fun _ _ _ _ z => z.elim, fun _ _ _ z => z.elim, fun _ z => z.elim, fun _ _ _ _ z => z.elim, fun z => nomatch z⟩
/-- a new list is a list -/
theorem calN_D {f0 : Fn} (C : C8.Cal P w g.K mg base k x (spN g f0) []) : C8.Cal P w g.K mg base k x (spD g fun ds R => f0 ds fun es => R (.list es)) [] := by
  obtain ⟨f, fd, ps, ds, F, h⟩ := C.ex
  refine ⟨f, fd, ps, ds, F.imp fun vs H Q E ⟨c, F, ds, R, hg, W, rv, h, P'⟩ => ⟨c, F, ds, _, hg, W, rv, h, fun es p us H' F' r x h0 h1 h2 h3 kk => Post.frozen P' x h0 h1 h3 h2 kk r⟩, h⟩
end
/-! ### tests and stores by one more step -/
section
variable {c : Amb} {E : XK} {H F H0 F0 : Hp} {σ : L2.St}
theorem xt_cmp {r : R2} {rd : D → D → (D → Prop) → Prop} (hd : OpD c r rd) {wa wb : W} : ∀ σ H Q, tT c (bB (dOp rd wa wb)) σ H Q → tTest (tOp r (tD c wa) (tD c wb)) σ H Q := fun σ H Q h => xd_op hd σ H _ (xt_test σ H Q h)
theorem xt_chain {r r' : R2} {rd rd' : D → D → (D → Prop) → Prop} (h : OpD c r rd) (h' : OpD c r' rd') {wa wb wc : W} : ∀ σ H Q, tT c (bB (dChain rd rd' wa wb wc)) σ H Q → tTest (tChain r r' (tD c wa) (tD c wb) (tD c wc)) σ H Q := fun σ H Q z => xd_chain h h' σ H _ (xt_test σ H Q z)
theorem xt_isN {w : W} : ∀ σ H Q, tT c (bB (dIsN w)) σ H Q → tB (tIsN (tD c w)) σ H Q := fun σ H Q z => xd_isN σ H _ (xt_test σ H Q z)
theorem xt_notN {w : W} : ∀ σ H Q, tT c (bB (dNotN w)) σ H Q → tB (tNotN (tD c w)) σ H Q := fun σ H Q z => xd_notN σ H _ (xt_test σ H Q z)
theorem xs_ownLc {i : Nat} {wi : WA} {wg : WG} {wt : WT} {we : W} {g : TG} {vs : List Nat} (hg : gD c wg g) (hs : Stores g vs) : ∀ Dn σ H, sD c E (dOwn i (dLcW wi wg wt we vs)) Dn σ H → tAsg (tLc (tI c wi) g (tT c wt) (tD c we) vs) (gName i) Dn σ H := fun Dn σ H z => xn_lc hg hs σ H _ (xs_own Dn σ H z)
theorem xs_asgLc {i : Nat} {wi : WA} {wg : WG} {wt : WT} {we : W} {g : TG} {vs : List Nat} (hg : gD c wg g) (hs : Stores g vs) : ∀ Dn σ H, sD c E (dAsg i (dN (dLcW wi wg wt we vs))) Dn σ H → tAsg (tLc (tI c wi) g (tT c wt) (tD c we) vs) (gName i) Dn σ H := fun Dn σ H z => xn_lc hg hs σ H _ (xd_N σ H _ (xs_asg Dn σ H z))
theorem flat_rep {vs : List V} {ds : List D} {K : PySem.W.Frag} (k : RpAll K F vs ds) : ∀ n : Nat, RpAll K F (List.replicate n vs).flatten (List.replicate n ds).flatten
  | 0 => .nil
  | n + 1 => by
    rw [List.replicate_succ, List.replicate_succ, List.flatten_cons, List.flatten_cons]
    exact dpAll_app k (flat_rep k n)
theorem xn_rep {w : WA} {wn : W} : ∀ σ H Q, tN c (nRep w wn) σ H Q → tOp rRep (tLst (tA c w)) (tD c wn) σ H Q := fun σ H Q ⟨e, F, H0, R, W, S, q, P⟩ =>
  ⟨e, F, H0, _, W, S, q, fun ds vs H1 F1 ⟨h3, hn, q1⟩ x1 r1 => by
    have hl : vs.length = ds.length := r1.length
    refine ⟨len_le (by omega), fun p hp => ?_⟩
    have x1' := Ext.loose x1.ok (.lst vs) hp
    have np := x1.ok.newR hp
    refine ⟨e, F1, H0, _, x1'.ok, S.ext W (x1.trans x1'), q1, fun d v H2 F2 ⟨k, hk, h1, h2, r⟩ x2 rv => ?_⟩
    subst hk
    have g2 := x2.keep p _ upd_same np (x1'.ok.noP upd_same)
    have hk2 : vs.length * k.toNat ≤ 1000000 := Nat.le_trans (Nat.mul_le_mul (show vs.length ≤ 1000 by omega) (show k.toNat ≤ 1000 by omega)) (by decide)
    refine ⟨p, k, vs, rfl, rv.int_inv, g2, by omega, by omega, len_le hk2, fun p2 hp2 => ?_⟩
    have xx := (x1.trans x1').trans x2
    exact P _ p2 _ _ _ r (xx.trans (Ext.loose x2.ok _ hp2)) (xx.free hp2) upd_same (x2.ok.newF hp2) (x2.ok.newR hp2) (flat_rep (dpAll_same (x1'.trans x2).grow _ _ (repVs_dp r1 hn)) _)⟩
end
end FW
/-! FWG: all(test of x for x in numbers), numbers a list or a tuple of ints; the test may look at names that the def holds in cells. -/
namespace FWG
open PySem PySem.Spec PyProof.Rows L2
section
variable {prog : Program} {w : World} {A : Around} {E : Value → Shared → Prop} {s : Shared}
/-- the code object of a generator expression: found in the table, or made and laid there -/
theorem gen_code {env : PySem.Env} {c P : Addr} {ps : Array Value} {pos : Pos} {qual : Str} {scope : Scope} {Q : Value → Shared → Prop} (hc : env.code = .ref c) (cd : PySem.W.CodeHd s.heap c P)
    (hP : s.heap.get? P = some { cls := .none, data := .fields ps }) (ht : TriplesOk ps.toList)
    (k : ∀ (code : Value) (h3 : Heap) (tk : Nat) (more : Array Value), Heap.ExtBut P s.heap h3 → s.heap.objs.size ≤ h3.objs.size → h3.get? P = some { cls := .none, data := .fields (ps ++ more) } → TriplesOk (ps ++ more).toList → Q code { s with heap := h3, toks := tk }) :
    wpAny (model prog w) A (genexprCode env pos qual scope) Q E s := by
  cases hf : codeAmong pos ps.toList with
  | some cv =>
    refine wpAny_genexprCode_hit hc (cd.code hP ht) hf ?_
    have e : ps ++ #[] = ps := by simp
    exact k cv s.heap s.toks #[] (Heap.ExtBut.refl _ _) (Nat.le_refl _) (by rw [e]; exact hP) (by rw [e]; exact ht)
  | none =>
    refine wpAny_genexprCodeX hc (cd.code hP ht) (cd.tab hP) hf fun c' h' tk hx hge hlt hco _ htab _ => ?_
    obtain ⟨_, _, _, _, _, _, _, _, _, _, _, _, _, _, _, _, _, _, _, htr, _⟩ := hco
    exact k _ h' tk _ hx (Nat.le_trans hge (Nat.le_of_lt hlt)) htab.2 htr
end
/-- a list or a tuple -/
def SqA (K : PySem.W.Frag) (H : Hp) (a : Addr) (xs : List V) : Prop := SqL K H a xs ∨ SqT K H a xs
/-- the element as a test of an int, where the cells of h stand as they stood -/
def ElI (X : Cx) (scope : Scope) (x : Str) (elt : Expr) (pb : Int → Bool) (h : Heap) : Prop :=
  ∀ (cenv : PySem.Env) (A' : Around) (E' : Value → Shared → Prop) (n : Int) (t : Tok) (s2 : Shared) (m2 : Str → Option Value), cenv.scope = scope → cenv.cells = cloFrom X.env.cells scope.names [] → s2.heap.Ns cenv.locals m2 → m2 x = some (.int n t) →
    (∀ b v, h.IsCell b (some v) → s2.heap.IsCell b (some v)) → wpAny (model X.prog X.w) A' (eval elt cenv) (fun y s3 => y = .bool (pb n) ∧ Keeps s2 s3) E' s2
def atB (pb : Int → Bool) (ns : List Int) (i : Nat) : Bool := match ns[i]? with
  | some n => pb n
  | none => false
theorem all_atB (pb : Int → Bool) : ∀ ns : List Int, (List.range ns.length).all (atB pb ns) = ns.all pb := fun ns => by
  rw [Bool.eq_iff_iff, List.all_eq_true, List.all_eq_true]
  constructor
  · intro h b hb
    obtain ⟨j, hj, e⟩ := List.getElem_of_mem hb
    have q := h j (List.mem_range.mpr hj)
    unfold atB at q
    rw [List.getElem?_eq_getElem hj, e] at q
    exact q
  · intro h j hj
    have hj' := List.mem_range.mp hj
    unfold atB
    rw [List.getElem?_eq_getElem hj']
    exact h _ (List.getElem_mem hj')
/-- a generator at g over the tests of ns, to be walked from s5 on -/
def Gen (X : Cx) (pins : List (Addr × Obj)) (σ : L2.St) (H1 : Hp) (P : Addr) (ns : List Int) (pb : Int → Bool) (g : Addr) (s5 : Shared) : Prop :=
  ∃ (fp wr : List Addr) (G : Array GenState → Array GenState → Prop) (Fv : Nat → Value → Prop) (St : Nat → Shared → Prop), WalksS X.prog X.w X.A.in1 g fp wr G ns.length Fv St ∧ St 0 s5 ∧
    TruthOf X.prog X.w X.A.in1 Fv (atB pb ns) ∧ ∀ s', Moved wr G s5 s' → ∃ H2, GxR.Tabbed P H1 H2 ∧ Inv X pins σ H2 s'
section
variable {X : Cx} {pins : List (Addr × Obj)} {σ : L2.St} {H1 : Hp} {s1 : Shared}
/-- from the iterator on: it stands at the heap's end, over the items of a -/
theorem gen_from {c P a : Addr} {elt : Expr} {x : Str} {gpos : Pos} {scope : Scope} {pb : Int → Bool} {k : Nat} {ns : List Int} {its : List Value} {o : Obj} {ps : Array Value} {St0 : Nat → Heap → Prop} {Q' : Value → Shared → Prop}
    (hr : Room k X.A) (TB : GxR.TabB X.base X.mg c P) (hcode : X.env.code = .ref c) (I1 : Inv X pins σ H1 s1) (rv : Vals (ns.map V.int) its) (hel : ElI X scope x elt pb s1.heap) (hP : H1 P = some (.tbl ps)) (ht : TriplesOk ps.toList)
    (ha : a < s1.heap.objs.size) (haP : a ≠ P) (W : ∀ A' : Around, A'.handled = none → Walks X.prog X.w A' s1.heap.objs.size [s1.heap.objs.size, a] [s1.heap.objs.size] its.toArray.size (fun i v => its.toArray[i]? = some v) St0)
    (hst : St0 0 (s1.heap.push o)) (hQ : ∀ g s5, Gen X pins σ H1 P ns pb g s5 → Q' (.ref g) s5) :
    wpAny (model X.prog X.w) X.A (genexprCode X.env gpos (X.env.qual ++ "<genexpr>") scope) (fun code s3 => wpAny (model X.prog X.w) X.A (builtinsFor X.env.globals X.env.builtins) (fun bi s4 =>
      ∃ Ia fp wr n₀ Pf St₀ pz F, Value.ref s1.heap.objs.size = .ref Ia ∧ (∀ A' : Around, A'.handled = none → Walks X.prog X.w A' Ia fp wr n₀ Pf St₀) ∧ St₀ 0 s4.heap ∧ (∀ b ∈ fp, b < s4.heap.objs.size) ∧ s4.heap.NoLimit ∧ cStatics ∉ wr ∧
        (∀ href : Heap, (∀ b o, s4.heap.get? b = some o → href.get? b = some o) → QuietGen X.prog X.w (genEnv scope (cloFrom X.env.cells scope.names []) s4.heap.objs.size code bi X.env) x [] elt (List.range s4.heap.objs.size) wr Pf pz F href) ∧
        (∀ a h5 tk gs, gs.bare = true → s4.heap.objs.size < a → h5.objs.size = a + 1 → (∀ b o, s4.heap.get? b = some o → h5.get? b = some o) →
          WalksS X.prog X.w X.A.in4 a (a :: s4.heap.objs.size :: List.range s4.heap.objs.size) (s4.heap.objs.size :: wr) (GenOnlyQ s4.gens.size) (passing pz n₀ 0).length (fun j y => ∃ i, (passing pz n₀ 0)[j]? = some i ∧ F i y)
            (GenAt X.prog X.w X.A.in4 a s4.gens.size s4.heap.objs.size (List.range s4.heap.objs.size) wr pz n₀ F) →
          GenAt X.prog X.w X.A.in4 a s4.gens.size s4.heap.objs.size (List.range s4.heap.objs.size) wr pz n₀ F 0 { s4 with gens := s4.gens.push gs, toks := tk, heap := h5 } →
          Q' (.ref a) { s4 with gens := s4.gens.push gs, toks := tk, heap := h5 })) X.xe s3) X.xe { s1 with heap := s1.heap.push o } := by
  have hPs : s1.heap.get? P = some { cls := .none, data := .fields ps } := I1.hok P _ hP
  have ltP : P < s1.heap.objs.size := Heap.lt_size hPs
  have kp : ∀ b u, s1.heap.get? b = some u → (s1.heap.push o).get? b = some u := fun b u e => Heap.get?_push_of_some _ e
  have sz : (s1.heap.push o).objs.size = s1.heap.objs.size + 1 := Heap.size_push ..
  refine gen_code hcode (TB.code.keeps fun b u e => kp b u (I1.bk b u e)) (kp _ _ hPs) ht fun code h3 tk more hx hge hP3 ht3 => ?_
  have hge3 : s1.heap.objs.size + 1 ≤ h3.objs.size := by rw [← sz]; exact hge
  have k3 : ∀ b u, b ≠ P → s1.heap.get? b = some u → h3.get? b = some u := fun b u hb e => hx b u hb (kp b u e)
  have hst3 : St0 0 h3 := (W X.A hr.hd).frame _ _ _ hst fun b hb u e => hx b u (fun z => by
    rcases List.mem_cons.mp hb with q | q
    · rw [q] at z; rw [← z] at ltP; exact Nat.lt_irrefl _ ltP
    · rw [List.mem_singleton.mp q] at z; exact haP z) e
  obtain ⟨bm, ob, e1, e2, e3, e4, e5, e6, e7, e8⟩ := TB.bm
  have hcl : cStatics < s1.heap.objs.size := let ⟨_, hns, _⟩ := I1.nolimit; hns.lt
  have hcP : cStatics ≠ P := fun e => by
    obtain ⟨_, ⟨o', es, ep, ho, hd, _⟩, _⟩ := I1.nolimit
    rw [e, hPs] at ho
    cases ho
    cases hd
  have lim3 : h3.NoLimit := (I1.nolimit.push o).extBut hx hcP
  refine wpAny_builtinsFor (m := X.mg) (by rw [I1.ok.glob]; exact ((I1.mod.glob.keeps I1.bk).push o).extBut hx TB.gP) e1 e2 (k3 _ _ e4 (I1.bk _ _ e5)) e6 e7 e8 ?_
  have hlen : its.toArray.size = ns.length := by rw [List.size_toArray, ← rv.length, List.length_map]
  refine ⟨s1.heap.objs.size, [s1.heap.objs.size, a], [s1.heap.objs.size], its.toArray.size, fun i v => its.toArray[i]? = some v, St0, fun _ => true, fun i y => ∃ n, ns[i]? = some n ∧ y = .bool (pb n), rfl, W, hst3, ?_, lim3, ?_, ?_, ?_⟩
  · intro b hb
    show b < h3.objs.size
    rcases List.mem_cons.mp hb with z | z
    · rw [z]; exact hge3
    · rw [List.mem_singleton.mp z]; exact Nat.lt_of_lt_of_le ha (Nat.le_trans (Nat.le_succ _) hge3)
  · intro z
    rw [List.mem_singleton.mp z] at hcl
    exact Nat.lt_irrefl _ hcl
  · -- the element: no tests stand ahead of it, the cells are as they were
    intro href hhref
    refine ⟨fun A' E' i v s2 m2 _ _ _ _ _ => ?_, fun A' E' i v s2 m2 hA hv _ hn hm hk => ?_⟩
    · rw [List.forIn_nil]
      exact wpAny_pure ⟨rfl, GxR.keeps_refl _⟩
    · have hv' : its[i]? = some v := by simpa using hv
      have hi : i < ns.length := by rw [← hlen]; exact (Array.getElem?_eq_some_iff.mp hv).1
      have hb : (ns.map V.int)[i]? = some (V.int ns[i]) := by rw [List.getElem?_map, List.getElem?_eq_getElem hi]; rfl
      obtain ⟨u, hu, t, rfl⟩ := rv.get hb
      rw [hv'] at hu
      cases hu
      refine wpAny_mono (hel _ A' E' _ t s2 m2 rfl rfl hn hm fun b v hc => ?_) (fun y s3 r => ⟨⟨_, List.getElem?_eq_getElem hi, r.1⟩, r.2⟩) fun _ _ e => e
      obtain ⟨oc, ho, hd⟩ := hc
      have hbP : b ≠ P := fun z => by rw [z, hPs] at ho; cases ho; cases hd
      exact ⟨oc, hk b (List.mem_range.mpr (Nat.lt_of_lt_of_le (Heap.lt_size ho) (Nat.le_trans (Nat.le_succ _) hge3))) (fun z => by
        rw [List.mem_singleton.mp z] at ho; exact Nat.lt_irrefl _ (Heap.lt_size ho)) oc (hhref _ _ (k3 b oc hbP ho)), hd⟩
  · intro g h5 tk5 gs hgb hlt hsz5 hk5 W5 hat
    simp only [GxR.passing_true, List.length_range] at W5
    rw [hlen] at W5 hat
    refine hQ g _ ⟨_, _, _, _, _, W5.in4_1, hat, ?_, fun s' hm => ?_⟩
    · rintro j y sj Qj Ej ⟨i, hij, n, hn, rfl⟩ hq
      obtain ⟨_, ej⟩ := List.getElem?_eq_some_iff.mp hij
      rw [List.getElem_range] at ej
      subst ej
      have e9 : atB pb ns j = pb n := by unfold atB; rw [hn]
      rw [e9] at hq
      exact wpAny_truthy_bool hq
    · have out : ∀ b u, s1.heap.get? b = some u → b ∉ h3.objs.size :: [s1.heap.objs.size] := fun b u e hb => by
        have hl := Heap.lt_size e
        rcases List.mem_cons.mp hb with z | z
        · rw [z] at hl; exact absurd (Nat.lt_of_lt_of_le hl (Nat.le_trans (Nat.le_succ _) hge3)) (Nat.lt_irrefl _)
        · rw [List.mem_singleton.mp z] at hl; exact Nat.lt_irrefl _ hl
      have J := GxR.inv_tab (more := more) (h' := s'.heap) (g' := s'.gens) (d' := s'.drawn) (t' := s'.toks) I1 hP (fun b u hb e => hm.heap b u (out b u e) (hk5 b u (k3 b u hb e))) (hm.heap P _ (out P _ hPs) (hk5 P _ hP3)) (AllBare.movedS (I1.bare.push hgb) hm)
      rw [GxR.sh_eta s1 s' hm.os] at J
      exact ⟨_, ⟨⟨ps ++ more, upd_same, ht3⟩, fun b hb => upd_ne hb⟩, J⟩
theorem gen_ints {c P : Addr} {elt iter : Expr} {x : Str} {px gpos : Pos} {scope : Scope} {pb : Int → Bool} {te : TE} {k : Nat} {Q' : Value → Shared → Prop} {R : List Int → Hp → Prop} {H : Hp} {s : Shared}
    (hr : Room k X.A) (TB : GxR.TabB X.base X.mg c P) (hcode : X.env.code = .ref c) (S : GxR.GenS X.env scope x) (hi : PE X iter te) (hel : ∀ H1 s1, Inv X pins σ H1 s1 → ElI X scope x elt pb s1.heap)
    (hs : ∀ v, genFold iter X.env v = pure v) (I : Inv X pins σ H s) (h : te σ H fun v H1 => ∃ (a : Addr) (ns : List Int), v = .ref a ∧ SqA X.K H1 a (ns.map V.int) ∧ GxR.TabG H1 P ∧ R ns H1)
    (hQ : ∀ ns H1 g s5, R ns H1 → Gen X pins σ H1 P ns pb g s5 → Q' (.ref g) s5) :
    wpAny (model X.prog X.w) X.A (eval (.GeneratorExp elt [⟨.Name x px, iter, [], 0⟩] scope gpos) X.env) Q' X.xe s := by
  refine wpAny_GeneratorExp_walksQ hr.hd S.co (closure_ok S.free) S.cell S.dot S.loc S.kind (Nat.lt_of_le_of_lt (Nat.le_trans (Nat.le_add_right _ _) (Nat.le_add_right _ 5)) hr.dp) ?_ hs
  refine thn (hi.run pins s σ H _ I h) fun xv s1 ⟨v, H1, I1, r1, a, ns, e, hsq, ⟨ps, hP, ht⟩, q1⟩ => ?_
  subst e
  obtain rfl : xv = Value.ref a := r1
  rcases hsq with hsq | hsq
  · obtain ⟨its, rv, pl, _⟩ := I1.list hsq
    have hIL := pl.isList
    have hlt : a < s1.heap.objs.size := let ⟨_, e, _⟩ := hIL; Heap.lt_size e
    have haP : a ≠ P := fun z => by
      obtain ⟨oo, e, hc1, _⟩ := hIL
      rw [z, show s1.heap.get? P = _ from I1.hok P _ hP] at e
      cases e; cases hc1
    refine wpAny_pyIter_list hIL ⟨I1.nolimit.push _, ?_⟩
    exact gen_from hr TB hcode I1 rv (hel H1 s1 I1) hP ht hlt haP (fun A' hA => Walks.list hA _ _ (Nat.ne_of_lt hlt) _) ⟨⟨_, Heap.get?_push_size _ rfl, rfl, rfl⟩, hIL.push _⟩ fun g s5 G => hQ ns H1 g s5 q1 G
  · obtain ⟨its, rv, pl, _⟩ := I1.tuple hsq
    have hlt : a < s1.heap.objs.size := pl.lt
    have haP : a ≠ P := fun z => by
      obtain ⟨oo, e, hc1, _⟩ := pl
      rw [z, show s1.heap.get? P = _ from I1.hok P _ hP] at e
      cases e; cases hc1
    refine wpAny_pyIter_tuple (items := its.toArray) pl ⟨I1.nolimit.push _, ?_⟩
    exact gen_from hr TB hcode I1 rv (hel H1 s1 I1) hP ht hlt haP (fun A' hA => Walks.tuple hA _ _ (Nat.ne_of_lt hlt) _) ⟨⟨_, Heap.get?_push_size _ rfl, rfl, rfl⟩, pl.push _⟩ fun g s5 G => hQ ns H1 g s5 q1 G
/-- all(..): behind it the def's table may have grown -/
def tAll (K : PySem.W.Frag) (P : Addr) (pb : L2.St → Int → Bool) (te : TE) : TE := fun σ H Q => te σ H fun v H1 => ∃ (a : Addr) (ns : List Int), v = .ref a ∧ SqA K H1 a (ns.map V.int) ∧ GxR.TabG H1 P ∧ ∀ H2, GxR.Tabbed P H1 H2 → Q (.bl (ns.all (pb σ))) H2
theorem pe_all {c P : Addr} {elt iter : Expr} {x : Str} {px p pos gpos : Pos} {scope : Scope} {pb : L2.St → Int → Bool} {te : TE} {k : Nat}
    (hr : Room k X.A) (hg : Gl X "all") (hm : X.mg "all" = none) (hb : bootBuiltins "all" = some (.builtin "all")) (TB : GxR.TabB X.base X.mg c P) (hcode : X.env.code = .ref c) (S : GxR.GenS X.env scope x) (hi : PE X iter te)
    {Pre : L2.St → Prop} (hel : ∀ pins σ H1 s1, Pre σ → Inv X pins σ H1 s1 → ElI X scope x elt (pb σ) s1.heap) (hs : ∀ v, genFold iter X.env v = pure v)
    (he : starEach [.GeneratorExp elt [⟨.Name x px, iter, [], 0⟩] scope gpos] X.env = (false, eval (.GeneratorExp elt [⟨.Name x px, iter, [], 0⟩] scope gpos) X.env) :: starEach [] X.env := by rfl) :
    PE X (.Call (.Name "all" p) [.GeneratorExp elt [⟨.Name x px, iter, [], 0⟩] scope gpos] [] pos) (fun σ H Q => Pre σ ∧ tAll X.K P pb te σ H Q) := by
  refine ⟨fun pins s σ H Q I h => ?_⟩
  obtain ⟨hpre, h⟩ := h
  refine wpAny_Call_Name_kw (ld_blt I hg hm hb ?_)
  refine PyProof.Rows.callWith_builtin1 ?_ he (by rfl)
  rw [he]
  show wpAny _ _ (spliced ((false, eval _ X.env) :: backTo pos (starEach [] X.env))) _ _ s
  refine Calls.spliced_cons (gen_ints (R := fun ns H1 => ∀ H2, GxR.Tabbed P H1 H2 → Q (.bl (ns.all (pb σ))) H2) hr TB hcode S hi (fun H1 s1 I1 => hel pins σ H1 s1 hpre I1) hs I h fun ns H1 g s5 hR hG => Calls.spliced_nil ?_)
  obtain ⟨fp, wr, G, Fv, St, W, hst, htr, hI⟩ := hG
  refine call_all_walkS (W.self 0 _ _ _ hst ⟨g, fp, wr, G, _, Fv, St, _, rfl, W, hst, htr, fun s' hmv => ?_⟩)
  obtain ⟨H2, hT, J⟩ := hI s' hmv
  exact ⟨.bl _, H2, J, rfl, by rw [all_atB (pb σ) ns]; exact hR H2 hT⟩
end
/-- lo <= x <= hi, both ends captured -/
theorem el_between {X : Cx} {scope : Scope} {h : Heap} {x y z : Str} {lo hi : Int} {tl th : Tok} {cl ch : Addr} {p1 p2 p3 p4 : Pos} (hk : scope.kind = .function) (hx : scope.names.lookup x = some .local) (hl : scope.names.lookup y = some .free) (hh : scope.names.lookup z = some .free)
    (e1 : (cloFrom X.env.cells scope.names []).lookup y = some cl) (e2 : (cloFrom X.env.cells scope.names []).lookup z = some ch) (v1 : h.IsCell cl (some (.int lo tl))) (v2 : h.IsCell ch (some (.int hi th)))
    (dx : (x == ("__debug__" : Str)) = false) (dy : (y == ("__debug__" : Str)) = false) (dz : (z == ("__debug__" : Str)) = false) (cy : (y == ("__classdict__" : Str)) = false) (cz : (z == ("__classdict__" : Str)) = false) :
    ElI X scope x (.Compare (.Name y p1) [.LtE, .LtE] [.Name x p2, .Name z p3] p4) (fun n => decide (lo ≤ n) && decide (n ≤ hi)) h := by
  intro cenv A' E' n t s2 m2 hs hc hn hm hcell
  have kk : cenv.scope.kind = .function := by rw [hs]; exact hk
  refine Compare_chain (wpAny_Name (wpAny_loadName_free (c := cl) kk (show cenv.scope.names.lookup y = _ by rw [hs]; exact hl) (by rw [hc]; exact e1) (hcell _ _ v1) ?_ cy) dy) (by rfl)
  refine chain_link (wpAny_Name (wpAny_loadName_local kk (show cenv.scope.names.lookup x = _ by rw [hs]; exact hx) hn hm ?_) dx)
  refine le_int (wpAny_truthy_bool ?_)
  by_cases q : lo ≤ n
  · rw [decide_eq_true q]
    refine ite_tt (chain_last (wpAny_Name (wpAny_loadName_free (c := ch) kk (show cenv.scope.names.lookup z = _ by rw [hs]; exact hh) (by rw [hc]; exact e2) (hcell _ _ v2) ?_ cz) dz))
    exact le_int ⟨by simp [q], GxR.keeps_refl _⟩
  · rw [decide_eq_false q]
    exact ite_ff ⟨by simp [q], GxR.keeps_refl _⟩
end FWG
namespace FW
open PySem PySem.Spec PyProof.Rows L2
section
variable {c : Amb} {H F H2 : Hp}
/-- a table has grown: nothing else has changed -/
theorem Ext.tabbed (W : Wok c H F) {P : Addr} (hP : P ∈ c.Ps ∧ ∀ q, (P, q) ∉ c.g.Ls) (T : GxR.Tabbed P H H2) : Ext c H F H2 F := by
  obtain ⟨hP, hL⟩ := hP
  obtain ⟨t1, t2⟩ := T
  have ht := (W.tab P hP).1
  have ne : ∀ b o, H b = some o → (∀ ps, o ≠ .tbl ps) → b ≠ P := fun b o e k z => by
    obtain ⟨ps, q, _⟩ := ht
    rw [z, q] at e
    exact k ps (Option.some.inj e).symm
  have nt : ∀ b o, H b = some o → b ∉ c.Ps → H2 b = some o := fun b o e nb => by
    rw [t2 b (fun z => nb (z ▸ hP))]; exact e
  refine ⟨⟨fun b o e => ?_, W.row.keep (fun b o e nb => nt b o e nb) (fun P h => (W.tab P h).1), W.rF, fun P' hP' => ⟨?_, (W.tab P' hP').2⟩⟩, fun _ _ h => h, fun b o e _ nb => nt b o e nb, fun _ h h' => absurd h h', W.row.sq⟩
  · rw [t2 b (fun z => by rw [z, (W.tab P hP).2] at e; cases e)]; exact W.sub b o e
  · by_cases z : P' = P
    · obtain ⟨ps, q, r⟩ := t1
      rw [z]
      exact ⟨ps, q, r, fun q hq => absurd hq (hL q)⟩
    · exact TabL.keep' (W.tab P' hP').1 (t2 _ z) fun b o u e => by rw [t2 b (ne b _ e fun ps z => by cases z)]; exact e
def pbT (i j : Nat) (σ : L2.St) (n : Int) : Bool := match σ[i]?, σ[j]? with
  | some (some (.int lo)), some (some (.int hi)) => decide (lo ≤ n) && decide (n ≤ hi)
  | _, _ => false
def dAllW (i j : Nat) (w : W) : W := fun e R => ∃ lo hi : Int, e[i]? = some (.val (.int lo)) ∧ e[j]? = some (.val (.int hi)) ∧ w e fun d => ∃ ns : List Int, IsSeq d (ns.map PyData.int) ∧ R (.bool (ns.all fun n => decide (lo ≤ n) && decide (n ≤ hi)))
theorem xd_allW {i j : Nat} {w : W} {P : Addr} (hP : P ∈ c.Ps ∧ ∀ q, (P, q) ∉ c.g.Ls) : ∀ σ H Q, tD c (dAllW i j w) σ H Q → ((∃ lo hi : Int, σ[i]? = some (some (V.int lo)) ∧ σ[j]? = some (some (V.int hi))) ∧ FWG.tAll c.K P (pbT i j) (tD c w) σ H Q) := by
  rintro σ H Q ⟨e, F, H0, R, W, S, ⟨lo, hi, h1, h2, q⟩, P'⟩
  obtain ⟨v1, a1, b1⟩ := S.val i _ h1
  obtain ⟨v2, a2, b2⟩ := S.val j _ h2
  rw [b1.int_inv] at a1
  rw [b2.int_inv] at a2
  refine ⟨⟨lo, hi, a1, a2⟩, e, F, H0, _, W, S, q, fun d v H1 F1 ⟨ns, hs, r⟩ x1 rv => ?_⟩
  obtain ⟨a, vs, rfl, g1, g2⟩ := seq_inv hs rv x1.ok.sub
  have ev := dpAll_ints_inv ns vs g2
  subst ev
  refine ⟨a, ns, rfl, g1, (x1.ok.tab P hP.1).1.g, fun H2 T => ?_⟩
  have ep : pbT i j σ = fun n => decide (lo ≤ n) && decide (n ≤ hi) := by
    funext n
    unfold pbT
    rw [a1, a2]
  rw [ep]
  exact P' _ _ H2 F1 r (x1.trans (Ext.tabbed x1.ok hP T)) .bl
end
/-- THE RULE for a def whose body asks for its own code object -/
theorem calDc {P : Program} {w : World} {g : Glb} {mg : Str → Option Value} {base : Heap} {x : Str} {st : Stmt} {fd : FuncData} {N ps : List Str} {k : Nat} {wb : WS} {f0 : Fd} (Fn : FunP g.K x st (He.fAd g.K (x, none)) fd) (mgf : mg x = some (.ref (He.fAd g.K (x, none)))) (b : Binds g.K fd ps [])
    (S : FnScope N ps (defScope st)) (hlen : ∀ ds R, f0 ds R → ds.length = ps.length)
    (hb : ∀ (cdv : Value) (A : Around) (outer : List PySem.Env) (s : Shared) (H : Hp) (E : XK) (r a : Addr) (ns : List Int), cdv = .ref (He.codeOf g.K (x, none)) → Room k (A.deeper (envOfC x (defScope st) s.heap.objs.size (He.fAd g.K (x, none)) cdv)) →
      PSs (cxOf CX0 P w g.K mg base N x (defScope st) (He.fAd g.K (x, none)) cdv A outer s H E).nox (defBody st) (sD ⟨g, r, a, ns⟩ E wb))
    (hp : ∀ ds R, f0 ds R → wb { nx := fun _ => R .none, rt := R } (startD N ds)) : C8.Cal P w g.K mg base (k + 1) x (spD g f0) [] := by
  obtain ⟨oc, od, dV, kV, doc, pm, an, cdv, ct, osl, rfl, lk, hcd, _, _⟩ := Fn.ex
  obtain ⟨cc, rfl⟩ := He.codeIn_ref hcd
  have ec := He.codeOf_eq (K := g.K) (p := (x, none)) lk rfl
  refine ⟨_, _, ps, [], fn_of lk hcd S (fun vs H Q E h => ?_) (fun A outer s H vs Q E hr h => ?_), mgf, Fn.kp, b, .nil⟩
  · obtain ⟨c, F, ds, R, _, _, rv, h, _⟩ := h
    rw [rv.length]; exact hlen ds R h
  · obtain ⟨⟨g', r, a, ns⟩, F, ds, R, hg, W, rv, h, P'⟩ := h
    have hg' : g' = g := hg
    subst hg'
    refine ⟨_, (hb _ A outer s H E r a ns (by rw [ec]) hr).nox, startD N ds, F, H, F, _, Ext.refl W, rep_start rv, hp ds R h, ?_⟩
    exact ⟨fun e σ H' F' q x S' => P' _ _ H' F' q x .non, fun d v H' F' q x rv => P' d v H' F' q x rv, fun _ _ _ _ _ z => z.elim, fun _ _ _ _ z => z.elim, fun _ _ _ _ z => z.elim, fun _ _ _ z => z.elim, fun _ z => z.elim, fun _ _ _ _ z => z.elim, fun z => nomatch z⟩
end FW
/-! FWL: plain facts about the readings. -/
namespace FW
open PySem PySem.Spec PyProof.Rows L2
@[simp] theorem isSeq_tup {xs ys : List D} : IsSeq (.tuple xs) ys ↔ ys = xs := by
  constructor
  · intro h; cases h; rfl
  · intro h; subst h; exact .tup _
@[simp] theorem isSeq_lst {xs ys : List D} : IsSeq (.list xs) ys ↔ ys = xs := by
  constructor
  · intro h; cases h; rfl
  · intro h; subst h; exact .lst _
@[simp] theorem mapInt_inj {l m : List Int} : l.map PyData.int = m.map PyData.int ↔ l = m := by
  constructor
  · intro h
    have : ∀ {l m : List Int}, l.map PyData.int = m.map PyData.int → l = m := by
      intro l
      induction l with
      | nil => intro m h; cases m with
        | nil => rfl
        | cons => simp at h
      | cons a l ih => intro m h; cases m with
        | nil => simp at h
        | cons b m =>
          simp only [List.map_cons, List.cons.injEq, PyData.int.injEq] at h
          rw [h.1, ih h.2]
    exact this h
  · intro h; rw [h]
/-- a comprehension without draws: what each item gives -/
theorem lcRun_det {g : D → (Sg → Prop) → Prop} {wt : WT} {we : W} {R : List D → Prop} (h : D → Option D) : ∀ (ds acc : List D),
    (∀ d ∈ ds, ∀ K : Option D → Prop, K (h d) → g d fun e' => wt e' fun b => if b = true then we e' fun y => y ≠ .dict [] ∧ K (some y) else K none) → R (acc ++ ds.filterMap h) → lcRun g wt we R ds acc
  | [], acc, _, r => by simpa [lcRun] using r
  | d :: ds, acc, ht, r => by
    unfold lcRun
    refine ht d List.mem_cons_self (fun o => match o with
      | some y => lcRun g wt we R ds (acc ++ [y])
      | none => lcRun g wt we R ds acc) ?_
    cases q : h d with
    | some y =>
      refine lcRun_det h ds _ (fun d' hd => ht d' (List.mem_cons_of_mem _ hd)) ?_
      simpa [List.filterMap_cons, q] using r
    | none =>
      refine lcRun_det h ds _ (fun d' hd => ht d' (List.mem_cons_of_mem _ hd)) ?_
      simpa [List.filterMap_cons, q] using r
def optI (p : Int → Bool) (f : Int → D) : D → Option D
  | .int n => if p n = true then some (f n) else none
  | _ => none
theorem filterMap_optI (p : Int → Bool) (f : Int → D) : ∀ l : List Int, (l.map PyData.int).filterMap (optI p f) = (l.filter p).map f
  | [] => rfl
  | a :: l => by
    rw [List.map_cons, List.filterMap_cons, filterMap_optI p f l]
    by_cases q : p a = true
    · simp [optI, q]
    · simp [optI, q]
/-- .. over ints -/
theorem lcRun_ints {g : D → (Sg → Prop) → Prop} {wt : WT} {we : W} {R : List D → Prop} (p : Int → Bool) (f : Int → D) (ns : List Int) (ht : ∀ n ∈ ns, ∀ K : Option D → Prop, K (if p n = true then some (f n) else none) → g (.int n) fun e' => wt e' fun b => if b = true then we e' fun y => y ≠ .dict [] ∧ K (some y) else K none)
    (r : R ((ns.filter p).map f)) : lcRun g wt we R (ns.map PyData.int) [] := by
  refine lcRun_det (optI p f) _ _ (fun d hd K k => ?_) ?_
  · obtain ⟨n, hn, rfl⟩ := List.mem_map.mp hd
    exact ht n hn K k
  · rw [List.nil_append, filterMap_optI]; exact r
/-- each item gives something of a kind -/
theorem lcRun_each {g : D → (Sg → Prop) → Prop} {wt : WT} {we : W} {R : List D → Prop} (Pd : D → Prop) : ∀ (ds acc : List D),
    (∀ d ∈ ds, ∀ K : Option D → Prop, (∀ y, Pd y → K (some y)) → g d fun e' => wt e' fun b => if b = true then we e' fun y => y ≠ .dict [] ∧ K (some y) else K none) → (∀ zs : List D, zs.length = ds.length → (∀ z ∈ zs, Pd z) → R (acc ++ zs)) → lcRun g wt we R ds acc
  | [], acc, _, r => by
    have := r [] rfl (fun z hz => absurd hz (by simp))
    simpa [lcRun] using this
  | d :: ds, acc, ht, r => by
    unfold lcRun
    refine ht d List.mem_cons_self (fun o => match o with
      | some y => lcRun g wt we R ds (acc ++ [y])
      | none => lcRun g wt we R ds acc) (fun y hy => ?_)
    refine lcRun_each Pd ds _ (fun d' hd => ht d' (List.mem_cons_of_mem _ hd)) (fun zs hl hz => ?_)
    have := r (y :: zs) (by simp [hl]) (fun z h => by rcases List.mem_cons.mp h with h | h; · rw [h]; exact hy
                                                      · exact hz z h)
    simpa using this
/-- a for whose turns go on: what holds between them -/
theorem forRun_inv {wg : WG} {wb : WS} {De : EndsD} (I : List D → Sg → Prop) (ht : ∀ d ds e, I (d :: ds) e → (∀ e2, I ds e2 → forRun wg wb De ds e2) → wg d e fun e' => wb { De with nx := fun e2 => forRun wg wb De ds e2, ct := fun e2 => forRun wg wb De ds e2, bk := De.nx, base := fun _ => False, pin := false } e') (he : ∀ e, I [] e → De.nx e) :
    ∀ ds e, I ds e → forRun wg wb De ds e
  | [], e, h => he e h
  | d :: ds, e, h => ht d ds e h fun e2 h2 => forRun_inv I ht he ds e2 h2
/-! ### == -/
def Sh (n : Nat) (d : D) : Prop := PyData.canLay0 d = true ∧ PyData.depth d ≤ n
theorem Sh.int {n : Nat} {i : Int} : Sh n (.int i) := ⟨by simp [PyData.canLay0], by simp [PyData.depth]⟩
theorem Sh.bool {n : Nat} {i : Bool} : Sh n (.bool i) := ⟨by simp [PyData.canLay0], by simp [PyData.depth]⟩
theorem Sh.none {n : Nat} : Sh n .none := ⟨by simp [PyData.canLay0], by simp [PyData.depth]⟩
theorem Sh.mono {n m : Nat} {d : D} (h : Sh n d) (k : n ≤ m) : Sh m d := ⟨h.1, Nat.le_trans h.2 k⟩
theorem sh_all {n : Nat} : ∀ {xs : List D}, (∀ x ∈ xs, Sh n x) → PyData.canLayAll0 xs = true ∧ PyData.depthAll xs ≤ n
  | [], _ => ⟨by simp [PyData.canLayAll0], by simp [PyData.depthAll]⟩
  | x :: xs, h => by
    obtain ⟨h1, h2⟩ := sh_all (xs := xs) fun y hy => h y (List.mem_cons_of_mem _ hy)
    obtain ⟨g1, g2⟩ := h x List.mem_cons_self
    exact ⟨by simp [PyData.canLayAll0, g1, h1], by simp [PyData.depthAll]; omega⟩
theorem Sh.tup {n : Nat} {xs : List D} (h : ∀ x ∈ xs, Sh n x) : Sh (n + 1) (.tuple xs) := by
  obtain ⟨h1, h2⟩ := sh_all h
  exact ⟨by simp [PyData.canLay0, h1], by simp [PyData.depth]; omega⟩
theorem Sh.lst {n : Nat} {xs : List D} (h : ∀ x ∈ xs, Sh n x) : Sh (n + 1) (.list xs) := by
  obtain ⟨h1, h2⟩ := sh_all h
  exact ⟨by simp [PyData.canLay0, h1], by simp [PyData.depth]; omega⟩
theorem Sh.ints {n : Nat} {l : List Int} : ∀ x ∈ l.map PyData.int, Sh n x := fun x hx => by
  obtain ⟨i, _, rfl⟩ := List.mem_map.mp hx
  exact Sh.int
theorem Sh.ok {n : Nat} {d : D} (h : Sh n d) (k : n ≤ 64 := by decide) : SeqAt.shaped d = true := by
  unfold SeqAt.shaped
  simp [h.1, Nat.le_trans h.2 k]
@[simp] theorem shaped_int {i : Int} : SeqAt.shaped (.int i) = true := (Sh.int (n := 0)).ok
@[simp] theorem shaped_bool {i : Bool} : SeqAt.shaped (.bool i) = true := (Sh.bool (n := 0)).ok
@[simp] theorem shaped_none : SeqAt.shaped .none = true := (Sh.none (n := 0)).ok
@[simp] theorem shaped_ints {l : List Int} : SeqAt.shaped (.tuple (l.map PyData.int)) = true := (Sh.tup (n := 0) Sh.ints).ok
@[simp] theorem shaped_intsL {l : List Int} : SeqAt.shaped (.list (l.map PyData.int)) = true := (Sh.lst (n := 0) Sh.ints).ok
@[simp] theorem shaped_nilL : SeqAt.shaped (.list []) = true := (Sh.lst (n := 0) (xs := []) (by simp)).ok
@[simp] theorem shaped_nilT : SeqAt.shaped (.tuple []) = true := (Sh.tup (n := 0) (xs := []) (by simp)).ok
@[simp] theorem eqv_int {i j : Int} : PyData.eqv (.int i) (.int j) = decide (i = j) := by
  show (i == j) = _
  exact Bool.beq_eq_decide_eq i j
@[simp] theorem eqv_bool {i j : Bool} : PyData.eqv (.bool i) (.bool j) = (i == j) := rfl
@[simp] theorem eqv_none : PyData.eqv .none .none = true := rfl
@[simp] theorem eqv_tup_none {xs : List D} : PyData.eqv (.tuple xs) .none = false := rfl
@[simp] theorem eqv_none_tup {xs : List D} : PyData.eqv .none (.tuple xs) = false := rfl
@[simp] theorem eqv_int_none {i : Int} : PyData.eqv (.int i) .none = false := rfl
@[simp] theorem eqv_none_int {i : Int} : PyData.eqv .none (.int i) = false := rfl
mutual
/-- no truth values, texts, dicts inside -/
def plainD : D → Bool
  | .none => true
  | .int _ => true
  | .list xs => plainAll xs
  | .tuple xs => plainAll xs
  | _ => false
def plainAll : List D → Bool
  | [] => true
  | x :: xs => plainD x && plainAll xs
end
mutual
theorem eqv_plain : ∀ (d e : D), plainD d = true → plainD e = true → (PyData.eqv d e = true ↔ d = e)
  | .none, e, _, h => by cases e <;> simp_all [PyData.eqv, plainD]
  | .int i, e, _, h => by cases e <;> simp_all [PyData.eqv, plainD]
  | .bool _, _, h, _ => by simp [plainD] at h
  | .str _, _, h, _ => by simp [plainD] at h
  | .dict _, _, h, _ => by simp [plainD] at h
  | .list xs, e, h, h' => by
    cases e with
    | list ys => simpa [PyData.eqv] using eqv_plainAll xs ys (by simpa [plainD] using h) (by simpa [plainD] using h')
    | _ => simp_all [PyData.eqv, plainD]
  | .tuple xs, e, h, h' => by
    cases e with
    | tuple ys => simpa [PyData.eqv] using eqv_plainAll xs ys (by simpa [plainD] using h) (by simpa [plainD] using h')
    | _ => simp_all [PyData.eqv, plainD]
theorem eqv_plainAll : ∀ (xs ys : List D), plainAll xs = true → plainAll ys = true → (PyData.eqvAll xs ys = true ↔ xs = ys)
  | [], ys, _, _ => by cases ys <;> simp [PyData.eqvAll]
  | x :: xs, ys, h, h' => by
    cases ys with
    | nil => simp [PyData.eqvAll]
    | cons y ys =>
      simp only [plainAll, Bool.and_eq_true] at h h'
      simp [PyData.eqvAll, eqv_plain x y h.1 h'.1, eqv_plainAll xs ys h.2 h'.2]
end
theorem plain_map {α : Type} {f : α → D} (h : ∀ a, plainD (f a) = true) : ∀ l : List α, plainAll (l.map f) = true
  | [] => rfl
  | a :: l => by simp [plainAll, h a, plain_map h l]
theorem plain_all : ∀ {l : List D}, (∀ d ∈ l, plainD d = true) → plainAll l = true
  | [], _ => rfl
  | a :: l, h => by simp [plainAll, h a List.mem_cons_self, plain_all fun d hd => h d (List.mem_cons_of_mem _ hd)]
@[simp] theorem plain_int {i : Int} : plainD (.int i) = true := rfl
@[simp] theorem plain_none : plainD .none = true := rfl
@[simp] theorem plain_ints {l : List Int} : plainD (.tuple (l.map PyData.int)) = true := by
  show plainAll _ = true
  exact plain_map (fun _ => rfl) l
@[simp] theorem plain_intsL {l : List Int} : plainD (.list (l.map PyData.int)) = true := by
  show plainAll _ = true
  exact plain_map (fun _ => rfl) l
theorem eqv_dec {d e : D} (h : plainD d = true) (h' : plainD e = true) {b : Bool} (k : b = true ↔ d = e) : PyData.eqv d e = b := by
  rw [Bool.eq_iff_iff, eqv_plain d e h h', k]
@[simp] theorem eqv_ints {l m : List Int} : PyData.eqv (.tuple (l.map PyData.int)) (.tuple (m.map PyData.int)) = decide (l = m) := eqv_dec plain_ints plain_ints (by simp)
@[simp] theorem eqv_intsL {l m : List Int} : PyData.eqv (.list (l.map PyData.int)) (.list (m.map PyData.int)) = decide (l = m) := eqv_dec plain_intsL plain_intsL (by simp)
theorem filterMap_nothing {α β : Type} : ∀ l : List α, l.filterMap (fun _ => (none : Option β)) = []
  | [] => rfl
  | a :: l => by rw [List.filterMap_cons]; exact filterMap_nothing l
theorem atI_z {α : Type} {l : List α} {i : Nat} {x : α} (h : l[i]? = some x) : atI l (0 + (i : Int)) = some x := by
  rw [Int.zero_add]; exact atI_nat h
@[simp] theorem noRow_nil : noRow [] := fun d h => absurd h (by simp)
@[simp] theorem noRow_cons {d : D} {ds : List D} : noRow (d :: ds) ↔ d ≠ .dict [] ∧ noRow ds := by
  constructor
  · intro h
    exact ⟨h d List.mem_cons_self, fun x hx => h x (List.mem_cons_of_mem _ hx)⟩
  · rintro ⟨h1, h2⟩ x hx
    rcases List.mem_cons.mp hx with z | z
    · rw [z]; exact h1
    · exact h2 x z
@[simp] theorem eqv_nilL : PyData.eqv (.list []) (.list []) = true := rfl
@[simp] theorem rngD_len {lo : Int} {n : Nat} : (rngD lo n).length = n := rngD_length
@[simp] theorem rdMax2_iff {i j : Int} {R : D → Prop} : rdMax2 [.int i, .int j] R ↔ R (.int (if j > i then j else i)) := by
  constructor
  · rintro ⟨a, b, e, h⟩; simp at e; rw [e.1, e.2]; exact h
  · intro h; exact ⟨i, j, rfl, h⟩
@[simp] theorem rdMin2_iff {i j : Int} {R : D → Prop} : rdMin2 [.int i, .int j] R ↔ R (.int (if j < i then j else i)) := by
  constructor
  · rintro ⟨a, b, e, h⟩; simp at e; rw [e.1, e.2]; exact h
  · intro h; exact ⟨i, j, rfl, h⟩
@[simp] theorem rdInt1_bool {k : Bool} {R : D → Prop} : rdInt1 [.bool k] R ↔ R (.int (if k then 1 else 0)) := by
  constructor
  · rintro (⟨a, e, h⟩ | ⟨a, e, h⟩)
    · simp at e
    · simp at e; rw [e]; exact h
  · intro h; exact .inr ⟨k, rfl, h⟩
@[simp] theorem rdInt1_int {k : Int} {R : D → Prop} : rdInt1 [.int k] R ↔ R (.int k) := by
  constructor
  · rintro (⟨a, e, h⟩ | ⟨a, e, h⟩)
    · simp at e; rw [e]; exact h
    · simp at e
  · intro h; exact .inl ⟨k, rfl, h⟩
@[simp] theorem rdZip_iff {xs ys : List D} {R : List D → Prop} : rdZip [.tuple xs, .tuple ys] R ↔ R ((xs.zip ys).map fun p => .tuple [p.1, p.2]) := by
  constructor
  · rintro ⟨a, b, e, h⟩; simp at e; rw [e.1, e.2]; exact h
  · intro h; exact ⟨xs, ys, rfl, h⟩
@[simp] theorem atI_0 {α : Type} {a : α} {l : List α} : atI (a :: l) 0 = some a := atI_nat (j := 0) rfl
@[simp] theorem atI_1 {α : Type} {a b : α} {l : List α} : atI (a :: b :: l) 1 = some b := atI_nat (j := 1) rfl
@[simp] theorem atI_2 {α : Type} {a b c : α} {l : List α} : atI (a :: b :: c :: l) 2 = some c := atI_nat (j := 2) rfl
@[simp] theorem atI_3 {α : Type} {a b c d : α} {l : List α} : atI (a :: b :: c :: d :: l) 3 = some d := atI_nat (j := 3) rfl
@[simp] theorem eqv_list_nil {xs : List D} : PyData.eqv (.list xs) (.list []) = xs.isEmpty := by cases xs <;> rfl
/-- the places at which something is bad -/
def badAt (bad : Nat → Bool) : D → Option D
  | .int i => if bad i.toNat = true then some (.int i) else none
  | _ => none
theorem badAt_list (bad : Nat → Bool) (n : Nat) : ((rngD 0 n).filterMap (badAt bad)).isEmpty = (List.range n).all fun k => !bad k := by
  unfold rngD
  rw [List.filterMap_map]
  have : ∀ l : List Nat, (l.filterMap (badAt bad ∘ fun k => PyData.int (0 + (k : Nat)))).isEmpty = l.all fun k => !bad k := by
    intro l
    induction l with
    | nil => rfl
    | cons a l ih =>
      rw [List.filterMap_cons, List.all_cons]
      by_cases q : bad a = true
      · simp [badAt, q]
      · simp [badAt, q]
        simpa using ih
  exact this _
theorem badAt_nil (bad : Nat → Bool) (n : Nat) : (rngD 0 n).filterMap (badAt bad) = [] ↔ ((List.range n).all fun k => !bad k) = true := by
  rw [← badAt_list, List.isEmpty_iff]
theorem badAt_sh (bad : Nat → Bool) (l : List D) : SeqAt.shaped (.list (l.filterMap (badAt bad))) = true := by
  refine (Sh.lst (n := 0) fun x hx => ?_).ok
  obtain ⟨d, _, e⟩ := List.mem_filterMap.mp hx
  cases d with
  | int i =>
    have e : (if bad i.toNat = true then some (PyData.int i) else none) = some x := e
    by_cases q : bad i.toNat = true
    · rw [if_pos q] at e; rw [← Option.some.inj e]; exact Sh.int
    · rw [if_neg q] at e; cases e
  | _ => cases e
/-- a comprehension over range(n) that gathers bad places -/
theorem lcRun_bad {g : D → (Sg → Prop) → Prop} {wt : WT} {we : W} {R : List D → Prop} (bad : Nat → Bool) (n : Nat) (ht : ∀ k : Nat, k < n → ∀ K : Option D → Prop, K (if bad k = true then some (.int k) else none) → g (.int k) fun e' => wt e' fun b => if b = true then we e' fun y => y ≠ .dict [] ∧ K (some y) else K none)
    (r : R ((rngD 0 n).filterMap (badAt bad))) : lcRun g wt we R (rngD 0 n) [] := by
  refine lcRun_det (badAt bad) _ _ (fun d hd K k => ?_) (by simpa using r)
  unfold rngD at hd
  obtain ⟨i, hi, rfl⟩ := List.mem_map.mp hd
  rw [Int.zero_add] at k ⊢
  exact ht i (List.mem_range.mp hi) K (by simpa [badAt] using k)
theorem atI_map {α β : Type} {l : List α} {f : α → β} {i : Nat} {x : α} (h : l[i]? = some x) : atI (l.map f) (i : Int) = some (f x) := atI_nat (by rw [List.getElem?_map, h]; rfl)
theorem all_range {α : Type} (p : α → Bool) (l : List α) (bad : Nat → Bool) (h : ∀ (i : Nat) x, l[i]? = some x → bad i = !p x) : ((List.range l.length).all fun k => !bad k) = l.all p := by
  rw [Bool.eq_iff_iff, List.all_eq_true, List.all_eq_true]
  constructor
  · intro k x hx
    obtain ⟨i, hi, e⟩ := List.getElem_of_mem hx
    have := k i (List.mem_range.mpr hi)
    rw [h i x (by rw [List.getElem?_eq_getElem hi, e])] at this
    simpa using this
  · intro k i hi
    have hi' := List.mem_range.mp hi
    rw [h i _ (List.getElem?_eq_getElem hi'), k _ (List.getElem_mem hi')]
    rfl
@[simp] theorem isNone_none : isNone .none = true := rfl
@[simp] theorem isNone_int {i : Int} : isNone (.int i) = false := rfl
@[simp] theorem isNone_bool {i : Bool} : isNone (.bool i) = false := rfl
@[simp] theorem isNone_str {i : Str} : isNone (.str i) = false := rfl
@[simp] theorem isNone_list {i : List D} : isNone (.list i) = false := rfl
@[simp] theorem isNone_tup {i : List D} : isNone (.tuple i) = false := rfl
end FW
/-! FWR: the row of draws. -/
namespace FW
open PySem PySem.Spec PyProof.Rows L2
section
variable {c : Amb} {H F H' : Hp}
/-- the row has changed, nothing else -/
theorem Ext.rowed (W : Wok c H F) {i x k : Int} (hi : 0 ≤ i) (hx : 0 ≤ x) (hx2 : x < 2147483647) (h1 : H' c.r = some (.lst [.ref c.a, .int i, .int x, .int k])) (h2 : ∀ b, b ≠ c.r → H' b = H b) : Ext c H F H' F := by
  obtain ⟨i0, x0, k0, g1, _, _, _, g5⟩ := W.row
  have hr : ∀ P ∈ c.Ps, P ≠ c.r := fun P hP z => by
    obtain ⟨ps, q, _⟩ := (W.tab P hP).1
    rw [z, g1] at q; cases q
  refine ⟨⟨fun b o e => ?_, ⟨i, x, k, h1, hi, hx, hx2, ?_⟩, W.rF, fun P hP => ⟨?_, (W.tab P hP).2⟩⟩, fun _ _ h => h, fun b o e hb _ => by rw [h2 b hb]; exact e, fun _ h h' => absurd h h', W.row.sq⟩
  · rw [h2 b (fun z => by rw [z, W.rF] at e; cases e)]; exact W.sub b o e
  · have ne : ∀ u, H c.a = some u → (∀ o, u ≠ .lst (V.ref c.a :: o)) → c.a ≠ c.r := fun u e k z => by
      rw [z, g1] at e
      exact k _ (by rw [← Option.some.inj e, z])
    rcases g5 with (g5 | ⟨o, g5⟩) | g5
    · refine .inl (.inl ?_)
      rw [h2 c.a (ne _ g5 fun o z => ?_)]
      · exact g5
      · have z' := HO.lst.inj z
        cases q : c.ns with
        | nil => rw [q] at z'; cases z'
        | cons a l => rw [q] at z'; cases z'
    · exact .inl (.inr ⟨o, by rw [h2 c.a (ne _ g5 fun o z => by cases z)]; exact g5⟩)
    · exact .inr g5
  · exact TabL.keep' (W.tab P hP).1 (h2 P (hr P hP)) fun b o u e => by rw [h2 b (fun z => by rw [z, g1] at e; cases e)]; exact e
end
/-- a draw: some number below m -/
def f_law_taken : Fd := fun ds R => ∃ m : Int, ds = [.dict [], .int m] ∧ 0 < m ∧ m < 1073741824 ∧ ∀ v : Int, 0 ≤ v → v < m → R (.int v)
theorem len_law_taken : ∀ ds R, f_law_taken ds R → ds.length = 2 := by
  rintro ds R ⟨m, rfl, _⟩; rfl
theorem fmod_lt {a m : Int} (h : 0 < m) : 0 ≤ a.fmod m ∧ a.fmod m < m := ⟨Int.fmod_nonneg_of_pos a h, Int.fmod_lt_of_pos a h⟩
/-! ### isinstance -/
def tyN : D → String
  | .none => "NoneType"
  | .bool _ => "bool"
  | .int _ => "int"
  | .str _ => "str"
  | .list _ => "list"
  | .tuple _ => "tuple"
  | .dict _ => "dict"
def isN (a t : String) : Bool := decide (a = t) || (decide (a = "bool") && decide (t = "int"))
def tyNs : List String := ["NoneType", "bool", "int", "str", "list", "tuple", "dict"]
def clsNs : List String := ["tuple", "list", "bool", "str", "int"]
theorem kit_all : ∀ a ∈ tyNs, ∀ t ∈ clsNs, kitB a t = some (isN a t) := by decide +kernel
theorem tyN_mem {d : D} : tyN d ∈ tyNs := by
  cases d <;> simp [tyN, tyNs]
theorem kit_d {K : PySem.W.Frag} {d : D} (h : True) {t : String} (ht : t ∈ clsNs) : PySem.W.kitOne K (.type (tyN d)) (.type t) = some (isN (tyN d) t) := kit_ty (kit_all _ tyN_mem t ht)
theorem ty_rp {K : PySem.W.Frag} {F H : Hp} (e : Same F H) {v : V} {d : D} (h : Rp K F v d) : TyX K H v (.type (tyN d)) ∧ True := by
  cases h with
  | non => exact ⟨.base .non, trivial⟩
  | bl b => exact ⟨.base (.bl b), trivial⟩
  | int i => exact ⟨.base (.int i), trivial⟩
  | str x => exact ⟨.base (.str x), trivial⟩
  | lst hs _ => exact ⟨.base (.lst (e _ _ hs)), trivial⟩
  | tup hs _ =>
    refine ⟨?_, trivial⟩
    rcases hs with (hs | ⟨o, hs⟩) | ⟨o, its, n, hs, hc, _⟩
    · exact .base (.tup (e _ _ hs))
    · exact .fTuple (e _ _ hs)
    · exact .kTuple hs hc
  | dic _ _ h2 => exact ⟨.base (.dK (e _ _ h2)), trivial⟩
@[simp] def dIsi (t : String) (w : W) : W := fun e R => w e fun d => d ≠ .dict [] ∧ R (.bool (isN (tyN d) t))
section
variable {c : Amb} {H F H' : Hp}
theorem xd_isi {t : String} (ht : t ∈ clsNs) {w : W} : ∀ σ H Q, tD c (dIsi t w) σ H Q → tCB (rIsi c.K) (tCons (tD c w) (tCons (tC (.ty t)) tNil)) σ H Q := fun σ H Q ⟨e, F, H0, R, W, S, q, P⟩ =>
  ⟨e, F, H0, _, W, S, q, fun d v H1 F1 ⟨hd, r⟩ x1 rv => by
    obtain ⟨ty, nd⟩ := ty_rp x1.ok.sub (rv.dp hd)
    exact ⟨v, .ty t, _, _, _, rfl, .ty t, ty, kit_d nd ht, P _ _ H1 F1 r x1 .bl⟩⟩
/-- isinstance(x, (tuple, list)) -/
@[simp] def dIsi2 (t u : String) (w : W) : W := fun e R => w e fun d => d ≠ .dict [] ∧ R (.bool (isN (tyN d) t || isN (tyN d) u))
theorem xd_isi2 {t u : String} (ht : t ∈ clsNs) (hu : u ∈ clsNs) {w : W} : ∀ σ H Q, tD c (dIsi2 t u w) σ H Q → tCB (rIsiT c.K) (tCons (tD c w) (tCons (tTup (tCons (tC (.ty t)) (tCons (tC (.ty u)) tNil))) tNil)) σ H Q := fun σ H Q ⟨e, F, H0, R, W, S, q, P⟩ =>
  ⟨e, F, H0, _, W, S, q, fun d v H1 F1 ⟨hd, r⟩ x1 rv => ⟨len_le (by simp), fun p hp => by
    have x2 := Ext.loose x1.ok (.tup [.ty t, .ty u]) hp
    obtain ⟨ty, nd⟩ := ty_rp x2.ok.sub (rv.dp hd)
    refine ⟨v, p, _, _, [.type t, .type u], _, rfl, upd_same, .cons (.ty t) (.cons (.ty u) .nil), ty, kitAny_cons (r := isN (tyN d) t || isN (tyN d) u) (kit_d nd ht) (fun h => ?_) (fun h => by rw [h]; rfl), P _ _ _ _ r (x1.trans x2) .bl⟩
    rw [h, Bool.false_or]
    exact kitAny_cons (kit_d nd hu) (fun h => by rw [h]; exact kitAny_nil) (fun h => h)⟩⟩
end
/-! ### draws -/
theorem taken_ok {m : Int} {R : D → Prop} (h : 0 < m) (h2 : m < 1073741824) (k : ∀ v : Int, 0 ≤ v → v < m → R (.int v)) : f_law_taken [.dict [], .int m] R := ⟨m, rfl, h, h2, k⟩
@[simp] theorem taken_iff {m : Int} {R : D → Prop} : f_law_taken [.dict [], .int m] R ↔ 0 < m ∧ m < 1073741824 ∧ ∀ v : Int, 0 ≤ v → v < m → R (.int v) := by
  constructor
  · rintro ⟨m', e, h⟩
    simp at e
    subst e
    exact h
  · rintro ⟨h1, h2, h3⟩; exact ⟨m, rfl, h1, h2, h3⟩
theorem atI_in {α : Type} {l : List α} {v : Int} (h0 : 0 ≤ v) (h1 : v < l.length) : ∃ d, atI l v = some d ∧ d ∈ l := by
  obtain ⟨n, rfl⟩ : ∃ n : Nat, v = n := ⟨v.toNat, by omega⟩
  have hn : n < l.length := by omega
  exact ⟨l[n], atI_nat (List.getElem?_eq_getElem hn), List.getElem_mem hn⟩
end FW
/-! FWE: the law itself: its first statement makes the row. -/
namespace FW
open PySem PySem.Spec PyProof.Rows L2
section
variable {X : Cx} {g : Glb} {E : XK}
/-- the rest of the law, whatever the row's address is -/
def sAny (g : Glb) (E : XK) (w : WS) : TS := fun D σ H => ∃ (r a : Addr) (ns : List Int), sD ⟨g, r, a, ns⟩ E w D σ H
theorem pss_any {st : List Stmt} {w : WS} (h : ∀ r a ns, PSs X st (sD ⟨g, r, a, ns⟩ E w)) : PSs X st (sAny g E w) := ⟨fun pins s σ H D I ⟨r, a, ns, q⟩ => (h r a ns).run pins s σ H D I q⟩
end
def spLaw (g : Glb) : Sp := fun vs H Q _ => ∃ (a : Addr) (ns : List Int), vs = [.ref a] ∧ (∀ P ∈ g.Ps, H P = some (.tbl #[])) ∧ SqL g.K H a (ns.map V.int) ∧ ∀ H', Q (.bl true) H'
/-- where the row has been made: the rest may run -/
theorem law_start {g : Glb} {E : XK} {H : Hp} {a : Addr} {ns : List Int} {w : WS} {Q : VK} {n : Nat} (hP : ∀ P ∈ g.Ps, H P = some (.tbl #[])) (hs : SqL g.K H a (ns.map V.int)) (k : ∀ H', Q (.bl true) H')
    (hw : w { nx := fun _ => False, rt := fun d => d = .bool true } (.un :: .val (.dict []) :: List.replicate n .un)) : ∀ p, H p = none →
      sAny g E w { nx := fun _ H' => Q .non H', rt := Q } (some (.ref a) :: some (.ref p) :: List.replicate n none) (upd H p (.lst [.ref a, .int 0, .int 0, .int 0])) := fun p hp => by
  refine ⟨p, a, ns, .un :: .val (.dict []) :: List.replicate n .un, fun _ => none, upd H p (.lst [.ref a, .int 0, .int 0, .int 0]), fun _ => none, _, Ext.refl ?_, ?_, hw, ?_⟩
  · refine ⟨fun b o e => (by cases e), ⟨0, 0, 0, upd_same, Int.le_refl _, Int.le_refl _, by decide, ?_⟩, rfl, fun P h => ⟨⟨#[], ?_, trivial, fun q hq pos cv hc => absurd hc (by simp [codeAmong])⟩, rfl⟩⟩
    · rcases hs with (h | ⟨o, h⟩) | h
      · exact .inl (.inl (by rw [upd_ne (ne_of_none h hp)]; exact h))
      · exact .inl (.inr ⟨o, by rw [upd_ne (ne_of_none h hp)]; exact h⟩)
      · exact .inr h
    · rw [upd_ne (ne_of_none (hP P h) hp)]; exact hP P h
  · have noE : ∀ (i : Nat) (b : Addr) (o : Option (Addr × Int)), (Sl.un :: Sl.val (.dict []) :: List.replicate n Sl.un)[i]? ≠ some (.exc b o) := fun i b o h => by
      match i with
      | 0 => cases h
      | 1 => cases h
      | i + 2 =>
        simp only [List.getElem?_cons_succ, List.getElem?_replicate] at h
        split at h <;> cases h
    have noF : ∀ (i : Nat) (k : Bool) (Fb : Hp) (d : D), (Sl.un :: Sl.val (.dict []) :: List.replicate n Sl.un)[i]? ≠ some (.fix k Fb d) := fun i k Fb d h => by
      match i with
      | 0 => cases h
      | 1 => cases h
      | i + 2 =>
        simp only [List.getElem?_cons_succ, List.getElem?_replicate] at h
        split at h <;> cases h
    have noO : ∀ (i : Nat) (o : Option Hp) (es : List D), (Sl.un :: Sl.val (.dict []) :: List.replicate n Sl.un)[i]? ≠ some (.ownO o es) := fun i o es h => by
      match i with
      | 0 => cases h
      | 1 => cases h
      | i + 2 =>
        simp only [List.getElem?_cons_succ, List.getElem?_replicate] at h
        split at h <;> cases h
    refine ⟨by simp, fun i d h => ?_, fun i o es h => absurd h (noO i o es), fun i j o _ es fs b _ h => absurd h (noO i o es), fun i b o h => absurd h (noE i b o), fun i k Fb d h => absurd h (noF i k Fb d)⟩
    match i with
    | 0 => cases h
    | 1 =>
      simp at h
      subst h
      exact ⟨_, rfl, .inr ⟨rfl, rfl⟩⟩
    | i + 2 =>
      simp only [List.getElem?_cons_succ, List.getElem?_replicate] at h
      split at h <;> cases h
  · refine ⟨fun _ _ _ _ z => z.elim, fun d v H' F' q _ rv => ?_, fun _ _ _ _ _ z => z.elim, fun _ _ _ _ z => z.elim, fun _ _ _ _ z => z.elim, fun _ _ _ z => z.elim, fun _ z => z.elim, fun _ _ _ _ z => z.elim, fun z => nomatch z⟩
    have q : d = .bool true := q
    subst q
    rw [rv.bl_inv]
    exact k H'
end FW
/-! FWX: defs that may raise: their promises, calls of them, raise. -/
namespace FW
open PySem PySem.Spec PyProof.Rows L2
abbrev Fx := List D → (D → Prop) → (Exc → Prop) → Prop
abbrev Fnx := List D → (List D → Prop) → (Exc → Prop) → Prop
section
variable (c : Amb) (H F : Hp)
def PostX (RX : Exc → Prop) (E : XK) : Prop := ∀ x H' F', RX x → Ext c H F H' F' → ExcAt c E H' F' x
def PostN (R : List D → Prop) (Q : VK) : Prop := ∀ ds p vs H' F', R ds → Ext c H F H' F' → H p = none → H' p = some (.lst vs) → F' p = none → p ≠ c.r → RpAll c.K F' vs ds → Q (.ref p) H'
end
def spX (g : Glb) (f : Fx) : Sp := fun vs H Q E => ∃ (c : Amb) (F : Hp) (ds : List D) (R : D → Prop) (RX : Exc → Prop), c.g = g ∧ Wok c H F ∧ RepVs c F vs ds ∧ f ds R RX ∧ Post c H F R Q ∧ PostX c H F RX E
def spNX (g : Glb) (f : Fnx) : Sp := fun vs H Q E => ∃ (c : Amb) (F : Hp) (ds : List D) (R : List D → Prop) (RX : Exc → Prop), c.g = g ∧ Wok c H F ∧ RepVs c F vs ds ∧ f ds R RX ∧ PostN c H F R Q ∧ PostX c H F RX E
/-- a def that may raise, called by its name -/
structure CalX (P : Program) (w : World) (K : PySem.W.Frag) (mg : Str → Option Value) (base : Heap) (k : Nat) (x : Str) (sp : Sp) : Prop where
  ex : ∃ (f : Addr) (fd : FuncData) (ps : List Str), FnOk P w K mg base (L2.CX P w) k f fd ps sp ∧ mg x = some (.ref f) ∧ PySem.W.keepIn K (.ref f) = true ∧ Binds K fd ps []
/-- an expression that may raise: De.ex is handed down -/
abbrev WXp := (Exc → Prop) → W
abbrev WAXp := (Exc → Prop) → WA
section
variable (c : Amb) (E : L2.St → XK)
def tDX (w : WXp) : TE := fun σ H Q => ∃ e F H0 R RX, Wok c H F ∧ RepS c H0 σ H F e ∧ w RX e R ∧ Post c H F R Q ∧ PostX c H F RX (E σ)
def tNX (w : WAXp) : TE := fun σ H Q => ∃ e F H0 R RX, Wok c H F ∧ RepS c H0 σ H F e ∧ w RX e R ∧ PostN c H F R Q ∧ PostX c H F RX (E σ)
end
section
variable {c : Amb} {E : L2.St → XK} {H F H0 F0 H1 F1 : Hp} {σ : L2.St} {X : Cx}
theorem PostX.ext {RX : Exc → Prop} {E : XK} (P : PostX c H F RX E) (x : Ext c H F H1 F1) : PostX c H1 F1 RX E := fun y H' F' r x' => P y H' F' r (x.trans x')
theorem PostN.ext {R : List D → Prop} {Q : VK} (P : PostN c H F R Q) (x : Ext c H F H1 F1) : PostN c H1 F1 R Q := fun ds p vs H' F' r x' h0 h1 h2 h3 k => P ds p vs H' F' r (x.trans x') (x.free h0) h1 h2 h3 k
theorem xdx_of {w : W} : ∀ σ H Q, tDX c E (fun _ => w) σ H Q → tD c w σ H Q := fun σ H Q ⟨e, F, H0, R, _, W, S, q, P, _⟩ => ⟨e, F, H0, R, W, S, q, P⟩
theorem xnx_of {w : WA} : ∀ σ H Q, tNX c E (fun _ => w) σ H Q → tN c w σ H Q := fun σ H Q ⟨e, F, H0, R, _, W, S, q, P, _⟩ => ⟨e, F, H0, R, W, S, q, P⟩
/-- a call whose exceptions go the def's own way -/
@[simp] def dCallX (f : Fx) (w : WA) : WXp := fun RX e R => w e fun ds => f ds R RX
@[simp] def nCallX (f : Fnx) (w : WA) : WAXp := fun RX e R => w e fun ds => f ds R RX
theorem xdx_call {f : Fx} {w : WA} : ∀ σ H Q, tDX c E (dCallX f w) σ H Q → tCallS (spX c.g f) E (tA c w) σ H Q := fun σ H Q ⟨e, F, H0, R, RX, W, S, q, P, PX⟩ =>
  ⟨e, F, H0, _, W, S, q, fun ds vs H1 F1 q1 x1 r1 => ⟨c, F1, ds, R, RX, rfl, x1.ok, r1, q1, P.ext x1, PX.ext x1⟩⟩
theorem xnx_call {f : Fnx} {w : WA} : ∀ σ H Q, tNX c E (nCallX f w) σ H Q → tCallS (spNX c.g f) E (tA c w) σ H Q := fun σ H Q ⟨e, F, H0, R, RX, W, S, q, P, PX⟩ =>
  ⟨e, F, H0, _, W, S, q, fun ds vs H1 F1 q1 x1 r1 => ⟨c, F1, ds, R, RX, rfl, x1.ok, r1, q1, P.ext x1, PX.ext x1⟩⟩
/-- a call that does not raise here -/
@[simp] def calm (f : Fx) : Fd := fun ds R => f ds R fun _ => False
@[simp] def calmN (f : Fnx) : Fn := fun ds R => f ds R fun _ => False
theorem xd_callC {f : Fx} {w : WA} : ∀ σ H Q, tD c (dCall (calm f) w) σ H Q → tCall (spX c.g f) [] E0 (tA c w) σ H Q := fun σ H Q ⟨e, F, H0, R, W, S, q, P⟩ =>
  ⟨e, F, H0, _, W, S, q, fun ds vs H1 F1 q1 x1 r1 => ⟨c, F1, ds, R, _, rfl, x1.ok, by rw [List.append_nil]; exact r1, q1, P.ext x1, fun _ _ _ z => z.elim⟩⟩
theorem xn_callC {f : Fnx} {w : WA} : ∀ σ H Q, tN c (nCall (calmN f) w) σ H Q → tCall (spNX c.g f) [] E0 (tA c w) σ H Q := fun σ H Q ⟨e, F, H0, R, W, S, q, P⟩ =>
  ⟨e, F, H0, _, W, S, q, fun ds vs H1 F1 q1 x1 r1 => ⟨c, F1, ds, R, _, rfl, x1.ok, by rw [List.append_nil]; exact r1, q1, PostN.ext (c := c) (F := F) P x1, fun _ _ _ z => z.elim⟩⟩
/-- a choice between such -/
@[simp] def dIfX (t : WT) (a b : WXp) : WXp := fun RX e R => t e fun x => if x = true then a RX e R else b RX e R
theorem xdx_if {t : WT} {a b : WXp} : ∀ σ H Q, tDX c E (dIfX t a b) σ H Q → tIf (tT c t) (tDX c E a) (tDX c E b) σ H Q := fun σ H Q ⟨e, F, H0, R, RX, W, S, q, P, PX⟩ =>
  ⟨e, F, H0, _, W, S, q, fun x H1 F1 q1 x1 => by
    cases x with
    | true => exact ⟨e, F1, H0, R, RX, x1.ok, S.ext W x1, by simpa using q1, P.ext x1, PX.ext x1⟩
    | false => exact ⟨e, F1, H0, R, RX, x1.ok, S.ext W x1, by simpa using q1, P.ext x1, PX.ext x1⟩⟩
/-- a new list is a list -/
@[simp] def dNX (w : WAXp) : WXp := fun RX e R => w RX e fun ds => R (.list ds)
theorem xdx_N {w : WAXp} : ∀ σ H Q, tDX c E (dNX w) σ H Q → tNX c E w σ H Q := fun σ H Q ⟨e, F, H0, R, RX, W, S, q, P, PX⟩ =>
  ⟨e, F, H0, _, RX, W, S, q, fun ds p vs H' F' r x h0 h1 h2 h3 k => Post.frozen P x h0 h1 h3 h2 k r, PX⟩
end
/-! ### calls -/
section
variable {X : Cx} {W : WX} {k j : Nat} {x : Str} {sp : Sp} {p pos : Pos} {e : Expr} {es : List Expr} {t : TA}
theorem pe_cx (c : CalX X.prog X.w X.K X.mg X.base k x sp) (hr : Room j X.A) (hk : k ≤ j) (hg : Gl X x) (tk : Takes X W) (ha : PA X (e :: es) t)
    (hdb : (x == ("__debug__" : Str)) = false := by decide) (he : starEach (e :: es) X.env = (false, eval e X.env) :: starEach es X.env := by rfl) (hpl : (backTo pos (starEach es X.env)).any (·.1) = false := by rfl) :
    PE X (.Call (.Name x p) (e :: es) [] pos) (tCallS sp (WE W) t) := by
  obtain ⟨f, fd, ps, F, hm, kp, b⟩ := c.ex
  exact pe_callS F (hr.mono hk) hg hm kp b (fun σ => passAt tk σ) ha hdb he hpl
theorem pe_c0 (c : CalX X.prog X.w X.K X.mg X.base k x sp) (hr : Room j X.A) (hk : k ≤ j) (hg : Gl X x) (ha : PA X (e :: es) t)
    (hdb : (x == ("__debug__" : Str)) = false := by decide) (he : starEach (e :: es) X.env = (false, eval e X.env) :: starEach es X.env := by rfl) (hpl : (backTo pos (starEach es X.env)).any (·.1) = false := by rfl) :
    PE X (.Call (.Name x p) (e :: es) [] pos) (tCall sp [] E0 t) := by
  obtain ⟨f, fd, ps, F, hm, kp, b⟩ := c.ex
  exact pe_call F (hr.mono hk) hg hm kp b .nil passL ha hdb he hpl
end
/-! ### statements -/
/-- the def's own wish of an exception -/
abbrev wishE (E : XK) : WX := fun cls d _ H => E cls d H
section
variable {c : Amb} {E : XK} {H F H0 F0 : Hp} {σ : L2.St} {X : Cx} {De : EndsD} {Dn : Ends}
theorem EndsOk.exc (K : EndsOk c E H0 F0 De Dn) (x : Ext c H0 F0 H F) : PostX c H F De.ex E := fun y H' F' r x' => K.ex y H' F' r (x.trans x')
@[simp] def dDropX (w : WXp) : WS := fun De e => w De.ex e fun _ => De.nx e
theorem xs_dropX {w : WXp} : ∀ Dn σ H, sD c E (dDropX w) Dn σ H → tDrop (tDX c (WE (wishE E)) w) Dn σ H := fun Dn σ H ⟨e, F, H0, F0, De, x, S, q, K⟩ =>
  ⟨e, F, H0, _, De.ex, x.ok, S, q, fun d v H' F' r x' rv => K.nx _ _ _ _ r (x.trans x') (S.ext x.ok x'), K.exc x⟩
@[simp] def dRetX (w : WXp) : WS := fun De e => w De.ex e De.rt
theorem xs_retX {w : WXp} : ∀ Dn σ H, sD c E (dRetX w) Dn σ H → tRet (tDX c (WE (wishE E)) w) Dn σ H := fun Dn σ H ⟨e, F, H0, F0, De, x, S, q, K⟩ =>
  ⟨e, F, H0, _, De.ex, x.ok, S, q, fun d v H' F' r x' rv => K.rt d v H' F' r (x.trans x') rv, K.exc x⟩
@[simp] def dRetLX (w : WAXp) : WS := fun De e => w De.ex e De.rn
theorem xs_retLX {w : WAXp} : ∀ Dn σ H, sD c E (dRetLX w) Dn σ H → tRet (tNX c (WE (wishE E)) w) Dn σ H := fun Dn σ H ⟨e, F, H0, F0, De, x, S, q, K⟩ =>
  ⟨e, F, H0, _, De.ex, x.ok, S, q, fun ds p vs H' F' r x' hp hp' hF hr k => K.rn ds p vs H' F' r (x.trans x') (x.free hp) hp' hF hr k, K.exc x⟩
@[simp] def dAsgX (i : Nat) (w : WXp) : WS := fun De e => w De.ex e fun d => De.nx (e.set i (.val d))
theorem xs_asgX {i : Nat} {w : WXp} : ∀ Dn σ H, sD c E (dAsgX i w) Dn σ H → tAsg (tDX c (WE (wishE E)) w) (gName i) Dn σ H := fun Dn σ H ⟨e, F, H0, F0, De, x, S, q, K⟩ =>
  ⟨e, F, H0, _, De.ex, x.ok, S, q, fun d v H' F' r x' rv => K.nx _ _ _ _ r (x.trans x') ((S.ext x.ok x').set_val i rv), K.exc x⟩
@[simp] def dOwnX (i : Nat) (w : WAXp) : WS := fun De e => w De.ex e fun ds => De.nx (e.set i (.own ds))
theorem xs_ownX {i : Nat} {w : WAXp} : ∀ Dn σ H, sD c E (dOwnX i w) Dn σ H → tAsg (tNX c (WE (wishE E)) w) (gName i) Dn σ H := fun Dn σ H ⟨e, F, H0, F0, De, x, S, q, K⟩ =>
  ⟨e, F, H0, _, De.ex, x.ok, S, q, fun ds p vs H' F' r x' hp hp' hF hr k => K.nx _ _ _ _ r (x.trans x') ((S.ext x.ok x').set_own i hp' hF (x.free hp) hr k fun j o es _ hj z => by
    obtain ⟨a, ws, h1, h2, _⟩ := S.ownO j o es hj
    rw [h1] at z
    cases z
    rw [hp] at h2; cases h2), K.exc x⟩
/-- raise C('..') -/
@[simp] def dRaise (n : Str) : WS := fun De _ => De.ex (n, none)
theorem xs_raise {n : Str} : ∀ Dn σ H, sD c E (dRaise n) Dn σ H → E (.ref (c.g.cls n)) none H := fun Dn σ H ⟨e, F, H0, F0, De, x, S, q, K⟩ => K.ex (n, none) H F q x
end
/-- a class of one's own over ValueError -/
structure ClsX (K : PySem.W.Frag) (mg : Str → Option Value) (cls : Str → Addr) (n : Str) : Prop where
  gP : mg n = some (.ref (cls n))
  xP : PySem.W.excIn K (cls n) He.veBase "ValueError.__new__" = true
  kP : PySem.W.keepIn K (.ref (cls n)) = true
  bP : PySem.W.subIn K (.ref (cls n)) (.type "BaseException") = some true
  tP : PySem.W.typeIn K (.ref (cls n)) = some (.type "type")
theorem ps_raiseD {X : Cx} {c : Amb} {E : XK} {n m : Str} {j : Nat} {p p2 pos pos2 : Pos} (hc : X.calm = true) (tk : Takes X (wishE E)) (T : ClsX X.K X.mg c.g.cls n) (hg : Gl X n) (hdb : (n == ("__debug__" : Str)) = false := by decide) :
    PS X (.Raise (some (.Call (.Name n p) [.Constant (.str m) j p2] [] pos)) none pos2) (sD c E (dRaise n)) :=
  ps_w (ps_raise hc tk (pmk_own PySem.F.excBase_ValueError T.xP T.gP T.kP (raises_own T.bP T.tP) hg hdb)) xs_raise
/-! ### defs -/
section
variable {P : Program} {w : World} {g : Glb} {mg : Str → Option Value} {base : Heap} {x : Str} {st : Stmt} {f : Addr} {fd : FuncData} {N ps : List Str} {k : Nat} {wb : WS}
theorem calX {f0 : Fx} (Fn : FunP g.K x st f fd) (mgf : mg x = some (.ref f)) (b : Binds g.K fd ps []) (S : FnScope N ps (defScope st)) (hlen : ∀ ds R RX, f0 ds R RX → ds.length = ps.length)
    (hb : ∀ (cdv : Value) (A : Around) (outer : List PySem.Env) (s : Shared) (H : Hp) (E : XK) (r a : Addr) (ns : List Int), Room k (A.deeper (envOfC x (defScope st) s.heap.objs.size f cdv)) →
      Takes (cxOf (L2.CX P w) P w g.K mg base N x (defScope st) f cdv A outer s H E) (wishE E) → PSs (cxOf (L2.CX P w) P w g.K mg base N x (defScope st) f cdv A outer s H E) (defBody st) (sD ⟨g, r, a, ns⟩ E wb))
    (hp : ∀ ds R RX, f0 ds R RX → wb { nx := fun _ => R .none, rt := R, ex := RX } (startD N ds)) : CalX P w g.K mg base (k + 1) x (spX g f0) := by
  obtain ⟨oc, od, dV, kV, doc, pm, an, cdv, ct, osl, rfl, lk, hcd, _, _⟩ := Fn.ex
  refine ⟨_, _, ps, fn_of lk hcd S (fun vs H Q E h => ?_) (fun A outer s H vs Q E hr h => ?_), mgf, Fn.kp, b⟩
  · obtain ⟨c, F, ds, R, RX, _, _, rv, h, _⟩ := h
    rw [rv.length]; exact hlen ds R RX h
  · obtain ⟨⟨g', r, a, ns⟩, F, ds, R, RX, hg, W, rv, h, P', PX⟩ := h
    have hg' : g' = g := hg
    subst hg'
    refine ⟨_, hb cdv A outer s H E r a ns hr (takes_of rfl rfl rfl rfl), startD N ds, F, H, F, _, Ext.refl W, rep_start rv, hp ds R RX h, ?_⟩
    exact ⟨fun e σ H' F' q x S' => P' _ _ H' F' q x .non, fun d v H' F' q x rv => P' d v H' F' q x rv, fun _ _ _ _ _ z => z.elim, fun _ _ _ _ z => z.elim, fun _ _ _ _ z => z.elim, fun y H' F' q x' => PX y H' F' q x', fun _ z => z.elim, fun _ _ _ _ z => z.elim, fun z => nomatch z⟩
theorem calNX {f0 : Fnx} (Fn : FunP g.K x st f fd) (mgf : mg x = some (.ref f)) (b : Binds g.K fd ps []) (S : FnScope N ps (defScope st)) (hlen : ∀ ds R RX, f0 ds R RX → ds.length = ps.length)
    (hb : ∀ (cdv : Value) (A : Around) (outer : List PySem.Env) (s : Shared) (H : Hp) (E : XK) (r a : Addr) (ns : List Int), Room k (A.deeper (envOfC x (defScope st) s.heap.objs.size f cdv)) →
      Takes (cxOf (L2.CX P w) P w g.K mg base N x (defScope st) f cdv A outer s H E) (wishE E) → PSs (cxOf (L2.CX P w) P w g.K mg base N x (defScope st) f cdv A outer s H E) (defBody st) (sD ⟨g, r, a, ns⟩ E wb))
    (hp : ∀ ds R RX, f0 ds R RX → wb { nx := fun _ => False, rt := fun _ => False, rn := R, ex := RX } (startD N ds)) : CalX P w g.K mg base (k + 1) x (spNX g f0) := by
  obtain ⟨oc, od, dV, kV, doc, pm, an, cdv, ct, osl, rfl, lk, hcd, _, _⟩ := Fn.ex
  refine ⟨_, _, ps, fn_of lk hcd S (fun vs H Q E h => ?_) (fun A outer s H vs Q E hr h => ?_), mgf, Fn.kp, b⟩
  · obtain ⟨c, F, ds, R, RX, _, _, rv, h, _⟩ := h
    rw [rv.length]; exact hlen ds R RX h
  · obtain ⟨⟨g', r, a, ns⟩, F, ds, R, RX, hg, W, rv, h, P', PX⟩ := h
    have hg' : g' = g := hg
    subst hg'
    refine ⟨_, hb cdv A outer s H E r a ns hr (takes_of rfl rfl rfl rfl), startD N ds, F, H, F, _, Ext.refl W, rep_start rv, hp ds R RX h, ?_⟩
    exact ⟨fun _ _ _ _ z => z.elim, fun _ _ _ _ z => z.elim, fun ds p vs H' F' q x h0 h1 h2 h3 kk => P' ds p vs H' F' q x h0 h1 h2 h3 kk, fun _ _ _ _ z => z.elim, fun _ _ _ _ z => z.elim, fun y H' F' q x' => PX y H' F' q x', fun _ z => z.elim, fun _ _ _ _ z => z.elim, fun z => nomatch z⟩
end
end FW
/-! FWN: enumerate over a tuple. -/
namespace FWN
open PySem
open PySem.Sem (wp)
open AutoSeq1 (wpAny_loadPart')
theorem meets_enum1 {v : Value} {o : Obj} {H : Heap → Prop} (B : Begins v o H) :
    Meets (Builtin.«enumerate.__new__» ⟨[.type "enumerate", v], []⟩) (fun _ R s => H s.heap ∧
      R (.ok (.ret (.ref (s.heap.push o).objs.size))) { s with heap := (s.heap.push o).push { cls := .type "enumerate", data := .fields #[.none, .bool false, .ref s.heap.objs.size, rawInt 0, .none, .none] } }) :=
  .of_wp fun prog w A R s h => by
    obtain ⟨hp, g, d, tk, os⟩ := s; obtain ⟨h1, h⟩ := h
    have hsub := sub_enumerate
    have q1 : ∀ {A' : Around} {E : Value → Shared → Prop} {Q : Value → Shared → Prop}, Q (.ref hp.objs.size) ⟨hp.push o, g, d, tk, os⟩ → wpAny (model prog w) A' (pyIter v) Q E ⟨hp, g, d, tk, os⟩ :=
      fun q => B.iter prog w _ _ ⟨hp, g, d, tk, os⟩ _ h1 q
    wp_walk using q1
    refine wpAny_stack_any fun st => wpAny_pure ?_
    split
    · rename_i c _ _ _ _ _
      cases (c == Value.type "enumerate")
      · wp_walk using q1
        exact ⟨_, rfl, h⟩
      · wp_walk using q1
        exact ⟨_, rfl, h⟩
    · wp_walk using q1
      exact ⟨_, rfl, h⟩
section
variable {prog : Program} {w : World} {A : Around} {E : Value → Shared → Prop} {s : Shared}
theorem enum_begins1 {v : Value} {o : Obj} {H : Heap → Prop} {Q : Value → Shared → Prop} (B : Begins v o H) (h1 : H s.heap)
    (h : ∀ h', IsEnum h' (s.heap.objs.size + 1) s.heap.objs.size 0 .none → h'.get? s.heap.objs.size = some o → h'.objs.size = s.heap.objs.size + 2 →
      (∀ b o, s.heap.get? b = some o → h'.get? b = some o) → Q (.ref (s.heap.objs.size + 1)) { s with heap := h' }) :
    wpAny (model prog w) A (call (.type "enumerate") [v]) Q E s := by
  refine callType_new F.called_enumerate (by decide) (F.typeCall_enumerate_1 _) (F.newCall_enumerate_1 _) (fun obj => F.args_object_init_2 obj _) F.entry_enumerate_new
    (meets_enum1 B) ⟨h1, ?_⟩
  have hz : (s.heap.push o).objs.size = s.heap.objs.size + 1 := Heap.size_push ..
  show _ ∧ _
  rw [hz]
  have he : IsEnum ((s.heap.push o).push { cls := .type "enumerate", data := .fields #[.none, .bool false, .ref s.heap.objs.size, rawInt 0, .none, .none] }) (s.heap.objs.size + 1) s.heap.objs.size 0 .none := by
    have := Heap.get?_push_size (s.heap.push o) (o := { cls := .type "enumerate", data := .fields #[.none, .bool false, .ref s.heap.objs.size, rawInt 0, .none, .none] }) rfl
    rw [hz] at this; exact this
  refine ⟨⟨_, he, rfl⟩, h _ he (Heap.get?_push_of_some _ (Heap.get?_push_size _ B.free)) (by rw [Heap.size_push, hz]) fun b o x => Heap.get?_push_of_some _ (Heap.get?_push_of_some _ x)⟩
end
section
variable {prog : Program} {w : World} {A : Around} {E : Value → Shared → Prop} {s : Shared}
theorem enum_endT {e it l : Addr} {i : Nat} {items : Array Value} {old : Value} {Q : Option Value → Shared → Prop} (hh : A.handled = none)
    (he : IsEnum s.heap e it i old) (hit : s.heap.IsTupleIter it l i) (hl : s.heap.IsTuple l items) (hx : items[i]? = none)
    (hQ : ∀ h', Heap.ExtBut it s.heap h' → Q none { s with heap := h' }) : wpAny (model prog w) A (pyNext (.ref e)) Q E s := by
  have hT : s.TypeIs (.ref e) "enumerate" := ⟨_, he, rfl⟩
  unfold pyNext
  refine wpAny_bind (wpAny_attempt (wpAny_callSpecial?_slot (name := Str.ofString "__next__") hT F.slot_enumerate_next
    (wpAny_call_entry F.slot_enumerate_next hT F.entry_enumerate_next ?_ (F.args_enumerate_next_1 _))))
  show wpAny _ _ (field (.ref e) 2 >>= _) _ _ _
  refine wpAny_bind (wpAny_field he rfl (x := .ref it) rfl ?_)
  refine wpAny_bind (wpAny_nextOf_tuple_end hh hit hl hx fun h' x he' hx' => ?_)
  obtain ⟨o, ho, hc⟩ := hx'
  refine wpAny_bind (wpAny_isInstance (T := "StopIteration") (b := true) ⟨o, ho, hc⟩ isSubtype_stop ?_)
  exact wpAny_pure (hQ _ he')
end
open PySem.Spec PyProof.Rows L2
/-- the tuple at a, each item in a new pair with its number -/
def IteT (K : PySem.W.Frag) (a : Addr) : It :=
  ⟨fun i H => ∃ (xs : List V) (x : V), SqT K H a xs ∧ xs[i]? = some x, fun i H v H' => ∃ T x, v = .ref T ∧ H T = none ∧ H' = upd H T (.tup [.int (i : Nat), x]) ∧ ∀ xs, SqT K H a xs → xs[i]? = some x, fun i H => ∃ xs : List V, SqT K H a xs ∧ xs.length ≤ i⟩
theorem turn_enumT {P : Program} {w : World} {K : PySem.W.Frag} {elts : List Expr} {kk : Nat} {tpos : Pos} (a e it : Addr) :
    Turn P w K (.Tuple elts kk tpos) (IteT K a) [e, it] e (fun i h => (∃ old, IsEnum h e it ((i : Nat) : Int) old) ∧ h.IsTupleIter it a i ∧ e ≠ it ∧ e ≠ a ∧ a ≠ it) where
  mem := by simp
  obj := fun i h st b hb => by
    obtain ⟨⟨old, he⟩, ⟨o, ho, hc, hd⟩, _⟩ := st
    have e' : b = e ∨ b = it := by simpa using hb
    rcases e' with z | z
    · rw [z]; exact ⟨_, he, fun v q => nomatch q⟩
    · rw [z]; exact ⟨o, ho, fun v q => by rw [hd] at q; cases q⟩
  keep := fun i h h' st k => let ⟨⟨old, he⟩, hi, hne⟩ := st; ⟨⟨old, k e (by simp) _ he⟩, hi.at fun o q => k it (by simp) o q, hne⟩
  item := by
    intro X hP hw hK hc i pins s σ H E I hf st hg
    subst hP hw hK
    obtain ⟨⟨old, he⟩, hit, hne, hea, hai⟩ := st
    obtain ⟨xs, x, hq, hx⟩ := hg
    obtain ⟨its, rv, p, hz⟩ := I.tuple hq
    obtain ⟨u, hu, ru⟩ := rv.get hx
    have hel : e < s.heap.objs.size := Heap.lt_size he
    have hil : it < s.heap.objs.size := by obtain ⟨_, q, _⟩ := hit; exact Heap.lt_size q
    have hu' : its.toArray[i]? = some u := by simpa using hu
    have hlt : i < its.toArray.size := (Array.getElem?_eq_some_iff.mp hu').1
    refine wpAny_pyNext_enum_itemC (Draws.tuple (A := X.A.in1) (I.ok.hd hc) it a hai its.toArray) he (c := (i : Int)) ⟨hit, p⟩ hlt hne (by simp; exact ⟨hne, hea⟩) fun y h' tk hy ho hit' hT hsz hk => ?_
    have ey : y = u := Option.some.inj (hy.symm.trans hu')
    subst ey
    refine ⟨_, rfl, wpAny_letOwnedTupleGo_enum (s := { s with heap := h', toks := tk + 1 }) ho fun h'' he' sb => ?_⟩
    have hT2 : h''.get? s.heap.objs.size = some { cls := .type "tuple", data := .seq #[.int i tk, y] } := (sb.2 _ (Nat.ne_of_gt hel)).trans hT
    have new : ObjOk X.prog X.w (upd H s.heap.objs.size (.tup [.int (i : Nat), x])) h'' s.heap.objs.size (.tup [.int (i : Nat), x]) :=
      ⟨by show 2 ≤ sizeLine; decide, [.int i tk, y], .cons ⟨_, rfl⟩ (.cons ru .nil), ⟨_, hT2, rfl, _, rfl⟩⟩
    have I1 : Inv X pins σ (upd H s.heap.objs.size (.tup [.int (i : Nat), x])) { s with heap := h'', toks := tk + 1 } :=
      I.turnedNew (ch := [e, it]) (fun b ob hb q => (sb.2 b (fun z => hb (by simp [z]))).trans (hk b ob (fun z => hb (by simp [z])) (fun z => hb (by simp [z])) q)) hf (Nat.le_refl _) new
    refine ⟨.ref s.heap.objs.size, _, I1, rfl, ⟨_, x, rfl, I.hok.fresh (Nat.le_refl _), rfl, fun ys hy => by rw [I.tuple_inj hy hq]; exact hx⟩, ⟨⟨y, ?_⟩, hit'.1.at fun o q => (sb.2 it (Ne.symm hne)).trans q, hne, hea, hai⟩, fun b hb => ?_⟩
    · have e1 : ((i + 1 : Nat) : Int) = (i : Int) + 1 := by omega
      rw [e1]; exact he'
    · have hb' : b < s.heap.objs.size := by
        have e' : b = e ∨ b = it := by simpa using hb
        rcases e' with z | z
        · rw [z]; exact hel
        · rw [z]; exact hil
      rw [upd_ne (Nat.ne_of_lt hb')]
      exact (hf b hb).1
  done := by
    intro X hP hw hK hc i pins s σ H E I hf st hg
    subst hP hw hK
    obtain ⟨⟨old, he⟩, hit, hne, hea, hai⟩ := st
    obtain ⟨xs, hq, hx⟩ := hg
    obtain ⟨its, rv, p, hz⟩ := I.tuple hq
    obtain ⟨f0, f1, f2, f3, f4, f5⟩ := hf it (by simp)
    have hl := rv.length
    exact enum_endT (I.ok.hd hc) he hit p (by simp; omega) fun h' eb => ⟨rfl, I.turned (t' := s.toks) (fun b o hb q => eb b o hb q) f0 f1 f3 f4 f5⟩
  self := fun A i s Q E st h => let ⟨⟨_, he⟩, _⟩ := st; wpAny_pyIter_enum he h
def iEnumT (K : PySem.W.Frag) (ta : TA) : TI := fun σ H R => ta σ H fun vs H1 => ∃ a xs, vs = [.ref a] ∧ SqT K H1 a xs ∧ R (IteT K a) H1
theorem pi_enumT {X : Cx} {e : Expr} {ta : TA} {p pos tpos : Pos} {elts : List Expr} {kk : Nat} (hg : Gl X "enumerate") (hm : X.mg "enumerate" = none) (ha : PA X [e] ta) (hs : starEach [e] X.env = [(false, eval e X.env)] := by rfl) :
    PI X (.Tuple elts kk tpos) (.Call (.Name "enumerate" p) [e] [] pos) (iEnumT X.K ta) := by
  refine ⟨fun pins s σ H R I h => ?_⟩
  refine Call_ (ld_blt I hg hm boot_enumerate (PyProof.Rows.callWith_type1 (thn (ha.run pos pins s σ H _ I h) fun us s1 ⟨vs, H1, I1, r1, q1⟩ => ?_) hs rfl))
  obtain ⟨a, xs, ex, hq, q⟩ := q1
  subst ex
  cases r1 with
  | cons r rr =>
    cases rr
    cases r
    obtain ⟨its, rv, p', hz⟩ := I1.tuple hq
    have hal : a < s1.heap.objs.size := by obtain ⟨_, q, _⟩ := p'; exact Heap.lt_size q
    refine enum_begins1 (begins_tuple a its.toArray) p' fun h' he hit hsz hk => wpAny_pyIter_enum he ?_
    have I2 : Inv X pins σ H1 { s1 with heap := h' } := I1.kept (t' := s1.toks) hk
    refine ⟨s1.heap.objs.size + 1, [s1.heap.objs.size + 1, s1.heap.objs.size], _, _, H1, rfl, I2, turn_enumT a (s1.heap.objs.size + 1) s1.heap.objs.size, ⟨⟨.none, he⟩, ⟨_, hit, rfl, rfl⟩, Nat.succ_ne_self _, Nat.ne_of_gt (Nat.lt_succ_of_lt hal), Nat.ne_of_lt hal⟩, fun b hb => ?_, q⟩
    have e' : b = s1.heap.objs.size + 1 ∨ b = s1.heap.objs.size := by simpa using hb
    have hle : s1.heap.objs.size ≤ b := by
      rcases e' with z | z
      · rw [z]; exact Nat.le_add_right _ _
      · rw [z]; exact Nat.le_refl _
    exact I1.fpOk hle (I1.hok.fresh hle)
end FWN
namespace FW
open PySem PySem.Spec PyProof.Rows L2
section
variable {c : Amb} {H F : Hp} {σ : L2.St}
/-- what enumerate gives -/
def enumD (xs : List D) : List D := xs.zipIdx.map fun p => .tuple [.int (p.2 : Nat), p.1]
theorem enumD_get {xs : List D} {i : Nat} {d : D} (h : (enumD xs)[i]? = some d) : ∃ x, xs[i]? = some x ∧ d = .tuple [.int (i : Nat), x] := by
  unfold enumD at h
  rw [List.getElem?_map, List.getElem?_zipIdx] at h
  cases q : xs[i]? with
  | none => rw [q] at h; cases h
  | some x =>
    rw [q] at h
    simp at h
    exact ⟨x, rfl, h.symm⟩
@[simp] theorem enumD_length {xs : List D} : (enumD xs).length = xs.length := by simp [enumD]
@[simp] def rdEnum : List D → (List D → Prop) → Prop := fun ds R => ∃ xs, ds = [.tuple xs] ∧ R (enumD xs)
@[simp] def iEnm (w : WA) : WA := fun e R => w e fun ds => rdEnum ds R
theorem yields_enum {a : Addr} {vs : List V} {xs : List D} (h : SqT c.K F a vs) (k : RpAll c.K F vs xs) : Yields c (FWN.IteT c.K a) F (enumD xs) where
  go := fun i H G hi W s => by
    rw [enumD_length, ← dpAll_length k] at hi
    exact ⟨vs, vs[i], same_t (s.trans W.sub) h, List.getElem?_eq_getElem hi⟩
  yld := fun i d H G x H' hd W s ⟨T, y, ex, hT, eH, z⟩ => by
    subst ex
    subst eH
    obtain ⟨u, hu, rfl⟩ := enumD_get hd
    obtain ⟨d', h1, h2⟩ := dpAll_get k (z vs (same_t (s.trans W.sub) h))
    rw [hu] at h1
    cases h1
    exact ⟨_, Ext.laid W _ hT, repTup upd_same (dpAll_same (upd_keep (W.newF hT)) _ _ (.cons (.int _) (.cons (dp_same s _ _ h2) .nil)))⟩
  stop := fun H G W s => ⟨vs, same_t (s.trans W.sub) h, by rw [enumD_length]; exact Nat.le_of_eq (dpAll_length k)⟩
theorem xi_enum {w : WA} : ∀ σ H R, tI c (iEnm w) σ H R → FWN.iEnumT c.K (tA c w) σ H R := fun σ H R ⟨e, F, H0, Rd, W, S, q, P⟩ =>
  ⟨e, F, H0, _, W, S, q, fun ds vs H' F' ⟨xs, hd, r⟩ x rv => by
    subst hd
    obtain ⟨v, rfl, r1⟩ := reps1 rv
    obtain ⟨a, us, rfl, h1, h2⟩ := r1.tup_inv
    exact ⟨a, us, rfl, same_t x.ok.sub h1, P _ _ H' F' r x (yields_enum h1 h2)⟩⟩
end
/-- a comprehension over items told by a list of one's own -/
theorem lcRun_map {α : Type} {g : D → (Sg → Prop) → Prop} {wt : WT} {we : W} {R : List D → Prop} {φ : α → D} (p : α → Bool) (f : α → D) : ∀ (l : List α) (acc : List D),
    (∀ a ∈ l, ∀ K : Option D → Prop, K (if p a = true then some (f a) else none) → g (φ a) fun e' => wt e' fun b => if b = true then we e' fun y => y ≠ .dict [] ∧ K (some y) else K none) → R (acc ++ (l.filter p).map f) → lcRun g wt we R (l.map φ) acc
  | [], acc, _, r => by simpa [lcRun] using r
  | a :: l, acc, ht, r => by
    rw [List.map_cons]
    unfold lcRun
    refine ht a List.mem_cons_self (fun o => match o with
      | some y => lcRun g wt we R (l.map φ) (acc ++ [y])
      | none => lcRun g wt we R (l.map φ) acc) ?_
    cases q : p a with
    | true =>
      refine lcRun_map p f l _ (fun b hb => ht b (List.mem_cons_of_mem _ hb)) ?_
      simpa [List.filter_cons, q] using r
    | false =>
      refine lcRun_map p f l _ (fun b hb => ht b (List.mem_cons_of_mem _ hb)) ?_
      simpa [List.filter_cons, q] using r
theorem enumD_map {α : Type} {φ : α → D} (l : List α) : enumD (l.map φ) = l.zipIdx.map fun p => .tuple [.int (p.2 : Nat), φ p.1] := by
  unfold enumD
  rw [List.zipIdx_map, List.map_map]
  rfl
end FW
/-! FWT: try: f(..) except C as n: suite, all that f lets out being caught. -/
namespace FW
open PySem PySem.Spec PyProof.Rows L2
theorem RepS.set_exc {c : Amb} {H0 H F : Hp} {σ : L2.St} {e : Sg} (S : RepS c H0 σ H F e) (i : Nat) (a : Addr) (u : Option (Addr × Int) := none) (hu : ∀ p, u = some p → F p.1 = some (.xd [(("number" : Str), .int p.2)]) := by intro p z; cases z) : RepS c H0 (σ.set i (some (.ref a))) H F (e.set i (.exc a u)) where
  len := by simp [S.len]
  val := fun j d h => by
    by_cases hij : i = j
    · subst hij
      by_cases hl : i < e.length
      · rw [List.getElem?_set_self hl] at h; cases h
      · rw [List.getElem?_eq_none (by simpa using hl)] at h; cases h
    · rw [List.getElem?_set_ne hij] at h ⊢
      exact S.val j d h
  ownO := fun j o' ds h => by
    by_cases hij : i = j
    · subst hij
      by_cases hl : i < e.length
      · rw [List.getElem?_set_self hl] at h; cases h
      · rw [List.getElem?_eq_none (by simpa using hl)] at h; cases h
    · rw [List.getElem?_set_ne hij] at h ⊢
      exact S.ownO j o' ds h
  distO := fun j k o1 o2 ds es b hjk h1 h2 h3 h4 => by
    have f : ∀ (j : Nat) (o : Option Hp) (ds : List D), (e.set i (.exc a u))[j]? = some (.ownO o ds) → i ≠ j := fun j o ds h z => by
      subst z
      by_cases hl : i < e.length
      · rw [List.getElem?_set_self hl] at h; cases h
      · rw [List.getElem?_eq_none (by simpa using hl)] at h; cases h
    have n1 := f j o1 ds h1
    have n2 := f k o2 es h2
    rw [List.getElem?_set_ne n1] at h1 h3
    rw [List.getElem?_set_ne n2] at h2 h4
    exact S.distO j k o1 o2 ds es b hjk h1 h2 h3 h4
  fix := fix_set S.fix fun _ _ _ z => nomatch z
  exc := fun j b o h => by
    by_cases hij : i = j
    · subst hij
      by_cases hl : i < e.length
      · rw [List.getElem?_set_self hl] at h
        cases h
        exact ⟨by rw [List.getElem?_set_self (by rw [S.len]; exact hl)], hu⟩
      · rw [List.getElem?_eq_none (by simpa using hl)] at h; cases h
    · rw [List.getElem?_set_ne hij] at h ⊢
      exact S.exc j b o h
/-- the ends of an except suite: its name goes -/
@[simp] def suiteEnds (i : Nat) (De : EndsD) : EndsD := { nx := fun e => De.nx (e.set i .un), rt := De.rt, rn := De.rn, bk := fun e => De.bk (e.set i .un), ct := fun e => De.ct (e.set i .un), ex := fun _ => False }
@[simp] def dTryAs (i : Nat) (names : List Str) (wb : WXp) (ws : Addr → Str → WS) : WS := fun De e =>
  wb (fun x => x.1 ∈ names ∧ x.2 = none ∧ ∀ a, ws a x.1 (suiteEnds i De) (e.set i (.exc a))) e fun _ => De.nx e
/-- the suite's reading: for each class -/
def tsD (c : Amb) (E : XK) (names : List Str) (ws : Addr → Str → WS) (a : Addr) (cls : Value) (d : Option Addr) : TS := fun Dn σ H => ∃ n, n ∈ names ∧ cls = .ref (c.g.cls n) ∧ d = none ∧ sD c E (ws a n) Dn σ H
section
variable {c : Amb} {E : XK} {X : Cx}
theorem pss_tsD {st : List Stmt} {names : List Str} {ws : Addr → Str → WS} {a : Addr} {cls : Value} {d : Option Addr} (h : ∀ n ∈ names, cls = .ref (c.g.cls n) → d = none → PSs X st (sD c E (ws a n))) : PSs X st (tsD c E names ws a cls d) :=
  ⟨fun pins s σ H D I ⟨n, hn, hc, hd, q⟩ => (h n hn hc hd).run pins s σ H D I q⟩
theorem xs_tryAs {i : Nat} {names : List Str} {wb : WXp} {ws : Addr → Str → WS} {cv : Value} {Wout : WX} (hm : ∀ n ∈ names, PySem.W.exmOne c.K (.ref (c.g.cls n)) cv = some true) : ∀ Dn σ H, sD c E (dTryAs i names wb ws) Dn σ H →
    tDrop (tDX c (WE (wAs c.K cv i (tsD c E names ws) Wout Dn)) wb) Dn σ H := fun Dn σ H ⟨e, F, H0, F0, De, x, S, q, K⟩ => by
  refine ⟨e, F, H0, _, _, x.ok, S, q, fun d v H' F' r x' rv => K.nx _ _ _ _ r (x.trans x') (S.ext x.ok x'), ?_⟩
  rintro ⟨n, k⟩ H' F' ⟨hn, hk, r⟩ x'
  have hk : k = none := hk
  subst hk
  refine ⟨true, hm n hn, fun _ a _ => ⟨n, hn, rfl, rfl, e.set i (.exc a), F', H0, F0, _, x.trans x', (S.ext x.ok x').set_exc i a, r a, ?_⟩, fun z => nomatch z⟩
  exact ⟨fun e2 σ2 H2 F2 q2 x2 S2 => K.nx _ _ _ _ q2 x2 (S2.set_un i none), fun d v H2 F2 q2 x2 rv => K.rt d v H2 F2 q2 x2 rv, fun ds p vs H2 F2 q2 x2 h0 h1 h2 h3 kk => K.rn ds p vs H2 F2 q2 x2 h0 h1 h2 h3 kk,
    fun e2 σ2 H2 F2 q2 x2 S2 => K.bk _ _ _ _ q2 x2 (S2.set_un i none), fun e2 σ2 H2 F2 q2 x2 S2 => K.ct _ _ _ _ q2 x2 (S2.set_un i none), fun _ _ _ z => z.elim, fun _ z => z.elim, fun _ _ _ _ z => z.elim, fun z => nomatch z⟩
/-- isinstance(e, C), e the exception that the suite holds -/
@[simp] def dIsE (a : Addr) (i : Nat) (b : Bool) : W := fun e R => e[i]? = some (.exc a) ∧ R (.bool b)
theorem xd_isE {a D : Addr} {i : Nat} {b : Bool} {cv : Value} {v : V} (hv : ∀ u, RelV v u → u = cv) (hk : PySem.W.kitOne c.K (.ref D) cv = some b) : ∀ σ H Q, tD c (dIsE a i b) σ H Q → tCB (rIsE c.K D a) (tCons (tVar i) (tCons (tC v) tNil)) σ H Q := fun σ H Q ⟨e, F, H0, R, W, S, ⟨h, q⟩, P⟩ =>
  ⟨.ref a, (S.exc i a _ h).1, v, cv, b, rfl, hv, hk, P.here W q .bl⟩
theorem xd_isER {a D C : Addr} {i : Nat} {b : Bool} (hk : PySem.W.kitOne c.K (.ref D) (.ref C) = some b) : ∀ σ H Q, tD c (dIsE a i b) σ H Q → tCB (rIsE c.K D a) (tCons (tVar i) (tCons (tC (.ref C)) tNil)) σ H Q := xd_isE (v := .ref C) (cv := .ref C) (fun _ h => h) hk
theorem xd_isET {a D : Addr} {i : Nat} {b : Bool} {t : String} (hk : PySem.W.kitOne c.K (.ref D) (.type t) = some b) : ∀ σ H Q, tD c (dIsE a i b) σ H Q → tCB (rIsE c.K D a) (tCons (tVar i) (tCons (tC (.ty t)) tNil)) σ H Q := xd_isE (v := .ty t) (cv := .type t) (fun _ h => h) hk
end
end FW
/-! FWM: tuple * int. -/
namespace FW
open PySem PySem.Spec PyProof.Rows L2
theorem dpAll_repl {K : PySem.W.Frag} {F : Hp} {vs : List V} {ds : List D} (h : RpAll K F vs ds) : ∀ n : Nat, RpAll K F (List.replicate n vs).flatten (List.replicate n ds).flatten
  | 0 => .nil
  | n + 1 => by
    rw [List.replicate_succ, List.replicate_succ, List.flatten_cons, List.flatten_cons]
    exact dpAll_app h (dpAll_repl h n)
@[simp] def rdRepT : D → D → (D → Prop) → Prop := fun x y R => ∃ xs k, x = .tuple xs ∧ y = .int k ∧ xs ≠ [] ∧ 2 ≤ k ∧ k ≤ 1000 ∧ xs.length ≤ 1000 ∧ R (.tuple (List.replicate k.toNat xs).flatten)
theorem od_repT {c : Amb} : OpD c (rRepT c.K) rdRepT := by
  rintro H F x y d e R Q W rx ry ⟨xs, k, rfl, rfl, hne, h2, h3, h4, r⟩ P
  obtain ⟨a, vs, rfl, g1, g2⟩ := rx.tup_inv
  have l1 := dpAll_length g2
  refine ⟨a, k, vs, rfl, ry.int_inv, same_t W.sub g1, fun z => ?_, h2, h3, by omega, P.newTup W (dpAll_repl g2 _) r⟩
  subst z
  cases g2
  exact hne rfl
theorem cut_to (l : List Int) {n : Nat} (h : n ≤ l.length) : cutD (l.map PyData.int) none (some (n : Int)) = (l.take n).map PyData.int := by
  unfold cutD
  rw [HT.sIx_nat, HT.sIx_none, List.length_map, Nat.min_eq_left h, List.map_take]
  rfl
theorem cut_from (l : List Int) {n : Nat} (h : n < l.length) : cutD (l.map PyData.int) (some ((n : Int) + 1)) none = (l.drop (n + 1)).map PyData.int := by
  have z : ((n : Int) + 1) = ((n + 1 : Nat) : Int) := by omega
  unfold cutD
  rw [z, HT.sIx_nat, HT.sIx_none, List.length_map, Nat.min_eq_left h, List.map_drop]
  exact List.take_of_length_le (by simp)
/-- a for over what is numbered -/
theorem forRun_ix {wg : WG} {wb : WS} {De : EndsD} {φ : Nat → D} {n : Nat} (I : Nat → Sg → Prop) (ht : ∀ (k : Nat) (e : Sg) (N : Sg → Prop), k < n → I k e → (∀ e2, I (k + 1) e2 → N e2) → wg (φ k) e fun e' => wb { De with nx := N, ct := N, bk := De.nx, base := fun _ => False, pin := false } e')
    (he : ∀ e, I n e → De.nx e) (e : Sg) (h : I 0 e) : forRun wg wb De ((List.range n).map φ) e := by
  have key : ∀ (m k : Nat) (e : Sg), k + m = n → I k e → forRun wg wb De (((List.range n).map φ).drop k) e := by
    intro m
    induction m with
    | zero =>
      intro k e hk h
      have : k = n := by omega
      subst this
      rw [List.drop_of_length_le (by simp)]
      exact he e h
    | succ m ih =>
      intro k e hk h
      have hlt : k < ((List.range n).map φ).length := by simp; omega
      rw [drop_at hlt]
      have e1 : ((List.range n).map φ)[k] = φ k := by simp
      rw [e1]
      exact ht k e _ (by omega) h fun e2 h2 => ih (k + 1) e2 (by omega) h2
  have := key n 0 e (by omega) h
  simpa using this
end FW
/-! FWU0: min of a list whose items are compared by what the heap holds (tuples). -/
namespace FWU
open PySem
open Sem (wp)
/-- comparisons that hold while what stood in h0 stands -/
def CmpH (prog : Program) (w : World) (A : Around) (h0 : Heap) (P : Nat → Value → Prop) (bt : Nat → Nat → Bool) : Prop :=
  ∀ i j vi vj (s : Shared) (Q E : Value → Shared → Prop), (∀ b o, h0.get? b = some o → s.heap.get? b = some o) → P i vi → P j vj → Q (.bool (bt i j)) s → wpAny (model prog w) A (richCompare .Lt vi vj) Q E s
section
variable {prog : Program} {w : World} {A : Around} {R : Result → Shared → Prop} {I : Addr} {fp wr : List Addr} {n : Nat} {P : Nat → Value → Prop} {St : Nat → Heap → Prop} {h0 : Heap} {bt : Nat → Nat → Bool} {S : Addr}
abbrev mlist (vs : Array Value) (c : Nat) : Obj := { cls := .type "list", dict := none, data := .seq vs c, slots := #[] }
/-- all that is told behind the loop -/
def MinEnd (R : Result → Shared → Prop) (wr : List Addr) (S : Addr) (P : Nat → Value → Prop) (k : Nat) (s : Shared) : Prop :=
  ∀ v h' tk, P k v → (∀ b o, b ∉ wr → b ≠ S → s.heap.get? b = some o → h'.get? b = some o) → R (.ok (.ret v)) { s with heap := h', toks := tk }
theorem min_turns (W : Walks prog w A.in1 I fp wr n P St) (hcmp : CmpH prog w A.in1 h0 P bt) (hSf : S ∉ fp) (h0w : ∀ b o, h0.get? b = some o → b ∉ wr ∧ b ≠ S) :
    ∀ (k j : Nat) (s : Shared) (vb : Value) (c : Nat), n - (j + 1) = k → j + 1 ≤ n → St (j + 1) s.heap → P (argBest bt j) vb → s.heap.get? S = some (mlist #[vb, vb] c) →
      (∀ b o, h0.get? b = some o → s.heap.get? b = some o) → MinEnd R wr S P (argBest bt (n - 1)) s → codeAny (model prog w) A (.builtin "min.loop" ⟨[.ref I, .none, .ref S], []⟩) R s := by
  have nw : S ∉ wr := fun q => hSf (W.sub _ q)
  intro k
  induction k with
  | zero =>
    intro j s vb c e1 e2 a1 a2 a3 a4 a5
    have e3 : j + 1 = n := by omega
    refine codeAny_builtin F.entry_min_loop ?_
    rw [Around.under_plainId F.plain_min_loop _]
    show wpAny (model prog w) A.in1 (seqItems? (.ref S) >>= _) _ _ s; refine wpAny_bind (wpAny_seqItems a3 rfl ?_)
    show wpAny (model prog w) A.in1 (tryCatch (pyNext (.ref I)) _ >>= _) _ _ s; refine wpAny_bind (wpAny_tryCatch (W.done s _ _ (e3 ▸ a1) fun h' tk kp => ?_))
    show wpAny (model prog w) A.in1 (updateSeq S (fun _ => #[]) >>= _) _ _ _; refine wpAny_bind ?_; refine wpAny_updateSeq (kp S _ nw a3) rfl (wpAny_bind (wpAny_letGo (wpAny_pure ?_)))
    exact a5 vb _ tk (by rw [← e3]; exact a2) fun b o x y z => (Heap.get?_update_other _ _ (Ne.symm y)).trans (kp b o x z)
  | succ k ih =>
    intro j s vb c e1 e2 a1 a2 a3 a4 a5
    have lt : j + 1 < n := by omega
    refine codeAny_builtin F.entry_min_loop ?_
    rw [Around.under_plainId F.plain_min_loop _]
    show wpAny (model prog w) A.in1 (seqItems? (.ref S) >>= _) _ _ s; refine wpAny_bind (wpAny_seqItems a3 rfl ?_)
    show wpAny (model prog w) A.in1 (tryCatch (pyNext (.ref I)) _ >>= _) _ _ s; refine wpAny_bind (wpAny_tryCatch (W.item (j + 1) s _ _ lt a1 fun v h' tk pv st' kp => ?_))
    have kS := kp S _ nw a3
    have k0 : ∀ b o, h0.get? b = some o → h'.get? b = some o := fun b o q => kp b o (h0w b o q).1 (a4 b o q)
    show wpAny (model prog w) A.in1 (tryCatch (holding [v, v] (richCompare .Lt v vb >>= _)) _ >>= _) _ _ _; refine wpAny_bind (wpAny_tryCatch (wpAny_holding (wpAny_bind (hcmp (j + 1) (argBest bt j) v vb _ _ _ k0 pv a2 ?_))))
    refine wpAny_bind (wpAny_holding (wpAny_truthy_bool ?_)); refine wpAny_bind (wpAny_letGo (wpAny_pure ?_))
    by_cases q : bt (j + 1) (argBest bt j) = true
    · have e4 : argBest bt (j + 1) = j + 1 := if_pos q
      simp only [q, if_true]
      refine wpAny_bind ?_; refine wpAny_updateSeq kS rfl (wpAny_bind (wpAny_letGo (wpAny_pure ⟨plainId_quiet F.plain_min_loop _, ?_⟩)))
      refine ih (j + 1) _ v _ (by omega) lt (W.frame _ _ _ st' fun b x o z => ?_) (by rw [e4]; exact pv) (Heap.get?_update_self _ kS rfl) (fun b o x => ?_) fun v' h2 tk2 x y => ?_
      · exact (Heap.get?_update_other _ _ (fun (z : S = b) => hSf (z ▸ x))).trans z
      · exact (Heap.get?_update_other _ _ (Ne.symm (h0w b o x).2)).trans (k0 b o x)
      · exact a5 v' h2 tk2 x fun b o x1 x2 x3 => y b o x1 x2 ((Heap.get?_update_other _ _ (Ne.symm x2)).trans (kp b o x1 x3))
    · have e4 : argBest bt (j + 1) = argBest bt j := if_neg q
      simp only [q, Bool.false_eq_true, if_false]
      refine wpAny_bind (wpAny_letGo (wpAny_pure ⟨plainId_quiet F.plain_min_loop _, ?_⟩))
      exact ih (j + 1) _ vb c (by omega) lt st' (by rw [e4]; exact a2) kS k0 fun v' h2 tk2 x y => a5 v' h2 tk2 x fun b o x1 x2 x3 => y b o x1 x2 (kp b o x1 x3)
theorem min_first (W : Walks prog w A.in1 I fp wr n P St) (hcmp : CmpH prog w A.in1 h0 P bt) (hSf : S ∉ fp) (h0w : ∀ b o, h0.get? b = some o → b ∉ wr ∧ b ≠ S) (hn : 0 < n) {s : Shared} {c : Nat} (a1 : St 0 s.heap) (a3 : s.heap.get? S = some (mlist #[] c))
    (a4 : ∀ b o, h0.get? b = some o → s.heap.get? b = some o) (a5 : MinEnd R wr S P (argBest bt (n - 1)) s) : codeAny (model prog w) A (.builtin "min.loop" ⟨[.ref I, .none, .ref S], []⟩) R s := by
  have nw : S ∉ wr := fun q => hSf (W.sub _ q)
  refine codeAny_builtin F.entry_min_loop ?_
  rw [Around.under_plainId F.plain_min_loop _]
  show wpAny (model prog w) A.in1 (seqItems? (.ref S) >>= _) _ _ s; refine wpAny_bind (wpAny_seqItems a3 rfl ?_)
  show wpAny (model prog w) A.in1 (tryCatch (pyNext (.ref I)) _ >>= _) _ _ s; refine wpAny_bind (wpAny_tryCatch (W.item 0 s _ _ hn a1 fun v h' tk pv st' kp => ?_))
  have kS := kp S _ nw a3
  show wpAny (model prog w) A.in1 (updateSeq S (fun _ => #[v, v]) >>= _) _ _ _; refine wpAny_bind ?_; refine wpAny_updateSeq kS rfl (wpAny_pure ⟨plainId_quiet F.plain_min_loop _, ?_⟩)
  refine min_turns W hcmp hSf h0w _ 0 _ v _ rfl hn (W.frame _ _ _ st' fun b x o z => ?_) pv (Heap.get?_update_self _ kS rfl) (fun b o x => ?_) fun v' h2 tk2 x y => ?_
  · exact (Heap.get?_update_other _ _ (fun (z : S = b) => hSf (z ▸ x))).trans z
  · exact (Heap.get?_update_other _ _ (Ne.symm (h0w b o x).2)).trans (kp b o (h0w b o x).1 (a4 b o x))
  · exact a5 v' h2 tk2 x fun b o x1 x2 x3 => y b o x1 x2 ((Heap.get?_update_other _ _ (Ne.symm x2)).trans (kp b o x1 x3))
end
section
variable {prog : Program} {w : World} {A : Around} {E : Value → Shared → Prop} {s : Shared}
theorem min_list {l : Addr} {its : Array Value} {bt : Nat → Nat → Bool} {Q : Value → Shared → Prop} (hh : A.handled = none) (hl : s.heap.IsList l its) (hn : 0 < its.size) (hcmp : CmpH prog w A.in1 s.heap (fun i v => its[i]? = some v) bt)
    (h : ∀ v h' tk, its[argBest bt (its.size - 1)]? = some v → (∀ b o, s.heap.get? b = some o → h'.get? b = some o) → Q v { s with heap := h', toks := tk }) : wpAny (model prog w) A (call (.builtin "min") [.ref l]) Q E s := by
  refine call_function_tree F.kind_min F.plain_min F.entry_min (F.args_min1 _) ?_
  show wpAny (model prog w) A.in1 (Builtin.Builtins.bindParams "min" ["key", "default"] 0 ⟨[], []⟩ >>= _) _ _ s; refine wpAny_bind (wpAny_of_eq (show Builtin.Builtins.bindParams "min" ["key", "default"] 0 ⟨[], []⟩ = pure [none, none] from rfl) (wpAny_bind (wpAny_pure ?_)))
  refine wpAny_bind (L2.iter_anyList (A := A.in1) hl fun s2 e st fpOk ne => ?_)
  subst e
  refine wpAny_bind (wpAny_newObj_type ?_)
  have hlt : l < s.heap.objs.size := let ⟨_, e, _⟩ := hl; Heap.lt_size e
  have sz : (s.heap.push { cls := .type "list_iterator", data := .fields #[.ref l, .int 0 0] }).objs.size = s.heap.objs.size + 1 := Heap.size_push ..
  have W := Walks.list (prog := prog) (w := w) (A := A.in1) hh s.heap.objs.size l ne its
  refine wpAny_pure ⟨plainId_quiet F.plain_min_loop _, ?_⟩
  refine min_first (S := (s.heap.push { cls := .type "list_iterator", data := .fields #[.ref l, .int 0 0] }).objs.size) W hcmp (fun q => Nat.lt_irrefl _ (fpOk _ q)) (fun b o q => ?_) hn (W.frame _ _ _ st fun b _ o e => Heap.get?_push_of_some _ e) (Heap.get?_push_size _ rfl) (fun b o q => ?_) fun v h' tk pv kp => ?_
  · have hb := Heap.lt_size q
    refine ⟨fun z => ?_, fun z => ?_⟩
    · rw [List.mem_singleton.mp z] at hb; exact Nat.lt_irrefl _ hb
    · rw [z, sz] at hb; exact Nat.lt_irrefl _ (Nat.lt_of_succ_lt hb)
  · exact Heap.get?_push_of_some _ (Heap.get?_push_of_some _ q)
  · refine h v h' tk pv fun b o q => ?_
    have hb := Heap.lt_size q
    refine kp b o (fun z => ?_) (fun z => ?_) (Heap.get?_push_of_some _ (Heap.get?_push_of_some _ q))
    · rw [List.mem_singleton.mp z] at hb; exact Nat.lt_irrefl _ hb
    · rw [z, sz] at hb; exact Nat.lt_irrefl _ (Nat.lt_of_succ_lt hb)
end
theorem argBest_mem (bt : Nat → Nat → Bool) : ∀ k, argBest bt k ≤ k
  | 0 => Nat.le_refl 0
  | k + 1 => by
    show (if bt (k + 1) (argBest bt k) then k + 1 else argBest bt k) ≤ k + 1
    have := argBest_mem bt k
    split <;> omega
/-- by an order: none is better -/
theorem argBest_best (lt : Nat → Nat → Bool) (irr : ∀ i, lt i i = false) (as : ∀ i j, lt i j = true → lt j i = false) (tr2 : ∀ i j k, lt j i = false → lt k j = false → lt k i = false) :
    ∀ k j, j ≤ k → lt j (argBest lt k) = false
  | 0, j, h => by
    have : j = 0 := by omega
    subst this
    exact irr 0
  | k + 1, j, h => by
    have ih := argBest_best lt irr as tr2 k
    show lt j (if lt (k + 1) (argBest lt k) then k + 1 else argBest lt k) = false
    by_cases q : lt (k + 1) (argBest lt k) = true
    · rw [if_pos q]
      by_cases z : j = k + 1
      · rw [z]; exact irr _
      · exact tr2 (k + 1) (argBest lt k) j (as _ _ q) (ih j (by omega))
    · rw [if_neg q]
      by_cases z : j = k + 1
      · rw [z]; simpa using q
      · exact ih j (by omega)
end FWU
/-! FWU: min of pairs, sum, abs, reversed, [::-1], zip of lists; tests that look into a list of one's own. -/
namespace FW
open PySem PySem.Spec PyProof.Rows L2
/-! ### min of a list of pairs of ints -/
def ltP2 (p q : Int × Int) : Bool := if p.1 = q.1 then decide (p.2 < q.2) else decide (p.1 < q.1)
def rMinP (K : PySem.W.Frag) : List V → Hp → VK → Prop := fun vs H Q => ∃ (a : Addr) (xs : List V) (k : Nat → Int × Int), vs = [V.ref a] ∧ SqL K H a xs ∧ 0 < xs.length ∧
  (∀ i x, xs[i]? = some x → ∃ t, x = V.ref t ∧ SqT K H t [.int (k i).1, .int (k i).2]) ∧ ∀ (i : Nat) x, xs[i]? = some x → (∀ j, j < xs.length → ltP2 (k j) (k i) = false) → Q x H
section
variable {X : Cx}
theorem cr_minP (hc : X.calm = true) (hu : X.A.units + 64 < cLine) : CallR X (.builtin "min") (rMinP X.K) := by
  intro pins s σ H vs us Q I r h
  obtain ⟨a, xs, k, rfl, hs, h0, hx, q⟩ := h
  obtain ⟨its, rv, hl, _⟩ := I.list hs
  rw [Vals.ref1 r]
  have hlen : its.toArray.size = xs.length := by rw [List.size_toArray]; exact rv.length.symm
  have at_ : ∀ (i : Nat) v, its.toArray[i]? = some v → ∃ x, xs[i]? = some x ∧ RelV x v := fun i v e => by
    have e' : its[i]? = some v := by simpa using e
    have hi : i < xs.length := by rw [rv.length]; exact (List.getElem?_eq_some_iff.mp e').1
    obtain ⟨u, hu, ru⟩ := rv.get (List.getElem?_eq_getElem hi)
    rw [e'] at hu
    cases hu
    exact ⟨_, List.getElem?_eq_getElem hi, ru⟩
  have cmp : FWU.CmpH X.prog X.w X.A.in1 s.heap (fun i v => its.toArray[i]? = some v) (fun i j => ltP2 (k i) (k j)) := by
    intro i j vi vj s2 Q2 E2 keep hi hj hq
    obtain ⟨x, ex, rx⟩ := at_ i vi hi
    obtain ⟨y, ey, ry⟩ := at_ j vj hj
    obtain ⟨t, rfl, ht⟩ := hx i x ex
    obtain ⟨t2, rfl, ht2⟩ := hx j y ey
    obtain rfl : vi = Value.ref t := rx
    obtain rfl : vj = Value.ref t2 := ry
    obtain ⟨i1, r1, p1, _⟩ := I.tuple ht
    obtain ⟨i2, r2, p2, _⟩ := I.tuple ht2
    have z1 : IntsAre i1.toArray.toList [(k i).1, (k i).2] := intsAre_of (ns := [(k i).1, (k i).2]) r1
    have z2 : IntsAre i2.toArray.toList [(k j).1, (k j).2] := intsAre_of (ns := [(k j).1, (k j).2]) r2
    have k1 : IsTup s2.heap t i1.toArray := let ⟨o, e, z⟩ := p1; ⟨o, keep _ _ e, z⟩
    have k2 : IsTup s2.heap t2 i2.toArray := let ⟨o, e, z⟩ := p2; ⟨o, keep _ _ e, z⟩
    have hu2 : X.A.in1.units < cLine := by show X.A.units + 1 < cLine; omega
    have lx : HT.lexLt [(k i).1, (k i).2] [(k j).1, (k j).2] = ltP2 (k i) (k j) := by
      unfold ltP2
      rw [HT.lexLt_cons, HT.lexLt_cons, HT.lexLt_nil_nil]
      by_cases c1 : (k i).1 = (k j).1
      · rw [if_pos c1, if_pos c1]
        by_cases c2 : (k i).2 = (k j).2
        · rw [if_pos c2, c2]; simp
        · rw [if_neg c2]
      · rw [if_neg c1, if_neg c1]
    have hq : Q2 (Value.bool (ltP2 (k i) (k j))) s2 := hq
    rw [← lx] at hq
    exact HT.lt_tupInts k1 k2 z1 z2 hu2 hq
  refine FWU.min_list (I.ok.hd hc) hl.isList (by rw [hlen]; exact h0) cmp fun v h' tk pv kp => ?_
  have le := FWU.argBest_mem (fun i j => ltP2 (k i) (k j)) (its.toArray.size - 1)
  generalize hb : PySem.argBest (fun i j => ltP2 (k i) (k j)) (its.toArray.size - 1) = b at pv le
  obtain ⟨x, ex, rx⟩ := at_ b v pv
  refine ⟨x, H, I.kept kp, rx, q b x ex fun j hj => ?_⟩
  rw [← hb]
  refine FWU.argBest_best (fun i j => ltP2 (k i) (k j)) (fun i => ?_) (fun i j => ?_) (fun i j l => ?_) _ j (by omega)
  · simp [ltP2]
  · unfold ltP2; intro h1; split at h1 <;> split <;> simp_all <;> omega
  · unfold ltP2; intro h1 h2; split at h1 <;> split at h2 <;> split <;> simp_all <;> omega
end
def pairsD (ps : List (Int × Int)) : List D := ps.map fun p => PyData.tuple [.int p.1, .int p.2]
def rdMinP : List D → (D → Prop) → Prop := fun ds R => ∃ ps : List (Int × Int), ds = [.list (pairsD ps)] ∧ ps ≠ [] ∧ ∀ m ∈ ps, (∀ y ∈ ps, ltP2 y m = false) → R (.tuple [.int m.1, .int m.2])
section
variable {c : Amb} {E : XK} {H F H0 F0 H1 F1 : Hp} {σ : L2.St} {X : Cx}
theorem cd_minP : CallD c (rMinP c.K) rdMinP := by
  rintro H F vs ds R Q W rv ⟨ps, rfl, hne, r⟩ P
  obtain ⟨v, rfl, q⟩ := reps1 rv
  obtain ⟨a, ws, rfl, h1, h2⟩ := q.list_inv
  have hl : ws.length = ps.length := by rw [dpAll_length h2]; simp [pairsD]
  refine ⟨a, ws, fun i => ps.getD i (0, 0), rfl, SqL.of (W.sub _ _ h1), ?_, fun i x hx => ?_, fun i x hx hb => ?_⟩
  · rw [hl]; exact List.length_pos_iff.mpr hne
  · obtain ⟨d, e1, e2⟩ := dpAll_get h2 hx
    have hi : i < ps.length := by rw [← hl]; exact (List.getElem?_eq_some_iff.mp hx).1
    have e3 : d = .tuple [.int ps[i].1, .int ps[i].2] := by
      unfold pairsD at e1
      rw [List.getElem?_map, List.getElem?_eq_getElem hi] at e1
      exact (Option.some.inj e1).symm
    subst e3
    cases e2 with
    | tup hs ha =>
      have := dpAll_ints_inv [ps[i].1, ps[i].2] _ ha
      subst this
      have e4 : ps.getD i (0, 0) = ps[i] := by rw [List.getD_eq_getElem?_getD, List.getElem?_eq_getElem hi]; rfl
      simp only [e4]
      exact ⟨_, rfl, same_t W.sub hs⟩
  · obtain ⟨d, e1, e2⟩ := dpAll_get h2 hx
    have hi : i < ps.length := by rw [← hl]; exact (List.getElem?_eq_some_iff.mp hx).1
    have e3 : d = .tuple [.int ps[i].1, .int ps[i].2] := by
      unfold pairsD at e1
      rw [List.getElem?_map, List.getElem?_eq_getElem hi] at e1
      exact (Option.some.inj e1).symm
    subst e3
    refine P.here W (r ps[i] (List.getElem_mem hi) fun y hy => ?_) (.inl e2)
    obtain ⟨j, hj, rfl⟩ := List.getElem_of_mem hy
    have := hb j (by rw [hl]; exact hj)
    simp only [List.getD_eq_getElem?_getD, List.getElem?_eq_getElem hi, List.getElem?_eq_getElem hj, Option.getD_some] at this
    exact this
/-! ### sum, abs -/
def rdSum : List D → (D → Prop) → Prop := fun ds R => ∃ ns : List Int, ds = [.list (ns.map .int)] ∧ R (.int ns.sum)
theorem cd_sum : CallD c (rSum c.K) rdSum := by
  rintro H F vs ds R Q W rv ⟨ns, rfl, r⟩ P
  obtain ⟨v, rfl, q⟩ := reps1 rv
  obtain ⟨a, ws, rfl, h1, h2⟩ := q.list_inv
  have e := dpAll_ints_inv ns ws h2
  subst e
  exact ⟨a, ns, rfl, SqL.of (W.sub _ _ h1), P.here W r .int⟩
def absI (i : Int) : Int := if i < 0 then -i else i
def rdAbs : List D → (D → Prop) → Prop := fun ds R => ∃ i, ds = [.int i] ∧ R (.int (absI i))
theorem cd_abs : CallD c (fun xs H Q => ∃ i, xs = [.int i] ∧ Q (.int (if i < 0 then -i else i)) H) rdAbs := by
  rintro H F vs ds R Q W rv ⟨i, rfl, r⟩ P
  exact ⟨i, repVs_ints_inv (l := [i]) rv, P.here W r .int⟩
@[simp] theorem rdAbs_iff {i : Int} {R : D → Prop} : rdAbs [.int i] R ↔ R (.int (absI i)) := by
  constructor
  · rintro ⟨a, e, h⟩; simp at e; rw [e]; exact h
  · intro h; exact ⟨i, rfl, h⟩
@[simp] theorem rdSum_iff {ns : List Int} {R : D → Prop} : rdSum [.list (ns.map .int)] R ↔ R (.int ns.sum) := by
  constructor
  · rintro ⟨a, e, h⟩; simp at e; rw [e]; exact h
  · intro h; exact ⟨ns, rfl, h⟩
@[simp] theorem rdMaxL_iff {ns : List Int} {R : D → Prop} : rdMaxL [.list (ns.map .int)] R ↔ 0 < ns.length ∧ ∀ m, m ∈ ns → (∀ y, y ∈ ns → y ≤ m) → R (.int m) := by
  constructor
  · rintro ⟨a, e, h⟩; simp at e; rw [e]; exact h
  · intro h; exact ⟨ns, rfl, h⟩
@[simp] theorem rdMinL_iff {ns : List Int} {R : D → Prop} : rdMinL [.list (ns.map .int)] R ↔ 0 < ns.length ∧ ∀ m, m ∈ ns → (∀ y, y ∈ ns → m ≤ y) → R (.int m) := by
  constructor
  · rintro ⟨a, e, h⟩; simp at e; rw [e]; exact h
  · intro h; exact ⟨ns, rfl, h⟩
/-- a for: what holds between its turns; what follows a turn is hidden -/
theorem forRun_go {wg : WG} {wb : WS} {De : EndsD} (I : List D → Sg → Prop) (ht : ∀ (d : D) (ds : List D) (e : Sg) (N : Sg → Prop), I (d :: ds) e → (∀ e2, I ds e2 → N e2) → wg d e fun e' => wb { De with nx := N, ct := N, bk := De.nx, base := fun _ => False, pin := false } e') (he : ∀ e, I [] e → De.nx e) :
    ∀ ds e, I ds e → forRun wg wb De ds e := forRun_inv I (fun d ds e h k => ht d ds e _ h k) he
/-! ### x[::-1] of a list -/
@[simp] def dRevL (w : W) : W := fun e R => w e fun d => ∃ ds, d = .list ds ∧ R (.list ds.reverse)
theorem xd_revL {w : W} : ∀ σ H Q, tD c (dRevL w) σ H Q → tRevL c.K (tD c w) σ H Q := fun σ H Q ⟨e, F, H0, R, W, S, q, P⟩ =>
  ⟨e, F, H0, _, W, S, q, fun d v H1 F1 ⟨ds, hd, r⟩ x1 rv => by
    subst hd
    obtain ⟨a, vs, rfl, h1, h2⟩ := rv.list_inv
    exact ⟨a, vs, rfl, SqL.of (x1.ok.sub _ _ h1), (P.ext x1).newLst x1.ok (dpAll_rev h2) r⟩⟩
/-! ### for x in reversed(a list or a tuple) -/
@[simp] def iRev (w : W) : WA := fun e R => w e fun d => ∃ ds, IsSeq d ds ∧ R ds.reverse
theorem yields_rev {a : Addr} {vs : List V} {ds : List D} (h : F a = some (.lst vs)) (k : RpAll c.K F vs ds) : Yields c (Itv c.K a vs.length) F ds.reverse where
  go := fun i H G hi W s => by
    have hl := dpAll_length k
    rw [List.length_reverse] at hi
    exact ⟨by omega, vs, vs[vs.length - 1 - i]'(by omega), SqL.of (W.sub _ _ (s _ _ h)), List.getElem?_eq_getElem _⟩
  yld := fun i d H G x H' hd W s ⟨e, y⟩ => by
    subst e
    have hl := dpAll_length k
    have hx := y vs (SqL.of (W.sub _ _ (s _ _ h)))
    obtain ⟨d', h1, h2⟩ := dpAll_get k hx
    have hi : i < ds.length := by rw [← List.length_reverse]; exact (List.getElem?_eq_some_iff.mp hd).1
    rw [List.getElem?_reverse hi, ← hl, h1] at hd
    cases hd
    exact ⟨G, Ext.refl W, .inl (dp_same s _ _ h2)⟩
  stop := fun H G W s => by rw [List.length_reverse]; exact Nat.le_of_eq (dpAll_length k)
theorem yields_revT {a : Addr} {vs : List V} {ds : List D} (h : SqT c.K F a vs) (k : RpAll c.K F vs ds) : Yields c (RT.ItvT c.K a vs.length) F ds.reverse where
  go := fun i H G hi W s => by
    have hl := dpAll_length k
    rw [List.length_reverse] at hi
    exact ⟨by omega, vs, vs[vs.length - 1 - i]'(by omega), same_t (s.trans W.sub) h, List.getElem?_eq_getElem _⟩
  yld := fun i d H G x H' hd W s ⟨e, y⟩ => by
    subst e
    have hl := dpAll_length k
    have hx := y vs (same_t (s.trans W.sub) h)
    obtain ⟨d', h1, h2⟩ := dpAll_get k hx
    have hi : i < ds.length := by rw [← List.length_reverse]; exact (List.getElem?_eq_some_iff.mp hd).1
    rw [List.getElem?_reverse hi, ← hl, h1] at hd
    cases hd
    exact ⟨G, Ext.refl W, .inl (dp_same s _ _ h2)⟩
  stop := fun H G W s => by rw [List.length_reverse]; exact Nat.le_of_eq (dpAll_length k)
theorem xi_rev {w : W} : ∀ σ H R, tI c (iRev w) σ H R → RT.iRevA c.K (tD c w) σ H R := fun σ H R ⟨e, F, H0, Rd, W, S, q, P⟩ =>
  ⟨e, F, H0, _, W, S, q, fun d v H' F' ⟨ds, hd, r⟩ x rv => by
    cases hd with
    | lst =>
      obtain ⟨a, vs, rfl, h, k⟩ := rv.list_inv
      exact ⟨a, vs, rfl, .inl ⟨SqL.of (x.ok.sub _ _ h), P _ _ H' F' r x (yields_rev h k)⟩⟩
    | tup =>
      obtain ⟨a, vs, rfl, h, k⟩ := rv.tup_inv
      exact ⟨a, vs, rfl, .inr ⟨same_t x.ok.sub h, P _ _ H' F' r x (yields_revT h k)⟩⟩⟩
/-! ### zip of two lists -/
theorem yields_zipL {a b : Addr} {vs us : List V} {xs ys : List D} (h : F a = some (.lst vs)) (k : RpAll c.K F vs xs) (h' : F b = some (.lst us)) (k' : RpAll c.K F us ys) : Yields c (Itz c.K a b) F ((xs.zip ys).map fun p => .tuple [p.1, p.2]) where
  go := fun i H G hi W s => by
    have hl := dpAll_length k
    have hl' := dpAll_length k'
    simp at hi
    exact ⟨vs, us, vs[i]'(by omega), us[i]'(by omega), SqL.of (W.sub _ _ (s _ _ h)), SqL.of (W.sub _ _ (s _ _ h')), List.getElem?_eq_getElem _, List.getElem?_eq_getElem _⟩
  yld := fun i d H G x H' hd W s ⟨T, x1, x2, e, hT, hH, q1, q2⟩ => by
    subst e hH
    obtain ⟨d1, e1, r1⟩ := dpAll_get k (q1 vs (SqL.of (W.sub _ _ (s _ _ h))))
    obtain ⟨d2, e2, r2⟩ := dpAll_get k' (q2 us (SqL.of (W.sub _ _ (s _ _ h'))))
    have e3 : ((xs.zip ys).map fun p => PyData.tuple [p.1, p.2])[i]? = some (.tuple [d1, d2]) := by
      rw [List.getElem?_map, List.getElem?_zip_eq_some (z := (d1, d2)) |>.mpr ⟨e1, e2⟩]; rfl
    rw [hd] at e3
    cases e3
    exact ⟨_, Ext.laid W _ hT, repTup upd_same (.cons (dp_same (s.trans (upd_keep (W.newF hT))) _ _ r1) (.cons (dp_same (s.trans (upd_keep (W.newF hT))) _ _ r2) .nil))⟩
  stop := fun H G W s => by
    have hl := dpAll_length k
    have hl' := dpAll_length k'
    refine ⟨vs, us, SqL.of (W.sub _ _ (s _ _ h)), SqL.of (W.sub _ _ (s _ _ h')), ?_⟩
    simp
    omega
def rdZipL (ds : List D) (R : List D → Prop) : Prop := ∃ xs ys, ds = [.list xs, .list ys] ∧ R ((xs.zip ys).map fun p => .tuple [p.1, p.2])
@[simp] def iZipL (w : WA) : WA := fun e R => w e fun ds => rdZipL ds R
@[simp] theorem rdZipL_iff {xs ys : List D} {R : List D → Prop} : rdZipL [.list xs, .list ys] R ↔ R ((xs.zip ys).map fun p => .tuple [p.1, p.2]) := by
  constructor
  · rintro ⟨a, b, e, h⟩; simp at e; rw [e.1, e.2]; exact h
  · intro h; exact ⟨xs, ys, rfl, h⟩
theorem xi_zipL {w : WA} : ∀ σ H R, tI c (iZipL w) σ H R → RZ.iZipA c.K (tA c w) σ H R := fun σ H R ⟨e, F, H0, Rd, W, S, q, P⟩ =>
  ⟨e, F, H0, _, W, S, q, fun ds vs H' F' ⟨xs, ys, hd, r⟩ x rv => by
    subst hd
    obtain ⟨v, u, rfl, r1, r2⟩ := reps2 rv
    obtain ⟨a, us, rfl, h1, h2⟩ := r1.list_inv
    obtain ⟨b, ws, rfl, g1, g2⟩ := r2.list_inv
    exact ⟨a, b, us, ws, rfl, .inl ⟨SqL.of (x.ok.sub _ _ h1), SqL.of (x.ok.sub _ _ g1), P _ _ H' F' r x (yields_zipL h1 h2 g1 g2)⟩⟩⟩
/-! ### targets of any number of names -/
theorem wipe_get (σ : L2.St) : ∀ (vs : List Nat) (j : Nat), j < σ.length → (wipe σ vs)[j]? = if j ∈ vs then some none else σ[j]?
  | [], j, _ => by simp [L2.wipe]
  | v :: vs, j, hj => by
    unfold L2.wipe
    by_cases h : v = j
    · subst h
      rw [List.getElem?_set_self (by rw [wipe_length]; exact hj)]
      simp
    · rw [List.getElem?_set_ne h, wipe_get σ vs j hj]
      have : (j ∈ v :: vs) ↔ j ∈ vs := by
        rw [List.mem_cons]
        exact ⟨fun x => x.resolve_left fun z => h z.symm, .inr⟩
      simp only [this]
theorem wipe_eq {σ σ' : L2.St} {vs : List Nat} (hl : σ.length = σ'.length) (h : ∀ j, j ∉ vs → σ[j]? = σ'[j]?) : wipe σ vs = wipe σ' vs := by
  apply List.ext_getElem?
  intro j
  by_cases hj : j < σ.length
  · rw [wipe_get σ vs j hj, wipe_get σ' vs j (by omega)]
    by_cases q : j ∈ vs
    · rw [if_pos q, if_pos q]
    · rw [if_neg q, if_neg q, h j q]
  · rw [List.getElem?_eq_none (by rw [wipe_length]; omega), List.getElem?_eq_none (by rw [wipe_length]; omega)]
theorem gNames_wipe {vs0 : List Nat} : ∀ (is : List Nat) {xs : List V} {σ0 σ : L2.St} {H : Hp} {Q : L2.St → Hp → Prop}, (∀ i ∈ is, i ∈ vs0) → σ.length = σ0.length → (∀ j, j ∉ vs0 → σ[j]? = σ0[j]?) → gNames is xs σ H Q → gNames is xs σ H fun σ2 H2 => wipe σ2 vs0 = wipe σ0 vs0 ∧ Q σ2 H2
  | [], _, σ0, σ, _, _, _, hl, he, ⟨h, q⟩ => ⟨h, wipe_eq hl he, q⟩
  | i :: is, _, σ0, σ, _, _, hm, hl, he, ⟨x, r, h1, h2⟩ => ⟨x, r, h1, gNames_wipe is (fun j hj => hm j (List.mem_cons_of_mem _ hj)) (by rw [List.length_set]; exact hl) (fun j hj => by
      rw [List.getElem?_set_ne (fun (z : i = j) => hj (by rw [← z]; exact hm i List.mem_cons_self))]; exact he j hj) h2⟩
theorem wipe_wipe (σ : L2.St) (vs : List Nat) : wipe (wipe σ vs) vs = wipe σ vs := wipe_eq (wipe_length σ vs) fun j hj => by
  by_cases q : j < σ.length
  · rw [wipe_get σ vs j q, if_neg hj]
  · rw [List.getElem?_eq_none (by rw [wipe_length]; omega), List.getElem?_eq_none (by omega)]
theorem stores_names {K : PySem.W.Frag} {n : Nat} (is : List Nat) : Stores (gTup K n (gNames is)) is := fun v σ H Q ⟨a, xs, h1, h2, h3, h4⟩ =>
  ⟨a, xs, h1, h2, h3, by
    have := gNames_wipe (vs0 := is) is (σ0 := wipe σ is) (σ := wipe σ is) (fun _ h => h) rfl (fun _ _ => rfl) h4
    rw [wipe_wipe] at this
    exact this⟩
/-! ### a test that reads a list of one's own as data -/
@[simp] def bPeek (i : Nat) (w : WT) : WT := fun e R => ∃ ds, e[i]? = some (.own ds) ∧ w (e.set i (.val (.list ds))) R
/-- of what is frozen on the way, a test keeps nothing -/
theorem Ext.back {F1 F' H' : Hp} (W : Wok c H F) (s : Same F F1) (x : Ext c H F1 H' F') : Ext c H F H' F :=
  ⟨⟨fun b o e => x.ok.sub b o (x.grow b o (s b o e)), x.ok.row, W.rF, fun P h => ⟨(x.ok.tab P h).1, (W.tab P h).2⟩⟩, fun _ _ h => h, x.keep, fun _ h h' => absurd h h', x.pre⟩
theorem xt_peek {i : Nat} {w : WT} : ∀ σ H Q, tT c (bPeek i w) σ H Q → tT c w σ H Q := fun σ H Q ⟨e, F, H0, R, W, S, ⟨ds, h, q⟩, P⟩ => by
  obtain ⟨a, vs, h1, h2, h3, h4, h5, h6⟩ := S.own i ds h
  exact ⟨_, upd F a (.lst vs), H0, R, W.freeze h2 h5 (fun ps z => by cases z), S.frz h h1 h2 h3 h6, q, fun b H' F' r x => P b H' F r (Ext.back W (upd_keep h3) x)⟩
end
end FW
/-! FWV: [::-1] of a tuple. -/
namespace FWV
open PySem PySem.Spec PyProof.Rows L2
open HT (slicePart_)
section
variable {prog : Program} {w : World} {A : Around} {E : Value → Shared → Prop} {s : Shared}
theorem adjust_back (n : Nat) : Builtin.Slice.sliceAdjust none none (-1) (n : Int) = ((n : Int) - 1, -1) := rfl
theorem places_back (n : Nat) : Builtin.Slice.slicePlaces ((n : Int) - 1) (-1) (-1) = n := by
  unfold Builtin.Slice.slicePlaces
  rw [if_neg (by decide), show (- -1 : Int) = 1 by decide, Int.ediv_one]
  split <;> omega
theorem fm_congr {α β : Type} {f g : α → Option β} : ∀ l : List α, (∀ k ∈ l, f k = g k) → l.filterMap f = l.filterMap g
  | [], _ => rfl
  | a :: l, h => by
    rw [List.filterMap_cons, List.filterMap_cons, h a List.mem_cons_self, fm_congr l fun k hk => h k (List.mem_cons_of_mem _ hk)]
theorem pick_back (xs : Array Value) : ((List.range xs.size).filterMap fun (k : Nat) => xs[(((xs.size : Int) - 1) + (k : Int) * (-1)).toNat]?).toArray = xs.toList.reverse.toArray := by
  have e : (List.range xs.size).filterMap (fun (k : Nat) => xs[(((xs.size : Int) - 1) + (k : Int) * (-1)).toNat]?) = ((List.range xs.size).map fun k => xs.size - 1 - k).filterMap (xs[·]?) := by
    rw [List.filterMap_map]
    refine fm_congr _ fun k hk => ?_
    have := List.mem_range.mp hk
    have e2 : (((xs.size : Int) - 1) + (k : Int) * (-1)).toNat = xs.size - 1 - k := by omega
    show xs[(((xs.size : Int) - 1) + (k : Int) * (-1)).toNat]? = xs[xs.size - 1 - k]?
    rw [e2]
  rw [e, PySem.W.krv_range, List.filterMap_reverse, PySem.W.krv_all]
theorem applied_back {sl : Addr} {vl vu vs : Value} {n : Nat} {Q : Int × Int × Nat → Shared → Prop} (hs : s.heap.IsSliceOf sl vl vu vs) (pl : IsPart vl none) (pu : IsPart vu none) (ps : IsPart vs (some (-1))) (h : Q ((n : Int) - 1, -1, n) s) :
    wpAny (model prog w) A (Builtin.Slice.sliceApplied (.ref sl) (pure (n : Int))) Q E s := by
  obtain ⟨ob, e1, _, e3⟩ := id hs
  unfold Builtin.Slice.sliceApplied Builtin.Slice.sliceFields
  refine wpAny_bind (wpAny_bind (wpAny_field e1 e3 (x := vl) rfl (wpAny_bind (wpAny_field e1 e3 (x := vu) rfl (wpAny_bind (wpAny_field e1 e3 (x := vs) rfl (wpAny_pure ?_)))))))
  refine wpAny_bind (slicePart_ ps ?_)
  show wpAny _ _ (if ((-1 : Int) == 0) = true then _ else _) _ _ s
  rw [if_neg (by decide)]
  refine wpAny_bind (slicePart_ pl (wpAny_bind (slicePart_ pu (wpAny_bind (wpAny_pure (wpAny_pure ?_))))))
  have q : Q ((n : Int) - 1, -1, Builtin.Slice.slicePlaces ((n : Int) - 1) (-1) (-1)) s := by rw [places_back]; exact h
  exact q
theorem get_back {t sl : Addr} {items : Array Value} {vl vu vs : Value} {Q : Value → Shared → Prop} (ht : IsTup s.heap t items) (hs : s.heap.IsSliceOf sl vl vu vs) (pl : IsPart vl none) (pu : IsPart vu none) (ps : IsPart vs (some (-1)))
    (h : Q (.ref s.heap.objs.size) { s with heap := s.heap.push { cls := .type "tuple", data := .seq items.toList.reverse.toArray } }) (hsz : items.size ≤ sizeLine) : wpAny (model prog w) A (getItem (.ref t) (.ref sl)) Q E s := by
  have fits : sizeOk (.seq items.toList.reverse.toArray) := by
    show items.toList.reverse.toArray.size ≤ sizeLine
    simpa using hsz
  obtain ⟨ob, e1, e2, e3⟩ := id hs
  have tsl : s.TypeIs (.ref sl) "slice" := ⟨ob, e1, e2⟩
  unfold getItem
  try with_reducible refine wpAny_holding ?_
  first | refine wpAny_bind (wpAny_pure ?_) | skip
  refine wpAny_bind (wpAny_sequenceKey ht.typeIs (by decide) (wpAny_bind (wpAny_callSpecial?_slot (name := Str.ofString "__getitem__") ht.typeIs PyProof.Rows.slot_tuple_getitem
    (wpAny_call_entry PyProof.Rows.slot_tuple_getitem ht.typeIs entry_tuple_getitem ?_ (args_tuple_getitem _ _)))))
  show wpAny (model prog w) _ (Builtin.Tuple.tupleItemsOf (.ref t) >>= _) _ _ s
  refine wpAny_bind (tupleItemsOf_ ht (wpAny_bind (wpAny_typeOf tsl ?_)))
  rw [if_pos (by decide)]
  refine wpAny_bind (applied_back hs pl pu ps ?_)
  have no : ¬ ((((items.size : Int) - 1 == 0) && ((-1 : Int) == 1) && (items.size == items.size)) = true) := by
    rw [show ((-1 : Int) == 1) = false from rfl, Bool.and_false, Bool.false_and]
    exact Bool.false_ne_true
  show wpAny (model prog w) _ (if (((items.size : Int) - 1 == 0) && ((-1 : Int) == 1) && (items.size == items.size)) = true then _ else _) _ _ s
  rw [if_neg no, pick_back]
  first
    | exact wpAny_bind (m := Builtin.Tuple.tupleExact _) (wpAny_newObj_type (wpAny_pure ⟨_, rfl, wpAny_pure h⟩) fits)
    | exact wpAny_bind (wpAny_bind (m := Builtin.Tuple.tupleExact _) (wpAny_newObj_type (wpAny_pure ⟨_, rfl, wpAny_pure h⟩) fits))
    | exact wpAny_bind (wpAny_bind (m := Builtin.Tuple.tupleExact _) (wpAny_newObj_type (wpAny_pure (wpAny_pure ⟨_, rfl, wpAny_pure h⟩)) fits))
end
def tRevT (K : PySem.W.Frag) (te : TE) : TE := fun σ H Q => te σ H fun x H1 => ∃ a xs, x = .ref a ∧ SqT K H1 a xs ∧ ∀ p, H1 p = none → Q (.ref p) (upd H1 p (.tup xs.reverse))
section
variable {X : Cx}
theorem pe_revT {e : Expr} {te : TE} {k : Nat} {p1 p2 p3 pos : Pos} (he : PE X e te) : PE X (.Subscript e (.Slice none none (some (.UnaryOp .USub (.Constant (.int 1) k p1) p2)) p3) pos) (tRevT X.K te) := by
  refine ⟨fun pins s σ H Q I h => Subscript_ (thn (he.run pins s σ H _ I h) fun v s1 ⟨x, H1, I1, rx, z⟩ => ?_)⟩
  obtain ⟨a, xs, rfl, hx, q⟩ := z
  cases rx
  have st : PO X (some (.UnaryOp .USub (.Constant (.int 1) k p1) p2)) (tPart (tUn (rU fun i => .int (-i)) (tC (.int 1)))) := po_some (pe_un un_neg pe_int)
  refine wpAny_Slice (thn (po_none.run pins s1 σ H1 (fun o G => o = none ∧ G = H1) I1 ⟨rfl, rfl⟩) fun vl s2 ⟨_, _, I2, pl, eo, eG⟩ => ?_)
  subst eo eG
  refine thn (po_none.run pins s2 σ _ (fun o G => o = none ∧ G = _) I2 ⟨rfl, rfl⟩) fun vu s3 ⟨_, _, I3, pu, eo, eG⟩ => ?_
  subst eo eG
  refine thn (st.run pins s3 σ _ (fun o G => o = some (-1) ∧ G = _) I3 ⟨1, rfl, -1, rfl, rfl, rfl⟩) fun vs s4 ⟨_, H4, I4, ps, eo, eG⟩ => ?_
  subst eo eG
  have J : Inv X pins σ _ { s4 with heap := s4.heap.push { cls := .type "slice", data := .fields #[vl, vu, vs] } } := I4.kept (t' := s4.toks) fun b ob z => Heap.get?_push_of_some _ z
  obtain ⟨its, r, ht, hz⟩ := J.tuple hx
  show wpAny (model X.prog X.w) X.A (subscriptTail e (.Slice none none (some (.UnaryOp .USub (.Constant (.int 1) k p1) p2)) p3) (.ref a) (.ref s4.heap.objs.size)) (EP X pins σ Q) X.xe _
  refine tail_any (ops := [.ref a, .ref s4.heap.objs.size]) ht.typeIs PyProof.Rows.slot_tuple_getitem.lookup ?_ (by with_unfolding_all rfl)
  refine get_back ht (Heap.IsSliceOf.new _ vl vu vs) pl pu ps ?_ (by rw [List.size_toArray, ← r.length]; exact hz)
  refine ⟨.ref _, _, J.laid (t' := s4.toks) (o := .tup xs.reverse) (fun b ob z => Heap.get?_push_of_some _ z) (Nat.le_refl _) ?_, rfl, q _ (J.hok.fresh (Nat.le_refl _))⟩
  exact ⟨by rw [List.length_reverse]; exact hz, _, r.reverse, IsTup.new _ _⟩
/-- max of a tuple of ints -/
def rMaxT (K : PySem.W.Frag) : List V → Hp → VK → Prop := fun vs H Q => ∃ (a : Addr) (ns : List Int), vs = [V.ref a] ∧ SqT K H a (ns.map V.int) ∧ 0 < ns.length ∧ ∀ m, m ∈ ns → (∀ y, y ∈ ns → y ≤ m) → Q (.int m) H
theorem cr_maxT (hc : X.calm = true) : CallR X (.builtin "max") (rMaxT X.K) := by
  intro pins s σ H vs us Q I r h
  obtain ⟨a, ns, rfl, hs, hne, q⟩ := h
  obtain ⟨its, rv, ht, _⟩ := I.tuple hs
  rw [Vals.ref1 r]
  have hl : its.toArray.size = ns.length := by rw [List.size_toArray, ← rv.length, List.length_map]
  have at_ : ∀ (i : Nat) v, its.toArray[i]? = some v → ∃ t, v = .int (ns.getD i 0) t := fun i v e => by
    have e' : its[i]? = some v := by simpa using e
    have hi : i < ns.length := by rw [← hl, List.size_toArray]; exact (List.getElem?_eq_some_iff.mp e').1
    obtain ⟨u, hu, ru⟩ := rv.get (show (ns.map V.int)[i]? = some (V.int ns[i]) by rw [List.getElem?_map, List.getElem?_eq_getElem hi]; rfl)
    rw [e'] at hu
    cases hu
    obtain ⟨t, rfl⟩ := ru
    exact ⟨t, by rw [List.getD_eq_getElem?_getD, List.getElem?_eq_getElem hi]; rfl⟩
  have hlt : a < s.heap.objs.size := ht.lt
  have sz : (s.heap.push { cls := .type "tuple_iterator", data := .fields #[.ref a, .int 0 0] }).objs.size = s.heap.objs.size + 1 := Heap.size_push ..
  refine call_max_walk (wpAny_pyIter_tuple (items := its.toArray) ht ?_)
  refine ⟨_, _, _, _, _, _, _, rfl, Walks.tuple (A := X.A.in1) (I.ok.hd hc) s.heap.objs.size a (Nat.ne_of_lt hlt) its.toArray, ⟨⟨_, Heap.get?_push_size _ rfl, rfl, rfl⟩, ht.push _⟩, fun b hb => ?_, by rw [hl]; exact hne, CmpOf.ints_gt (fun i => ns.getD i 0) at_, fun v h' tk pv kp => ?_⟩
  · show b < (s.heap.push _).objs.size
    rw [sz]
    rcases List.mem_cons.mp hb with z | z
    · rw [z]; exact Nat.lt_succ_self _
    · rw [List.mem_singleton.mp z]; exact Nat.lt_succ_of_lt hlt
  · obtain ⟨t, rfl⟩ := at_ _ v pv
    obtain ⟨k1, k2⟩ := argBest_gt (fun i => ns.getD i 0) (its.toArray.size - 1)
    have hb : argBest (fun i j => decide (ns.getD i 0 > ns.getD j 0)) (its.toArray.size - 1) < ns.length := by omega
    refine ⟨.int _, H, I.kept (fun b o e => kp b o (fun z => ?_) (Heap.get?_push_of_some _ e)), ⟨t, rfl⟩, q _ ?_ fun y hy => ?_⟩
    · have := Heap.lt_size e
      rw [List.mem_singleton.mp z] at this
      exact Nat.lt_irrefl _ this
    · rw [List.getD_eq_getElem?_getD, List.getElem?_eq_getElem hb]; exact List.getElem_mem hb
    · obtain ⟨j, hj, rfl⟩ := List.getElem_of_mem hy
      have := k2 j (by omega)
      have e : ns.getD j 0 = ns[j] := by rw [List.getD_eq_getElem?_getD, List.getElem?_eq_getElem hj]; rfl
      rw [← e]; exact this
end
end FWV
namespace FW
open PySem PySem.Spec PyProof.Rows L2
section
variable {c : Amb}
@[simp] def dRevT (w : W) : W := fun e R => w e fun d => ∃ ds, d = .tuple ds ∧ R (.tuple ds.reverse)
theorem xd_revT {w : W} : ∀ σ H Q, tD c (dRevT w) σ H Q → FWV.tRevT c.K (tD c w) σ H Q := fun σ H Q ⟨e, F, H0, R, W, S, q, P⟩ =>
  ⟨e, F, H0, _, W, S, q, fun d v H1 F1 ⟨ds, hd, r⟩ x1 rv => by
    subst hd
    obtain ⟨a, vs, rfl, h1, h2⟩ := rv.tup_inv
    exact ⟨a, vs, rfl, same_t x1.ok.sub h1, (P.ext x1).newTup x1.ok (dpAll_rev h2) r⟩⟩
def rdMaxT : List D → (D → Prop) → Prop := fun ds R => ∃ ns : List Int, ds = [.tuple (ns.map .int)] ∧ 0 < ns.length ∧ ∀ m, m ∈ ns → (∀ y, y ∈ ns → y ≤ m) → R (.int m)
theorem cd_maxT : CallD c (FWV.rMaxT c.K) rdMaxT := by
  rintro H F vs ds R Q W rv ⟨ns, rfl, h, r⟩ P
  obtain ⟨v, rfl, q⟩ := reps1 rv
  obtain ⟨a, ws, rfl, h1, h2⟩ := q.tup_inv
  have e := dpAll_ints_inv ns ws h2
  subst e
  exact ⟨a, ns, rfl, same_t W.sub h1, h, fun m hm hle => P.here W (r m hm hle) .int⟩
@[simp] theorem rdMaxT_iff {ns : List Int} {R : D → Prop} : rdMaxT [.tuple (ns.map .int)] R ↔ 0 < ns.length ∧ ∀ m, m ∈ ns → (∀ y, y ∈ ns → y ≤ m) → R (.int m) := by
  constructor
  · rintro ⟨a, e, h⟩; simp at e; rw [e]; exact h
  · intro h; exact ⟨ns, rfl, h⟩
end
end FW
/-! FWP: what was told is changed: slots that are pinned, told data whose lists are new, and the way back to what was frozen before. -/
namespace FW
open PySem PySem.Spec PyProof.Rows L2
/-! ### data without lists -/
mutual
def noListD : D → Bool
  | .tuple xs => noListA xs
  | .list _ => false
  | .dict _ => false
  | _ => true
def noListA : List D → Bool
  | [] => true
  | x :: xs => noListD x && noListA xs
end
mutual
theorem rp_cut {K : PySem.W.Frag} {F Fb : Hp} : ∀ (d : D) (v : V), noListD d = true → Rp K F v d → Rp K (cutF F Fb) v d
  | .none, _, _, h => by cases h; exact .non
  | .bool b, _, _, h => by cases h; exact .bl b
  | .int i, _, _, h => by cases h; exact .int i
  | .str x, _, _, h => by cases h; exact .str x
  | .list ds, _, n, _ => by simp [noListD] at n
  | .dict ds, _, n, _ => by simp [noListD] at n
  | .tuple ds, _, n, h => by
    cases h with
    | tup hs ha =>
      have n : noListA ds = true := by simpa [noListD] using n
      refine .tup ?_ (rp_cutA ds _ n ha)
      rcases hs with (hs | ⟨o, hs⟩) | hs
      · exact .inl (.inl (cutF_some hs fun ⟨vs, e⟩ => by cases e))
      · exact .inl (.inr ⟨o, cutF_some hs fun ⟨vs, e⟩ => by cases e⟩)
      · exact .inr hs
theorem rp_cutA {K : PySem.W.Frag} {F Fb : Hp} : ∀ (ds : List D) (vs : List V), noListA ds = true → RpAll K F vs ds → RpAll K (cutF F Fb) vs ds
  | [], _, _, h => by cases h; exact .nil
  | d :: ds, _, n, h => by
    cases h with
    | cons h1 h2 =>
      have n : (noListD d && noListA ds) = true := n
      rw [Bool.and_eq_true] at n
      exact .cons (rp_cut d _ n.1 h1) (rp_cutA ds _ n.2 h2)
end
def atomD : D → Bool
  | .none => true
  | .bool _ => true
  | .int _ => true
  | .str _ => true
  | .dict [] => true
  | _ => false
section
variable {c : Amb} {E : XK} {H F H0 F0 H1 F1 H' F' : Hp} {σ : L2.St} {e : Sg} {X : Cx} {De : EndsD} {Dn : Ends}
theorem atom_dict {kvs : List (D × D)} (h : kvs ≠ []) : atomD (.dict kvs) = false := by
  cases kvs with
  | nil => exact absurd rfl h
  | cons p m => rfl
theorem RepV.atom {v : V} {d : D} (h : RepV c F v d) (a : atomD d = true) (G : Hp) : RepV c G v d := by
  rcases h with h | ⟨rfl, rfl⟩
  · cases h with
    | non => exact .non
    | bl b => exact .bl
    | int i => exact .int
    | str x => exact .str
    | lst _ _ => cases a
    | tup _ _ => cases a
    | dic h0 h1 _ =>
      have z := dicD_ne h0 h1
      rw [atom_dict z] at a
      cases a
  · exact .inr ⟨rfl, rfl⟩
/-! ### for over a range: what was frozen ahead of it may be gone back to -/
def tIR (c : Amb) (w : WA) : TI := fun σ H R => ∃ e F H0 Rd, Wok c H F ∧ RepS c H0 σ H F e ∧ w e Rd ∧ ∀ ds J H' F', Rd ds → Ext c H F H' F' → (∀ G, Yields c J G ds) → R J H'
theorem xi_rng1R {w : WA} : ∀ σ H R, tIR c (iR1 w) σ H R → iRng1 (tA c w) σ H R := fun σ H R ⟨e, F, H0, Rd, W, S, q, P⟩ =>
  ⟨e, F, H0, _, W, S, q, fun ds vs H' F' ⟨j, hd, h1, h2, r⟩ x rv => by
    subst hd
    exact ⟨j, repVs_ints_inv (l := [j]) rv, h1, h2, P _ _ H' F' r x fun _ => yields_rng⟩⟩
theorem xi_rng2R {w : WA} : ∀ σ H R, tIR c (iR2 w) σ H R → iRng2 (tA c w) σ H R := fun σ H R ⟨e, F, H0, Rd, W, S, q, P⟩ =>
  ⟨e, F, H0, _, W, S, q, fun ds vs H' F' ⟨i, j, hd, h1, r⟩ x rv => by
    subst hd
    exact ⟨i, j, repVs_ints_inv (l := [i, j]) rv, h1, P _ _ H' F' r x fun _ => yields_rng⟩⟩
def forRunR (wg : WG) (wb : WS) (De : EndsD) : List D → Sg → Prop
  | [], e => De.nx e
  | d :: ds, e => wg d e fun e' => wb { De with nx := fun e2 => forRunR wg wb De ds e2, ct := fun e2 => forRunR wg wb De ds e2, bk := De.nx } e'
@[simp] def dForR (wi : WA) (wg : WG) (wb : WS) : WS := fun De e => wi e fun ds => forRunR wg wb De ds e
theorem xs_forR {wi : WA} {wg : WG} {wb : WS} {g : TG} (hg : gD c wg g) : ∀ Dn σ H, sD c E (dForR wi wg wb) Dn σ H → tFor (tIR c wi) g (sD c E wb) Dn σ H := fun Dn σ H ⟨e, F, H0, F0, De, x, S, q, K⟩ =>
  ⟨e, F, H0, _, x.ok, S, q, fun ds J H1 F1 i0 x1 Y => by
    refine ⟨fun i m σ H => m = ds.length - i ∧ i ≤ ds.length ∧ ∃ e F, Ext c H0 F0 H F ∧ RepS c H0 σ H F e ∧ forRunR wg wb De (ds.drop i) e, ⟨_, rfl, Nat.zero_le _, e, F1, x.trans x1, S.ext x.ok x1, i0⟩, ?_⟩
    rintro i m σ' H' ⟨rfl, hi, e', F', x', S', h'⟩
    by_cases hlt : i < ds.length
    · refine .inr ⟨(Y F').go i H' F' hlt x'.ok (fun _ _ h => h), fun σ2 H2 => ∃ e F, Ext c H0 F0 H2 F ∧ RepS c H0 σ2 H2 F e ∧ forRunR wg wb De (ds.drop (i + 1)) e, fun σ2 H2 ⟨e2, F2, a, b, f⟩ => ⟨ds.length - (i + 1), by omega, rfl, hlt, e2, F2, a, b, f⟩, fun v H2 y => ?_⟩
      have hd : ds[i]? = some ds[i] := List.getElem?_eq_getElem hlt
      rw [drop_at hlt] at h'
      obtain ⟨F2, x2, rv⟩ := (Y F').yld i _ H' F' v H2 hd x'.ok (fun _ _ h => h) y
      refine hg v _ σ' H2 F2 H0 e' _ _ x2.ok (S'.ext x'.ok x2) rv h' fun σ3 e3 r3 S3 => ?_
      exact ⟨e3, F2, H0, F0, _, x'.trans x2, S3, r3, fun e4 σ4 H4 F4 n z S4 => ⟨e4, F4, z, S4, n⟩, K.rt, K.rn, K.nx, fun e4 σ4 H4 F4 n z S4 => ⟨e4, F4, z, S4, n⟩, K.ex, K.base, K.rf, K.pin⟩
    · have he : i = ds.length := by omega
      subst he
      rw [List.drop_length] at h'
      exact .inl ⟨(Y F').stop H' F' x'.ok (fun _ _ h => h), K.nx e' σ' H' F' h' x' S'⟩⟩
theorem forRunR_go {wg : WG} {wb : WS} {De : EndsD} (I : List D → Sg → Prop) (ht : ∀ (d : D) (ds : List D) (e : Sg) (N : Sg → Prop), I (d :: ds) e → (∀ e2, I ds e2 → N e2) → wg d e fun e' => wb { De with nx := N, ct := N, bk := De.nx } e') (he : ∀ e, I [] e → De.nx e) :
    ∀ ds e, I ds e → forRunR wg wb De ds e
  | [], e, h => he e h
  | d :: ds, e, h => ht d ds e _ h fun e2 h2 => forRunR_go I ht he ds e2 h2
/-! ### pins -/
theorem RepS.to_fix (S : RepS c H0 σ H F e) {j : Nat} {d : D} (h : FW.rd e[j]? = some d) : RepS c H0 σ H F (e.set j (.fix false F d)) := by
  have hl : j < e.length := by
    cases q : e[j]? with
    | none => rw [q] at h; cases h
    | some s => exact (List.getElem?_eq_some_iff.mp q).1
  have off : ∀ {i : Nat} {s : Sl}, (e.set j (.fix false F d))[i]? = some s → (∀ k Fb d, s ≠ .fix k Fb d) → e[i]? = some s := fun {i s} hi hs => by
    by_cases z : j = i
    · subst z
      rw [List.getElem?_set_self hl] at hi
      exact absurd (Option.some.inj hi).symm (hs _ _ _)
    · rw [List.getElem?_set_ne z] at hi
      exact hi
  refine ⟨by simp [S.len], fun i d' hi => S.val i d' (off hi fun _ _ _ z => nomatch z), fun i o ds hi => S.ownO i o ds (off hi fun _ _ _ z => nomatch z), fun i k o1 o2 ds es a hik h1 h2 => S.distO i k o1 o2 ds es a hik (off h1 fun _ _ _ z => nomatch z) (off h2 fun _ _ _ z => nomatch z), fun i a o hi => S.exc i a o (off hi fun _ _ _ z => nomatch z), fun i k Fb d' hi => ?_⟩
  by_cases z : j = i
  · subst z
    rw [List.getElem?_set_self hl] at hi
    cases hi
    obtain ⟨v, h1, h2⟩ := S.rd h
    exact ⟨fun _ _ h => h, v, h1, h2⟩
  · rw [List.getElem?_set_ne z] at hi
    exact S.fix i k Fb d' hi
@[simp] def pinAll (Fb : Hp) : List Nat → Sg → Sg
  | [], e => e
  | j :: js, e => pinAll Fb js (match FW.rd e[j]? with
    | some d => e.set j (.fix false Fb d)
    | none => e)
theorem RepS.pins : ∀ (js : List Nat) {e : Sg}, RepS c H0 σ H F e → RepS c H0 σ H F (pinAll F js e)
  | [], e, S => S
  | j :: js, e, S => by
    unfold pinAll
    refine RepS.pins js ?_
    split
    · exact S.to_fix ‹_›
    · exact S
@[simp] def dPin (js : List Nat) (w : WS) : WS := fun De e => De.pin = true ∧ ∀ Fb, De.base Fb → w De (pinAll Fb js e)
theorem xs_pin {js : List Nat} {w : WS} : ∀ Dn σ H, sD c E (dPin js w) Dn σ H → sD c E w Dn σ H := fun Dn σ H ⟨e, F, H0, F0, De, x, S, ⟨hp, q⟩, K⟩ =>
  ⟨_, F, H0, F0, De, x, S.pins js, q F (K.pin hp F x.grow x.new), K⟩
/-- all pins are of this frozen part -/
@[simp] def allPin (Fb : Hp) : Sg → Prop
  | [] => True
  | .fix _ Fb' _ :: e => Fb' = Fb ∧ allPin Fb e
  | _ :: e => allPin Fb e
theorem allPin_at {Fb : Hp} : ∀ {e : Sg}, allPin Fb e → ∀ {i : Nat} {k : Bool} {Fb' : Hp} {d : D}, e[i]? = some (Sl.fix k Fb' d) → Fb' = Fb
  | [], _, i, _, _, _, h => by simp at h
  | s :: e, p, i, k, Fb', d, h => by
    have p' : allPin Fb e := by
      cases s with
      | fix _ _ _ => exact p.2
      | _ => exact p
    cases i with
    | zero =>
      simp at h
      subst h
      exact p.1
    | succ i => exact allPin_at p' (by simpa using h)
/-- back to what stood there -/
@[simp] def unpin1 : Sl → Sl
  | .fix false _ d => .val d
  | .val d => if atomD d = true then .val d else .un
  | _ => .un
@[simp] def unpin : Sg → Sg
  | [] => []
  | s :: e => unpin1 s :: unpin e
theorem unpin_len : ∀ e : Sg, (unpin e).length = e.length
  | [] => rfl
  | s :: e => congrArg (· + 1) (unpin_len e)
theorem unpin_at : ∀ {e : Sg} {i : Nat} {s : Sl}, (unpin e)[i]? = some s → ∃ s', e[i]? = some s' ∧ s = unpin1 s'
  | [], i, s, h => by simp at h
  | s' :: e, 0, s, h => by
    simp at h
    exact ⟨s', rfl, h.symm⟩
  | s' :: e, i + 1, s, h => by
    simp only [unpin, List.getElem?_cons_succ] at h
    simpa using unpin_at h
theorem unpin1_val {d : D} {s : Sl} (h : s = unpin1 (.val d)) : (s = .val d ∧ atomD d = true) ∨ s = .un := by
  by_cases a : atomD d = true
  · exact .inl ⟨h.trans (if_pos a), a⟩
  · exact .inr (h.trans (if_neg a))
theorem RepS.unpinTo {Fb F2 : Hp} (S : RepS c H0 σ H F e) (p : allPin Fb e) (G : Hp) (s : Same Fb F2) : RepS c H0 σ G F2 (unpin e) := by
  have noOwn : ∀ {i : Nat} {o : Option Hp} {ds : List D}, (FW.unpin e)[i]? = some (.ownO o ds) → False := fun {i o ds} h => by
    obtain ⟨s', _, h2⟩ := unpin_at h
    cases s' with
    | val d => rcases unpin1_val h2 with ⟨z, _⟩ | z <;> cases z
    | fix k _ _ => cases k <;> cases h2
    | _ => cases h2
  refine ⟨by rw [unpin_len]; exact S.len, fun i d h => ?_, fun i o ds h => (noOwn h).elim, fun i j o _ ds es a _ h => (noOwn h).elim, fun i a o h => ?_, fun i k Fb' d h => ?_⟩
  · obtain ⟨s', h1, h2⟩ := unpin_at h
    cases s' with
    | val d' =>
      rcases unpin1_val h2 with ⟨z, z2⟩ | z
      · cases z
        obtain ⟨v, k1, k2⟩ := S.val i d h1
        exact ⟨v, k1, k2.atom z2 F2⟩
      · cases z
    | fix k Fb' d' =>
      cases k with
      | true => cases h2
      | false =>
        cases h2
        have := allPin_at p h1
        subst this
        obtain ⟨_, v, k1, k2⟩ := S.fix i false Fb' d h1
        exact ⟨v, k1, RepV.grow k2 s⟩
    | _ => cases h2
  · obtain ⟨s', _, h2⟩ := unpin_at h
    cases s' with
    | val d => rcases unpin1_val h2 with ⟨z, _⟩ | z <;> cases z
    | fix k _ _ => cases k <;> cases h2
    | _ => cases h2
  · obtain ⟨s', _, h2⟩ := unpin_at h
    cases s' with
    | val d => rcases unpin1_val h2 with ⟨z, _⟩ | z <;> cases z
    | fix k _ _ => cases k <;> cases h2
    | _ => cases h2
theorem RepS.unpin {Fb : Hp} (S : RepS c H0 σ H F e) (p : allPin Fb e) (G : Hp) : RepS c H0 σ G Fb (FW.unpin e) := S.unpinTo p G fun _ _ h => h
theorem unpin_own {e : Sg} {i : Nat} {o : Option Hp} {ds : List D} (h : (unpin e)[i]? = some (.ownO o ds)) : False := by
  obtain ⟨s', _, h2⟩ := unpin_at h
  cases s' with
  | val d => rcases unpin1_val h2 with ⟨z, _⟩ | z <;> cases z
  | fix k _ _ => cases k <;> cases h2
  | _ => cases h2
/-- some new lists are changed, and what was frozen behind Fb is forgotten -/
theorem Ext.smash {Fb : Hp} (x : Ext c H0 F0 H F) (s : Same Fb F) (b0 : Same F0 Fb ∧ ∀ b, F0 b = none → Fb b ≠ none → H0 b = none) {G : Hp} (k : ∀ b o, H b = some o → G b = some o ∨ ((∃ vs, F b = some (.lst vs)) ∧ Fb b = none)) : Ext c H0 F0 G Fb := by
  have ch : ∀ b, (∃ vs, F b = some (.lst vs)) → Fb b = none → H0 b = none := fun b ⟨vs, h1⟩ h2 => by
    have f0 : F0 b = none := by
      cases q : F0 b with
      | none => rfl
      | some o => rw [b0.1 b o q] at h2; cases h2
    exact x.new b f0 (by rw [h1]; simp)
  refine ⟨⟨fun b o h => ?_, ?_, ?_, fun P hP => ⟨?_, ?_⟩⟩, b0.1, fun b o h hr hp => ?_, b0.2, x.pre⟩
  · rcases k b o (x.ok.sub b o (s b o h)) with z | ⟨_, z⟩
    · exact z
    · rw [h] at z; cases z
  · obtain ⟨i, y, n, h1, h2, h3, h4, h5⟩ := x.ok.row
    refine ⟨i, y, n, ?_, h2, h3, h4, ?_⟩
    · rcases k _ _ h1 with z | ⟨⟨vs, z⟩, _⟩
      · exact z
      · rw [x.ok.rF] at z; cases z
    · rcases h5 with (h5 | ⟨o, h5⟩) | h5
      · rcases k _ _ h5 with z | ⟨z, z2⟩
        · exact .inl (.inl z)
        · have z3 := ch _ z z2
          rcases x.pre with (p | ⟨o, p⟩) | p
          · rw [z3] at p; cases p
          · rw [z3] at p; cases p
          · exact .inr p
      · rcases k _ _ h5 with z | ⟨⟨vs, z⟩, _⟩
        · exact .inl (.inr ⟨o, z⟩)
        · have := x.ok.sub _ _ z
          rw [h5] at this; cases this
      · exact .inr h5
  · cases q : Fb c.r with
    | none => rfl
    | some o => have := s _ _ q; rw [x.ok.rF] at this; cases this
  · obtain ⟨⟨ps, q, t⟩, f⟩ := x.ok.tab P hP
    rcases k _ _ q with z | ⟨⟨vs, z⟩, _⟩
    · refine TabL.keep' ⟨ps, q, t⟩ (z.trans q.symm) fun b o u e => ?_
      rcases k _ _ e with z | ⟨⟨vs, z⟩, _⟩
      · exact z
      · have := x.ok.sub _ _ z
        rw [e] at this; cases this
    · rw [f] at z; cases z
  · cases q : Fb P with
    | none => rfl
    | some o => have := s _ _ q; rw [(x.ok.tab P hP).2] at this; cases this
  · rcases k b o (x.keep b o h hr hp) with z | ⟨z, z2⟩
    · exact z
    · rw [ch b z z2] at h; cases h
/-! ### what is told, its lists new -/
def spF (g : Glb) (f : Fd) : Sp := fun vs H Q _ => ∃ (c : Amb) (F : Hp) (ds : List D) (R : D → Prop), c.g = g ∧ Wok c H F ∧ RepVs c F vs ds ∧ f ds R ∧ ∀ d v H' F', R d → Ext c H F H' F' → RepV c (cutF F' F) v d → Q v H'
theorem xd_callF {f : Fd} {w : WA} : ∀ σ H Q, tD c (dCall f w) σ H Q → tCall (spF c.g f) [] E0 (tA c w) σ H Q := fun σ H Q ⟨e, F, H0, R, W, S, q, P⟩ =>
  ⟨e, F, H0, _, W, S, q, fun ds vs H1 F1 q1 x1 r1 => ⟨c, F1, ds, R, rfl, x1.ok, by rw [List.append_nil]; exact r1, q1, fun d v H' F' r x rv => P d v H' F' r (x1.trans x) (rv.grow cutF_sub)⟩⟩
theorem RepS.set_fixT (S : RepS c H0 σ H F e) (i : Nat) {v : V} {d : D} {Fb : Hp} (s : Same Fb F) (r : RepV c (cutF F Fb) v d) : RepS c H0 (σ.set i (some v)) H F (e.set i (.fix true Fb d)) := by
  have S1 := S.set_un i (some v)
  have off : ∀ {j : Nat} {s : Sl}, (e.set i (.fix true Fb d))[j]? = some s → (∀ k Fb d, s ≠ .fix k Fb d) → (e.set i .un)[j]? = some s := fun {j s} hj hs => by
    by_cases z : i = j
    · subst z
      by_cases hl : i < e.length
      · rw [List.getElem?_set_self hl] at hj
        exact absurd (Option.some.inj hj).symm (hs _ _ _)
      · rw [List.getElem?_eq_none (by simpa using hl)] at hj; cases hj
    · rw [List.getElem?_set_ne z] at hj ⊢
      exact hj
  refine ⟨by simp [S.len], fun j d' hj => S1.val j d' (off hj fun _ _ _ z => nomatch z), fun j o ds hj => S1.ownO j o ds (off hj fun _ _ _ z => nomatch z), fun j k o1 o2 ds es a hjk h1 h2 => S1.distO j k o1 o2 ds es a hjk (off h1 fun _ _ _ z => nomatch z) (off h2 fun _ _ _ z => nomatch z), fun j a o hj => S1.exc j a o (off hj fun _ _ _ z => nomatch z), fun j k Fb' d' hj => ?_⟩
  by_cases z : i = j
  · subst z
    by_cases hl : i < e.length
    · rw [List.getElem?_set_self hl] at hj
      cases hj
      exact ⟨s, v, by rw [List.getElem?_set_self (by rw [S.len]; exact hl)], r⟩
    · rw [List.getElem?_eq_none (by simpa using hl)] at hj; cases hj
  · rw [List.getElem?_set_ne z] at hj
    refine S1.fix j k Fb' d' ?_
    rw [List.getElem?_set_ne z]
    exact hj
@[simp] def dAsgF (i j : Nat) (f : Fd) (w : WA) : WS := fun De e => ∃ Fb d0, e[j]? = some (.fix false Fb d0) ∧ w e fun ds => f ds fun d => De.nx (e.set i (.fix true Fb d))
theorem xs_asgF {i j : Nat} {f : Fd} {w : WA} : ∀ Dn σ H, sD c E (dAsgF i j f w) Dn σ H → tAsg (tCall (spF c.g f) [] E0 (tA c w)) (gName i) Dn σ H := fun Dn σ H ⟨e, F, H0, F0, De, x, S, ⟨Fb, d0, hj, q⟩, K⟩ => by
  refine ⟨e, F, H0, _, x.ok, S, q, fun ds vs H1 F1 q1 x1 r1 => ⟨c, F1, ds, _, rfl, x1.ok, by rw [List.append_nil]; exact r1, q1, fun d v H' F' r x2 rv => ?_⟩⟩
  have s := (S.fix j false Fb d0 hj).1
  have x12 := x1.trans x2
  refine K.nx _ _ _ _ r (x.trans x12) ((S.ext x.ok x12).set_fixT i (s.trans x12.grow) (rv.grow (cutF_grow (fun _ _ h => h) fun b hb _ => ?_)))
  cases q2 : Fb b with
  | none => rfl
  | some o => rw [x1.grow b o (s b o q2)] at hb; cases hb
/-- told[1].append(e) -/
@[simp] def dSmash1 (i : Nat) (w : W) : WS := fun De e => ∃ Fb d0 ds, e[i]? = some (.fix true Fb (.tuple [d0, .list ds])) ∧ De.base Fb ∧ allPin Fb e ∧ ds.length < 1000000 ∧ w e fun d => d ≠ .dict [] ∧ De.nx (unpin e)
theorem xs_smash1 {i : Nat} {w : W} : ∀ Dn σ H, sD c E (dSmash1 i w) Dn σ H → tDrop (tBM c.K "list" rAppend (tOp (fun x y H Q => rIxL c.K x y H Q ∨ rIxT c.K x y H Q) (tVar i) (tC (.int 1))) (tCons (tD c w) tNil)) Dn σ H := fun Dn σ H ⟨e, F, H0, F0, De, x, S, ⟨Fb, d0, ds, hi, hb, hp, hl, q⟩, K⟩ => by
  obtain ⟨sb, v, h1, h2⟩ := S.fix i true Fb _ hi
  obtain ⟨a, vs, rfl, h3, h4⟩ := h2.tup_inv
  obtain ⟨v0, v1, rfl, g0, g1⟩ : ∃ v0 v1, vs = [v0, v1] ∧ Rp c.K (cutF F Fb) v0 d0 ∧ Rp c.K (cutF F Fb) v1 (.list ds) := by
    cases h4 with
    | cons a1 a2 => cases a2 with
      | cons b1 b2 => cases b2; exact ⟨_, _, rfl, a1, b1⟩
  obtain ⟨p, us, rfl, g2, g3⟩ := (show RepV c (cutF F Fb) v1 (.list ds) from .inl g1).list_inv
  obtain ⟨g4, g5⟩ := cutF_new g2
  have hH := x.ok.sub _ _ g4
  refine ⟨.ref a, h1, .inr ⟨a, _, 1, .ref p, rfl, rfl, same_t (Same.trans cutF_sub x.ok.sub) h3, atI_1, ?_⟩⟩
  refine .inl ⟨rfl, us, SqL.of hH⟩ |> fun z => ⟨z, e, F, H0, _, x.ok, S, q, fun d v H1 F1 ⟨hd, r⟩ x1 rv => ?_⟩
  have k1 := x1.grow _ _ g4
  have k2 := x1.ok.sub _ _ k1
  refine ⟨p, us, v, rfl, rfl, k2, len_lt (by rw [dpAll_length g3]; exact hl), ?_⟩
  refine K.nx _ _ _ _ r (Ext.smash (x.trans x1) (sb.trans x1.grow) (K.base Fb hb) fun b o h => ?_) ((S.ext x.ok x1).unpin hp _)
  by_cases z : b = p
  · subst z
    exact .inr ⟨⟨_, k1⟩, g5⟩
  · exact .inl (by rw [upd_ne z]; exact h)
/-- return (e, x), x the def's own list of data without lists -/
@[simp] def dRetFz (i : Nat) (w : W) : WS := fun De e => ∃ ds, e[i]? = some (.own ds) ∧ noListA ds = true ∧ w (e.set i (.val (.list ds))) fun d => noListD d = true ∧ De.rf (.tuple [d, .list ds])
theorem xs_retFz {i : Nat} {w : W} : ∀ Dn σ H, sD c E (dRetFz i w) Dn σ H → tRet (tTup (tCons (tD c w) (tCons (tVar i) tNil))) Dn σ H := fun Dn σ H ⟨e, F, H0, F0, De, x, S, ⟨ds, h, hn, q⟩, K⟩ => by
  obtain ⟨a, vs, h1, h2, h3, h4, h5, h6⟩ := S.own i ds h
  have xf := x.frz h2 h3 h4 h5
  refine ⟨_, upd F a (.lst vs), H0, _, xf.ok, S.frz h h1 h2 h3 h6, q, fun d v H1 F1 ⟨nd, r⟩ x1 rv => ⟨.ref a, h1, len_le (by show 2 ≤ 1000000; decide), fun p hpn => ?_⟩⟩
  have dd : d ≠ .dict [] := fun z => by rw [z] at nd; simp [noListD] at nd
  have x2 := (xf.trans x1).trans (Ext.laid x1.ok (.tup [v, .ref a]) hpn)
  have hpF : F1 p = none := x1.ok.newF hpn
  have up := upd_keep (o := HO.tup [v, .ref a]) hpF
  have ha1 : F1 a = some (.lst vs) := x1.grow _ _ upd_same
  have f0 : F0 a = none := by
    cases q0 : F0 a with
    | none => rfl
    | some o => rw [x.grow a o q0] at h3; cases h3
  refine K.rf _ _ _ _ r x2 (.inl (.tup (.inl (.inl (cutF_some upd_same fun ⟨_, z⟩ => by cases z))) (.cons ?_ (.cons (.lst (cutF_some (up _ _ ha1) fun _ => f0) ?_) .nil))))
  · exact rp_cut d v nd (dp_same up _ _ (rv.dp dd))
  · exact rp_cutA ds vs hn (dpAll_same (Same.trans (Same.trans (upd_keep h3) x1.grow) up) _ _ h6)
end
section
variable {P : Program} {w : World} {g : Glb} {mg : Str → Option Value} {base : Heap} {x : Str} {st : Stmt} {f : Addr} {fd : FuncData} {N ps : List Str} {k : Nat} {wb : WS}
/-- a def that hands back data whose lists are new -/
theorem calF {f0 : Fd} (Fn : FunP g.K x st f fd) (mgf : mg x = some (.ref f)) (b : Binds g.K fd ps []) (S : FnScope N ps (defScope st)) (hlen : ∀ ds R, f0 ds R → ds.length = ps.length)
    (hb : ∀ (cdv : Value) (A : Around) (outer : List PySem.Env) (s : Shared) (H : Hp) (E : XK) (r a : Addr) (ns : List Int), Room k (A.deeper (envOfC x (defScope st) s.heap.objs.size f cdv)) →
      PSs (cxOf CX0 P w g.K mg base N x (defScope st) f cdv A outer s H E).nox (defBody st) (sD ⟨g, r, a, ns⟩ E wb))
    (hp : ∀ ds R, f0 ds R → wb { nx := fun _ => R .none, rt := fun d => noListD d = true ∧ R d, rf := R } (startD N ds)) : C8.Cal P w g.K mg base (k + 1) x (spF g f0) [] := by
  refine ⟨f, fd, ps, [], Fn.ok S (fun vs H Q E h => ?_) (fun cdv A outer s H vs Q E hr h => ?_), mgf, Fn.kp, b, .nil⟩
  · obtain ⟨c, F, ds, R, _, _, rv, h, _⟩ := h
    rw [rv.length]; exact hlen ds R h
  · obtain ⟨⟨g', r, a, ns⟩, F, ds, R, hg, W, rv, h, P'⟩ := h
    have hg' : g' = g := hg
    subst hg'
    refine ⟨_, (hb cdv A outer s H E r a ns hr).nox, startD N ds, F, H, F, _, Ext.refl W, rep_start rv, hp ds R h, ?_⟩
    refine ⟨fun e σ H' F' q x S' => P' _ _ H' F' q x .non, fun d v H' F' ⟨nd, q⟩ x rv => P' d v H' F' q x ?_, fun _ _ _ _ _ z => z.elim, fun _ _ _ _ z => z.elim, fun _ _ _ _ z => z.elim, fun _ _ _ z => z.elim, fun _ z => z.elim, fun d v H' F' q x rv => P' d v H' F' q x rv, fun z => nomatch z⟩
    have dd : d ≠ .dict [] := fun z => by rw [z] at nd; simp [noListD] at nd
    exact .inl (rp_cut d v nd (rv.dp dd))
end
/-- where the row has been made, the way back open -/
theorem law_startB {g : Glb} {E : XK} {H : Hp} {a : Addr} {ns : List Int} {w : WS} {Q : VK} {n : Nat} (hP : ∀ P ∈ g.Ps, H P = some (.tbl #[])) (hs : SqL g.K H a (ns.map V.int)) (k : ∀ H', Q (.bl true) H')
    (hw : ∀ B : Hp → Prop, w { nx := fun _ => False, rt := fun d => d = .bool true, base := B, pin := true } (.un :: .val (.dict []) :: List.replicate n .un)) : ∀ p, H p = none →
      sAny g E w { nx := fun _ H' => Q .non H', rt := Q } (some (.ref a) :: some (.ref p) :: List.replicate n none) (upd H p (.lst [.ref a, .int 0, .int 0, .int 0])) := fun p hp => by
  obtain ⟨r, a', ns', e, F, H0, F0, De, x, S, q, K⟩ := law_start (w := fun De e => De.rt (.bool true) ∧ De = { nx := fun _ => False, rt := fun d => d = .bool true } ∧ e = .un :: .val (.dict []) :: List.replicate n .un) (E := E) hP hs k ⟨rfl, rfl, rfl⟩ p hp
  obtain ⟨_, rfl, rfl⟩ := q
  exact ⟨r, a', ns', _, F, H0, F0, _, x, S, hw fun Fb => Same F0 Fb ∧ ∀ b, F0 b = none → Fb b ≠ none → H0 b = none, K.nx, K.rt, K.rn, K.bk, K.ct, K.ex, fun Fb h => h, K.rf, fun _ Fb h1 h2 => ⟨h1, h2⟩⟩
end FW
/-! FWB: methods of lists of data; count(True), index(True) of a list of bools. -/
namespace FW
open PySem PySem.Spec PyProof.Rows L2
section
variable {X : Cx}
def eqB (v : Value) : Bool := match v with
  | .bool b => b
  | _ => false
theorem bools_of_vals : ∀ {bs : List Bool} {us : List Value}, Vals (bs.map V.bl) us → us = bs.map Value.bool
  | [], _, r => by cases r; rfl
  | b :: bs, _, r => by
    cases r with
    | cons h t => rw [show _ = Value.bool b from h, bools_of_vals t]; rfl
def rCntB (K : PySem.W.Frag) : V → List V → Hp → VK → Prop := fun x xs H Q => ∃ (p : Addr) (bs : List Bool), x = .ref p ∧ xs = [.bl true] ∧ SqL K H p (bs.map V.bl) ∧ Q (.int ((bs.countP id : Nat) : Int)) H
theorem mt_cntB : MtR X "list.count" (rCntB X.K) := by
  intro pins s σ H x xs v us Q I rx rxs h
  obtain ⟨p, bs, rfl, rfl, hs, q⟩ := h
  cases rx
  obtain ⟨u, rfl, ru⟩ := rxs.one
  obtain rfl : u = Value.bool true := ru
  obtain ⟨its, rv, ⟨⟨cls, dd, data, sl⟩, n, ho, hc, hdn, hd⟩, _⟩ := I.list hs
  simp only at hc hd
  subst hc hd
  have hi := bools_of_vals rv
  refine call_meets PySem.F.slot_list_count ⟨_, ho, rfl⟩ PySem.F.entry_list_count (PySem.F.args_list_count_2 _ _) (SeqAt.list_countAt p its.toArray n dd sl (.bool true) eqB) ⟨ho, fun y hy => ?_, ?_⟩
  · have hy : y ∈ its := by simpa using hy
    rw [hi] at hy
    obtain ⟨b, _, rfl⟩ := List.mem_map.mp hy
    have := SeqAt.EqAt.bool_bool (A := X.A.in1.in1) (s := s) b true
    cases b <;> exact SeqAt.EqAt.bool_bool _ true
  · have ec : its.toArray.toList.countP eqB = bs.countP id := by
      rw [show its.toArray.toList = its by simp, hi, List.countP_map]
      rfl
    refine ⟨.int ((bs.countP id : Nat) : Int), H, I.tok _, ⟨s.toks, ?_⟩, q⟩
    rw [ec]
end
section
variable {c : Amb} {E : XK} {H F H0 F0 H1 F1 : Hp} {σ : L2.St} {X : Cx}
def MethD (c : Amb) (r : V → List V → Hp → VK → Prop) (rd : List D → List D → (D → Prop) → Prop) : Prop := ∀ (H F : Hp) (a : Addr) (us : List V) (xs : List D) (vs : List V) (ds : List D) (R : D → Prop) (Q : VK), Wok c H F → F a = some (.lst us) → RpAll c.K F us xs → RepVs c F vs ds → rd xs ds R → Post c H F R Q → r (.ref a) vs H Q
@[simp] def dMeth (rd : List D → List D → (D → Prop) → Prop) (w : W) (wa : WA) : W := fun e R => w e fun d => ∃ xs, d = .list xs ∧ wa e fun ds => rd xs ds R
theorem xd_meth {r : V → List V → Hp → VK → Prop} {rd : List D → List D → (D → Prop) → Prop} (hm : MethD c r rd) {w : W} {wa : WA} : ∀ σ H Q, tD c (dMeth rd w wa) σ H Q → tBM c.K "list" r (tD c w) (tA c wa) σ H Q := fun σ H Q ⟨e, F, H0, R, W, S, q, P⟩ =>
  ⟨e, F, H0, _, W, S, q, fun d v H1 F1 ⟨xs, hd, q1⟩ x1 r1 => by
    subst hd
    obtain ⟨a, us, rfl, h1, h2⟩ := r1.list_inv
    refine ⟨.inl ⟨rfl, us, SqL.of (x1.ok.sub _ _ h1)⟩, e, F1, H0, _, x1.ok, S.ext W x1, q1, fun ds vs H2 F2 q2 x2 r2 => ?_⟩
    exact hm H2 F2 a us xs vs ds R Q x2.ok (x2.grow _ _ h1) (dpAll_same x2.grow _ _ h2) r2 q2 (P.ext (x1.trans x2))⟩
theorem dpAll_bools_inv {K : PySem.W.Frag} : ∀ (l : List Bool) (vs : List V), RpAll K F vs (l.map PyData.bool) → vs = l.map V.bl
  | [], _, h => by cases h; rfl
  | i :: l, _, h => by
    cases h with
    | cons h1 h2 =>
      cases h1
      rw [dpAll_bools_inv l _ h2]; rfl
def rdCntB : List D → List D → (D → Prop) → Prop := fun xs ds R => ∃ bs : List Bool, xs = bs.map .bool ∧ ds = [.bool true] ∧ R (.int ((bs.countP id : Nat) : Int))
theorem md_cntB : MethD c (rCntB c.K) rdCntB := by
  rintro H F a us xs vs ds R Q W h1 h2 rv ⟨bs, rfl, rfl, r⟩ P
  obtain ⟨v, rfl, q⟩ := reps1 rv
  have e := dpAll_bools_inv bs us h2
  subst e
  exact ⟨a, bs, rfl, by rw [q.bl_inv], SqL.of (W.sub _ _ h1), P.here W r .int⟩
def rdIdxB : List D → List D → (D → Prop) → Prop := fun xs ds R => ∃ (bs : List Bool) (j : Nat), xs = bs.map .bool ∧ ds = [.bool true] ∧ bs.length ≤ 1000 ∧ bs[j]? = some true ∧ (∀ m, m < j → bs[m]? = some false) ∧ R (.int (j : Nat))
theorem shaped_bools {bs : List Bool} : SeqAt.shaped (.list (bs.map .bool)) = true := (Sh.lst (n := 0) fun x hx => by
  obtain ⟨b, _, rfl⟩ := List.mem_map.mp hx
  exact Sh.bool).ok
theorem md_idxB : MethD c (rIndexD c.K) rdIdxB := by
  rintro H F a us xs vs ds R Q W h1 h2 rv ⟨bs, j, rfl, rfl, hl, hj, hm, r⟩ P
  obtain ⟨v, rfl, q⟩ := reps1 rv
  refine ⟨a, v, .bool true, bs.map .bool, j, .bool true, rfl, rfl, rp_dp _ _ (SeqAt.canLay_of_shaped shaped_bools) (.lst (W.sub _ _ h1) (dpAll_same W.sub _ _ h2)), ?_, shaped_bools, shaped_bool, ?_, rfl, fun m z' hm' hz => ?_, P.here W r .int⟩
  · rw [q.bl_inv]
    exact .bl true
  · rw [List.getElem?_map, hj]; rfl
  · rw [List.getElem?_map, hm m hm'] at hz
    cases hz
    rfl
end
end FW
/-! FWQ: for x in told: x.append(e), told a list of lists of numbers, all of them new. -/
namespace FW
open PySem PySem.Spec PyProof.Rows L2
@[simp] def intsL (l : List Int) : D := .list (l.map .int)
section
variable {c : Amb} {E : XK} {H F H0 F0 H1 F1 H' F' : Hp} {σ : L2.St} {e : Sg} {X : Cx} {De : EndsD} {Dn : Ends}
theorem rpAll_ints {K : PySem.W.Frag} : ∀ (l : List Int), RpAll K F (l.map V.int) (l.map .int)
  | [] => .nil
  | i :: l => .cons (.int i) (rpAll_ints l)
theorem rpAll_ints_inv {K : PySem.W.Frag} : ∀ {vs : List V} {l : List Int}, RpAll K F vs (l.map .int) → vs = l.map V.int
  | [], [], _ => rfl
  | [], _ :: _, h => nomatch h
  | v :: vs, [], h => nomatch h
  | v :: vs, i :: l, h => by
    cases h with
    | cons h1 h2 =>
      cases h1
      rw [rpAll_ints_inv h2]
      rfl
theorem rows_inv {K : PySem.W.Frag} : ∀ {us : List V} {rows : List (List Int)}, RpAll K F us (rows.map intsL) → ∀ v ∈ us, ∃ p, ∃ l : List Int, v = .ref p ∧ F p = some (.lst (l.map V.int)) ∧ l ∈ rows
  | [], _, _, v, hv => by cases hv
  | u :: us, [], h, _, _ => nomatch h
  | u :: us, r :: rows, h, v, hv => by
    cases h with
    | cons h1 h2 =>
      rcases List.mem_cons.mp hv with z | z
      · subst z
        cases h1 with
        | lst a1 a2 => exact ⟨_, r, rfl, by rw [← rpAll_ints_inv a2]; exact a1, List.mem_cons_self⟩
      · obtain ⟨p, l, e1, e2, e3⟩ := rows_inv h2 v z
        exact ⟨p, l, e1, e2, List.mem_cons_of_mem _ e3⟩
theorem frzAll : ∀ (vs : List V) {F1 : Hp}, Ext c H0 F0 H F1 → (∀ v ∈ vs, ∃ p, ∃ l : List Int, v = .ref p ∧ H p = some (.lst (l.map V.int)) ∧ H0 p = none ∧ p ≠ c.r) →
    ∃ F2, ∃ rows : List (List Int), Same F1 F2 ∧ Ext c H0 F0 H F2 ∧ RpAll c.K F2 vs (rows.map intsL) ∧ ∀ b, F2 b ≠ none → F1 b ≠ none ∨ V.ref b ∈ vs
  | [], F1, x, _ => ⟨F1, [], fun _ _ h => h, x, .nil, fun _ h => .inl h⟩
  | v :: vs, F1, x, h => by
    obtain ⟨p, l, rfl, h1, h2, h3⟩ := h v List.mem_cons_self
    have key : ∃ F1', Same F1 F1' ∧ Ext c H0 F0 H F1' ∧ F1' p = some (.lst (l.map V.int)) ∧ ∀ b, F1' b ≠ none → F1 b ≠ none ∨ b = p := by
      cases q : F1 p with
      | none =>
        refine ⟨_, upd_keep q, x.frz h1 q h2 h3, upd_same, fun b hb => ?_⟩
        by_cases z : b = p
        · exact .inr z
        · rw [upd_ne z] at hb; exact .inl hb
      | some o =>
        have := x.ok.sub _ _ q
        rw [h1] at this
        cases this
        exact ⟨F1, fun _ _ h => h, x, q, fun _ h => .inl h⟩
    obtain ⟨F1', s1, x1, g1, n1⟩ := key
    obtain ⟨F2, rows, s2, x2, r2, n2⟩ := frzAll vs x1 fun v hv => h v (List.mem_cons_of_mem _ hv)
    refine ⟨F2, l :: rows, s1.trans s2, x2, .cons (.lst (s2 _ _ g1) (rpAll_ints l)) r2, fun b hb => ?_⟩
    rcases n2 b hb with z | z
    · rcases n1 b z with z | rfl
      · exact .inl z
      · exact .inr List.mem_cons_self
    · exact .inr (List.mem_cons_of_mem _ z)
/-- between two turns -/
def AppW (us : List V) (σ : L2.St) (j : Nat) (H : Hp) : Nat → Nat → L2.St → Hp → Prop := fun n m σ' H' => m = us.length - n ∧ n ≤ us.length ∧ ((n = 0 ∧ σ' = σ) ∨ ∃ o, σ' = σ.set j o) ∧ (∀ b o, H b = some o → V.ref b ∉ us → H' b = some o) ∧ ∀ b, V.ref b ∈ us → ∃ l : List Int, H' b = some (.lst (l.map V.int)) ∧ l.length ≤ 1000 + n
@[simp] def dForApp (i j : Nat) (k : Int) : WS := fun De e => ∃ Fb, ∃ rows : List (List Int), e[i]? = some (.fix true Fb (.list (rows.map intsL))) ∧ De.base Fb ∧ allPin Fb e ∧ i ≠ j ∧ j < e.length ∧ 0 < rows.length ∧ rows.length ≤ 1000 ∧ (∀ l ∈ rows, l.length ≤ 1000) ∧
  ∀ rows' : List (List Int), De.nx (((unpin e).set j .un).set i (.own (rows'.map intsL)))
theorem xs_forApp {i j : Nat} {k : Int} : ∀ Dn σ H, sD c E (dForApp i j k) Dn σ H → tFor (iList c.K (tVar i)) (gName j) (tDrop (tBM c.K "list" rAppend (tVar j) (tCons (tC (.int k)) tNil))) Dn σ H := fun Dn σ H ⟨e, F, H0, F0, De, x, S, ⟨Fb, rows, hi, hb, hp, hij, hj, r0, r1, rl, q⟩, K⟩ => by
  obtain ⟨sb, v, h1, h2⟩ := S.fix i true Fb _ hi
  obtain ⟨a, us, rfl, h3, h4⟩ := h2.list_inv
  obtain ⟨h5, h6⟩ := cutF_new h3
  have hl := dpAll_length h4
  rw [List.length_map] at hl
  have inn := rows_inv h4
  have ch : ∀ b vs, F b = some (.lst vs) → Fb b = none → H0 b = none := fun b vs g1 g2 => by
    have f0 : F0 b = none := by
      cases q : F0 b with
      | none => rfl
      | some o => rw [(K.base Fb hb).1 b o q] at g2; cases g2
    exact x.new b f0 (by rw [g1]; simp)
  have na : V.ref a ∉ us := fun z => by
    obtain ⟨p, l, e1, e2, _⟩ := inn _ z
    cases e1
    rw [h3] at e2
    cases e2
    obtain ⟨_, _, z2⟩ := List.mem_map.mp z
    cases z2
  have nr : ∀ {p vs}, F p = some (.lst vs) → p ≠ c.r := fun g z => by
    rw [z, x.ok.rF] at g; cases g
  refine ⟨.ref a, h1, a, rfl, ⟨us, SqL.of (x.ok.sub _ _ h5)⟩, AppW us σ j H, ⟨_, rfl, Nat.zero_le _, .inl ⟨rfl, rfl⟩, fun b o h _ => h, fun b hb => ?_⟩, ?_⟩
  · obtain ⟨p, l, e1, e2, e3⟩ := inn _ hb
    cases e1
    exact ⟨l, x.ok.sub _ _ (cutF_sub _ _ e2), Nat.le_trans (rl l e3) (Nat.le_add_right _ _)⟩
  · rintro n m σ' H' ⟨rfl, hn, hσ, k1, k2⟩
    have ha := k1 a _ (x.ok.sub _ _ h5) na
    by_cases hlt : n < us.length
    · refine .inr ⟨⟨us, us[n], SqL.of ha, List.getElem?_eq_getElem hlt⟩, AppW us σ j H (n + 1) (us.length - (n + 1)), fun σ2 H2 z => ⟨_, ?_, z⟩, fun y H2 ⟨e1, e2⟩ => ?_⟩
      · omega
      · subst e1
        have hy := e2 us (SqL.of ha)
        rw [List.getElem?_eq_getElem hlt] at hy
        cases hy
        have hm : us[n] ∈ us := List.getElem_mem hlt
        obtain ⟨p, l0, e3, _, _⟩ := inn _ hm
        rw [e3] at hm ⊢
        obtain ⟨l, g1, g2⟩ := k2 p hm
        have hs : ∃ o, σ'.set j (some (.ref p)) = σ.set j o := by
          rcases hσ with ⟨_, rfl⟩ | ⟨o, rfl⟩
          · exact ⟨_, rfl⟩
          · exact ⟨some (.ref p), by rw [List.set_set]⟩
        have hlen : j < σ'.length := by
          rcases hσ with ⟨_, rfl⟩ | ⟨o, rfl⟩
          · rw [S.len]; exact hj
          · rw [List.length_set, S.len]; exact hj
        refine ⟨.ref p, List.getElem?_set_self hlen, .inl ⟨rfl, _, SqL.of g1⟩, p, _, .int k, rfl, rfl, g1, len_lt (by rw [List.length_map]; omega), rfl, by omega, .inr hs, fun b o h nb => ?_, fun b hb => ?_⟩
        · have : b ≠ p := fun z => nb (by rw [z]; exact hm)
          rw [upd_ne this]
          exact k1 b o h nb
        · by_cases z : b = p
          · subst z
            exact ⟨l ++ [k], by rw [upd_same, List.map_append]; rfl, by simp; omega⟩
          · obtain ⟨l', g3, g4⟩ := k2 b hb
            exact ⟨l', by rw [upd_ne z]; exact g3, by omega⟩
    · have he : n = us.length := by omega
      subst he
      refine .inl ⟨⟨us, SqL.of ha, Nat.le_refl _⟩, ?_⟩
      obtain ⟨o, rfl⟩ : ∃ o, σ' = σ.set j o := by
        rcases hσ with ⟨z, _⟩ | z
        · omega
        · exact z
      have xs : Ext c H0 F0 H' Fb := Ext.smash x sb (K.base Fb hb) fun b o h => by
        by_cases z : V.ref b ∈ us
        · obtain ⟨p, l, e1, e2, _⟩ := inn _ z
          cases e1
          obtain ⟨e3, e4⟩ := cutF_new e2
          exact .inr ⟨⟨_, e3⟩, e4⟩
        · exact .inl (k1 b o h z)
      obtain ⟨F2, rows', s2, x2, r2, n2⟩ := frzAll us xs fun v hv => by
        obtain ⟨p, l0, rfl, e2, _⟩ := inn _ hv
        obtain ⟨e3, e4⟩ := cutF_new e2
        obtain ⟨l, g1, _⟩ := k2 p hv
        exact ⟨p, l, rfl, g1, ch _ _ e3 e4, nr e3⟩
      have fa : F2 a = none := by
        cases z : F2 a with
        | none => rfl
        | some o =>
          rcases n2 a (by rw [z]; simp) with z | z
          · exact absurd h6 z
          · exact absurd z na
      have S1 := (S.unpinTo hp H' s2).set_un j o
      have S2 := S1.set_own i ha fa (ch _ _ h5 h6) (nr h5) r2 fun j' _ es _ z => by
        by_cases y : j = j'
        · subst y
          by_cases hl : j < (unpin e).length
          · rw [List.getElem?_set_self hl] at z; cases z
          · rw [List.getElem?_eq_none (by simpa using hl)] at z; cases z
        · rw [List.getElem?_set_ne y] at z
          exact (unpin_own z).elim
      have hs : (σ.set j o)[i]? = some (some (.ref a)) := by rw [List.getElem?_set_ne (fun z => hij z.symm)]; exact h1
      have es : (σ.set j o).set i (some (.ref a)) = σ.set j o := by
        obtain ⟨hl, e1⟩ := List.getElem?_eq_some_iff.mp hs
        rw [← e1]
        exact List.set_getElem_self hl
      rw [es] at S2
      exact K.nx _ _ _ _ (q rows') x2 S2
/-! ### a list of one's own that is turned round -/
@[simp] def dRevO (i : Nat) : WS := fun De e => ∃ ds, e[i]? = some (.own ds) ∧ De.nx (e.set i (.own ds.reverse))
theorem rpAll_rev {K : PySem.W.Frag} : ∀ {vs : List V} {ds : List D}, RpAll K F vs ds → RpAll K F vs.reverse ds.reverse
  | _, _, .nil => .nil
  | _, _, .cons h t => by
    rw [List.reverse_cons, List.reverse_cons]
    exact dpAll_app (rpAll_rev t) (.cons h .nil)
theorem xs_revO {i : Nat} : ∀ Dn σ H, sD c E (dRevO i) Dn σ H → tDrop (tBM0 c.K "list" rReverse (tVar i)) Dn σ H := fun Dn σ H ⟨e, F, H0, F0, De, x, S, ⟨ds, h, q⟩, K⟩ => by
  obtain ⟨a, vs, h1, h2, h3, h4, h5, h6⟩ := S.own i ds h
  exact ⟨.ref a, h1, .inl ⟨rfl, vs, SqL.of h2⟩, a, vs, rfl, rfl, h2, K.nx _ _ _ _ q (x.mut h4 h2 h3 h5 _) (S.mut h h1 h3 h4 h5 (rpAll_rev h6))⟩
/-! ### a list of one's own, of lists that are new -/
@[simp] def dOwnF (i k : Nat) (w : WA) : WS := fun De e => ∃ Fb d0, e[k]? = some (.fix false Fb d0) ∧ w e fun ds => ds = [] ∧ De.nx (e.set i (.ownO (some Fb) []))
theorem xs_ownF {i k : Nat} {w : WA} : ∀ Dn σ H, sD c E (dOwnF i k w) Dn σ H → tAsg (tN c w) (gName i) Dn σ H := fun Dn σ H ⟨e, F, H0, F0, De, x, S, ⟨Fb, d0, hk, q⟩, K⟩ =>
  ⟨e, F, H0, _, x.ok, S, q, fun ds p vs H' F' ⟨hd, r⟩ x' hp hp' hF hr k => by
    subst hd
    cases k
    exact K.nx _ _ _ _ r (x.trans x') ((S.ext x.ok x').set_ownO i (some Fb) hp' hF (x.free hp) hr .nil fun j o es _ hj z => by
      obtain ⟨a, ws, h1, h2, _⟩ := S.ownO j o es hj
      rw [h1] at z
      cases z
      rw [hp] at h2; cases h2)⟩
/-- x.append(y), y a list of one's own of data without lists -/
@[simp] def dAppMv (i j k : Nat) : WS := fun De e => ∃ Fb d0 ds es, e[k]? = some (.fix false Fb d0) ∧ e[i]? = some (.ownO (some Fb) ds) ∧ e[j]? = some (.own es) ∧ i ≠ j ∧ noListA es = true ∧ ds.length < 1000000 ∧ De.nx ((e.set j (.val (.list es))).set i (.ownO (some Fb) (ds ++ [.list es])))
theorem xs_appMv {i j k : Nat} : ∀ Dn σ H, sD c E (dAppMv i j k) Dn σ H → tDrop (tBM c.K "list" rAppend (tVar i) (tCons (tVar j) tNil)) Dn σ H := fun Dn σ H ⟨e, F, H0, F0, De, x, S, ⟨Fb, d0, ds, es, hk, hi, hj, hij, hn, hl, q⟩, K⟩ => by
  have sb := (S.fix k false Fb d0 hk).1
  obtain ⟨a, vs, h1, h2, h3, h4, h5, h6⟩ := S.ownO i _ ds hi
  obtain ⟨b, ws, g1, g2, g3, g4, g5, g6⟩ := S.own j es hj
  have hab : a ≠ b := fun z => by
    subst z
    exact S.distO i j _ _ ds es a hij hi hj h1 g1
  have fb : Fb b = none := by
    cases z : Fb b with
    | none => rfl
    | some o => rw [sb b o z] at g3; cases g3
  refine ⟨.ref a, h1, .inl ⟨rfl, vs, SqL.of h2⟩, .ref b, g1, a, vs, .ref b, rfl, rfl, h2, len_lt (by rw [dpAll_length h6]; exact hl), ?_⟩
  have xf := x.frz g2 g3 g4 g5
  have S1 := S.frz hj g1 g2 g3 g6
  have ha : (upd F b (.lst ws)) a = none := by rw [upd_ne hab]; exact h3
  have hi' : (e.set j (.val (.list es)))[i]? = some (.ownO (some Fb) ds) := by rw [List.getElem?_set_ne (fun z => hij z.symm)]; exact hi
  have kk : RpAll c.K (cutO (upd F b (.lst ws)) (some Fb)) (vs ++ [.ref b]) (ds ++ [.list es]) :=
    dpAll_app (dpAll_same (cutO_grow (some Fb) (upd_keep g3)) _ _ h6) (.cons (.lst (cutF_some upd_same fun _ => fb) (rp_cutA es ws hn (dpAll_same (upd_keep g3) _ _ g6))) .nil)
  exact K.nx _ _ _ _ q (xf.mut h4 h2 ha h5 _) (S1.mutO hi' h1 ha h4 h5 kk)
/-- return x, x a list of one's own, of lists that are new -/
@[simp] def dRetFO (i : Nat) : WS := fun De e => ∃ Fb ds, e[i]? = some (.ownO (some Fb) ds) ∧ De.base Fb ∧ De.rf (.list ds)
theorem xs_retFO {i : Nat} : ∀ Dn σ H, sD c E (dRetFO i) Dn σ H → tRet (tVar i) Dn σ H := fun Dn σ H ⟨e, F, H0, F0, De, x, S, ⟨Fb, ds, h, hb, r⟩, K⟩ => by
  obtain ⟨a, vs, h1, h2, h3, h4, h5, h6⟩ := S.ownO i _ ds h
  have xf := x.frz h2 h3 h4 h5
  have b0 := K.base Fb hb
  have f0 : F0 a = none := by
    cases q0 : F0 a with
    | none => rfl
    | some o => rw [x.grow a o q0] at h3; cases h3
  have gr : Same (cutF F Fb) (cutF (upd F a (.lst vs)) F0) := cutF_grow (upd_keep h3) fun b h1 _ => by
    cases q0 : F0 b with
    | none => rfl
    | some o => rw [b0.1 b o q0] at h1; cases h1
  exact ⟨.ref a, h1, K.rf _ _ _ _ r xf (.inl (.lst (cutF_some upd_same fun _ => f0) (dpAll_same gr _ _ h6)))⟩
end
section
variable {P : Program} {w : World} {g : Glb} {mg : Str → Option Value} {base : Heap} {x : Str} {st : Stmt} {f : Addr} {fd : FuncData} {N ps : List Str} {k : Nat} {wb : WS}
/-- a def that hands back data whose lists are new, told what was there -/
theorem calFB {f0 : Fd} (Fn : FunP g.K x st f fd) (mgf : mg x = some (.ref f)) (b : Binds g.K fd ps []) (S : FnScope N ps (defScope st)) (hlen : ∀ ds R, f0 ds R → ds.length = ps.length)
    (hb : ∀ (cdv : Value) (A : Around) (outer : List PySem.Env) (s : Shared) (H : Hp) (E : XK) (r a : Addr) (ns : List Int), Room k (A.deeper (envOfC x (defScope st) s.heap.objs.size f cdv)) →
      PSs (cxOf CX0 P w g.K mg base N x (defScope st) f cdv A outer s H E).nox (defBody st) (sD ⟨g, r, a, ns⟩ E wb))
    (hp : ∀ ds R, f0 ds R → ∀ B : Hp → Prop, wb { nx := fun _ => R .none, rt := fun d => noListD d = true ∧ R d, rf := R, base := B, pin := true } (startD N ds)) : C8.Cal P w g.K mg base (k + 1) x (spF g f0) [] := by
  refine ⟨f, fd, ps, [], Fn.ok S (fun vs H Q E h => ?_) (fun cdv A outer s H vs Q E hr h => ?_), mgf, Fn.kp, b, .nil⟩
  · obtain ⟨c, F, ds, R, _, _, rv, h, _⟩ := h
    rw [rv.length]; exact hlen ds R h
  · obtain ⟨⟨g', r, a, ns⟩, F, ds, R, hg, W, rv, h, P'⟩ := h
    have hg' : g' = g := hg
    subst hg'
    refine ⟨_, (hb cdv A outer s H E r a ns hr).nox, startD N ds, F, H, F, _, Ext.refl W, rep_start rv, hp ds R h (fun Fb => Same F Fb ∧ ∀ b, F b = none → Fb b ≠ none → H b = none), ?_⟩
    refine ⟨fun e σ H' F' q x S' => P' _ _ H' F' q x .non, fun d v H' F' ⟨nd, q⟩ x rv => P' d v H' F' q x ?_, fun _ _ _ _ _ z => z.elim, fun _ _ _ _ z => z.elim, fun _ _ _ _ z => z.elim, fun _ _ _ z => z.elim, fun Fb z => z, fun d v H' F' q x rv => P' d v H' F' q x rv, fun _ Fb h1 h2 => ⟨h1, h2⟩⟩
    have dd : d ≠ .dict [] := fun z => by rw [z] at nd; simp [noListD] at nd
    exact .inl (rp_cut d v nd (rv.dp dd))
end
end FW
/-! FWS: sets of numbers: {e for a in p for b in q}, and sorted of a set of any size. -/
namespace FWS
open PySem PySem.Spec PyProof.Rows L2
abbrev dbl (e a p b q : Expr) (sc : Scope) (pos : Pos) : Expr :=
  .SetComp e [⟨a, p, [], 0⟩, ⟨b, q, [], 0⟩] sc pos
/-- a turn of the first clause -/
theorem turn_a (e a p b q : Expr) (sc : Scope) (pos : Pos) (it acc : Value) (env : PySem.Env) :
    compTurn (dbl e a p b q sc pos) 0 it acc env = (do
      standAt p.pos
      match ← pyNext it with
      | none => pure (.done .next)
      | some v =>
        letOwnedTupleGo a it v
        assign a env v
        let mut go := true
        for c in ([] : List Expr) do
          if go then go ← isTrue c env (eval c env)
        if go then
          let y ← eval q env
          standAt q.pos
          let y ← foldedSetIterable q env y
          let j ← holding [y] (pyIter y)
          let _ ← runOwn (.compStart (dbl e a p b q sc pos) 1 j acc env) env
        again (.compLoop (dbl e a p b q sc pos) 0 it acc env)) := by rfl
/-- .. of the second -/
theorem turn_b (e a p b q : Expr) (sc : Scope) (pos : Pos) (it acc : Value) (env : PySem.Env) :
    compTurn (dbl e a p b q sc pos) 1 it acc env = (do
      standAt q.pos
      match ← pyNext it with
      | none => pure (.done .next)
      | some v =>
        letOwnedTupleGo b it v
        assign b env v
        let mut go := true
        for c in ([] : List Expr) do
          if go then go ← isTrue c env (eval c env)
        if go then
          (do let y ← eval e env; standAt e.pos; let _ ← call (.builtin "set.add") [acc, y])
        again (.compLoop (dbl e a p b q sc pos) 1 it acc env)) := by rfl
section
variable {P : Program} {w : World} {A : Around} {R : Result → Shared → Prop} {s : Shared}
variable {e a p b q : Expr} {sc : Scope} {pos : Pos} {it acc : Value} {env : PySem.Env}
abbrev Bad (P : Program) (w : World) (A : Around) (env : PySem.Env) (R : Result → Shared → Prop) : Value → Shared → Prop :=
  notedBy (model P w) A env fun x s' => R (.error x) s'
theorem loop_a (hq : ∀ x, foldedSetIterable q env x = pure x) (I : Nat → Shared → Prop)
    (turn : ∀ n s, I n s → wpAny (model P w) A (pyNext it) (fun r s1 => match r with
      | none => R (.ok .next) s1
      | some v => wpAny (model P w) A (letOwnedTupleGo a it v) (fun _ s2 =>
          wpAny (model P w) A (assign a env v) (fun _ s3 =>
            wpAny (model P w) A (eval q env) (fun y s4 =>
              wpAny (model P w) A (pyIter y) (fun j s5 =>
                codeAny (model P w) A (.compStart (dbl e a p b q sc pos) 1 j acc env) (fun r s' => match r with
                  | .ok _ => ∃ m, m < n ∧ I m s'
                  | .error _ => False) s5)
              (Bad P w A env R) s4) (Bad P w A env R) s3) (Bad P w A env R) s2) (Bad P w A env R) s1) (Bad P w A env R) s)
    (n : Nat) (h : I n s) : codeAny (model P w) A (.compLoop (dbl e a p b q sc pos) 0 it acc env) R s := by
  refine codeAny_loop rfl I (fun k t hI => ?_) n h
  show wpAny _ A ((compTurn (dbl e a p b q sc pos) 0 it acc env).onRaise (fun x => do noteFrame x env; theTreesLotGoes x)) _ _ t
  refine wpAny_noted ?_
  rw [turn_a]
  refine wpAny_bind (wpAny_standAt (wpAny_bind (wpAny_mono (turn k t hI) (fun r t1 g1 => ?_) fun _ _ z => z)))
  cases r with
  | none => exact wpAny_pure g1
  | some v =>
    refine wpAny_bind (wpAny_mono g1 (fun _ t2 g2 => ?_) fun _ _ z => z)
    refine wpAny_bind (wpAny_mono g2 (fun _ t3 g3 => ?_) fun _ _ z => z)
    show wpAny _ A (pure true >>= _) _ _ t3
    refine wpAny_bind (wpAny_pure ?_)
    refine wpAny_bind (wpAny_mono g3 (fun y t4 g4 => ?_) fun _ _ z => z)
    refine wpAny_bind (wpAny_standAt (wpAny_bind (wpAny_of_eq (hq y) (wpAny_bind (wpAny_holding (wpAny_mono g4 (fun j t5 g5 => ?_) fun _ _ z => z))))))
    refine wpAny_bind (wpAny_runOwn ?_)
    rw [Around.mark_none]
    refine codeAny_mono g5 fun r t6 g6 => ?_
    cases r with
    | ok f =>
      first
        | exact wpAny_pure ⟨rfl, g6⟩
        | exact wpAny_bind (wpAny_pure (wpAny_pure ⟨rfl, g6⟩))
    | error x => exact g6.elim
theorem loop_b (I : Nat → Shared → Prop)
    (turn : ∀ n s, I n s → wpAny (model P w) A (pyNext it) (fun r s1 => match r with
      | none => R (.ok .next) s1
      | some v => wpAny (model P w) A (letOwnedTupleGo b it v) (fun _ s2 =>
          wpAny (model P w) A (assign b env v) (fun _ s3 =>
            wpAny (model P w) A (eval e env) (fun y s4 =>
              wpAny (model P w) A (call (.builtin "set.add") [acc, y]) (fun _ s5 => ∃ m, m < n ∧ I m s5)
              (Bad P w A env R) s4) (Bad P w A env R) s3) (Bad P w A env R) s2) (Bad P w A env R) s1) (Bad P w A env R) s)
    (n : Nat) (h : I n s) : codeAny (model P w) A (.compLoop (dbl e a p b q sc pos) 1 it acc env) R s := by
  refine codeAny_loop rfl I (fun k t hI => ?_) n h
  show wpAny _ A ((compTurn (dbl e a p b q sc pos) 1 it acc env).onRaise (fun x => do noteFrame x env; theTreesLotGoes x)) _ _ t
  refine wpAny_noted ?_
  rw [turn_b]
  refine wpAny_bind (wpAny_standAt (wpAny_bind (wpAny_mono (turn k t hI) (fun r t1 g1 => ?_) fun _ _ z => z)))
  cases r with
  | none => exact wpAny_pure g1
  | some v =>
    refine wpAny_bind (wpAny_mono g1 (fun _ t2 g2 => ?_) fun _ _ z => z)
    refine wpAny_bind (wpAny_mono g2 (fun _ t3 g3 => ?_) fun _ _ z => z)
    show wpAny _ A (pure true >>= _) _ _ t3
    refine wpAny_bind (wpAny_pure ?_)
    refine wpAny_bind (wpAny_bind (wpAny_mono g3 (fun y t4 g4 => ?_) fun _ _ z => z))
    refine wpAny_bind (wpAny_standAt (wpAny_bind (wpAny_mono g4 (fun _ t5 g5 => ?_) fun _ _ z => z)))
    exact wpAny_pure (wpAny_pure ⟨rfl, g5⟩)
theorem start_b (h0 : codeAny (model P w) A (.compLoop (dbl e a p b q sc pos) 1 it acc env) R s)
    (h : wpAny (model P w) A (pyIter it) (fun j s' => codeAny (model P w) A (.compLoop (dbl e a p b q sc pos) 1 j acc env) R s')
      (Bad P w A env R) s) : codeAny (model P w) A (.compStart (dbl e a p b q sc pos) 1 it acc env) R s := by
  refine codeAny_of_tree ?_
  show wpAny _ _ ((compStart (dbl e a p b q sc pos) 1 it acc env).onRaise (fun x => do noteFrame x env; standAt theWindowsPlace)) _ _ s
  refine wpAny_notedAt ?_
  unfold compStart
  show wpAny _ A (ask >>= _) _ _ s
  refine wpAny_bind (wpAny_askSetting (wpAny_ite ?_))
  split
  · first
      | exact wpAny_bind (wpAny_pure (wpAny_pure (And.intro rfl h0)))
      | exact wpAny_pure (And.intro rfl h0)
  · refine wpAny_bind (wpAny_rule ?_)
    show wpAny _ A (standAt q.pos >>= _) _ _ s
    exact wpAny_bind (wpAny_standAt (wpAny_bind (wpAny_mono h (fun j t g => wpAny_pure (And.intro rfl g)) fun _ _ z => z)))
end
section
variable {X : Cx} {pins : List (Addr × Obj)} {σ : L2.St} {H : Hp} {s : Shared} {D : Addr}
/-- the set behind one more number -/
abbrev more (S : Int → Bool) (k : Int) : Int → Bool := fun j => S j || decide (j = k)
theorem add_ok {E : Value → Shared → Prop} {S : Int → Bool} {n : Nat} {k : Int} {tk : Tok} {Q : Value → Shared → Prop} (I : Inv X pins σ H s)
    (hD : H D = some (SetO X.w D S n)) (room : n + 1 < scanBound)
    (h : ∀ t, Inv X pins σ (upd H D (SetO X.w D (more S k) (if S k = true then n else n + 1))) t → Q .none t) :
    wpAny (model X.prog X.w) X.A (call (.builtin "set.add") [.ref D, .int k tk]) Q E s := by
  refine setR_add (setO_get I hD) room fun h' sb new => h _ ?_
  have there : ∃ u, h'.get? D = some u := by
    have ⟨o, _, _, _, ho, _⟩ := new
    exact ⟨o, ho⟩
  exact I.write (e := D) (t' := s.toks + 1) (by rw [hD]; trivial) (.inl rfl) (fun b u hb hu => (sb.2 b hb).trans hu) there (setO_new new)
/-- {e for a in p for b in q}: who walks, what is put in -/
def tSc (w : World) (wi : TI) (g : TG) (wi1 : TI) (g1 : TG) (te : TE) (vs vs1 : List Nat) : TE := fun σ H Q =>
  wi σ H fun J H1 => ∀ D, H1 D = none → ∃ W : Nat → Nat → Hp → Prop,
    (∃ m, W 0 m (upd H1 D (SetO w D (fun _ => false) 0))) ∧ ∀ i m H, W i m H →
      (J.stop i H ∧ Q (.ref D) H) ∨
      (J.go i H ∧ ∃ Nx : Hp → Prop, (∀ H', Nx H' → ∃ m', m' < m ∧ W (i + 1) m' H') ∧
        ∀ x H', J.yld i H x H' → g x (wipe σ vs) H' fun σ2 H2 => wipe σ2 vs = wipe σ vs ∧
          wi1 σ2 H2 fun J1 H4 => ∃ W1 : Nat → Nat → Hp → Prop, (∃ m, W1 0 m H4) ∧ ∀ j k H, W1 j k H →
            (J1.stop j H ∧ Nx H) ∨
            (J1.go j H ∧ ∃ N1 : Hp → Prop, (∀ H', N1 H' → ∃ k', k' < k ∧ W1 (j + 1) k' H') ∧
              ∀ x H', J1.yld j H x H' → g1 x (wipe σ2 vs1) H' fun σ3 H5 => wipe σ3 vs1 = wipe σ2 vs1 ∧
                te σ3 H5 fun y H7 => ∃ k S n, y = .int k ∧ H7 D = some (SetO w D S n) ∧ n + 1 < scanBound ∧
                  N1 (upd H7 D (SetO w D (more S k) (if S k = true then n else n + 1)))))
theorem pe_sc {e a p b q : Expr} {sc : Scope} {own : List (Str × Nat)} {vs1 : List Nat} {pos : Pos} {wi wi1 : TI} {g g1 : TG} {te : TE}
    (hc : X.calm = true) (hN : X.N.Nodup) (hi : PI X a p wi) (ok : BlkOk X.N X.env.scope sc own) (hv : ∀ i ∈ vs1, i ∈ own.map (·.2))
    (hg : ∀ (s : Shared) (H : Hp) (C : Addr) (cl : List (Str × Addr)) (fp : List Addr), PG (X.blk s H sc (compEnvC sc cl C X.env) fp) a g)
    (hj : ∀ (s : Shared) (H : Hp) (C : Addr) (cl : List (Str × Addr)) (fp : List Addr), PI (X.blk s H sc (compEnvC sc cl C X.env) fp) b q wi1)
    (hg1 : ∀ (s : Shared) (H : Hp) (C : Addr) (cl : List (Str × Addr)) (fp : List Addr), PG (X.blk s H sc (compEnvC sc cl C X.env) fp) b g1)
    (he : ∀ (s : Shared) (H : Hp) (C : Addr) (cl : List (Str × Addr)) (fp : List Addr), PE (X.blk s H sc (compEnvC sc cl C X.env) fp) e te)
    (hp : ∀ x, foldedSetIterable p X.env x = pure x := by intro _; rfl) (hq : ∀ env x, foldedSetIterable q env x = pure x := by intro _ _; rfl) :
    PE X (dbl e a p b q sc pos) (tSc X.w wi g wi1 g1 te (own.map (·.2)) vs1) := by
  refine ⟨fun pins s σ H Q I h => ?_⟩
  rw [arm_eval_SetComp]
  show wpAny _ _ (comprehension (dbl e a p b q sc pos) sc X.env _ (newSet (.type "set")) false (eval p X.env)) _ _ s
  have hfree : ∀ y ∈ sc.names, y.2 = .free → ∃ c, X.env.cells.lookup y.1 = some c := fun y hy z => by
    rcases ok.free y hy z with k | k
    · exact I.ok.has _ (.inl k)
    · exact I.ok.has _ (.inr k)
  refine wpAny_comprehension_free (use := none) rfl hp (closure_ok hfree) ok.kind (fun y hy z => by rw [ok.uniq y hy, z])
    (thn (hi.run pins s σ H _ I h) fun xv t1 hx => thn hx fun iv t2 h2 => ?_)
  obtain ⟨it, fp, tn, J, H2, rfl, I2, T, st2, f2, q2⟩ := h2
  refine wpAny_newSet_raw fun led hled => newEnv_comp ?_
  subst hled
  generalize hD : t2.heap.objs.size = D
  have hDn : H2 D = none := I2.hok.fresh (Nat.le_of_eq hD)
  obtain ⟨W, ⟨m0, w0⟩, turn⟩ := q2 D hDn
  generalize ht3 : ({ t2 with heap := t2.heap.push { cls := .type "set", dict := none, data := .set #[] 0 (.fresh 0 0 (!(X.w.params.followText "set-order"))) } } : Shared) = t3
  have hp3 : t3.heap = t2.heap.push { cls := .type "set", dict := none, data := .set #[] 0 (.fresh 0 0 (!(X.w.params.followText "set-order"))) } := by rw [← ht3]
  have I3 : Inv X pins σ (upd H2 D (SetO X.w D (fun _ => false) 0)) t3 := by
    rw [← ht3]
    refine I2.laid (t' := t2.toks) (fun b o z => Heap.get?_push_of_some _ z) (Nat.le_of_eq hD) (setO_new ?_)
    rw [← hD]
    exact setR_fresh X.w
  have small : ∀ b ∈ fp, b < t2.heap.objs.size := fun b hb => by
    obtain ⟨o, z, _⟩ := T.obj _ _ st2 b hb
    exact Heap.lt_size z
  have f3 : ∀ b ∈ fp, FpOk X pins (upd H2 D (SetO X.w D (fun _ => false) 0)) b ∧ b < t3.heap.objs.size := fun b hb => by
    have lt := small b hb
    refine ⟨⟨?_, (f2 b hb).2⟩, by rw [hp3, Heap.size_push]; exact Nat.lt_succ_of_lt lt⟩
    rw [upd_ne (by rw [← hD]; exact Nat.ne_of_lt lt)]
    exact (f2 b hb).1
  have st3 : tn 0 t3.heap := T.keep _ _ _ st2 fun b _ o z => by rw [hp3]; exact Heap.get?_push_of_some _ z
  have I4 := block_start I3 ok hN f3
  generalize hH3 : upd H2 D (SetO X.w D (fun _ => false) 0) = H3 at I3 I4 w0 f3
  generalize hcl : cellsFrom (t3.heap.objs.size + 1) sc.names (cloFrom X.env.cells sc.names []) = cl at I4
  have pg := hg t3 H3 t3.heap.objs.size cl fp
  have pe := he t3 H3 t3.heap.objs.size cl fp
  have pj := hj t3 H3 t3.heap.objs.size cl fp
  have pg1 := hg1 t3 H3 t3.heap.objs.size cl fp
  show codeAny _ _ (.compStart (dbl e a p b q sc pos) 0 (.ref it) (.ref D) (compEnvC sc cl t3.heap.objs.size X.env))
    (compPost (model X.prog X.w) X.A X.xe none _ (.ref D) t3.heap.objs.size) { t3 with heap := pushCells (t3.heap.push { cls := .type "dict", data := .dict #[] }) sc.names }
  generalize hce : compEnvC sc cl t3.heap.objs.size X.env = ce at I4 pg pe pj pg1 ⊢
  have cL : ce.locals = t3.heap.objs.size := by subst hce; rfl
  generalize ht4 : ({ t3 with heap := pushCells (t3.heap.push { cls := .type "dict", data := .dict #[] }) sc.names } : Shared) = t4 at I4 ⊢
  have st4 : tn 0 t4.heap := T.keep _ _ _ st3 fun b _ o z => by
    rw [← ht4]
    exact pushCells_keeps _ _ _ _ (Heap.get?_push_of_some _ z)
  have nfp : ∀ b ∈ fp, H3 b = none := fun b hb => (f3 b hb).1.1
  -- the iterator's objects, seen from the block
  have stat : ∀ {σ' : L2.St} {H' : Hp} {s' : Shared}, Inv (X.blk t3 H3 sc ce fp) [] σ' H' s' → (∀ b ∈ fp, H' b = none) →
      ∀ b ∈ fp, FpOk (X.blk t3 H3 sc ce fp) [] H' b := fun {σ' H' s'} I' hn b hb =>
    ⟨hn b hb, (I'.ok.exf b hb).1, I'.ok.exfs b hb, .inl hb, fun x c z => (I'.ok.exf b hb).2 x c z,
      fun p hp => absurd (show p ∈ ([] : List (Addr × Obj)) ++ [] from hp) (by simp)⟩
  have run : codeAny (model X.prog X.w) X.A (.compLoop (dbl e a p b q sc pos) 0 (.ref it) (.ref D) ce)
      (compPost (model X.prog X.w) X.A X.xe none (EP X pins σ Q) (.ref D) t3.heap.objs.size) t4 := by
    refine loop_a (hq ce) (fun n s' => ∃ i H', Inv (X.blk t3 H3 sc ce fp) [] (wipe σ (own.map (·.2))) H' s' ∧ tn i s'.heap ∧
      (∀ b ∈ fp, H' b = none) ∧ W i n H') ?_ m0 ⟨0, H3, I4, st4, nfp, w0⟩
    rintro n s5 ⟨i, H5, I5, st5, n5, w5⟩
    rcases turn i n H5 w5 with ⟨stop, over⟩ | ⟨go, Nx, hNx, step⟩
    · refine thnF (T.done (X.blk t3 H3 sc ce fp) rfl rfl rfl hc i [] s5 _ H5 (fun _ _ => False) I5 (stat I5 n5) st5 stop) fun r s6 ⟨hr, I6⟩ => ?_
      subst hr
      have I7 : Inv X pins σ H5 s6 := I3.call' (ch := fp) I6.os I6.base I6.hok I6.bare fun b hb =>
        ⟨(f3 b hb).1.2.2.2.1, (f3 b hb).1.2.1, (f3 b hb).1.2.2.2.2.1, (f3 b hb).1.2.2.2.2.2⟩
      have nC : H5 t3.heap.objs.size = none := by
        have z : H5 ce.locals = none := I6.free
        rwa [cL] at z
      obtain ⟨m, hn, _⟩ := I6.loc
      have hn : s6.heap.Ns ce.locals m := hn
      rw [cL] at hn
      refine ⟨m, hn, fun h'' sb => ?_⟩
      obtain ⟨k0, k1, k2, k3, k4, k5⟩ := I3.fpOk (Nat.le_refl _) nC
      exact ⟨.ref D, H5, I7.turned (t' := s6.toks) (fun b o hb z => (sb.2 b hb).trans z) k0 k1 k3 k4 k5, rfl, over⟩
    · refine thnF (T.item (X.blk t3 H3 sc ce fp) rfl rfl rfl hc i [] s5 _ H5 (fun _ _ => False) I5 (stat I5 n5) st5 go) fun r s6 ⟨u, hr, h6⟩ => ?_
      subst hr
      refine thnF h6 fun _ s7 ⟨x, H7, I7, r7, y7, st7, n7⟩ => ?_
      have P7 := I7.pinned (stat I7 n7) (T.obj _ _ st7)
      refine thnF (pg.run _ s7 _ H7 x u _ P7 r7 (step x H7 y7)) fun _ s8 ⟨σ8, H8, I8, hw8, q8⟩ => ?_
      -- the turn's end
      have close : ∀ {σ9 : L2.St} {s' : Shared} {H' : Hp}, Inv (X.blk t3 H3 sc ce fp) ([] ++ pinsAt fp s7.heap) σ9 H' s' → (wipe σ (own.map (·.2))).length = σ9.length →
          (∀ (j : Nat) v, (wipe σ (own.map (·.2)))[j]? = some (some v) → σ9[j]? = some (some v)) → Nx H' →
          ∃ m, m < n ∧ ∃ i H', Inv (X.blk t3 H3 sc ce fp) [] (wipe σ (own.map (·.2))) H' s' ∧ tn i s'.heap ∧ (∀ b ∈ fp, H' b = none) ∧ W i m H' := fun {σ9 s' H'} I' hl hk nx => by
        obtain ⟨m', hm, w'⟩ := hNx H' nx
        have same : ∀ b ∈ fp, ∀ o, s7.heap.get? b = some o → s'.heap.get? b = some o ∧ H' b = none := fun b hb o z =>
          have y := I'.pin (b, o) (List.mem_append_right _ (List.mem_append_right _ (mem_pinsAt hb z)))
          ⟨y.1, y.2.1⟩
        refine ⟨m', hm, i + 1, H', (I'.unpinned (pins := [])).weak hl hk, T.keep _ _ _ st7 fun b hb o z => (same b hb o z).1, fun b hb => ?_, w'⟩
        obtain ⟨o, z, _⟩ := T.obj _ _ st7 b hb
        exact (same b hb o z).2
      have hl8 : (wipe σ (own.map (·.2))).length = σ8.length := by rw [← hw8, wipe_length]
      have hk8 : ∀ (j : Nat) v, (wipe σ (own.map (·.2)))[j]? = some (some v) → (wipe σ8 vs1)[j]? = some (some v) := fun j v z => by
        rw [← hw8] at z
        obtain ⟨z1, z2⟩ := wipe_some z
        rw [wipe_out fun y => z2 (hv j y)]
        exact z1
      refine thnF (pj.run _ s8 σ8 H8 _ I8 q8) fun yv s9 hy => thnF hy fun jv s10 h10 => ?_
      obtain ⟨jt, fq, tq, J1, H10, rfl, I10, T1, st10, f10, W1, ⟨m1, w1⟩, turn1⟩ := h10
      have stat1 : ∀ {H' : Hp}, (∀ b ∈ fq, H' b = none) → ∀ b ∈ fq, FpOk (X.blk t3 H3 sc ce fp) ([] ++ pinsAt fp s7.heap) H' b := fun hn b hb => ⟨hn b hb, (f10 b hb).2⟩
      have inner : codeAny (model X.prog X.w) X.A (.compLoop (dbl e a p b q sc pos) 1 (.ref jt) (.ref D) ce)
          (fun r s' => match r with
            | .ok _ => ∃ m, m < n ∧ ∃ i H', Inv (X.blk t3 H3 sc ce fp) [] (wipe σ (own.map (·.2))) H' s' ∧ tn i s'.heap ∧ (∀ b ∈ fp, H' b = none) ∧ W i m H'
            | .error _ => False) s10 := by
        refine loop_b (fun k s' => ∃ j H', Inv (X.blk t3 H3 sc ce fp) ([] ++ pinsAt fp s7.heap) (wipe σ8 vs1) H' s' ∧ tq j s'.heap ∧ (∀ b ∈ fq, H' b = none) ∧ W1 j k H')
          ?_ m1 ⟨0, H10, I10.weak (wipe_length _ _) (fun j v z => (wipe_some z).1), st10, fun b hb => (f10 b hb).1, w1⟩
        rintro k s12 ⟨j, H12, I12, st12, n12, w12⟩
        rcases turn1 j k H12 w12 with ⟨stop1, nx1⟩ | ⟨go1, N1, hN1, step1⟩
        · refine thnF (T1.done (X.blk t3 H3 sc ce fp) rfl rfl rfl hc j _ s12 (wipe σ8 vs1) H12 (fun _ _ => False) I12 (stat1 n12) st12 stop1) fun r s13 ⟨hr, I13⟩ => ?_
          subst hr
          exact close I13 (hl8.trans (wipe_length σ8 vs1).symm) hk8 nx1
        · refine thnF (T1.item (X.blk t3 H3 sc ce fp) rfl rfl rfl hc j _ s12 (wipe σ8 vs1) H12 (fun _ _ => False) I12 (stat1 n12) st12 go1) fun r s13 ⟨u1, hr, h13⟩ => ?_
          subst hr
          refine thnF h13 fun _ s14 ⟨x1, H14, I14, r14, y14, st14, n14⟩ => ?_
          have P14 := I14.pinned (stat1 n14) (T1.obj _ _ st14)
          refine thnF (pg1.run _ s14 (wipe σ8 vs1) H14 x1 u1 _ P14 r14 (step1 x1 H14 y14)) fun _ s15 ⟨σ15, H15, I15, hw15, q15⟩ => ?_
          refine thnF (pe.run _ s15 σ15 H15 _ I15 q15) fun z s16 ⟨yv, H16, I16, r16, k16, S, c16, ey, hD16, room, nx⟩ => ?_
          subst ey
          obtain ⟨tk, rfl⟩ := r16
          refine add_ok (X := X.blk t3 H3 sc ce fp) I16 hD16 room fun s17 I17 => ?_
          obtain ⟨m', hm, w'⟩ := hN1 _ nx
          have same : ∀ b ∈ fq, ∀ o, s14.heap.get? b = some o → s17.heap.get? b = some o ∧ (upd H16 D (SetO X.w D (more S k16) (if S k16 = true then c16 else c16 + 1))) b = none := fun b hb o z =>
            have y := I17.pin (b, o) (List.mem_append_right _ (List.mem_append_right _ (mem_pinsAt hb z)))
            ⟨y.1, y.2.1⟩
          refine ⟨m', hm, j + 1, _, I17.unpinned.weak (by rw [← hw15, wipe_length]) (fun j v z => by rw [← hw15] at z; exact (wipe_some z).1),
            T1.keep _ _ _ st14 fun b hb o z => (same b hb o z).1, fun b hb => ?_, w'⟩
          obtain ⟨o, z, _⟩ := T1.obj _ _ st14 b hb
          exact (same b hb o z).2
      exact start_b inner (T1.self X.A 0 _ _ _ st10 inner)
  exact codeAny_compStart_set run (T.self X.A 0 _ _ _ st4 run)
end
end FWS
/-! ### sorted of a set, any number of members -/
namespace FWS
open PySem PySem.Spec PyProof.Rows L2
section
variable {P : Program} {w : World} {A : Around} {E : Value → Shared → Prop} {s : Shared} {a : Addr}
theorem all_ints {l : List Value} (h : ∀ v ∈ l, ∃ k tk, v = Value.int k tk) : IntsAre l (l.map SrtO.iv) := SrtO.ints_iv h
theorem sorted_big {S : Int → Bool} {n : Nat} {Q : Value → Shared → Prop} (R : SetR w s.heap a S n) (hh : A.handled = none)
    (hQ : ∀ t p (out : Array Value) (c : Nat) (ns : List Int), (∀ b o, s.heap.get? b = some o → t.heap.get? b = some o) → t.gens = s.gens → t.os = s.os → s.heap.objs.size ≤ p →
      t.heap.get? p = some (seqObj "list" out c) → IntsAre out.toList ns → ns.Pairwise (· < ·) → (∀ k, k ∈ ns ↔ S k = true) → ns.length = n → Q (.ref p) t) :
    wpAny (model P w) A (call (.builtin "sorted") [.ref a]) Q E s := by
  obtain ⟨o, es, ep, tb, ho, hex, hd, good, nd, mem, hb, hf, hn, hr, hl⟩ := R
  refine Calls.call_function_entry kind_sorted plain_sorted entry_sorted (args_sorted1 _) ?_
  unfold Builtin.«sorted»
  refine wpAny_bind (m := checkCount "sorted" 1 1 _) (wpAny_pure ?_)
  refine wpAny_bind (collect_set (A := A.in1) hh ⟨o, ho, hex.1, hd⟩ hf hb hr hl fun t1 vs k1 hz g1 o1 pm => ?_)
  have len : vs.length = n := by rw [pm.length_eq, List.length_map, Array.length_toList]; exact hn
  have small : vs.length ≤ sizeLine := by
    rw [len, ← hn]
    exact fits_of_scanBound hb
  have isI : IntsAre vs (vs.map SrtO.iv) := all_ints fun v hv => by
    obtain ⟨x, hx, q⟩ := List.mem_map.mp (pm.mem_iff.mp hv)
    obtain ⟨k, tk, h1, _⟩ := good x hx
    exact ⟨k, tk, by rw [← q]; exact h1⟩
  have perm : (vs.map SrtO.iv).Perm (es.toList.map keyOf) := by
    have q := pm.map SrtO.iv
    rw [List.map_map] at q
    exact q
  refine wpAny_bind (wpAny_newList ?_ small)
  have hoL : (t1.heap.push (seqObj "list" vs.toArray 0)).get? t1.heap.objs.size = some (seqObj "list" vs.toArray 0) := Heap.get?_push_size _ rfl
  refine wpAny_bind (wpAny_holding (wpAny_call_entry slot_list_sort ⟨_, hoL, rfl⟩ entry_list_sort
    (SrtO.list_sort_ord SrtO.swo_int hoL small (fun h2 => SrtO.ints_sortable isI h2) fun out hs hb => ⟨_, rfl, ?_⟩) (args_list_sort _)))
  obtain ⟨j1, j2, j3⟩ := SrtO.ints_out isI hs hb
  obtain ⟨c, hc⟩ := sortedHeap_at (vs := vs) (out := out.toArray) hoL
  have pn : (out.map SrtO.iv).Perm (es.toList.map keyOf) := j2.trans perm
  refine wpAny_pure ⟨_, rfl, hQ _ t1.heap.objs.size out.toArray c (out.map SrtO.iv) (fun b u z => ?_) g1 o1 hz hc j1 (lt_of_le_nodup _ j3 (pn.nodup_iff.mpr nd)) (fun k => by rw [pn.mem_iff, ← mem k]) ?_⟩
  · have q := k1 b u z
    have lt := Heap.lt_size q
    show (sortedHeap (t1.heap.push (seqObj "list" vs.toArray 0)) t1.heap.objs.size vs out.toArray).get? b = some u
    rw [sortedHeap_old (Nat.ne_of_lt lt) (by rw [size_push']; exact Nat.lt_succ_of_lt lt)]
    exact Heap.get?_push_of_some _ q
  · rw [pn.length_eq, List.length_map, Array.length_toList]; exact hn
end
section
variable {X : Cx}
/-- sorted(set) -/
def rSrtS (w : World) : List V → Hp → VK → Prop := fun vs H Q => ∃ (a : Addr) (S : Int → Bool) (n : Nat), vs = [V.ref a] ∧ H a = some (SetO w a S n) ∧
  ∀ (ns : List Int) (p : Addr), ns.Pairwise (· < ·) → (∀ k : Int, k ∈ ns ↔ S k = true) → ns.length = n → H p = none → Q (.ref p) (upd H p (.lst (ns.map V.int)))
theorem cr_srtS (hc : X.calm = true) : CallR X (.builtin "sorted") (rSrtS X.w) := by
  intro pins s σ H vs us Q I r h
  obtain ⟨a, S, n, rfl, ha, q⟩ := h
  have R := setO_get I ha
  rw [Vals.ref1 r]
  refine sorted_big R (I.ok.hd hc) fun t p out c ns k g o hp hg hi hs hm hl => ?_
  have room : (ns.map V.int).length ≤ sizeLine := by
    obtain ⟨_, es, _, _, _, _, _, _, _, _, hb, _, hn, _⟩ := R
    rw [List.length_map, hl, ← hn]
    exact fits_of_scanBound hb
  have fresh : H p = none := I.hok.fresh hp
  have J : Inv X pins σ (upd H p (.lst (ns.map V.int))) { s with heap := t.heap, gens := t.gens, drawn := t.drawn, toks := t.toks } :=
    I.call (ch := []) (Un.laid k hp fresh) (I.hok.laid k hp ⟨room, out.toList, c, vals_of_ints hi, hg⟩) (by rw [g]; exact I.bare) (fun _ z => nomatch z)
  have same : t = { s with heap := t.heap, gens := t.gens, drawn := t.drawn, toks := t.toks } := by
    cases t
    cases s
    cases o
    rfl
  rw [same]
  exact ⟨.ref p, _, J, rfl, q ns p hs hm hl fresh⟩
end
end FWS
/-! ### set(l), l a list of numbers -/
namespace FWS
open PySem PySem.Spec PyProof.Rows L2
/-- a set at its start -/
abbrev ob0 (w : World) : Obj := { cls := .type "set", dict := none, data := .set #[] 0 (.fresh 0 0 (!w.params.followText "set-order")) }
section
variable {P : Program} {w : World} {A : Around} {E : Value → Shared → Prop} {s : Shared}
theorem set_of_list {l : Addr} {its : Array Value} (ns : List Int) {Q : Value → Shared → Prop} (hh : A.handled = none) (hl : s.heap.IsList l its)
    (hit : IntsAre its.toList ns) (room : ns.length + 1 < scanBound)
    (k : ∀ (h' : Heap) (tk c : Nat), SetR w h' s.heap.objs.size (fun j => decide (j ∈ ns)) c → c ≤ ns.length →
      (∀ b o, s.heap.get? b = some o → h'.get? b = some o) → Q (.ref s.heap.objs.size) { s with heap := h', toks := tk }) :
    wpAny (model P w) A (call (.type "set") [.ref l]) Q E s := by
  have hsz : its.size = ns.length := by
    have q := IntsAre.length hit
    rwa [Array.length_toList] at q
  obtain ⟨c, tl, hmro⟩ := F.called_set.mro
  have g1 := F.called_set.made
  have g2 := F.called_set.sub
  refine wpAny_call (codeAny_of_tree ?_)
  show wpAny _ _ (callAny (.type "set") _) _ _ _
  refine wpAny_pure ⟨Code.quiet_builtin _ (by decide +kernel), ?_⟩
  refine codeAny_builtin F.entry_type_call ?_
  rw [Around.under_plain (weight_type_call_type "set" [.ref l] []) rfl]
  have g3 := F.called_set.notType
  have g4 := F.called_set.canCreate
  have g5 := F.typeCall_set_1 (.ref l)
  repeat (any_goals (first | assumption | wp_step))
  refine codeAny_mono (code_set_led1 (.ref l) (E := E)
    (Q₁ := fun y t => y = .ref s.heap.objs.size ∧ t = { s with heap := s.heap.push (ob0 w) }) ⟨rfl, rfl⟩) fun r t hr => ?_
  cases r with
  | error x => exact hr
  | ok fl =>
    cases fl with
    | ret y =>
      obtain ⟨rfl, rfl⟩ := hr
      have hS : (s.heap.push (ob0 w)).get? s.heap.objs.size = some (ob0 w) := Heap.get?_push_size _ rfl
      have hT : Shared.TypeIs { s with heap := s.heap.push (ob0 w) } (.ref s.heap.objs.size) "set" := ⟨_, hS, rfl⟩
      have g6 := F.called_set.init.lookup
      have g7 := F.called_set.init.bind (.ref s.heap.objs.size)
      repeat (any_goals (first | assumption | wp_step))
      refine codeAny_mono (codeAny_call_builtin (R := wants (fun y t => y = .none ∧ ∃ h' tk c, t = { s with heap := h', toks := tk } ∧
          SetR w h' s.heap.objs.size (fun j => decide (j ∈ ns)) c ∧ c ≤ ns.length ∧ ∀ b o, s.heap.get? b = some o → h'.get? b = some o) E)
        F.called_set.init.plain F.entry_set_init (check_set_init_1 hT ?_)) fun r2 t2 hr2 => ?_
      · obtain ⟨⟨ocls, odict, odata, oslots⟩, hol, hcl, nl, hdl⟩ := hl
        simp only at hcl hdl
        subst hcl
        subst hdl
        have hol' := Heap.get?_push_of_some (ob0 w) hol
        have j1 := F.sub_list_set
        have j2 := F.sub_list_frozenset
        have j3 : (Value.type "list" == Value.type "dict") = false := by decide
        have hl1 : (s.heap.push (ob0 w)).IsList l its := ⟨_, hol', rfl, nl, rfl⟩
        unfold Builtin.«set.__init__» noKeywords Builtin.Frozenset.updateFrom
        generalize hI : pyIter = walk
        wp_walk
        subst hI
        refine wpAny_pyIter_list hl1 ?_
        refine wpAny_bind (wpAny_runValue ?_)
        have below : l < s.heap.objs.size := Heap.lt_size hol
        have hh3 : A.in1.in1.in1.handled = none := by simp [hh]
        have one : (s.heap.push (ob0 w)).objs.size = s.heap.objs.size + 1 := Heap.size_push ..
        have ne : l ≠ (s.heap.push (ob0 w)).objs.size := by rw [one]; exact Nat.ne_of_lt (Nat.lt_succ_of_lt below)
        have off : s.heap.objs.size ∉ [(s.heap.push (ob0 w)).objs.size, l] := by
          rw [one]
          intro z
          rcases List.mem_cons.mp z with z | z
          · exact Nat.ne_of_lt (Nat.lt_succ_self _) z
          · exact Nat.ne_of_gt below (List.mem_singleton.mp z)
        have vals : ∀ (i : Nat) (v : Value), its[i]? = some v → ∃ k t, ns[i]? = some k ∧ v = .int k t := fun i v hv => by
          have hi : i < ns.length := by rw [← hsz]; exact (Array.getElem?_eq_some_iff.mp hv).1
          obtain ⟨t, z⟩ := PyProof.Rows.IntsAre.int_at hit i v (by rw [Array.getElem?_toList]; exact hv)
          refine ⟨ns[i], t, List.getElem?_eq_getElem hi, ?_⟩
          rw [z, List.getD_eq_getElem?_getD, List.getElem?_eq_getElem hi]
          rfl
        refine set_update_ints ((Walks.list hh3 _ l ne its).toS) s.heap.objs.size off ns hsz room vals (its.size - 0) 0 _
          (by omega) (Nat.zero_le _) ⟨⟨_, Heap.get?_push_size _ rfl, rfl, rfl⟩, (hl1.push _)⟩ ?first ?last
        case first => exact ⟨0, Nat.le_refl 0, setR_new_at (Heap.get?_push_of_some _ hS)⟩
        case last =>
          intro t c' hm hc' hS'
          obtain ⟨h', gg, dd, tk', oo⟩ := t
          have e1 : gg = s.gens := hm.gens
          have e2 : dd = s.drawn := hm.drawn
          have e3 : oo = s.os := hm.os
          subst e1 e2 e3
          show wpAny _ _ _ _ _ _
          refine wpAny_pure ?_
          show wpAny _ _ (ret Value.none) _ _ _
          rw [hsz] at hc'
          refine wpAny_pure ⟨rfl, h', tk', c', rfl, hS', hc', fun b o z => ?_⟩
          have b0 : b < s.heap.objs.size := Heap.lt_size z
          refine hm.heap b o ?_ (Heap.get?_push_of_some _ (Heap.get?_push_of_some _ z))
          rw [one]
          intro y
          rcases List.mem_cons.mp y with y | y
          · exact Nat.ne_of_lt b0 y
          · exact Nat.ne_of_lt (Nat.lt_succ_of_lt b0) (List.mem_singleton.mp y)
      · cases r2 with
        | error x => exact hr2
        | ok f2 =>
          cases f2 with
          | ret y =>
            obtain ⟨rfl, h', tk, c, rfl, hS', hc', hk'⟩ := hr2
            repeat (any_goals (first | assumption | wp_step))
            exact k _ _ _ hS' hc' hk'
          | _ => exact hr2.elim
    | _ => exact hr.elim
end
section
variable {X : Cx}
/-- set(l) -/
def rSetI (K : PySem.W.Frag) (w : World) : List V → Hp → VK → Prop := fun vs H Q => ∃ (l : Addr) (ns : List Int), vs = [V.ref l] ∧ SqL K H l (ns.map V.int) ∧ ns.length + 1 < scanBound ∧
  ∀ a c, H a = none → c ≤ ns.length → Q (.ref a) (upd H a (SetO w a (fun j => decide (j ∈ ns)) c))
theorem cr_setI (hc : X.calm = true) : CallR X (.type "set") (rSetI X.K X.w) := by
  intro pins s σ H vs us Q I r h
  obtain ⟨l, ns, rfl, hq, room, q⟩ := h
  rw [Vals.ref1 r]
  obtain ⟨its, rv, pl, hz⟩ := I.list hq
  refine set_of_list ns (I.ok.hd hc) pl.isList (by simpa using rv.ints) room fun h' tk c R hcn kp => ?_
  exact ⟨.ref _, _, I.laid (t' := tk) kp (Nat.le_refl _) (setO_new R), rfl, q _ c (I.hok.fresh (Nat.le_refl _)) hcn⟩
end
end FWS
/-! ### sorted of pairs of numbers -/
namespace FWS
open PySem PySem.Spec PyProof.Rows L2
def intOf : Value → Int
  | .int i _ => i
  | _ => 0
def pairOf (o : Obj) : Int × Int := match o.data with
  | .seq its _ => (intOf (its.getD 0 .none), intOf (its.getD 1 .none))
  | _ => (0, 0)
/-- the pair that stands at a value -/
def pairAt (h : Heap) (v : Value) : Int × Int := match v with
  | .ref a => ((h.get? a).map pairOf).getD (0, 0)
  | _ => (0, 0)
theorem pairAt_is {h : Heap} {v : Value} {x y : Int} (p : Srt.IsPair h v x y) : pairAt h v = (x, y) := by
  obtain ⟨a, o, t, u, n, rfl, ho, _, hd⟩ := p
  show ((h.get? a).map pairOf).getD (0, 0) = (x, y)
  rw [ho]
  show pairOf o = (x, y)
  unfold pairOf
  rw [hd]
  rfl
theorem refs_are : ∀ {ts : List (Addr × Int × Int)} {us : List Value}, Vals (ts.map fun t => V.ref t.1) us → us = ts.map fun t => Value.ref t.1
  | [], _, .nil => rfl
  | _ :: _, _, .cons r q => by
    cases r
    rw [refs_are q]
    rfl
theorem refs_vals : ∀ ts : List (Addr × Int × Int), Vals (ts.map fun t => V.ref t.1) (ts.map fun t => Value.ref t.1)
  | [] => .nil
  | t :: ts => .cons rfl (refs_vals ts)
/-- p stands not behind q -/
abbrev leP (p q : Int × Int) : Prop := SrtO.lexB q p = false
def rSrtP (K : PySem.W.Frag) : List V → Hp → VK → Prop := fun vs H Q => ∃ (a : Addr) (ts : List (Addr × Int × Int)), vs = [V.ref a] ∧ SqL K H a (ts.map fun t => V.ref t.1) ∧
  (∀ t ∈ ts, SqT K H t.1 [.int t.2.1, .int t.2.2]) ∧ ∀ (us : List (Addr × Int × Int)) p, us.Perm ts → (us.map (·.2)).Pairwise leP → H p = none → Q (.ref p) (upd H p (.lst (us.map fun t => V.ref t.1)))
section
variable {X : Cx}
theorem cr_srtP : CallR X (.builtin "sorted") (rSrtP X.K) := by
  intro pins s σ H vs us Q I r h
  obtain ⟨a, ts, rfl, hs, ht, q⟩ := h
  obtain ⟨its, rv, hl, hz⟩ := I.list hs
  rw [Vals.ref1 r]
  have e := refs_are rv
  subst e
  have isp : ∀ t ∈ ts, Srt.IsPair s.heap (.ref t.1) t.2.1 t.2.2 := fun t hm => by
    obtain ⟨js, rj, ⟨o, ho, hc, n, hd⟩, _⟩ := I.tuple (ht t hm)
    obtain ⟨u1, u2, rfl, r1, r2⟩ := vals2 rj
    obtain ⟨k1, rfl⟩ := r1
    obtain ⟨k2, rfl⟩ := r2
    exact ⟨t.1, o, k1, k2, n, rfl, ho, hc, hd⟩
  refine SrtO.sorted_pairsO (k := pairAt s.heap) hl.isList (by rw [← rv.length]; exact hz) (fun v hv => ?_) fun h' d out h1 h2 kp hd hn => ?_
  · obtain ⟨t, hm, rfl⟩ := List.mem_map.mp hv
    have := isp t hm
    rw [pairAt_is this]
    exact this
  · let f : Value → Addr × Int × Int := fun v => ((match v with | .ref b => b | _ => 0), pairAt s.heap v)
    have back : ∀ t ∈ ts, f (.ref t.1) = t := fun t hm => by
      show (t.1, pairAt s.heap (.ref t.1)) = t
      rw [pairAt_is (isp t hm)]
    have there : ∀ v ∈ out, ∃ t ∈ ts, v = .ref t.1 := fun v hv => by
      obtain ⟨t, hm, z⟩ := List.mem_map.mp (h2.perm.mem_iff.mp hv)
      exact ⟨t, hm, z.symm⟩
    have p1 : (out.map f).Perm ts := by
      have y := h2.perm.map f
      rw [List.map_map] at y
      have z : ts.map (f ∘ fun t => Value.ref t.1) = ts := by
        conv => rhs; rw [← List.map_id ts]
        exact List.map_congr_left fun t hm => back t hm
      rwa [z] at y
    have p2 : (out.map f).map (fun t => Value.ref t.1) = out := by
      rw [List.map_map]
      conv => rhs; rw [← List.map_id out]
      refine List.map_congr_left fun v hv => ?_
      obtain ⟨t, _, rfl⟩ := there v hv
      rfl
    have p3 : ((out.map f).map (·.2)).Pairwise leP := by
      rw [List.map_map]
      exact List.pairwise_map.mpr (h1.imp fun {x y} z => z)
    obtain ⟨n, hn⟩ := hn
    have vv := refs_vals (out.map f)
    rw [p2] at vv
    have small : ((out.map f).map fun t => V.ref t.1).length ≤ sizeLine := by
      rw [List.length_map, p1.length_eq]
      rw [List.length_map] at hz
      exact hz
    exact ⟨.ref d, upd H d (.lst ((out.map f).map fun t => V.ref t.1)), I.laid (t' := s.toks) kp hd ⟨small, out, n, vv, hn⟩, rfl, q _ d p1 p3 (I.hok.fresh hd)⟩
end
end FWS
/-! ### over data: sorted({e for a in p for b in q}), all of them numbers -/
namespace FW
open PySem PySem.Spec PyProof.Rows L2 FWS
def scIn (g : D → (Sg → Prop) → Prop) (we : W) (K : List Int → Prop) : List D → List Int → Prop
  | [], acc => K acc
  | d :: ds, acc => g d fun e => we e fun y => ∃ k : Int, y = .int k ∧ scIn g we K ds (acc ++ [k])
def scOut (g : D → (Sg → Prop) → Prop) (inn : Sg → List Int → (List Int → Prop) → Prop) (R : List Int → Prop) : List D → List Int → Prop
  | [], acc => R acc
  | d :: ds, acc => g d fun e => inn e acc fun acc' => scOut g inn R ds acc'
def scTurn (wi1 : WA) (wg1 : WG) (we : W) (vs1 : List Nat) : Sg → List Int → (List Int → Prop) → Prop := fun e acc K =>
  wi1 e fun ds => ds.length ≤ 50 ∧ scIn (fun d k => wg1 d (wipeS e vs1) k) we K ds acc
@[simp] def nSrtSet (wi : WA) (wg : WG) (wi1 : WA) (wg1 : WG) (we : W) (vs vs1 : List Nat) : WA := fun e R =>
  wi e fun ds => ds.length ≤ 50 ∧ scOut (fun d k => wg d (wipeS e vs) k) (scTurn wi1 wg1 we vs1)
    (fun acc => ∀ ns : List Int, ns.Pairwise (· < ·) → (∀ k, k ∈ ns ↔ k ∈ acc) → R (ns.map .int)) ds []
section
variable {c : Amb} {H F H' F' H1 F1 H2 F2 H0 : Hp} {σ : L2.St} {e : Sg} {D0 : Addr}
/-- as Ext, but the object at D0 may change -/
structure ExtD (D0 : Addr) (c : Amb) (H F H' F' : Hp) : Prop where
  grow : Same F F'
  keep : ∀ b o, H b = some o → b ≠ c.r → b ∉ c.Ps → b ≠ D0 → H' b = some o
  new : ∀ b, F b = none → F' b ≠ none → H b = none
theorem ExtD.then (a : ExtD D0 c H F H1 F1) (W1 : H1 D0 ≠ none) (x : Ext c H1 F1 H2 F2) (back : ∀ b, H1 b = none → H b = none) : ExtD D0 c H F H2 F2 where
  grow := a.grow.trans x.grow
  keep := fun b o h hr hp hd => x.keep b o (a.keep b o h hr hp hd) hr hp
  new := fun b h h' => by
    by_cases q : F1 b = none
    · exact back b (x.new b q h')
    · exact a.new b h q
theorem RepS.extD (S : RepS c H0 σ H F e) (W : Wok c H F) (nl : ∀ vs, H D0 ≠ some (.lst vs)) (x : ExtD D0 c H F H' F') : RepS c H0 σ H' F' e where
  exc := exc_grow S.exc x.grow
  fix := fix_grow S.fix x.grow
  len := S.len
  val := fun i d h => by
    obtain ⟨v, h1, h2⟩ := S.val i d h
    exact ⟨v, h1, h2.grow x.grow⟩
  ownO := fun i o ds h => by
    obtain ⟨a, vs, h1, h2, h3, h4, h5, h6⟩ := S.ownO i o ds h
    refine ⟨a, vs, h1, x.keep a _ h2 h5 (W.noP h2) (fun z => nl vs (by rw [← z]; exact h2)), ?_, h4, h5, dpAll_same (cutO_grow o x.grow) _ _ h6⟩
    cases q : F' a with
    | none => rfl
    | some u =>
      have := x.new a h3 (by rw [q]; simp)
      rw [h2] at this; cases this
  distO := S.distO
theorem set_noP {φ : Heap → Prop} (W : Wok c H F) {a : Addr} (h : H a = some (.ext φ)) : a ∉ c.Ps := fun hp => by
  obtain ⟨⟨ps, q, _⟩, _⟩ := W.tab a hp
  rw [h] at q; cases q
theorem set_still {φ : Heap → Prop} (W : Wok c H F) (x : Ext c H F H' F') (h : H D0 = some (.ext φ)) (hF : F D0 = none) (nr : D0 ≠ c.r) : H' D0 = some (.ext φ) ∧ F' D0 = none := by
  refine ⟨x.keep D0 _ h nr (set_noP W h), ?_⟩
  cases q : F' D0 with
  | none => rfl
  | some u =>
    have := x.new D0 hF (by rw [q]; simp)
    rw [h] at this; cases this
/-- a set that is new is changed -/
theorem Ext.mutS (x : Ext c H F H' F') {φ ψ : Heap → Prop} (h0 : H D0 = none) (h2 : H' D0 = some (.ext φ)) (n2 : F' D0 = none) (nr : D0 ≠ c.r) : Ext c H F (upd H' D0 (.ext ψ)) F' := by
  have np : D0 ∉ c.Ps := set_noP x.ok h2
  refine ⟨⟨fun b o eb => ?_, ?_, x.ok.rF, fun P hP => ⟨?_, (x.ok.tab P hP).2⟩⟩, x.grow, fun b o eb hr hp => ?_, x.new, x.pre⟩
  · rw [upd_ne (fun z => by rw [z, n2] at eb; cases eb)]; exact x.ok.sub b o eb
  · obtain ⟨i, y, n, h1, h3, h4, h5, h6⟩ := x.ok.row
    refine ⟨i, y, n, by rw [upd_ne (fun z => nr z.symm)]; exact h1, h3, h4, h5, ?_⟩
    rcases h6 with (h6 | ⟨o, h6⟩) | h6
    · exact .inl (.inl (by rw [upd_ne (fun z => by rw [z, h2] at h6; cases h6)]; exact h6))
    · exact .inl (.inr ⟨o, by rw [upd_ne (fun z => by rw [z, h2] at h6; cases h6)]; exact h6⟩)
    · exact .inr h6
  · exact TabL.upd (x.ok.tab P hP).1 h2 (fun ps z => by cases z) (fun o u z => by cases z)
  · rw [upd_ne (fun z => by rw [z, h0] at eb; cases eb)]
    exact x.keep b o eb hr hp
theorem stores_two {i j : Nat} (h : i ≠ j) : Stores (gName i) [i, j] := fun v σ H Q z => by
  refine ⟨?_, z⟩
  show ((((σ.set j none).set i none).set i (some v)).set j none).set i none = (σ.set j none).set i none
  rw [List.set_set, List.set_comm _ _ h, List.set_set, List.set_set]
theorem xn_srt {w : World} {wi wi1 : WA} {wg wg1 : WG} {we : W} {g g1 : TG} {vs vs1 : List Nat} (hg : gD c wg g) (hs : Stores g vs) (hg1 : gD c wg1 g1) (hs1 : Stores g1 vs1) :
    ∀ σ H Q, tN c (nSrtSet wi wg wi1 wg1 we vs vs1) σ H Q → tCB (rSrtS w) (tCons (tSc w (tI c wi) g (tI c wi1) g1 (tD c we) vs vs1) tNil) σ H Q := fun σ H Q ⟨e, F, H0, R, W, S, q, P⟩ =>
  ⟨e, F, H0, _, W, S, q, fun ds J H1 F1 ⟨hlen, i0⟩ x1 Y => fun D hD => by
    have n0 : F1 D = none := x1.ok.newF hD
    have nr : D ≠ c.r := x1.ok.newR hD
    have h0 : H D = none := x1.free hD
    refine ⟨fun i m H2 => m = ds.length - i ∧ i ≤ ds.length ∧ ∃ F2 acc S2 n, Ext c H F H2 F2 ∧ Same F1 F2 ∧ H2 D = some (SetO w D S2 n) ∧ F2 D = none ∧ (∀ k, S2 k = true ↔ k ∈ acc) ∧ n ≤ 50 * i ∧
        scOut (fun d k => wg d (wipeS e vs) k) (scTurn wi1 wg1 we vs1) (fun acc => ∀ ns : List Int, ns.Pairwise (· < ·) → (∀ k, k ∈ ns ↔ k ∈ acc) → R (ns.map .int)) (ds.drop i) acc,
      ⟨_, rfl, Nat.zero_le _, F1, [], _, 0, x1.trans (Ext.loose x1.ok _ hD), fun _ _ h => h, upd_same, n0, fun k => by simp, Nat.le_refl _, i0⟩, ?_⟩
    rintro i m H2 ⟨rfl, hi, F2, acc, S2, n, x2, s2, hD2, n2, mem, hn, run⟩
    by_cases hlt : i < ds.length
    · refine .inr ⟨Y.go i H2 F2 hlt x2.ok s2, fun H3 => ∃ F3 acc S3 n, Ext c H F H3 F3 ∧ Same F1 F3 ∧ H3 D = some (SetO w D S3 n) ∧ F3 D = none ∧ (∀ k, S3 k = true ↔ k ∈ acc) ∧ n ≤ 50 * (i + 1) ∧
        scOut (fun d k => wg d (wipeS e vs) k) (scTurn wi1 wg1 we vs1) (fun acc => ∀ ns : List Int, ns.Pairwise (· < ·) → (∀ k, k ∈ ns ↔ k ∈ acc) → R (ns.map .int)) (ds.drop (i + 1)) acc,
        fun H3 z => ⟨ds.length - (i + 1), by omega, rfl, hlt, z⟩, fun v H3 y => ?_⟩
      have hd : ds[i]? = some ds[i] := List.getElem?_eq_getElem hlt
      rw [drop_at hlt] at run
      obtain ⟨F3, x3, rv⟩ := Y.yld i _ H2 F2 v H3 hd x2.ok s2 y
      obtain ⟨d3, m3⟩ := set_still x2.ok x3 hD2 n2 nr
      refine hs v σ H3 _ (hg v _ _ H3 F3 H0 _ _ _ x3.ok ((S.wipe vs).ext W (x2.trans x3)) rv run fun σ4 e4 r4 S4 => ?_)
      refine ⟨e4, F3, H0, _, x3.ok, S4, r4, fun ds1 J1 H4 F4 ⟨hl1, run1⟩ x4 Y1 => ?_⟩
      obtain ⟨d4, m4⟩ := set_still x3.ok x4 d3 m3 nr
      have x24 := (x2.trans x3).trans x4
      refine ⟨fun j k H5 => k = ds1.length - j ∧ j ≤ ds1.length ∧ ∃ F5 acc5 S5 n5, Ext c H F H5 F5 ∧ ExtD D c H3 F3 H5 F5 ∧ (∀ b, H5 b = none → H3 b = none) ∧ Same F4 F5 ∧ H5 D = some (SetO w D S5 n5) ∧ F5 D = none ∧ (∀ k, S5 k = true ↔ k ∈ acc5) ∧ n5 ≤ 50 * i + j ∧
          scIn (fun d k => wg1 d (wipeS e4 vs1) k) we (fun acc' => scOut (fun d k => wg d (wipeS e vs) k) (scTurn wi1 wg1 we vs1) (fun acc => ∀ ns : List Int, ns.Pairwise (· < ·) → (∀ k, k ∈ ns ↔ k ∈ acc) → R (ns.map .int)) (ds.drop (i + 1)) acc') (ds1.drop j) acc5,
        ⟨_, rfl, Nat.zero_le _, F4, acc, S2, n, x24, ⟨x4.grow, fun b o h hr hp _ => x4.keep b o h hr hp, x4.new⟩, fun b h => x4.free h, fun _ _ h => h, d4, m4, mem, by omega, run1⟩, ?_⟩
      rintro j k H5 ⟨rfl, hj, F5, acc5, S5, n5, x5, y5, back5, s5, hD5, m5, mem5, hn5, run5⟩
      by_cases hlt1 : j < ds1.length
      · refine .inr ⟨Y1.go j H5 F5 hlt1 x5.ok s5, fun H6 => ∃ F6 acc6 S6 n6, Ext c H F H6 F6 ∧ ExtD D c H3 F3 H6 F6 ∧ (∀ b, H6 b = none → H3 b = none) ∧ Same F4 F6 ∧ H6 D = some (SetO w D S6 n6) ∧ F6 D = none ∧ (∀ k, S6 k = true ↔ k ∈ acc6) ∧ n6 ≤ 50 * i + (j + 1) ∧
            scIn (fun d k => wg1 d (wipeS e4 vs1) k) we (fun acc' => scOut (fun d k => wg d (wipeS e vs) k) (scTurn wi1 wg1 we vs1) (fun acc => ∀ ns : List Int, ns.Pairwise (· < ·) → (∀ k, k ∈ ns ↔ k ∈ acc) → R (ns.map .int)) (ds.drop (i + 1)) acc') (ds1.drop (j + 1)) acc6,
          fun H6 z => ⟨ds1.length - (j + 1), by omega, rfl, hlt1, z⟩, fun v1 H6 z1 => ?_⟩
        have hd1 : ds1[j]? = some ds1[j] := List.getElem?_eq_getElem hlt1
        rw [drop_at hlt1] at run5
        obtain ⟨F6, x6, rv1⟩ := Y1.yld j _ H5 F5 v1 H6 hd1 x5.ok s5 z1
        obtain ⟨d6, m6⟩ := set_still x5.ok x6 hD5 m5 nr
        have y6 : ExtD D c H3 F3 H6 F6 := y5.then (by rw [hD5]; simp) x6 back5
        have back6 : ∀ b, H6 b = none → H3 b = none := fun b h => back5 b (x6.free h)
        refine hs1 v1 σ4 H6 _ (hg1 v1 _ _ H6 F6 H0 _ _ _ x6.ok ((S4.wipe vs1).extD x3.ok (fun vs z => by rw [d3] at z; cases z) y6) rv1 run5 fun σ7 e7 r7 S7 => ?_)
        refine ⟨e7, F6, H0, _, x6.ok, S7, r7, fun y v8 H8 F8 ⟨k8, ey, run8⟩ x8 rv8 => ?_⟩
        subst ey
        obtain ⟨d8, m8⟩ := set_still x6.ok x8 d6 m6 nr
        have y8 : ExtD D c H3 F3 H8 F8 := y6.then (by rw [d6]; simp) x8 back6
        refine ⟨k8, S5, n5, rv8.int_inv, d8, ?_, F8, acc5 ++ [k8], more S5 k8, _, ((x5.trans x6).trans x8).mutS h0 d8 m8 nr, ⟨y8.grow, fun b o h hr hp hd => by rw [upd_ne hd]; exact y8.keep b o h hr hp hd, y8.new⟩, fun b h => ?_, (s5.trans x6.grow).trans x8.grow, upd_same, m8, fun k => ?_, ?_, run8⟩
        · have : scanBound = 4096 := rfl
          omega
        · by_cases z : b = D
          · rw [z, upd_same] at h; cases h
          · rw [upd_ne z] at h; exact back6 b (x8.free h)
        · simp [mem5]
        · split <;> omega
      · have he : j = ds1.length := by omega
        subst he
        rw [List.drop_length] at run5
        exact .inl ⟨Y1.stop H5 F5 x5.ok s5, F5, acc5, S5, n5, x5, (s2.trans x3.grow).trans y5.grow, hD5, m5, mem5, by omega, run5⟩
    · have he : i = ds.length := by omega
      subst he
      rw [List.drop_length] at run
      refine .inl ⟨Y.stop H2 F2 x2.ok s2, D, S2, n, rfl, hD2, fun ns p hsort hmem _ hp => ?_⟩
      exact P (ns.map .int) p (ns.map V.int) (upd H2 p (.lst (ns.map V.int))) F2 (run ns hsort fun k => by rw [hmem, mem]) (x2.trans (Ext.loose x2.ok _ hp)) (x2.free hp) upd_same (x2.ok.newF hp) (x2.ok.newR hp) (rpAll_ints ns)⟩
end
theorem scIn_det {g : D → (Sg → Prop) → Prop} {we : W} {K : List Int → Prop} (h : D → Int) : ∀ (ds : List D) (acc : List Int),
    (∀ d ∈ ds, ∀ K' : Int → Prop, K' (h d) → g d fun e => we e fun y => ∃ k : Int, y = .int k ∧ K' k) → K (acc ++ ds.map h) → scIn g we K ds acc
  | [], acc, _, r => by simpa [scIn] using r
  | d :: ds, acc, t, r => by
    unfold scIn
    exact t d List.mem_cons_self (fun k => scIn g we K ds (acc ++ [k])) (scIn_det h ds _ (fun d' hd => t d' (List.mem_cons_of_mem _ hd)) (by simpa using r))
theorem scOut_det {g : D → (Sg → Prop) → Prop} {inn : Sg → List Int → (List Int → Prop) → Prop} {R : List Int → Prop} (h : D → List Int) : ∀ (ds : List D) (acc : List Int),
    (∀ d ∈ ds, ∀ (acc : List Int) (K : List Int → Prop), K (acc ++ h d) → g d fun e => inn e acc K) → R (acc ++ ds.flatMap h) → scOut g inn R ds acc
  | [], acc, _, r => by simpa [scOut] using r
  | d :: ds, acc, t, r => by
    unfold scOut
    exact t d List.mem_cons_self acc (fun acc' => scOut g inn R ds acc') (scOut_det h ds _ (fun d' hd => t d' (List.mem_cons_of_mem _ hd)) (by simpa using r))
/-- rising lists of the same members are the same -/
theorem rise_uniq : ∀ {l m : List Int}, l.Pairwise (· < ·) → m.Pairwise (· < ·) → (∀ k, k ∈ l ↔ k ∈ m) → l = m
  | [], [], _, _, _ => rfl
  | [], b :: m, _, _, h => by have := (h b).mpr List.mem_cons_self; cases this
  | a :: l, [], _, _, h => by have := (h a).mp List.mem_cons_self; cases this
  | a :: l, b :: m, hl, hm, h => by
    obtain ⟨l1, l2⟩ := List.pairwise_cons.mp hl
    obtain ⟨m1, m2⟩ := List.pairwise_cons.mp hm
    have e : a = b := by
      rcases List.mem_cons.mp ((h a).mp List.mem_cons_self) with z | z
      · exact z
      · rcases List.mem_cons.mp ((h b).mpr List.mem_cons_self) with y | y
        · exact y.symm
        · have := m1 a z
          have := l1 b y
          omega
    subst e
    rw [rise_uniq l2 m2 fun k => ?_]
    constructor
    · intro hk
      rcases List.mem_cons.mp ((h k).mp (List.mem_cons_of_mem _ hk)) with z | z
      · have := l1 k hk
        omega
      · exact z
    · intro hk
      rcases List.mem_cons.mp ((h k).mpr (List.mem_cons_of_mem _ hk)) with z | z
      · have := m1 k hk
        omega
      · exact z
end FW
/-! ### over data: sorted(set(l)), sorted of pairs -/
namespace FW
open PySem PySem.Spec PyProof.Rows L2 FWS
@[simp] def rdSrtSet : List D → (D → Prop) → Prop := fun ds R => ∃ ns : List Int, ds = [.list (ns.map .int)] ∧ ns.length ≤ 4000 ∧
  ∀ ns' : List Int, ns'.Pairwise (· < ·) → (∀ k, k ∈ ns' ↔ k ∈ ns) → R (.list (ns'.map .int))
abbrev prD (p : Int × Int) : D := .tuple [.int p.1, .int p.2]
def rdSrtP : List D → (D → Prop) → Prop := fun ds R => ∃ ps : List (Int × Int), ds = [.list (ps.map prD)] ∧ ∀ qs : List (Int × Int), qs.Perm ps → qs.Pairwise leP → R (.list (qs.map prD))
section
variable {c : Amb} {H F H' F' H1 F1 H2 F2 H0 : Hp} {σ : L2.St} {e : Sg} {D0 : Addr}
theorem xd_srtSet {w0 : World} {w : WA} : ∀ σ H Q, tD c (dCall rdSrtSet w) σ H Q → tCB (rSrtS w0) (tCons (tCB (rSetI c.K w0) (tA c w)) tNil) σ H Q := fun σ H Q ⟨e, F, H0, R, W, S, q, P⟩ =>
  ⟨e, F, H0, _, W, S, q, fun ds vs H1 F1 ⟨ns, hd, hl, r⟩ x1 rv => by
    subst hd
    obtain ⟨v, rfl, q1⟩ := reps1 rv
    obtain ⟨a, ws, rfl, h1, h2⟩ := q1.list_inv
    have z := rpAll_ints_inv h2
    subst z
    have room : scanBound = 4096 := rfl
    refine ⟨a, ns, rfl, SqL.of (x1.ok.sub _ _ h1), by omega, fun p n hp hn => ⟨p, _, n, rfl, upd_same, fun ns' p' hs hm _ hp' => ?_⟩⟩
    have x2 := Ext.loose x1.ok (SetO w0 p (fun j => decide (j ∈ ns)) n) hp
    exact (P.ext (x1.trans x2)).newLst x2.ok (rpAll_ints ns') (r ns' hs fun k => by rw [hm]; simp) p' hp'⟩
theorem rp_pairs {K : PySem.W.Frag} : ∀ {ws : List V} {ps : List (Int × Int)}, RpAll K F ws (ps.map prD) → ∃ ts : List (Addr × Int × Int), ws = ts.map (fun t => V.ref t.1) ∧ ps = ts.map (·.2) ∧ ∀ t ∈ ts, SqT K F t.1 [.int t.2.1, .int t.2.2]
  | [], [], _ => ⟨[], rfl, rfl, fun t h => nomatch h⟩
  | [], _ :: _, h => nomatch h
  | _ :: _, [], h => nomatch h
  | w :: ws, p :: ps, h => by
    cases h with
    | cons h1 h2 =>
      obtain ⟨ts, e1, e2, e3⟩ := rp_pairs h2
      cases h1 with
      | tup g1 g2 =>
        cases g2 with
        | cons k1 k2 => cases k2 with
          | cons k2 k3 =>
            cases k3
            cases k1
            cases k2
            exact ⟨(_, p) :: ts, by rw [e1]; rfl, by rw [e2]; rfl, fun t ht => by
              rcases List.mem_cons.mp ht with z | z
              · rw [z]; exact g1
              · exact e3 t z⟩
theorem pairs_rp {K : PySem.W.Frag} : ∀ (ts : List (Addr × Int × Int)), (∀ t ∈ ts, SqT K F t.1 [.int t.2.1, .int t.2.2]) → RpAll K F (ts.map fun t => V.ref t.1) ((ts.map (·.2)).map prD)
  | [], _ => .nil
  | t :: ts, h => .cons (.tup (h t List.mem_cons_self) (.cons (.int _) (.cons (.int _) .nil))) (pairs_rp ts fun t' ht => h t' (List.mem_cons_of_mem _ ht))
theorem cd_srtP : CallD c (rSrtP c.K) rdSrtP := by
  rintro H F vs ds R Q W rv ⟨ps, rfl, r⟩ P
  obtain ⟨v, rfl, q⟩ := reps1 rv
  obtain ⟨a, ws, rfl, h1, h2⟩ := q.list_inv
  obtain ⟨ts, rfl, rfl, h3⟩ := rp_pairs h2
  refine ⟨a, ts, rfl, SqL.of (W.sub _ _ h1), fun t ht => same_t W.sub (h3 t ht), fun us p hp hs hn => ?_⟩
  exact P.newLst W (pairs_rp us fun t ht => h3 t (hp.mem_iff.mp ht)) (r _ (hp.map _) hs) p hn
end
end FW
/-! ### x = [f(..), g(..)], both new lists of numbers -/
namespace FW
open PySem PySem.Spec PyProof.Rows L2 FWS
section
variable {c : Amb} {E : XK} {H F H' F' H1 F1 H2 F2 H0 : Hp} {σ : L2.St} {e : Sg} {X : Cx}
@[simp] def dAsgL2 (i k : Nat) (f g : Fn) (wf wg : WA) : WS := fun De e => ∃ Fb d0, e[k]? = some (.fix false Fb d0) ∧
  wf e fun ds => f ds fun l1 => ∃ a : List Int, l1 = a.map .int ∧ wg e fun es => g es fun l2 => ∃ b : List Int, l2 = b.map .int ∧ De.nx (e.set i (.fix true Fb (.list [intsL a, intsL b])))
theorem xs_asgL2 {i k : Nat} {f g : Fn} {wf wg : WA} : ∀ Dn σ H, sD c E (dAsgL2 i k f g wf wg) Dn σ H → tAsg (tLst (tCons (tN c (nCall f wf)) (tCons (tN c (nCall g wg)) tNil))) (gName i) Dn σ H := fun Dn σ H ⟨e, F, H0, F0, De, x, S, ⟨Fb, d0, hk, q⟩, K⟩ => by
  have sb := (S.fix k false Fb d0 hk).1
  have nFb : ∀ {b : Addr} {F' : Hp}, Same F F' → F' b = none → Fb b = none := fun {b F'} s z => by
    cases y : Fb b with
    | none => rfl
    | some o => rw [s b o (sb b o y)] at z; cases z
  refine ⟨e, F, H0, _, x.ok, S, q, fun l1 p1 vs1 H1 F1 ⟨a, ea, q1⟩ x1 h1 h2 h3 h4 h5 => ?_⟩
  have X1 := x1.frz h2 h3 h1 h4
  have g1 : Same F (upd F1 p1 (.lst vs1)) := X1.grow
  refine ⟨e, upd F1 p1 (.lst vs1), H0, _, X1.ok, S.ext x.ok X1, q1, fun l2 p2 vs2 H2 F2 ⟨b, eb, q2⟩ x2 k1 k2 k3 k4 k5 => ?_⟩
  have X2 := x2.frz k2 k3 k1 k4
  refine ⟨by show 2 ≤ sizeLine; rw [sizeLine_eq]; decide, fun p hp => ?_⟩
  have X3 := Ext.laid X2.ok (.lst [.ref p1, .ref p2]) hp
  have XT := (X1.trans X2).trans X3
  have hF2 : upd F2 p2 (.lst vs2) p = none := X2.ok.newF hp
  have a1 : upd (upd F2 p2 (.lst vs2)) p (.lst [.ref p1, .ref p2]) p1 = some (.lst vs1) := X3.grow _ _ (X2.grow _ _ upd_same)
  have a2 : upd (upd F2 p2 (.lst vs2)) p (.lst [.ref p1, .ref p2]) p2 = some (.lst vs2) := X3.grow _ _ upd_same
  subst ea eb
  have e1 := rpAll_ints_inv h5
  have e2 := rpAll_ints_inv k5
  subst e1 e2
  have n1 : Fb p1 = none := nFb x1.grow h3
  have n2 : Fb p2 = none := nFb (X1.grow.trans x2.grow) k3
  have n3 : Fb p = none := nFb (X1.grow.trans X2.grow) hF2
  exact K.nx _ _ _ _ q2 (x.trans XT) ((S.ext x.ok XT).set_fixT i (sb.trans XT.grow) (.inl (.lst (cutF_some upd_same fun _ => n3)
    (.cons (.lst (cutF_some a1 fun _ => n1) (rpAll_ints a)) (.cons (.lst (cutF_some a2 fun _ => n2) (rpAll_ints b)) .nil)))))
end
end FW
/-! FWY: for x in permutations(range(n), k). -/
namespace FWY
open PySem PySem.Spec PyProof.Rows L2 PySem.Builtin.Itertools
/-! ### the rows: which they are -/
/-- of these, so many in any order, the first ones first -/
def permsOf : List Nat → Nat → List (List Nat)
  | _, 0 => [[]]
  | l, k + 1 => l.flatMap fun x => (permsOf (l.erase x) k).map (x :: ·)
/-- one step of the machine: from its indices and cycles to the next ones -/
def stepQ (n : Nat) : Nat → List Nat → List Nat → Option (List Nat × List Nat)
  | 0, _, _ => none
  | i + 1, ix, cy =>
    if (cy.getD i 0 - 1 == 0) = true then stepQ n i (ix.take i ++ ix.drop (i + 1) ++ [ix.getD i 0]) (cy.set i (n - i))
    else some ((ix.set i (ix.getD (n - (cy.getD i 0 - 1)) 0)).set (n - (cy.getD i 0 - 1)) (ix.getD i 0), cy.set i (cy.getD i 0 - 1))
/-- the machine at work hands out these, then ends -/
def runs (n k : Nat) : List (List Nat) → List Nat → List Nat → Bool
  | [], ix, cy => decide (ix.length = n) && decide (cy.length = k) && (stepQ n k ix cy).isNone
  | o :: os, ix, cy => decide (ix.length = n) && decide (cy.length = k) && (match stepQ n k ix cy with
    | some (ix', cy') => decide (ix'.take k = o) && runs n k os ix' cy'
    | none => false)
def firstIx (n : Nat) : List Nat := List.range n
def firstCy (n k : Nat) : List Nat := (List.range k).map fun i => n - i
/-- from the start -/
def runs0 (n k : Nat) : Bool := match permsOf (List.range n) k with
  | [] => decide (n < k)
  | o :: os => decide (k ≤ n) && decide ((firstIx n).take k = o) && runs n k os (firstIx n) (firstCy n k)
theorem runs_all : ∀ n, n ≤ 6 → ∀ k, k ≤ 6 → runs0 n k = true := by
  have h : (List.range 7).all (fun n => (List.range 7).all fun k => runs0 n k) = true := by decide +kernel
  intro n hn k hk
  have h1 := List.all_eq_true.mp h n (List.mem_range.mpr (by omega))
  exact List.all_eq_true.mp h1 k (List.mem_range.mpr (by omega))
/-! ### the type -/
theorem mro_p : mroOf (.type "itertools.permutations") = pure [.type "itertools.permutations", .type "object"] := by
  rw [mroOf_type]
  kernel_rfl
theorem new_p : typeLookup (.type "itertools.permutations") "__new__" = pure (some (.builtin "itertools.permutations.__new__")) := by
  rw [typeLookup_type, builtinLookup_eq_fast]
  kernel_rfl
theorem sub_p : isSubtype (.type "itertools.permutations") (.type "itertools.permutations") = pure true := by
  rw [isSubtype_type]
  kernel_rfl
theorem init_p : Slot "itertools.permutations" "__init__" "object.__init__" := by
  refine .of (owner := "object") (n := "__init__") ?_ (by decide +kernel) (by decide +kernel) (by decide +kernel) ?_ ?_
  · rw [typeLookup_type, builtinLookup_eq_fast]
    kernel_rfl
  · first | exact .inl (by decide +kernel) | exact .inr (by decide +kernel)
  · rw [isSubtype_type]
    kernel_rfl
theorem called_p : TypeCalled "itertools.permutations" "itertools.permutations.__new__" "object.__init__" :=
  ⟨by decide +kernel, by decide +kernel, ⟨_, _, mro_p⟩, madeBy_type mro_p new_p (by decide +kernel), by decide +kernel, sub_p, init_p⟩
theorem tcall_p (a b : Value) : checkTypeCall "itertools.permutations" ⟨[a, b], []⟩ = pure () := by kernel_rfl
theorem ncall_p (a b : Value) : checkBuiltinCall "itertools.permutations.__new__" ⟨[.type "itertools.permutations", a, b], []⟩ = pure () := by kernel_rfl
theorem ennew_p : entryFor table "itertools.permutations.__new__" = some Builtin.«itertools.permutations.__new__» := entryFor_of_tree (by kernel_rfl)
theorem iter_p : Slot "itertools.permutations" "__iter__" "itertools.permutations.__iter__" := by
  refine .of (owner := "itertools.permutations") (n := "__iter__") ?_ (by decide +kernel) (by decide +kernel) (by decide +kernel) ?_ sub_p
  · rw [typeLookup_type, builtinLookup_eq_fast]
    kernel_rfl
  · first | exact .inl (by decide +kernel) | exact .inr (by decide +kernel)
theorem next_p : Slot "itertools.permutations" "__next__" "itertools.permutations.__next__" := by
  refine .of (owner := "itertools.permutations") (n := "__next__") ?_ (by decide +kernel) (by decide +kernel) (by decide +kernel) ?_ sub_p
  · rw [typeLookup_type, builtinLookup_eq_fast]
    kernel_rfl
  · first | exact .inl (by decide +kernel) | exact .inr (by decide +kernel)
theorem eniter_p : entryFor table "itertools.permutations.__iter__" = some Builtin.«dict_keyiterator.__iter__» :=
  entryFor_alias (id' := "dict_keyiterator.__iter__") (by kernel_rfl) (by first | rfl | decide +kernel) (by decide +kernel) (by kernel_rfl)
theorem ennext_p : entryFor table "itertools.permutations.__next__" = some Builtin.«itertools.permutations.__next__» := entryFor_of_tree (by kernel_rfl)
theorem aiter_p (a : Value) : argsOk "itertools.permutations.__iter__" ⟨[a], []⟩ := by
  unfold argsOk
  kernel_rfl
theorem anext_p (a : Value) : argsOk "itertools.permutations.__next__" ⟨[a], []⟩ := by
  unfold argsOk
  kernel_rfl
theorem nodict_p : typeHasDict (.type "itertools.permutations") = false := by decide +kernel
/-! ### next -/
/-- the object: what it goes over, its state, how many it takes, what it gave last, its numbers -/
abbrev obP (T0 : Addr) (st : Int) (k : Nat) (last : Value) (nums : List Nat) : Obj :=
  { cls := .type "itertools.permutations", dict := none, data := .fields (Value.ref T0 :: rawInt st :: rawInt (k : Int) :: last :: nums.map fun (n : Nat) => rawInt (n : Int)).toArray }
theorem ob_state {T0 : Addr} {st st' : Int} {k : Nat} {last : Value} {nums : List Nat} : Obj.mapFields (fun x => x.setIfInBounds 1 (rawInt st')) (obP T0 st k last nums) = obP T0 st' k last nums := by
  simp [Obj.mapFields, obP]
theorem ob_last {T0 : Addr} {st : Int} {k : Nat} {last v : Value} {nums : List Nat} : Obj.mapFields (fun x => x.setIfInBounds 3 v) (obP T0 st k last nums) = obP T0 st k v nums := by
  simp [Obj.mapFields, obP]
theorem ob_nums {T0 : Addr} {st : Int} {k : Nat} {last : Value} {nums nums' : List Nat} : Obj.mapFields (fun fs => fs.extract 0 4 ++ (nums'.map fun (n : Nat) => rawInt n).toArray) (obP T0 st k last nums) = obP T0 st k last nums' := by
  simp [Obj.mapFields, obP]
theorem nums_back {f : Value → Nat} (hf : ∀ n : Nat, f (rawInt (n : Int)) = n) (nums : List Nat) : (nums.map fun (n : Nat) => rawInt (n : Int)).map f = nums := by
  rw [List.map_map]
  conv => rhs; rw [← List.map_id nums]
  exact List.map_congr_left fun n _ => hf n
section
variable {P : Program} {w : World} {A : Around} {E : Value → Shared → Prop} {s : Shared} {it T0 : Addr} {st : Int} {k : Nat} {last : Value} {nums : List Nat}
theorem state_at {Q : Int → Shared → Prop} (hit : s.heap.get? it = some (obP T0 st k last nums)) (h : Q st s) : wpAny (model P w) A (itIntField (.ref it) 1) Q E s := by
  unfold itIntField
  exact wpAny_bind (wpAny_field hit rfl (x := rawInt st) rfl (wpAny_pure h))
theorem many_at {Q : Int → Shared → Prop} (hit : s.heap.get? it = some (obP T0 st k last nums)) (h : Q (k : Int) s) : wpAny (model P w) A (itIntField (.ref it) 2) Q E s := by
  unfold itIntField
  exact wpAny_bind (wpAny_field hit rfl (x := rawInt (k : Int)) rfl (wpAny_pure h))
theorem nums_at {Q : List Nat → Shared → Prop} (hit : s.heap.get? it = some (obP T0 st k last nums)) (h : Q nums s) : wpAny (model P w) A (itNumbersFrom (.ref it) 4) Q E s := by
  unfold itNumbersFrom
  refine wpAny_bind (wpAny_load hit ?_)
  refine wpAny_pure ?_
  exact (congrArg (fun z => Q z s) (nums_back (fun n => rfl) nums)).mpr h
theorem set_state {st' : Int} {Q : Unit → Shared → Prop} (hit : s.heap.get? it = some (obP T0 st k last nums))
    (h : ∀ h', h'.get? it = some (obP T0 st' k last nums) → (∀ b o, b ≠ it → s.heap.get? b = some o → h'.get? b = some o) → h'.objs.size = s.heap.objs.size → Q () { s with heap := h' }) : wpAny (model P w) A (setField (.ref it) 1 (rawInt st')) Q E s := by
  refine wpAny_setField hit rfl (by simp) (h _ ?_ (fun b o hb e => (Heap.get?_update_ne _ _ _ _ hb).trans e) (Heap.size_update ..))
  rw [← ob_state (st := st)]
  exact Heap.get?_update_self _ hit rfl
theorem set_last {v : Value} {Q : Unit → Shared → Prop} (hit : s.heap.get? it = some (obP T0 st k last nums))
    (h : ∀ h', h'.get? it = some (obP T0 st k v nums) → (∀ b o, b ≠ it → s.heap.get? b = some o → h'.get? b = some o) → Q () { s with heap := h' }) : wpAny (model P w) A (setField (.ref it) 3 v) Q E s := by
  refine wpAny_setField hit rfl (by simp) (h _ ?_ (fun b o hb e => (Heap.get?_update_ne _ _ _ _ hb).trans e))
  rw [← ob_last (last := last)]
  exact Heap.get?_update_self _ hit rfl
theorem set_nums {nums' : List Nat} {Q : Unit → Shared → Prop} (hit : s.heap.get? it = some (obP T0 st k last nums)) (hz : nums'.length ≤ 1000)
    (h : ∀ h', h'.get? it = some (obP T0 st k last nums') → (∀ b o, b ≠ it → s.heap.get? b = some o → h'.get? b = some o) → h'.objs.size = s.heap.objs.size → Q () { s with heap := h' }) : wpAny (model P w) A (itSetNumbersFrom (.ref it) 4 nums') Q E s := by
  unfold itSetNumbersFrom
  refine wpAny_updateFields hit rfl (h _ ?_ (fun b o hb e => (Heap.get?_update_ne _ _ _ _ hb).trans e) (Heap.size_update ..)) ?_
  · rw [← ob_nums (nums := nums)]
    exact Heap.get?_update_self _ hit rfl
  · rw [sizeLine_eq]
    simp
    omega
theorem next_start {items : Array Value} {oT : Obj} {c : Nat} {Q : Option Value → Shared → Prop} (hit : s.heap.get? it = some (obP T0 0 k last nums))
    (hT : s.heap.get? T0 = some oT) (hd : oT.data = .seq items c) (hk : k ≤ 1000)
    (hQ : ∀ h', h'.get? it = some (obP T0 1 k (.ref s.heap.objs.size) nums) → h'.get? s.heap.objs.size = some { cls := .type "tuple", data := .seq ((nums.take k).map fun i => items.getD i .none).toArray } →
      (∀ b o, b ≠ it → s.heap.get? b = some o → h'.get? b = some o) → Q (some (.ref s.heap.objs.size)) { s with heap := h' }) :
    wpAny (model P w) A (pyNext (.ref it)) Q E s := by
  have hTy : s.TypeIs (.ref it) "itertools.permutations" := ⟨_, hit, rfl⟩
  have lt : it < s.heap.objs.size := Heap.lt_size hit
  unfold pyNext
  refine wpAny_bind (wpAny_attempt (wpAny_callSpecial?_slot (name := Str.ofString "__next__") hTy next_p
    (wpAny_call_entry next_p hTy ennext_p ?_ (anext_p _))))
  unfold Builtin.«itertools.permutations.__next__»
  refine wpAny_bind (m := slotArgs "__next__" 0 _) (wpAny_pure ?_)
  refine wpAny_bind (wpAny_field hit rfl (x := .ref T0) rfl ?_)
  refine wpAny_bind (m := itPoolItems _) ?_
  unfold itPoolItems
  refine wpAny_bind (wpAny_seqItems hT hd (wpAny_pure ?_))
  refine wpAny_bind (many_at hit ?_)
  refine wpAny_bind (nums_at hit ?_)
  refine wpAny_bind (state_at hit ?_)
  dsimp only
  refine wpAny_bind (set_state (st' := 1) hit fun h1 g1 k1 z1 => ?_)
  refine wpAny_bind (wpAny_newTuple ?_ ?_)
  · show wpAny _ _ _ _ _ _
    rw [z1]
    have g2 : (h1.push { cls := .type "tuple", data := .seq ((nums.take k).map fun i => items.getD i .none).toArray }).get? it = some (obP T0 1 k last nums) := Heap.get?_push_of_some _ g1
    refine wpAny_bind (wpAny_field g2 rfl (x := last) rfl ?_)
    refine wpAny_bind (set_last g2 fun h3 g3 k3 => ?_)
    refine wpAny_bind (wpAny_letGo ?_)
    refine wpAny_pure ⟨_, rfl, wpAny_pure (hQ _ g3 ?_ fun b o hb e => ?_)⟩
    · refine k3 _ _ (Nat.ne_of_gt lt) ?_
      rw [← z1]
      exact Heap.get?_push_size _ rfl
    · exact k3 b o hb (Heap.get?_push_of_some _ (k1 b o hb e))
  · rw [sizeLine_eq]
    simp
    omega
theorem step_from {f : Nat → Nat → List Nat → List Nat → Option (List Nat × List Nat)} {n i : Nat} {ix cy : List Nat} {o : Option (List Nat × List Nat)} (e : f n i ix cy = o)
    (h0 : ∀ n ix cy, f n 0 ix cy = none) (h1 : ∀ n i ix cy, f n (i + 1) ix cy = if (cy.getD i 0 - 1 == 0) = true then f n i (ix.take i ++ ix.drop (i + 1) ++ [ix.getD i 0]) (cy.set i (n - i))
      else some ((ix.set i (ix.getD (n - (cy.getD i 0 - 1)) 0)).set (n - (cy.getD i 0 - 1)) (ix.getD i 0), cy.set i (cy.getD i 0 - 1))) : stepQ n i ix cy = o := by
  rw [← e]
  clear e
  induction i generalizing ix cy with
  | zero => exact (h0 n ix cy).symm
  | succ i ih =>
    rw [h1, stepQ]
    split
    · exact ih
    · rfl
theorem next_step {items : Array Value} {oT : Obj} {c : Nat} {ix cy ix' cy' : List Nat} {Q : Option Value → Shared → Prop} (hit : s.heap.get? it = some (obP T0 1 k last (ix ++ cy)))
    (hT : s.heap.get? T0 = some oT) (hd : oT.data = .seq items c) (hix : ix.length = items.size) (hst : stepQ items.size k ix cy = some (ix', cy')) (hk : k ≤ 1000) (hz : (ix' ++ cy').length ≤ 1000)
    (hQ : ∀ h', h'.get? it = some (obP T0 1 k (.ref s.heap.objs.size) (ix' ++ cy')) → h'.get? s.heap.objs.size = some { cls := .type "tuple", data := .seq ((ix'.take k).map fun i => items.getD i .none).toArray } →
      (∀ b o, b ≠ it → s.heap.get? b = some o → h'.get? b = some o) → Q (some (.ref s.heap.objs.size)) { s with heap := h' }) :
    wpAny (model P w) A (pyNext (.ref it)) Q E s := by
  have hTy : s.TypeIs (.ref it) "itertools.permutations" := ⟨_, hit, rfl⟩
  have lt : it < s.heap.objs.size := Heap.lt_size hit
  unfold pyNext
  refine wpAny_bind (wpAny_attempt (wpAny_callSpecial?_slot (name := Str.ofString "__next__") hTy next_p
    (wpAny_call_entry next_p hTy ennext_p ?_ (anext_p _))))
  unfold Builtin.«itertools.permutations.__next__»
  refine wpAny_bind (m := slotArgs "__next__" 0 _) (wpAny_pure ?_)
  refine wpAny_bind (wpAny_field hit rfl (x := .ref T0) rfl ?_)
  refine wpAny_bind (m := itPoolItems _) ?_
  unfold itPoolItems
  refine wpAny_bind (wpAny_seqItems hT hd (wpAny_pure ?_))
  refine wpAny_bind (many_at hit ?_)
  refine wpAny_bind (nums_at hit ?_)
  refine wpAny_bind (state_at hit ?_)
  dsimp only
  have e1 : (ix ++ cy).take items.size = ix := by rw [← hix]; simp
  have e2 : (ix ++ cy).drop items.size = cy := by rw [← hix]; simp
  rw [e1, e2]
  split
  · rename_i h
    cases h
  · split
    · rename_i a b heq
      have q := step_from heq (fun _ _ _ => rfl) (fun _ _ _ _ => rfl)
      have hk' : ((k : Int)).toNat = k := rfl
      rw [hk'] at q ⊢
      rw [hst] at q
      cases q
      refine wpAny_bind (set_nums hit hz fun h1 g1 k1 z1 => ?_)
      refine wpAny_bind (wpAny_newTuple ?_ ?_)
      · show wpAny _ _ _ _ _ _
        rw [z1]
        have g2 : (h1.push { cls := .type "tuple", data := .seq ((ix'.take k).map fun i => items.getD i .none).toArray }).get? it = some (obP T0 1 k last (ix' ++ cy')) := Heap.get?_push_of_some _ g1
        refine wpAny_bind (wpAny_field g2 rfl (x := last) rfl ?_)
        refine wpAny_bind (set_last g2 fun h3 g3 k3 => ?_)
        refine wpAny_bind (wpAny_letGo ?_)
        refine wpAny_pure ⟨_, rfl, wpAny_pure (hQ _ g3 ?_ fun b o hb e => ?_)⟩
        · refine k3 _ _ (Nat.ne_of_gt lt) ?_
          rw [← z1]
          exact Heap.get?_push_size _ rfl
        · exact k3 b o hb (Heap.get?_push_of_some _ (k1 b o hb e))
      · rw [sizeLine_eq]
        simp
        omega
    · rename_i heq
      have q := step_from heq (fun _ _ _ => rfl) (fun _ _ _ _ => rfl)
      have hk' : ((k : Int)).toNat = k := rfl
      rw [hk', hst] at q
      cases q
  · rename_i h0 h1
    exact absurd rfl h1
/-- no more: the last one has been given, or there was none -/
theorem next_over {items : Array Value} {oT : Obj} {c : Nat} {ix cy : List Nat} {Q : Option Value → Shared → Prop} (hit : s.heap.get? it = some (obP T0 1 k last (ix ++ cy)))
    (hT : s.heap.get? T0 = some oT) (hd : oT.data = .seq items c) (hix : ix.length = items.size) (hst : stepQ items.size k ix cy = none) (hh : A.handled = none)
    (hQ : ∀ h', Heap.ExtBut it s.heap h' → Q none { s with heap := h' }) : wpAny (model P w) A (pyNext (.ref it)) Q E s := by
  have hTy : s.TypeIs (.ref it) "itertools.permutations" := ⟨_, hit, rfl⟩
  unfold pyNext
  refine wpAny_bind (wpAny_attempt (wpAny_callSpecial?_slot (name := Str.ofString "__next__") hTy next_p
    (wpAny_call_entry next_p hTy ennext_p ?_ (anext_p _))))
  unfold Builtin.«itertools.permutations.__next__»
  refine wpAny_bind (m := slotArgs "__next__" 0 _) (wpAny_pure ?_)
  refine wpAny_bind (wpAny_field hit rfl (x := .ref T0) rfl ?_)
  refine wpAny_bind (m := itPoolItems _) ?_
  unfold itPoolItems
  refine wpAny_bind (wpAny_seqItems hT hd (wpAny_pure ?_))
  refine wpAny_bind (many_at hit ?_)
  refine wpAny_bind (nums_at hit ?_)
  refine wpAny_bind (state_at hit ?_)
  dsimp only
  have e1 : (ix ++ cy).take items.size = ix := by rw [← hix]; simp
  have e2 : (ix ++ cy).drop items.size = cy := by rw [← hix]; simp
  rw [e1, e2]
  split
  · rename_i h
    cases h
  · split
    · rename_i a b heq
      have q := step_from heq (fun _ _ _ => rfl) (fun _ _ _ _ => rfl)
      have hk' : ((k : Int)).toNat = k := rfl
      rw [hk', hst] at q
      cases q
    · refine wpAny_bind (set_state (st' := 2) hit fun h1 g1 k1 z1 => ?_)
      unfold itStop
      refine wpAny_mono (stop_at (s := s) (it := it) (Q := Q) (E := E) hh k1 hQ) (fun _ _ z => z.elim) fun e s' z => z
  · rename_i h0 h1
    exact absurd rfl h1
theorem next_none {items : Array Value} {oT : Obj} {c : Nat} {Q : Option Value → Shared → Prop} {vs : List Value} (hit : s.heap.get? it = some { cls := .type "itertools.permutations", dict := none, data := .fields (Value.ref T0 :: rawInt 2 :: rawInt (k : Int) :: last :: vs).toArray })
    (hT : s.heap.get? T0 = some oT) (hd : oT.data = .seq items c) (hh : A.handled = none)
    (hQ : ∀ h', Heap.ExtBut it s.heap h' → Q none { s with heap := h' }) : wpAny (model P w) A (pyNext (.ref it)) Q E s := by
  have hTy : s.TypeIs (.ref it) "itertools.permutations" := ⟨_, hit, rfl⟩
  unfold pyNext
  refine wpAny_bind (wpAny_attempt (wpAny_callSpecial?_slot (name := Str.ofString "__next__") hTy next_p
    (wpAny_call_entry next_p hTy ennext_p ?_ (anext_p _))))
  unfold Builtin.«itertools.permutations.__next__»
  refine wpAny_bind (m := slotArgs "__next__" 0 _) (wpAny_pure ?_)
  refine wpAny_bind (wpAny_field hit rfl (x := .ref T0) rfl ?_)
  refine wpAny_bind (m := itPoolItems _) ?_
  unfold itPoolItems
  refine wpAny_bind (wpAny_seqItems hT hd (wpAny_pure ?_))
  refine wpAny_bind (m := itIntField _ 2) ?_
  unfold itIntField
  refine wpAny_bind (wpAny_field hit rfl (x := rawInt (k : Int)) rfl (wpAny_pure ?_))
  refine wpAny_bind (m := itNumbersFrom _ 4) ?_
  unfold itNumbersFrom
  refine wpAny_bind (wpAny_load hit (wpAny_pure ?_))
  refine wpAny_bind (m := itIntField _ 1) ?_
  unfold itIntField
  refine wpAny_bind (wpAny_field hit rfl (x := rawInt 2) rfl (wpAny_pure ?_))
  dsimp only
  refine wpAny_bind (wpAny_rule ?_)
  unfold itStop
  exact wpAny_mono (stop_at (s := s) (it := it) (Q := Q) (E := E) hh (fun b o _ e => e) hQ) (fun _ _ z => z.elim) fun e s' z => z
end
/-! ### made -/
/-- what stands there when it is made -/
def Made (n k : Nat) (T0 it : Addr) (h : Heap) : Prop := ∃ items : Array Value, h.get? T0 = some { cls := .type "tuple", data := .seq items } ∧ ItemsOf (fun i v => ∃ t, v = .int ((0 : Int) + i * 1) t) items n ∧ T0 ≠ it ∧
  ((k ≤ n ∧ h.get? it = some (obP T0 0 k .none (firstIx n ++ firstCy n k))) ∨ (n < k ∧ ∃ vs, h.get? it = some { cls := .type "itertools.permutations", dict := none, data := .fields (Value.ref T0 :: rawInt 2 :: rawInt (k : Int) :: Value.none :: vs).toArray }))
theorem made_fields {n k : Nat} (h : k ≤ n) {v : Value} : ([v, rawInt 0, rawInt (k : Int), Value.none] ++ (List.range n).map (fun (i : Nat) => rawInt (i : Int)) ++ (List.range k).map fun (i : Nat) => rawInt ((n : Int) - (i : Int))) =
    v :: rawInt 0 :: rawInt (k : Int) :: Value.none :: (firstIx n ++ firstCy n k).map fun (i : Nat) => rawInt (i : Int) := by
  unfold firstIx firstCy
  rw [List.map_append, List.map_map]
  have e : (List.range k).map (fun (i : Nat) => rawInt ((n : Int) - (i : Int))) = (List.range k).map ((fun (i : Nat) => rawInt (i : Int)) ∘ fun i => n - i) := by
    refine List.map_congr_left fun i hi => ?_
    have := List.mem_range.mp hi
    show rawInt ((n : Int) - (i : Int)) = rawInt ((n - i : Nat) : Int)
    congr 1
    omega
  rw [e]
  rfl
theorem meets_p (r : Addr) (n k : Nat) (t t1 t2 t3 : Tok) : Meets (Builtin.«itertools.permutations.__new__» ⟨[.type "itertools.permutations", .ref r, .int k t], []⟩)
    (fun A R s => A.handled = none ∧ IsRange s.heap r 0 n 1 t1 t2 t3 ∧ n ≤ 6 ∧ k ≤ 6 ∧ ∀ (h1 h' : Heap) (tk : Nat) (T0 it : Addr), (∀ b o, s.heap.get? b = some o → h1.get? b = some o) → h1.objs.size ≤ T0 → h1.objs.size ≤ it → Made n k T0 it h' → (∀ b o, h1.get? b = some o → h'.get? b = some o) → R (.ok (.ret (.ref it))) { s with heap := h', toks := tk }) :=
  .of_wp fun prog w A R s ⟨hh, hr, hn, hk, h⟩ => by
    obtain ⟨hp, g, dd, tk, os⟩ := s
    have hsub := sub_p
    have hd := nodict_p
    unfold Builtin.«itertools.permutations.__new__»
    repeat (first
      | wp_step
      | simp only [List.head?_cons, Option.some_or, List.getElem?_cons_succ, List.getElem?_cons_zero, List.length_cons, List.length_nil, List.forIn_nil])
    have hs : ("itertools." ++ "permutations") = "itertools.permutations" := by decide +kernel
    rw [hs]
    refine wpAny_of_eq hsub ?_
    generalize hC : collect = C
    repeat (first
      | wp_step
      | simp only [List.head?_cons, Option.some_or, List.getElem?_cons_succ, List.getElem?_cons_zero, List.length_cons, List.length_nil, List.forIn_nil])
    subst hC
    refine collect_range (n := n) (by simpa using hh) hr (small_one (by omega) (by omega) (by omega) (by omega)) ?_ (by omega) fun h1 tk1 acc k1 hi => ?_
    · have := rangeSize_nat 0 (n : Int)
      simpa using this
    · have hl : acc.toList.length = n := by rw [Array.length_toList]; exact hi.1
      have r1 : ¬ ((decide ((k : Int) < -2 ^ 63) || decide ((k : Int) ≥ 2 ^ 63)) = true) := by
        have a1 : decide ((k : Int) < -2 ^ 63) = false := decide_eq_false (by omega)
        have a2 : decide ((k : Int) ≥ 2 ^ 63) = false := decide_eq_false (by omega)
        rw [a1, a2]
        decide
      have r2 : ¬ ((k : Int) < 0) := by omega
      have r3 : ¬ (itTooMany (k : Int) = true) := by
        unfold itTooMany
        simp
        omega
      show wpAny _ _ (holding acc.toList _ >>= _) _ _ _
      refine wpAny_bind (wpAny_holding ?_)
      refine wpAny_bind (wpAny_of_eq (a := some (k : Int)) (by rfl) ?_)
      dsimp only
      rw [if_neg r1]
      refine wpAny_pure ?_
      rw [if_neg r2, if_neg r3]
      refine wpAny_bind (wpAny_newTuple ?_ (by rw [hl, sizeLine_eq]; omega))
      refine wpAny_bind (m := itNewRecord _ _) ?_
      unfold itNewRecord
      rw [hd]
      refine wp_if_pos rfl ?_
      have hk' : ((k : Int)).toNat = k := rfl
      have sz : ∀ o : Obj, (h1.push o).objs.size = h1.objs.size + 1 := fun o => Heap.size_push ..
      refine wpAny_newObj_type ?_ ?_
      · refine wpAny_pure ⟨_, rfl, ?_⟩
        rw [hl, hk']
        refine h h1 _ tk1 h1.objs.size _ k1 (Nat.le_refl _) (by rw [sz]; exact Nat.le_succ _) ⟨acc.toList.toArray, Heap.get?_push_of_some _ (Heap.get?_push_size _ rfl), by rw [Array.toArray_toList]; exact hi, by rw [sz]; exact Nat.ne_of_lt (Nat.lt_succ_self _), ?_⟩ fun b o e => Heap.get?_push_of_some _ (Heap.get?_push_of_some _ e)
        rcases Nat.lt_or_ge n k with z | z
        · refine .inr ⟨z, (List.range n).map (fun (i : Nat) => rawInt (i : Int)) ++ (List.range k).map fun (i : Nat) => rawInt ((n : Int) - (i : Int)), ?_⟩
          rw [if_pos z]
          exact Heap.get?_push_size _ rfl
        · refine .inl ⟨z, ?_⟩
          rw [if_neg (Nat.not_lt.mpr z), made_fields z]
          exact Heap.get?_push_size _ rfl
      · show (List.toArray _).size ≤ sizeLine + 2
        rw [hl, hk', sizeLine_eq]
        simp
        omega
section
variable {P : Program} {w : World} {A : Around} {E : Value → Shared → Prop} {s : Shared}
theorem call_p {r : Addr} {n k : Nat} {t t1 t2 t3 : Tok} {Q : Value → Shared → Prop} (hh : A.handled = none) (hr : IsRange s.heap r 0 n 1 t1 t2 t3) (hn : n ≤ 6) (hk : k ≤ 6)
    (h : ∀ (h1 h' : Heap) (tk : Nat) (T0 it : Addr), (∀ b o, s.heap.get? b = some o → h1.get? b = some o) → h1.objs.size ≤ T0 → h1.objs.size ≤ it → Made n k T0 it h' → (∀ b o, h1.get? b = some o → h'.get? b = some o) → Q (.ref it) { s with heap := h', toks := tk }) :
    wpAny (model P w) A (call (.type "itertools.permutations") [.ref r, .int k t]) Q E s := by
  refine callType_new called_p (by decide +kernel) (tcall_p _ _) (ncall_p _ _) (fun obj => F.args_object_init_3 obj _ _) ennew_p (meets_p r n k t t1 t2 t3) ?_
  refine ⟨by simpa using hh, hr, hn, hk, fun h1 h' tk T0 it a1 a2 a3 a4 a5 => ?_⟩
  refine ⟨?_, h h1 h' tk T0 it a1 a2 a3 a4 a5⟩
  obtain ⟨items, g1, g2, g3, g4⟩ := a4
  rcases g4 with ⟨_, g⟩ | ⟨_, vs, g⟩
  · exact ⟨_, g, rfl⟩
  · exact ⟨_, g, rfl⟩
theorem self_p {it : Addr} {Q : Value → Shared → Prop} (hT : s.TypeIs (.ref it) "itertools.permutations") (h : Q (.ref it) s) : wpAny (model P w) A (pyIter (.ref it)) Q E s := by
  refine wpAny_pyIter_slot hT iter_p (wpAny_call_entry iter_p hT eniter_p ?_ (aiter_p _))
  show wpAny _ _ (ret (.ref it)) _ _ s
  exact wpAny_pure ⟨_, rfl, "itertools.permutations", _, hT, next_p.lookup, h⟩
end
/-! ### as something that is walked -/
abbrev rowsP (n k : Nat) : List (List Nat) := permsOf (List.range n) k
/-- i rows have been given -/
def AtP (n k : Nat) (T0 it : Addr) (i : Nat) (h : Heap) : Prop := ∃ items : Array Value, h.get? T0 = some { cls := .type "tuple", data := .seq items } ∧ ItemsOf (fun i v => ∃ t, v = .int ((0 : Int) + i * 1) t) items n ∧
  ((i = 0 ∧ k ≤ n ∧ h.get? it = some (obP T0 0 k .none (firstIx n ++ firstCy n k))) ∨
   (n < k ∧ ∃ vs, h.get? it = some { cls := .type "itertools.permutations", dict := none, data := .fields (Value.ref T0 :: rawInt 2 :: rawInt (k : Int) :: Value.none :: vs).toArray }) ∨
   (0 < i ∧ i ≤ (rowsP n k).length ∧ ∃ last ix cy, runs n k ((rowsP n k).drop i) ix cy = true ∧ h.get? it = some (obP T0 1 k last (ix ++ cy))))
theorem AtP.type {n k : Nat} {T0 it : Addr} {i : Nat} {s : Shared} (a : AtP n k T0 it i s.heap) : s.TypeIs (.ref it) "itertools.permutations" := by
  obtain ⟨items, _, _, g⟩ := a
  rcases g with ⟨_, _, g⟩ | ⟨_, _, g⟩ | ⟨_, _, _, _, _, _, g⟩
  · exact ⟨_, g, rfl⟩
  · exact ⟨_, g, rfl⟩
  · exact ⟨_, g, rfl⟩
/-- the rows as values -/
def rowV (o : List Nat) : List V := o.map fun (j : Nat) => V.int (j : Int)
def Itp (n k : Nat) : It :=
  ⟨fun i _ => i < (rowsP n k).length, fun i H x H' => ∃ p o, H p = none ∧ (rowsP n k)[i]? = some o ∧ x = .ref p ∧ H' = upd H p (.tup (rowV o)), fun i _ => (rowsP n k).length ≤ i⟩
theorem perms_len : ∀ {k : Nat} {l : List Nat} {o : List Nat}, o ∈ permsOf l k → o.length = k
  | 0, l, o, h => by
    unfold permsOf at h
    rw [List.mem_singleton.mp h]
    rfl
  | k + 1, l, o, h => by
    unfold permsOf at h
    obtain ⟨x, hx, h⟩ := List.mem_flatMap.mp h
    obtain ⟨o', h', rfl⟩ := List.mem_map.mp h
    rw [List.length_cons, perms_len h']
theorem perms_mem : ∀ {k : Nat} {l : List Nat} {o : List Nat}, o ∈ permsOf l k → ∀ x ∈ o, x ∈ l
  | 0, l, o, h, x, hx => by
    unfold permsOf at h
    rw [List.mem_singleton.mp h] at hx
    cases hx
  | k + 1, l, o, h, x, hx => by
    unfold permsOf at h
    obtain ⟨y, hy, h⟩ := List.mem_flatMap.mp h
    obtain ⟨o', h', rfl⟩ := List.mem_map.mp h
    rcases List.mem_cons.mp hx with z | z
    · rw [z]; exact hy
    · exact List.mem_of_mem_erase (perms_mem h' x z)
theorem rows_none {n k : Nat} (hn : n ≤ 6) (hk : k ≤ 6) (h : n < k) : rowsP n k = [] := by
  have q := runs_all n hn k hk
  unfold runs0 at q
  cases e : permsOf (List.range n) k with
  | nil => exact e
  | cons o os =>
    rw [e] at q
    simp at q
    omega
theorem runs_at {n k : Nat} {os : List (List Nat)} {ix cy : List Nat} (h : runs n k os ix cy = true) : ix.length = n ∧ cy.length = k := by
  cases os with
  | nil => unfold runs at h; simp at h; exact h.1
  | cons o os => unfold runs at h; simp at h; exact h.1
theorem runs_next {n k : Nat} {o : List Nat} {os : List (List Nat)} {ix cy : List Nat} (h : runs n k (o :: os) ix cy = true) : ∃ ix' cy', stepQ n k ix cy = some (ix', cy') ∧ ix'.take k = o ∧ runs n k os ix' cy' = true := by
  unfold runs at h
  cases e : stepQ n k ix cy with
  | none => rw [e] at h; simp at h
  | some q =>
    obtain ⟨ix', cy'⟩ := q
    rw [e] at h
    simp at h
    exact ⟨ix', cy', rfl, h.2.1, h.2.2⟩
theorem runs_end {n k : Nat} {ix cy : List Nat} (h : runs n k [] ix cy = true) : stepQ n k ix cy = none := by
  unfold runs at h
  simp at h
  exact h.2
theorem row_vals {n : Nat} {items : Array Value} (hi : ItemsOf (fun i v => ∃ t, v = .int ((0 : Int) + i * 1) t) items n) : ∀ {o : List Nat}, (∀ x ∈ o, x < n) → Vals (rowV o) (o.map fun i => items.getD i .none)
  | [], _ => .nil
  | x :: o, h => by
    have hx := h x List.mem_cons_self
    have hs : x < items.size := by rw [hi.1]; exact hx
    obtain ⟨t, e⟩ := hi.2 x items[x] (Array.getElem?_eq_getElem hs)
    refine .cons ⟨t, ?_⟩ (row_vals hi fun y hy => h y (List.mem_cons_of_mem _ hy))
    show items.getD x .none = .int (x : Int) t
    have e2 : items.getD x .none = items[x] := by simp [Array.getD, hs]
    rw [e2, e]
    congr 1
    omega
theorem turn_p {P : Program} {w : World} {K : PySem.W.Frag} {tg : Expr} {n k : Nat} (hn : n ≤ 6) (hk : k ≤ 6) (T0 it : Addr) (hne : T0 ≠ it) : Turn P w K tg (Itp n k) [it, T0] it (AtP n k T0 it) where
  mem := by simp
  obj := fun i h a b hb => by
    obtain ⟨items, g1, _, g⟩ := a
    rcases List.mem_cons.mp hb with z | z
    · rw [z]
      rcases g with ⟨_, _, g⟩ | ⟨_, _, g⟩ | ⟨_, _, _, _, _, _, g⟩ <;> exact ⟨_, g, fun v z => nomatch z⟩
    · rw [List.mem_singleton.mp z]
      exact ⟨_, g1, fun v z => nomatch z⟩
  keep := fun i h h' ⟨items, g1, g2, g⟩ kp => ⟨items, kp T0 (by simp) _ g1, g2, by
    rcases g with ⟨a, b, g⟩ | ⟨a, vs, g⟩ | ⟨a, b, l, ix, cy, r, g⟩
    · exact .inl ⟨a, b, kp it (by simp) _ g⟩
    · exact .inr (.inl ⟨a, vs, kp it (by simp) _ g⟩)
    · exact .inr (.inr ⟨a, b, l, ix, cy, r, kp it (by simp) _ g⟩)⟩
  self := fun A i s Q E a h => self_p a.type h
  item := by
    intro X hP hw hK hc i pins s σ H E I hf ⟨items, g1, g2, g⟩ hi
    subst hP hw hK
    have hi : i < (rowsP n k).length := hi
    have hmem : (rowsP n k)[i] ∈ rowsP n k := List.getElem_mem hi
    have hlt : ∀ x ∈ (rowsP n k)[i], x < n := fun x hx => List.mem_range.mp (perms_mem hmem x hx)
    have lenr : (rowV (rowsP n k)[i]).length ≤ sizeLine := by
      unfold rowV
      rw [List.length_map, perms_len hmem, sizeLine_eq]
      omega
    have fin : ∀ h' : Heap, (∀ b o, b ≠ it → s.heap.get? b = some o → h'.get? b = some o) → h'.get? s.heap.objs.size = some { cls := .type "tuple", data := .seq ((rowsP n k)[i].map fun i => items.getD i .none).toArray } →
        (∃ last ix cy, runs n k ((rowsP n k).drop (i + 1)) ix cy = true ∧ h'.get? it = some (obP T0 1 k last (ix ++ cy))) →
        ∃ u, some (Value.ref s.heap.objs.size) = some u ∧ wpAny (model X.prog X.w) X.A (letOwnedTupleGo tg (.ref it) u) (fun _ s2 => ∃ x H', Inv X pins σ H' s2 ∧ RelV x u ∧ (Itp n k).yld i H x H' ∧ AtP n k T0 it (i + 1) s2.heap ∧ ∀ b ∈ [it, T0], H' b = none) E { s with heap := h' } := fun h' kp ht ⟨last, ix, cy, r, go⟩ => by
      have new : Inv X pins σ (upd H s.heap.objs.size (.tup (rowV (rowsP n k)[i]))) { s with heap := h' } :=
        I.turnedNew (t' := s.toks) (ch := [it]) (fun b o hb e => kp b o (by simpa using hb) e) (fun b hb => by rw [List.mem_singleton.mp hb]; exact hf it (by simp)) (Nat.le_refl _) ⟨lenr, _, row_vals g2 hlt, ⟨_, ht, rfl, 0, rfl⟩⟩
      have fresh : H s.heap.objs.size = none := I.hok.fresh (Nat.le_refl _)
      refine ⟨_, rfl, go_of (s := { s with heap := h' }) (n := "itertools.permutations") go rfl rfl (by decide) ⟨.ref s.heap.objs.size, _, new, rfl, ⟨_, _, fresh, List.getElem?_eq_getElem hi, rfl, rfl⟩, ⟨items, kp T0 _ hne g1, g2, .inr (.inr ⟨Nat.succ_pos _, hi, last, ix, cy, r, go⟩)⟩, fun b hb => ?_⟩⟩
      have hb0 := (hf b hb).1
      have lt : b < s.heap.objs.size := by
        rcases List.mem_cons.mp hb with z | z
        · rw [z]
          rcases g with ⟨_, _, g⟩ | ⟨_, _, g⟩ | ⟨_, _, _, _, _, _, g⟩ <;> exact Heap.lt_size g
        · rw [List.mem_singleton.mp z]; exact Heap.lt_size g1
      rw [upd_ne (Nat.ne_of_lt lt)]
      exact hb0
    rcases g with ⟨rfl, hkn, g⟩ | ⟨hkn, _, g⟩ | ⟨a, b, last, ix, cy, r, g⟩
    · have q := runs_all n hn k hk
      unfold runs0 at q
      refine next_start g g1 rfl (by omega) fun h' go ht kp => ?_
      cases e : permsOf (List.range n) k with
      | nil =>
        rw [show rowsP n k = [] from e] at hi
        cases hi
      | cons o os =>
        rw [e] at q
        simp only [Bool.and_eq_true, decide_eq_true_eq] at q
        obtain ⟨⟨q1, q2⟩, q3⟩ := q
        have er : rowsP n k = o :: os := e
        have e0 : (rowsP n k)[0] = o := by simp [er]
        have e1 : (firstIx n ++ firstCy n k).take k = o := by
          rw [List.take_append_of_le_length (by unfold firstIx; rw [List.length_range]; exact hkn)]
          exact q2
        rw [e1] at ht
        refine fin h' kp (by rw [e0]; exact ht) ⟨_, firstIx n, firstCy n k, ?_, go⟩
        rw [er]
        exact q3
    · rw [rows_none hn hk hkn] at hi
      cases hi
    · rw [List.drop_eq_getElem_cons hi] at r
      obtain ⟨h1, h2⟩ := runs_at r
      obtain ⟨ix', cy', h3, h4, h5⟩ := runs_next r
      obtain ⟨h6, h7⟩ := runs_at h5
      have sz : items.size = n := g2.1
      refine next_step g g1 rfl (by rw [sz]; exact h1) (by rw [sz]; exact h3) (by omega) (by rw [List.length_append]; omega) fun h' go ht kp => ?_
      rw [h4] at ht
      exact fin h' kp ht ⟨_, ix', cy', h5, go⟩
  done := by
    intro X hP hw hK hc i pins s σ H E I hf ⟨items, g1, g2, g⟩ hi
    subst hP hw hK
    have hi : (rowsP n k).length ≤ i := hi
    have sz : items.size = n := g2.1
    obtain ⟨f0, f1, f2, f3, f4, f5⟩ := hf it (by simp)
    have over : ∀ h' : Heap, Heap.ExtBut it s.heap h' → (none : Option Value) = none ∧ Inv X pins σ H { s with heap := h' } := fun h' eb => ⟨rfl, I.turned (t' := s.toks) (fun b o hb e => eb b o hb e) f0 f1 f3 f4 f5⟩
    rcases g with ⟨rfl, hkn, g⟩ | ⟨hkn, _, g⟩ | ⟨a, b, last, ix, cy, r, g⟩
    · have q := runs_all n hn k hk
      unfold runs0 at q
      cases e : permsOf (List.range n) k with
      | nil => rw [e] at q; simp at q; omega
      | cons o os =>
        rw [show rowsP n k = o :: os from e] at hi
        simp at hi
    · exact next_none g g1 rfl (I.ok.hd hc) over
    · rw [List.drop_eq_nil_of_le hi] at r
      obtain ⟨h1, h2⟩ := runs_at r
      exact next_over g g1 rfl (by rw [sz]; exact h1) (by rw [sz]; exact runs_end r) (I.ok.hd hc) over
end FWY
/-! FWZ: permutations over data; sorted of tuples. -/
namespace FWY
open PySem PySem.Spec PyProof.Rows L2
section
variable {X : Cx} {tg : Expr}
def rRng1 : List V → Hp → VK → Prop := fun vs H Q => ∃ j, vs = [V.int j] ∧ ∀ p, H p = none → Q (.ref p) (upd H p (.rng 0 j))
theorem cr_rng1 : CallR X (.type "range") rRng1 := by
  intro pins s σ H vs us Q I r h
  obtain ⟨j, rfl, q⟩ := h
  obtain ⟨u, rfl, ru⟩ := vals1 r
  obtain ⟨t, rfl⟩ := ru
  refine call_range_1 ⟨.ref s.heap.objs.size, upd H s.heap.objs.size (.rng 0 j), I.laid (t' := s.toks + 1 + 1) (fun b o e => Heap.get?_push_of_some _ e) (Nat.le_refl _) ?_, rfl, q _ (I.hok.fresh (Nat.le_refl _))⟩
  exact ⟨s.toks, t, s.toks + 1, Heap.get?_push_size _ rfl⟩
def iPrm (ta : TA) : TI := fun σ H R => ta σ H fun vs H1 => ∃ (p : Addr) (n k : Nat), vs = [.ref p, .int k] ∧ H1 p = some (.rng 0 n) ∧ n ≤ 6 ∧ k ≤ 6 ∧ R (Itp n k) H1
theorem pi_prm {a b : Expr} {ta : TA} {x : Str} {p pos : Pos} (hc : X.calm = true) (hg : Gl X x) (hm : X.mg x = some (.type "itertools.permutations")) (ha : PA X [a, b] ta) (hd : (x == ("__debug__" : Str)) = false := by decide)
    (he : starEach [a, b] X.env = (false, eval a X.env) :: starEach [b] X.env := by rfl) (hpl : (backTo pos (starEach [b] X.env)).any (·.1) = false := by rfl) : PI X tg (.Call (.Name x p) [a, b] [] pos) (iPrm ta) := by
  refine ⟨fun pins s σ H R I h => ?_⟩
  refine wpAny_Call_Name_kw (ld_glob I hg hm ?_ hd)
  refine PyProof.Rows.callWith_type1 (thn (ha.run pos pins s σ H _ I h) fun us s1 ⟨vs, H1, I1, r1, q1⟩ => ?_) he hpl
  obtain ⟨q, n, k, rfl, hr, hn, hk, q1⟩ := q1
  obtain ⟨u1, u2, rfl, ru1, ru2⟩ := vals2 r1
  obtain rfl : u1 = .ref q := ru1
  obtain ⟨t, rfl⟩ := ru2
  obtain ⟨t1, t2, t3, ho⟩ := I1.hok q _ hr
  refine call_p (I1.ok.hd hc) ho hn hk fun h1 h' tk T0 it a1 a2 a3 a4 a5 => ?_
  have I2 : Inv X pins σ H1 { s1 with heap := h1 } := I1.kept (t' := s1.toks) a1
  have I3 : Inv X pins σ H1 { s1 with heap := h', toks := tk } := I1.kept fun b o e => a5 b o (a1 b o e)
  obtain ⟨items, g1, g2, hne, g⟩ := a4
  have at0 : AtP n k T0 it 0 h' := ⟨items, g1, g2, by
    rcases g with ⟨z, g⟩ | ⟨z, vs, g⟩
    · exact .inl ⟨rfl, z, g⟩
    · exact .inr (.inl ⟨z, vs, g⟩)⟩
  refine self_p at0.type ⟨it, [it, T0], AtP n k T0 it, Itp n k, H1, rfl, I3, turn_p hn hk T0 it hne, at0, fun b hb => ?_, q1⟩
  rcases List.mem_cons.mp hb with z | z
  · rw [z]; exact I2.fpOk a3 (I2.hok.fresh a3)
  · rw [List.mem_singleton.mp z]; exact I2.fpOk a2 (I2.hok.fresh a2)
end
end FWY
namespace FW
open PySem PySem.Spec PyProof.Rows L2 FWY
def prmD (o : List Nat) : D := .tuple (o.map fun (j : Nat) => .int (j : Int))
@[simp] def iPrmW (wn wk : W) : WA := fun e R => wn e fun d => ∃ n : Nat, d = .int n ∧ n ≤ 6 ∧ wk e fun d' => ∃ k : Nat, d' = .int k ∧ k ≤ 6 ∧ R ((rowsP n k).map prmD)
section
variable {c : Amb} {H F H' F' H1 F1 H2 F2 H0 : Hp} {σ : L2.St} {e : Sg}
theorem row_rp {K : PySem.W.Frag} : ∀ o : List Nat, RpAll K F (rowV o) (o.map fun (j : Nat) => .int (j : Int))
  | [] => .nil
  | j :: o => .cons (.int _) (row_rp o)
theorem yields_prm {n k : Nat} : Yields c (Itp n k) F1 ((rowsP n k).map prmD) where
  go := fun i H F hi W s => by
    rw [List.length_map] at hi
    exact hi
  yld := fun i d H F x H' hd W s ⟨p, o, h1, h2, h3, h4⟩ => by
    rw [List.getElem?_map, h2] at hd
    cases hd
    subst h3 h4
    refine ⟨_, Ext.laid W (.tup (rowV o)) h1, .inl (.tup (.inl (.inl upd_same)) (row_rp o))⟩
  stop := fun H F W s => by
    show (rowsP n k).length ≤ _
    rw [List.length_map]
    exact Nat.le_refl _
theorem xi_prm {wn wk : W} : ∀ σ H R, tI c (iPrmW wn wk) σ H R → iPrm (tCons (tCB rRng1 (tA c (aCons wn aNil))) (tCons (tD c wk) tNil)) σ H R := fun σ H R ⟨e, F, H0, Rd, W, S, q, P⟩ =>
  ⟨e, F, H0, fun ds => match ds with
    | [d] => ∃ n : Nat, d = .int n ∧ n ≤ 6 ∧ wk e fun d' => ∃ k : Nat, d' = .int k ∧ k ≤ 6 ∧ Rd ((rowsP n k).map prmD)
    | _ => False, W, S, q, fun ds vs H1 F1 r x1 rv => by
    match ds, r, rv with
    | [d], ⟨n, hd, hn, r⟩, rv =>
      subst hd
      obtain ⟨v, rfl, rv1⟩ := reps1 rv
      have ev := rv1.int_inv
      subst ev
      refine ⟨(n : Int), rfl, fun p hp => ?_⟩
      have xl := Ext.loose x1.ok (.rng 0 (n : Int)) hp
      have np : p ∉ c.Ps := fun z => by
        obtain ⟨⟨ps, y, _⟩, _⟩ := xl.ok.tab p z
        rw [upd_same] at y
        cases y
      refine ⟨e, F1, H0, _, xl.ok, S.ext W (x1.trans xl), r, fun d' v' H2 F2 ⟨k, hd', hk, r2⟩ x2 rv2 => ?_⟩
      subst hd'
      refine ⟨p, n, k, ?_, x2.keep p _ upd_same (x1.ok.newR hp) np, hn, hk, ?_⟩
      · rw [rv2.int_inv]
      · exact P _ _ _ _ r2 ((x1.trans xl).trans x2) yields_prm⟩
end
end FW
/-! ### sorted of tuples of numbers, all of one length -/
namespace FWY
open PySem PySem.Spec PyProof.Rows L2
def lexI : List Int → List Int → Bool
  | [], [] => false
  | [], _ :: _ => true
  | _ :: _, [] => false
  | x :: xs, y :: ys => if x = y then lexI xs ys else decide (x < y)
theorem lexI_anti : ∀ {a b : List Int}, lexI a b = true → lexI b a = false
  | [], [], h => by cases h
  | [], _ :: _, _ => rfl
  | _ :: _, [], h => by cases h
  | x :: xs, y :: ys, h => by
    unfold lexI at h ⊢
    by_cases e : x = y
    · rw [if_pos e] at h
      rw [if_pos e.symm]
      exact lexI_anti h
    · rw [if_neg e] at h
      rw [if_neg (fun z => e z.symm)]
      have := of_decide_eq_true h
      exact decide_eq_false (by omega)
theorem lexI_trans : ∀ {a b c : List Int}, lexI b a = false → lexI c b = false → lexI c a = false
  | [], [], [], _, _ => rfl
  | [], [], _ :: _, _, h => by cases h; rfl
  | [], _ :: _, [], _, h => by cases h
  | [], _ :: _, _ :: _, _, _ => rfl
  | _ :: _, [], _, h, _ => by cases h
  | _ :: _, _ :: _, [], _, h => by cases h
  | x :: xs, y :: ys, z :: zs, h1, h2 => by
    unfold lexI at h1 h2 ⊢
    by_cases e1 : y = x
    · rw [if_pos e1] at h1
      by_cases e2 : z = y
      · rw [if_pos e2] at h2
        rw [if_pos (e2.trans e1)]
        exact lexI_trans h1 h2
      · rw [if_neg e2] at h2
        have := of_decide_eq_false h2
        rw [if_neg (fun q => e2 (q.trans e1.symm))]
        exact decide_eq_false (by omega)
    · rw [if_neg e1] at h1
      have a := of_decide_eq_false h1
      by_cases e2 : z = y
      · rw [if_neg (fun q => e1 (e2.symm.trans q))]
        exact decide_eq_false (by omega)
      · rw [if_neg e2] at h2
        have b := of_decide_eq_false h2
        rw [if_neg (fun q => by omega)]
        exact decide_eq_false (by omega)
theorem lexI_eq : ∀ {a b : List Int}, lexI a b = false → lexI b a = false → a = b
  | [], [], _, _ => rfl
  | [], _ :: _, h, _ => by cases h
  | _ :: _, [], _, h => by cases h
  | x :: xs, y :: ys, h1, h2 => by
    unfold lexI at h1 h2
    by_cases e : x = y
    · rw [if_pos e] at h1
      rw [if_pos e.symm] at h2
      rw [e, lexI_eq h1 h2]
    · rw [if_neg e] at h1
      rw [if_neg (fun z => e z.symm)] at h2
      have a := of_decide_eq_false h1
      have b := of_decide_eq_false h2
      omega
/-- p stands not behind q -/
abbrev leL (p q : List Int) : Prop := lexI q p = false
def IsTI (h : Heap) (v : Value) (ns : List Int) : Prop := ∃ a o xs n, v = .ref a ∧ h.get? a = some o ∧ o.cls = .type "tuple" ∧ o.data = .seq xs n ∧ IntsAre xs.toList ns
def tupOf (o : Obj) : List Int := match o.data with
  | .seq its _ => its.toList.map SrtO.iv
  | _ => []
def tupAt (h : Heap) (v : Value) : List Int := match v with
  | .ref a => ((h.get? a).map tupOf).getD []
  | _ => []
theorem tupAt_is {h : Heap} {v : Value} {ns : List Int} (p : IsTI h v ns) : tupAt h v = ns := by
  obtain ⟨a, o, xs, n, rfl, ho, _, hd, hi⟩ := p
  show ((h.get? a).map tupOf).getD [] = ns
  rw [ho]
  show tupOf o = ns
  unfold tupOf
  rw [hd]
  exact SrtO.iv_ints hi
section
variable {prog : Program} {w : World} {A : Around} {E : Value → Shared → Prop} {s : Shared}
theorem kat_ints {Q : Bool → Shared → Prop} : ∀ {us vs : List Value} {xs ys : List Int}, IntsAre us xs → IntsAre vs ys → xs.length = ys.length → ∀ i, Q (lexI xs ys) s → PySem.W.KatLex prog w A true false Q (us.zip vs) i s
  | _, _, _, _, .nil, .nil, _, i, h => PySem.W.kat_nil h
  | _, _, _, _, .nil, .cons _ _ _, e, _, _ => nomatch e
  | _, _, _, _, .cons _ _ _, .nil, e, _, _ => nomatch e
  | _, _, _, _, .cons x t r, .cons y u q, e, i, h => by
    refine PySem.W.kat_cons (SeqAt.EqAt.int_int x t y u prog w _ _ ?_)
    refine PySem.W.kat_go (fun e1 => ?_) (fun e1 => ?_)
    · have ex : x = y := by simpa using e1
      refine PySem.W.kat_yes (kat_ints r q (by simpa using e) _ ?_)
      unfold lexI at h
      rw [if_pos ex] at h
      exact h
    · have ex : ¬ x = y := by simpa using e1
      unfold lexI at h
      rw [if_neg ex] at h
      exact PySem.W.kat_no (TS.oneLt_ints _ h)
theorem tups_firsts {h : Heap} {d : Nat} (hd : 1 ≤ d) : ∀ {vs : List Value}, (∀ v ∈ vs, ∃ ns, IsTI h v ns ∧ ns.length = d) → ∃ fs : List Value, PySem.W.KatTups h vs fs ∧ fs.length = vs.length ∧ ∀ f ∈ fs, ∃ x t, f = Value.int x t
  | [], _ => ⟨[], PySem.W.KatTups.nil, rfl, fun _ hm => by simp at hm⟩
  | v :: vs, hp => by
    obtain ⟨fs, h1, h2, h3⟩ := tups_firsts hd (vs := vs) fun v' hm => hp v' (List.mem_cons_of_mem _ hm)
    obtain ⟨ns, ⟨a, o, xs, n, rfl, ho, hc, hdt, hi⟩, hl⟩ := hp v List.mem_cons_self
    obtain ⟨y, ys, e⟩ : ∃ y ys, xs.toList = y :: ys := by
      cases q : xs.toList with
      | nil =>
        rw [q] at hi
        have := hi.length
        simp at this
        omega
      | cons y ys => exact ⟨y, ys, rfl⟩
    obtain ⟨m, t, hy⟩ := SrtO.ints_mem hi y (by rw [e]; exact List.mem_cons_self)
    refine ⟨y :: fs, PySem.W.KatTups.cons ho hc hdt ?_ h1, by simp [h2], fun f hm => ?_⟩
    · rw [← Array.getElem?_toList, e]
      rfl
    · rcases List.mem_cons.mp hm with z | z
      · rw [z]; exact ⟨m, t, hy⟩
      · exact h3 f z
theorem tup_cmp {vs : List Value} {k : Value → List Int} {d : Nat} (hp : ∀ v ∈ vs, IsTI s.heap v (k v) ∧ (k v).length = d) : SrtO.Cmp prog w A s (tuples' true) (fun p => p.1 ∈ vs) (SrtO.lt2 fun v u => lexI (k v) (k u)) := by
  intro p q hm hm'
  obtain ⟨h1, l1⟩ := hp _ hm
  obtain ⟨h2, l2⟩ := hp _ hm'
  show wpAny (model prog w) A (keyLt' (tuples' true) p.1 q.1) (fun r s' => s' = s ∧ r = lexI (k p.1) (k q.1)) (fun _ _ => False) s
  generalize k p.1 = x at h1 l1 ⊢
  generalize k q.1 = y at h2 l2 ⊢
  obtain ⟨a, o, xs, n, e, ho, hc, hd, hi⟩ := h1
  obtain ⟨a', o', xs', n', e', ho', hc', hd', hi'⟩ := h2
  rw [e, e']
  refine PySem.W.kat_lt ho hd ho' hd' ?_
  have z1 : xs.size = d := by rw [← Array.length_toList, hi.length, l1]
  have z2 : xs'.size = d := by rw [← Array.length_toList, hi'.length, l2]
  have fin : decide (xs.size < xs'.size) = false := decide_eq_false (by omega)
  rw [fin]
  exact kat_ints hi hi' (by rw [l1, l2]) 0 ⟨rfl, rfl⟩
theorem IsTI.keeps {h h' : Heap} {v : Value} {ns : List Int} (p : IsTI h v ns) (k : ∀ b o, h.get? b = some o → o.cls = .type "tuple" → h'.get? b = some o) : IsTI h' v ns := by
  obtain ⟨a, o, xs, n, e, ho, hc, r⟩ := p
  exact ⟨a, o, xs, n, e, k _ _ ho hc, hc, r⟩
theorem tups_sortable {a : Addr} {vs : List Value} {k : Value → List Int} {d : Nat} (h0 : 0 < vs.length) (hd : 1 ≤ d) (hp : ∀ v ∈ vs, IsTI s.heap v (k v) ∧ (k v).length = d) (ha : ∀ o, s.heap.get? a = some o → o.cls ≠ .type "tuple") :
    SrtO.SortableO prog w A s a vs fun v u => lexI (k v) (k u) := by
  intro h' keep
  have hp' : ∀ v ∈ vs, IsTI h' v (k v) ∧ (k v).length = d := fun v hm => ⟨(hp v hm).1.keeps fun b o e c => keep b o (fun z => by subst z; exact ha o e c) e, (hp v hm).2⟩
  obtain ⟨fs, h1, h2, h3⟩ := tups_firsts hd fun v hm => ⟨_, hp' v hm⟩
  refine ⟨tuples' true, fun Q E hq => ?_, tup_cmp hp'⟩
  refine PySem.W.kat_kind (T := .type "int") h1 (by omega) (fun f hm => ?_) (by rfl) ?_
  · obtain ⟨x, t, rfl⟩ := h3 f hm
    exact PySem.W.Looks.now
  · have e : (Value.type "int" != Value.type "tuple") = true := by first | decide +kernel | rfl | decide
    rw [e]
    exact hq
theorem swo_lexI (k : Value → List Int) : SrtO.Swo fun v u => lexI (k v) (k u) := ⟨fun x y h => lexI_anti h, fun x y z h1 h2 => lexI_trans h1 h2⟩
end
theorem refs_are' : ∀ {ts : List (Addr × List Int)} {us : List Value}, Vals (ts.map fun t => V.ref t.1) us → us = ts.map fun t => Value.ref t.1
  | [], _, .nil => rfl
  | _ :: _, _, .cons r q => by
    cases r
    rw [refs_are' q]
    rfl
theorem refs_vals' : ∀ ts : List (Addr × List Int), Vals (ts.map fun t => V.ref t.1) (ts.map fun t => Value.ref t.1)
  | [] => .nil
  | t :: ts => .cons rfl (refs_vals' ts)
def rSrtT (K : PySem.W.Frag) : List V → Hp → VK → Prop := fun vs H Q => ∃ (a : Addr) (ts : List (Addr × List Int)) (d : Nat), vs = [V.ref a] ∧ SqL K H a (ts.map fun t => V.ref t.1) ∧ 1 ≤ d ∧
  (∀ t ∈ ts, t.2.length = d ∧ SqT K H t.1 (t.2.map V.int)) ∧ ∀ (us : List (Addr × List Int)) p, us.Perm ts → (us.map (·.2)).Pairwise leL → H p = none → Q (.ref p) (upd H p (.lst (us.map fun t => V.ref t.1)))
section
variable {X : Cx}
theorem cr_srtT : CallR X (.builtin "sorted") (rSrtT X.K) := by
  intro pins s σ H vs us Q I r h
  obtain ⟨a, ts, d, rfl, hs, hd1, ht, q⟩ := h
  obtain ⟨its, rv, hl, hz⟩ := I.list hs
  rw [Vals.ref1 r]
  have e := refs_are' rv
  subst e
  have isp : ∀ t ∈ ts, IsTI s.heap (.ref t.1) t.2 := fun t hm => by
    obtain ⟨js, rj, ⟨o, ho, hc, n, hd⟩, _⟩ := I.tuple (ht t hm).2
    exact ⟨t.1, o, _, n, rfl, ho, hc, hd, by simpa using rj.ints⟩
  have hk : ∀ v ∈ ts.map (fun t => Value.ref t.1), IsTI s.heap v (tupAt s.heap v) ∧ (tupAt s.heap v).length = d := fun v hv => by
    obtain ⟨t, hm, rfl⟩ := List.mem_map.mp hv
    have := isp t hm
    rw [tupAt_is this]
    exact ⟨this, (ht t hm).1⟩
  refine SrtO.sorted_ord (swo_lexI (tupAt s.heap)) hl.isList (by rw [← rv.length]; exact hz) (fun h2 h₁ a' ha kk => tups_sortable (by omega) hd1 (fun v hv => ⟨(hk v hv).1.keeps fun b o e _ => (kk b o e).2, (hk v hv).2⟩) fun o z => ?_) fun out h1 h2 => ?_
  · have e' := z.symm.trans ha
    cases e'
    intro c
    exact absurd (Value.type.inj c) (by decide)
  · let f : Value → Addr × List Int := fun v => ((match v with | .ref b => b | _ => 0), tupAt s.heap v)
    have back : ∀ t ∈ ts, f (.ref t.1) = t := fun t hm => by
      show (t.1, tupAt s.heap (.ref t.1)) = t
      rw [tupAt_is (isp t hm)]
    have there : ∀ v ∈ out, ∃ t ∈ ts, v = .ref t.1 := fun v hv => by
      obtain ⟨t, hm, z⟩ := List.mem_map.mp (h2.perm.mem_iff.mp hv)
      exact ⟨t, hm, z.symm⟩
    have p1 : (out.map f).Perm ts := by
      have y := h2.perm.map f
      rw [List.map_map] at y
      have z : ts.map (f ∘ fun t => Value.ref t.1) = ts := by
        conv => rhs; rw [← List.map_id ts]
        exact List.map_congr_left fun t hm => back t hm
      rwa [z] at y
    have p2 : (out.map f).map (fun t => Value.ref t.1) = out := by
      rw [List.map_map]
      conv => rhs; rw [← List.map_id out]
      refine List.map_congr_left fun v hv => ?_
      obtain ⟨t, _, rfl⟩ := there v hv
      rfl
    have p3 : ((out.map f).map (·.2)).Pairwise leL := by
      rw [List.map_map]
      exact List.pairwise_map.mpr (h1.imp fun {x y} z => z)
    obtain ⟨ep, he'⟩ := PyProof.Rows.sortedAll_at s.heap (ts.map fun t => Value.ref t.1) out.toArray
    have vv := refs_vals' (out.map f)
    rw [p2] at vv
    have small : ((out.map f).map fun t => V.ref t.1).length ≤ sizeLine := by
      rw [List.length_map, p1.length_eq]
      rw [List.length_map] at hz
      exact hz
    exact ⟨.ref _, upd H (s.heap.objs.size + 1) (.lst ((out.map f).map fun t => V.ref t.1)), I.laid (t' := s.toks) (fun _ _ => PyProof.Rows.sortedAll_old) (Nat.le_succ _) ⟨small, out, ep, vv, he'⟩, rfl, q _ _ p1 p3 (I.hok.fresh (Nat.le_succ _))⟩
end
end FWY
namespace FW
open PySem PySem.Spec PyProof.Rows L2 FWY
abbrev tupD (l : List Int) : D := .tuple (l.map .int)
@[simp] def nSrtT (w : WA) : WA := fun e R => w e fun ds => ∃ (ps : List (List Int)) (d : Nat), ds = [.list (ps.map tupD)] ∧ 1 ≤ d ∧ (∀ p ∈ ps, p.length = d) ∧ ∀ qs : List (List Int), qs.Perm ps → qs.Pairwise leL → R (qs.map tupD)
section
variable {c : Amb} {H F H' F' H1 F1 H2 F2 H0 : Hp} {σ : L2.St} {e : Sg}
theorem rp_tups {K : PySem.W.Frag} : ∀ {ws : List V} {ps : List (List Int)}, RpAll K F ws (ps.map tupD) → ∃ ts : List (Addr × List Int), ws = ts.map (fun t => V.ref t.1) ∧ ps = ts.map (·.2) ∧ ∀ t ∈ ts, SqT K F t.1 (t.2.map V.int)
  | [], [], _ => ⟨[], rfl, rfl, fun t h => nomatch h⟩
  | [], _ :: _, h => nomatch h
  | _ :: _, [], h => nomatch h
  | w :: ws, p :: ps, h => by
    cases h with
    | cons h1 h2 =>
      obtain ⟨ts, e1, e2, e3⟩ := rp_tups h2
      cases h1 with
      | tup g1 g2 =>
        have := rpAll_ints_inv g2
        subst this
        exact ⟨(_, p) :: ts, by rw [e1]; rfl, by rw [e2]; rfl, fun t ht => by
          rcases List.mem_cons.mp ht with z | z
          · rw [z]; exact g1
          · exact e3 t z⟩
theorem tups_rp {K : PySem.W.Frag} : ∀ (ts : List (Addr × List Int)), (∀ t ∈ ts, SqT K F t.1 (t.2.map V.int)) → RpAll K F (ts.map fun t => V.ref t.1) ((ts.map (·.2)).map tupD)
  | [], _ => .nil
  | t :: ts, h => .cons (.tup (h t List.mem_cons_self) (rpAll_ints _)) (tups_rp ts fun t' ht => h t' (List.mem_cons_of_mem _ ht))
theorem xn_srtT {w : WA} : ∀ σ H Q, tN c (nSrtT w) σ H Q → tCB (rSrtT c.K) (tA c w) σ H Q := fun σ H Q ⟨e, F, H0, R, W, S, q, P⟩ =>
  ⟨e, F, H0, _, W, S, q, fun ds vs H1 F1 ⟨ps, d, hd, d1, hp, r⟩ x1 rv => by
    subst hd
    obtain ⟨v, rfl, q1⟩ := reps1 rv
    obtain ⟨a, ws, rfl, h1, h2⟩ := q1.list_inv
    obtain ⟨ts, rfl, rfl, h3⟩ := rp_tups h2
    refine ⟨a, ts, d, rfl, SqL.of (x1.ok.sub _ _ h1), d1, fun t ht => ⟨hp t.2 (List.mem_map.mpr ⟨t, ht, rfl⟩), same_t x1.ok.sub (h3 t ht)⟩, fun us p hpm hs hn => ?_⟩
    have x2 := Ext.loose x1.ok (.lst (us.map fun t => V.ref t.1)) hn
    exact P ((us.map (·.2)).map tupD) p _ _ _ (r _ (hpm.map _) hs) (x1.trans x2) (x1.free hn) upd_same (x1.ok.newF hn) (x1.ok.newR hn) (tups_rp us fun t ht => h3 t (hpm.mem_iff.mp ht))⟩
end
end FW
/-! FWJ: all(test of x, y for x, y in zip(a, b)), a and b tuples of numbers. -/
namespace FWJ
open PySem PySem.Spec PyProof.Rows L2 RZ
/-- the objects of a zip of two tuples, i pairs given -/
structure StZ (z TI TO i1 i2 l1 l2 : Addr) (xs ys : Array Value) (k : Nat) (h : Heap) : Prop where
  qz : IsZip h z TI TO .none
  qti : IsPair h TI (.ref i1) (.ref i2)
  qto : ∃ a b, IsPair h TO a b
  qa : h.IsTupleIter i1 l1 k
  qb : h.IsTupleIter i2 l2 k
  qla : h.IsTuple l1 xs
  qlb : h.IsTuple l2 ys
structure MidZ (z TI TO i1 i2 l1 l2 : Addr) (xs ys : Array Value) (k : Nat) (T : Addr) (h : Heap) : Prop where
  qz : IsZip h z TI TO (rawInt T)
  qti : IsPair h TI (.ref i1) (.ref i2)
  qto : ∃ a b, IsPair h TO a b
  qa : h.IsTupleIter i1 l1 (k + 1)
  qb : h.IsTupleIter i2 l2 (k + 1)
  qla : h.IsTuple l1 xs
  qlb : h.IsTuple l2 ys
  n1 : T ≠ z
  n2 : T ≠ TO
  n3 : T ≠ i1
  n4 : T ≠ i2
section
variable {P : Program} {w : World} {A : Around}
theorem zip_walk (hh : A.handled = none) (z TI TO i1 i2 l1 l2 : Addr) (D : ZipApart z TI TO i1 i2 l1 l2) (xs ys : Array Value) :
    WalksT P w A z [z, TI, TO, i1, i2, l1, l2] [z, TO, i1, i2] (min xs.size ys.size) (fun i vals => ∃ x y, xs[i]? = some x ∧ ys[i]? = some y ∧ vals = #[x, y])
      (StZ z TI TO i1 i2 l1 l2 xs ys) (MidZ z TI TO i1 i2 l1 l2 xs ys) where
  sub := fun c hc => by
    simp at hc ⊢
    rcases hc with q | q | q | q <;> simp [q]
  frame := fun i h h' st hk => by
    obtain ⟨a, b, q⟩ := st.qto
    exact ⟨hk z (by simp) _ st.qz, hk TI (by simp) _ st.qti, ⟨a, b, hk TO (by simp) _ q⟩, st.qa.at fun o e => hk i1 (by simp) o e, st.qb.at fun o e => hk i2 (by simp) o e,
      st.qla.at fun o e => hk l1 (by simp) o e, st.qlb.at fun o e => hk l2 (by simp) o e⟩
  item := fun i s Q E hi st hQ => by
    obtain ⟨a, b, q⟩ := st.qto
    have hx : i < xs.size := by omega
    have hy : i < ys.size := by omega
    refine pyNext_zipT_item D st.qz st.qti q st.qa st.qb st.qla st.qlb (Array.getElem?_eq_getElem hx) (Array.getElem?_eq_getElem hy) fun h' a1 a2 a3 a4 a5 a6 hk => ?_
    have lt : ∀ {c o}, s.heap.get? c = some o → s.heap.objs.size ≠ c := fun e => Nat.ne_of_gt (Heap.lt_size e)
    have k4 : ∀ c o, c ≠ z → c ≠ TO → c ≠ i1 → c ≠ i2 → s.heap.get? c = some o → h'.get? c = some o := hk
    refine hQ s.heap.objs.size #[xs[i], ys[i]] h' s.toks ⟨_, _, Array.getElem?_eq_getElem hx, Array.getElem?_eq_getElem hy, rfl⟩ (Nat.le_refl _) ⟨_, a5, rfl, _, rfl⟩ ?_ fun c o hc e => ?_
    · exact ⟨a1, k4 _ _ D.TIz D.TITO D.TIi1 D.TIi2 st.qti, ⟨_, _, a2⟩, a3, a4, st.qla.at fun o e => k4 _ o D.l1z D.l1TO D.l1i1 D.l1i2 e, st.qlb.at fun o e => k4 _ o D.l2z D.l2TO D.l2i1 D.l2i2 e,
        lt st.qz, lt q, (by obtain ⟨_, e, _⟩ := st.qa; exact lt e), (by obtain ⟨_, e, _⟩ := st.qb; exact lt e)⟩
    · exact k4 c o (fun x => hc (by simp [x])) (fun x => hc (by simp [x])) (fun x => hc (by simp [x])) (fun x => hc (by simp [x])) e
  go := fun elts k pos i T s Q E m hQ => by
    obtain ⟨a, b, q⟩ := m.qto
    refine wpAny_letOwnedTupleGo_zip m.qz fun h' hz' sb => hQ h' ?_ fun c o hc e => sb.extBut _ _ (fun x => hc (by simp [x])) e
    exact ⟨hz', sb.extBut _ _ D.TIz m.qti, ⟨a, b, sb.extBut _ _ D.TOz q⟩, m.qa.at fun o e => sb.extBut _ _ D.i1z e, m.qb.at fun o e => sb.extBut _ _ D.i2z e,
      m.qla.at fun o e => sb.extBut _ _ D.l1z e, m.qlb.at fun o e => sb.extBut _ _ D.l2z e⟩
  apart := fun i T h m hT => by
    simp at hT
    rcases hT with q | q | q | q
    · exact m.n1 q
    · exact m.n2 q
    · exact m.n3 q
    · exact m.n4 q
  done := fun s Q E st hQ => by
    obtain ⟨a, b, q⟩ := st.qto
    have over : xs[min xs.size ys.size]? = none ∨ ys[min xs.size ys.size]? = none := by
      rcases Nat.le_total xs.size ys.size with h | h
      · exact .inl (Array.getElem?_eq_none (by omega))
      · exact .inr (Array.getElem?_eq_none (by omega))
    exact pyNext_zipT_end hh D st.qz st.qti q st.qa st.qb st.qla st.qlb over fun h' hk => hQ h' s.toks fun c o hc e =>
      hk c o (fun x => hc (by simp [x])) (fun x => hc (by simp [x])) (fun x => hc (by simp [x])) (fun x => hc (by simp [x])) e
  self := fun i s Q E st hQ => wpAny_pyIter_zip st.qz hQ
end
/-- the element as a test of two numbers -/
def ElP (X : Cx) (scope : Scope) (xa xb : Str) (elt : Expr) (pb : Int → Int → Bool) : Prop :=
  ∀ (cenv : PySem.Env) (A' : Around) (E' : Value → Shared → Prop) (m n : Int) (t u : Tok) (s2 : Shared) (m2 : Str → Option Value), cenv.scope = scope → s2.heap.Ns cenv.locals m2 → m2 xa = some (.int m t) → m2 xb = some (.int n u) →
    wpAny (model X.prog X.w) A' (eval elt cenv) (fun y s3 => y = .bool (pb m n) ∧ Keeps s2 s3) E' s2
def atP (pb : Int → Int → Bool) (ns ms : List Int) (i : Nat) : Bool := match ns[i]?, ms[i]? with
  | some a, some b => pb a b
  | _, _ => false
theorem all_atP (pb : Int → Int → Bool) : ∀ ns ms : List Int, (List.range (min ns.length ms.length)).all (atP pb ns ms) = (ns.zip ms).all fun q => pb q.1 q.2 := fun ns ms => by
  rw [Bool.eq_iff_iff, List.all_eq_true, List.all_eq_true]
  constructor
  · rintro h ⟨a, b⟩ hq
    obtain ⟨j, hj⟩ := List.mem_iff_getElem?.mp hq
    rw [List.getElem?_zip_eq_some] at hj
    have h1 := (List.getElem?_eq_some_iff.mp hj.1).1
    have h2 := (List.getElem?_eq_some_iff.mp hj.2).1
    have := h j (List.mem_range.mpr (by omega))
    unfold atP at this
    rw [hj.1, hj.2] at this
    exact this
  · intro h j hj
    have hj := List.mem_range.mp hj
    have h1 : ns[j]? = some ns[j] := List.getElem?_eq_getElem (by omega)
    have h2 : ms[j]? = some ms[j] := List.getElem?_eq_getElem (by omega)
    unfold atP
    rw [h1, h2]
    exact h (ns[j], ms[j]) (List.mem_iff_getElem?.mpr ⟨j, by rw [List.getElem?_zip_eq_some]; exact ⟨h1, h2⟩⟩)
/-- a generator at g over the tests, to be walked from s5 on -/
def Gen2 (X : Cx) (pins : List (Addr × Obj)) (σ : L2.St) (H1 : Hp) (P : Addr) (ns ms : List Int) (pb : Int → Int → Bool) (g : Addr) (s5 : Shared) : Prop :=
  ∃ (fp wr : List Addr) (G : Array GenState → Array GenState → Prop) (Fv : Nat → Value → Prop) (St : Nat → Shared → Prop), WalksS X.prog X.w X.A.in1 g fp wr G (min ns.length ms.length) Fv St ∧ St 0 s5 ∧
    TruthOf X.prog X.w X.A.in1 Fv (atP pb ns ms) ∧ ∀ s', Moved wr G s5 s' → ∃ H2, GxR.Tabbed P H1 H2 ∧ Inv X pins σ H2 s'
section
variable {X : Cx} {pins : List (Addr × Obj)} {σ : L2.St} {H1 : Hp} {s0 : Shared} {hz : Heap}
theorem gen_two {c P z TI TO i1 i2 l1 l2 : Addr} {elt : Expr} {xa xb : Str} {gpos : Pos} {scope : Scope} {pb : Int → Int → Bool} {k : Nat} {ns ms : List Int} {xs ys : List Value} {ps : Array Value} {Q' : Value → Shared → Prop}
    (hr : Room k X.A) (TB : GxR.TabB X.base X.mg c P) (hcode : X.env.code = .ref c) (I0 : Inv X pins σ H1 s0) (kz : ∀ b o, s0.heap.get? b = some o → hz.get? b = some o) (D : ZipApart z TI TO i1 i2 l1 l2) (st : StZ z TI TO i1 i2 l1 l2 xs.toArray ys.toArray 0 hz)
    (ra : Vals (ns.map V.int) xs) (rb : Vals (ms.map V.int) ys) (hel : ElP X scope xa xb elt pb) (hP : H1 P = some (.tbl ps)) (ht : TriplesOk ps.toList)
    (hf : ∀ b ∈ [z, TI, TO, i1, i2, l1, l2], b ≠ P ∧ b < hz.objs.size) (hw : ∀ b ∈ [z, TO, i1, i2], s0.heap.objs.size ≤ b) (hQ : ∀ g s5, Gen2 X pins σ H1 P ns ms pb g s5 → Q' (.ref g) s5) :
    wpAny (model X.prog X.w) X.A (genexprCode X.env gpos (X.env.qual ++ "<genexpr>") scope) (fun code s3 => wpAny (model X.prog X.w) X.A (builtinsFor X.env.globals X.env.builtins) (fun bi s4 =>
      ∃ Ia fp wr n₀ Pt St₀ Mid pz F, Value.ref z = .ref Ia ∧ (∀ A' : Around, A'.handled = none → WalksU X.prog X.w A' Ia fp wr n₀ Pt St₀ Mid) ∧ (∀ i vals, Pt i vals → ∃ va vb, vals = #[va, vb]) ∧ St₀ 0 s4.heap ∧ (∀ b ∈ fp, b < s4.heap.objs.size) ∧ s4.heap.NoLimit ∧ cStatics ∉ wr ∧
        (∀ href : Heap, (∀ b o, s4.heap.get? b = some o → href.get? b = some o) →
          QuietGenT X.prog X.w (genEnv scope (cloFrom X.env.cells scope.names []) s4.heap.objs.size code bi X.env) xa xb [] elt (List.range s4.heap.objs.size) wr Pt pz F href) ∧
        (∀ a h5 tk gs, gs.bare = true → s4.heap.objs.size < a → h5.objs.size = a + 1 → (∀ b o, s4.heap.get? b = some o → h5.get? b = some o) →
          WalksS X.prog X.w X.A.in4 a (a :: s4.heap.objs.size :: List.range s4.heap.objs.size) (s4.heap.objs.size :: wr) (GenOnlyQ s4.gens.size) (passing pz n₀ 0).length (fun j y => ∃ i, (passing pz n₀ 0)[j]? = some i ∧ F i y)
            (GenAt X.prog X.w X.A.in4 a s4.gens.size s4.heap.objs.size (List.range s4.heap.objs.size) wr pz n₀ F) →
          GenAt X.prog X.w X.A.in4 a s4.gens.size s4.heap.objs.size (List.range s4.heap.objs.size) wr pz n₀ F 0 { s4 with gens := s4.gens.push gs, toks := tk, heap := h5 } →
          Q' (.ref a) { s4 with gens := s4.gens.push gs, toks := tk, heap := h5 })) X.xe s3) X.xe { s0 with heap := hz } := by
  have I1 : Inv X pins σ H1 { s0 with heap := hz } := I0.kept (t' := s0.toks) kz
  have hPs : hz.get? P = some { cls := .none, data := .fields ps } := I1.hok P _ hP
  have ltP : P < hz.objs.size := Heap.lt_size hPs
  refine FWG.gen_code hcode (TB.code.keeps fun b u e => I1.bk b u e) hPs ht fun code h3 tk more hx hge hP3 ht3 => ?_
  have k3 : ∀ b u, b ≠ P → hz.get? b = some u → h3.get? b = some u := fun b u hb e => hx b u hb e
  have st3 : StZ z TI TO i1 i2 l1 l2 xs.toArray ys.toArray 0 h3 := (zip_walk (P := X.prog) (w := X.w) (A := X.A) hr.hd z TI TO i1 i2 l1 l2 D xs.toArray ys.toArray).frame 0 _ _ st fun b hb o e => k3 b o (hf b hb).1 e
  obtain ⟨bm, ob, e1, e2, e3, e4, e5, e6, e7, e8⟩ := TB.bm
  have hcP : cStatics ≠ P := fun e => by
    obtain ⟨_, ⟨o', es, ep, ho, hd, _⟩, _⟩ := I1.nolimit
    rw [e, hPs] at ho
    cases ho
    cases hd
  have hcs : cStatics ∉ [z, TO, i1, i2] := fun hm => by
    have h1 := hw _ hm
    have h2 : cStatics < s0.heap.objs.size := let ⟨_, hns, _⟩ := I0.nolimit; hns.lt
    exact absurd (Nat.lt_of_lt_of_le h2 h1) (Nat.lt_irrefl _)
  have lim3 : h3.NoLimit := I1.nolimit.extBut hx hcP
  refine wpAny_builtinsFor (m := X.mg) (by rw [I1.ok.glob]; exact (I1.mod.glob.keeps I1.bk).extBut hx TB.gP) e1 e2 (k3 _ _ e4 (I1.bk _ _ e5)) e6 e7 e8 ?_
  have la := ra.length
  have lb := rb.length
  rw [List.length_map] at la lb
  have nn : min xs.toArray.size ys.toArray.size = min ns.length ms.length := by
    rw [List.size_toArray, List.size_toArray, ← la, ← lb]
  refine ⟨z, [z, TI, TO, i1, i2, l1, l2], [z, TO, i1, i2], _, _, _, _, fun _ => true, fun i y => ∃ a b, ns[i]? = some a ∧ ms[i]? = some b ∧ y = .bool (pb a b), rfl,
    fun A' hA => (zip_walk hA z TI TO i1 i2 l1 l2 D xs.toArray ys.toArray).toU, fun i vals ⟨x, y, _, _, e⟩ => ⟨x, y, e⟩, st3, fun b hb => Nat.lt_of_lt_of_le (hf b hb).2 hge, lim3, hcs, ?_, ?_⟩
  · intro href hhref
    refine ⟨fun A' E' i va vb s2 m2 _ _ _ _ _ _ => ?_, fun A' E' i va vb s2 m2 hA hv _ hn hm hm' hk => ?_⟩
    · rw [List.forIn_nil]
      exact wpAny_pure ⟨rfl, GxR.keeps_refl _⟩
    · obtain ⟨x, y, h1, h2, e⟩ := hv
      have ex : va = x ∧ vb = y := by simpa using e
      obtain ⟨rfl, rfl⟩ := ex
      have h1' : xs[i]? = some va := by simpa using h1
      have h2' : ys[i]? = some vb := by simpa using h2
      have g1 := (List.getElem?_eq_some_iff.mp h1').1
      have g2 := (List.getElem?_eq_some_iff.mp h2').1
      have b1 : (ns.map V.int)[i]? = some (V.int (ns[i]'(by omega))) := by rw [List.getElem?_map, List.getElem?_eq_getElem (by omega)]; rfl
      have b2 : (ms.map V.int)[i]? = some (V.int (ms[i]'(by omega))) := by rw [List.getElem?_map, List.getElem?_eq_getElem (by omega)]; rfl
      obtain ⟨u, hu, t, rfl⟩ := ra.get b1
      obtain ⟨u', hu', t', rfl⟩ := rb.get b2
      rw [h1'] at hu
      rw [h2'] at hu'
      cases hu
      cases hu'
      exact wpAny_mono (hel _ A' E' _ _ t t' s2 m2 rfl hn hm hm') (fun y s3 r => ⟨⟨_, _, List.getElem?_eq_getElem (by omega), List.getElem?_eq_getElem (by omega), r.1⟩, r.2⟩) fun _ _ e => e
  · intro g h5 tk5 gs hgb hlt hsz5 hk5 W5 hat
    simp only [GxR.passing_true, List.length_range] at W5
    rw [nn] at W5 hat
    refine hQ g _ ⟨_, _, _, _, _, W5.in4_1, hat, ?_, fun s' hm => ?_⟩
    · rintro j y sj Qj Ej ⟨i, hij, a, b, ha, hb, rfl⟩ hq
      obtain ⟨_, ej⟩ := List.getElem?_eq_some_iff.mp hij
      rw [List.getElem_range] at ej
      subst ej
      have e9 : atP pb ns ms j = pb a b := by unfold atP; rw [ha, hb]
      rw [e9] at hq
      exact wpAny_truthy_bool hq
    · have out : ∀ b u, s0.heap.get? b = some u → b ∉ h3.objs.size :: [z, TO, i1, i2] := fun b u e hm => by
        have hl := Heap.lt_size e
        rcases List.mem_cons.mp hm with q | q
        · have h2 : b < hz.objs.size := Heap.lt_size (kz b u e)
          rw [q] at h2
          exact absurd (Nat.lt_of_lt_of_le h2 hge) (Nat.lt_irrefl _)
        · exact absurd (Nat.lt_of_lt_of_le hl (hw b q)) (Nat.lt_irrefl _)
      have hP0 : s0.heap.get? P = some { cls := .none, data := .fields ps } := I0.hok P _ hP
      have J := GxR.inv_tab (more := more) (h' := s'.heap) (g' := s'.gens) (d' := s'.drawn) (t' := s'.toks) I0 hP (fun b u hb e => hm.heap b u (out b u e) (hk5 b u (k3 b u hb (kz b u e)))) (hm.heap P _ (out P _ hP0) (hk5 P _ hP3)) (AllBare.movedS (I0.bare.push hgb) hm)
      rw [GxR.sh_eta s0 s' hm.os] at J
      exact ⟨_, ⟨⟨ps ++ more, upd_same, ht3⟩, fun b hb => upd_ne hb⟩, J⟩
end
end FWJ
namespace FWJ
open PySem PySem.Spec PyProof.Rows L2 RZ
structure Scp (env : PySem.Env) (scope : Scope) (xa xb : Str) : Prop where
  kind : scope.kind = .function
  co : scope.isCoroutine = false
  cell : ∀ y ∈ scope.names, y.2 ≠ .cell
  dot : scope.names.lookup (".0" : Str) = some NameKind.local
  la : scope.names.lookup xa = some .local
  lb : scope.names.lookup xb = some .local
  ne : xa ≠ xb
  free : ∀ y ∈ scope.names, y.2 = .free → ∃ c, env.cells.lookup y.1 = some c
section
variable {X : Cx} {pins : List (Addr × Obj)} {σ : L2.St} {H : Hp} {s : Shared}
def tAllZ (K : PySem.W.Frag) (P : Addr) (pb : Int → Int → Bool) (ta : TA) : TE := fun σ H Q => ta σ H fun vs H1 => ∃ (a b : Addr) (ns ms : List Int), vs = [.ref a, .ref b] ∧ SqT K H1 a (ns.map V.int) ∧ SqT K H1 b (ms.map V.int) ∧ GxR.TabG H1 P ∧
  ∀ H2, GxR.Tabbed P H1 H2 → Q (.bl ((ns.zip ms).all fun q => pb q.1 q.2)) H2
theorem gen_zip {c P : Addr} {elt e1 e2 : Expr} {xa xb : Str} {pa pb' pt pz posz gpos : Pos} {kt : Nat} {scope : Scope} {pb : Int → Int → Bool} {ta : TA} {k : Nat} {Q' : Value → Shared → Prop} {R : List Int → List Int → Hp → Prop}
    (hr : Room k X.A) (hgz : Gl X "zip") (hmz : X.mg "zip" = none) (TB : GxR.TabB X.base X.mg c P) (hcode : X.env.code = .ref c) (S : Scp X.env scope xa xb) (ha : PA X [e1, e2] ta)
    (hel : ElP X scope xa xb elt pb) (hs : ∀ v, genFold (.Call (.Name "zip" pz) [e1, e2] [] posz) X.env v = pure v)
    (hz1 : starEach [e1, e2] X.env = (false, eval e1 X.env) :: starEach [e2] X.env) (hz2 : (backTo posz (starEach [e2] X.env)).any (·.1) = false) (I : Inv X pins σ H s)
    (h : ta σ H fun vs H1 => ∃ (a b : Addr) (ns ms : List Int), vs = [.ref a, .ref b] ∧ SqT X.K H1 a (ns.map V.int) ∧ SqT X.K H1 b (ms.map V.int) ∧ GxR.TabG H1 P ∧ R ns ms H1)
    (hQ : ∀ ns ms H1 g s5, R ns ms H1 → Gen2 X pins σ H1 P ns ms pb g s5 → Q' (.ref g) s5) :
    wpAny (model X.prog X.w) X.A (eval (.GeneratorExp elt [⟨.Tuple [.Name xa pa, .Name xb pb'] kt pt, .Call (.Name "zip" pz) [e1, e2] [] posz, [], 0⟩] scope gpos) X.env) Q' X.xe s := by
  refine wpAny_GeneratorExp_walksQT hr.hd S.co (closure_ok S.free) S.cell S.dot S.la S.lb S.ne S.kind (Nat.lt_of_le_of_lt (Nat.le_trans (Nat.le_add_right _ _) (Nat.le_add_right _ 5)) hr.dp) ?_ hs
  refine Call_ (ld_blt I hgz hmz PyProof.Rows.boot_zip (PyProof.Rows.callWith_type1 (thn (ha.run posz pins s σ H _ I h) fun us s1 ⟨vs, H1, I1, r1, q1⟩ => ?_) hz1 hz2))
  obtain ⟨a, b, ns, ms, rfl, hsa, hsb, ⟨ps, hP, ht⟩, q⟩ := q1
  obtain ⟨u1, u2, rfl, ru1, ru2⟩ := vals2 r1
  obtain rfl : u1 = .ref a := ru1
  obtain rfl : u2 = .ref b := ru2
  obtain ⟨xs, ra, p1, _⟩ := I1.tuple hsa
  obtain ⟨ys, rb, p2, _⟩ := I1.tuple hsb
  have tP : ∀ {d : Addr} {l : Array Value}, IsTup s1.heap d l → d ≠ P := fun {d l} t z => by
    obtain ⟨oo, e, hc1, _⟩ := t
    rw [z, show s1.heap.get? P = _ from I1.hok P _ hP] at e
    cases e
    cases hc1
  have hPs := I1.hok P _ hP
  have ltP : P < s1.heap.objs.size := Heap.lt_size (show s1.heap.get? P = some _ from hPs)
  refine call_zipT p1 p2 fun h' hz hTI hTO h1 h2 hsz hk => wpAny_pyIter_zip hz ⟨I1.nolimit.keeps hk, ?_⟩
  have far : ∀ j : Nat, s1.heap.objs.size + j ≠ P := fun j z => by
    rw [← z] at ltP
    exact absurd (Nat.lt_of_le_of_lt (Nat.le_add_right _ _) ltP) (Nat.lt_irrefl _)
  refine gen_two hr TB hcode I1 hk (PySem.W.ktu_apart s1.heap.objs.size a b p1.lt p2.lt) ⟨hz, hTI, ⟨_, _, hTO⟩, h1, h2, (show s1.heap.IsTuple a xs.toArray from p1).at fun o e => hk _ o e, (show s1.heap.IsTuple b ys.toArray from p2).at fun o e => hk _ o e⟩ ra rb hel hP ht (fun d hd => ?_) (fun d hd => ?_) fun g s5 G => hQ ns ms H1 g s5 q G
  · have l1 := p1.lt
    have l2 := p2.lt
    rw [hsz]
    have e' : d = s1.heap.objs.size + 4 ∨ d = s1.heap.objs.size + 2 ∨ d = s1.heap.objs.size + 3 ∨ d = s1.heap.objs.size ∨ d = s1.heap.objs.size + 1 ∨ d = a ∨ d = b := by simpa using hd
    rcases e' with z | z | z | z | z | z | z
    · rw [z]; exact ⟨far 4, Nat.add_lt_add_left (by decide) _⟩
    · rw [z]; exact ⟨far 2, Nat.add_lt_add_left (by decide) _⟩
    · rw [z]; exact ⟨far 3, Nat.add_lt_add_left (by decide) _⟩
    · rw [z]; exact ⟨far 0, Nat.lt_add_of_pos_right (by decide)⟩
    · rw [z]; exact ⟨far 1, Nat.add_lt_add_left (by decide) _⟩
    · rw [z]; exact ⟨tP p1, Nat.lt_of_lt_of_le l1 (Nat.le_add_right _ _)⟩
    · rw [z]; exact ⟨tP p2, Nat.lt_of_lt_of_le l2 (Nat.le_add_right _ _)⟩
  · have e' : d = s1.heap.objs.size + 4 ∨ d = s1.heap.objs.size + 3 ∨ d = s1.heap.objs.size ∨ d = s1.heap.objs.size + 1 := by simpa using hd
    rcases e' with z | z | z | z
    · rw [z]; exact Nat.le_add_right _ _
    · rw [z]; exact Nat.le_add_right _ _
    · rw [z]; exact Nat.le_refl _
    · rw [z]; exact Nat.le_add_right _ _
theorem pe_allZ {c P : Addr} {elt e1 e2 : Expr} {xa xb : Str} {pa pb' pt p pz posz pos gpos : Pos} {kt : Nat} {scope : Scope} {pb : Int → Int → Bool} {ta : TA} {k : Nat}
    (hr : Room k X.A) (hg : Gl X "all") (hm : X.mg "all" = none) (hb : bootBuiltins "all" = some (.builtin "all")) (hgz : Gl X "zip") (hmz : X.mg "zip" = none) (TB : GxR.TabB X.base X.mg c P) (hcode : X.env.code = .ref c) (S : Scp X.env scope xa xb) (ha : PA X [e1, e2] ta)
    (hel : ElP X scope xa xb elt pb) (hs : ∀ v, genFold (.Call (.Name "zip" pz) [e1, e2] [] posz) X.env v = pure v)
    (hz1 : starEach [e1, e2] X.env = (false, eval e1 X.env) :: starEach [e2] X.env := by rfl) (hz2 : (backTo posz (starEach [e2] X.env)).any (·.1) = false := by rfl)
    (he : starEach [.GeneratorExp elt [⟨.Tuple [.Name xa pa, .Name xb pb'] kt pt, .Call (.Name "zip" pz) [e1, e2] [] posz, [], 0⟩] scope gpos] X.env = (false, eval (.GeneratorExp elt [⟨.Tuple [.Name xa pa, .Name xb pb'] kt pt, .Call (.Name "zip" pz) [e1, e2] [] posz, [], 0⟩] scope gpos) X.env) :: starEach [] X.env := by rfl) :
    PE X (.Call (.Name "all" p) [.GeneratorExp elt [⟨.Tuple [.Name xa pa, .Name xb pb'] kt pt, .Call (.Name "zip" pz) [e1, e2] [] posz, [], 0⟩] scope gpos] [] pos) (tAllZ X.K P pb ta) := by
  refine ⟨fun pins s σ H Q I h => ?_⟩
  refine wpAny_Call_Name_kw (ld_blt I hg hm hb ?_)
  refine PyProof.Rows.callWith_builtin1 ?_ he (by rfl)
  rw [he]
  show wpAny _ _ (spliced ((false, eval _ X.env) :: backTo pos (starEach [] X.env))) _ _ s
  refine Calls.spliced_cons (gen_zip (R := fun ns ms H1 => ∀ H2, GxR.Tabbed P H1 H2 → Q (.bl ((ns.zip ms).all fun q => pb q.1 q.2)) H2) hr hgz hmz TB hcode S ha hel hs hz1 hz2 I h fun ns ms H1 g s5 q hG => Calls.spliced_nil ?_)
  obtain ⟨fp, wr, G, Fv, St, W, hst, htr, hI⟩ := hG
  refine call_all_walkS (W.self 0 _ _ _ hst ⟨g, fp, wr, G, _, Fv, St, _, rfl, W, hst, htr, fun s' hmv => ?_⟩)
  obtain ⟨H2, hT, J⟩ := hI s' hmv
  exact ⟨.bl _, H2, J, rfl, by rw [all_atP pb ns ms]; exact q H2 hT⟩
end
/-- low < high -/
theorem el_less {X : Cx} {scope : Scope} {xa xb : Str} {p1 p2 p3 : Pos} (hk : scope.kind = .function) (ha : scope.names.lookup xa = some .local) (hb : scope.names.lookup xb = some .local) (da : (xa == ("__debug__" : Str)) = false) (db : (xb == ("__debug__" : Str)) = false) :
    ElP X scope xa xb (.Compare (.Name xa p1) [.Lt] [.Name xb p2] p3) fun m n => decide (m < n) := by
  intro cenv A' E' m n t u s2 m2 hs hn h1 h2
  have kk : cenv.scope.kind = .function := by rw [hs]; exact hk
  refine wpAny_Compare1 (wpAny_Name (wpAny_loadName_local kk (show cenv.scope.names.lookup xa = _ by rw [hs]; exact ha) hn h1 ?_) da)
  refine wpAny_Name (wpAny_loadName_local kk (show cenv.scope.names.lookup xb = _ by rw [hs]; exact hb) hn h2 ?_) db
  exact PyProof.Rows.lt_int ⟨rfl, GxR.keeps_refl _⟩
end FWJ
namespace FW
open PySem PySem.Spec PyProof.Rows L2 FWJ
@[simp] def dAllZ (w : WA) : W := fun e R => w e fun ds => ∃ ns ms : List Int, ds = [.tuple (ns.map .int), .tuple (ms.map .int)] ∧ R (.bool ((ns.zip ms).all fun q => decide (q.1 < q.2)))
section
variable {c : Amb} {H F H2 : Hp}
theorem xd_allZ {w : WA} {P : Addr} (hP : P ∈ c.Ps ∧ ∀ q, (P, q) ∉ c.g.Ls) : ∀ σ H Q, tD c (dAllZ w) σ H Q → tAllZ c.K P (fun m n => decide (m < n)) (tA c w) σ H Q := fun σ H Q ⟨e, F, H0, R, W, S, q, P'⟩ =>
  ⟨e, F, H0, _, W, S, q, fun ds vs H1 F1 ⟨ns, ms, hd, r⟩ x1 rv => by
    subst hd
    obtain ⟨v, u, rfl, q1, q2⟩ := reps2 rv
    obtain ⟨a, ws, rfl, h1, h2⟩ := q1.tup_inv
    obtain ⟨b, zs, rfl, h3, h4⟩ := q2.tup_inv
    have e1 := rpAll_ints_inv h2
    have e2 := rpAll_ints_inv h4
    subst e1 e2
    exact ⟨a, b, ns, ms, rfl, same_t x1.ok.sub h1, same_t x1.ok.sub h3, (x1.ok.tab P hP.1).1.g, fun H2 T => P' _ _ H2 F1 r (x1.trans (Ext.tabbed x1.ok hP T)) .bl⟩⟩
end
end FW
namespace FW
open PySem PySem.Spec PyProof.Rows L2
/-- a def whose last parameter has a number as its default -/
abbrev FunQ (K : PySem.W.Frag) (x : Str) (st : Stmt) (i : Int) (f : Addr) (fd : FuncData) : Prop := FunD K x x (defArgs st) (defBody st) (defScope st) [V.int i] [] f fd
section
variable {P : Program} {w : World} {g : Glb} {mg : Str → Option Value} {base : Heap} {x : Str} {st : Stmt} {f : Addr} {fd : FuncData} {N ps : List Str} {k : Nat} {wb : WS} {i : Int}
theorem calDd {f0 : Fd} (Fn : FunQ g.K x st i f fd) (mgf : mg x = some (.ref f)) (b : ∃ ds, Vals ([V.int i].drop 0) ds ∧ Binds g.K fd ps ds) (S : FnScope N ps (defScope st)) (hlen : ∀ ds R, f0 ds R → ds.length = ps.length)
    (hb : ∀ (cdv : Value) (A : Around) (outer : List PySem.Env) (s : Shared) (H : Hp) (E : XK) (r a : Addr) (ns : List Int), Room k (A.deeper (envOfC x (defScope st) s.heap.objs.size f cdv)) →
      PSs (cxOf CX0 P w g.K mg base N x (defScope st) f cdv A outer s H E).nox (defBody st) (sD ⟨g, r, a, ns⟩ E wb))
    (hp : ∀ ds R, f0 ds R → wb { nx := fun _ => R .none, rt := R } (startD N ds)) : C8.Cal P w g.K mg base (k + 1) x (spD g f0) [V.int i] := by
  obtain ⟨its, hv, hbn⟩ := b
  refine ⟨f, fd, ps, its, Fn.ok S (fun vs H Q E h => ?_) (fun cdv A outer s H vs Q E hr h => ?_), mgf, Fn.kp, hbn, hv⟩
  · obtain ⟨c, F, ds, R, _, _, rv, h, _⟩ := h
    rw [rv.length]; exact hlen ds R h
  · obtain ⟨⟨g', r, a, ns⟩, F, ds, R, hg, W, rv, h, P'⟩ := h
    have hg' : g' = g := hg
    subst hg'
    refine ⟨_, (hb cdv A outer s H E r a ns hr).nox, startD N ds, F, H, F, _, Ext.refl W, rep_start rv, hp ds R h, ?_⟩
    exact ⟨fun e σ H' F' q x S' => P' _ _ H' F' q x .non, fun d v H' F' q x rv => P' d v H' F' q x rv, fun _ _ _ _ _ z => z.elim, fun _ _ _ _ z => z.elim, fun _ _ _ _ z => z.elim, fun _ _ _ z => z.elim, fun _ z => z.elim, fun _ _ _ _ z => z.elim, fun z => nomatch z⟩
end
section
variable {c : Amb}
@[simp] def withI (f : Fd) (i : Int) : Fd := fun ds R => f (ds ++ [.int i]) R
theorem reps_app {F : Hp} : ∀ {vs us : List V} {ds es : List D}, RepVs c F vs ds → RepVs c F us es → RepVs c F (vs ++ us) (ds ++ es)
  | _, _, _, _, .nil, h => h
  | _, _, _, _, .cons a b, h => .cons a (reps_app b h)
theorem xd_callI {f : Fd} {w : WA} {i : Int} : ∀ σ H Q, tD c (dCall (withI f i) w) σ H Q → tCall (spD c.g f) [V.int i] E0 (tA c w) σ H Q := fun σ H Q ⟨e, F, H0, R, W, S, q, P⟩ =>
  ⟨e, F, H0, _, W, S, q, fun ds vs H1 F1 q1 x1 r1 => ⟨c, F1, _, R, rfl, x1.ok, reps_app r1 (.cons .int .nil), q1, P.ext x1⟩⟩
end
end FW
/-! FWK: x in a list of int tuples. -/
namespace FWK
open PySem PySem.Spec PyProof.Rows L2
section
variable {X : Cx}
def rInD (K : PySem.W.Frag) (neg : Bool) : R2 := fun x y H Q => ∃ d ds, Dp K H x d ∧ Dp K H y (.list ds) ∧ SeqAt.shaped d = true ∧ SeqAt.shaped (.list ds) = true ∧ Q (.bl (if neg = true then !(ds.any fun z => PyData.eqv z d) else ds.any fun z => PyData.eqv z d)) H
theorem op_inD (hu : X.A.units + 65 < cLine) : OpR X (compareOp .In) (rInD X.K false) := by
  intro pins s σ H x y v u Q I rx ry h
  obtain ⟨d, ds, hd, he, sd, se, q⟩ := h
  obtain ⟨as, r1⟩ := Dp.reads I d x v hd rx
  obtain ⟨bs, r2⟩ := Dp.reads I _ y u he ry
  exact SeqAt.in_list_reads r2 r1 (SeqAt.canLay_of_shaped se) (SeqAt.canLay_of_shaped sd) (room_in_shaped sd hu) ⟨.bl _, H, I, rfl, q⟩
theorem op_notInD (hu : X.A.units + 65 < cLine) : OpR X (compareOp .NotIn) (rInD X.K true) := by
  intro pins s σ H x y v u Q I rx ry h
  obtain ⟨d, ds, hd, he, sd, se, q⟩ := h
  obtain ⟨as, r1⟩ := Dp.reads I d x v hd rx
  obtain ⟨bs, r2⟩ := Dp.reads I _ y u he ry
  exact SeqAt.notIn_list_reads r2 r1 (SeqAt.canLay_of_shaped se) (SeqAt.canLay_of_shaped sd) (room_in_shaped sd hu) ⟨.bl _, H, I, rfl, q⟩
theorem room65 {k : Nat} {A : Around} (hr : Room k A) : A.units + 65 < cLine := by
  have := hr.un
  omega
end
end FWK
namespace FW
open PySem PySem.Spec PyProof.Rows L2
section
variable {c : Amb}
@[simp] def rdInT (neg : Bool) : D → D → (D → Prop) → Prop := fun x y R => ∃ (p : List Int) (ps : List (List Int)), x = tupD p ∧ y = .list (ps.map tupD) ∧ R (.bool (if neg = true then !decide (p ∈ ps) else decide (p ∈ ps)))
theorem eqvAll_intsT : ∀ {a b : List Int}, PyData.eqvAll (a.map .int) (b.map .int) = decide (a = b)
  | [], [] => by simp [PyData.eqvAll]
  | [], _ :: _ => by simp [PyData.eqvAll]
  | _ :: _, [] => by simp [PyData.eqvAll]
  | x :: a, y :: b => by
    simp only [List.map_cons, PyData.eqvAll, PyData.eqv, eqvAll_intsT (a := a) (b := b)]
    by_cases h : x = y <;> simp [h]
theorem eqv_tups {a b : List Int} : PyData.eqv (tupD a) (tupD b) = decide (a = b) := by
  simp only [tupD, PyData.eqv, eqvAll_intsT]
theorem eqvAll_tups : ∀ {a b : List (List Int)}, PyData.eqvAll (a.map tupD) (b.map tupD) = decide (a = b)
  | [], [] => by simp [PyData.eqvAll]
  | [], _ :: _ => by simp [PyData.eqvAll]
  | _ :: _, [] => by simp [PyData.eqvAll]
  | x :: a, y :: b => by
    rw [List.map_cons, List.map_cons, PyData.eqvAll, eqv_tups, eqvAll_tups (a := a) (b := b)]
    by_cases h : x = y <;> simp [h]
theorem eqv_tupsL {a b : List (List Int)} : PyData.eqv (.list (a.map tupD)) (.list (b.map tupD)) = decide (a = b) := by
  rw [PyData.eqv, eqvAll_tups]
theorem any_tups {p : List Int} (ps : List (List Int)) : ((ps.map tupD).any fun z => PyData.eqv z (tupD p)) = decide (p ∈ ps) := by
  rw [Bool.eq_iff_iff, decide_eq_true_eq, List.any_eq_true]
  constructor
  · rintro ⟨z, hz, e⟩
    obtain ⟨q, hq, rfl⟩ := List.mem_map.mp hz
    rw [eqv_tups] at e
    exact of_decide_eq_true e ▸ hq
  · intro h
    exact ⟨_, List.mem_map_of_mem h, by rw [eqv_tups]; simp⟩
theorem shaped_tupD {p : List Int} : SeqAt.shaped (tupD p) = true := (Sh.tup (n := 0) Sh.ints).ok
theorem shaped_tupsL {ps : List (List Int)} : SeqAt.shaped (.list (ps.map tupD)) = true := (Sh.lst (n := 1) fun x hx => by
  obtain ⟨q, _, rfl⟩ := List.mem_map.mp hx
  exact Sh.tup Sh.ints).ok
theorem od_inT {neg : Bool} : OpD c (FWK.rInD c.K neg) (rdInT neg) := by
  rintro H F x y d e R Q W rx ry ⟨p, ps, rfl, rfl, r⟩ P
  refine ⟨_, _, rp_dp _ _ (SeqAt.canLay_of_shaped shaped_tupD) (dp_same W.sub _ _ (rx.dp (by simp))), rp_dp _ _ (SeqAt.canLay_of_shaped shaped_tupsL) (dp_same W.sub _ _ (ry.dp (by simp))), shaped_tupD, shaped_tupsL, ?_⟩
  rw [any_tups]
  exact P.here W r .bl
end
end FW
/-! FWH: while; a list's item taken out and put behind another's; a new list of a range. -/
namespace FW
open PySem PySem.Spec PyProof.Rows L2
section
variable {c : Amb} {H F H0 H1 F1 H' F' : Hp} {σ : L2.St} {e : Sg} {X : Cx} {E : XK}
def dWhile (wt : WT) (wb : WS) : WS := fun De e => ∃ I : Nat → Sg → Prop, (∃ m, I m e) ∧ ∀ m e, I m e → wt e fun b => if b = true then wb { De with nx := fun e2 => ∃ m', m' < m ∧ I m' e2, ct := fun e2 => ∃ m', m' < m ∧ I m' e2, bk := De.nx } e else De.nx e
theorem xs_while {wt : WT} {wb : WS} : ∀ Dn σ H, sD c E (dWhile wt wb) Dn σ H → tWhile (tT c wt) (sD c E wb) Dn σ H := fun Dn σ H ⟨e, F, H0, F0, De, x, S, ⟨I, ⟨m0, i0⟩, turn⟩, K⟩ => by
  refine ⟨fun m σ H => ∃ e F, Ext c H0 F0 H F ∧ RepS c H0 σ H F e ∧ I m e, ⟨m0, e, F, x, S, i0⟩, fun m σ' H' ⟨e', F', x', S', i'⟩ => ?_⟩
  refine ⟨e', F', H0, _, x'.ok, S', turn m e' i', fun b H1 F1 r x1 => ?_⟩
  cases b with
  | true =>
    refine ⟨fun σ2 H2 => ∃ m', m' < m ∧ ∃ e F, Ext c H0 F0 H2 F ∧ RepS c H0 σ2 H2 F e ∧ I m' e, fun _ _ h => h, ?_⟩
    exact ⟨e', F1, H0, F0, _, x'.trans x1, S'.ext x'.ok x1, r, fun e4 σ4 H4 F4 ⟨m', hm, i4⟩ z S4 => ⟨m', hm, e4, F4, z, S4, i4⟩, K.rt, K.rn, K.nx, fun e4 σ4 H4 F4 ⟨m', hm, i4⟩ z S4 => ⟨m', hm, e4, F4, z, S4, i4⟩, K.ex, K.base, K.rf, K.pin⟩
  | false => exact K.nx e' σ' H1 F1 r (x'.trans x1) (S'.ext x'.ok x1)
theorem dpAll_erase {K : PySem.W.Frag} : ∀ {vs : List V} {ds : List D} (k : Nat), RpAll K F vs ds → RpAll K F (vs.eraseIdx k) (ds.eraseIdx k)
  | _, _, _, .nil => .nil
  | _, _, 0, .cons _ t => t
  | _, _, k + 1, .cons h t => .cons h (dpAll_erase k t)
/-- x.append(y.pop(e)) -/
@[simp] def dAppPop (i j : Nat) (w : W) : WS := fun De e => ∃ ds es, i ≠ j ∧ e[i]? = some (.own ds) ∧ e[j]? = some (.own es) ∧ ds.length < 1000000 ∧ es.length ≤ 1000000 ∧ w e fun k => ∃ (n : Nat) (d : D), k = .int n ∧ es[n]? = some d ∧ De.nx ((e.set j (.own (es.eraseIdx n))).set i (.own (ds ++ [d])))
theorem xs_appPop {i j : Nat} {w : W} : ∀ Dn σ H, sD c E (dAppPop i j w) Dn σ H → tDrop (tBM c.K "list" rAppend (tVar i) (tCons (tBM c.K "list" rPopAt (tVar j) (tCons (tD c w) tNil)) tNil)) Dn σ H := fun Dn σ H ⟨e, F, H0, F0, De, x, S, ⟨ds, es, hij, h, hj, hl, hle, q⟩, K⟩ => by
  obtain ⟨a, vs, h1, h2, h3, h4, h5, h6⟩ := S.own i ds h
  obtain ⟨b, us, g1, g2, g3, g4, g5, g6⟩ := S.own j es hj
  refine ⟨.ref a, h1, .inl ⟨rfl, vs, SqL.of h2⟩, .ref b, g1, .inl ⟨rfl, us, SqL.of g2⟩, e, F, H0, _, x.ok, S, q, fun d v H1 F1 ⟨n, d', hd, hn, r⟩ x1 rv => ?_⟩
  subst hd
  have S1 := S.ext x.ok x1
  obtain ⟨b', us', k1, k2, k3, k4, k5, k6⟩ := S1.own j es hj
  rw [g1] at k1
  cases k1
  obtain ⟨y, hy, ry⟩ := dpAll_at k6 hn
  have lu := dpAll_length k6
  have ln := (List.getElem?_eq_some_iff.mp hn).1
  refine ⟨b, us', n, n, y, rfl, by rw [rv.int_inv], k2, by omega, ?_, ?_, hy, ?_⟩
  · have : (n : Int) < 1000000 := by omega
    omega
  · unfold seqIndex?
    have h1 : ¬ ((n : Int) < 0) := by omega
    have h2 : ((0 : Int) ≤ (n : Int)) := by omega
    have h3 : (n : Int) < (us'.length : Int) := by omega
    simp [h1, h2, h3]
  · have x2 := (x.trans x1).mut g4 k2 k3 g5 (us'.eraseIdx n)
    have S2 := S1.mut hj g1 k3 g4 g5 (dpAll_erase n k6)
    have hi2 : (e.set j (.own (es.eraseIdx n)))[i]? = some (.own ds) := by rw [List.getElem?_set_ne (fun z => hij z.symm)]; exact h
    obtain ⟨a', vs', m1, m2, m3, m4, m5, m6⟩ := S2.own i ds hi2
    rw [h1] at m1
    cases m1
    refine ⟨a, vs', y, rfl, rfl, m2, len_lt (by rw [dpAll_length m6]; exact hl), ?_⟩
    exact K.nx _ _ _ _ r (x2.mut h4 m2 m3 h5 _) (S2.mut hi2 h1 m3 h4 h5 (dpAll_app m6 (.cons ry .nil)))
@[simp] def nLstRg (w : Sg → (Int → Int → Prop) → Prop) : WA := fun e R => w e fun a b => RgOk a b ∧ R (rngD a (b - a).toNat)
theorem xn_lstRg {w : Sg → (Int → Int → Prop) → Prop} : ∀ σ H Q, tN c (nLstRg w) σ H Q → tLstRg (tRgD c w) σ H Q := fun σ H Q ⟨e, F, H0, R, W, S, q, P⟩ =>
  ⟨e, F, H0, _, W, S, q, fun a b H1 F1 ⟨h, r⟩ x1 => ⟨h, fun p hp => by
    have x2 := Ext.loose x1.ok (.lst (rgV a b)) hp
    exact P _ p _ _ _ r (x1.trans x2) (x1.free hp) upd_same (x1.ok.newF hp) (x1.ok.newR hp) (rgV_dp a b)⟩⟩
end
end FW
/-! FWD: texts; dicts of texts and numbers. -/
namespace FWD
open PySem PySem.Spec PyProof.Rows L2
section
variable {X : Cx}
def rGetD : R2 := fun x y H Q => ∃ a kvs k v, x = .ref a ∧ H a = some (.dK kvs) ∧ y = kV k ∧ valV kvs k = some v ∧ Q v H
theorem ix_dict : IxR X rGetD := by
  intro value slice pins s σ H x y v u Q I rx ry h hs
  obtain ⟨a, kvs, k, w, rfl, e, ey, l, q⟩ := h
  cases rx
  subst ey
  obtain ⟨z, hd, vs, rel, dd⟩ := dk_rd I.hok (.inl e)
  obtain ⟨w', hw, rw'⟩ := RelO.some_of (v := w) (o := valueAt vs k) (by rw [← l]; exact rel.val k)
  exact tail_any dd.mapOf.typeIs F.slot_dict_getitem.lookup (wpAny_getItem_of (kV_is ry) dd.mapOf hw ⟨w, H, I.tok _, rw', q⟩) hs
def rNotInDc : R2 := fun x y H Q => ∃ a o, y = .ref a ∧ DGet H a x o ∧ Q (.bl (!o.isSome)) H
theorem op_notInDc (hu : X.A.units + 1 < cLine) : OpR X (compareOp .NotIn) rNotInDc := by
  intro pins s σ H x y v u Q I rx ry h
  obtain ⟨a, o, rfl, g, q⟩ := h
  cases ry
  exact d_notIn hu I g rx fun s' I' => ⟨.bl _, H, I', rfl, q⟩
end
end FWD
namespace FW
open PySem PySem.Spec PyProof.Rows L2
section
variable {c : Amb} {E : XK} {H F H0 F0 H1 F1 H' F' : Hp} {σ : L2.St} {X : Cx}
/-! ### x = {..}, the name of the def's own: it is stored ahead of the block's end -/
theorem sw_dct {a b : Expr} {gs : List Comprehension} {sc : Scope} {q r : Pos} {z : Str} {m : Nat} {v : PySem.Env} (h1 : v.scope.kind = .function) (h2 : v.scope.names.lookup z = some .local) (h3 : (r.line == q.line) = true)
    (h4 : (sc.names.any fun (t, k) => t == z && (k == .local || k == .cell)) = false) : swapsWith (.DictComp a b gs sc q) (some (.Name z r)) m v = pure true := by
  have e1 : v.kindOf z = some .local := h2
  have e2 : v.blockKind = .function := by
    unfold Env.blockKind
    rw [h1]
    rfl
  unfold swapsWith
  simp only [e2, e1, h4, Expr.pos, h3]
  rfl
theorem ps_setDc {i : Nat} {z : Str} {pz pos q : Pos} {kx vx tg iter : Expr} {sc : Scope} {own : List (Str × Nat)} {wi : TI} {g : TG} {tk tv : TE} (hc : X.calm = true) (nd : X.N.Nodup) (hz : X.N[i]? = some z) (loc : X.env.scope.names.lookup z = some .local)
    (sw : swapsWith (.DictComp kx vx [⟨tg, iter, [], 0⟩] sc pos) (some (.Name z pz)) q.line X.env = pure true) (hi : PI X tg iter wi) (ok : BlkOk X.N X.env.scope sc own)
    (hg : ∀ (t : Shared) (G : Hp) (C : Addr) (l : List (Str × Addr)) (fp : List Addr), PG (X.blk t G sc (compEnvC sc l C X.env) fp) tg g)
    (hk : ∀ (t : Shared) (G : Hp) (C : Addr) (l : List (Str × Addr)) (fp : List Addr), PE (X.blk t G sc (compEnvC sc l C X.env) fp) kx tk)
    (hv : ∀ (t : Shared) (G : Hp) (C : Addr) (l : List (Str × Addr)) (fp : List Addr), PE (X.blk t G sc (compEnvC sc l C X.env) fp) vx tv) (fs : ∀ y, foldedSetIterable iter X.env y = pure y := by intro _; rfl) :
    PS X (.Assign [.Name z pz] (.DictComp kx vx [⟨tg, iter, [], 0⟩] sc pos) q) (tAsg (tDc wi g tYes tk tv (own.map (·.2))) (gName i)) := by
  constructor
  intro pins s σ H Dn I run
  rw [exec_Assign_Name_used _ _ _ _ sw]
  apply wpAny_bind; apply wpAny_standAt; apply wpAny_bind
  show wpAny _ X.A (do
    let _ ← comprehension (.DictComp kx vx [⟨tg, iter, [], 0⟩] sc pos) sc X.env (firstIterPos [⟨tg, iter, [], 0⟩] pos) newDict false (eval iter X.env) (some (assign (.Name z pz) X.env))) _ _ s
  have run : tDc wi g tYes tk tv (own.map (·.2)) σ H fun x G => gName i x σ G Dn.nx := run
  refine wpAny_bind (thn (dc_core (Qf := fun _ t => SP X pins Dn .next t) hc nd I hi ok hg (fun _ _ _ _ _ => pts_nil) hk hv fs run fun M C t m G J qq hn fp => ?_) fun _ t hq => wpAny_pure (wpAny_pure hq))
  show wpAny _ _ (assign (.Name z pz) X.env (.ref M)) _ _ _
  obtain ⟨p0, p1, p2, p3, p4, p5⟩ := fp
  refine wpAny_assign_Name (store_ok2 (v := V.ref M) J nd hz (.inl loc) rfl (fun t2 J2 ⟨b, sb, hb⟩ => ?_) (.inr loc))
  have far : C ≠ b := by
    rcases hb with y | y
    · rw [y]
      exact p1
    · intro w
      exact p4 z b y w.symm
  exact ⟨m, hn.sameBut sb far, fun h3 sb3 => ⟨_, G, J2.turned (t' := t2.toks) (fun u o hu eu => (sb3.2 u hu).trans eu) p0 p1 p3 p4 p5, qq⟩⟩
/-! ### texts -/
theorem Rep.str {x : Str} : RepV c F (.str x) (.str x) := .inl (.str x)
@[simp] def rdAddS : D → D → (D → Prop) → Prop := fun x y R => ∃ i j : Str, x = .str i ∧ y = .str j ∧ i.length + j.length ≤ 1000000 ∧ R (.str (i ++ j))
theorem od_addS : OpD c (fun x y H Q => ∃ i j : Str, x = .str i ∧ y = .str j ∧ i.length + j.length ≤ sizeLine ∧ Q (.str (i ++ j)) H) rdAddS := by
  rintro H F x y d e R Q W rx ry ⟨i, j, rfl, rfl, hl, r⟩ P
  exact ⟨i, j, rx.str_inv, ry.str_inv, len_le hl, P.here W r Rep.str⟩
@[simp] def rdIxS : D → D → (D → Prop) → Prop := fun x y R => ∃ (z : Str) (i : Int) (k : Nat), x = .str z ∧ y = .int i ∧ z.length ≤ 1000000 ∧ atI z.cps.toList i = some k ∧ R (.str ⟨#[k]⟩)
theorem od_ixS : OpD c rIxS rdIxS := by
  rintro H F x y d e R Q W rx ry ⟨z, i, k, rfl, rfl, hl, hk, r⟩ P
  exact ⟨z, i, k, rx.str_inv, ry.int_inv, len_le hl, hk, P.here W r Rep.str⟩
@[simp] def rdStrI : List D → (D → Prop) → Prop := fun ds R => ∃ i : Int, ds = [.int i] ∧ -1000000 ≤ i ∧ i ≤ 1000000 ∧ R (.str (toString i))
theorem cd_strI : CallD c (fun xs H Q => ∃ i : Int, xs = [.int i] ∧ i.natAbs.log2 < 1920 ∧ Q (.str (toString i)) H) rdStrI := by
  rintro H F vs ds R Q W rv ⟨i, rfl, h1, h2, r⟩ P
  obtain ⟨v, rfl, q⟩ := reps1 rv
  have : i.natAbs.log2 < 1920 := by
    by_cases z : i.natAbs = 0
    · rw [z]; decide
    · have h3 : (2 : Nat) ^ 21 = 2097152 := by decide
      have h4 : i.natAbs.log2 < 21 := (Nat.log2_lt z).mpr (by omega)
      exact Nat.lt_trans h4 (by decide)
  exact ⟨i, by rw [q.int_inv], this, P.here W r Rep.str⟩
@[simp] def rdLenS : List D → (D → Prop) → Prop := fun ds R => ∃ z : Str, ds = [.str z] ∧ z.length ≤ 1000000 ∧ R (.int z.length)
theorem cd_lenS : CallD c (fun xs H Q => ∃ z : Str, xs = [.str z] ∧ z.length ≤ sizeLine ∧ Q (.int z.length) H) rdLenS := by
  rintro H F vs ds R Q W rv ⟨z, rfl, h1, r⟩ P
  obtain ⟨v, rfl, q⟩ := reps1 rv
  exact ⟨z, by rw [q.str_inv], len_le h1, P.here W r .int⟩
@[simp] def dSlS (w : W) (lo hi : WO) : W := fun e R => w e fun d => lo e fun l => hi e fun h => ∃ z : Str, d = .str z ∧ z.length ≤ 1000000 ∧ R (.str (cutS z l h))
theorem xd_slS {w : W} {lo hi : WO} : ∀ σ H Q, tD c (dSlS w lo hi) σ H Q → tSl rSlS (tD c w) (tO c lo) (tO c hi) σ H Q := fun σ H Q ⟨e, F, H0, R, W, S, q, P⟩ =>
  ⟨e, F, H0, _, W, S, q, fun d v H1 F1 q1 x1 r1 => ⟨e, F1, H0, _, x1.ok, S.ext W x1, q1, fun l H2 F2 q2 x2 => ⟨e, F2, H0, _, x2.ok, (S.ext W x1).ext x1.ok x2, q2, fun h H3 F3 ⟨z, hd, hl, q3⟩ x3 => by
    subst hd
    exact ⟨z, r1.str_inv, len_le hl, P _ _ _ _ q3 ((x1.trans x2).trans x3) Rep.str⟩⟩⟩⟩
/-- a text's method -/
def MethS (c : Amb) (r : V → List V → Hp → VK → Prop) (rd : Str → List D → (D → Prop) → Prop) : Prop := ∀ (H F : Hp) (z : Str) (vs : List V) (ds : List D) (R : D → Prop) (Q : VK), Wok c H F → RepVs c F vs ds → rd z ds R → Post c H F R Q → r (.str z) vs H Q
@[simp] def dMethS (rd : Str → List D → (D → Prop) → Prop) (w : W) (wa : WA) : W := fun e R => w e fun d => ∃ z, d = .str z ∧ wa e fun ds => rd z ds R
theorem xd_methS {r : V → List V → Hp → VK → Prop} {rd : Str → List D → (D → Prop) → Prop} (hm : MethS c r rd) {w : W} {wa : WA} : ∀ σ H Q, tD c (dMethS rd w wa) σ H Q → tBM c.K "str" r (tD c w) (tA c wa) σ H Q := fun σ H Q ⟨e, F, H0, R, W, S, q, P⟩ =>
  ⟨e, F, H0, _, W, S, q, fun d v H1 F1 ⟨z, hd, q1⟩ x1 r1 => by
    subst hd
    refine ⟨?_, e, F1, H0, _, x1.ok, S.ext W x1, q1, fun ds vs H2 F2 q2 x2 r2 => ?_⟩
    · rw [r1.str_inv]
      rfl
    · rw [r1.str_inv]
      exact hm H2 F2 z vs ds R Q x2.ok r2 q2 (P.ext (x1.trans x2))⟩
theorem rp_strs {K : PySem.W.Frag} : ∀ ys : List Str, RpAll K F (ys.map V.str) (ys.map PyData.str)
  | [] => .nil
  | y :: ys => .cons (.str y) (rp_strs ys)
theorem strs_inv {K : PySem.W.Frag} : ∀ (ys : List Str) (vs : List V), RpAll K F vs (ys.map PyData.str) → vs = ys.map V.str
  | [], _, h => by cases h; rfl
  | y :: ys, _, h => by
    cases h with
    | cons h1 h2 =>
      cases h1
      rw [strs_inv ys _ h2]
      rfl
@[simp] def rdSplit : Str → List D → (D → Prop) → Prop := fun z ds R => ∃ b : Str, ds = [.str b] ∧ (b.length == 0) = false ∧ z.length ≤ 100000 ∧ R (.list ((Txt.split z b).map .str))
theorem md_split : MethS c (fun x xs H Q => ∃ a b, x = .str a ∧ xs = [.str b] ∧ (b.length == 0) = false ∧ a.length + 2 ≤ sizeLine ∧ rNewStrs (Txt.split a b) H Q) rdSplit := by
  rintro H F z vs ds R Q W rv ⟨b, rfl, h0, hl, r⟩ P
  obtain ⟨v, rfl, q⟩ := reps1 rv
  exact ⟨z, b, rfl, by rw [q.str_inv], h0, len_le (by omega), P.newLst W (rp_strs _) r⟩
@[simp] def rdJoin : Str → List D → (D → Prop) → Prop := fun z ds R => ∃ ys : List Str, ds = [.list (ys.map .str)] ∧ (ys.map (·.length)).sum + ys.length * z.length ≤ 16777216 ∧ R (.str (Txt.join z ys))
theorem md_join : MethS c (fun x xs H Q => ∃ a p, ∃ ys : List Str, x = .str a ∧ xs = [.ref p] ∧ (SqL c.K H p (ys.map V.str) ∨ SqT c.K H p (ys.map V.str)) ∧ (ys.map (·.length)).sum + ys.length * a.length ≤ 16777216 ∧ Q (.str (Txt.join a ys)) H) rdJoin := by
  rintro H F z vs ds R Q W rv ⟨ys, rfl, hl, r⟩ P
  obtain ⟨v, rfl, q⟩ := reps1 rv
  obtain ⟨a, us, rfl, h1, h2⟩ := q.list_inv
  have e := strs_inv ys us h2
  subst e
  exact ⟨z, a, ys, rfl, rfl, .inl (SqL.of (W.sub _ _ h1)), hl, P.here W r Rep.str⟩
/-! ### x in a list of data -/
@[simp] def rdInG (neg : Bool) : D → D → (D → Prop) → Prop := fun x y R => ∃ ds, y = .list ds ∧ SeqAt.shaped x = true ∧ SeqAt.shaped (.list ds) = true ∧ x ≠ .dict [] ∧ R (.bool (if neg = true then !(ds.any fun z => PyData.eqv z x) else ds.any fun z => PyData.eqv z x))
theorem od_inG {neg : Bool} : OpD c (FWK.rInD c.K neg) (rdInG neg) := by
  rintro H F x y d e R Q W rx ry ⟨ds, rfl, s1, s2, n, r⟩ P
  exact ⟨_, _, rp_dp _ _ (SeqAt.canLay_of_shaped s1) (dp_same W.sub _ _ (rx.dp n)), rp_dp _ _ (SeqAt.canLay_of_shaped s2) (dp_same W.sub _ _ (ry.dp (by simp))), s1, s2, P.here W r .bl⟩
/-! ### dicts -/
def getM (m : List (Str × Int)) (k : Str) : Option Int := (m.find? fun p => decide (p.1 = k)).map (·.2)
def putM (m : List (Str × Int)) (k : Str) (v : Int) : List (Str × Int) := if (m.any fun p => decide (p.1 = k)) = true then m.map (fun p => if p.1 = k then (p.1, v) else p) else m ++ [(k, v)]
theorem inr_dec {a b : Str} : decide ((Sum.inr a : Key) = Sum.inr b) = decide (a = b) := key_rr a b
theorem getM_val (m : List (Str × Int)) (k : Str) : valV (dicV m) (Sum.inr k) = (getM m k).map V.int := by
  unfold valV getM dicV
  rw [List.find?_map, Option.map_map, Option.map_map]
  have e : ((fun kv : Key × V => decide (kv.1 = Sum.inr k)) ∘ fun p : Str × Int => ((Sum.inr p.1 : Key), V.int p.2)) = fun p => decide (p.1 = k) := by
    funext p
    exact inr_dec
  rw [e]
  rfl
theorem putM_val (m : List (Str × Int)) (k : Str) (v : Int) : putK (dicV m) (Sum.inr k) (V.int v) = dicV (putM m k v) := by
  unfold putK putM dicV
  rw [List.any_map]
  have e : ((fun kv : Key × V => decide (kv.1 = Sum.inr k)) ∘ fun p : Str × Int => ((Sum.inr p.1 : Key), V.int p.2)) = fun p => decide (p.1 = k) := by
    funext p
    exact inr_dec
  rw [e]
  by_cases h : (m.any fun p => decide (p.1 = k)) = true
  · rw [if_pos h, if_pos h, List.map_map, List.map_map]
    refine List.map_congr_left fun p _ => ?_
    show (if (Sum.inr p.1 : Key) = Sum.inr k then ((Sum.inr p.1 : Key), V.int v) else _) = _
    by_cases z : p.1 = k
    · rw [if_pos (by rw [z]), Function.comp_apply, if_pos z]
    · rw [if_neg (fun y => z (Sum.inr.inj y)), Function.comp_apply, if_neg z]
  · rw [if_neg h, if_neg h, List.map_append]
    rfl
theorem dicD_inj {m m' : List (Str × Int)} (h : dicD m = dicD m') : m = m' := (List.map_inj_right (fun a b e => by
  simp only [Prod.mk.injEq, PyData.str.injEq, PyData.int.injEq] at e
  exact Prod.ext e.1 e.2)).mp h
theorem RepV.dic_inv {v : V} {m : List (Str × Int)} (n : m ≠ []) (h : RepV c F v (.dict (dicD m))) : ∃ a, v = .ref a ∧ F a = some (.dK (dicV m)) := by
  have h := h.dp (by
    intro z
    simp only [PyData.dict.injEq] at z
    exact n (List.map_eq_nil_iff.mp z))
  cases h with
  | dic h0 h1 h2 =>
    have := dicD_inj h1
    subst this
    exact ⟨_, rfl, h2⟩
@[simp] def rdGetM : D → D → (D → Prop) → Prop := fun x y R => ∃ (m : List (Str × Int)) (k : Str) (v : Int), x = .dict (dicD m) ∧ m ≠ [] ∧ y = .str k ∧ getM m k = some v ∧ R (.int v)
theorem od_getM : OpD c FWD.rGetD rdGetM := by
  rintro H F x y d e R Q W rx ry ⟨m, k, v, rfl, n, rfl, hg, r⟩ P
  obtain ⟨a, rfl, h⟩ := rx.dic_inv n
  exact ⟨a, dicV m, Sum.inr k, .int v, rfl, W.sub _ _ h, ry.str_inv, by rw [getM_val, hg]; rfl, P.here W r .int⟩
@[simp] def rdNotInM : D → D → (D → Prop) → Prop := fun x y R => ∃ (m : List (Str × Int)) (k : Str), y = .dict (dicD m) ∧ m ≠ [] ∧ x = .str k ∧ R (.bool (!(getM m k).isSome))
theorem od_notInM : OpD c FWD.rNotInDc rdNotInM := by
  rintro H F x y d e R Q W rx ry ⟨m, k, rfl, n, rfl, r⟩ P
  obtain ⟨a, rfl, h⟩ := ry.dic_inv n
  refine ⟨a, (getM m k).map V.int, rfl, ?_, ?_⟩
  · rw [rx.str_inv]
    have := DGet.k (k := Sum.inr k) (W.sub _ _ h)
    rw [getM_val] at this
    exact this
  · rw [Option.isSome_map]
    exact P.here W r .bl
/-! ### a dict by a comprehension, one more item set -/
theorem dct_noP {kvs : List (Key × V)} (W : Wok c H F) {a : Addr} (h : H a = some (.dK kvs)) : a ∉ c.Ps := fun hp => by
  obtain ⟨⟨ps, q, _⟩, _⟩ := W.tab a hp
  rw [h] at q; cases q
theorem dct_still {D0 : Addr} {kvs : List (Key × V)} (W : Wok c H F) (x : Ext c H F H' F') (h : H D0 = some (.dK kvs)) (hF : F D0 = none) (nr : D0 ≠ c.r) : H' D0 = some (.dK kvs) ∧ F' D0 = none := by
  refine ⟨x.keep D0 _ h nr (dct_noP W h), ?_⟩
  cases q : F' D0 with
  | none => rfl
  | some u =>
    have := x.new D0 hF (by rw [q]; simp)
    rw [h] at this; cases this
theorem Ext.mutD {D0 : Addr} (x : Ext c H F H' F') {kvs kvs' : List (Key × V)} (h0 : H D0 = none) (h2 : H' D0 = some (.dK kvs)) (n2 : F' D0 = none) (nr : D0 ≠ c.r) : Ext c H F (upd H' D0 (.dK kvs')) F' := by
  have np : D0 ∉ c.Ps := dct_noP x.ok h2
  refine ⟨⟨fun b o eb => ?_, ?_, x.ok.rF, fun P hP => ⟨?_, (x.ok.tab P hP).2⟩⟩, x.grow, fun b o eb hr hp => ?_, x.new, x.pre⟩
  · rw [upd_ne (fun z => by rw [z, n2] at eb; cases eb)]; exact x.ok.sub b o eb
  · obtain ⟨i, y, n, h1, h3, h4, h5, h6⟩ := x.ok.row
    refine ⟨i, y, n, by rw [upd_ne (fun z => nr z.symm)]; exact h1, h3, h4, h5, ?_⟩
    rcases h6 with (h6 | ⟨o, h6⟩) | h6
    · exact .inl (.inl (by rw [upd_ne (fun z => by rw [z, h2] at h6; cases h6)]; exact h6))
    · exact .inl (.inr ⟨o, by rw [upd_ne (fun z => by rw [z, h2] at h6; cases h6)]; exact h6⟩)
    · exact .inr h6
  · exact TabL.upd (x.ok.tab P hP).1 h2 (fun ps z => by cases z) (fun o u z => by cases z)
  · rw [upd_ne (fun z => by rw [z, h0] at eb; cases eb)]
    exact x.keep b o eb hr hp
/-- the turns: key and value of each -/
def dcRun (g : D → (Sg → Prop) → Prop) (wk wv : W) (R : List (Str × Int) → Prop) : List D → List (Str × Int) → Prop
  | [], m => R m
  | d :: ds, m => g d fun e => wk e fun y => wv e fun z => ∃ (k : Str) (v : Int), y = .str k ∧ z = .int v ∧ dcRun g wk wv R ds (putM m k v)
theorem putM_len (m : List (Str × Int)) (k : Str) (v : Int) : (putM m k v).length ≤ m.length + 1 := by
  unfold putM
  split
  · rw [List.length_map]; omega
  · rw [List.length_append]; exact Nat.le_refl _
theorem putM_ne (m : List (Str × Int)) (k : Str) (v : Int) : putM m k v ≠ [] := by
  unfold putM
  split
  · rename_i h
    intro z
    rw [List.map_eq_nil_iff.mp z] at h
    cases h
  · intro z
    have := congrArg List.length z
    rw [List.length_append] at this
    cases this
@[simp] def dDict (i : Nat) (wi : WA) (wg : WG) (wk wv : W) (vs : List Nat) (key : Str) (val : Int) : WS := fun De e => i < e.length ∧ wi e fun ds => ds.length ≤ 1000 ∧ dcRun (fun d k => wg d (wipeS e vs) k) wk wv (fun m => De.nx (e.set i (.val (.dict (dicD (putM m key val)))))) ds []
theorem tDc_run {wi : WA} {wg : WG} {wk wv : W} {g : TG} {vs : List Nat} (hg : gD c wg g) (hs : Stores g vs) {e : Sg} {R : List (Str × Int) → Prop} {Q : VK} (W : Wok c H F) (S : RepS c H0 σ H F e)
    (q : wi e fun ds => ds.length ≤ 1000 ∧ dcRun (fun d k => wg d (wipeS e vs) k) wk wv R ds [])
    (P : ∀ (m : List (Str × Int)) (D : Addr) (H2 F2 : Hp), R m → m.length ≤ 1000 → Ext c H F H2 F2 → H2 D = some (.dK (dicV m)) → F2 D = none → D ≠ c.r → H D = none → Q (.ref D) H2) :
    tDc (tI c wi) g tYes (tD c wk) (tD c wv) vs σ H Q :=
  ⟨e, F, H0, _, W, S, q, fun ds J H1 F1 ⟨hlen, i0⟩ x1 Y => fun D hD => by
    have n0 : F1 D = none := x1.ok.newF hD
    have nr : D ≠ c.r := x1.ok.newR hD
    have h0 : H D = none := x1.free hD
    refine ⟨fun i m H2 => m = ds.length - i ∧ i ≤ ds.length ∧ ∃ F2 acc, Ext c H F H2 F2 ∧ Same F1 F2 ∧ H2 D = some (.dK (dicV acc)) ∧ F2 D = none ∧ acc.length ≤ i ∧
        dcRun (fun d k => wg d (wipeS e vs) k) wk wv R (ds.drop i) acc,
      ⟨_, rfl, Nat.zero_le _, F1, [], x1.trans (Ext.loose x1.ok _ hD), fun _ _ h => h, upd_same, n0, Nat.le_refl _, i0⟩, ?_⟩
    rintro i m H2 ⟨rfl, hi, F2, acc, x2, s2, hD2, n2, hn, run⟩
    by_cases hlt : i < ds.length
    · refine .inr ⟨Y.go i H2 F2 hlt x2.ok s2, fun H3 => ∃ F3 acc, Ext c H F H3 F3 ∧ Same F1 F3 ∧ H3 D = some (.dK (dicV acc)) ∧ F3 D = none ∧ acc.length ≤ i + 1 ∧
        dcRun (fun d k => wg d (wipeS e vs) k) wk wv R (ds.drop (i + 1)) acc,
        fun H3 z => ⟨ds.length - (i + 1), by omega, rfl, hlt, z⟩, fun v H3 y => ?_⟩
      have hd : ds[i]? = some ds[i] := List.getElem?_eq_getElem hlt
      rw [drop_at hlt] at run
      obtain ⟨F3, x3, rv⟩ := Y.yld i _ H2 F2 v H3 hd x2.ok s2 y
      obtain ⟨d3, m3⟩ := dct_still x2.ok x3 hD2 n2 nr
      refine hs v σ H3 _ (hg v _ _ H3 F3 H0 _ _ _ x3.ok ((S.wipe vs).ext W (x2.trans x3)) rv run fun σ4 e4 r4 S4 => ?_)
      refine ⟨e4, F3, H0, _, x3.ok, S4, r4, fun y v4 H4 F4 q4 x4 rv4 => ⟨e4, F4, H0, _, x4.ok, S4.ext x3.ok x4, q4, fun z v5 H5 F5 ⟨k, w, hy, hz, r5⟩ x5 rv5 => ?_⟩⟩
      subst hy hz
      obtain ⟨d4, m4⟩ := dct_still x3.ok x4 d3 m3 nr
      obtain ⟨d5, m5⟩ := dct_still x4.ok x5 d4 m4 nr
      have len : scanBound = 4096 := rfl
      refine ⟨dicV acc, Sum.inr k, (rv4.str_inv), d5, ?_, F5, putM acc k w, (((x2.trans x3).trans x4).trans x5).mutD h0 d5 m5 nr, ((s2.trans x3.grow).trans x4.grow).trans x5.grow, ?_, m5, ?_, r5⟩
      · unfold dicV
        rw [List.length_map]
        exact len_lt (by omega)
      · rw [rv5.int_inv, putM_val]
        exact upd_same
      · have := putM_len acc k w
        omega
    · have he : i = ds.length := by omega
      subst he
      rw [List.drop_length] at run
      exact .inl ⟨Y.stop H2 F2 x2.ok s2, P acc D H2 F2 run (by omega) x2 hD2 n2 nr h0⟩⟩
theorem xs_dict {i : Nat} {wi : WA} {wg : WG} {wk wv : W} {vs : List Nat} {key : Str} {val : Int} {g : TG} {wr : WS} (hg : gD c wg g) (hs : Stores g vs) :
    ∀ Dn σ H, sD c E (dSeq (dDict i wi wg wk wv vs key val) wr) Dn σ H → tSeq (tAsg (tDc (tI c wi) g tYes (tD c wk) (tD c wv) vs) (gName i)) (tSeq (tAsg (tC (.int val)) (gSub (tVar i) (tC (.str key)) rSetD)) (sD c E wr)) Dn σ H :=
  fun Dn σ H ⟨e, F, H0, F0, De, x, S, ⟨hi, q⟩, K⟩ => by
    show tDc (tI c wi) g tYes (tD c wk) (tD c wv) vs σ H fun x H1 => gName i x σ H1 ((tSeq (tAsg (tC (.int val)) (gSub (tVar i) (tC (.str key)) rSetD)) (sD c E wr)) Dn)
    refine tDc_run hg hs x.ok S q fun m D H2 F2 r hm x2 hD hF nr h0 => ?_
    refine ⟨.ref D, by rw [List.getElem?_set_self (by rw [S.len]; exact hi)], D, _, rfl, DPut.k (k := Sum.inr key) hD (by
      unfold dicV
      rw [List.length_map]
      exact len_lt (by omega)), ?_⟩
    rw [putM_val]
    have x3 : Ext c H F (upd H2 D (.dK (dicV (putM m key val)))) F2 := x2.mutD h0 hD hF nr
    have x4 : Ext c H F (upd H2 D (.dK (dicV (putM m key val)))) (upd F2 D (.dK (dicV (putM m key val)))) := by
      refine ⟨x3.ok.freeze upd_same nr (fun ps z => by cases z), fun b o e => upd_keep hF b o (x3.grow b o e), x3.keep, fun b hb hb' => ?_, x3.pre⟩
      by_cases hp : b = D
      · rw [hp]; exact h0
      · rw [upd_ne hp] at hb'
        exact x3.new b hb hb'
    refine ⟨e.set i (.val (.dict (dicD (putM m key val)))), _, H0, F0, De, x.trans x4, (S.ext x.ok x4).set_val i (.inl (.dic (putM_ne _ _ _) rfl upd_same)), r, K⟩
theorem pe_gstr {x z : Str} {pos : Pos} (hg : Gl X x) (h : ∃ t, X.mg x = some (.str z t)) (hd : (x == ("__debug__" : Str)) = false := by decide) : PE X (.Name x pos) (tC (.str z)) := by
  obtain ⟨t, h⟩ := h
  exact pe_glob hg h ⟨t, rfl⟩ hd
/-! ### try: return f(..) except .. -/
@[simp] def dTryRet (i : Nat) (names : List Str) (wb : WXp) (ws : Addr → Str → WS) : WS := fun De e =>
  wb (fun x => x.1 ∈ names ∧ x.2 = none ∧ ∀ a, ws a x.1 (suiteEnds i De) (e.set i (.exc a))) e fun d => De.rt d
theorem xs_tryRet {i : Nat} {names : List Str} {wb : WXp} {ws : Addr → Str → WS} {cv : Value} {Wout : WX} (hm : ∀ n ∈ names, PySem.W.exmOne c.K (.ref (c.g.cls n)) cv = some true) : ∀ Dn σ H, sD c E (dTryRet i names wb ws) Dn σ H →
    tRet (tDX c (WE (wAs c.K cv i (tsD c E names ws) Wout Dn)) wb) Dn σ H := fun Dn σ H ⟨e, F, H0, F0, De, x, S, q, K⟩ => by
  refine ⟨e, F, H0, _, _, x.ok, S, q, fun d v H' F' r x' rv => K.rt d v H' F' r (x.trans x') rv, ?_⟩
  rintro ⟨n, k⟩ H' F' ⟨hn, hk, r⟩ x'
  have hk : k = none := hk
  subst hk
  refine ⟨true, hm n hn, fun _ a _ => ⟨n, hn, rfl, rfl, e.set i (.exc a), F', H0, F0, _, x.trans x', (S.ext x.ok x').set_exc i a, r a, ?_⟩, fun z => nomatch z⟩
  exact ⟨fun e2 σ2 H2 F2 q2 x2 S2 => K.nx _ _ _ _ q2 x2 (S2.set_un i none), fun d v H2 F2 q2 x2 rv => K.rt d v H2 F2 q2 x2 rv, fun ds p vs H2 F2 q2 x2 h0 h1 h2 h3 kk => K.rn ds p vs H2 F2 q2 x2 h0 h1 h2 h3 kk,
    fun e2 σ2 H2 F2 q2 x2 S2 => K.bk _ _ _ _ q2 x2 (S2.set_un i none), fun e2 σ2 H2 F2 q2 x2 S2 => K.ct _ _ _ _ q2 x2 (S2.set_un i none), fun _ _ _ z => z.elim, fun _ z => z.elim, fun _ _ _ _ z => z.elim, fun z => nomatch z⟩
end
end FW
namespace FWD
open PySem PySem.Spec PyProof.Rows L2
theorem room1 {k : Nat} {A : Around} (hr : Room k A) : A.units + 1 < cLine := by
  have := hr.un
  omega
end FWD
/-! FWO: sorted(xs, key=f), f a def of the program. -/
namespace FWO
open PySem PySem.Spec PyProof.Rows L2
section
variable {X : Cx} {k : Nat} {f : Addr} {fd : FuncData} {ps : List Str} {sp : Sp}
/-- f's call within two built-ins -/
theorem call_in2 (F : FnOk X.prog X.w X.K X.mg X.base C8.CX0 k f fd ps sp) (hr : Room (k + 2) X.A) (hb : Binds X.K fd ps []) {pins : List (Addr × Obj)} {s : Shared} {σ : L2.St} {H : Hp} {Q : VK} {us : List Value} {vs : List V}
    (I : Inv X pins σ H s) (r : Vals vs us) (h : sp vs H Q C8.E0) : wpAny (model X.prog X.w) X.A.in1.in1 (call (.ref f) us) (EP X pins σ Q) (fun _ _ => False) s := by
  have hl : us.length = ps.length := by rw [← r.length]; exact F.len _ _ _ _ h
  have b := hb s us I.kIn (by simpa using hl)
  rw [List.append_nil] at b
  refine wpAny_call (codeAny_mono (F.run X.A.in1.in1 X.stack s H ⟨us, []⟩ us vs Q C8.E0 hr.in1.in1 I.env0.in1.in1 b r h) fun z t hq => ?_)
  cases z with
  | error e => exact hq
  | ok fl =>
    cases fl with
    | ret u => exact I.after hq
    | next => exact hq.elim
    | brk => exact hq.elim
    | cont => exact hq.elim
/-- the heap without the object at b -/
def hole (h : Heap) (b : Addr) : Heap := { h with objs := h.objs.setIfInBounds b ⟨.none, none, .freed, #[]⟩ }
theorem hole_none (h : Heap) (b : Addr) : (hole h b).get? b = none := by
  unfold hole Heap.get?
  by_cases z : b < h.objs.size
  · rw [Array.getElem?_setIfInBounds_self_of_lt z]
  · rw [Array.getElem?_eq_none (by rw [Array.size_setIfInBounds]; exact Nat.le_of_not_lt z)]
theorem hole_ne (h : Heap) {b c : Addr} (hc : c ≠ b) : (hole h b).get? c = h.get? c := by
  unfold hole Heap.get?
  rw [Array.getElem?_setIfInBounds_ne hc.symm]
/-- what is asked of a raw object beside the tracked ones -/
def Far (X : Cx) (pins : List (Addr × Obj)) (b : Addr) : Prop := b ≠ X.env.locals ∧ b ∉ X.fs ∧ (b ∈ X.ex ∨ X.s_0.heap.objs.size ≤ b) ∧ (∀ x c, X.env.cells.lookup x = some c → c ≠ b) ∧ ∀ p ∈ X.pn ++ pins, p.1 ≠ b
theorem Far.more {pins : List (Addr × Obj)} {b a : Addr} {o : Obj} (h : Far X pins b) (n : a ≠ b) : Far X ((a, o) :: pins) b := by
  refine ⟨h.1, h.2.1, h.2.2.1, h.2.2.2.1, fun p hp => ?_⟩
  rcases List.mem_append.mp hp with q | q
  · exact h.2.2.2.2 p (List.mem_append_left _ q)
  · rcases List.mem_cons.mp q with e | q
    · rw [e]; exact n
    · exact h.2.2.2.2 p (List.mem_append_right _ q)
theorem list_pin {xs : Array Value} {n : Nat} (v : Option Value) : (seqObj "list" xs n).data ≠ .cell v := by intro z; cases z
theorem in_pins {pins : List (Addr × Obj)} {s : Shared} {σ : L2.St} {H : Hp} (I : Inv X pins σ H s) {b : Addr} {xs : Array Value} {n : Nat} (hb : s.heap.get? b = some (seqObj "list" xs n)) (hn : H b = none) (hf : Far X pins b) :
    Inv X ((b, seqObj "list" xs n) :: pins) σ H s := I.pins_of fun p hp => by
  rcases List.mem_cons.mp hp with e | hp
  · rw [e]
    exact ⟨hb, hn, hf.1, hf.2.1, fun v => list_pin v⟩
  · exact I.pin p (List.mem_append_right _ hp)
theorem out_pins {pins : List (Addr × Obj)} {s : Shared} {σ : L2.St} {H : Hp} {q : Addr × Obj} (I : Inv X (q :: pins) σ H s) : Inv X pins σ H s := I.pins_of fun p hp => I.pin p (List.mem_append_right _ (List.mem_cons_of_mem _ hp))
theorem pin_at {pins : List (Addr × Obj)} {s : Shared} {σ : L2.St} {H : Hp} {b : Addr} {o : Obj} (I : Inv X ((b, o) :: pins) σ H s) : s.heap.get? b = some o ∧ H b = none := by
  have := I.pin (b, o) (List.mem_append_right _ (List.mem_cons_self ..))
  exact ⟨this.1, this.2.1⟩
/-- a raw object becomes a tracked list, another one goes -/
theorem track {pins : List (Addr × Obj)} {s : Shared} {σ : L2.St} {H : Hp} {a b : Addr} {h' : Heap} {tk n : Nat} {xs : List V} {its : List Value} (I : Inv X pins σ H s) (ha : Far X pins a) (hb : Far X pins b) (na : H a = none) (nb : H b = none)
    (keep : ∀ c o, c ≠ a → c ≠ b → s.heap.get? c = some o → h'.get? c = some o) (at_ : h'.get? a = some (seqObj "list" its.toArray n)) (r : Vals xs its) (hz : xs.length ≤ sizeLine) :
    Inv X pins σ (upd H a (.lst xs)) { s with heap := h', toks := tk } := by
  have off : ∀ c o, H c = some o → c ≠ a ∧ c ≠ b := fun c o e => ⟨fun z => (by rw [z, na] at e; cases e), fun z => (by rw [z, nb] at e; cases e)⟩
  have ch : ∀ c, c ∉ [a, b] → c ≠ a ∧ c ≠ b := fun c hc => ⟨fun z => hc (by simp [z]), fun z => hc (by simp [z])⟩
  refine I.step (g' := s.gens) (d' := s.drawn) (ch := [a, b]) (fun c hc => ?_) (fun c o _ _ hc e _ => keep c o (ch c hc).1 (ch c hc).2 e) (fun c o _ _ hc e _ => ⟨o.slots, keep c o (ch c hc).1 (ch c hc).2 e⟩)
    (fun c o hc _ n => by rw [upd_ne (ch c hc).1]; exact n) (fun c o hc e => ⟨o, keep c o (ch c hc).1 (ch c hc).2 e⟩) (fun c ys e => by rw [upd_ne (off c _ e).1]; exact e) (fun c o u e => by rw [upd_ne (off c _ e).1]; exact e)
    (fun c tt e => ⟨#[], by rw [upd_ne (off c _ e).1, e]; simp⟩) (fun m hm => ?_) (fun c u e => ?_) I.bare
  · have : c = a ∨ c = b := by simpa using hc
    rcases this with rfl | rfl
    · exact ⟨ha.2.2.1, ha.1, ha.2.2.2.1, ha.2.2.2.2⟩
    · exact ⟨hb.2.2.1, hb.1, hb.2.2.2.1, hb.2.2.2.2⟩
  · obtain ⟨o, es, ep, ho, q⟩ := hm
    exact ⟨o, es, ep, keep _ o ha.1.symm hb.1.symm ho, q⟩
  · by_cases z : c = a
    · subst z
      rw [upd_same] at e
      cases e
      exact ⟨hz, its, n, r, at_⟩
    · rw [upd_ne z] at e
      refine (I.hok c u e).stay (fun d v hd q => ?_) (fun d q => by rw [upd_ne (off d _ q).1]; exact q) fun d ys q => by rw [upd_ne (off d _ q).1]; exact q
      rcases hd with y | y
      · rw [y] at q ⊢
        exact keep c v (off c _ e).1 (off c _ e).2 q
      · exact keep d v (off d _ y).1 (off d _ y).2 q
theorem each_reads {h : Heap} : ∀ {vs : List Value} {ds : List PyData} {as : List Addr}, ReadsAll h vs ds as → W.EachIs (fun v d => ∃ as, Reads h v d as) vs ds
  | _, _, _, .nil => .nil
  | _, _, _, .cons r t => .cons ⟨_, r⟩ (each_reads t)
theorem each_zip : ∀ {xs : List V} {us : List Value} {kz : List PyData}, Vals xs us → kz.length = xs.length → W.EachIs (fun v (b : V × PyData) => RelV b.1 v) us (xs.zip kz)
  | _, _, _, .nil, _ => .nil
  | _, _, [], .cons _ _, h => by simp at h
  | _, _, d :: kz, .cons r t, h => .cons r (each_zip t (by simpa using h))
theorem vals_each : ∀ {us : List Value} {bs : List (V × PyData)}, W.EachIs (fun v (b : V × PyData) => RelV b.1 v) us bs → Vals (bs.map Prod.fst) us
  | _, _, .nil => .nil
  | _, _, .cons r t => .cons r (vals_each t)
theorem sort_key (F : FnOk X.prog X.w X.K X.mg X.base C8.CX0 k f fd ps sp) (hr : Room (k + 2) X.A) (hb : Binds X.K fd ps []) {pins : List (Addr × Obj)} {s : Shared} {σ : L2.St} {H : Hp} {l : Addr} {items : List V} {kz : List PyData}
    {Wk : Nat → List V → Hp → Prop} {Q : VK} (I : Inv X pins σ H s) (hs : SqL X.K H l items) (hz : items.length ≤ 1000000) (hkz : kz.length = items.length) (hal : W.AllAlike kz) (hso : W.Sortable kz) (hd : ∀ d ∈ kz, d.depth ≤ 64)
    (w0 : Wk 0 [] H) (turn : ∀ i x ys H', items[i]? = some x → Wk i ys H' → sp [x] H' (fun y H2 => Wk (i + 1) (ys ++ [y]) H2) C8.E0)
    (fin : ∀ ys H', Wk items.length ys H' → DpAll X.K H' ys kz ∧ ∀ p, H' p = none → Q (.ref p) (upd H' p (.lst (((items.zip kz).mergeSort (W.dataLe false Prod.snd)).map Prod.fst)))) :
    wpAny (model X.prog X.w) X.A (call (.builtin "sorted") [.ref l] [(Str.ofString "key", .ref f)]) (EP X pins σ Q) X.xe s := by
  obtain ⟨its, rv, hl, _⟩ := I.list hs
  have len : items.length = its.length := rv.length
  have hL : its.length ≤ sizeLine := by rw [← len]; exact FW.len_le hz
  refine W.sorted_of_sort hl.isList hL (PyProof.Rows.ksk_s1 _ _) (fun _ => PyProof.Rows.ksk_l1 _ _) fun E' => ?_
  rw [PyProof.Rows.ksk_t1]
  have na : H (s.heap.objs.size + 1) = none := I.hok.fresh (Nat.le_succ _)
  have fa : Far X pins (s.heap.objs.size + 1) := (I.fpOk (H' := H) (Nat.le_succ _) na).2
  have I1 : Inv X pins σ H { s with heap := W.copyHeap s.heap its } := I.kept (t' := s.toks) fun b u e => W.copyHeap_old e
  have at1 := W.copyHeap_at s.heap its
  generalize s.heap.objs.size + 1 = a at na fa at1 ⊢
  generalize W.copyHeap s.heap its = h1 at I1 at1 ⊢
  unfold PyProof.Rows.ksk_tree
  refine wpAny_bind (listItems_at at1 rfl ?_)
  obtain ⟨e1, at2⟩ : ∃ e1, (h1.update a (Obj.mapSeq fun _ => (#[] : Array Value))).get? a = some (seqObj "list" #[] e1) := ⟨_, get?_update_seq at1 fun _ => #[]⟩
  have sb := Heap.SameBut.update h1 a (Obj.mapSeq fun _ => (#[] : Array Value))
  refine wpAny_bind (listUpdate_at at1 rfl ?_ (by rw [List.size_toArray]; exact hL) (Nat.zero_le _))
  refine wpAny_bind (seqEpoch_at at2 rfl ?_)
  have I2 : Inv X pins σ H { s with heap := h1.update a (Obj.mapSeq fun _ => (#[] : Array Value)) } := Inv.turnedL (s := { s with heap := h1 }) (t' := s.toks) (ch := [a]) I1 (fun b o hb e => (sb.2 b fun z => hb (by simp [z])).trans e) fun b hb => by
    rw [List.mem_singleton.mp hb]
    exact ⟨na, fa⟩
  generalize h1.update a (Obj.mapSeq fun _ => (#[] : Array Value)) = h2 at at2 I2 ⊢
  refine wpAny_bind (wpAny_newTuple ?_ (by exact hL))
  refine wpAny_bind (wpAny_newList ?_ (Nat.zero_le _))
  refine wpAny_holding ?_
  generalize ht : ({ cls := Value.type "tuple", data := Data.seq its.toArray.toList.toArray } : Obj) = oT
  show wpAny _ _ (PyProof.Rows.ksk_rest a (.ref f) false its.toArray e1 (.ref (h2.push oT).objs.size)) _ _ { s with heap := (h2.push oT).push (seqObj "list" #[] 0) }
  have la : a < h2.objs.size := Heap.lt_size at2
  have sz : (h2.push oT).objs.size = h2.objs.size + 1 := size_push' ..
  have nk : H (h2.push oT).objs.size = none := I2.hok.fresh (by rw [sz]; exact Nat.le_succ _)
  have fk : Far X pins (h2.push oT).objs.size := (I2.fpOk (H' := H) (by rw [sz]; exact Nat.le_succ _) nk).2
  have nak : a ≠ (h2.push oT).objs.size := by rw [sz]; exact Nat.ne_of_lt (Nat.lt_succ_of_lt la)
  have I3 : Inv X pins σ H { s with heap := (h2.push oT).push (seqObj "list" #[] 0) } := Inv.kept (s := { s with heap := h2 }) (t' := s.toks) I2 fun b u e => Heap.get?_push_of_some _ (Heap.get?_push_of_some _ e)
  have at3 : ((h2.push oT).push (seqObj "list" #[] 0)).get? a = some (seqObj "list" #[] e1) := Heap.get?_push_of_some _ (Heap.get?_push_of_some _ at2)
  have atk : ((h2.push oT).push (seqObj "list" #[] 0)).get? (h2.push oT).objs.size = some (seqObj "list" #[] 0) := Heap.get?_push_size _ rfl
  generalize (h2.push oT).objs.size = q at nk fk nak atk ⊢
  generalize (h2.push oT).push (seqObj "list" #[] 0) = h3 at I3 at3 atk ⊢
  have I4 := in_pins (in_pins I3 atk nk fk) at3 na (fa.more nak.symm)
  unfold PyProof.Rows.ksk_rest
  refine wpAny_bind (wpAny_rule ?_)
  first
    | rw [List.forIn_toArray]
    | (rw [← Array.forIn_toList]; simp only [List.toList_toArray])
  refine wpAny_bind (PyProof.Rows.ksk_fold (fun i t => ∃ H' ys kA e, Inv X ((a, seqObj "list" #[] e1) :: (q, seqObj "list" kA e) :: pins) σ H' t ∧ Vals ys kA.toList ∧ ys.length = i ∧ Wk i ys H') its 0 _ ⟨H, [], #[], 0, I4, .nil, rfl, w0⟩ ?step ?done)
  case step =>
    rintro j x t hx ⟨H', ys, kA, e, J, vy, ly, wk⟩
    simp only [Nat.zero_add] at ly wk ⊢
    have hj : j < its.length := (List.getElem?_eq_some_iff.mp hx).1
    have hxv : items[j]? = some (items[j]'(by omega)) := List.getElem?_eq_getElem (by omega)
    obtain ⟨u, hu, ru⟩ := rv.get hxv
    rw [hx] at hu
    cases hu
    have ks : kA.size = j := by rw [← Array.length_toList, ← vy.length, ly]
    refine wpAny_bind (wpAny_attempt (wpAny_mono (call_in2 F hr hb J (.cons ru .nil) (turn j _ ys H' hxv wk)) (fun v t2 he => ?_) fun _ _ hF => hF.elim))
    obtain ⟨y, H2, J2, ry, w2⟩ := he
    have J3 := out_pins J2
    obtain ⟨gk, hk⟩ := pin_at J3
    obtain ⟨ga, ha⟩ := pin_at J2
    have sb2 := Heap.SameBut.update t2.heap q (Obj.mapSeq (·.push v))
    obtain ⟨c2, hc2⟩ : ∃ c2, (t2.heap.update q (Obj.mapSeq (·.push v))).get? q = some (seqObj "list" (kA.push v) c2) := ⟨_, get?_update_seq gk (·.push v)⟩
    refine wpAny_bind (listUpdate_at gk rfl ?_ (by rw [ks]; omega) (by rw [Array.size_push, ks]; omega))
    have J4 : Inv X pins σ H2 { t2 with heap := t2.heap.update q (Obj.mapSeq (·.push v)) } := Inv.turnedL (s := t2) (t' := t2.toks) (ch := [q]) (out_pins J3) (fun b o hb e => (sb2.2 b fun z => hb (by simp [z])).trans e) fun b hb => by
      rw [List.mem_singleton.mp hb]
      exact ⟨hk, fk⟩
    refine wpAny_pure ⟨rfl, H2, ys ++ [y], kA.push v, c2, in_pins (in_pins J4 hc2 hk fk) ((sb2.2 a nak).trans ga) ha (fa.more nak.symm), ?_, by rw [List.length_append, ly]; rfl, w2⟩
    rw [Array.toList_push]
    exact vy.append (.cons ry .nil)
  case done =>
    rintro t ⟨H', ys, kA, e, J, vy, ly, wk⟩
    simp only [Nat.zero_add] at ly wk
    obtain ⟨dk, hQ⟩ := fin ys H' (by rw [len]; exact wk)
    obtain ⟨gk, hk⟩ := pin_at (out_pins J)
    obtain ⟨ga, ha⟩ := pin_at J
    have J0 := out_pins (out_pins J)
    obtain ⟨as, ra⟩ := Dp.readsAll J0 kz ys kA.toList dk vy
    have each := each_reads ra
    have ks : kA.size = its.length := by rw [← Array.length_toList, ← vy.length, ly]
    refine wpAny_bind (listItems_at gk rfl ?_)
    refine W.keyH_end (κ := W.dataKind t.heap kz) (h₁ := hole t.heap q) (vs := its) (fun b o _ e => ?_) (hole_none _ _) gk ga nak.symm (W.SortsAt.data each hal hso fun d hm => ?_) ks hL fun h' tk c kp hat => ⟨rfl, ?_⟩
    · by_cases z : b = q
      · rw [z, hole_none] at e
        cases e
      · rw [hole_ne _ z] at e
        exact e
    · have := hd d hm
      have := hr.un
      show X.A.units + 1 + 1 + d.depth < cLine
      omega
    · have hp : (items.zip kz).map Prod.snd = kz := List.map_snd_zip (by omega)
      have ko : W.KeyedOut false ((items.zip kz).map Prod.snd) its (W.sortVals (W.dataKind t.heap kz) false kA.toList its) := by
        rw [hp]
        exact ⟨t.heap, kA.toList, hal, rfl, each⟩
      have ev := vals_each (W.keyedOut_each (R := fun v (b : V × PyData) => RelV b.1 v) Prod.snd ko (each_zip rv (by omega)))
      refine ⟨.ref a, _, track (tk := tk) J0 fa fk ha hk (fun c o h1 h2 e => kp c o h1 (by rw [hole_ne _ h2]; exact e)) hat ev ?_, rfl, hQ a ha⟩
      rw [List.length_map, List.length_mergeSort, List.length_zip]
      exact FW.len_le (by omega)
end
end FWO
namespace FWO
open PySem PySem.Spec PyProof.Rows L2
def rSrtKey (K : PySem.W.Frag) (sp : Sp) (vs : List V) (H1 : Hp) (Q : VK) : Prop := ∃ (l : Addr) (items : List V) (kz : List PyData) (Wk : Nat → List V → Hp → Prop), vs = [V.ref l] ∧ SqL K H1 l items ∧ items.length ≤ 1000000 ∧ kz.length = items.length ∧
  W.AllAlike kz ∧ W.Sortable kz ∧ (∀ d ∈ kz, d.depth ≤ 64) ∧ Wk 0 [] H1 ∧ (∀ i x ys H', items[i]? = some x → Wk i ys H' → sp [x] H' (fun y H2 => Wk (i + 1) (ys ++ [y]) H2) C8.E0) ∧
  ∀ ys H', Wk items.length ys H' → DpAll K H' ys kz ∧ ∀ p, H' p = none → Q (.ref p) (upd H' p (.lst (((items.zip kz).mergeSort (W.dataLe false Prod.snd)).map Prod.fst)))
def tSrtKey (K : PySem.W.Frag) (sp : Sp) (t : TA) : TE := fun σ H Q => t σ H fun vs H1 => rSrtKey K sp vs H1 Q
section
variable {X : Cx} {k j : Nat} {x : Str} {sp : Sp} {e : Expr} {t : TA}
theorem cr_srtKey {f : Addr} {fd : FuncData} {ps : List Str} (F : FnOk X.prog X.w X.K X.mg X.base C8.CX0 k f fd ps sp) (hr : Room (k + 2) X.A) (hb : Binds X.K fd ps []) : CallRK X (.builtin "sorted") [Str.ofString "key"] (fun vs zs H Q => zs = [V.ref f] ∧ rSrtKey X.K sp vs H Q) := by
  intro pins s σ H vs zs us ws Q I r rz h
  obtain ⟨rfl, l, items, kz, Wk, rfl, hs, hz, hkz, hal, hso, hd, w0, turn, fin⟩ := h
  obtain rfl := Vals.ref1 r
  obtain rfl := Vals.ref1 rz
  exact sort_key F hr hb I hs hz hkz hal hso hd w0 turn fin
theorem pe_srtKey {p p2 p3 pos : Pos} (C : C8.Cal X.prog X.w X.K X.mg X.base k x sp []) (hr : Room j X.A) (hk : k + 2 ≤ j) (hg : Gl X x) (hgs : Gl X "sorted") (hms : X.mg "sorted" = none) (ha : PA X [e] t) (hd : (x == ("__debug__" : Str)) = false := by decide)
    (he : backTo pos (starEach [e] X.env) = (false, eval e X.env) :: backTo pos (starEach [] X.env) := by rfl) (hpl : (backTo pos (starEach [e] X.env)).any (·.1) = false := by rfl)
    (hall : (backToKw pos (keywordEach [⟨some (Str.ofString "key"), .Name x p2, p3⟩] X.env)).all (·.1.isSome) = true := by rfl) (hnone : (backToKw pos (keywordEach [⟨some (Str.ofString "key"), .Name x p2, p3⟩] X.env)).any (·.1.isNone) = false := by rfl)
    (hks : (backToKw pos (keywordEach [⟨some (Str.ofString "key"), .Name x p2, p3⟩] X.env)).filterMap (·.1) = [Str.ofString "key"] := by rfl) :
    PE X (.Call (.Name "sorted" p) [e] [⟨some (Str.ofString "key"), .Name x p2, p3⟩] pos) (tSrtKey X.K sp t) := by
  obtain ⟨f, fd, ps, ds, F, hm, kp, b, d⟩ := C.ex
  cases d
  have h := pe_callBK (p := p) (pos := pos) (cr_srtKey F (hr.mono hk) b) hgs hms (by decide +kernel) ha (pk_cons (pe_glob (v := .ref f) hg hm rfl hd) pk_nil) (by decide) (by decide) he hpl hall hnone hks
  have eq : tCKw (fun vs zs H Q => zs = [V.ref f] ∧ rSrtKey X.K sp vs H Q) t (tCons (tC (.ref f)) tNil) = tSrtKey X.K sp t := by
    funext σ H Q
    show t σ H _ = t σ H _
    exact congrArg (t σ H) (funext fun vs => funext fun H1 => propext ⟨fun h => h.2, fun h => ⟨rfl, h⟩⟩)
  rw [← eq]
  exact h
end
end FWO
namespace FW
open PySem PySem.Spec PyProof.Rows L2
section
variable {c : Amb} {H F H0 : Hp} {σ : L2.St} {e : Sg}
theorem rpAll_pairs {K : PySem.W.Frag} : ∀ {ps : List (V × D)}, (∀ p ∈ ps, Rp K F p.1 p.2) → RpAll K F (ps.map Prod.fst) (ps.map Prod.snd)
  | [], _ => .nil
  | p :: ps, h => .cons (h p (List.mem_cons_self ..)) (rpAll_pairs fun q hq => h q (List.mem_cons_of_mem _ hq))
theorem zip_rp {K : PySem.W.Frag} : ∀ {vs : List V} {ds : List D}, RpAll K F vs ds → ∀ p ∈ vs.zip ds, Rp K F p.1 p.2
  | _, _, .nil, p, hp => by cases hp
  | _, _, .cons h t, p, hp => by
    rw [List.zip_cons_cons] at hp
    rcases List.mem_cons.mp hp with e | hp
    · rw [e]; exact h
    · exact zip_rp t p hp
theorem lay_all {key : D → D} : ∀ xs : List D, (∀ x ∈ xs, SeqAt.shaped (key x) = true) → PyData.canLayAll0 (xs.map key) = true
  | [], _ => rfl
  | x :: xs, h => by
    rw [List.map_cons, PyData.canLayAll0, Bool.and_eq_true]
    exact ⟨SeqAt.canLay_of_shaped (h x (List.mem_cons_self ..)), lay_all xs fun y hy => h y (List.mem_cons_of_mem _ hy)⟩
theorem le_trans' {α : Type} {k : α → D} (a b c : α) (h : W.dataLe false k a b = true) (h' : W.dataLe false k b c = true) : W.dataLe false k a c = true := (W.sortLe_total (listOrd itemOrd) false fun b => W.keyToks (k b)).trans a b c h h'
theorem le_total' {α : Type} {k : α → D} (a b : α) : (W.dataLe false k a b || W.dataLe false k b a) = true := by
  rw [Bool.or_eq_true]
  exact (W.sortLe_total (listOrd itemOrd) false fun b => W.keyToks (k b)).total a b
/-- sorted(.., key=f): the keys are data; any list of the same items that stands by the keys' order -/
@[simp] def nSrtKey (f0 : Fd) (key : D → D) (w : WA) : WA := fun e R => w e fun ds => ∃ xs : List D, ds = [.list xs] ∧ xs.length ≤ 1000000 ∧ W.AllAlike (xs.map key) ∧ W.Sortable (xs.map key) ∧ (∀ x ∈ xs, SeqAt.shaped (key x) = true ∧ x ≠ .dict []) ∧
  (∀ x ∈ xs, ∀ K : D → Prop, K (key x) → f0 [x] K) ∧ ∀ ys : List D, ys.Perm xs → ys.Pairwise (fun a b => W.dataLe false key a b = true) → R ys
theorem xn_srtKey {f0 : Fd} {key : D → D} {w : WA} : ∀ σ H Q, tN c (nSrtKey f0 key w) σ H Q → FWO.tSrtKey c.K (spD c.g f0) (tA c w) σ H Q := fun σ H Q ⟨e, F, H0, R, Wo, S, q, P⟩ =>
  ⟨e, F, H0, _, Wo, S, q, fun ds vs H1 F1 ⟨xs, hd, hl, hal, hso, hsh, hf, r⟩ x1 rv => by
    subst hd
    obtain ⟨v, rfl, q1⟩ := reps1 rv
    obtain ⟨l, items, rfl, h1, h2⟩ := q1.list_inv
    have li := dpAll_length h2
    have lay := lay_all xs fun x hx => (hsh x hx).1
    refine ⟨l, items, xs.map key, fun i ys H' => i ≤ xs.length ∧ ∃ F', Ext c H F H' F' ∧ Same F1 F' ∧ RpAll c.K F' ys ((xs.take i).map key), rfl, SqL.of (x1.ok.sub _ _ h1), by omega, by rw [List.length_map]; omega, hal, hso, fun d hd => ?_, ⟨Nat.zero_le _, F1, x1, fun _ _ h => h, .nil⟩, ?_, ?_⟩
    · obtain ⟨x, hx, rfl⟩ := List.mem_map.mp hd
      have := (hsh x hx).1
      unfold SeqAt.shaped at this
      rw [Bool.and_eq_true, decide_eq_true_eq] at this
      exact this.2
    · rintro i v ys H' hv ⟨hi, F', x', s', hy⟩
      obtain ⟨d, hd, rd⟩ := dpAll_get h2 hv
      have hm := List.mem_of_getElem? hd
      have hlt := (List.getElem?_eq_some_iff.mp hd).1
      refine ⟨c, F', [d], _, rfl, x'.ok, .cons (.inl (dp_same s' _ _ rd)) .nil, hf d hm _ rfl, ?_⟩
      intro d2 v2 H2 F2 hd2 x2 rv2
      subst hd2
      refine ⟨hlt, F2, x'.trans x2, s'.trans x2.grow, ?_⟩
      rw [List.take_add_one, hd, List.map_append]
      refine dpAll_app (dpAll_same x2.grow _ _ hy) (.cons (rv2.dp fun z => ?_) .nil)
      have := SeqAt.canLay_of_shaped (hsh d hm).1
      rw [z] at this
      cases this
    · rintro ys H' ⟨_, F', x', s', hy⟩
      rw [li, List.take_length] at hy
      refine ⟨rpAll_dp _ _ lay (dpAll_same x'.ok.sub _ _ hy), fun p hp => ?_⟩
      have ez : items.zip (xs.map key) = (items.zip xs).map (Prod.map id key) := List.zip_map_right
      have em : ((items.zip xs).mergeSort fun a b => W.dataLe false key a.2 b.2).map (Prod.map id key) = ((items.zip xs).map (Prod.map id key)).mergeSort (W.dataLe false Prod.snd) := List.map_mergeSort fun a _ b _ => rfl
      rw [ez, ← em, List.map_map]
      have pm := List.mergeSort_perm (items.zip xs) fun a b => W.dataLe false key a.2 b.2
      have so : (((items.zip xs).mergeSort fun a b => W.dataLe false key a.2 b.2)).Pairwise fun a b => W.dataLe false key a.2 b.2 = true :=
        List.pairwise_mergeSort (le := fun a b : V × D => W.dataLe false key a.2 b.2) (fun a b c h h' => le_trans' (k := key) a.2 b.2 c.2 h h') (fun a b => le_total' (k := key) a.2 b.2) _
      generalize ((items.zip xs).mergeSort fun a b => W.dataLe false key a.2 b.2) = T at pm so
      have rT : RpAll c.K F' (T.map Prod.fst) (T.map Prod.snd) := rpAll_pairs fun q hq => dp_same s' _ _ (zip_rp h2 q (pm.mem_iff.mp hq))
      have r2 := r (T.map Prod.snd) (by
        have := pm.map Prod.snd
        rw [List.map_snd_zip (by omega)] at this
        exact this) (List.pairwise_map.mpr so)
      exact P _ p _ _ F' r2 (x'.trans (Ext.loose x'.ok _ hp)) (x'.free hp) upd_same (x'.ok.newF hp) (x'.ok.newR hp) rT⟩
end
end FW
namespace FWO
open PySem PySem.Spec PyProof.Rows L2
/-! ### sorted of data -/
def rSrtD (K : PySem.W.Frag) : List V → Hp → VK → Prop := fun vs H Q => ∃ (l : Addr) (items : List V) (ds : List PyData), vs = [V.ref l] ∧ SqL K H l items ∧ DpAll K H items ds ∧ ds.length = items.length ∧ items.length ≤ 1000000 ∧ W.AllAlike ds ∧ W.Sortable ds ∧ (∀ d ∈ ds, d.depth ≤ 60) ∧
  ∀ p, H p = none → Q (.ref p) (upd H p (.lst (((items.zip ds).mergeSort (W.dataLe false Prod.snd)).map Prod.fst)))
theorem each_zip2 {P : Value → PyData → Prop} : ∀ {xs : List V} {us : List Value} {kz : List PyData}, W.EachIs P us kz → kz.length = xs.length → W.EachIs (fun v (b : V × PyData) => P v b.2) us (xs.zip kz)
  | [], _, _, .nil, _ => .nil
  | _ :: _, _, _, .nil, h => by simp at h
  | [], _, _, .cons _ _, h => by simp at h
  | x :: xs, _, _, .cons r t, h => .cons r (each_zip2 t (by simpa using h))
section
variable {X : Cx}
theorem cr_srtD (hu : X.A.units + 64 < cLine) : CallR X (.builtin "sorted") (rSrtD X.K) := by
  intro pins s σ H vs us Q I r h
  obtain ⟨l, items, ds, rfl, hs, hd, hl, hz, hal, hso, hdp, q⟩ := h
  obtain rfl := Vals.ref1 r
  obtain ⟨its, rv, pl, _⟩ := I.list hs
  obtain ⟨as, ra⟩ := Dp.readsAll I ds items its hd rv
  have hp : (items.zip ds).map Prod.snd = ds := List.map_snd_zip (by omega)
  refine W.sorted_data (bs := items.zip ds) (enc := Prod.snd) (R := fun v (b : V × PyData) => RelV b.1 v) pl.isList (each_zip rv hl) (each_zip2 (each_reads ra) hl) (by rw [hp]; exact hal) (by rw [hp]; exact hso) ?_ (fun b hb => ?_) fun out ho eo => ?_
  · rw [List.length_zip]
    exact FW.len_le (by omega)
  · have := hdp b.2 (by rw [← hp]; exact List.mem_map.mpr ⟨b, hb, rfl⟩)
    omega
  · obtain ⟨n, at_⟩ := PyProof.Rows.sortedAll_at s.heap its out.toArray
    have ev := vals_each eo
    have lo : (((items.zip ds).mergeSort (W.dataLe false Prod.snd)).map Prod.fst).length ≤ sizeLine := by
      rw [List.length_map, List.length_mergeSort, List.length_zip]
      exact FW.len_le (by omega)
    have J : Inv X pins σ (upd H (s.heap.objs.size + 1) (.lst (((items.zip ds).mergeSort (W.dataLe false Prod.snd)).map Prod.fst))) { s with heap := sortedAll s.heap its out.toArray } :=
      I.laid (t' := s.toks) (fun _ _ => PyProof.Rows.sortedAll_old) (Nat.le_succ _) ⟨lo, out, n, ev, at_⟩
    exact ⟨.ref _, _, J, rfl, q _ (I.hok.fresh (Nat.le_succ _))⟩
end
end FWO
namespace FW
open PySem PySem.Spec PyProof.Rows L2
section
variable {c : Amb} {H F H0 : Hp} {σ : L2.St} {e : Sg}
@[simp] def nSrtD (w : WA) : WA := fun e R => w e fun ds => ∃ xs : List D, ds = [.list xs] ∧ xs.length ≤ 1000000 ∧ W.AllAlike xs ∧ W.Sortable xs ∧ (∀ x ∈ xs, PyData.canLay0 x = true ∧ x.depth ≤ 60) ∧
  ∀ ys : List D, ys.Perm xs → ys.Pairwise (fun a b => W.dataLe false id a b = true) → R ys
theorem xn_srtD {w : WA} : ∀ σ H Q, tN c (nSrtD w) σ H Q → tCB (FWO.rSrtD c.K) (tA c w) σ H Q := fun σ H Q ⟨e, F, H0, R, Wo, S, q, P⟩ =>
  ⟨e, F, H0, _, Wo, S, q, fun ds vs H1 F1 ⟨xs, hd, hl, hal, hso, hsh, r⟩ x1 rv => by
    subst hd
    obtain ⟨v, rfl, q1⟩ := reps1 rv
    obtain ⟨l, items, rfl, h1, h2⟩ := q1.list_inv
    have li := dpAll_length h2
    have lay : PyData.canLayAll0 xs = true := by
      have : ∀ xs : List D, (∀ x ∈ xs, PyData.canLay0 x = true) → PyData.canLayAll0 xs = true := fun xs => by
        induction xs with
        | nil => intro _; rfl
        | cons x xs ih =>
          intro h
          rw [PyData.canLayAll0, Bool.and_eq_true]
          exact ⟨h x (List.mem_cons_self ..), ih fun y hy => h y (List.mem_cons_of_mem _ hy)⟩
      exact this xs fun x hx => (hsh x hx).1
    refine ⟨l, items, xs, rfl, SqL.of (x1.ok.sub _ _ h1), rpAll_dp _ _ lay (dpAll_same x1.ok.sub _ _ h2), by omega, by omega, hal, hso, fun d hd => (hsh d hd).2, fun p hp => ?_⟩
    have pm := List.mergeSort_perm (items.zip xs) (W.dataLe false Prod.snd)
    have so : ((items.zip xs).mergeSort (W.dataLe false Prod.snd)).Pairwise fun a b => W.dataLe false (fun p : V × D => p.2) a b = true :=
      List.pairwise_mergeSort (le := fun a b : V × D => W.dataLe false Prod.snd a b) (fun a b c h h' => le_trans' a b c h h') (fun a b => le_total' a b) _
    generalize (items.zip xs).mergeSort (W.dataLe false Prod.snd) = T at pm so
    have rT : RpAll c.K F1 (T.map Prod.fst) (T.map Prod.snd) := rpAll_pairs fun q hq => zip_rp h2 q (pm.mem_iff.mp hq)
    have r2 := r (T.map Prod.snd) (by
      have := pm.map Prod.snd
      rw [List.map_snd_zip (by omega)] at this
      exact this) (List.pairwise_map.mpr so)
    exact P _ p _ _ F1 r2 (x1.trans (Ext.loose x1.ok _ hp)) (x1.free hp) upd_same (x1.ok.newF hp) (x1.ok.newR hp) rT⟩
end
end FW
/-! FWA: comprehensions of two clauses; enumerate over a list; what was told is changed at its second place, twice. -/
namespace FWO
open PySem PySem.Spec PyProof.Rows L2
theorem room64 {k : Nat} {A : Around} (hr : Room k A) : A.units + 64 < cLine := by
  have := hr.un
  omega
end FWO
namespace FW
open PySem PySem.Spec PyProof.Rows L2
/-! ### [e for .. in .. for .. in ..] -/
def lcOut (g : D → (Sg → Prop) → Prop) (wt : WT) (inn : Sg → List D → (List D → Prop) → Prop) (R : List D → Prop) : List D → List D → Prop
  | [], acc => R acc
  | d :: ds, acc => g d fun e => wt e fun b => if b = true then inn e acc fun acc' => lcOut g wt inn R ds acc' else lcOut g wt inn R ds acc
def lcTurn (wi1 : WA) (wg1 : WG) (wt1 : WT) (we : W) (vs1 : List Nat) : Sg → List D → (List D → Prop) → Prop := fun e acc K =>
  wi1 e fun ds => ds.length ≤ 1000 ∧ lcRun (fun d k => wg1 d (wipeS e vs1) k) wt1 we K ds acc
@[simp] def dLc2 (wi : WA) (wg : WG) (wt : WT) (wi1 : WA) (wg1 : WG) (wt1 : WT) (we : W) (vs vs1 : List Nat) : WA := fun e R =>
  wi e fun ds => ds.length ≤ 1000 ∧ lcOut (fun d k => wg d (wipeS e vs) k) wt (lcTurn wi1 wg1 wt1 we vs1) R ds []
section
variable {c : Amb} {E : XK} {H F H' F' H1 F1 H2 F2 H0 F0 : Hp} {σ : L2.St} {e : Sg} {D0 : Addr}
/-- own lists stand elsewhere than at p -/
theorem RepS.above (S : RepS c H0 σ H F e) {p : Addr} (o : HO) (hp : H p = none) : RepS c (upd H0 p o) σ H F e where
  exc := S.exc
  fix := S.fix
  len := S.len
  val := S.val
  ownO := fun i o' ds h => by
    obtain ⟨a, vs, h1, h2, h3, h4, h5, h6⟩ := S.ownO i o' ds h
    exact ⟨a, vs, h1, h2, h3, by rw [upd_ne (fun z => by rw [z, hp] at h2; cases h2)]; exact h4, h5, h6⟩
  distO := S.distO
theorem RepS.extL (S : RepS c H0 σ H F e) (W : Wok c H F) (nl : H0 D0 ≠ none) (x : ExtD D0 c H F H' F') : RepS c H0 σ H' F' e where
  exc := exc_grow S.exc x.grow
  fix := fix_grow S.fix x.grow
  len := S.len
  val := fun i d h => by
    obtain ⟨v, h1, h2⟩ := S.val i d h
    exact ⟨v, h1, h2.grow x.grow⟩
  ownO := fun i o ds h => by
    obtain ⟨a, vs, h1, h2, h3, h4, h5, h6⟩ := S.ownO i o ds h
    refine ⟨a, vs, h1, x.keep a _ h2 h5 (W.noP h2) (fun z => nl (by rw [← z]; exact h4)), ?_, h4, h5, dpAll_same (cutO_grow o x.grow) _ _ h6⟩
    cases q : F' a with
    | none => rfl
    | some u =>
      have := x.new a h3 (by rw [q]; simp)
      rw [h2] at this; cases this
  distO := S.distO
theorem lst_still {ws : List V} (W : Wok c H F) (x : Ext c H F H' F') (h : H D0 = some (.lst ws)) (hF : F D0 = none) (nr : D0 ≠ c.r) : H' D0 = some (.lst ws) ∧ F' D0 = none := by
  refine ⟨x.keep D0 _ h nr (W.noP h), ?_⟩
  cases q : F' D0 with
  | none => rfl
  | some u =>
    have := x.new D0 hF (by rw [q]; simp)
    rw [h] at this; cases this
theorem xn_lc2 {wi wi1 : WA} {wg wg1 : WG} {wt wt1 : WT} {we : W} {g g1 : TG} {vs vs1 : List Nat} (hg : gD c wg g) (hs : Stores g vs) (hg1 : gD c wg1 g1) (hs1 : Stores g1 vs1) :
    ∀ σ H Q, tN c (dLc2 wi wg wt wi1 wg1 wt1 we vs vs1) σ H Q → tLc2 (tI c wi) g (tT c wt) (tI c wi1) g1 (tT c wt1) (tD c we) vs vs1 σ H Q := fun σ H Q ⟨e, F, H0, R, W, S, q, P⟩ =>
  ⟨e, F, H0, _, W, S, q, fun ds J H1 F1 ⟨hlen, i0⟩ x1 Y => fun L hL => by
    have n0 : F1 L = none := x1.ok.newF hL
    have nr : L ≠ c.r := x1.ok.newR hL
    have h0 : H L = none := x1.free hL
    have SL : RepS c (upd H0 L (.lst [])) σ H F e := S.above _ h0
    have nL : (upd H0 L (.lst [])) L ≠ none := by rw [upd_same]; simp
    refine ⟨fun i m H2 => m = ds.length - i ∧ i ≤ ds.length ∧ ∃ F2 ws acc, Ext c H F H2 F2 ∧ Same F1 F2 ∧ H2 L = some (.lst ws) ∧ F2 L = none ∧ RpAll c.K F2 ws acc ∧ acc.length ≤ 1000 * i ∧
        lcOut (fun d k => wg d (wipeS e vs) k) wt (lcTurn wi1 wg1 wt1 we vs1) R (ds.drop i) acc,
      ⟨_, rfl, Nat.zero_le _, F1, [], [], x1.trans (Ext.loose x1.ok _ hL), fun _ _ h => h, upd_same, n0, .nil, Nat.zero_le _, i0⟩, ?_⟩
    rintro i m H2 ⟨rfl, hi, F2, ws, acc, x2, s2, hL2, n2, k2, ha, hI⟩
    by_cases hlt : i < ds.length
    · refine .inr ⟨Y.go i H2 F2 hlt x2.ok s2, fun H3 => ∃ F3 ws acc, Ext c H F H3 F3 ∧ Same F1 F3 ∧ H3 L = some (.lst ws) ∧ F3 L = none ∧ RpAll c.K F3 ws acc ∧ acc.length ≤ 1000 * (i + 1) ∧
          lcOut (fun d k => wg d (wipeS e vs) k) wt (lcTurn wi1 wg1 wt1 we vs1) R (ds.drop (i + 1)) acc,
        fun H3 z => ⟨ds.length - (i + 1), by omega, rfl, hlt, z⟩, fun v H3 y => ?_⟩
      have hd : ds[i]? = some ds[i] := List.getElem?_eq_getElem hlt
      rw [drop_at hlt] at hI
      obtain ⟨F3, x3, rv⟩ := Y.yld i _ H2 F2 v H3 hd x2.ok s2 y
      obtain ⟨d3, m3⟩ := lst_still x2.ok x3 hL2 n2 nr
      refine hs v σ H3 _ (hg v _ _ H3 F3 _ _ _ _ x3.ok ((SL.wipe vs).ext W (x2.trans x3)) rv hI fun σ4 e4 r4 S4 => ?_)
      refine ⟨e4, F3, _, _, x3.ok, S4, r4, fun b H4 F4 r x4 => ?_⟩
      obtain ⟨d4, m4⟩ := lst_still x3.ok x4 d3 m3 nr
      have x34 := x3.trans x4
      cases b with
      | false =>
        exact ⟨F4, ws, acc, x2.trans x34, s2.trans x34.grow, d4, m4, dpAll_same x34.grow _ _ k2, by omega, by simpa using r⟩
      | true =>
        have r0 : lcTurn wi1 wg1 wt1 we vs1 e4 acc (fun acc' => lcOut (fun d k => wg d (wipeS e vs) k) wt (lcTurn wi1 wg1 wt1 we vs1) R (ds.drop (i + 1)) acc') := by simpa using r
        have r' : wi1 e4 fun ds1 => ds1.length ≤ 1000 ∧ lcRun (fun d k => wg1 d (wipeS e4 vs1) k) wt1 we (fun acc' => lcOut (fun d k => wg d (wipeS e vs) k) wt (lcTurn wi1 wg1 wt1 we vs1) R (ds.drop (i + 1)) acc') ds1 acc := r0
        refine ⟨e4, F4, _, _, x4.ok, S4.ext x3.ok x4, r', fun ds1 J1 H5 F5 ⟨hl1, run1⟩ x5 Y1 => ?_⟩
        obtain ⟨d5, m5⟩ := lst_still x4.ok x5 d4 m4 nr
        have S5 := (S4.ext x3.ok x4).ext x4.ok x5
        have x25 := (x2.trans x34).trans x5
        refine ⟨fun j k H6 => k = ds1.length - j ∧ j ≤ ds1.length ∧ ∃ F6 ws6 acc6, Ext c H F H6 F6 ∧ ExtD L c H5 F5 H6 F6 ∧ (∀ b, H6 b = none → H5 b = none) ∧ H6 L = some (.lst ws6) ∧ F6 L = none ∧ RpAll c.K F6 ws6 acc6 ∧ acc6.length ≤ 1000 * i + j ∧
            lcRun (fun d k => wg1 d (wipeS e4 vs1) k) wt1 we (fun acc' => lcOut (fun d k => wg d (wipeS e vs) k) wt (lcTurn wi1 wg1 wt1 we vs1) R (ds.drop (i + 1)) acc') (ds1.drop j) acc6,
          ⟨_, rfl, Nat.zero_le _, F5, ws, acc, x25, ⟨fun _ _ h => h, fun _ _ h _ _ _ => h, fun _ h h' => absurd h h'⟩, fun _ h => h, d5, m5, dpAll_same (x34.trans x5).grow _ _ k2, by omega, run1⟩, ?_⟩
        rintro j k H6 ⟨rfl, hj, F6, ws6, acc6, x6, y6, back6, hD6, n6, k6, hn6, run6⟩
        by_cases hlt1 : j < ds1.length
        · refine .inr ⟨Y1.go j H6 F6 hlt1 x6.ok y6.grow, fun H7 => ∃ F7 ws7 acc7, Ext c H F H7 F7 ∧ ExtD L c H5 F5 H7 F7 ∧ (∀ b, H7 b = none → H5 b = none) ∧ H7 L = some (.lst ws7) ∧ F7 L = none ∧ RpAll c.K F7 ws7 acc7 ∧ acc7.length ≤ 1000 * i + (j + 1) ∧
              lcRun (fun d k => wg1 d (wipeS e4 vs1) k) wt1 we (fun acc' => lcOut (fun d k => wg d (wipeS e vs) k) wt (lcTurn wi1 wg1 wt1 we vs1) R (ds.drop (i + 1)) acc') (ds1.drop (j + 1)) acc7,
            fun H7 z => ⟨ds1.length - (j + 1), by omega, rfl, hlt1, z⟩, fun v1 H7 z1 => ?_⟩
          have hd1 : ds1[j]? = some ds1[j] := List.getElem?_eq_getElem hlt1
          rw [drop_at hlt1] at run6
          obtain ⟨F7, x7, rv1⟩ := Y1.yld j _ H6 F6 v1 H7 hd1 x6.ok y6.grow z1
          obtain ⟨d7, n7⟩ := lst_still x6.ok x7 hD6 n6 nr
          have y7 : ExtD L c H5 F5 H7 F7 := y6.then (by rw [hD6]; simp) x7 back6
          have back7 : ∀ b, H7 b = none → H5 b = none := fun b h => back6 b (x7.free h)
          refine hs1 v1 σ4 H7 _ (hg1 v1 _ _ H7 F7 _ _ _ _ x7.ok ((S5.wipe vs1).extL x5.ok nL y7) rv1 run6 fun σ8 e8 r8 S8 => ?_)
          refine ⟨e8, F7, _, _, x7.ok, S8, r8, fun b H8 F8 r9 x8 => ?_⟩
          obtain ⟨d8, n8⟩ := lst_still x7.ok x8 d7 n7 nr
          have x78 := x7.trans x8
          have y8 : ExtD L c H5 F5 H8 F8 := y7.then (by rw [d7]; simp) x8 back7
          have back8 : ∀ b, H8 b = none → H5 b = none := fun b h => back7 b (x8.free h)
          cases b with
          | false =>
            exact ⟨F8, ws6, acc6, x6.trans x78, y8, back8, d8, n8, dpAll_same x78.grow _ _ k6, by omega, by simpa using r9⟩
          | true =>
            refine ⟨e8, F8, _, fun y => y ≠ .dict [] ∧ lcRun (fun d k => wg1 d (wipeS e4 vs1) k) wt1 we (fun acc' => lcOut (fun d k => wg d (wipeS e vs) k) wt (lcTurn wi1 wg1 wt1 we vs1) R (ds.drop (i + 1)) acc') (ds1.drop (j + 1)) (acc6 ++ [y]), x8.ok, S8.ext x7.ok x8, (by simpa using r9), fun y v9 H9 F9 ⟨hy, r10⟩ x9 rv9 => ?_⟩
            obtain ⟨d9, n9⟩ := lst_still x8.ok x9 d8 n8 nr
            have x79 := x78.trans x9
            have y9 : ExtD L c H5 F5 H9 F9 := y8.then (by rw [d8]; simp) x9 back8
            have hz : ws6.length = acc6.length := dpAll_length k6
            refine ⟨ws6, d9, len_lt (by omega), F9, ws6 ++ [v9], acc6 ++ [y], (x6.trans x79).mut h0 d9 n9 nr _, ⟨y9.grow, fun b o h hr hp hd => by rw [upd_ne hd]; exact y9.keep b o h hr hp hd, y9.new⟩, fun b h => ?_, upd_same, n9, dpAll_app (dpAll_same x79.grow _ _ k6) (.cons (rv9.dp hy) .nil), by simp; omega, r10⟩
            by_cases z : b = L
            · rw [z, upd_same] at h; cases h
            · rw [upd_ne z] at h
              exact back8 b (x9.free h)
        · have he : j = ds1.length := by omega
          subst he
          rw [List.drop_length] at run6
          exact .inl ⟨Y1.stop H6 F6 x6.ok y6.grow, F6, ws6, acc6, x6, ((s2.trans x34.grow).trans x5.grow).trans y6.grow, hD6, n6, k6, by omega, run6⟩
    · have he : i = ds.length := by omega
      subst he
      rw [List.drop_length] at hI
      exact .inl ⟨Y.stop H2 F2 x2.ok s2, P acc L ws H2 F2 hI x2 h0 hL2 n2 nr k2⟩⟩
theorem xs_asgLc2 {i : Nat} {wi wi1 : WA} {wg wg1 : WG} {wt wt1 : WT} {we : W} {g g1 : TG} {vs vs1 : List Nat} (hg : gD c wg g) (hs : Stores g vs) (hg1 : gD c wg1 g1) (hs1 : Stores g1 vs1) :
    ∀ Dn σ H, sD c E (dAsg i (dN (dLc2 wi wg wt wi1 wg1 wt1 we vs vs1))) Dn σ H → tAsg (tLc2 (tI c wi) g (tT c wt) (tI c wi1) g1 (tT c wt1) (tD c we) vs vs1) (gName i) Dn σ H := fun Dn σ H z => xn_lc2 hg hs hg1 hs1 σ H _ (xd_N σ H _ (xs_asg Dn σ H z))
end
theorem lcOut_map {α : Type} {g : D → (Sg → Prop) → Prop} {wt : WT} {inn : Sg → List D → (List D → Prop) → Prop} {R : List D → Prop} {φ : α → D} (h : α → List D) : ∀ (l : List α) (acc : List D),
    (∀ a ∈ l, ∀ (acc : List D) (K0 : Prop) (K : List D → Prop), K (acc ++ h a) → g (φ a) fun e => wt e fun b => if b = true then inn e acc K else K0) → R (acc ++ l.flatMap h) → lcOut g wt inn R (l.map φ) acc
  | [], acc, _, r => by simpa [lcOut] using r
  | a :: l, acc, t, r => by
    rw [List.map_cons]
    unfold lcOut
    exact t a (List.mem_cons_self ..) acc _ (fun acc' => lcOut g wt inn R (l.map φ) acc') (lcOut_map h l _ (fun b hb => t b (List.mem_cons_of_mem _ hb)) (by simpa using r))
section
variable {P : Program} {w : World} {g : Glb} {mg : Str → Option Value} {base : Heap} {x : Str} {st : Stmt} {f : Addr} {fd : FuncData} {N ps : List Str} {k : Nat} {wb : WS} {i : Int}
/-- .. called with all its arguments -/
theorem calDa {f0 : Fd} (Fn : FunQ g.K x st i f fd) (mgf : mg x = some (.ref f)) (b : ∃ ds, Vals ([V.int i].drop 1) ds ∧ Binds g.K fd ps ds) (S : FnScope N ps (defScope st)) (hlen : ∀ ds R, f0 ds R → ds.length = ps.length)
    (hb : ∀ (cdv : Value) (A : Around) (outer : List PySem.Env) (s : Shared) (H : Hp) (E : XK) (r a : Addr) (ns : List Int), Room k (A.deeper (envOfC x (defScope st) s.heap.objs.size f cdv)) →
      PSs (cxOf CX0 P w g.K mg base N x (defScope st) f cdv A outer s H E).nox (defBody st) (sD ⟨g, r, a, ns⟩ E wb))
    (hp : ∀ ds R, f0 ds R → wb { nx := fun _ => R .none, rt := R } (startD N ds)) : C8.Cal P w g.K mg base (k + 1) x (spD g f0) [] := by
  obtain ⟨its, hv, hbn⟩ := b
  refine ⟨f, fd, ps, its, Fn.ok S (fun vs H Q E h => ?_) (fun cdv A outer s H vs Q E hr h => ?_), mgf, Fn.kp, hbn, hv⟩
  · obtain ⟨c, F, ds, R, _, _, rv, h, _⟩ := h
    rw [rv.length]; exact hlen ds R h
  · obtain ⟨⟨g', r, a, ns⟩, F, ds, R, hg, W, rv, h, P'⟩ := h
    have hg' : g' = g := hg
    subst hg'
    refine ⟨_, (hb cdv A outer s H E r a ns hr).nox, startD N ds, F, H, F, _, Ext.refl W, rep_start rv, hp ds R h, ?_⟩
    exact ⟨fun e σ H' F' q x S' => P' _ _ H' F' q x .non, fun d v H' F' q x rv => P' d v H' F' q x rv, fun _ _ _ _ _ z => z.elim, fun _ _ _ _ z => z.elim, fun _ _ _ _ z => z.elim, fun _ _ _ z => z.elim, fun _ z => z.elim, fun _ _ _ _ z => z.elim, fun z => nomatch z⟩
end
/-! ### enumerate over a list -/
section
variable {c : Amb} {H F : Hp} {σ : L2.St}
theorem yields_enumL {a : Addr} {vs : List V} {xs : List D} (h : F a = some (.lst vs)) (k : RpAll c.K F vs xs) : Yields c (Ite c.K a) F (enumD xs) where
  go := fun i H G hi W s => by
    rw [enumD_length, ← dpAll_length k] at hi
    exact ⟨vs, vs[i], SqL.of (W.sub _ _ (s _ _ h)), List.getElem?_eq_getElem hi⟩
  yld := fun i d H G x H' hd W s ⟨T, y, ex, hT, eH, z⟩ => by
    subst ex
    subst eH
    obtain ⟨u, hu, rfl⟩ := enumD_get hd
    obtain ⟨d', h1, h2⟩ := dpAll_get k (z vs (SqL.of (W.sub _ _ (s _ _ h))))
    rw [hu] at h1
    cases h1
    exact ⟨_, Ext.laid W _ hT, repTup upd_same (dpAll_same (upd_keep (W.newF hT)) _ _ (.cons (.int _) (.cons (dp_same s _ _ h2) .nil)))⟩
  stop := fun H G W s => ⟨vs, SqL.of (W.sub _ _ (s _ _ h)), by rw [enumD_length]; exact Nat.le_of_eq (dpAll_length k)⟩
@[simp] def iEnmL (w : WA) : WA := fun e R => w e fun ds => ∃ xs, ds = [.list xs] ∧ R (enumD xs)
theorem xi_enumL {w : WA} : ∀ σ H R, tI c (iEnmL w) σ H R → iEnum c.K (tA c w) σ H R := fun σ H R ⟨e, F, H0, Rd, W, S, q, P⟩ =>
  ⟨e, F, H0, _, W, S, q, fun ds vs H' F' ⟨xs, hd, r⟩ x rv => by
    subst hd
    obtain ⟨v, rfl, r1⟩ := reps1 rv
    obtain ⟨a, us, rfl, h1, h2⟩ := r1.list_inv
    exact ⟨a, us, rfl, SqL.of (x.ok.sub _ _ h1), P _ _ H' F' r x (yields_enumL h1 h2)⟩⟩
end
/-! ### told[1].append(e); told[1].reverse() -/
section
variable {c : Amb} {E : XK} {H F H0 F0 : Hp} {σ : L2.St}
theorem sqT_upd {K : PySem.W.Frag} {a p : Addr} {xs us ws : List V} (h : SqT K H a xs) (hp : H p = some (.lst us)) : SqT K (upd H p (.lst ws)) a xs := by
  rcases h with (h | ⟨o, h⟩) | h
  · exact .inl (.inl (by rw [upd_ne (fun z => by rw [z, hp] at h; cases h)]; exact h))
  · exact .inl (.inr ⟨o, by rw [upd_ne (fun z => by rw [z, hp] at h; cases h)]; exact h⟩)
  · exact .inr h
@[simp] def dSmash1R (i : Nat) (w : W) (wr : WS) : WS := fun De e => ∃ Fb d0 ds, e[i]? = some (.fix true Fb (.tuple [d0, .list ds])) ∧ De.base Fb ∧ allPin Fb e ∧ ds.length < 1000000 ∧ w e fun d => d ≠ .dict [] ∧ wr De (unpin e)
theorem xs_smash1R {i : Nat} {w : W} {wr : WS} : ∀ Dn σ H, sD c E (dSmash1R i w wr) Dn σ H → tSeq (tDrop (tBM c.K "list" rAppend (tOp (fun x y H Q => rIxL c.K x y H Q ∨ rIxT c.K x y H Q) (tVar i) (tC (.int 1))) (tCons (tD c w) tNil)))
    (tSeq (tDrop (tBM0 c.K "list" rReverse (tOp (fun x y H Q => rIxL c.K x y H Q ∨ rIxT c.K x y H Q) (tVar i) (tC (.int 1))))) (sD c E wr)) Dn σ H := fun Dn σ H ⟨e, F, H0, F0, De, x, S, ⟨Fb, d0, ds, hi, hb, hp, hl, q⟩, K⟩ => by
  obtain ⟨sb, v, h1, h2⟩ := S.fix i true Fb _ hi
  obtain ⟨a, vs, rfl, h3, h4⟩ := h2.tup_inv
  obtain ⟨v0, v1, rfl, g0, g1⟩ : ∃ v0 v1, vs = [v0, v1] ∧ Rp c.K (cutF F Fb) v0 d0 ∧ Rp c.K (cutF F Fb) v1 (.list ds) := by
    cases h4 with
    | cons a1 a2 => cases a2 with
      | cons b1 b2 => cases b2; exact ⟨_, _, rfl, a1, b1⟩
  obtain ⟨p, us, rfl, g2, g3⟩ := (show RepV c (cutF F Fb) v1 (.list ds) from .inl g1).list_inv
  obtain ⟨g4, g5⟩ := cutF_new g2
  have hH := x.ok.sub _ _ g4
  refine ⟨.ref a, h1, .inr ⟨a, _, 1, .ref p, rfl, rfl, same_t (Same.trans cutF_sub x.ok.sub) h3, atI_1, ?_⟩⟩
  refine .inl ⟨rfl, us, SqL.of hH⟩ |> fun z => ⟨z, e, F, H0, _, x.ok, S, q, fun d v H1 F1 ⟨hd, r⟩ x1 rv => ?_⟩
  have k1 := x1.grow _ _ g4
  have k2 := x1.ok.sub _ _ k1
  refine ⟨p, us, v, rfl, rfl, k2, len_lt (by rw [dpAll_length g3]; exact hl), ?_⟩
  refine ⟨.ref a, h1, .inr ⟨a, _, 1, .ref p, rfl, rfl, sqT_upd (same_t (Same.trans (Same.trans cutF_sub x1.grow) x1.ok.sub) h3) k2, atI_1, .inl ⟨rfl, _, SqL.of upd_same⟩, p, _, rfl, rfl, upd_same, ?_⟩⟩
  refine ⟨unpin e, Fb, H0, F0, De, Ext.smash (x.trans x1) (sb.trans x1.grow) (K.base Fb hb) fun b o h => ?_, (S.ext x.ok x1).unpin hp _, r, K⟩
  by_cases z : b = p
  · subst z
    exact .inr ⟨⟨_, k1⟩, g5⟩
  · exact .inl (by rw [upd_ne z, upd_ne z]; exact h)
end
end FW
/-! FXI: an own exception class whose __init__(self, why, number) says super().__init__(why) and keeps the number. -/
namespace FXI
open PySem PySem.Spec PyProof.Rows L2 PySem.W
abbrev xs3 : List Str := ["self", "why", "number"]
abbrev nSup : Str := "super"
abbrev nCls : Str := "__class__"
abbrev nSelf : Str := "self"
abbrev nWhy : Str := "why"
abbrev nNum : Str := "number"
abbrev initBody : List Stmt := [.Expr (.Call (.Attribute (.Call (.Name nSup ⟨14, 8, 14, 13⟩) [] [] ⟨14, 8, 14, 15⟩) "__init__" ⟨14, 8, 14, 24⟩) [.Name nWhy ⟨14, 25, 14, 28⟩] [] ⟨14, 8, 14, 29⟩) ⟨14, 8, 14, 29⟩,
  .Assign [.Attribute (.Name nSelf ⟨15, 8, 15, 12⟩) nNum ⟨15, 8, 15, 19⟩] (.Name nNum ⟨15, 22, 15, 28⟩) ⟨15, 8, 15, 28⟩]
abbrev initScope : Scope := { kind := .function, names := [(nSelf, .local), (nWhy, .local), (nNum, .local), (nCls, .free), (nSup, .globalImplicit)], isGenerator := false, isCoroutine := false, more := [] }
theorem hk : initScope.kind = .function := rfl
theorem hco : initScope.isCoroutine = false := rfl
theorem hgen : initScope.isGenerator = false := rfl
theorem hcell : ∀ y ∈ initScope.names, y.2 ≠ NameKind.cell := by decide +kernel
theorem n0 : initScope.names.lookup nSelf = some .local := by decide +kernel
theorem n1 : initScope.names.lookup nWhy = some .local := by decide +kernel
theorem n2 : initScope.names.lookup nNum = some .local := by decide +kernel
theorem nS : initScope.names.lookup nSup = some .globalImplicit := by decide +kernel
theorem nC : initScope.names.lookup nCls = some .free := by decide +kernel
/-- what the written part must say of such a class and of its __init__ -/
structure InitC (K : Frag) (main : PySem.Module) (C fI : Addr) : Prop where
  oex : OexC K C
  ini : findIn K (.ref C) "__init__" = some (some (.ref fI))
  typ : typeIn K (.ref fI) = some (.type "function")
  fn : ∃ (oc : Value) (od : Option Addr) (osl : Array (Option Value)) (name qual : Str) (params : Arguments) (T cc cda : Addr) (kV doc pm ct : Value) (an : Option Addr),
    K.lookup fI = some ⟨oc, od, .func (fnX name qual params initBody initScope [(nCls, cc)] (.ref T) kV doc pm an (.ref cda) ct), osl⟩ ∧ codeIn K (.ref cda) qual = true ∧
    (∀ (vs : List Value) (its : List Value), its.length = 1 → vs.length = 3 → ∃ k, bindArgs (fnX name qual params initBody initScope [(nCls, cc)] (.ref T) kV doc pm an (.ref cda) ct) ⟨vs, []⟩ = seqItems? (.ref T) >>= k ∧ k (some its.toArray) = pure (xs3.zip vs)) ∧
    (∃ (o : Obj) (its : List Value) (n : Nat), K.lookup T = some o ∧ o.data = .seq its.toArray n ∧ its.length = 1) ∧
    (∃ ar, (params.posonlyargs ++ params.args).head? = some ar ∧ ar.arg = nSelf) ∧
    (∃ (c1 : Value) (c2 : Option Addr) (vs : Array Value) (c3 : Array (Option Value)) (file : Str) (tf : Tok), K.lookup cda = some ⟨c1, c2, .fields vs, c3⟩ ∧ vs[2]? = some (.str file tf) ∧ ((main.file : Str) == file) = true) ∧
    (∃ (c1 : Value) (c2 : Option Addr) (c3 : Array (Option Value)), K.lookup cc = some ⟨c1, c2, .cell (some (.ref C)), c3⟩)
  top : (main.scope.names.lookup nSup).isSome = false
  sup : nsIn K mainGlobals nSup = some none
  mro : mroIn K C (.ref C) = some true
  opq : nsIn K cStatics "thirdparty.any" = some none
  sin : ks_superIn K C C "__init__" = some (some (.builtin "ValueError.__init__"))
  sub : subIn K (.ref C) (.type "ValueError") = some true
  noF : findIn K (.ref C) nNum = some none
/-- its promise -/
def spInit (C : Addr) : Sp := fun vs H Q _ => ∃ (a : Addr) (v n : V), vs = [.ref a, v, n] ∧ H a = some (exo a C none) ∧ ∀ d, H d = none → d ≠ a → Q .non (upd (upd H d (exd d [(nNum, n)])) a (exo a C (some d)))
section
variable {P : Program} {w : World} {K : Frag} {mg : Str → Option Value} {base : Heap} {CX : CXT} {C fI : Addr}
theorem boot_super : bootBuiltins nSup = some (.type "super") := by decide +kernel
theorem init_fn (I : InitC K P.main C fI) (G : True) (k : Nat) : ∃ (fd : FuncData), FnOk P w K mg base CX (k + 1) fI fd xs3 (spInit C) ∧ Binds K fd xs3 [] := by
  obtain ⟨oc, od, osl, name, qual, params, T, cc, cda, kV, doc, pm, ct, an, lk, hcd, hbind, ⟨oT, its, nT, lT, dT, hits⟩, ⟨ar, har, eAr⟩, ⟨e1, e2, vsC, e3, file, tf, lC, hvs, hfile⟩, ⟨f1, f2, f3, lcc⟩⟩ := I.fn
  refine ⟨fnX name qual params initBody initScope [(nCls, cc)] (.ref T) kV doc pm an (.ref cda) ct, ⟨fun vs H Q E h => ?_, fun A outer s H args us vs Q E hr e0 hb r hsp => ?_⟩, fun s us X hl => ?_⟩
  · obtain ⟨a, v, n, rfl, _⟩ := h
    rfl
  · obtain ⟨a, v, n, rfl, ha, hQ⟩ := hsp
    cases r with
    | @cons _ ua _ ur ra r =>
    cases r with
    | @cons _ uv _ ur rv r =>
    cases r with
    | @cons _ un _ ur rn r =>
    cases r
    obtain rfl : ua = Value.ref a := ra
    obtain ⟨hp, g, dr, tk, os⟩ := s
    have KX : K.In hp := e0.mod.kin.keeps fun b o e => (e0.bs b o e).1
    have lim : hp.NoLimit := e0.mod.nolimit.keeps fun b o e => (e0.bs b o e).1
    have bsk : ∀ b o, base.get? b = some o → hp.get? b = some o := fun b o e => (e0.bs b o e).1
    obtain ⟨t1, hoa⟩ := exo_at e0.hok ha
    have T0 := I.oex
    obtain ⟨nm, q, N, bs, bm, sn, sub, ab, col, dd, k0, k1, k2, k3, k5, hC, hbm⟩ := T0.cls
    have hcl : PySem.W.clsIn K C = some { name := nm, bases := bs, mro := .ref C :: bm, ns := N, qualname := q, hasDict := true, slotNames := sn, subclasses := sub, abstract := ab, collection := col, hasDel := false } := by unfold PySem.W.clsIn; rw [hC] <;> rfl
    refine ks_codeAny_call_defAt (fd := fnX name qual params initBody initScope [(nCls, cc)] (.ref T) kV doc pm an (.ref cda) ct) (binds := xs3.zip [.ref a, uv, un]) hr.depth (KX _ _ lk) rfl lim (codeRec_of KX hcd) rfl hb hcell (fun y hy => ?_) (fun h₀ hns keep => ?_) hco hgen hk
    · simp only [List.zip_cons_cons, List.zip_nil_left, List.mem_cons, List.not_mem_nil, or_false] at hy
      rcases hy with rfl | rfl | rfl
      · exact n0
      · exact n1
      · exact n2
    · have q1 : (nSelf == nNum) = false := by decide +kernel
      have q2 : (nSelf == nWhy) = false := by decide +kernel
      have q3 : (nWhy == nNum) = false := by decide +kernel
      have m0 : (xs3.zip [Value.ref a, uv, un]).reverse.lookup nSelf = some (.ref a) := by
        show List.lookup nSelf [(nNum, un), (nWhy, uv), (nSelf, Value.ref a)] = _
        simp only [List.lookup, q1, q2, beq_self_eq_true]
      have m1 : (xs3.zip [Value.ref a, uv, un]).reverse.lookup nWhy = some uv := by
        show List.lookup nWhy [(nNum, un), (nWhy, uv), (nSelf, Value.ref a)] = _
        simp only [List.lookup, q3, beq_self_eq_true]
      have m2 : (xs3.zip [Value.ref a, uv, un]).reverse.lookup nNum = some un := by
        show List.lookup nNum [(nNum, un), (nWhy, uv), (nSelf, Value.ref a)] = _
        simp only [List.lookup, beq_self_eq_true]
      have K0 : K.In h₀ := KX.keeps keep
      have hmiss : mg nSup = none := mg_none_of e0.mod.kin e0.mod.glob I.sup
      obtain ⟨mb, hmb, hbt⟩ := e0.mod.blt
      have hsup : mb nSup = some (.type "super") := (hbt nSup (by decide +kernel)).trans boot_super
      have aC : a ≠ C := fun z => by
        have z1 := KX _ _ hC
        rw [← z, hoa] at z1
        have z2 := congrArg Obj.data (Option.some.inj z1)
        cases z2
      have aH : ∀ {b : Addr}, H b = none → b ≠ a := fun {b} n z => by
        rw [z, ha] at n
        cases n
      refine ks_wpAt_execs_cons (ks_wpAt_Expr_any (ks_wpAt_MethodCall (ks_wpAt_super_base (f := fI) (cc := cda) (ar := ar) nS nC (by decide +kernel) rfl (K0 _ _ lk) rfl har rfl (K0 _ _ lC) rfl hvs hfile I.top ?_)))
      refine ks_loadName_global hk nS (Calls.loadGlobal_builtin (mg := mg) (mb := mb) ((e0.mod.glob.keeps bsk).keeps keep) hmiss ((hmb.keeps bsk).keeps keep) hsup ⟨rfl, ?_⟩)
      refine wpAny_loadName_free (c := cc) (v := .ref C) hk nC (by simp [callEnv, newEnv, List.lookup]) ⟨_, K0 _ _ lcc, rfl⟩ ?_
      rw [eAr]
      refine wpAny_loadName_local (v := .ref a) hk n0 hns m0 ?_
      refine ks_wpAny_isType_cls (K0 _ _ hC) rfl ⟨rfl, ?_⟩
      refine ks_wpAny_call_super (K0 _ _ hC) rfl (keep _ _ hoa) rfl (fun c e => by cases e) (looks_mroIn K0 I.mro) (fun h1 e1 k1 => ?_)
      have K1 : K.In h1 := K0.keeps k1
      have ho1 := k1 _ _ (keep _ _ hoa)
      have tyI : Looks (model P w) h1 (isInstance (.ref a) (.type "ValueError")) true := (InstAt.type (od := none) ⟨ho1, rfl, rfl, trivial⟩).andThen (looks_subIn K1 I.sub)
      have hsin := I.sin
      unfold ks_superIn at hsin
      rw [hcl] at hsin
      refine kxs_getMethod kxs_ValueError e1 (looks_opaque K1 I.opq) (l₀ := .ref C :: bm) (fun A Q E s k q => wpAny_bind ((looks_clsIn K1 hcl) A _ E s k (wpAny_pure q))) rfl K1 hsin tyI aC (by decide +kernel) ?_
      -- the wrapper is called
      have k2 : ∀ b o, h1.get? b = some o → (h1.push (kxs_mw "ValueError.__init__" a)).get? b = some o := fun b o e => Heap.get?_push_of_some _ e
      have hu : (h1.push (kxs_mw "ValueError.__init__" a)).get? h1.objs.size = some (kxs_mw "ValueError.__init__" a) := Heap.get?_push_at rfl rfl
      refine (?_ : wpAny (model P w) _ (callWith _ (.ref h1.objs.size) [] (backTo _ (starEach [.Name nWhy ⟨14, 25, 14, 28⟩] _)) []) _ _ _)
      refine kxs_callWith (i := "ValueError.__init__") (x := a) rfl (Calls.evalArgs_plain (Calls.spliced_cons (wpAny_Name (wpAny_loadName_local (v := uv) hk n1 ((hns.keeps k1).keeps k2) m1 (Calls.spliced_nil ⟨hu, ?_⟩)))))
      refine (?_ : wpAny (model P w) _ (call (.ref h1.objs.size) [uv]) _ _ _)
      refine wpAny_call (codeAny_of_tree ?_)
      show wpAny _ _ (callAny (.ref h1.objs.size) ⟨[uv], []⟩) _ _ _
      simp only [callAny]
      refine wpAny_bind (wpAny_load hu ?_)
      simp only [kxs_mw, show (Value.type "method-wrapper" == Value.type "method" || Value.type "method-wrapper" == Value.type "builtin_function_or_method" || Value.type "method-wrapper" == Value.type "method-wrapper") = true by decide, if_true]
      refine KFB.if_so (by decide) ?_
      refine wpAny_bind (check_bound_init PySem.F.excBase_ValueError.toExcCallFacts ((K1.keeps k2) _ _ hC) (k2 _ _ ho1) rfl ?_)
      refine wpAny_bind (wpAny_pure (wpAny_pure ?_))
      refine ⟨plainId_quiet PySem.F.excBase_ValueError.init.plain _, codeAny_builtin PySem.F.excBase_ValueError.initEntry ?_⟩
      refine exc_init_tree (cls := .ref C) (t0 := t1) (dv := none) (c2 := .none) (c3 := .none) (b4 := .bool false) (k2 _ _ ho1) (by rw [sizeLine_eq]; show 1 ≤ 16777216; decide) fun h3 k3 e3 t3 => ?_
      -- self.number = number
      have kk : ∀ b o, b ≠ a → hp.get? b = some o → h3.get? b = some o := fun b o n e => k3 b o n (k2 _ _ (k1 _ _ (keep _ _ e)))
      have hns3 : h3.Ns hp.objs.size (fun x => (xs3.zip [Value.ref a, uv, un]).reverse.lookup x) := by
        have hn2 := (hns.keeps k1).keeps k2
        obtain ⟨oL, es, ep, hL, r⟩ := hn2
        have nL : hp.objs.size ≠ a := Nat.ne_of_gt (Heap.lt_size hoa)
        exact ⟨oL, es, ep, k3 _ _ nL hL, r⟩
      have K3 : K.In h3 := fun b o e => k3 b o (fun z => by
        have z1 := KX _ _ e
        have z2 := (e0.bs _ _ (e0.mod.kin _ _ e)).2
        rw [z, ha] at z2
        cases z2) ((K1.keeps k2) b o e)
      refine ks_wpAt_execs_cons (ks_wpAt_Assign_Attr (wpAt_of_wpAny (wpAny_Name (wpAny_loadName_local (v := un) hk n2 hns3 m2 (wpAny_Name (wpAny_loadName_local (v := .ref a) hk n0 hns3 m0 ?_))))))
      refine PySem.W.set_plain K3 (ox := { cls := .ref C, dict := none, data := .fields #[.ref _, .none, .none, .none, .bool false, .none] }) (od := none) ⟨e3, rfl, rfl, trivial⟩ T0.sa ?_
      refine PySem.HandSPX.exc_osa K3 e3 hcl (show PySem.HandSPX.refsVE (.ref C :: bm) = true from hbm) rfl I.noF (fun h4 tk' dx k4 dn dne hx hn => ?_)
      refine wpAt_of_wpAny (wpAny_pure ?_)
      have dsz : hp.objs.size ≤ dx := by
        obtain ⟨oL, es, ep, hL, _⟩ := hns
        have z1 := Heap.lt_size hL
        have z2 := Heap.lt_size e1
        have z3 := Heap.lt_size hu
        have z4 := Heap.lt_size t3
        rw [Heap.size_push] at z3 z4
        have z5 : h3.objs.size ≤ dx := dn
        exact Nat.le_of_lt (Nat.lt_of_lt_of_le (Nat.lt_trans z1 (Nat.lt_trans z2 (Nat.lt_trans (Nat.lt_succ_self _) z4))) z5)
      have hnd : H dx = none := e0.hok.fresh dsz
      have nd : ∀ {b : Addr} {o : Obj}, hp.get? b = some o → b ≠ dx := fun {b o} q => Nat.ne_of_lt (Nat.lt_of_lt_of_le (Heap.lt_size q) dsz)
      have k5' : ∀ b o, b ≠ a → hp.get? b = some o → h4.get? b = some o := fun b o n e => k4 b o n (kk b o n e)
      refine ⟨.non, upd (upd H dx (exd dx [(nNum, n)])) a (exo a C (some dx)), rfl, e0.bare, ?_, fun b o q => ?_, rfl, hQ dx hnd dne⟩
      · exact {
          keep := fun b o q n _ _ => k5' b o (aH n) q
          slot := fun b o q n _ _ => ⟨o.slots, k5' b o (aH n) q⟩
          free := fun b o q n _ => by rw [upd_ne (aH n), upd_ne (nd q)]; exact n
          there := fun b o q _ => by
            by_cases hb : b = a
            · exact ⟨_, by rw [hb]; exact hx⟩
            · exact ⟨o, k5' b o hb q⟩
          tups := fun b xs q => by rw [upd_ne (at_ne ha q exo_tup), upd_ne (ne_of_none q hnd)]; exact q
          frzs := fun b o v q => by rw [upd_ne (at_ne ha q exo_frz), upd_ne (ne_of_none q hnd)]; exact q
          tbls := fun b ps q => ⟨#[], by rw [upd_ne (at_ne ha q exo_tbl), upd_ne (ne_of_none q hnd), q]; simp⟩ }
      · by_cases hb : b = a
        · subst hb
          rw [upd_same] at q
          cases q
          exact exo_ok hx
        · rw [upd_ne hb] at q
          by_cases hd : b = dx
          · subst hd
            rw [upd_same] at q
            cases q
            exact exd_ok hn (relO_put (fs := []) rn fun g => True.intro)
          · rw [upd_ne hd] at q
            exact (e0.hok b o q).stay (fun c v hc z => k5' c v (by
                rcases hc with hc | hc
                · rw [hc]
                  exact hb
                · exact at_ne ha hc exo_own) z)
              (fun c hc => by rw [upd_ne (at_ne ha hc exo_own), upd_ne (ne_of_none hc hnd)]; exact hc) (fun c xs hc => by rw [upd_ne (at_ne ha hc exo_tup), upd_ne (ne_of_none hc hnd)]; exact hc)
  · refine BindsTo.of_looks fun M => ?_
    rw [List.append_nil] at hl ⊢
    obtain ⟨k, e1, e2⟩ := hbind us its hits hl
    rw [e1]
    exact looks_items X lT dT (.of_pure e2)
end
end FXI
/-! FXB: such a class, told by a computation. -/
namespace FXI
open PySem PySem.Spec PyProof.Rows L2 PySem.W
def bodyB : FuncBody → Bool
  | .stmts [.Expr (.Call (.Attribute (.Call (.Name a1 p1) [] [] p2) a2 p3) [.Name a3 p4] [] p5) p6, .Assign [.Attribute (.Name a4 p7) a5 p8] (.Name a6 p9) pa] =>
    (decide (a1 = nSup) && decide (a2 = ("__init__" : Str)) && decide (a3 = nWhy) && decide (a4 = nSelf) && decide (a5 = nNum) && decide (a6 = nNum)) && (decide (p1 = ⟨14, 8, 14, 13⟩) && decide (p2 = ⟨14, 8, 14, 15⟩) && decide (p3 = ⟨14, 8, 14, 24⟩) && decide (p4 = ⟨14, 25, 14, 28⟩) && decide (p5 = ⟨14, 8, 14, 29⟩) && decide (p6 = ⟨14, 8, 14, 29⟩)) &&
      (decide (p7 = ⟨15, 8, 15, 12⟩) && decide (p8 = ⟨15, 8, 15, 19⟩) && decide (p9 = ⟨15, 22, 15, 28⟩) && decide (pa = ⟨15, 8, 15, 28⟩))
  | _ => false
theorem bodyB_ok {b : FuncBody} (h : bodyB b = true) : b = .stmts initBody := by
  unfold bodyB at h
  split at h
  · simp only [Bool.and_eq_true, decide_eq_true_eq] at h
    obtain ⟨⟨⟨⟨⟨⟨⟨h1, h2⟩, h3⟩, h4⟩, h5⟩, h6⟩, ⟨⟨⟨⟨h7, h8⟩, h9⟩, h10⟩, h11⟩, h12⟩, ⟨⟨h13, h14⟩, h15⟩, h16⟩ := h
    subst h1 h2 h3 h4 h5 h6 h7 h8 h9 h10 h11 h12 h13 h14 h15 h16
    rfl
  · cases h
def parsB : Arguments → Bool
  | ⟨[], [a1, a2, a3], none, [], [], none, [_]⟩ => decide (a1.arg = nSelf) && decide (a2.arg = nWhy) && decide (a3.arg = nNum)
  | _ => false
theorem parsB_bind {p : Arguments} (h : parsB p = true) {name qual : Str} {body : List Stmt} {sc : Scope} {cl : List (Str × Addr)} {T : Addr} {kV doc pm cdv ct : Value} {an : Option Addr} (vs its : List Value) (hi : its.length = 1) (hv : vs.length = 3) :
    ∃ k, bindArgs (fnX name qual p body sc cl (.ref T) kV doc pm an cdv ct) ⟨vs, []⟩ = seqItems? (.ref T) >>= k ∧ k (some its.toArray) = pure (xs3.zip vs) := by
  unfold parsB at h
  split at h
  · rename_i a1 a2 a3 d
    simp only [Bool.and_eq_true, decide_eq_true_eq] at h
    obtain ⟨⟨h1, h2⟩, h3⟩ := h
    obtain ⟨n1, x1, q1⟩ := a1
    obtain ⟨n2, x2, q2⟩ := a2
    obtain ⟨n3, x3, q3⟩ := a3
    dsimp only at h1 h2 h3
    subst h1 h2 h3
    match vs, its, hv, hi with
    | [_, _, _], [_], _, _ => exact ⟨_, rfl, rfl⟩
  · cases h
theorem parsB_head {p : Arguments} (h : parsB p = true) : ∃ ar, (p.posonlyargs ++ p.args).head? = some ar ∧ ar.arg = nSelf := by
  unfold parsB at h
  split at h
  · rename_i a1 a2 a3 d
    simp only [Bool.and_eq_true, decide_eq_true_eq] at h
    exact ⟨a1, rfl, h.1.1⟩
  · cases h
def seqB (K : Frag) : Value → Bool
  | .ref T => (match K.lookup T with
    | some ⟨_, _, .seq its _, _⟩ => decide (its.toList.length = 1)
    | _ => false)
  | _ => false
def cellB (K : Frag) (C : Addr) : List (Str × Addr) → Bool
  | [(n, cc)] => decide (n = nCls) && (match K.lookup cc with
    | some ⟨_, _, .cell (some (.ref D)), _⟩ => decide (D = C)
    | _ => false)
  | _ => false
def fileB (K : Frag) (main : PySem.Module) : Value → Bool
  | .ref c => (match K.lookup c with
    | some ⟨_, _, Data.fields vs, _⟩ => (match (vs.toList[2]? : Option Value) with
      | some (Value.str f _) => (main.file : Str) == f
      | _ => false)
    | _ => false)
  | _ => false
def fnB (K : Frag) (main : PySem.Module) (C fI : Addr) : Bool := match K.lookup fI with
  | some ⟨_, _, .func fd, _⟩ => decide (fd.globals = mainGlobals) && (decide (fd.builtins = builtinsNs) && (cellB K C fd.closure && (seqB K fd.defaults && (bodyB fd.body && (decide (fd.scope = initScope) && (parsB fd.params && (fileB K main fd.code && codeIn K fd.code fd.qualname)))))))
  | _ => false
def clsB (K : Frag) (C : Addr) : Bool := match K.lookup C with
  | some ⟨.type "type", _, .cls cd, sl⟩ => (match cd.mro, sl.toList with
    | .ref C' :: bm, [_, _, _, _, some (.builtin n), _] => C' == C && n == "ValueError.__new__" && !cd.hasDel && cd.hasDict && PySem.HandSPX.refsVE bm
    | _, _ => false)
  | _ => false
theorem clsB_ok {K : Frag} {C : Addr} (q : clsB K C = true) : ∃ nm q N bs bm sn sub ab col dd k0 k1 k2 k3 k5, K.lookup C = some (excClassObj nm q C N bs bm true sn sub ab col dd k0 k1 k2 k3 k5 "ValueError.__new__") ∧ PySem.HandSPX.refsVE bm = true := by
  unfold clsB at q
  split at q
  · rename_i dd cd sl ho
    split at q
    · rename_i C' bm k0 k1 k2 k3 n k5 hm hs
      simp only [Bool.and_eq_true, beq_iff_eq, Bool.not_eq_true'] at q
      obtain ⟨⟨⟨⟨rfl, rfl⟩, hdel⟩, hdct⟩, hr⟩ := q
      obtain ⟨nm, bs, mro, ns, qn, hd, sn, sub, ab, col, del⟩ := cd
      dsimp only at hm hdel hdct
      subst hm hdel hdct
      have e : sl = #[k0, k1, k2, k3, some (.builtin "ValueError.__new__"), k5] := by
        rw [← hs]
      subst e
      exact ⟨nm, qn, ns, bs, bm, sn, sub, ab, col, dd, k0, k1, k2, k3, k5, ho, hr⟩
    · cases q
  · cases q
def initB (K : Frag) (main : PySem.Module) (C : Addr) : Bool := match findIn K (.ref C) "__init__" with
  | some (some (.ref fI)) => clsB K C && (decide (findIn K (.ref C) "__setattr__" = some (some (.builtin "object.__setattr__"))) && (decide (subIn K (.ref C) (.type "BaseException") = some true) && (decide (typeIn K (.ref C) = some (.type "type")) && (keepIn K (.ref C) && (decide (typeIn K (.ref fI) = some (.type "function")) && (fnB K main C fI &&
      (!(main.scope.names.lookup nSup).isSome && (decide (nsIn K mainGlobals nSup = some none) && (decide (mroIn K C (.ref C) = some true) && (decide (nsIn K cStatics "thirdparty.any" = some none) && (decide (ks_superIn K C C "__init__" = some (some (.builtin "ValueError.__init__"))) &&
      (decide (subIn K (.ref C) (.type "ValueError") = some true) && decide (findIn K (.ref C) nNum = some none)))))))))))))
  | _ => false
theorem initB_ok {K : Frag} {main : PySem.Module} {C : Addr} (h : initB K main C = true) : ∃ fI, InitC K main C fI := by
  unfold initB at h
  split at h
  · rename_i fI hf
    simp only [Bool.and_eq_true, decide_eq_true_eq, Bool.not_eq_true'] at h
    obtain ⟨h1, h2, h3, h4, h5, h6, h7, h8, h9, h10, h11, h12, h13, h14⟩ := h
    refine ⟨fI, ⟨clsB_ok h1, h2, h3, h4, h5⟩, hf, h6, ?_, h8, h9, h10, h11, h12, h13, h14⟩
    unfold fnB at h7
    split at h7
    · rename_i oc od fd osl lk
      simp only [Bool.and_eq_true, decide_eq_true_eq] at h7
      obtain ⟨g1, g2, g3, g4, g5, g6, g7, g8, g9⟩ := h7
      obtain ⟨name, qual, params, body, scope, globals, closure, defaults, kwd, doc, pm, an, code, ct, blt⟩ := fd
      dsimp only at g1 g2 g3 g4 g5 g6 g7 g8 g9
      have e5 := bodyB_ok g5
      subst g1 g2 g6 e5
      unfold cellB at g3
      split at g3
      · rename_i n cc
        simp only [Bool.and_eq_true, decide_eq_true_eq] at g3
        obtain ⟨rfl, g3⟩ := g3
        split at g3
        · rename_i c1 c2 D c3 lcc
          have eD : D = C := of_decide_eq_true g3
          subst eD
          unfold seqB at g4
          split at g4
          · rename_i T
            split at g4
            · rename_i t1 t2 its n t3 lT
              unfold fileB at g8
              split at g8
              · rename_i cda
                split at g8
                · rename_i u1 u2 vsC u3 lC
                  split at g8
                  · rename_i f tf hvs
                    exact ⟨oc, od, osl, name, qual, params, T, cc, cda, kwd, doc, pm, ct, an, lk, g9, fun vs its hi hv => parsB_bind g7 vs its hi hv, ⟨_, its.toList, n, lT, by simp, of_decide_eq_true g4⟩, parsB_head g7, ⟨u1, u2, vsC, u3, f, tf, lC, by rw [← Array.getElem?_toList]; exact hvs, g8⟩, ⟨c1, c2, c3, lcc⟩⟩
                  · cases g8
                · cases g8
              · cases g8
            · cases g4
          · cases g4
        · cases g3
      · cases g3
    · cases h7
  · cases h
end FXI
/-! FXH: the head's look, with the interpreter's own table looked at too. -/
namespace FXH
open PySem PySem.Spec PySem.W
def asS (g : Addr → Option Obj) (n : Nat) : List Addr := cStatics :: He.asD g n
def obsS (n : Nat) (fa : List He.Fa) (fn : List He.DefD) (ts : List He.Tab) (tf : List He.Defn) (ex : Frag → Bool) (g : Addr → Option Obj) : He.AlX :=
  (He.obsT fa fn ts (He.frT g (asS g n)), ex (He.frT g (asS g n)) && He.tabsB g tf (He.frT g (asS g n)))
variable {n : Nat} {fa : List He.Fa} {fn : List He.DefD} {ts : List He.Tab} {tf : List He.Defn} {ex : Frag → Bool} {w : World} {h : Heap}
theorem saysS_of (e : obsS n fa fn ts tf ex h.get? = He.valX fn ts w) : He.SaysX fa fn ts tf ex w h (He.frT h.get? (asS h.get? n)) := by
  have e1 := congrArg Prod.fst e
  have e2 : (ex (He.frT h.get? (asS h.get? n)) && He.tabsB h.get? tf (He.frT h.get? (asS h.get? n))) = true := congrArg Prod.snd e
  obtain ⟨h1, h2⟩ := Bool.and_eq_true_iff.mp e2
  have key : ∀ p ∈ tf, codeHdIn (He.frT h.get? (asS h.get? n)) (He.cT (He.frT h.get? (asS h.get? n)) p).1 (He.cT (He.frT h.get? (asS h.get? n)) p).2 = true ∧ ∃ o, h.get? (He.cT (He.frT h.get? (asS h.get? n)) p).2 = some o ∧ He.emptyTab o = true := fun p hp => by
    obtain ⟨h3, h4⟩ := Bool.and_eq_true_iff.mp (List.all_eq_true.mp h2 p hp)
    refine ⟨h3, ?_⟩
    revert h4
    cases h.get? (He.cT (He.frT h.get? (asS h.get? n)) p).2 with
    | none => exact fun h4 => nomatch h4
    | some o => exact fun h4 => ⟨o, rfl, h4⟩
  refine ⟨e1, h1, fun p hp => (key p hp).1, fun p hp => ?_, fun p hp => ?_⟩
  · obtain ⟨o, q, z⟩ := (key p hp).2
    exact He.frT_none q z
  · obtain ⟨o, q, z⟩ := (key p hp).2
    rw [q, He.emptyTab_eq z]
def hookS (n : Nat) (fa : List He.Fa) (fn : List He.DefD) (ts : List He.Tab) (tf : List He.Defn) (ex : Frag → Bool) : Hook where
  α := He.AlX
  obs := fun s => obsS n fa fn ts tf ex s.heap.get?
  val := fun w => He.valX fn ts w
  says := fun w h => ∃ K : Frag, K.In h ∧ He.SaysX fa fn ts tf ex w h K
  of := fun w s e => ⟨_, He.frT_in, saysS_of e⟩
  keeps := fun w h h' ⟨K, hK, c⟩ k => ⟨K, Frag.In.keeps hK k, ⟨c.t, c.more, c.hd, c.out, fun p hp => k _ _ (c.empty p hp)⟩⟩
theorem obsS_eq {g : Addr → Option Obj} {s : Shared} (e : ∀ a, g a = s.heap.get? a) : obsS n fa fn ts tf ex g = (hookS n fa fn ts tf ex).obs s := by
  have e' : g = s.heap.get? := funext e
  rw [e']
  rfl
end FXH
/-! FXR: exceptions that bear a number: raised, caught, asked. -/
namespace FXR
open PySem PySem.Spec PyProof.Rows PySem.W
section
variable {P : Program} {w : World} {A : Around} {E : Value → Shared → Prop} {s : Shared} {K : Frag} {x D : Addr} {ox od : Obj}
/-- the data descriptor goes ahead of what the object's own dict says -/
theorem find_desc {name : Str} {a b : Value} (hc : (clsIn K D).isSome = true) (h1 : findIn K (.ref D) name = some (some a)) (h2 : specialIn K a "__get__" = some (some b)) (h3 : takesIn K a = some true) : findObj K D (some od) name = some (.bind b a) := by
  obtain ⟨cd, e⟩ := Option.isSome_iff_exists.mp hc
  unfold findObj
  rw [e, Option.bind_some, h1, Option.bind_some]; simp [h2, h3]
theorem class_ask (C : L2.ExcC K D) {Q : Option Value → Shared → Prop} (X : K.In s.heap) (I : InstAt s.heap x ox D (some od)) (h : Q (some (.ref D)) { s with toks := s.toks + 1 }) : wpAny (model P w) A (getAttr? (.ref x) "__class__") Q E s := by
  have hf : findObj K D (some od) "__class__" = some (.bind (.builtin "getset_descriptor.__get__") (.builtin "object.__class__")) := find_desc (by obtain ⟨cd, hc, _⟩ := any_some C.hd; rw [hc]; rfl) C.ha C.hn C.ht
  obtain ⟨hp, g, d, t, os⟩ := s
  have La := I.type (M := model P w)
  have Lb := looks_findIn (M := model P w) X C.hg
  have Lc := looks_findIn (M := model P w) X C.hk
  have Ld := looks_find (M := model P w) X I hf
  have sub : Looks (model P w) hp (isInstance (.ref x) (.type "BaseException")) true := La.andThen (looks_subIn X C.hs)
  have hx0 : (false && onTheHeap (Value.builtin "BaseException.__getattribute__")) = false := rfl
  have hx1 : (onTheHeap (Value.ref D) && Value.builtin "BaseException.__getattribute__" == Value.builtin "object.__getattribute__") = false := by
    rw [show (Value.builtin "BaseException.__getattribute__" == Value.builtin "object.__getattribute__") = false by decide +kernel]; rfl
  unfold getAttr? getAttrBy? getAttrBy; refine wpAny_bind (wpAny_mkText (wpAny_bind (wpAny_attempt (wpAny_holding (wpAny_bind (La.at (wpAny_bind (Lb.at ?_))))))))
  refine (?_ : wpAny _ _ (if (onTheHeap (Value.ref D) && Value.builtin "BaseException.__getattribute__" == Value.builtin "object.__getattribute__") = true then _ else _) _ _ _)
  rw [hx1, if_neg Bool.false_ne_true]; unfold getAttrByItsOwn hookBefore
  refine wpAny_bind ?_; rw [if_pos (show onTheHeap (Value.ref D) = true from rfl)]
  refine Lc.at ?_; refine wpAny_bind (wpAny_attempt (wpAny_holding ?_))
  unfold callGetattribute; rw [hx0, if_neg Bool.false_ne_true]
  unfold boundAndCalled; rw [PySem.F.excAttr_ValueError.ga.bind (.ref x)]
  refine wpAny_bind (wpAny_pure ?_); refine (?_ : wpAny _ _ (call (.builtin "BaseException.__getattribute__") [.ref x, .str "__class__" t]) _ _ _)
  refine wpAny_call (codeAny_call_builtin PySem.F.excAttr_ValueError.ga.plain PySem.F.entry_bexc_ga ?_); refine @check_slot (model P w) _ _ ⟨hp, g, d, t + 1, os⟩ "BaseException.__getattribute__" "BaseException" "__getattribute__" (.ref x) [.str "__class__" t] [] _ (by decide +kernel) (by decide +kernel) sub (PySem.F.args_bexc_ga (.ref x) (.str "__class__" t)) ?_
  unfold Builtin.«object.__getattribute__»; refine wpAny_bind (wpAny_of_eq (a := ((Value.ref x : Value), [Value.str "__class__" t])) (by first | rfl | (simp only [slotArgs]; rfl)) ?_)
  refine wpAny_bind (wpAny_pure (wpAny_bind (La.at (wpAny_bind (Ld.at ?_))))); refine (?_ : wpAny _ _ (holding [Value.builtin "object.__class__"] (call (.builtin "getset_descriptor.__get__") [.builtin "object.__class__", .ref x, .ref D]) >>= ret) _ _ _)
  refine wpAny_bind (wpAny_holding (wpAny_call (class_get (s := ⟨hp, g, d, t + 1, os⟩) (ox := ox) (od := some od) X I C.hm ?_))); refine wpAny_pure ?_
  refine (?_ : wpAny _ _ (handedOut (.ref D)) _ _ _); rw [handedOut_of (v := .ref D) rfl]
  first
    | exact wpAny_pure (wpAny_pure h) | exact wpAny_pure h | exact wpAny_pure (wpAny_bind (wpAny_pure (wpAny_pure h)))
theorem kit_dict (C : L2.ExcC K D) : KitX K (.ref x) (.ref D) (fun h => InstAt h x ox D (some od)) where
  ty := fun _ _ _ I => I.type
  it := fun _ _ X _ => by
    obtain ⟨cdD, hcD, _⟩ := any_some C.hd
    unfold clsIn at hcD; split at hcD
    · rename_i c' d' cd' sl' ho
      intro A' Q' E' s' k q; unfold isType loadHead
      exact wpAny_bind (wpAny_loadPart (k _ _ (X _ _ ho)) (wpAny_pure q))
    · cases hcD
  ne := fun h tp dd its n sl X htp => by
    obtain ⟨cdD, hcD, _⟩ := any_some C.hd
    refine Bool.eq_false_iff.mpr fun q => ?_
    have e : D = tp := Value.ref.inj (beq_iff_eq.mp q)
    subst e; unfold clsIn at hcD; split at hcD
    · rename_i c' d' cd' sl' ho
      cases (X _ _ ho).symm.trans htp
    · cases hcD
  ca := fun X I k => class_ask C X I k
end
end FXR
namespace FW
open PySem PySem.Spec PyProof.Rows L2
abbrev numF (k : Int) : List (Str × V) := [(("number" : Str), V.int k)]
/-- a class of one's own whose instances keep a number -/
structure ClsN (main : PySem.Module) (K : PySem.W.Frag) (mg : Str → Option Value) (cls : Str → Addr) (n : Str) : Prop where
  gP : mg n = some (.ref (cls n))
  ini : ∃ fI, FXI.InitC K main (cls n) fI
section
variable {c : Amb} {E : XK} {H F H0 F0 H' F' : Hp} {σ : L2.St} {X : Cx} {De : EndsD} {Dn : Ends}
@[simp] def dRaiseN (n : Str) (w : W) : WS := fun De e => w e fun d => ∃ k, d = .int k ∧ De.ex (n, some k)
theorem xs_raiseN {n m : Str} {w : W} : ∀ Dn σ H, sD c E (dRaiseN n w) Dn σ H → tMkO (c.g.cls n) (FXI.spInit (c.g.cls n)) [] (tCons (tC (.str m)) (tCons (tD c w) tNil)) σ H (fun cls d H' => wishE E cls d σ H') := fun Dn σ H ⟨e, F, H0, F0, De, x, S, q, K⟩ =>
  ⟨e, F, H0, _, x.ok, S, q, fun d v H1 F1 ⟨k, hd, r⟩ x1 rv => by
    subst hd
    obtain rfl := rv.int_inv
    refine ⟨by simp, fun a ha => ⟨a, .str m, .int k, rfl, upd_same, fun dx hdx hne => ⟨rfl, dx, numF k, upd_same, ?_, ?_, ?_⟩⟩⟩
    · rw [upd_ne hne, upd_same]
    · rw [upd_ne hne] at hdx; exact hdx
    · have h1 : H1 dx = none := by rw [upd_ne hne] at hdx; exact hdx
      have e1 : upd (L2.del (upd (upd (upd H1 a (exo a (c.g.cls n) none)) dx (exd dx (numF k))) a (exo a (c.g.cls n) (some dx))) a) dx (.xd (numF k)) = upd H1 dx (.xd (numF k)) := by
        funext b
        by_cases hb : b = dx
        · rw [hb, upd_same, upd_same]
        · rw [upd_ne hb, upd_ne hb]
          by_cases ha' : b = a
          · rw [ha', del_same, ha]
          · rw [del_ne ha', upd_ne ha', upd_ne hb, upd_ne ha']
      show E (.ref (c.g.cls n)) (some dx) (upd (L2.del (upd (upd (upd H1 a (exo a (c.g.cls n) none)) dx (exd dx (numF k))) a (exo a (c.g.cls n) (some dx))) a) dx (.xd (numF k)))
      rw [e1]
      exact K.ex (n, some k) _ (upd F1 dx (.xd (numF k))) r ((x.trans x1).trans (Ext.laid x1.ok (.xd (numF k)) h1)) dx upd_same⟩
theorem ps_raiseN {n m : Str} {j k : Nat} {w : W} {ne : Expr} {p p2 pos pos2 : Pos} (hc : X.calm = true) (tk : Takes X (wishE E)) (T : ClsN X.prog.main X.K X.mg c.g.cls n) (hr : Room k X.A) (hk : 2 ≤ k) (hg : Gl X n) (he : PE X ne (tD c w)) (hdb : (n == ("__debug__" : Str)) = false := by decide)
    (hs : starEach [.Constant (.str m) j p2, ne] X.env = (false, eval (.Constant (.str m) j p2) X.env) :: starEach [ne] X.env := by rfl) (hpl : (backTo pos (starEach [ne] X.env)).any (·.1) = false := by rfl)
    (hs1 : starEach [ne] X.env = (false, eval ne X.env) :: starEach [] X.env := by rfl) :
    PS X (.Raise (some (.Call (.Name n p) [.Constant (.str m) j p2, ne] [] pos)) none pos2) (sD c E (dRaiseN n w)) := by
  obtain ⟨fI, I⟩ := T.ini
  obtain ⟨fd, F1, hb⟩ := FXI.init_fn (P := X.prog) (w := X.w) (mg := X.mg) (base := X.base) (CX := L2.CX X.prog X.w) I trivial 0
  exact ps_w (ps_raise hc tk (pmk_oex (k := 1) I.oex I.ini I.typ F1 (hr.mono hk) hb .nil passL hg T.gP (pa_cons pe_str (pa_cons he pa_nil hs1) hs) hdb hs hpl)) xs_raiseN
end
end FW
/-! FXL: lambdas without parameters that outlive the def that made them. What each one caught stands in the heap as a known object; it is forgotten while the lambda runs, whose cells they are. -/
namespace FXL
open PySem PySem.Spec PyProof.Rows L2 PySem.W
abbrev tru : HO := .ext fun _ => True
/-- a known object that does not change -/
abbrev frzO (o : Obj) : HO := .frz o tru
theorem frz_ok {P : Program} {w : World} {H : Hp} {h : Heap} {a : Addr} {o : Obj} (e : h.get? a = some o) : ObjOk P w H h a (frzO o) := ⟨e, trivial, ⟨_, e⟩, fun _ _ _ _ => trivial⟩
theorem frz_at {P : Program} {w : World} {H : Hp} {h : Heap} {a : Addr} {o : Obj} {u : HO} (hok : HOk P w H h) (e : H a = some (.frz o u)) : h.get? a = some o := (hok a _ e).1
def hdel (H : Hp) (S : List Addr) : Hp := fun b => if b ∈ S then none else H b
def hadd (H H1 : Hp) (S : List Addr) : Hp := fun b => if b ∈ S then H b else H1 b
theorem hdel_in {H : Hp} {S : List Addr} {b : Addr} (h : b ∈ S) : hdel H S b = none := if_pos h
theorem hdel_out {H : Hp} {S : List Addr} {b : Addr} (h : b ∉ S) : hdel H S b = H b := if_neg h
theorem hadd_in {H H1 : Hp} {S : List Addr} {b : Addr} (h : b ∈ S) : hadd H H1 S b = H b := if_pos h
theorem hadd_out {H H1 : Hp} {S : List Addr} {b : Addr} (h : b ∉ S) : hadd H H1 S b = H1 b := if_neg h
theorem hdel_some {H : Hp} {S : List Addr} {b : Addr} {o : HO} (h : hdel H S b = some o) : b ∉ S ∧ H b = some o := by
  by_cases hb : b ∈ S
  · rw [hdel_in hb] at h; cases h
  · rw [hdel_out hb] at h; exact ⟨hb, h⟩
theorem hdel_none {H : Hp} {S : List Addr} {b : Addr} (h : H b = none) : hdel H S b = none := by
  by_cases hb : b ∈ S
  · exact hdel_in hb
  · rw [hdel_out hb]; exact h
/-- all of S are known objects -/
def Known (H : Hp) (S : List Addr) : Prop := ∀ b ∈ S, ∃ o, H b = some (frzO o)
section
variable {P : Program} {w : World} {K : Frag} {mg : Str → Option Value} {base : Heap} {A : Around} {outer : List Env} {s s' : Shared} {H H1 : Hp} {S : List Addr}
theorem Known.out (k : Known H S) {b : Addr} {o : HO} (h : H b = some o) (n : ∀ x, o ≠ frzO x) : b ∉ S := fun hb => by
  obtain ⟨x, e⟩ := k b hb
  rw [h] at e
  exact n x (Option.some.inj e)
theorem hok_del (k : Known H S) {h : Heap} (hok : HOk P w H h) : HOk P w (hdel H S) h := fun b o e => by
  obtain ⟨hb, e⟩ := hdel_some e
  exact (hok b o e).stay (fun _ _ _ z => z) (fun c hc => by rw [hdel_out (k.out hc fun x z => by cases z)]; exact hc) (fun c xs hc => by rw [hdel_out (k.out hc fun x z => by cases z)]; exact hc)
theorem env_del (k : Known H S) (e : Env0 P w K mg base A outer s H) : Env0 P w K mg base A outer s (hdel H S) :=
  ⟨e.frames, e.mod, fun b o h => ⟨(e.bs b o h).1, hdel_none (e.bs b o h).2⟩, e.bsz, e.funs, fun b hb => hdel_none (e.frf b hb), hok_del k e.hok, e.bare⟩
theorem hok_add (k : Known H S) {h : Heap} (hok : HOk P w H1 h) (n1 : ∀ b ∈ S, H1 b = none) (kp : ∀ b ∈ S, ∀ o, H b = some (frzO o) → h.get? b = some o) : HOk P w (hadd H H1 S) h := fun b o e => by
  have n2 : ∀ {c : Addr} {u : HO}, H1 c = some u → c ∉ S := fun {c u} hc z => by rw [n1 c z] at hc; cases hc
  by_cases hb : b ∈ S
  · rw [hadd_in hb] at e
    obtain ⟨x, hx⟩ := k b hb
    rw [hx] at e
    cases e
    exact frz_ok (kp b hb x hx)
  · rw [hadd_out hb] at e
    exact (hok b o e).stay (fun _ _ _ z => z) (fun c hc => by rw [hadd_out (n2 hc)]; exact hc) (fun c xs hc => by rw [hadd_out (n2 hc)]; exact hc)
/-- what a call has left that knew nothing of S -/
theorem ce_add (k : Known H S) (e0 : Env0 P w K mg base A outer s H) {Q' Q : VK} {u : Value} (hQ : ∀ v H1, (∀ b ∈ S, H1 b = none) → Q' v H1 → Q v (hadd H H1 S)) (h : CE outer P w (hdel H S) s Q' u s') : CE outer P w H s Q u s' := by
  obtain ⟨v, H1, os, bare, un, hok1, rv, q⟩ := h
  have nf : ∀ b ∈ S, b ∉ frs outer := fun b hb z => by
    obtain ⟨x, e⟩ := k b hb
    rw [e0.frf b z] at e; cases e
  have n1 : ∀ b ∈ S, H1 b = none := fun b hb => by
    obtain ⟨x, e⟩ := k b hb
    exact un.free b x (frz_at e0.hok e) (hdel_in hb) (by simp)
  refine ⟨v, hadd H H1 S, os, bare, ⟨fun b o e n hf hx => un.keep b o e (hdel_none n) hf hx, fun b o e n hf hx => un.slot b o e (hdel_none n) hf hx, fun b o e n hx => ?_, fun b o e hx => un.there b o e hx, fun b xs e => ?_, fun b o v e => ?_, fun b ps e => ?_⟩,
    hok_add k hok1 n1 fun b hb o e => un.keep b o (frz_at e0.hok e) (hdel_in hb) (nf b hb) (by simp), rv, hQ v H1 n1 q⟩
  · by_cases hb : b ∈ S
    · rw [hadd_in hb]; exact n
    · rw [hadd_out hb]; exact un.free b o e (hdel_none n) hx
  · have hb := k.out e fun x z => by cases z
    rw [hadd_out hb]
    exact un.tups b xs (by rw [hdel_out hb]; exact e)
  · by_cases hb : b ∈ S
    · rw [hadd_in hb]; exact e
    · rw [hadd_out hb]
      exact un.frzs b o v (by rw [hdel_out hb]; exact e)
  · have hb := k.out e fun x z => by cases z
    rw [hadd_out hb]
    exact un.tbls b ps (by rw [hdel_out hb]; exact e)
theorem cx_add (k : Known H S) (e0 : Env0 P w K mg base A outer s H) {E' E : XK} {u : Value} (hE : ∀ cls d H1, (∀ b ∈ S, H1 b = none) → E' cls d H1 → E cls d (hadd H H1 S)) (h : L2.CX P w outer (hdel H S) s E' u s') : L2.CX P w outer H s E u s' := by
  obtain ⟨a, B, H1, cls, d, rfl, fly, hok1, ub, na, os, bare, q⟩ := h
  have nf : ∀ b ∈ S, b ∉ frs outer := fun b hb z => by
    obtain ⟨x, e⟩ := k b hb
    rw [e0.frf b z] at e; cases e
  have n1 : ∀ b ∈ S, H1 b = none := fun b hb => by
    obtain ⟨x, e⟩ := k b hb
    exact ub.free b x (frz_at e0.hok e) (hdel_in hb)
  have kp : ∀ b ∈ S, ∀ o, H b = some (frzO o) → B.get? b = some o := fun b hb o e => ub.keep b o (frz_at e0.hok e) (hdel_in hb) (nf b hb)
  have aS : a ∉ S := fun z => by
    obtain ⟨x, e⟩ := k a z
    have := kp a z x e
    rw [fly.2.1] at this; cases this
  refine ⟨a, B, hadd H H1 S, cls, d, rfl, fly, hok_add k hok1 n1 kp, ⟨fun b o e n hf => ub.keep b o e (hdel_none n) hf, ub.slot, fun b o e n => ?_, ub.there, fun b xs e => ?_, fun b o v e => ?_, fun b ps e => ?_⟩, by rw [hadd_out aS]; exact na, os, bare, hE cls d H1 n1 q⟩
  · by_cases hb : b ∈ S
    · rw [hadd_in hb]; exact n
    · rw [hadd_out hb]; exact ub.free b o e (hdel_none n)
  · have hb := k.out e fun x z => by cases z
    rw [hadd_out hb]
    exact ub.tups b xs (by rw [hdel_out hb]; exact e)
  · by_cases hb : b ∈ S
    · rw [hadd_in hb]; exact e
    · rw [hadd_out hb]
      exact ub.frzs b o v (by rw [hdel_out hb]; exact e)
  · have hb := k.out e fun x z => by cases z
    rw [hadd_out hb]
    exact ub.tbls b ps (by rw [hdel_out hb]; exact e)
end
/-! ### a lambda: what is written of it, what it caught -/
structure LamD where
  q : Str
  params : Arguments
  body : Expr
  scope : Scope
  /-- its maker's names -/
  N : List Str
structure LamD.Ok (l : LamD) : Prop where
  kind : l.scope.kind = .function
  co : l.scope.isCoroutine = false
  gen : l.scope.isGenerator = false
  own : ∀ y ∈ l.scope.names, y.2 ≠ .local ∧ y.2 ≠ .cell
  bind : ∀ (cl : List (Str × Addr)) (pm cv ctv : Value), bindArgs (kla_fn "<lambda>" l.q l.params l.body l.scope cl pm cv ctv) ⟨[], []⟩ = pure []
abbrev lEnv (l : LamD) (cl : List (Str × Addr)) (L f c' : Addr) : Env := envX l.q l.scope L f (.ref c') cl
/-- the context of its body, entered at s from the frames outer -/
def lamY (P : Program) (w : World) (K : Frag) (mg : Str → Option Value) (base : Heap) (l : LamD) (cl : List (Str × Addr)) (A : Around) (outer : List Env) (s : Shared) (H : Hp) (E : XK) (f c' : Addr) : Cx where
  prog := P
  w := w
  K := K
  mg := mg
  base := base
  A := A.deeper (lEnv l cl s.heap.objs.size f c')
  N := l.N
  s_0 := s
  H_0 := H
  env := lEnv l cl s.heap.objs.size f c'
  outer := outer
  stack := lEnv l cl s.heap.objs.size f c' :: outer
  ex := []
  fn := fun _ => false
  calm := true
  pn := []
  xe := fun e s' => wpAny (model P w) (A.deeper (lEnv l cl s.heap.objs.size f c')) (leaving (lEnv l cl s.heap.objs.size f c') e) (fun _ s'' => L2.CX P w outer H s E e s'') (fun e' s'' => L2.CX P w outer H s E e' s'') s'
/-- at f stands such a lambda; vs: what its maker's names stood for -/
def Clo (H : Hp) (l : LamD) (f : Addr) (vs : List V) (cl : List (Str × Addr)) : Prop := ∃ (c' : Addr) (pm ctv : Value) (oc : Obj) (u : HO) (vc : Array Value) (t : Tok),
  H f = some (frzO (kla_obj "<lambda>" l.q l.params l.body l.scope cl pm c' ctv)) ∧ H c' = some (.frz oc u) ∧ oc.data = .fields vc ∧ vc[1]? = some (.str l.q t) ∧
  (∀ y c, cl.lookup y = some c → ∃ (o : Obj) (x : Value), H c = some (frzO o) ∧ o.data = .cell (some x)) ∧ (∀ y z c, cl.lookup y = some c → cl.lookup z = some c → y = z) ∧ (∀ y, l.scope.names.lookup y = some .free → ∃ c, cl.lookup y = some c) ∧
  (∀ (i : Nat) (y : Str) (v : V), l.N[i]? = some y → vs[i]? = some v → l.scope.names.lookup y = some .free → ∃ (c : Addr) (o : Obj) (x : Value), cl.lookup y = some c ∧ H c = some (frzO o) ∧ o.data = .cell (some x) ∧ RelV v x) ∧ vs.length = l.N.length
theorem Clo.ext {H H' : Hp} {l : LamD} {f : Addr} {vs : List V} {cl : List (Str × Addr)} (C : Clo H l f vs cl) (k : ∀ b o u, H b = some (.frz o u) → H' b = some (.frz o u)) : Clo H' l f vs cl := by
  obtain ⟨c', pm, ctv, oc, u, vc, t, h1, h2, h3, h4, h5, h6, h7, h8, h9⟩ := C
  refine ⟨c', pm, ctv, oc, u, vc, t, k _ _ _ h1, k _ _ _ h2, h3, h4, fun y c e => ?_, h6, h7, fun i y v e1 e2 e3 => ?_, h9⟩
  · obtain ⟨o, x, a, b⟩ := h5 y c e
    exact ⟨o, x, k _ _ _ a, b⟩
  · obtain ⟨c, o, x, a, b, d⟩ := h8 i y v e1 e2 e3
    exact ⟨c, o, x, a, k _ _ _ b, d⟩
/-- the cells that it caught -/
def cellsOf (l : LamD) (cl : List (Str × Addr)) : List Addr := l.scope.names.filterMap fun y => cl.lookup y.1
section
variable {P : Program} {w : World} {K : Frag} {mg : Str → Option Value} {base : Heap} {A : Around} {outer : List Env} {s : Shared} {H : Hp} {l : LamD} {cl : List (Str × Addr)} {vs : List V}
theorem lamY_start {E : XK} {f c' : Addr} {h₁ : Heap} {tk : Nat} (L : l.Ok) (e0 : Env0 P w K mg base A outer s H) (hd : A.handled = none) (hC : ∀ y c, cl.lookup y = some c → H c = none ∧ ∃ v, s.heap.IsCell c v) (inj : ∀ y z c, cl.lookup y = some c → cl.lookup z = some c → y = z)
    (has : ∀ y, l.scope.names.lookup y = some .free → ∃ c, cl.lookup y = some c) (hv : ∀ (i : Nat) (y : Str) (v : V), l.N[i]? = some y → vs[i]? = some v → l.scope.names.lookup y = some .free → ∃ (c : Addr) (x : Value), cl.lookup y = some c ∧ s.heap.IsCell c (some x) ∧ RelV v x) (hl : vs.length = l.N.length)
    (hns : h₁.Ns s.heap.objs.size fun y => ([] : List (Str × Value)).reverse.lookup y) (kp : ∀ b o, s.heap.get? b = some o → h₁.get? b = some o) :
    Inv (lamY P w K mg base l cl A outer s H E f c') [] (vs.map some) H { s with heap := h₁, toks := tk } := by
  have cellK : ∀ {c : Addr} {v : Option Value}, s.heap.IsCell c v → h₁.IsCell c v := fun {c v} ⟨o, ho, hd⟩ => ⟨o, kp _ _ ho, hd⟩
  have noA : ∀ b : Addr, b ∉ (lamY P w K mg base l cl A outer s H E f c').ex := fun b z => absurd (show b ∈ ([] : List Addr) from z) (by simp)
  refine ⟨⟨e0.mod, L.kind, rfl, rfl, Nat.le_refl _, inj, fun y hy => ?_, fun y c z _ => ?_, fun _ => hd, Around.frames_deeper e0.frames, .inr ⟨rfl, rfl⟩, fun b z => absurd z (noA b), e0.bs, e0.bsz, fun b _ _ => noA b, fun b z => absurd z (noA b), e0.funs, e0.frf⟩,
    rfl, e0.bare, Un.kept kp, ⟨_, hns, fun i y v e1 e2 e3 => ?_⟩, fun y c e => ?_, e0.hok.fresh (Nat.le_refl _), fun y c e => (hC y c e).1, fun q hq => absurd (show q ∈ ([] : List (Addr × Obj)) ++ [] from hq) (by simp), e0.hok.kept kp, by show (vs.map some).length = l.N.length; rw [List.length_map]; exact hl⟩
  · have hy : l.scope.names.lookup y = some .cell ∨ l.scope.names.lookup y = some .free := hy
    rcases hy with hy | hy
    · exact absurd rfl (L.own _ (PySem.mem_of_lookup hy)).2
    · exact has y hy
  · cases (show false = true from z)
  · have e3 : Vis l.scope y := e3
    rcases e3 with k | k | k
    · exact absurd rfl (L.own _ (PySem.mem_of_lookup k)).1
    · exact absurd rfl (L.own _ (PySem.mem_of_lookup k)).2
    · have e4 : vs[i]? = some v := by
        rw [List.getElem?_map] at e2
        cases q : vs[i]? with
        | none => rw [q] at e2; cases e2
        | some x => rw [q] at e2; cases e2; rfl
      obtain ⟨c, x, h1, h2, h3⟩ := hv i y v e1 e4 k
      exact ⟨x, h3, .inr ⟨.inr k, c, h1, cellK h2⟩⟩
  · obtain ⟨v, z⟩ := (hC y c e).2
    exact ⟨v, cellK z⟩
/-- it is called -/
theorem lam_call {f : Addr} {k : Nat} {E E' : XK} {Q Q' : VK} {t : XK → TE} {S : List Addr} (L : l.Ok) (C : Clo H l f vs cl) (hS : ∀ y c, cl.lookup y = some c → c ∈ S) (hS2 : Known H S) (e0 : Env0 P w K mg base A outer s H) (hr : Room (k + 1) A)
    (hbody : ∀ (A : Around) (outer : List Env) (s : Shared) (H : Hp) (E : XK) (cl : List (Str × Addr)) (f c' : Addr), Room k (A.deeper (lEnv l cl s.heap.objs.size f c')) → PE (lamY P w K mg base l cl A outer s H E f c') l.body (t E))
    (ht : t E' (vs.map some) (hdel H S) Q') (hQ : ∀ v H1, (∀ b ∈ S, H1 b = none) → Q' v H1 → Q v (hadd H H1 S)) (hE : ∀ cls d H1, (∀ b ∈ S, H1 b = none) → E' cls d H1 → E cls d (hadd H H1 S)) :
    codeAny (model P w) A (.call (.ref f) ⟨[], []⟩) (CR (L2.CX P w) outer P w H s Q E) s := by
  obtain ⟨c', pm, ctv, oc, u, vc, tq, h1, h2, h3, h4, h5, h6, h7, h8, h9⟩ := C
  have of1 := frz_at e0.hok h1
  have hoc := frz_at e0.hok h2
  have d0 := env_del hS2 e0
  have lim : s.heap.NoLimit := e0.mod.nolimit.keeps fun b o e => (e0.bs b o e).1
  refine kla_callFunE hr.depth of1 rfl L.co L.gen rfl ⟨c', oc, vc, tq, rfl, hoc, h3, h4⟩ ?_
  rw [L.bind]
  refine wpAny_pure (wpAny_newFunctionEnv (fun y hy => (L.own y hy).2) (fun y hy => absurd hy (by simp)) (fun h₁ hns hsb => ⟨lim.fresh _ hsb, ?_⟩) L.kind)
  show codeAny _ _ (.expr l.body (lEnv l cl s.heap.objs.size f c')) _ _
  have kp : ∀ b o, s.heap.get? b = some o → h₁.get? b = some o := fun b o e => hsb.extBut b o (Nat.ne_of_lt (Heap.lt_size e)) (Heap.get?_push_of_some _ e)
  have J : Inv (lamY P w K mg base l cl A outer s (hdel H S) E' f c') [] (vs.map some) (hdel H S) { s with heap := h₁, toks := s.toks + ([] : List (Str × Value)).length } := by
    refine lamY_start L d0 hr.hd (fun y c e => ?_) h6 h7 (fun i y v e1 e2 e3 => ?_) h9 hns kp
    · obtain ⟨o, x, a, b⟩ := h5 y c e
      exact ⟨hdel_in (hS y c e), _, o, frz_at e0.hok a, b⟩
    · obtain ⟨c, o, x, a, b, d, r⟩ := h8 i y v e1 e2 e3
      exact ⟨c, x, a, ⟨o, frz_at e0.hok b, d⟩, r⟩
  have rc : codeAny (model P w) A (.expr l.body (lEnv l cl s.heap.objs.size f c')) (CR (L2.CX P w) outer P w (hdel H S) s Q' E') { s with heap := h₁, toks := s.toks + ([] : List (Str × Value)).length } := by
    refine kla_codeExpr (wpAny_mono ((hbody A outer s (hdel H S) E' cl f c' (hr.deeper _)).run [] _ _ _ Q' J ht) (fun v s' hq => ?_) fun e s' hq => hq)
    obtain ⟨w', H', J', rv, q⟩ := hq
    exact ⟨w', H', J'.os, J'.bare, J'.base, J'.hok, rv, q⟩
  refine codeAny_mono rc fun r s' hq => ?_
  cases r with
  | error e => exact cx_add hS2 e0 hE hq
  | ok fl =>
    cases fl with
    | ret u => exact ce_add hS2 e0 hQ hq
    | next => exact False.elim hq
    | brk => exact False.elim hq
    | cont => exact False.elim hq
end
end FXL
/-! FXM: lambdas called, over data. -/
namespace FW
open PySem PySem.Spec PyProof.Rows L2 FXL
def KnownC (H : Hp) (S : List Addr) : Prop := ∀ b ∈ S, ∃ (o : Obj) (x : Option Value), H b = some (frzO o) ∧ o.data = .cell x
theorem KnownC.k {H : Hp} {S : List Addr} (h : KnownC H S) : Known H S := fun b hb => by
  obtain ⟨o, _, e, _⟩ := h b hb
  exact ⟨o, e⟩
section
variable {c : Amb} {H F H1 F1 : Hp} {S : List Addr}
theorem row_keep {H' : Hp} (h : RowOk c H) (k : ∀ b vs, H b = some (.lst vs) → H' b = some (.lst vs)) (k2 : ∀ b o vs, H b = some (.frz o (.lst vs)) → H' b = some (.frz o (.lst vs))) : RowOk c H' := by
  obtain ⟨i, x, n, h1, h2, h3, h4, h5⟩ := h
  refine ⟨i, x, n, k _ _ h1, h2, h3, h4, ?_⟩
  rcases h5 with (h5 | ⟨o, h5⟩) | h5
  · exact .inl (.inl (k _ _ h5))
  · exact .inl (.inr ⟨o, k2 _ _ _ h5⟩)
  · exact .inr h5
theorem wok_del (W : Wok c H F) (k : KnownC H S) (nF : ∀ b ∈ S, F b = none) : Wok c (hdel H S) F := by
  have out : ∀ {b : Addr} {o : HO}, H b = some o → (∀ x, o ≠ frzO x) → hdel H S b = some o := fun {b o} e n => by rw [hdel_out (k.k.out e n)]; exact e
  refine ⟨fun b o e => ?_, row_keep W.row (fun b vs e => out e (fun x z => by cases z)) (fun b o vs e => out e (fun x z => by cases z)), W.rF, fun P hP => ⟨?_, (W.tab P hP).2⟩⟩
  · rw [hdel_out fun z => by rw [nF b z] at e; cases e]
    exact W.sub b o e
  · obtain ⟨ps, e, t, n⟩ := (W.tab P hP).1
    refine ⟨ps, out e (fun x z => by cases z), t, fun q hq pos cv hc => ?_⟩
    obtain ⟨d, oc, vs, tk, u, e1, e2, e3, e4⟩ := n q hq pos cv hc
    refine ⟨d, oc, vs, tk, u, e1, ?_, e3, e4⟩
    rw [hdel_out fun z => ?_]
    · exact e2
    · obtain ⟨o, x, h1, h2⟩ := k d z
      rw [e2] at h1
      cases h1
      rw [e3] at h2; cases h2
theorem ext_add (x : Ext c (hdel H S) F H1 F1) (k : Known H S) (n1 : ∀ b ∈ S, H1 b = none) : Ext c H F (hadd H H1 S) F1 := by
  have on : ∀ {b : Addr} {o : HO}, H1 b = some o → hadd H H1 S b = some o := fun {b o} e => by rw [hadd_out fun z => by rw [n1 b z] at e; cases e]; exact e
  refine ⟨⟨fun b o e => on (x.ok.sub b o e), x.ok.row.keep (fun b o e _ => on e) (fun P hP => (x.ok.tab P hP).1), x.ok.rF, fun P hP => ⟨(x.ok.tab P hP).1.keep fun b o e => on e, (x.ok.tab P hP).2⟩⟩, x.grow, fun b o e hr hp => ?_, fun b h h' => ?_, ?_⟩
  · by_cases hb : b ∈ S
    · rw [hadd_in hb]; exact e
    · exact on (x.keep b o (by rw [hdel_out hb]; exact e) hr hp)
  · by_cases hb : b ∈ S
    · have := n1 b hb
      cases q : F1 b with
      | none => exact absurd q h'
      | some o => rw [x.ok.sub b o q] at this; cases this
    · have := x.new b h h'
      rw [hdel_out hb] at this; exact this
  · rcases x.pre with (p | ⟨o, p⟩) | p
    · exact .inl (.inl (hdel_some p).2)
    · exact .inl (.inr ⟨o, (hdel_some p).2⟩)
    · exact .inr p
end
/-- an exception is of this kind -/
def XIs (c : Amb) (cls : Value) (d : Option Addr) (F : Hp) : Exc → Prop
  | (n, none) => cls = .ref (c.g.cls n) ∧ d = none
  | (n, some k) => cls = .ref (c.g.cls n) ∧ ∃ dx, d = some dx ∧ F dx = some (.xd (numF k))
theorem XIs.at {c : Amb} {E : XK} {cls : Value} {d : Option Addr} {H' F : Hp} {x : Exc} (h : XIs c cls d F x) (e : ExcAt c E H' F x) : E cls d H' := by
  obtain ⟨n, o⟩ := x
  cases o with
  | none =>
    obtain ⟨rfl, rfl⟩ := h
    exact e
  | some i =>
    obtain ⟨rfl, dx, rfl, h⟩ := h
    exact e dx h
/-- slot i stands for a lambda, whose body over what it caught is Wl -/
def tLamC (l : LamD) (c : Amb) (i : Nat) (Wl : WXp) (E : L2.St → XK) : TE := fun σ H Q => ∃ (f : Addr) (vs : List V) (cl : List (Str × Addr)) (F : Hp) (ds : List D) (R : D → Prop) (RX : Exc → Prop), σ[i]? = some (some (.ref f)) ∧ Clo H l f vs cl ∧ (∀ y b, cl.lookup y = some b → F b = none) ∧
  Wok c H F ∧ RepVs c F vs ds ∧ Wl RX (ds.map .val) R ∧ Post c H F R Q ∧ PostX c H F RX (E σ)
theorem rep_vals {c : Amb} {H F : Hp} {vs : List V} {ds : List D} (r : RepVs c F vs ds) : RepS c H (vs.map some) H F (ds.map .val) := by
  have h := rep_start (N := []) (H := H) r
  unfold L2.start startD at h
  simpa using h
theorem pe_lamC {X : Cx} {c : Amb} {l : LamD} {i j k : Nat} {a : Str} {Wl : WXp} {W : WX} {p1 p2 : Pos} (L : l.Ok) (hN : X.N[i]? = some a) (hv : Vis X.env.scope a) (tk : Takes X W) (hr : Room j X.A) (hk : k + 1 ≤ j)
    (hbody : ∀ (A : Around) (outer : List PySem.Env) (s : Shared) (H : Hp) (E : XK) (cl : List (Str × Addr)) (f c' : Addr), Room k (A.deeper (lEnv l cl s.heap.objs.size f c')) → PE (lamY X.prog X.w X.K X.mg X.base l cl A outer s H E f c') l.body (tDX c (WE (wishE E)) Wl))
    (hd : (a == ("__debug__" : Str)) = false := by decide) (hcd : (a == ("__classdict__" : Str)) = false := by decide) : PE X (.Call (.Name a p1) [] [] p2) (tLamC l c i Wl (WE W)) := by
  refine ⟨fun pins s σ H Q I h => ?_⟩
  obtain ⟨f, vs, cl, F, ds, R, RX, hs, C, nF, Wk, rv, hw, P, PX⟩ := h
  refine wpAny_Call_Name_kw (thn ((pe_var (pos := p1) (i := i) hN hv hd hcd).run pins s σ H (fun v H1 => v = .ref f ∧ H1 = H) I ⟨.ref f, hs, rfl, rfl⟩) fun u s1 ⟨v, H1, I1, r1, q1⟩ => ?_)
  obtain ⟨ev, eH⟩ := q1
  subst ev
  rw [eH] at I1
  obtain rfl : u = Value.ref f := r1
  have C0 := C
  obtain ⟨c', pm, ctv, oc, u, vc, tq, h1, h2, h3, h4, h5, h6, h7, h8, h9⟩ := C0
  have of1 := frz_at I1.hok h1
  refine PySem.W.callWith_F0 ⟨_, _, _, _, of1⟩ ?_
  -- the cells
  have hS : ∀ y b, cl.lookup y = some b → b ∈ cl.filterMap fun p => cl.lookup p.1 := fun y b e => List.mem_filterMap.mpr ⟨(y, b), PySem.mem_of_lookup e, e⟩
  have hS3 : ∀ b ∈ cl.filterMap (fun p => cl.lookup p.1), ∃ y, cl.lookup y = some b := fun b hb => by
    obtain ⟨p, _, e⟩ := List.mem_filterMap.mp hb
    exact ⟨p.1, e⟩
  have KC : KnownC H (cl.filterMap fun p => cl.lookup p.1) := fun b hb => by
    obtain ⟨y, e⟩ := hS3 b hb
    obtain ⟨o, x, e1, e2⟩ := h5 y b e
    exact ⟨o, _, e1, e2⟩
  have nF2 : ∀ b ∈ cl.filterMap (fun p => cl.lookup p.1), F b = none := fun b hb => by
    obtain ⟨y, e⟩ := hS3 b hb
    exact nF y b e
  have Wd := wok_del Wk KC nF2
  have rc := lam_call (P := X.prog) (w := X.w) (K := X.K) (mg := X.mg) (base := X.base) (A := X.A) (outer := X.stack) (s := s1) (H := H) (f := f) (E := WE W σ) (Q := Q) (t := fun E => tDX c (WE (wishE E)) Wl)
    (E' := fun cls d G => ∃ x G', RX x ∧ Ext c (hdel H (cl.filterMap fun p => cl.lookup p.1)) F G G' ∧ XIs c cls d G' x) (Q' := fun v G => ∃ d G', R d ∧ Ext c (hdel H (cl.filterMap fun p => cl.lookup p.1)) F G G' ∧ RepV c G' v d)
    L C hS KC.k I1.env0 (hr.mono hk) hbody ⟨ds.map .val, F, hdel H (cl.filterMap fun p => cl.lookup p.1), R, RX, Wd, rep_vals rv, hw, fun d v G G' r x rv => ⟨d, G', r, x, rv⟩, fun x G G' r y => ?_⟩
    (fun v G n1 ⟨d, G', r, x, rv⟩ => P d v _ G' r (ext_add x KC.k n1) rv)
    (fun cls d G n1 ⟨x, G', r, y, xi⟩ => xi.at (PX x _ G' r (ext_add y KC.k n1)))
  · refine wpAny_call (codeAny_mono rc fun r s' hq => ?_)
    cases r with
    | error e => exact passAt tk σ pins H s1 e s' I1 hq
    | ok fl =>
      cases fl with
      | ret u => exact I1.after hq
      | next => exact False.elim hq
      | brk => exact False.elim hq
      | cont => exact False.elim hq
  · obtain ⟨n, o⟩ := x
    cases o with
    | none => exact ⟨_, G', r, y, rfl, rfl⟩
    | some i => exact fun d hd => ⟨_, G', r, y, rfl, d, rfl, hd⟩
end FW
/-! FXW: a def that hands back a list of lambdas. -/
namespace FXL
open PySem PySem.Spec PyProof.Rows L2 PySem.W
/-- the table at P: each code object that it tells bears the name q -/
def TabN (H : Hp) (P : Addr) (q : Str) : Prop := ∃ ps : Array Value, H P = some (.tbl ps) ∧ TriplesOk ps.toList ∧ ∀ (pos : Pos) (cv : Value), codeAmong pos ps.toList = some cv → ∃ (d : Addr) (oc : Obj) (vs : Array Value) (t : Tok) (u : HO), cv = .ref d ∧ H d = some (.frz oc u) ∧ oc.data = .fields vs ∧ vs[1]? = some (.str q t)
def Grow (P : Addr) (H H' : Hp) : Prop := ∀ b o, H b = some o → b ≠ P → H' b = some o
theorem Grow.trans {P : Addr} {H H1 H2 : Hp} (a : Grow P H H1) (b : Grow P H1 H2) : Grow P H H2 := fun x o e n => b x o (a x o e n) n
/-- at f stands such a lambda, its cells among those -/
def LamReg (H : Hp) (l : LamD) (cells : List (Str × Addr)) (f : Addr) : Prop := ∃ (c' : Addr) (pm ctv : Value) (oc : Obj) (u : HO) (vc : Array Value) (t : Tok),
  H f = some (frzO (kla_obj "<lambda>" l.q l.params l.body l.scope (cloFrom cells l.scope.names []) pm c' ctv)) ∧ H c' = some (.frz oc u) ∧ oc.data = .fields vc ∧ vc[1]? = some (.str l.q t)
theorem LamReg.ext {H H' : Hp} {l : LamD} {cells : List (Str × Addr)} {f : Addr} (C : LamReg H l cells f) (k : ∀ b o u, H b = some (.frz o u) → H' b = some (.frz o u)) : LamReg H' l cells f := by
  obtain ⟨c', pm, ctv, oc, u, vc, t, h1, h2, h3, h4⟩ := C
  exact ⟨c', pm, ctv, oc, u, vc, t, k _ _ _ h1, k _ _ _ h2, h3, h4⟩
def tLam3 (P : Addr) (l : LamD) (cells : List (Str × Addr)) : TE := fun _ H Q => TabN H P l.q ∧ ∀ H2 f, Grow P H H2 → H f = none → TabN H2 P l.q → LamReg H2 l cells f → Q (.ref f) H2
section
variable {X : Cx} {pins : List (Addr × Obj)} {σ : L2.St} {H : Hp} {s : Shared}
theorem pe_lam {cA P : Addr} {l : LamD} {pos : Pos} (TB : LamX.TabB X.base X.mg cA P) (hcode : X.env.code = .ref cA) (hq : X.env.qual ++ "<lambda>" = l.q) (hdef : defaultsOf l.params X.env = ([], [])) (hfree : X.Ok → ∀ y ∈ l.scope.names, y.2 = .free → ∃ c, X.env.cells.lookup y.1 = some c) :
    PE X (.Lambda l.params l.body l.scope pos) (tLam3 P l X.env.cells) := by
  refine ⟨fun pins s σ H Q I h => ?_⟩
  obtain ⟨⟨ps, hP, ht, ha⟩, h⟩ := h
  refine PySem.W.kla_eval hdef ?_
  rw [hq]
  have bP : s.heap.BuiltinsAt X.mg P := TB.bm.keeps I.bk
  have hP' : s.heap.get? P = some { cls := .none, data := .fields ps } := I.hok P _ hP
  cases hc : codeAmong pos ps.toList with
  | none =>
    refine PySem.W.kla_makeFunction (mg := X.mg) (c := cA) (P := P) (ps := ps) (closure_ok (hfree I.ok)) I.ok.glob (I.mod.glob.keeps I.bk) hcode (TB.code.keeps I.bk) hP' ht hc TB.gP bP fun c' ctv h' tk hx hge hlt hrec htb => ?_
    obtain ⟨c2, oc, vs, t, e2, hoc, hd, hv⟩ := hrec
    cases e2
    have nC : H c' = none := I.hok.fresh hge
    have nPc : P ≠ c' := ne_of_none hP nC
    have I1 := LamX.inv_table (q := l.q) (t' := tk) (more := #[rawInt pos.line, rawInt pos.col, .ref c']) (h' := h') I hP (fun b o hb e => hx b o hb e) htb hge ⟨oc, vs, t, hoc, hd, hv⟩
    have I2 := I1.write (t' := tk) (h' := h') (x := c') (e := c') (o := frzO oc) (by rw [upd_same]; exact trivial) (.inl rfl) (fun b u _ e => e) ⟨oc, hoc⟩ (frz_ok hoc)
    have I3 := I2.laid (t' := tk) (a := h'.objs.size) (o := frzO (kla_obj "<lambda>" l.q l.params l.body l.scope (cloFrom X.env.cells l.scope.names []) ((X.mg "__name__").getD .none) c' ctv)) (h' := h'.push (kla_obj "<lambda>" l.q l.params l.body l.scope (cloFrom X.env.cells l.scope.names []) ((X.mg "__name__").getD .none) c' ctv))
      (fun b u e => Heap.get?_push_of_some _ e) (Nat.le_refl _) (frz_ok (Heap.get?_push_size _ rfl))
    have hsz : s.heap.objs.size ≤ h'.objs.size := Nat.le_trans hge (Nat.le_of_lt hlt)
    have nf : H h'.objs.size = none := I.hok.fresh hsz
    have n1 : h'.objs.size ≠ c' := Nat.ne_of_gt hlt
    have n2 : P ≠ h'.objs.size := Nat.ne_of_lt (Nat.lt_of_lt_of_le (Heap.lt_size hP') hsz)
    refine ⟨.ref h'.objs.size, _, I3, rfl, h _ _ (fun b o e n => ?_) nf ?_ ?_⟩
    · rw [upd_ne (ne_of_none e nf), upd_ne (ne_of_none e nC), upd_ne (ne_of_none e nC), upd_ne n]; exact e
    · have eL : (ps ++ #[rawInt pos.line, rawInt pos.col, .ref c']).toList = ps.toList ++ [rawInt pos.line, rawInt pos.col, .ref c'] := by simp
      refine ⟨_, by rw [upd_ne n2, upd_ne nPc, upd_ne nPc, upd_same], by rw [eL]; exact PySem.TriplesOk_snoc _ _ _ _ ht, fun p' cv hcv => ?_⟩
      rw [eL] at hcv
      rcases LamX.among_app _ ht hcv with z | z
      · obtain ⟨d, o2, v2, t2, u2, e1, e2, e3, e4⟩ := ha p' cv z
        refine ⟨d, o2, v2, t2, u2, e1, ?_, e3, e4⟩
        rw [upd_ne (ne_of_none e2 nf), upd_ne (ne_of_none e2 nC), upd_ne (ne_of_none e2 nC), upd_ne fun z => by rw [z, hP] at e2; cases e2]
        exact e2
      · exact ⟨c', oc, vs, t, tru, z, by rw [upd_ne n1.symm, upd_same], hd, hv⟩
    · exact ⟨c', _, ctv, oc, tru, vs, t, upd_same, by rw [upd_ne n1.symm, upd_same], hd, hv⟩
  | some cv =>
    obtain ⟨c', oc, vs, t, u, e, e2, e3, e4⟩ := ha pos cv hc
    subst e
    refine PySem.W.kla_makeFunctionHit (mg := X.mg) (c := cA) (P := P) (ps := ps) (closure_ok (hfree I.ok)) I.ok.glob (I.mod.glob.keeps I.bk) hcode (TB.code.keeps I.bk) hP' ht hc bP fun ctv h' tk hx hsz => ?_
    have nf : H h'.objs.size = none := I.hok.fresh hsz
    have I3 := I.laid (t' := tk) (a := h'.objs.size) (o := frzO (kla_obj "<lambda>" l.q l.params l.body l.scope (cloFrom X.env.cells l.scope.names []) ((X.mg "__name__").getD .none) c' ctv)) (h' := h'.push (kla_obj "<lambda>" l.q l.params l.body l.scope (cloFrom X.env.cells l.scope.names []) ((X.mg "__name__").getD .none) c' ctv))
      (fun b u e => Heap.get?_push_of_some _ (hx b u e)) hsz (frz_ok (Heap.get?_push_size _ rfl))
    have up : ∀ {b : Addr} {o : HO}, H b = some o → upd H h'.objs.size (frzO (kla_obj "<lambda>" l.q l.params l.body l.scope (cloFrom X.env.cells l.scope.names []) ((X.mg "__name__").getD .none) c' ctv)) b = some o := fun {b o} e => by rw [upd_ne (ne_of_none e nf)]; exact e
    refine ⟨.ref h'.objs.size, _, I3, rfl, h _ _ (fun b o e _ => up e) nf ⟨ps, up hP, ht, fun p' cv hcv => ?_⟩ ⟨c', _, ctv, oc, u, vs, t, upd_same, up e2, e3, e4⟩⟩
    obtain ⟨d, o2, v2, t2, u2, f1, f2, f3, f4⟩ := ha p' cv hcv
    exact ⟨d, o2, v2, t2, u2, f1, up f2, f3, f4⟩
end
/-! ### what a def leaves whose cells outlive it -/
structure Left (scope : Scope) (N : List Str) (cells : List (Str × Addr)) (vs : List V) (H H' Hf : Hp) : Prop where
  up : ∀ b o, H' b = some o → Hf b = some o
  new : ∀ y c, cells.lookup y = some c → H c = none ∧ H' c = none
  only : ∀ b o, Hf b = some o → H' b = none → ∃ y, cells.lookup y = some b
  at_ : ∀ y c, cells.lookup y = some c → ∃ (j : Nat) (v : V) (o : Obj) (x : Value), N[j]? = some y ∧ vs[j]? = some v ∧ Hf c = some (frzO o) ∧ o.data = .cell (some x) ∧ RelV v x
  has : ∀ y, scope.names.lookup y = some .cell → ∃ c, cells.lookup y = some c
  inj : ∀ y z c, cells.lookup y = some c → cells.lookup z = some c → y = z
def tAll : List TS → TS
  | [] => tNext
  | t :: r => tSeq t (tAll r)
theorem run_snoc {X : Cx} {pins : List (Addr × Obj)} {last : Stmt} {Q : Flow → Shared → Prop} {N0 : L2.St → Hp → Prop} (hl : ∀ s σ H, Inv X pins σ H s → N0 σ H → wpAny (model X.prog X.w) X.A (execs [last] X.env) Q X.xe s) :
    ∀ (l : List (Stmt × TS)) (s : Shared) (σ : L2.St) (H : Hp), (∀ p ∈ l, PS X p.1 p.2) → Inv X pins σ H s → tAll (l.map (·.2)) { nx := N0, rt := fun _ _ => False } σ H → wpAny (model X.prog X.w) X.A (execs (l.map (·.1) ++ [last]) X.env) Q X.xe s
  | [], s, σ, H, _, I, h => hl s σ H I h
  | p :: l, s, σ, H, hp, I, h => by
    refine wpAny_execs_cons (thn ((hp p (List.mem_cons_self ..)).run pins s σ H { nx := fun σ H => tAll (l.map (·.2)) { nx := N0, rt := fun _ _ => False } σ H, rt := fun _ _ => False } I h) fun f s1 q => ?_)
    cases f with
    | next =>
      obtain ⟨σ', H', I', q'⟩ := q
      exact run_snoc hl l s1 σ' H' (fun x hx => hp x (List.mem_cons_of_mem _ hx)) I' q'
    | brk =>
      obtain ⟨_, _, _, q⟩ := q
      exact False.elim q
    | cont =>
      obtain ⟨_, _, _, q⟩ := q
      exact False.elim q
    | ret u =>
      obtain ⟨_, _, _, _, _, q⟩ := q
      exact False.elim q
open Classical in
/-- the cells are known from here on -/
noncomputable def regC (H : Hp) (h : Heap) (cells : List (Str × Addr)) : Hp := fun b => if ∃ y, cells.lookup y = some b then (h.get? b).map frzO else H b
theorem fn_cells {CX : CXT} {P : Program} {w : World} {K : Frag} {mg : Str → Option Value} {base : Heap} {k i : Nat} {f : Addr} {name qual nm : Str} {params : Arguments} {body : List Stmt} {scope : Scope} {dV kV doc pm cdv ct oc : Value} {an od : Option Addr} {p1 p2 : Pos}
    {osl : Array (Option Value)} {N ps : List Str} {sp : Sp} {init : List Stmt} (lk : K.lookup f = some ⟨oc, od, .func (PySem.W.fnOf name qual params body scope dV kV doc pm an cdv ct), osl⟩) (hcd : PySem.W.codeIn K cdv qual = true) (S : FnScope N ps scope)
    (len : ∀ vs H Q E, sp vs H Q E → vs.length = ps.length) (hb0 : body = init ++ [.Return (some (.Name nm p1)) p2]) (hi : N[i]? = some nm) (hnm : scope.names.lookup nm = some .local) (hc1 : ∀ y, scope.names.lookup y = some .cell → ∃ j, j < ps.length ∧ N[j]? = some y)
    (hc2 : ∀ (n : Nat) (y : Str) (c : Addr), (cellsFrom n scope.names []).lookup y = some c → scope.names.lookup y = some .cell)
    (hbody : ∀ (A : Around) (outer : List Env) (s : Shared) (H : Hp) (vs : List V) (Q : VK) (E : XK), Room k (A.deeper (envOfC qual scope s.heap.objs.size f cdv)) → sp vs H Q E →
      ∃ l : List (Stmt × TS), l.map (·.1) = init ∧ (∀ p ∈ l, PS (cxOf CX P w K mg base N qual scope f cdv A outer s H E) p.1 p.2) ∧
        tAll (l.map (·.2)) { nx := fun σ H' => ∃ p, σ[i]? = some (some (.ref p)) ∧ (∀ j, j < ps.length → σ[j]? = (vs.map some)[j]?) ∧ ∀ Hf, Left scope N (cellsFrom (s.heap.objs.size + 1) scope.names []) vs H H' Hf → Q (.ref p) Hf, rt := fun _ _ => False } (start N vs) H)
    (hd : (nm == ("__debug__" : Str)) = false := by decide) (hcdn : (nm == ("__classdict__" : Str)) = false := by decide) :
    FnOk P w K mg base CX (k + 1) f (PySem.W.fnOf name qual params body scope dV kV doc pm an cdv ct) ps sp := by
  refine ⟨len, fun A outer s H args us vs Q E hr e0 hb r hsp => ?_⟩
  have hl := len _ _ _ _ hsp
  have KX : K.In s.heap := e0.mod.kin.keeps fun b o e => (e0.bs b o e).1
  have lim : s.heap.NoLimit := e0.mod.nolimit.keeps fun b o e => (e0.bs b o e).1
  have hkind : ∀ y ∈ ps.zip us, scope.names.lookup y.1 = some .local ∨ (scope.names.lookup y.1 = some .cell ∧ ((cellsFrom (s.heap.objs.size + 1) scope.names []).lookup y.1).isSome = true) := fun ⟨n, v⟩ hy => by
    rcases S.par n (List.of_mem_zip hy).1 with q | q
    · exact .inl q
    · exact .inr ⟨q, PySem.W.cellsFrom_some _ _ _ (.inl q)⟩
  refine codeAny_call_function hr.depth (KX _ _ lk) rfl S.co S.gen rfl (PySem.W.codeRec_of KX hcd) (hb _ _ _ _ ?_)
  refine wpAny_newFunctionEnv_cells S.kind hkind fun env he s1 x => ?_
  subst he
  refine ⟨lim.keeps x.toInCall.keep, codeAny_func ?_⟩
  have I0 : Inv (cxOf CX P w K mg base N qual scope f cdv A outer s H E) [] (start N vs) H s1 := inv_start S hr.hd e0 hl r x
  obtain ⟨l, hl1, hps, ht⟩ := hbody A outer s H vs Q E (hr.deeper _) hsp
  rw [hb0, ← hl1]
  refine run_snoc (X := cxOf CX P w K mg base N qual scope f cdv A outer s H E) (pins := []) (fun s2 σ H' J ⟨p, h1, h2, h3⟩ => ?_) l s1 _ H hps I0 ht
  refine wpAny_execs_cons (wpAny_Return_some (thn ((pe_var (pos := p1) (i := i) hi (.inl hnm) hd hcdn).run [] s2 σ H' (fun v H1 => v = .ref p ∧ H1 = H') J ⟨.ref p, h1, rfl, rfl⟩) fun u s3 ⟨v, H1, J3, rv, ev, eH⟩ => ?_))
  subst ev
  rw [eH] at J3
  have nc : ∀ {b : Addr} {o : HO}, H' b = some o → ¬ ∃ y, (cellsFrom (s.heap.objs.size + 1) scope.names []).lookup y = some b := fun {b o} e ⟨y, z⟩ => by
    have := J3.freeC y b z
    rw [e] at this; cases this
  have up : ∀ b o, H' b = some o → regC H' s3.heap (cellsFrom (s.heap.objs.size + 1) scope.names []) b = some o := fun b o e => by
    unfold regC
    rw [if_neg (nc e)]; exact e
  have cab : ∀ y c, (cellsFrom (s.heap.objs.size + 1) scope.names []).lookup y = some c → s.heap.objs.size ≤ c := fun y c z => J3.ok.cab y c rfl z
  have old : ∀ {b : Addr}, b < s.heap.objs.size → regC H' s3.heap (cellsFrom (s.heap.objs.size + 1) scope.names []) b = H' b := fun {b} hb => by
    unfold regC
    rw [if_neg fun ⟨y, z⟩ => Nat.lt_irrefl _ (Nat.lt_of_lt_of_le hb (cab y b z))]
  have at_ : ∀ y c, (cellsFrom (s.heap.objs.size + 1) scope.names []).lookup y = some c → ∃ (j : Nat) (v : V) (o : Obj) (x : Value), N[j]? = some y ∧ vs[j]? = some v ∧ regC H' s3.heap (cellsFrom (s.heap.objs.size + 1) scope.names []) c = some (frzO o) ∧ o.data = .cell (some x) ∧ RelV v x := fun y c e => by
    have hy := hc2 _ y c e
    obtain ⟨j, hj, hN⟩ := hc1 y hy
    have hv : vs[j]? = some (vs[j]'(by omega)) := List.getElem?_eq_getElem _
    obtain ⟨m, hn, hloc⟩ := J3.loc
    obtain ⟨u, ru, q⟩ := hloc j y (vs[j]'(by omega)) hN (by rw [h2 j hj, List.getElem?_map, hv]; rfl) (.inr (.inl hy))
    rcases q with ⟨k', _⟩ | ⟨_, c3, e3, o, ho, hdo⟩
    · have k' : scope.names.lookup y = some .local := k'
      rw [hy] at k'; cases k'
    · have e4 : c3 = c := Option.some.inj (e3.symm.trans e)
      subst e4
      refine ⟨j, _, o, u, hN, hv, ?_, hdo, ru⟩
      unfold regC
      rw [if_pos ⟨y, e⟩, ho]; rfl
  refine ⟨.ref p, regC H' s3.heap (cellsFrom (s.heap.objs.size + 1) scope.names []), J3.os, J3.bare, ⟨J3.base.keep, J3.base.slot, fun b o e n hx => ?_, J3.base.there, fun b xs e => ?_, fun b o v e => ?_, fun b q e => ?_⟩, fun b o e => ?_, rv, h3 _ ⟨up, fun y c e => ⟨e0.hok.fresh (cab y c e), J3.freeC y c e⟩, fun b o e n => ?_, at_, fun y hy => cell_has hy, J3.ok.inj⟩⟩
  · rw [old (Heap.lt_size e)]
    exact J3.base.free b o e n hx
  · rw [old (e0.hok b _ e).lt]; exact J3.base.tups b xs e
  · rw [old (e0.hok b _ e).lt]; exact J3.base.frzs b o v e
  · rw [old (e0.hok b _ e).lt]; exact J3.base.tbls b q e
  · by_cases hb : ∃ y, (cellsFrom (s.heap.objs.size + 1) scope.names []).lookup y = some b
    · obtain ⟨y, z⟩ := hb
      obtain ⟨v, o2, ho, hdo⟩ := J3.cell y b z
      have e2 := e
      unfold regC at e2
      rw [if_pos ⟨y, z⟩, ho] at e2
      cases e2
      exact frz_ok ho
    · have e2 := e
      unfold regC at e2
      rw [if_neg hb] at e2
      exact (J3.hok b o e2).stay (fun _ _ _ z => z) (fun c hc => up c _ hc) (fun c xs hc => up c _ hc)
  · by_cases hb : ∃ y, (cellsFrom (s.heap.objs.size + 1) scope.names []).lookup y = some b
    · exact hb
    · unfold regC at e
      rw [if_neg hb, n] at e; cases e
end FXL
/-! FXV: a def that hands back a list of lambdas: its promise. -/
namespace FW
open PySem PySem.Spec PyProof.Rows L2 FXL
/-- what it tells: a new list of such lambdas, each with what the def was told -/
def spW (g : Glb) (n : Nat) (ls : List LamD) : Sp := fun vs H Q _ => vs.length = n ∧ ∃ (c : Amb) (F : Hp) (ds : List D), c.g = g ∧ Wok c H F ∧ RepVs c F vs ds ∧ ∀ (p : Addr) (fs : List Addr) (H' : Hp), Ext c H F H' F → H p = none → H' p = some (.lst (fs.map V.ref)) → fs.length = ls.length →
  (∀ (j : Nat) (l : LamD) (f : Addr), ls[j]? = some l → fs[j]? = some f → ∃ cl, Clo H' l f vs cl ∧ ∀ y b, cl.lookup y = some b → F b = none) → Q (.ref p) H'
def ts0 (P : Addr) (i : Nat) (cells : List (Str × Addr)) (l : LamD) : TS := tAsg (tLst (tCons (tLam3 P l cells) tNil)) (gName i)
def tsA (K : PySem.W.Frag) (P : Addr) (i : Nat) (cells : List (Str × Addr)) (l : LamD) : TS := tDrop (tBM K "list" rAppend (tVar i) (tCons (tLam3 P l cells) tNil))
def tsL (K : PySem.W.Frag) (P : Addr) (i : Nat) (cells : List (Str × Addr)) : List LamD → List TS
  | [] => []
  | l :: r => ts0 P i cells l :: r.map (tsA K P i cells)
/-- the state on the way -/
structure Way (P : Addr) (q : Str) (cells : List (Str × Addr)) (H H' : Hp) (p : Addr) (done : List LamD) (fs : List Addr) : Prop where
  grow : Grow P H H'
  tab : TabN H' P q
  np : H p = none
  lst : H' p = some (.lst (fs.map V.ref))
  len : fs.length = done.length
  reg : ∀ (j : Nat) (l : LamD) (f : Addr), done[j]? = some l → fs[j]? = some f → LamReg H' l cells f
theorem Way.add {P p f : Addr} {q : Str} {cells : List (Str × Addr)} {H H1 H2 : Hp} {done : List LamD} {fs : List Addr} {l : LamD} (w : Way P q cells H H1 p done fs) (g : Grow P H1 H2) (t : TabN H2 P q) (r : LamReg H2 l cells f) : Way P q cells H (upd H2 p (.lst (fs.map V.ref ++ [.ref f]))) p (done ++ [l]) (fs ++ [f]) := by
  obtain ⟨ps, tP, tt, tn⟩ := t
  have nP : p ≠ P := fun z => by
    obtain ⟨ps', e, _⟩ := w.tab
    rw [← z, w.lst] at e; cases e
  have l2 : H2 p = some (.lst (fs.map V.ref)) := g p _ w.lst nP
  have kf : ∀ b o u, H2 b = some (.frz o u) → upd H2 p (.lst (fs.map V.ref ++ [.ref f])) b = some (.frz o u) := fun b o u e => by
    rw [upd_ne fun z => by rw [z, l2] at e; cases e]; exact e
  have kg : ∀ b o u, H1 b = some (.frz o u) → H2 b = some (.frz o u) := fun b o u e => g b _ e fun z => by
    obtain ⟨ps', e', _⟩ := w.tab
    rw [z, e'] at e; cases e
  refine ⟨fun b o e n => ?_, ⟨ps, by rw [upd_ne nP.symm]; exact tP, tt, fun pos cv hc => ?_⟩, w.np, by rw [upd_same, List.map_append]; rfl, by simp [w.len], fun j l' f' hj hf => ?_⟩
  · rw [upd_ne fun z => by rw [z, w.np] at e; cases e]
    exact g b o (w.grow b o e n) n
  · obtain ⟨d, oc, vs, tk, u, e1, e2, e3⟩ := tn pos cv hc
    exact ⟨d, oc, vs, tk, u, e1, kf _ _ _ e2, e3⟩
  · by_cases hlt : j < done.length
    · rw [List.getElem?_append_left hlt] at hj
      rw [List.getElem?_append_left (by rw [w.len]; exact hlt)] at hf
      exact ((w.reg j l' f' hj hf).ext kg).ext kf
    · rw [List.getElem?_append_right (by omega)] at hj
      rw [List.getElem?_append_right (by rw [w.len]; omega), w.len] at hf
      cases q0 : j - done.length with
      | zero =>
        rw [q0] at hj hf
        simp at hj hf
        subst hj hf
        exact r.ext kf
      | succ m =>
        rw [q0] at hj
        simp at hj
theorem way_run {K : PySem.W.Frag} {P p : Addr} {q : Str} {i : Nat} {cells : List (Str × Addr)} {H : Hp} {N0 : L2.St → Hp → Prop} : ∀ (rest done : List LamD) (fs : List Addr) (σ : L2.St) (H1 : Hp), (∀ l ∈ rest, l.q = q) → (done ++ rest).length ≤ 1000 → σ[i]? = some (some (.ref p)) → Way P q cells H H1 p done fs →
    (∀ fs' H2, Way P q cells H H2 p (done ++ rest) fs' → N0 σ H2) → tAll (rest.map (tsA K P i cells)) { nx := N0, rt := fun _ _ => False } σ H1
  | [], done, fs, σ, H1, _, _, _, w, k => k fs H1 (by simpa using w)
  | l :: rest, done, fs, σ, H1, hq, hl, hs, w, k => by
    have e := hq l (List.mem_cons_self ..)
    refine ⟨.ref p, hs, .inl ⟨rfl, _, SqL.of w.lst⟩, by rw [e]; exact w.tab, fun H2 f g nf t r => ?_⟩
    rw [e] at t
    have nP : p ≠ P := fun z => by
      obtain ⟨ps', e', _⟩ := w.tab
      rw [← z, w.lst] at e'; cases e'
    refine ⟨p, fs.map V.ref, .ref f, rfl, rfl, g p _ w.lst nP, len_lt (by rw [List.length_map, w.len]; simp at hl; omega), ?_⟩
    exact way_run rest (done ++ [l]) (fs ++ [f]) σ _ (fun x hx => hq x (List.mem_cons_of_mem _ hx)) (by simpa using hl) hs (w.add g t r) fun fs' H3 w' => k fs' H3 (by simpa using w')
theorem TabL.n {c : Amb} {H : Hp} {P : Addr} {q : Str} (h : TabL c H P) (hq : (P, q) ∈ c.g.Ls) : TabN H P q := by
  obtain ⟨ps, e, t, n⟩ := h
  exact ⟨ps, e, t, n q hq⟩
/-- what such a def's lambdas must be -/
structure LamsOk (sc : Scope) (N ps : List Str) (q : Str) (ls : List LamD) : Prop where
  q : ∀ l ∈ ls, l.q = q
  N : ∀ l ∈ ls, l.N = ps
  free : ∀ l ∈ ls, ∀ y ∈ l.scope.names, y.2 = NameKind.free → sc.names.lookup y.1 = some .cell
  own : ∀ l ∈ ls, ∀ y ∈ l.scope.names, y.2 ≠ NameKind.cell
  len : ls.length ≤ 1000
  ne : ls ≠ []
theorem works_ok {P : Program} {w : World} {g : Glb} {mg : Str → Option Value} {base : Heap} {x nm q : Str} {st : Stmt} {fd : FuncData} {N ps : List Str} {k i : Nat} {ls : List LamD} {init : List Stmt} {p1 p2 : Pos} (Fn : FunP g.K x st (He.fAd g.K (x, none)) fd) (mgf : mg x = some (.ref (He.fAd g.K (x, none)))) (b : Binds g.K fd ps [])
    (S : FnScope N ps (defScope st)) (hL : LamsOk (defScope st) N ps q ls) (hP : He.tabOf g.K (He.codeOf g.K (x, none)) ∈ g.Ps) (hq : (He.tabOf g.K (He.codeOf g.K (x, none)), q) ∈ g.Ls) (hu : ∀ q', (He.tabOf g.K (He.codeOf g.K (x, none)), q') ∈ g.Ls → q' = q)
    (hb0 : defBody st = init ++ [.Return (some (.Name nm p1)) p2]) (hi : N[i]? = some nm) (hnm : (defScope st).names.lookup nm = some .local) (hip : ps.length ≤ i) (hc1 : ∀ y, (defScope st).names.lookup y = some .cell → ∃ j, j < ps.length ∧ N[j]? = some y)
    (hc2 : ∀ (n : Nat) (y : Str) (c : Addr), (cellsFrom n (defScope st).names []).lookup y = some c → (defScope st).names.lookup y = some .cell)
    (hb : ∀ (cdv : Value) (A : Around) (outer : List PySem.Env) (s : Shared) (H : Hp) (E : XK), cdv = .ref (He.codeOf g.K (x, none)) → Room k (A.deeper (envOfC x (defScope st) s.heap.objs.size (He.fAd g.K (x, none)) cdv)) →
      ∃ l : List (Stmt × TS), l.map (·.1) = init ∧ (∀ p ∈ l, PS (cxOf CX0 P w g.K mg base N x (defScope st) (He.fAd g.K (x, none)) cdv A outer s H E) p.1 p.2) ∧
        l.map (·.2) = tsL g.K (He.tabOf g.K (He.codeOf g.K (x, none))) i (cellsFrom (s.heap.objs.size + 1) (defScope st).names []) ls)
    (hd : (nm == ("__debug__" : Str)) = false := by decide) (hcdn : (nm == ("__classdict__" : Str)) = false := by decide) : C8.Cal P w g.K mg base (k + 1) x (spW g ps.length ls) [] := by
  obtain ⟨oc, od, dV, kV, doc, pm, an, cdv, ct, osl, rfl, lk, hcd, _, _⟩ := Fn.ex
  obtain ⟨cc, rfl⟩ := He.codeIn_ref hcd
  have ec := He.codeOf_eq (K := g.K) (p := (x, none)) lk rfl
  have lenS : ∀ vs H Q E, spW g ps.length ls vs H Q E → vs.length = ps.length := fun vs H Q E h => h.1
  refine ⟨_, _, ps, [], fn_cells lk hcd S lenS hb0 hi hnm hc1 hc2 (fun A outer s H vs Q E hr h => ?_) hd hcdn, mgf, Fn.kp, b, .nil⟩
  have hvl := lenS vs H Q E h
  obtain ⟨_, ⟨g', r, a, ns⟩, F, ds, hg, Wk, rv, k'⟩ := h
  have hg' : g' = g := hg
  subst hg'
  obtain ⟨l, e1, hps, e2⟩ := hb _ A outer s H E (by rw [ec]) hr
  refine ⟨l, e1, hps, ?_⟩
  rw [e2]
  have tn0 := (Wk.tab _ hP).1.n hq
  have hpre := S.pre
  have hpl : ps.length ≤ N.length := by have := congrArg List.length hpre; rw [List.length_take] at this; omega
  cases ls with
  | nil => exact absurd rfl hL.ne
  | cons l0 rest =>
    have eq0 := hL.q l0 (List.mem_cons_self ..)
    have fin : ∀ (p : Addr) (fs : List Addr) (σ : L2.St) (H2 : Hp), Way (He.tabOf g'.K (He.codeOf g'.K (x, none))) q (cellsFrom (s.heap.objs.size + 1) (defScope st).names []) H H2 p (l0 :: rest) fs → ∀ Hf, Left (defScope st) N (cellsFrom (s.heap.objs.size + 1) (defScope st).names []) vs H H2 Hf → Q (.ref p) Hf := fun p fs σ H2 wy Hf lf => by
      obtain ⟨ps2, tP2, tt2, tn2⟩ := wy.tab
      obtain ⟨ps1, tP1, _, _⟩ := tn0
      have nPf : ∀ {b : Addr} {o : HO}, H b = some o → (∀ z, o ≠ .tbl z) → b ≠ He.tabOf g'.K (He.codeOf g'.K (x, none)) := fun {b o} e n z => by
        rw [z, tP1] at e
        exact n _ (Option.some.inj e).symm
      have nPs : ∀ {b : Addr}, b ∉ (⟨g', r, a, ns⟩ : Amb).Ps → b ≠ He.tabOf g'.K (He.codeOf g'.K (x, none)) := fun {b} hb z => hb (by rw [z]; exact hP)
      have go : ∀ b o, H b = some o → b ≠ He.tabOf g'.K (He.codeOf g'.K (x, none)) → Hf b = some o := fun b o e n => lf.up b o (wy.grow b o e n)
      have W2 : Wok ⟨g', r, a, ns⟩ Hf F := by
        refine ⟨fun b o e => go b o (Wk.sub b o e) (fun z => by rw [z, (Wk.tab _ hP).2] at e; cases e), Wk.row.keep (fun b o e nb => go b o e (nPs nb)) (fun P h => (Wk.tab P h).1), Wk.rF, fun P' hP' => ⟨?_, (Wk.tab P' hP').2⟩⟩
        by_cases z : P' = He.tabOf g'.K (He.codeOf g'.K (x, none))
        · rw [z]
          refine ⟨ps2, lf.up _ _ tP2, tt2, fun q' hq' pos cv hcv => ?_⟩
          rw [hu q' hq']
          obtain ⟨d, oc, v2, t2, u2, f1, f2, f3⟩ := tn2 pos cv hcv
          exact ⟨d, oc, v2, t2, u2, f1, lf.up _ _ f2, f3⟩
        · obtain ⟨pz, ez, rz⟩ := (Wk.tab P' hP').1
          refine TabL.keep' ⟨pz, ez, rz⟩ ((go _ _ ez z).trans ez.symm) fun b o u e => go b _ e (nPf e fun z y => by cases y)
      have X2 : Ext ⟨g', r, a, ns⟩ H F Hf F := ⟨W2, fun _ _ h => h, fun b o e _ nb => go b o e (nPs nb), fun _ h h' => absurd h h', Wk.row.sq⟩
      refine k' p fs Hf X2 wy.np (lf.up _ _ wy.lst) wy.len fun j l f hj hf => ?_
      have hm := List.mem_of_getElem? hj
      obtain ⟨c', pm', ctv, oc', u, vc, t, h1, h2, h3, h4⟩ := (wy.reg j l f hj hf).ext fun b o u e => lf.up _ _ e
      -- the closure
      have hfree : ∀ y ∈ l.scope.names, y.2 = NameKind.free → ∃ c, (cellsFrom (s.heap.objs.size + 1) (defScope st).names []).lookup y.1 = some c := fun y hy e => lf.has _ (hL.free l hm y hy e)
      have cm : ∀ {y c}, (cloFrom (cellsFrom (s.heap.objs.size + 1) (defScope st).names []) l.scope.names []).lookup y = some c → (cellsFrom (s.heap.objs.size + 1) (defScope st).names []).lookup y = some c := fun {y c} e => by
        rcases cloFrom_mem (PySem.mem_of_lookup e) with hm | ⟨h1, h2⟩
        · cases hm
        · obtain ⟨c1, hc⟩ := hfree _ h1 rfl
          have hc : (cellsFrom (s.heap.objs.size + 1) (defScope st).names []).lookup y = some c1 := hc
          rw [h2, hc]; rfl
      have look : ∀ {y}, l.scope.names.lookup y = some .free → ∃ c, (cloFrom (cellsFrom (s.heap.objs.size + 1) (defScope st).names []) l.scope.names []).lookup y = some c := fun {y} hl =>
        mem_lookup (cloFrom_has (cells := cellsFrom (s.heap.objs.size + 1) (defScope st).names []) (acc := []) (PySem.mem_of_lookup hl))
      refine ⟨cloFrom (cellsFrom (s.heap.objs.size + 1) (defScope st).names []) l.scope.names [], ⟨c', pm', ctv, oc', u, vc, t, h1, h2, h3, h4, fun y c e => ?_, fun y z c ey ez => lf.inj y z c (cm ey) (cm ez), fun y hy => look hy, fun n y v hN hv hy => ?_, by rw [hL.N l hm]; exact hvl⟩, fun y b e => ?_⟩
      · obtain ⟨_, _, o, x', _, _, e3, e4, _⟩ := lf.at_ y c (cm e)
        exact ⟨o, x', e3, e4⟩
      · obtain ⟨c, hc⟩ := look hy
        obtain ⟨j', v', o, x', hN', hv', e3, e4, rr⟩ := lf.at_ y c (cm hc)
        rw [hL.N l hm] at hN
        have hnl : n < ps.length := (List.getElem?_eq_some_iff.mp hN).1
        have hN2 : N[n]? = some y := by
          rw [← hpre, List.getElem?_take_of_lt hnl] at hN
          exact hN
        have ej : n = j' := by
          obtain ⟨a1, b1⟩ := List.getElem?_eq_some_iff.mp hN2
          obtain ⟨a2, b2⟩ := List.getElem?_eq_some_iff.mp hN'
          exact (List.getElem_inj S.nd).mp (b1.trans b2.symm)
        subst ej
        rw [hv] at hv'
        cases hv'
        exact ⟨c, o, x', hc, e3, e4, rr⟩
      · cases qF : F b with
        | none => rfl
        | some o =>
          have := Wk.sub b o qF
          rw [(lf.new y b (cm e)).1] at this; cases this
    -- the first one, then the others
    have tn1 : TabN H (He.tabOf g'.K (He.codeOf g'.K (x, none))) l0.q := by rw [eq0]; exact tn0
    refine ⟨tn1, fun H2 f g nf t r => ⟨len_le (by simp), fun p hp => ?_⟩⟩
    rw [eq0] at t
    have hlt := (List.getElem?_eq_some_iff.mp hi).1
    have hsl : (start N vs).length = N.length := by
      unfold L2.start
      simp
      omega
    have nP : p ≠ He.tabOf g'.K (He.codeOf g'.K (x, none)) := fun z => by
      obtain ⟨pz, ez, _⟩ := t
      rw [← z, hp] at ez; cases ez
    have np : H p = none := by
      cases e : H p with
      | none => rfl
      | some o =>
        have := g p o e nP
        rw [hp] at this; cases this
    have kf : ∀ b o u, H2 b = some (.frz o u) → upd H2 p (.lst [.ref f]) b = some (.frz o u) := fun b o u e => upd_keep hp b _ e
    have w1 : Way (He.tabOf g'.K (He.codeOf g'.K (x, none))) q (cellsFrom (s.heap.objs.size + 1) (defScope st).names []) H (upd H2 p (.lst [.ref f])) p [l0] [f] := by
      obtain ⟨pz, ez, tz, nz⟩ := t
      refine ⟨fun b o e n => upd_keep hp b o (g b o e n), ⟨pz, upd_keep hp _ _ ez, tz, fun pos cv hc => ?_⟩, np, upd_same, rfl, fun j l f' hj hf => ?_⟩
      · obtain ⟨d, oc, v2, tk, u, f1, f2, f3⟩ := nz pos cv hc
        exact ⟨d, oc, v2, tk, u, f1, kf _ _ _ f2, f3⟩
      · cases j with
        | zero =>
          simp at hj hf
          subst hj hf
          exact r.ext kf
        | succ j => simp at hj
    refine way_run rest [l0] [f] _ _ (fun l hl => hL.q l (List.mem_cons_of_mem _ hl)) (by simpa using hL.len) (List.getElem?_set_self (by rw [hsl]; exact hlt)) w1 fun fs' H3 w' => ⟨p, List.getElem?_set_self (by rw [hsl]; exact hlt), fun j hj => ?_, fin p fs' (start N vs) H3 (by simpa using w')⟩
    rw [List.getElem?_set_ne (by omega)]
    unfold L2.start
    rw [List.getElem?_append_left (by rw [List.length_map]; omega)]
end FW
/-! FXN: try: work() except C as e: .., work a lambda; exceptions with a number within. -/
namespace FW
open PySem PySem.Spec PyProof.Rows L2 FXL
section
variable {c : Amb} {E : XK} {H F H0 F0 : Hp} {σ : L2.St} {X : Cx} {De : EndsD} {Dn : Ends}
/-- isinstance(e, C), e with or without a number -/
@[simp] def dIsO (a : Addr) (o : Option (Addr × Int)) (i : Nat) (b : Bool) : W := fun e R => e[i]? = some (.exc a o) ∧ R (.bool b)
def rIsN (K : PySem.W.Frag) (D a dx : Addr) : List V → Hp → VK → Prop := fun xs H Q => ∃ (c : V) (cv : Value) (b : Bool) (fs : List (Str × V)), xs = [.ref a, c] ∧ (∀ u, RelV c u → u = cv) ∧ PySem.W.kitOne K (.ref D) cv = some b ∧ H dx = some (.xd fs) ∧ Q (.bl b) H
theorem call_isN {a D dx : Addr} {oe : Obj} {pn : List (Addr × Obj)} (C : ExcC X.K D) (hz : Zc (.ref D) (some dx) oe) (hf : ∃ vs, oe.data = .fields vs) : CallR (X.suite a ((a, oe) :: pn)) (.builtin "isinstance") (rIsN X.K D a dx) := by
  intro pins s σ H xs us Q I r h
  obtain ⟨c, cv, b, fs, rfl, hcv, e, hd, q⟩ := h
  cases r with
  | @cons _ _ _ _ rx rr =>
    cases rr with
    | @cons _ _ _ _ rt rr =>
      cases rr
      cases rx
      have ec := hcv _ rt
      subst ec
      have hget := (I.pin (a, oe) (List.mem_append.mpr (.inl List.mem_cons_self))).1
      obtain ⟨vs, hv⟩ := hf
      have hx : ObjOk X.prog X.w H s.heap dx (.xd fs) := I.hok dx _ hd
      obtain ⟨mA, ⟨od, es, ep, ho, _⟩, _⟩ := hx
      have J : PySem.W.InstAt s.heap a oe D (some od) := by
        obtain ⟨oc, od', oda, osl⟩ := oe
        obtain ⟨h1, h2⟩ := hz
        dsimp only at h1 h2 hv
        subst h1 h2 hv; exact ⟨hget, rfl, rfl, ho⟩
      exact PySem.W.kia_one (FXR.kit_dict C) I.kIn J e (fun z => nomatch z) fun tk => ⟨.bl b, H, I.kept (t' := tk) fun _ _ z => z, rfl, q⟩
theorem xd_isO {a D : Addr} {i : Nat} {b : Bool} {cv : Value} {v : V} (hv : ∀ u, RelV v u → u = cv) (hk : PySem.W.kitOne c.K (.ref D) cv = some b) : ∀ σ H Q, tD c (dIsO a none i b) σ H Q → tCB (rIsE c.K D a) (tCons (tVar i) (tCons (tC v) tNil)) σ H Q := fun σ H Q ⟨e, F, H0, R, W, S, ⟨h, q⟩, P⟩ =>
  ⟨.ref a, (S.exc i a _ h).1, v, cv, b, rfl, hv, hk, P.here W q .bl⟩
theorem xd_isM {a D dx : Addr} {k : Int} {i : Nat} {b : Bool} {cv : Value} {v : V} (hv : ∀ u, RelV v u → u = cv) (hk : PySem.W.kitOne c.K (.ref D) cv = some b) : ∀ σ H Q, tD c (dIsO a (some (dx, k)) i b) σ H Q → tCB (rIsN c.K D a dx) (tCons (tVar i) (tCons (tC v) tNil)) σ H Q := fun σ H Q ⟨e, F, H0, R, W, S, ⟨h, q⟩, P⟩ =>
  ⟨.ref a, (S.exc i a _ h).1, v, cv, b, numF k, rfl, hv, hk, W.sub _ _ ((S.exc i a _ h).2 _ rfl), P.here W q .bl⟩
theorem xd_isMR {a D dx C : Addr} {k : Int} {i : Nat} {b : Bool} (hk : PySem.W.kitOne c.K (.ref D) (.ref C) = some b) : ∀ σ H Q, tD c (dIsO a (some (dx, k)) i b) σ H Q → tCB (rIsN c.K D a dx) (tCons (tVar i) (tCons (tC (.ref C)) tNil)) σ H Q := xd_isM (v := .ref C) (cv := .ref C) (fun _ h => h) hk
theorem xd_isMT {a D dx : Addr} {k : Int} {i : Nat} {b : Bool} {t : String} (hk : PySem.W.kitOne c.K (.ref D) (.type t) = some b) : ∀ σ H Q, tD c (dIsO a (some (dx, k)) i b) σ H Q → tCB (rIsN c.K D a dx) (tCons (tVar i) (tCons (tC (.ty t)) tNil)) σ H Q := xd_isM (v := .ty t) (cv := .type t) (fun _ h => h) hk
/-- e.number -/
@[simp] def dNumO (a dx : Addr) (k : Int) (i : Nat) : W := fun e R => e[i]? = some (.exc a (some (dx, k))) ∧ R (.int k)
theorem xd_numO {a dx C : Addr} {k : Int} {i : Nat} : ∀ σ H Q, tD c (dNumO a dx k i) σ H Q → tXf a (.ref C) (some dx) C "number" (tVar i) σ H Q := fun σ H Q ⟨e, F, H0, R, W, S, ⟨h, q⟩, P⟩ =>
  ⟨.ref a, (S.exc i a _ h).1, rfl, rfl, dx, numF k, .int k, rfl, W.sub _ _ ((S.exc i a _ h).2 _ rfl), by simp [numF], P.here W q .int⟩
/-- the suite's reading -/
def tsO (c : Amb) (E : XK) (names : List Str) (nm : Str) (wsA : Str → Addr → WS) (wsB : Addr → Addr → Int → WS) (a : Addr) (cls : Value) (d : Option Addr) : TS := fun Dn σ H =>
  (∃ n, n ∈ names ∧ cls = .ref (c.g.cls n) ∧ d = none ∧ sD c E (wsA n a) Dn σ H) ∨ ∃ dx k, cls = .ref (c.g.cls nm) ∧ d = some dx ∧ sD c E (wsB a dx k) Dn σ H
theorem pss_tsO {st : List Stmt} {names : List Str} {nm : Str} {wsA : Str → Addr → WS} {wsB : Addr → Addr → Int → WS} {a : Addr} {cls : Value} {d : Option Addr} (hA : ∀ n ∈ names, cls = .ref (c.g.cls n) → d = none → PSs X st (sD c E (wsA n a)))
    (hB : ∀ dx k, cls = .ref (c.g.cls nm) → d = some dx → PSs X st (sD c E (wsB a dx k))) : PSs X st (tsO c E names nm wsA wsB a cls d) :=
  ⟨fun pins s σ H D I q => by
    rcases q with ⟨n, hn, hc, hd, q⟩ | ⟨dx, k, hc, hd, q⟩
    · exact (hA n hn hc hd).run pins s σ H D I q
    · exact (hB dx k hc hd).run pins s σ H D I q⟩
end
/-! ### try: work() except C as e: .. -/
section
variable {P : Program} {w : World} {g : Glb} {mg : Str → Option Value} {base : Heap}
/-- the lambda's body, read over data -/
def LamDer (P : Program) (w : World) (mg : Str → Option Value) (base : Heap) (k : Nat) (c : Amb) (l : LamD) (Wl : WXp) : Prop := ∀ (A : Around) (outer : List PySem.Env) (s : Shared) (H : Hp) (E : XK) (cl : List (Str × Addr)) (f c' : Addr), Room k (A.deeper (lEnv l cl s.heap.objs.size f c')) →
  PE (lamY P w c.K mg base l cl A outer s H E f c') l.body (tDX c (WE (wishE E)) Wl)
/-- a def that is told such a lambda, and tells what it raises: what the exception's datum is -/
def spT (P : Program) (w : World) (mg : Str → Option Value) (base : Heap) (k : Nat) (g : Glb) (ok : Exc → Prop) (tell : Exc → D) : Sp := fun vs H Q _ => ∃ (c : Amb) (F : Hp) (f : Addr) (l : LamD) (us : List V) (cl : List (Str × Addr)) (ds : List D) (Wl : WXp) (R : D → Prop),
  c.g = g ∧ Wok c H F ∧ vs = [.ref f] ∧ l.Ok ∧ LamDer P w mg base k c l Wl ∧ Clo H l f us cl ∧ (∀ y b, cl.lookup y = some b → F b = none) ∧ RepVs c F us ds ∧ Wl (fun x => ok x ∧ R (tell x)) (ds.map .val) (fun _ => R .none) ∧ Post c H F R Q
theorem told_run {c : Amb} {E : XK} {names : List Str} {nm : Str} {wsA : Str → Addr → WS} {wsB : Addr → Addr → Int → WS} {cv : Value} {Wout : WX} {ok : Exc → Prop} {tell : Exc → D} {H F : Hp} {f : Addr} {l : LamD} {us : List V} {cl : List (Str × Addr)} {ds : List D} {Wl : WXp} {R : D → Prop} {Q : VK} {N : List Str} {i : Nat}
    (hlen : N.length = 3) (hi : i = 1) (hm : ∀ n ∈ nm :: names, PySem.W.exmOne c.K (.ref (c.g.cls n)) cv = some true) (hok : ∀ x, ok x → (x.1 ∈ names ∧ x.2 = none) ∨ (x.1 = nm ∧ ∃ k, x.2 = some k))
    (hA : ∀ n ∈ names, ∀ a (R : D → Prop), R (tell (n, none)) → wsA n a { nx := fun _ => False, rt := R } [.exc f, .exc a, .un]) (hB : ∀ a dx k (R : D → Prop), R (tell (nm, some k)) → wsB a dx k { nx := fun _ => False, rt := R } [.exc f, .exc a (some (dx, k)), .un])
    (Wk : Wok c H F) (C : Clo H l f us cl) (nF : ∀ y b, cl.lookup y = some b → F b = none) (rv : RepVs c F us ds) (hw : Wl (fun x => ok x ∧ R (tell x)) (ds.map .val) (fun _ => R .none)) (P' : Post c H F R Q) :
    tSeq (fun D σ H => tDrop (tLamC l c 0 Wl (WE (wAs c.K cv i (tsO c E names nm wsA wsB) Wout D))) D σ H) (sD c E (dRet (dC .none))) { nx := fun _ H' => Q .non H', rt := Q } (L2.start N [.ref f]) H := by
  have e0 : L2.start N [.ref f] = [some (.ref f), none, none] := by
    unfold L2.start
    rw [hlen]; rfl
  subst hi
  rw [e0]
  have S0 : ∀ {H1 F1 : Hp}, RepS c H [some (V.ref f), none, none] H1 F1 [.exc f, .un, .un] := fun {H1 F1} => by
    have no : ∀ (j : Nat) (s : Sl), ([.exc f, .un, .un] : Sg)[j]? = some s → s = .exc f ∧ j = 0 ∨ s = .un := fun j s h => by
      match j with
      | 0 => simp at h; exact .inl ⟨h.symm, rfl⟩
      | 1 => simp at h; exact .inr h.symm
      | 2 => simp at h; exact .inr h.symm
      | j + 3 => simp at h
    refine ⟨rfl, fun j d h => ?_, fun j o es h => ?_, fun j m o o' es fs b _ h => ?_, fun j a o h => ?_, fun j k Fb d h => ?_⟩
    · rcases no j _ h with ⟨z, _⟩ | z <;> cases z
    · rcases no j _ h with ⟨z, _⟩ | z <;> cases z
    · rcases no j _ h with ⟨z, _⟩ | z <;> cases z
    · rcases no j _ h with ⟨z, z2⟩ | z
      · cases z
        subst z2
        exact ⟨rfl, fun p z => by cases z⟩
      · cases z
    · rcases no j _ h with ⟨z, _⟩ | z <;> cases z
  have K0 : EndsOk c E H F { nx := fun _ => R .none, rt := R } { nx := fun _ H' => Q .non H', rt := Q } := ⟨fun e σ H' F' q x S' => P' _ _ H' F' q x .non, fun d v H' F' q x rv => P' d v H' F' q x rv, fun _ _ _ _ _ z => z.elim, fun _ _ _ _ z => z.elim, fun _ _ _ _ z => z.elim, fun _ _ _ z => z.elim, fun _ z => z.elim, fun _ _ _ _ z => z.elim, fun z => nomatch z⟩
  refine ⟨f, us, cl, F, ds, _, _, rfl, C, nF, Wk, rv, hw, fun d v H1 F1 r x rv1 => ⟨[.exc f, .un, .un], F1, H, F, _, x, S0, ?_, K0⟩, fun x H1 F1 ⟨ho, r⟩ x1 => ?_⟩
  · exact r
  · obtain ⟨n, o⟩ := x
    rcases hok _ ho with ⟨hn, hz⟩ | ⟨hn, k, hz⟩
    · have hz : o = none := hz
      subst hz
      refine ⟨true, hm n (List.mem_cons_of_mem _ hn), fun _ a _ => .inl ⟨n, hn, rfl, rfl, [.exc f, .exc a, .un], F1, H, F, { nx := fun _ => False, rt := R }, x1, ?_, hA n hn a R r, ?_⟩, fun z => nomatch z⟩
      · exact (S0 (H1 := H1) (F1 := F1)).set_exc 1 a
      · exact ⟨fun _ _ _ _ z => z.elim, fun d v H' F' q x rv => P' d v H' F' q x rv, fun _ _ _ _ _ z => z.elim, fun _ _ _ _ z => z.elim, fun _ _ _ _ z => z.elim, fun _ _ _ z => z.elim, fun _ z => z.elim, fun _ _ _ _ z => z.elim, fun z => nomatch z⟩
    · have hz : o = some k := hz
      have hn : n = nm := hn
      subst hz hn
      intro dx hdx
      refine ⟨true, hm n (List.mem_cons_self ..), fun _ a _ => .inr ⟨dx, k, rfl, rfl, [.exc f, .exc a (some (dx, k)), .un], F1, H, F, { nx := fun _ => False, rt := R }, x1, ?_, hB a dx k R r, ?_⟩, fun z => nomatch z⟩
      · exact (S0 (H1 := H1) (F1 := F1)).set_exc 1 a (some (dx, k)) fun p hp => by cases hp; exact hdx
      · exact ⟨fun _ _ _ _ z => z.elim, fun d v H' F' q x rv => P' d v H' F' q x rv, fun _ _ _ _ _ z => z.elim, fun _ _ _ _ z => z.elim, fun _ _ _ _ z => z.elim, fun _ _ _ z => z.elim, fun _ z => z.elim, fun _ _ _ _ z => z.elim, fun z => nomatch z⟩
end
end FW
/-! FXK: [told(work) for work in works(..)], told(works(..)[i]): what each lambda raises is told. -/
namespace FW
open PySem PySem.Spec PyProof.Rows L2 FXL
/-- works is told n values; the j-th lambda raises what zs tells -/
def nWorks (v n : Nat) (Ws : List WXp) (ok : Exc → Prop) (tell : Exc → D) (wa : WA) : WA := fun e R => v < e.length ∧ wa e fun ds => ds.length = n ∧ ∃ zs : List D, zs.length = Ws.length ∧ (∀ (j : Nat) (Wl : WXp) (z : D), Ws[j]? = some Wl → zs[j]? = some z → z ≠ .dict [] ∧ Wl (fun x => ok x ∧ tell x = z) (ds.map .val) (fun _ => PyData.none = z)) ∧ R zs
def dWork1 (m : Nat) (n : Nat) (Ws : List WXp) (ok : Exc → Prop) (tell : Exc → D) (wa : WA) : W := fun e R => wa e fun ds => ds.length = n ∧ ∃ (Wl : WXp) (z : D), Ws[m]? = some Wl ∧ Wl (fun x => ok x ∧ tell x = z) (ds.map .val) (fun _ => PyData.none = z) ∧ R z
section
variable {P : Program} {w : World} {mg : Str → Option Value} {base : Heap} {c : Amb} {k n v : Nat} {ls : List LamD} {Ws : List WXp} {ok : Exc → Prop} {tell : Exc → D} {wa : WA}
theorem frz_kept {H F H' F' : Hp} (W : Wok c H F) (x : Ext c H F H' F') : ∀ b o u, H b = some (.frz o u) → H' b = some (.frz o u) := fun b o u e => x.keep b _ e (fun z => by
    obtain ⟨_, _, _, h, _⟩ := W.row
    rw [← z, e] at h; cases h) fun hp => by
    obtain ⟨ps, h, _⟩ := (W.tab b hp).1
    rw [e] at h; cases h
theorem clo_at {H F H' F' : Hp} {l : LamD} {f : Addr} {vs : List V} {cl : List (Str × Addr)} (W : Wok c H F) (x : Ext c H F H' F') (C : Clo H l f vs cl) (nF : ∀ y b, cl.lookup y = some b → F b = none) : Clo H' l f vs cl ∧ ∀ y b, cl.lookup y = some b → F' b = none := by
  refine ⟨C.ext (frz_kept W x), fun y b e => ?_⟩
  obtain ⟨_, _, _, _, _, _, _, _, _, _, _, h5, _⟩ := C
  obtain ⟨o, _, h, _⟩ := h5 y b e
  cases q : F' b with
  | none => rfl
  | some u =>
    have := x.new b (nF y b e) (by rw [q]; simp)
    rw [h] at this; cases this
theorem xn_works (hl : ls.length = Ws.length) (hls : ∀ l ∈ ls, l.Ok) (hder : ∀ (j : Nat) (l : LamD) (Wl : WXp), ls[j]? = some l → Ws[j]? = some Wl → LamDer P w mg base k c l Wl) (h64 : ls.length ≤ 1000) :
    ∀ σ H Q, tN c (nWorks v n Ws ok tell wa) σ H Q → tLc (iList c.K (tCall (spW c.g n ls) [] E0 (tA c wa))) (gName v) tYes (tCall (spT P w mg base k c.g ok tell) [] E0 (tCons (tVar v) tNil)) [v] σ H Q := fun σ H Q ⟨e, F, H0, R, W, S, ⟨hv, q⟩, P'⟩ =>
  ⟨e, F, H0, _, W, S, q, fun ds vs H1 F1 ⟨hn, zs, hz, hw, r⟩ x1 rv => ⟨by rw [List.append_nil, rv.length]; exact hn, c, F1, ds, rfl, x1.ok, by rw [List.append_nil]; exact rv, fun p fs H2 x2 np hp hfs hclo => by
    refine ⟨p, rfl, ⟨_, SqL.of hp⟩, fun L hL => ?_⟩
    have h0 : H1 L = none := x2.free hL
    have n0 : F1 L = none := x1.ok.newF h0
    have nr : L ≠ c.r := x1.ok.newR h0
    have pL : p ≠ L := fun z => by rw [z, hL] at hp; cases hp
    have pr : p ≠ c.r := fun z => by
      obtain ⟨_, _, _, h, _⟩ := x1.ok.row
      rw [← z, np] at h; cases h
    refine ⟨fun i m H3 => m = fs.length - i ∧ i ≤ fs.length ∧ ∃ F3 ws, Ext c H1 F1 H3 F3 ∧ Ext c H2 F1 H3 F3 ∧ H3 L = some (.lst ws) ∧ F3 L = none ∧ H3 p = some (.lst (fs.map V.ref)) ∧ RpAll c.K F3 ws (zs.take i),
      ⟨_, rfl, Nat.zero_le _, F1, [], x2.trans (Ext.loose x2.ok _ hL), Ext.loose x2.ok _ hL, upd_same, n0, by rw [upd_ne pL]; exact hp, .nil⟩, ?_⟩
    rintro i m H3 ⟨rfl, hi, F3, ws, y3, x3, hL3, n3, hp3, k3⟩
    by_cases hlt : i < fs.length
    · refine .inr ⟨⟨_, _, SqL.of hp3, List.getElem?_eq_getElem (by rw [List.length_map]; exact hlt)⟩, fun H4 => ∃ F4 ws, Ext c H1 F1 H4 F4 ∧ Ext c H2 F1 H4 F4 ∧ H4 L = some (.lst ws) ∧ F4 L = none ∧ H4 p = some (.lst (fs.map V.ref)) ∧ RpAll c.K F4 ws (zs.take (i + 1)),
        fun H4 z => ⟨fs.length - (i + 1), by omega, rfl, hlt, z⟩, ?_⟩
      rintro x H4 ⟨e4, y⟩
      have e4 : H4 = H3 := e4
      rw [e4]
      have hx := y _ (SqL.of hp3)
      rw [List.getElem?_map, List.getElem?_eq_getElem hlt] at hx
      obtain rfl : x = V.ref fs[i] := (Option.some.inj hx).symm
      have hls' : i < ls.length := by omega
      have hWs' : i < Ws.length := by omega
      have hzs' : i < zs.length := by omega
      have gl : ls[i]? = some ls[i] := List.getElem?_eq_getElem hls'
      have gW : Ws[i]? = some Ws[i] := List.getElem?_eq_getElem hWs'
      have gz : zs[i]? = some zs[i] := List.getElem?_eq_getElem hzs'
      obtain ⟨zd, zw⟩ := hw i _ _ gW gz
      obtain ⟨cl, hC, hF⟩ := hclo i _ _ gl (List.getElem?_eq_getElem hlt)
      rw [List.append_nil] at hC
      obtain ⟨hC3, hF3⟩ := clo_at x2.ok x3 hC hF
      refine stores_name _ σ H3 _ ?_
      show tCall (spT P w mg base k c.g ok tell) [] E0 (tCons (tVar v) tNil) ((L2.wipe σ [v]).set v (some (V.ref fs[i]))) H3 _
      refine ⟨.ref fs[i], List.getElem?_set_self (by rw [wipe_length, S.len]; exact hv), ?_⟩
      refine ⟨c, F3, fs[i], ls[i], vs, cl, ds, Ws[i], fun d => d = zs[i], rfl, y3.ok, rfl, hls _ (List.getElem_mem hls'), hder i _ _ gl gW, hC3, hF3, repVs_grow rv y3.grow, zw, fun d u H5 F5 hd x5 rv5 => ?_⟩
      subst hd
      have p5 : H5 p = some (.lst (fs.map V.ref)) := x5.keep p _ hp3 pr (y3.ok.noP hp3)
      have d5 : H5 L = some (.lst ws) := x5.keep L _ hL3 nr (y3.ok.noP hL3)
      have m5 : F5 L = none := by
        cases q4 : F5 L with
        | none => rfl
        | some u =>
          have := x5.new L n3 (by rw [q4]; simp)
          rw [hL3] at this; cases this
      have hws : ws.length = i := by
        rw [dpAll_length k3, List.length_take]; omega
      refine ⟨ws, d5, len_lt (by omega), F5, ws ++ [u], (y3.trans x5).mut h0 d5 m5 nr _, (x3.trans x5).mut hL d5 m5 nr _, upd_same, m5, by rw [upd_ne pL]; exact p5, ?_⟩
      rw [List.take_succ, gz]
      exact dpAll_app (dpAll_same x5.grow _ _ k3) (.cons (rv5.dp zd) .nil)
    · have he : i = fs.length := by omega
      subst he
      refine .inl ⟨⟨_, SqL.of hp3, by rw [List.length_map]; exact Nat.le_refl _⟩, ?_⟩
      rw [List.take_of_length_le (by omega)] at k3
      exact P' zs L ws H3 F3 r (x1.trans y3) (x1.free h0) hL3 n3 nr k3⟩⟩
end
end FW
/-! FXQ: defs with a default that may raise; the place of a tuple in a list; one work told. -/
namespace FW
open PySem PySem.Spec PyProof.Rows L2 FXL
/-- a def that may raise, its last value told by its default -/
structure CalXd (P : Program) (w : World) (K : PySem.W.Frag) (mg : Str → Option Value) (base : Heap) (k : Nat) (x : Str) (sp : Sp) (dvs : List V) : Prop where
  ex : ∃ (f : Addr) (fd : FuncData) (ps : List Str) (ds : List Value), FnOk P w K mg base (L2.CX P w) k f fd ps sp ∧ mg x = some (.ref f) ∧ PySem.W.keepIn K (.ref f) = true ∧ Binds K fd ps ds ∧ Vals dvs ds
section
variable {X : Cx} {W : WX} {k j : Nat} {x : Str} {sp : Sp} {p pos : Pos} {e : Expr} {es : List Expr} {t : TA} {dvs : List V}
theorem pe_cxd (c : CalXd X.prog X.w X.K X.mg X.base k x sp dvs) (hr : Room j X.A) (hk : k ≤ j) (hg : Gl X x) (tk : Takes X W) (ha : PA X (e :: es) t)
    (hdb : (x == ("__debug__" : Str)) = false := by decide) (he : starEach (e :: es) X.env = (false, eval e X.env) :: starEach es X.env := by rfl) (hpl : (backTo pos (starEach es X.env)).any (·.1) = false := by rfl) :
    PE X (.Call (.Name x p) (e :: es) [] pos) (tCallSD sp dvs (WE W) t) := by
  obtain ⟨f, fd, ps, ds, F, hm, kp, b, hv⟩ := c.ex
  exact pe_callSD F (hr.mono hk) hg hm kp b hv (fun σ => passAt tk σ) ha hdb he hpl
end
section
variable {c : Amb} {E : L2.St → XK} {i : Int}
@[simp] def dCallXI (f : Fx) (i : Int) (w : WA) : WXp := fun RX e R => w e fun ds => f (ds ++ [.int i]) R RX
theorem repVs_snoc {F : Hp} {vs : List V} {ds : List D} {v : V} {d : D} (h : RepVs c F vs ds) (r : RepV c F v d) : RepVs c F (vs ++ [v]) (ds ++ [d]) := by
  induction h with
  | nil => exact .cons r .nil
  | cons a _ ih => exact .cons a ih
theorem xdx_callI {f : Fx} {w : WA} : ∀ σ H Q, tDX c E (dCallXI f i w) σ H Q → tCallSD (spX c.g f) [V.int i] E (tA c w) σ H Q := fun σ H Q ⟨e, F, H0, R, RX, W, S, q, P, PX⟩ =>
  ⟨e, F, H0, _, W, S, q, fun ds vs H1 F1 q1 x1 r1 => ⟨c, F1, _, R, RX, rfl, x1.ok, repVs_snoc r1 .int, q1, P.ext x1, PX.ext x1⟩⟩
end
section
variable {P : Program} {w : World} {g : Glb} {mg : Str → Option Value} {base : Heap} {x : Str} {st : Stmt} {f : Addr} {fd : FuncData} {N ps : List Str} {k : Nat} {wb : WS} {i : Int}
theorem calXd {f0 : Fx} (Fn : FunQ g.K x st i f fd) (mgf : mg x = some (.ref f)) (b : ∃ ds, Vals ([V.int i].drop 0) ds ∧ Binds g.K fd ps ds) (S : FnScope N ps (defScope st)) (hlen : ∀ ds R RX, f0 ds R RX → ds.length = ps.length)
    (hb : ∀ (cdv : Value) (A : Around) (outer : List PySem.Env) (s : Shared) (H : Hp) (E : XK) (r a : Addr) (ns : List Int), Room k (A.deeper (envOfC x (defScope st) s.heap.objs.size f cdv)) →
      Takes (cxOf (L2.CX P w) P w g.K mg base N x (defScope st) f cdv A outer s H E) (wishE E) → PSs (cxOf (L2.CX P w) P w g.K mg base N x (defScope st) f cdv A outer s H E) (defBody st) (sD ⟨g, r, a, ns⟩ E wb))
    (hp : ∀ ds R RX, f0 ds R RX → wb { nx := fun _ => R .none, rt := R, ex := RX } (startD N ds)) : CalXd P w g.K mg base (k + 1) x (spX g f0) [V.int i] := by
  obtain ⟨its, hv, hbn⟩ := b
  refine ⟨f, fd, ps, its, Fn.ok S (fun vs H Q E h => ?_) (fun cdv A outer s H vs Q E hr h => ?_), mgf, Fn.kp, hbn, hv⟩
  · obtain ⟨c, F, ds, R, RX, _, _, rv, h, _⟩ := h
    rw [rv.length]; exact hlen ds R RX h
  · obtain ⟨⟨g', r, a, ns⟩, F, ds, R, RX, hg, W, rv, h, P', PX⟩ := h
    have hg' : g' = g := hg
    subst hg'
    refine ⟨_, hb cdv A outer s H E r a ns hr (takes_of rfl rfl rfl rfl), startD N ds, F, H, F, _, Ext.refl W, rep_start rv, hp ds R RX h, ?_⟩
    exact ⟨fun e σ H' F' q x S' => P' _ _ H' F' q x .non, fun d v H' F' q x rv => P' d v H' F' q x rv, fun _ _ _ _ _ z => z.elim, fun _ _ _ _ z => z.elim, fun _ _ _ _ z => z.elim, fun y H' F' q x' => PX y H' F' q x', fun _ z => z.elim, fun _ _ _ _ z => z.elim, fun z => nomatch z⟩
theorem calXa {f0 : Fx} (Fn : FunQ g.K x st i f fd) (mgf : mg x = some (.ref f)) (b : ∃ ds, Vals ([V.int i].drop 1) ds ∧ Binds g.K fd ps ds) (S : FnScope N ps (defScope st)) (hlen : ∀ ds R RX, f0 ds R RX → ds.length = ps.length)
    (hb : ∀ (cdv : Value) (A : Around) (outer : List PySem.Env) (s : Shared) (H : Hp) (E : XK) (r a : Addr) (ns : List Int), Room k (A.deeper (envOfC x (defScope st) s.heap.objs.size f cdv)) →
      Takes (cxOf (L2.CX P w) P w g.K mg base N x (defScope st) f cdv A outer s H E) (wishE E) → PSs (cxOf (L2.CX P w) P w g.K mg base N x (defScope st) f cdv A outer s H E) (defBody st) (sD ⟨g, r, a, ns⟩ E wb))
    (hp : ∀ ds R RX, f0 ds R RX → wb { nx := fun _ => R .none, rt := R, ex := RX } (startD N ds)) : CalX P w g.K mg base (k + 1) x (spX g f0) := by
  obtain ⟨its, hv, hbn⟩ := b
  cases hv
  refine ⟨f, fd, ps, Fn.ok S (fun vs H Q E h => ?_) (fun cdv A outer s H vs Q E hr h => ?_), mgf, Fn.kp, hbn⟩
  · obtain ⟨c, F, ds, R, RX, _, _, rv, h, _⟩ := h
    rw [rv.length]; exact hlen ds R RX h
  · obtain ⟨⟨g', r, a, ns⟩, F, ds, R, RX, hg, W, rv, h, P', PX⟩ := h
    have hg' : g' = g := hg
    subst hg'
    refine ⟨_, hb cdv A outer s H E r a ns hr (takes_of rfl rfl rfl rfl), startD N ds, F, H, F, _, Ext.refl W, rep_start rv, hp ds R RX h, ?_⟩
    exact ⟨fun e σ H' F' q x S' => P' _ _ H' F' q x .non, fun d v H' F' q x rv => P' d v H' F' q x rv, fun _ _ _ _ _ z => z.elim, fun _ _ _ _ z => z.elim, fun _ _ _ _ z => z.elim, fun y H' F' q x' => PX y H' F' q x', fun _ z => z.elim, fun _ _ _ _ z => z.elim, fun z => nomatch z⟩
end
/-! ### the rest is never reached -/
theorem xs_cut {c : Amb} {E : XK} : ∀ Dn σ H, sD c E dNever Dn σ H → tNever Dn σ H := fun Dn σ H ⟨e, F, H0, F0, De, x, S, q, K⟩ => q.elim
/-! ### one work -/
section
variable {P : Program} {w : World} {mg : Str → Option Value} {base : Heap} {c : Amb} {E : XK} {k n v m : Nat} {ls : List LamD} {Ws : List WXp} {ok : Exc → Prop} {tell : Exc → D} {wa : WA}
theorem xs_asgWorks {i : Nat} (hl : ls.length = Ws.length) (hls : ∀ l ∈ ls, l.Ok) (hder : ∀ (j : Nat) (l : LamD) (Wl : WXp), ls[j]? = some l → Ws[j]? = some Wl → LamDer P w mg base k c l Wl) (h64 : ls.length ≤ 1000) :
    ∀ Dn σ H, sD c E (dAsg i (dN (nWorks v n Ws ok tell wa))) Dn σ H → tAsg (tLc (iList c.K (tCall (spW c.g n ls) [] E0 (tA c wa))) (gName v) tYes (tCall (spT P w mg base k c.g ok tell) [] E0 (tCons (tVar v) tNil)) [v]) (gName i) Dn σ H := fun Dn σ H z =>
  xn_works hl hls hder h64 σ H _ (xd_N σ H _ (xs_asg Dn σ H z))
theorem xd_work1 (hl : ls.length = Ws.length) (hls : ∀ l ∈ ls, l.Ok) (hder : ∀ (j : Nat) (l : LamD) (Wl : WXp), ls[j]? = some l → Ws[j]? = some Wl → LamDer P w mg base k c l Wl) :
    ∀ σ H Q, tD c (dWork1 m n Ws ok tell wa) σ H Q → tCall (spT P w mg base k c.g ok tell) [] E0 (tCons (tOp (rIxL c.K) (tCall (spW c.g n ls) [] E0 (tA c wa)) (tC (.int m))) tNil) σ H Q := fun σ H Q ⟨e, F, H0, R, W, S, q, P'⟩ =>
  ⟨e, F, H0, _, W, S, q, fun ds vs H1 F1 ⟨hn, Wl, z, hW, hw, r⟩ x1 rv => ⟨by rw [List.append_nil, rv.length]; exact hn, c, F1, ds, rfl, x1.ok, by rw [List.append_nil]; exact rv, fun p fs H2 x2 np hp hfs hclo => by
    have hlt : m < Ws.length := (List.getElem?_eq_some_iff.mp hW).1
    have gl : ls[m]? = some (ls[m]'(by omega)) := List.getElem?_eq_getElem _
    have gf : fs[m]? = some (fs[m]'(by omega)) := List.getElem?_eq_getElem _
    obtain ⟨cl, hC, hF⟩ := hclo m _ _ gl gf
    rw [List.append_nil] at hC
    refine ⟨p, _, m, .ref (fs[m]'(by omega)), rfl, rfl, SqL.of hp, atI_nat (by rw [List.getElem?_map, gf]; rfl), ?_⟩
    exact ⟨c, F1, fs[m]'(by omega), ls[m]'(by omega), vs, cl, ds, Wl, fun d => d = z, rfl, x2.ok, rfl, hls _ (List.getElem_mem _), hder m _ _ gl hW, hC, hF, repVs_grow rv x2.grow, hw, fun d u H5 F5 hd x5 rv5 => by
      subst hd
      exact P' d u H5 F5 r ((x1.trans x2).trans x5) rv5⟩⟩⟩
/-- where a tuple stands in a list of tuples -/
def rdIdxT : List D → List D → (D → Prop) → Prop := fun xs ds R => ∃ (ls : List (List Int)) (u : List Int) (j : Nat), xs = ls.map tupD ∧ ds = [tupD u] ∧ ls.length ≤ 1000 ∧ ls[j]? = some u ∧ (∀ m, m < j → ls[m]? ≠ some u) ∧ R (.int (j : Nat))
theorem md_idxT : MethD c (rIndexD c.K) rdIdxT := by
  rintro H F a us xs vs ds R Q W h1 h2 rv ⟨ls, u, j, rfl, rfl, hl, hj, hm, r⟩ P
  obtain ⟨v, rfl, q⟩ := reps1 rv
  refine ⟨a, v, tupD u, ls.map tupD, j, tupD u, rfl, rfl, rp_dp _ _ (SeqAt.canLay_of_shaped shaped_tupsL) (.lst (W.sub _ _ h1) (dpAll_same W.sub _ _ h2)), rp_dp _ _ (SeqAt.canLay_of_shaped shaped_tupD) (dp_same W.sub _ _ (q.dp fun z => by cases z)), shaped_tupsL, shaped_tupD, ?_, by rw [eqv_tups]; simp, fun m z' hm' hz => ?_, P.here W r .int⟩
  · rw [List.getElem?_map, hj]; rfl
  · rw [List.getElem?_map] at hz
    cases e : ls[m]? with
    | none => rw [e] at hz; cases hz
    | some y =>
      rw [e] at hz
      cases hz
      rw [eqv_tups]
      exact decide_eq_false fun z => hm m hm' (by rw [e, z])
end
/-! ### tuple(range(..)) -/
@[simp] def dTupRg (w : Sg → (Int → Int → Prop) → Prop) : W := fun e R => w e fun a b => RgOk a b ∧ R (.tuple (rngD a (b - a).toNat))
theorem xd_tupRg {c : Amb} {w : Sg → (Int → Int → Prop) → Prop} : ∀ σ H Q, tD c (dTupRg w) σ H Q → tTupRg (tRgD c w) σ H Q := fun σ H Q ⟨e, F, H0, R, W, S, q, P⟩ =>
  ⟨e, F, H0, _, W, S, q, fun a b H1 F1 ⟨h, r⟩ x1 => ⟨h, fun p hp => P _ _ _ (upd F1 p (.tup (rgV a b))) r (x1.trans (Ext.laid x1.ok _ hp)) (.inl (.tup (SqT.of upd_same) (rgV_dp a b)))⟩⟩
/-! ### cells and parameters -/
theorem cells_in {N ps : List Str} {sc : Scope} (pre : N.take ps.length = ps) (all : ∀ p ∈ sc.names, p.2 = NameKind.cell → p.1 ∈ ps) (y : Str) (h : sc.names.lookup y = some .cell) : ∃ j, j < ps.length ∧ N[j]? = some y := by
  obtain ⟨j, hj, e⟩ := List.getElem_of_mem (all _ (PySem.mem_of_lookup h) rfl)
  refine ⟨j, hj, ?_⟩
  have h2 : (N.take ps.length)[j]? = some y := by rw [pre, List.getElem?_eq_getElem hj, e]
  rwa [List.getElem?_take_of_lt hj] at h2
theorem cellsFrom_in : ∀ (names : List (Str × NameKind)) (n : Nat) (acc : List (Str × Addr)) (y : Str) (c : Addr), (y, c) ∈ cellsFrom n names acc → (y, c) ∈ acc ∨ (y, NameKind.cell) ∈ names
  | [], _, _, _, _, h => .inl h
  | (m, k) :: r, n, acc, y, c, h => by
    unfold cellsFrom at h
    split at h
    · rename_i hk
      rcases cellsFrom_in r _ _ y c h with h | h
      · rcases List.mem_cons.mp h with e | h
        · cases e
          refine .inr ?_
          have hk : k = NameKind.cell := by simpa using hk
          rw [hk]; exact List.mem_cons_self ..
        · exact .inl h
      · exact .inr (List.mem_cons_of_mem _ h)
    · rcases cellsFrom_in r _ _ y c h with h | h
      · exact .inl h
      · exact .inr (List.mem_cons_of_mem _ h)
theorem cells_of {sc : Scope} (all : ∀ p ∈ sc.names, p.2 = NameKind.cell → sc.names.lookup p.1 = some .cell) (n : Nat) (y : Str) (c : Addr) (h : (cellsFrom n sc.names []).lookup y = some c) : sc.names.lookup y = some .cell := by
  rcases cellsFrom_in sc.names n [] y c (PySem.mem_of_lookup h) with z | z
  · cases z
  · exact all _ z rfl
def lamOf : Stmt → Expr
  | .Assign _ (.List (e :: _) _) _ => e
  | .Expr (.Call _ (e :: _) _ _) _ => e
  | _ => .Name "" ⟨0, 0, 0, 0⟩
def lamD (q : Str) (N : List Str) (st : Stmt) : LamD := match lamOf st with
  | .Lambda p b s _ => ⟨q, p, b, s, N⟩
  | _ => ⟨q, ⟨[], [], none, [], [], none, []⟩, .Name "" ⟨0, 0, 0, 0⟩, { kind := .function, names := [], isGenerator := false, isCoroutine := false }, N⟩
theorem room65u {u k : Nat} (h : u + 16 * k + 200 < cLine) : u + 65 < cLine := by omega
/-- which exception it is, by its place -/
theorem idxB_at {j : Nat} {bs : List Bool} {R : D → Prop} (hl : bs.length ≤ 1000) (h1 : bs[j]? = some true) (h2 : ∀ m, m < j → bs[m]? = some false) (h : R (.int (j : Nat))) : rdIdxB (bs.map .bool) [.bool true] R := ⟨bs, j, rfl, rfl, hl, h1, h2, h⟩
theorem cntB_at {n : Nat} {bs : List Bool} {R : D → Prop} (h1 : bs.countP id = n) (h : R (.int (n : Nat))) : rdCntB (bs.map .bool) [.bool true] R := ⟨bs, rfl, rfl, by rw [h1]; exact h⟩
end FW
namespace FW
open PySem PySem.Spec PyProof.Rows L2 FXL
def top (i : Nat) : Stmt := PySem.Challenge.pw_fretways_k12_refused_in_order.main.body.getD i (.Pass ⟨0, 0, 0, 0⟩)
abbrev s_all_within : Stmt := top 19
abbrev s_rises : Stmt := top 20
abbrev s_is_place : Stmt := top 21
abbrev s_check_neck : Stmt := top 22
abbrev s_check_hand : Stmt := top 23
abbrev s_check_reach : Stmt := top 24
abbrev s_check_chord : Stmt := top 25
abbrev s_check_chords : Stmt := top 26
abbrev s_check_tune : Stmt := top 27
abbrev s_ways : Stmt := top 29
abbrev s_placed : Stmt := top 30
abbrev s_is_pressed : Stmt := top 31
abbrev s_fits : Stmt := top 32
abbrev s_places : Stmt := top 34
abbrev s_played : Stmt := top 37
abbrev s_table : Stmt := top 38
abbrev s_movement : Stmt := top 39
abbrev s_positions : Stmt := top 40
abbrev s_place_from : Stmt := top 41
abbrev s_next_row : Stmt := top 42
abbrev s_arrival : Stmt := top 43
abbrev s_walk : Stmt := top 44
abbrev s_retuned : Stmt := top 48
abbrev s_check_retunable : Stmt := top 49
abbrev s_retunings : Stmt := top 50
abbrev s_rank : Stmt := top 51
abbrev s_tuned : Stmt := top 52
abbrev s_first_without_way : Stmt := top 53
abbrev s_law_taken : Stmt := top 55
abbrev s_law_alike : Stmt := top 56
abbrev s_law_neck : Stmt := top 57
abbrev s_law_places : Stmt := top 58
abbrev s_law_shape : Stmt := top 59
abbrev s_law_hand : Stmt := top 60
abbrev s_law_sounds : Stmt := top 61
abbrev s_law_odd_notes : Stmt := top 62
abbrev s_law_odd_chord : Stmt := top 63
abbrev s_law_told : Stmt := top 64
abbrev s_law_works : Stmt := top 65
abbrev s_law_handed : Stmt := top 66
abbrev s_law : Stmt := top 67
structure Txt (mg : Str → Option Value) : Prop where
  m_all : mg "all" = none
  m_len : mg "len" = none
  m_range : mg "range" = none
  m_sorted : mg "sorted" = none
  m_tuple : mg "tuple" = none
  m_list : mg "list" = none
  m_zip : mg "zip" = none
  m_enumerate : mg "enumerate" = none
  m_min : mg "min" = none
  m_max : mg "max" = none
  m_isinstance : mg "isinstance" = none
  m_int : mg "int" = none
  m_str : mg "str" = none
  m_bool : mg "bool" = none
  m_sum : mg "sum" = none
  m_abs : mg "abs" = none
  m_reversed : mg "reversed" = none
  m_ValueError : mg "ValueError" = none
  c_SILENT : ∃ t, mg "SILENT" = some (.int (-1) t)
  c_MOST_STRINGS : ∃ t, mg "MOST_STRINGS" = some (.int (6) t)
  c_HIGHEST_TUNING : ∃ t, mg "HIGHEST_TUNING" = some (.int (60) t)
  c_MOST_FRETS : ∃ t, mg "MOST_FRETS" = some (.int (20) t)
  c_MOST_OF_HAND : ∃ t, mg "MOST_OF_HAND" = some (.int (6) t)
  c_MOST_NOTES : ∃ t, mg "MOST_NOTES" = some (.int (6) t)
  c_HIGHEST_NOTE : ∃ t, mg "HIGHEST_NOTE" = some (.int (80) t)
  c_MOST_CHORDS : ∃ t, mg "MOST_CHORDS" = some (.int (6) t)
  c_LONGEST_TUNE : ∃ t, mg "LONGEST_TUNE" = some (.int (30) t)
  c_CANNOT : ∃ t, mg "CANNOT" = some (.int (-1) t)
  c_MOST_RETUNED : ∃ t, mg "MOST_RETUNED" = some (.int (4) t)
  c_FARTHEST : ∃ t, mg "FARTHEST" = some (.int (2) t)
  ok_ : True
/-! ### the data of the program -/
def intsD (l : List Int) : D := .tuple (l.map PyData.int)
def neckD (t : List Int) (f c : Int) : D := .tuple [intsD t, .int f, .int c]
structure OkNeck (t : List Int) (f c : Int) : Prop where
  l1 : 1 ≤ t.length
  l2 : t.length ≤ 6
  n : ∀ x ∈ t, 0 ≤ x ∧ x ≤ 60
  f0 : 0 ≤ f
  f1 : f ≤ 20
  c0 : 0 ≤ c
  c1 : c ≤ f
structure OkShape (t : List Int) (f c : Int) (s : List Int) : Prop where
  len : s.length = t.length
  at_ : ∀ p ∈ s, p = -1 ∨ (c ≤ p ∧ p ≤ f)
@[simp] theorem shaped_intsD {l : List Int} : SeqAt.shaped (intsD l) = true := shaped_ints
@[simp] theorem eqv_intsD {l m : List Int} : PyData.eqv (intsD l) (intsD m) = decide (l = m) := eqv_ints
@[simp] theorem eqv_none_intsD {l : List Int} : PyData.eqv .none (intsD l) = false := rfl
@[simp] theorem eqv_intsD_none {l : List Int} : PyData.eqv (intsD l) .none = false := rfl
@[simp] theorem intsD_ne {l : List Int} : intsD l ≠ .dict [] := fun z => by cases z
@[simp] theorem intsD_str {l : List Int} {x : Str} : intsD l ≠ .str x := fun z => by cases z
@[simp] theorem seq_intsD {l : List Int} {xs : List D} : IsSeq (intsD l) xs ↔ xs = l.map PyData.int := isSeq_tup
@[simp] theorem intsD_inj {l m : List Int} : intsD l = intsD m ↔ l = m := by simp [intsD]
@[simp] theorem intsD_tup {l : List Int} {xs : List D} : intsD l = .tuple xs ↔ xs = l.map PyData.int := by
  constructor
  · intro h; cases h; rfl
  · intro h; rw [h]; rfl
@[simp] theorem neckD_inj {t t' : List Int} {f f' c c' : Int} : neckD t f c = neckD t' f' c' ↔ t = t' ∧ f = f' ∧ c = c' := by simp [neckD]
@[simp] theorem neckD_ne {t : List Int} {f c : Int} : neckD t f c ≠ .dict [] := fun z => by cases z
@[simp] theorem neck_1 {t : List Int} {f c : Int} {R : D → Prop} : rdIx (neckD t f c) (.int 1) R ↔ R (.int f) := by simp [neckD]
@[simp] theorem neck_2 {t : List Int} {f c : Int} {R : D → Prop} : rdIx (neckD t f c) (.int 2) R ↔ R (.int c) := by simp [neckD]
@[simp] theorem neck_0 {t : List Int} {f c : Int} {R : D → Prop} : rdIx (neckD t f c) (.int 0) R ↔ R (intsD t) := by simp [neckD]
@[simp] theorem seq_neckD {t : List Int} {f c : Int} {xs : List D} : IsSeq (neckD t f c) xs ↔ xs = [intsD t, .int f, .int c] := isSeq_tup
@[simp] theorem isNone_intsD {l : List Int} : isNone (intsD l) = false := rfl

/-! ### the program's own exceptions -/
def clsNames : List Str := ["NeckError", "BadNeck", "BadShape", "BadHand", "BadChord", "BadTune", "BadText"]
/-- which ones are caught -/
def excNames : List Str := ["BadHand", "BadNeck", "BadTune"]
def isSub (a b : Str) : Bool := a == b || b == "NeckError"
@[simp] theorem isSub_BadNeck_NeckError : isSub "BadNeck" "NeckError" = true := by decide +kernel
@[simp] theorem isSub_BadNeck_BadNeck : isSub "BadNeck" "BadNeck" = true := by decide +kernel
@[simp] theorem isSub_BadNeck_BadShape : isSub "BadNeck" "BadShape" = false := by decide +kernel
@[simp] theorem isSub_BadNeck_BadHand : isSub "BadNeck" "BadHand" = false := by decide +kernel
@[simp] theorem isSub_BadNeck_BadChord : isSub "BadNeck" "BadChord" = false := by decide +kernel
@[simp] theorem isSub_BadNeck_BadTune : isSub "BadNeck" "BadTune" = false := by decide +kernel
@[simp] theorem isSub_BadNeck_BadText : isSub "BadNeck" "BadText" = false := by decide +kernel
@[simp] theorem isSub_BadShape_NeckError : isSub "BadShape" "NeckError" = true := by decide +kernel
@[simp] theorem isSub_BadShape_BadNeck : isSub "BadShape" "BadNeck" = false := by decide +kernel
@[simp] theorem isSub_BadShape_BadShape : isSub "BadShape" "BadShape" = true := by decide +kernel
@[simp] theorem isSub_BadShape_BadHand : isSub "BadShape" "BadHand" = false := by decide +kernel
@[simp] theorem isSub_BadShape_BadChord : isSub "BadShape" "BadChord" = false := by decide +kernel
@[simp] theorem isSub_BadShape_BadTune : isSub "BadShape" "BadTune" = false := by decide +kernel
@[simp] theorem isSub_BadShape_BadText : isSub "BadShape" "BadText" = false := by decide +kernel
@[simp] theorem isSub_BadHand_NeckError : isSub "BadHand" "NeckError" = true := by decide +kernel
@[simp] theorem isSub_BadHand_BadNeck : isSub "BadHand" "BadNeck" = false := by decide +kernel
@[simp] theorem isSub_BadHand_BadShape : isSub "BadHand" "BadShape" = false := by decide +kernel
@[simp] theorem isSub_BadHand_BadHand : isSub "BadHand" "BadHand" = true := by decide +kernel
@[simp] theorem isSub_BadHand_BadChord : isSub "BadHand" "BadChord" = false := by decide +kernel
@[simp] theorem isSub_BadHand_BadTune : isSub "BadHand" "BadTune" = false := by decide +kernel
@[simp] theorem isSub_BadHand_BadText : isSub "BadHand" "BadText" = false := by decide +kernel
@[simp] theorem isSub_BadChord_NeckError : isSub "BadChord" "NeckError" = true := by decide +kernel
@[simp] theorem isSub_BadChord_BadNeck : isSub "BadChord" "BadNeck" = false := by decide +kernel
@[simp] theorem isSub_BadChord_BadShape : isSub "BadChord" "BadShape" = false := by decide +kernel
@[simp] theorem isSub_BadChord_BadHand : isSub "BadChord" "BadHand" = false := by decide +kernel
@[simp] theorem isSub_BadChord_BadChord : isSub "BadChord" "BadChord" = true := by decide +kernel
@[simp] theorem isSub_BadChord_BadTune : isSub "BadChord" "BadTune" = false := by decide +kernel
@[simp] theorem isSub_BadChord_BadText : isSub "BadChord" "BadText" = false := by decide +kernel
@[simp] theorem isSub_BadTune_NeckError : isSub "BadTune" "NeckError" = true := by decide +kernel
@[simp] theorem isSub_BadTune_BadNeck : isSub "BadTune" "BadNeck" = false := by decide +kernel
@[simp] theorem isSub_BadTune_BadShape : isSub "BadTune" "BadShape" = false := by decide +kernel
@[simp] theorem isSub_BadTune_BadHand : isSub "BadTune" "BadHand" = false := by decide +kernel
@[simp] theorem isSub_BadTune_BadChord : isSub "BadTune" "BadChord" = false := by decide +kernel
@[simp] theorem isSub_BadTune_BadTune : isSub "BadTune" "BadTune" = true := by decide +kernel
@[simp] theorem isSub_BadTune_BadText : isSub "BadTune" "BadText" = false := by decide +kernel
@[simp] theorem isSub_BadText_NeckError : isSub "BadText" "NeckError" = true := by decide +kernel
@[simp] theorem isSub_BadText_BadNeck : isSub "BadText" "BadNeck" = false := by decide +kernel
@[simp] theorem isSub_BadText_BadShape : isSub "BadText" "BadShape" = false := by decide +kernel
@[simp] theorem isSub_BadText_BadHand : isSub "BadText" "BadHand" = false := by decide +kernel
@[simp] theorem isSub_BadText_BadChord : isSub "BadText" "BadChord" = false := by decide +kernel
@[simp] theorem isSub_BadText_BadTune : isSub "BadText" "BadTune" = false := by decide +kernel
@[simp] theorem isSub_BadText_BadText : isSub "BadText" "BadText" = true := by decide +kernel
structure ExcT (g : Glb) (n : Str) : Prop where
  ec : ExcC g.K (g.cls n)
  te : PySem.W.exmOne g.K (.ref (g.cls n)) (.ref (g.cls "NeckError")) = some true
  kit : ∀ m, m ∈ clsNames → PySem.W.kitOne g.K (.ref (g.cls n)) (.ref (g.cls m)) = some (isSub n m)
  ve : PySem.W.kitOne g.K (.ref (g.cls n)) (.type "ValueError") = some true
structure Xs (g : Glb) (mg : Str → Option Value) : Prop where
  t : ∀ n, n ∈ excNames → ExcT g n
  m : ∀ n, n ∈ clsNames → mg n = some (.ref (g.cls n))

/-! ### all_within -/
def allIn (lo hi : Int) (ns : List Int) : Bool := ns.all fun n => decide (lo ≤ n) && decide (n ≤ hi)
def f_all_within : Fd := fun ds R => ∃ d ns lo hi, ds = [d, .int lo, .int hi] ∧ IsSeq d (ns.map PyData.int) ∧ R (.bool (allIn lo hi ns))
theorem len_all_within : ∀ ds R, f_all_within ds R → ds.length = 3 := by
  rintro ds R ⟨d, ns, lo, hi, rfl, _⟩
  exact rfl
def W_all_within : WS := dRet (dAllW 1 2 (dVar 0))
theorem pure_all_within : ∀ ds R, f_all_within ds R → W_all_within { nx := fun _ => R .none, rt := R } (startD ["numbers", "least", "greatest"] ds) := by
  rintro ds R ⟨d, ns, lo, hi, rfl, hs, h⟩
  exact ⟨lo, hi, rfl, rfl, _, rfl, ns, hs, h⟩
theorem sc_all_within : FnScope ["numbers", "least", "greatest"] ["numbers", "least", "greatest"] (defScope s_all_within) := ⟨rfl, rfl, rfl, by decide +kernel, rfl, by decide +kernel, by decide +kernel⟩
/-- the scope of the generator expression -/
def genScope (s : Stmt) : Scope := match defBody s with
  | [.Return (some (.Call _ [.GeneratorExp _ _ sc _] _ _)) _] => sc
  | _ => { kind := .function, names := [], isGenerator := false, isCoroutine := false }
theorem clo_within (cells : List (Str × Addr)) : cloFrom cells (genScope s_all_within).names [] = ([("least", (cells.lookup ("least" : Str)).getD 0), ("greatest", (cells.lookup ("greatest" : Str)).getD 0)] : List (Str × Addr)) := rfl
section
variable {P : Program} {w : World} {g : Glb} {mg : Str → Option Value} {base : Heap}
theorem ok_all_within {fd : FuncData} (F : FunP g.K "all_within" s_all_within (He.fAd g.K ("all_within", none)) fd) (mgf : mg "all_within" = some (.ref (He.fAd g.K ("all_within", none)))) (T : Txt mg)
    (TB : GxR.TabB base mg (He.codeOf g.K ("all_within", none)) (He.tabOf g.K (He.codeOf g.K ("all_within", none)))) (hP : He.tabOf g.K (He.codeOf g.K ("all_within", none)) ∈ g.Ps ∧ ∀ q, (He.tabOf g.K (He.codeOf g.K ("all_within", none)), q) ∉ g.Ls) : C8.Cal P w g.K mg base 1 "all_within" (spD g f_all_within) [] := by
  refine calDc (N := ["numbers", "least", "greatest"]) (ps := ["numbers", "least", "greatest"]) (k := 0) (wb := W_all_within) F mgf (F.bindsN fun _ _ _ _ _ _ us hl => match us, hl with | [_, _, _], _ => rfl) sc_all_within len_all_within (fun cdv A outer s H E r a ns hcd hr => ?_) pure_all_within
  have key : ∀ y : Str, (defScope s_all_within).names.lookup y = some .cell → ∃ c, (cellsFrom (s.heap.objs.size + 1) (defScope s_all_within).names []).lookup y = some c := fun y h => cell_has h
  refine pssd_one (ps_w (ps_ret (pe_w (FWG.pe_all (Pre := fun σ => ∃ lo hi : Int, σ[1]? = some (some (V.int lo)) ∧ σ[2]? = some (some (V.int hi))) hr (by rfl) T.m_all (by decide +kernel) TB hcd ⟨rfl, rfl, by decide +kernel, rfl, rfl, fun y hy hf => ?_⟩ (pe_w (pv 0) xd_var) (fun pins σ H1 s1 hpre I1 => ?_) (fun _ => rfl)) (xd_allW hP))) xs_ret)
  · have all : ∀ y ∈ (genScope s_all_within).names, y.2 = NameKind.free → (defScope s_all_within).names.lookup y.1 = some .cell := by decide +kernel
    exact key _ (all y hy hf)
  · obtain ⟨lo, hi, h1, h2⟩ := hpre
    obtain ⟨m, hn, hl⟩ := I1.loc
    obtain ⟨u1, ⟨t1, r1⟩, l1⟩ := hl 1 "least" (.int lo) rfl h1 (.inr (.inl rfl))
    obtain ⟨u2, ⟨t2, r2⟩, l2⟩ := hl 2 "greatest" (.int hi) rfl h2 (.inr (.inl rfl))
    rcases l1 with ⟨z, _⟩ | ⟨_, c1, hc1, v1⟩
    · exact nomatch (show (some NameKind.cell : Option NameKind) = some .local from z)
    rcases l2 with ⟨z, _⟩ | ⟨_, c2, hc2, v2⟩
    · exact nomatch (show (some NameKind.cell : Option NameKind) = some .local from z)
    rw [r1] at v1
    rw [r2] at v2
    have ep : pbT 1 2 σ = fun n => decide (lo ≤ n) && decide (n ≤ hi) := by
      funext n
      unfold pbT
      rw [h1, h2]
    rw [ep]
    refine FWG.el_between (cl := c1) (ch := c2) rfl rfl rfl rfl ?_ ?_ v1 v2 (by decide) (by decide) (by decide) (by decide) (by decide)
    · show List.lookup _ (cloFrom _ (genScope s_all_within).names []) = _
      rw [clo_within, hc1]
      rfl
    · show List.lookup _ (cloFrom _ (genScope s_all_within).names []) = _
      rw [clo_within, hc2]
      rfl
end

/-! ### rises -/
def risesB (l : List Int) : Bool := (l.zip l.tail).all fun q => decide (q.1 < q.2)
def f_rises : Fd := fun ds R => ∃ l : List Int, ds = [intsD l] ∧ 1 ≤ l.length ∧ R (.bool (risesB l))
theorem len_rises : ∀ ds R, f_rises ds R → ds.length = 1 := by
  rintro ds R ⟨l, rfl, _⟩
  exact rfl
def W_rises : WS := dRet (dAllZ (aCons (dVar 0) (aCons (dSl (dVar 0) (oSome (dC (.int 1))) oNone .tuple) aNil)))
theorem pure_rises : ∀ ds R, f_rises ds R → W_rises { nx := fun _ => R .none, rt := R } (startD ["numbers"] ds) := by
  rintro ds R ⟨l, rfl, h1, h⟩
  have e : cutD (l.map PyData.int) (some 1) none = l.tail.map .int := by
    have := cut_from l (n := 0) h1
    simpa using this
  simp [W_rises, intsD, e]
  exact ⟨l, l.tail, ⟨rfl, by simp⟩, h⟩
theorem sc_rises : FnScope ["numbers"] ["numbers"] (defScope s_rises) := ⟨rfl, rfl, rfl, by decide +kernel, rfl, by decide +kernel, by decide +kernel⟩
section
variable {P : Program} {w : World} {g : Glb} {mg : Str → Option Value} {base : Heap}
theorem ok_rises {fd : FuncData} (F : FunP g.K "rises" s_rises (He.fAd g.K ("rises", none)) fd) (mgf : mg "rises" = some (.ref (He.fAd g.K ("rises", none)))) (T : Txt mg)
    (TB : GxR.TabB base mg (He.codeOf g.K ("rises", none)) (He.tabOf g.K (He.codeOf g.K ("rises", none)))) (hP : He.tabOf g.K (He.codeOf g.K ("rises", none)) ∈ g.Ps ∧ ∀ q, (He.tabOf g.K (He.codeOf g.K ("rises", none)), q) ∉ g.Ls) : C8.Cal P w g.K mg base 1 "rises" (spD g f_rises) [] := by
  refine calDc (N := ["numbers"]) (ps := ["numbers"]) (k := 0) (wb := W_rises) F mgf (F.bindsN fun _ _ _ _ _ _ us hl => match us, hl with | [_], _ => rfl) sc_rises len_rises (fun cdv A outer s H E r a ns hcd hr => ?_) pure_rises
  have key : ∀ y : Str, (defScope s_rises).names.lookup y = some .cell → ∃ c, (cellsFrom (s.heap.objs.size + 1) (defScope s_rises).names []).lookup y = some c := fun y h => cell_has h
  refine pssd_one (ps_w (ps_ret (pe_w (FWJ.pe_allZ hr (by rfl) T.m_all (by decide +kernel) (by rfl) T.m_zip TB hcd ⟨rfl, rfl, by decide +kernel, rfl, rfl, rfl, by decide, fun y hy hf => ?_⟩
    (pa_w (pa_cons (pe_w (pv 0) xd_var) (pa_w (pa_cons (pe_w (pe_slice sl_tupA (pe_w (pv 0) xd_var) (po_w (po_some (pe_w pe_int (xd_c fun _ => .int))) xo_some) (po_w po_none xo_none)) xd_slT) (pa_w pa_nil xa_nil)) xa_cons)) xa_cons) (FWJ.el_less rfl rfl rfl (by decide) (by decide)) (fun _ => rfl)) (xd_allZ hP))) xs_ret)
  have all : ∀ y ∈ (genScope s_rises).names, y.2 = NameKind.free → (defScope s_rises).names.lookup y.1 = some .cell := by decide +kernel
  exact key _ (all y hy hf)
end

/-! ### check_neck, which may raise -/
def f_check_neck : Fx := fun ds R RX => ∃ t f c, ds = [neckD t f c] ∧ t.length ≤ 1000 ∧ (OkNeck t f c → R .none) ∧ (¬ OkNeck t f c → RX ("BadNeck", none))
theorem len_check_neck : ∀ ds R RX, f_check_neck ds R RX → ds.length = 1 := by
  rintro ds R RX ⟨t, f, c, rfl, _⟩; rfl
theorem allIn_ok {lo hi : Int} {l : List Int} (h : ∀ x ∈ l, lo ≤ x ∧ x ≤ hi) : allIn lo hi l = true := by
  unfold allIn
  rw [List.all_eq_true]
  intro x hx
  simp [h x hx]
def W_check_neck : WS := (dSeq (dUnp [1, 2, 3] (dVar 0)) (dSeq (dIfS (bNot (bB (dChain rdLe rdLe (dC (.int 1)) (dCall rdLen (aCons (dVar 1) aNil)) (dC (.int 6))))) (dRaise "BadNeck") dNext) (dSeq (dIfS (bNot (bTru (dCall f_all_within (aCons (dVar 1) (aCons (dC (.int 0)) (aCons (dC (.int 60)) aNil)))))) (dRaise "BadNeck") dNext) (dSeq (dIfS (bNot (bB (dChain rdLe rdLe (dC (.int 0)) (dVar 2) (dC (.int 20))))) (dRaise "BadNeck") dNext) (dIfS (bNot (bB (dChain rdLe rdLe (dC (.int 0)) (dVar 3) (dVar 2)))) (dRaise "BadNeck") dNext)))))
def N_check_neck : List Str := ["neck", "tuning", "frets", "capo"]
theorem sc_check_neck : FnScope ["neck", "tuning", "frets", "capo"] ["neck"] (defScope s_check_neck) := ⟨rfl, rfl, rfl, by decide +kernel, rfl, by decide +kernel, by decide +kernel⟩
theorem pure_check_neck : ∀ ds R RX, f_check_neck ds R RX → W_check_neck { nx := fun _ => R .none, rt := R, ex := RX } (startD ["neck", "tuning", "frets", "capo"] ds) := by
  rintro ds R RX ⟨t, f, c, rfl, hl, h, hx⟩
  simp [W_check_neck, neckD, intsD]
  by_cases q1 : 1 ≤ (t.length : Int)
  · refine .inr ⟨q1, ?_⟩
    by_cases q2 : (t.length : Int) ≤ 6
    · refine .inr ⟨q2, _, t, 0, 60, rfl, by simp, ?_⟩
      by_cases q3 : allIn 0 60 t = true
      · simp [q3]
        have n : ∀ x ∈ t, 0 ≤ x ∧ x ≤ 60 := fun x hx => by
          have := List.all_eq_true.mp q3 x hx
          simpa using this
        by_cases q4 : 0 ≤ f
        · refine .inr ⟨q4, ?_⟩
          by_cases q5 : f ≤ 20
          · refine .inr ⟨q5, ?_⟩
            by_cases q6 : 0 ≤ c
            · refine .inr ⟨q6, ?_⟩
              by_cases q7 : c ≤ f
              · exact .inr ⟨q7, h ⟨by omega, by omega, n, q4, q5, q6, q7⟩⟩
              · exact .inl ⟨by omega, hx fun ok => q7 ok.c1⟩
            · exact .inl ⟨by omega, hx fun ok => q6 ok.c0⟩
          · exact .inl ⟨by omega, hx fun ok => q5 ok.f1⟩
        · exact .inl ⟨by omega, hx fun ok => q4 ok.f0⟩
      · have q3 : allIn 0 60 t = false := by simpa using q3
        simp [q3]
        exact hx fun ok => by
          rw [allIn_ok ok.n] at q3
          cases q3
    · exact .inl ⟨by omega, hx fun ok => q2 (by have := ok.l2; omega)⟩
  · exact .inl ⟨by omega, hx fun ok => q1 (by have := ok.l1; omega)⟩
section
variable {P : Program} {w : World} {g : Glb} {mg : Str → Option Value} {base : Heap}
theorem ok_check_neck {f : Addr} {fd : FuncData} (F : FunP g.K "check_neck" s_check_neck f fd) (mgf : mg "check_neck" = some (.ref f)) (T : Txt mg) (C_all_within : C8.Cal P w g.K mg base 1 "all_within" (spD g f_all_within) []) (X_BadNeck : ClsX g.K mg g.cls "BadNeck") : CalX P w g.K mg base 2 "check_neck" (spX g f_check_neck) :=
  calX (N := ["neck", "tuning", "frets", "capo"]) (ps := ["neck"]) (k := 1) (wb := W_check_neck) F mgf (F.bindsN fun _ _ _ _ _ _ us hl => match us, hl with | [_], _ => rfl) sc_check_neck len_check_neck (fun cdv A outer s H E r a ns hr tk =>
    (pssd_cons (ps_w (ps_asg (pe_w (pv 0) xd_var) (pg_tup rfl (pgs_cons (pg_name (i := 1) sc_check_neck.nd rfl (.inl rfl)) (pgs_cons (pg_name (i := 2) sc_check_neck.nd rfl (.inl rfl)) (pgs_cons (pg_name (i := 3) sc_check_neck.nd rfl (.inl rfl)) pgs_nil))))) (xs_unp (is := [1, 2, 3]) rfl)) (pssd_cons (ps_w (ps_if (pt_w (pt_not (pt_w (pt_chain op_le op_le (pe_w pe_int (xd_c fun _ => .int)) (pe_w (pe_callB call_len_seq (by rfl) T.m_len PySem.boot_len (pa_w (pa_cons (pe_w (pv 1) xd_var) (pa_w pa_nil xa_nil)) xa_cons)) (xd_cb cd_len)) (pe_w (pe_gint (by rfl) T.c_MOST_STRINGS) (xd_c fun _ => .int))) (xt_chain od_le od_le))) xt_not) (pssd_one (ps_raiseD (c := ⟨g, r, a, ns⟩) rfl tk X_BadNeck (by rfl))) pssd_nil) xs_if) (pssd_cons (ps_w (ps_if (pt_w (pt_not (pt_w (pt_truth (pe_w (C8.pe_c C_all_within hr (by decide) (by rfl) (pa_w (pa_cons (pe_w (pv 1) xd_var) (pa_w (pa_cons (pe_w pe_int (xd_c fun _ => .int)) (pa_w (pa_cons (pe_w (pe_gint (by rfl) T.c_HIGHEST_TUNING) (xd_c fun _ => .int)) (pa_w pa_nil xa_nil)) xa_cons)) xa_cons)) xa_cons)) xd_call) (by intro _; rfl)) xt_tru)) xt_not) (pssd_one (ps_raiseD (c := ⟨g, r, a, ns⟩) rfl tk X_BadNeck (by rfl))) pssd_nil) xs_if) (pssd_cons (ps_w (ps_if (pt_w (pt_not (pt_w (pt_chain op_le op_le (pe_w pe_int (xd_c fun _ => .int)) (pe_w (pv 2) xd_var) (pe_w (pe_gint (by rfl) T.c_MOST_FRETS) (xd_c fun _ => .int))) (xt_chain od_le od_le))) xt_not) (pssd_one (ps_raiseD (c := ⟨g, r, a, ns⟩) rfl tk X_BadNeck (by rfl))) pssd_nil) xs_if) (pssd_one (ps_w (ps_if (pt_w (pt_not (pt_w (pt_chain op_le op_le (pe_w pe_int (xd_c fun _ => .int)) (pe_w (pv 3) xd_var) (pe_w (pv 2) xd_var)) (xt_chain od_le od_le))) xt_not) (pssd_one (ps_raiseD (c := ⟨g, r, a, ns⟩) rfl tk X_BadNeck (by rfl))) pssd_nil) xs_if))))))) pure_check_neck
end

/-! ### check_hand, which may raise -/
structure OkHand (h : List Int) : Prop where
  len : h.length = 2
  at_ : ∀ x ∈ h, 0 ≤ x ∧ x ≤ 6
def f_check_hand : Fx := fun ds R RX => ∃ h : List Int, ds = [intsD h] ∧ (OkHand h → R .none) ∧ (¬ OkHand h → RX ("BadHand", none))
theorem len_check_hand : ∀ ds R RX, f_check_hand ds R RX → ds.length = 1 := by
  rintro ds R RX ⟨h, rfl, _⟩; rfl
@[simp] theorem check_hand_iff {h : List Int} {R : D → Prop} {RX : Exc → Prop} : f_check_hand [intsD h] R RX ↔ (OkHand h → R .none) ∧ (¬ OkHand h → RX ("BadHand", none)) := by
  constructor
  · rintro ⟨h', e, k⟩; simp at e; subst e; exact k
  · intro k; exact ⟨_, rfl, k⟩
def W_check_hand : WS := (dSeq (dIfS (bB (dOp rdNe (dCall rdLen (aCons (dVar 0) aNil)) (dC (.int 2)))) (dRaise "BadHand") dNext) (dIfS (bNot (bTru (dCall f_all_within (aCons (dVar 0) (aCons (dC (.int 0)) (aCons (dC (.int 6)) aNil)))))) (dRaise "BadHand") dNext))
def N_check_hand : List Str := ["hand"]
theorem sc_check_hand : FnScope ["hand"] ["hand"] (defScope s_check_hand) := ⟨rfl, rfl, rfl, by decide +kernel, rfl, by decide +kernel, by decide +kernel⟩
theorem pure_check_hand : ∀ ds R RX, f_check_hand ds R RX → W_check_hand { nx := fun _ => R .none, rt := R, ex := RX } (startD N_check_hand ds) := by
  rintro ds R RX ⟨h, rfl, k, kx⟩
  simp [W_check_hand, N_check_hand]
  by_cases q : h.length = 2
  · have q' : (h.length : Int) = 2 := by omega
    simp [q']
    refine ⟨intsD h, h, 0, 6, rfl, by simp, ?_⟩
    by_cases z : allIn 0 6 h = true
    · have : OkHand h := ⟨q, fun x hx => by simpa using List.all_eq_true.mp z x hx⟩
      simpa [z] using k this
    · have no : ¬ OkHand h := fun o => z (allIn_ok o.at_)
      have z : allIn 0 6 h = false := by simpa using z
      simpa [z] using kx no
  · have q' : ¬ (h.length : Int) = 2 := by omega
    simp [q']
    exact kx fun o => q o.len
section
variable {P : Program} {w : World} {g : Glb} {mg : Str → Option Value} {base : Heap}
theorem ok_check_hand {f : Addr} {fd : FuncData} (F : FunP g.K "check_hand" s_check_hand f fd) (mgf : mg "check_hand" = some (.ref f)) (T : Txt mg) (C_all_within : C8.Cal P w g.K mg base 1 "all_within" (spD g f_all_within) []) (X_BadHand : ClsX g.K mg g.cls "BadHand") : CalX P w g.K mg base 2 "check_hand" (spX g f_check_hand) :=
  calX (N := ["hand"]) (ps := ["hand"]) (k := 1) (wb := W_check_hand) F mgf (F.bindsN fun _ _ _ _ _ _ us hl => match us, hl with | [_], _ => rfl) sc_check_hand len_check_hand (fun cdv A outer s H E r a ns hr tk =>
    (pssd_cons (ps_w (ps_if (pt_w (pt_cmpR (op_neD hr.units) (pe_w (pe_callB call_len_seq (by rfl) T.m_len PySem.boot_len (pa_w (pa_cons (pe_w (pv 0) xd_var) (pa_w pa_nil xa_nil)) xa_cons)) (xd_cb cd_len)) (pe_w pe_int (xd_c fun _ => .int)) (nomark _)) (xt_cmp od_ne)) (pssd_one (ps_raiseD (c := ⟨g, r, a, ns⟩) rfl tk X_BadHand (by rfl))) pssd_nil) xs_if) (pssd_one (ps_w (ps_if (pt_w (pt_not (pt_w (pt_truth (pe_w (C8.pe_c C_all_within hr (by decide) (by rfl) (pa_w (pa_cons (pe_w (pv 0) xd_var) (pa_w (pa_cons (pe_w pe_int (xd_c fun _ => .int)) (pa_w (pa_cons (pe_w (pe_gint (by rfl) T.c_MOST_OF_HAND) (xd_c fun _ => .int)) (pa_w pa_nil xa_nil)) xa_cons)) xa_cons)) xa_cons)) xd_call) (by intro _; rfl)) xt_tru)) xt_not) (pssd_one (ps_raiseD (c := ⟨g, r, a, ns⟩) rfl tk X_BadHand (by rfl))) pssd_nil) xs_if)))) pure_check_hand
end

/-! ### check_reach, which may raise -/
def f_check_reach : Fx := fun ds R RX => ∃ r : Int, ds = [.int r] ∧ ((0 ≤ r ∧ r ≤ 6) → R .none) ∧ (¬ (0 ≤ r ∧ r ≤ 6) → RX ("BadHand", none))
theorem len_check_reach : ∀ ds R RX, f_check_reach ds R RX → ds.length = 1 := by
  rintro ds R RX ⟨r, rfl, _⟩; rfl
@[simp] theorem check_reach_iff {r : Int} {R : D → Prop} {RX : Exc → Prop} : f_check_reach [.int r] R RX ↔ ((0 ≤ r ∧ r ≤ 6) → R .none) ∧ (¬ (0 ≤ r ∧ r ≤ 6) → RX ("BadHand", none)) := by
  constructor
  · rintro ⟨a, e, h⟩; simp at e; rw [e]; exact h
  · intro h; exact ⟨r, rfl, h⟩
def W_check_reach : WS := (dIfS (bNot (bB (dChain rdLe rdLe (dC (.int 0)) (dVar 0) (dC (.int 6))))) (dRaise "BadHand") dNext)
def N_check_reach : List Str := ["reach"]
theorem sc_check_reach : FnScope ["reach"] ["reach"] (defScope s_check_reach) := ⟨rfl, rfl, rfl, by decide +kernel, rfl, by decide +kernel, by decide +kernel⟩
theorem pure_check_reach : ∀ ds R RX, f_check_reach ds R RX → W_check_reach { nx := fun _ => R .none, rt := R, ex := RX } (startD N_check_reach ds) := by
  rintro ds R RX ⟨r, rfl, h, hx⟩
  simp [W_check_reach, N_check_reach]
  by_cases h1 : 0 ≤ r
  · by_cases h2 : r ≤ 6
    · simp [h1, h2]
      exact .inr (.inr (h ⟨h1, h2⟩))
    · have h2' : ¬ r ≤ 6 := h2
      simp [h1, h2']
      exact .inr ⟨by omega, hx fun z => h2 z.2⟩
  · simp [h1]
    exact ⟨by omega, hx fun z => h1 z.1⟩
section
variable {P : Program} {w : World} {g : Glb} {mg : Str → Option Value} {base : Heap}
theorem ok_check_reach {f : Addr} {fd : FuncData} (F : FunP g.K "check_reach" s_check_reach f fd) (mgf : mg "check_reach" = some (.ref f)) (T : Txt mg)  (X_BadHand : ClsX g.K mg g.cls "BadHand") : CalX P w g.K mg base 1 "check_reach" (spX g f_check_reach) :=
  calX (N := ["reach"]) (ps := ["reach"]) (k := 0) (wb := W_check_reach) F mgf (F.bindsN fun _ _ _ _ _ _ us hl => match us, hl with | [_], _ => rfl) sc_check_reach len_check_reach (fun cdv A outer s H E r a ns hr tk =>
    (pssd_one (ps_w (ps_if (pt_w (pt_not (pt_w (pt_chain op_le op_le (pe_w pe_int (xd_c fun _ => .int)) (pe_w (pv 0) xd_var) (pe_w (pe_gint (by rfl) T.c_MOST_OF_HAND) (xd_c fun _ => .int))) (xt_chain od_le od_le))) xt_not) (pssd_one (ps_raiseD (c := ⟨g, r, a, ns⟩) rfl tk X_BadHand (by rfl))) pssd_nil) xs_if))) pure_check_reach
end

/-! ### check_chord, which may raise: the number is told -/
structure OkChord (l : List Int) : Prop where
  l1 : 1 ≤ l.length
  l2 : l.length ≤ 6
  n : ∀ x ∈ l, 0 ≤ x ∧ x ≤ 80
  up : risesB l = true
def f_check_chord : Fx := fun ds R RX => ∃ (l : List Int) (n : Int), ds = [intsD l, .int n] ∧ (OkChord l → R .none) ∧ (¬ OkChord l → RX ("BadChord", some n))
theorem len_check_chord : ∀ ds R RX, f_check_chord ds R RX → ds.length = 2 := by
  rintro ds R RX ⟨l, n, rfl, _⟩; rfl
@[simp] theorem check_chord_iff {l : List Int} {n : Int} {R : D → Prop} {RX : Exc → Prop} : f_check_chord [intsD l, .int n] R RX ↔ (OkChord l → R .none) ∧ (¬ OkChord l → RX ("BadChord", some n)) := by
  constructor
  · rintro ⟨l', n', e, h⟩; simp at e; obtain ⟨rfl, rfl⟩ := e; exact h
  · intro h; exact ⟨_, _, rfl, h⟩
def W_check_chord : WS := (dSeq (dIfS (bNot (bB (dChain rdLe rdLe (dC (.int 1)) (dCall rdLen (aCons (dVar 0) aNil)) (dC (.int 6))))) (dRaiseN "BadChord" (dVar 1)) dNext) (dSeq (dIfS (bNot (bTru (dCall f_all_within (aCons (dVar 0) (aCons (dC (.int 0)) (aCons (dC (.int 80)) aNil)))))) (dRaiseN "BadChord" (dVar 1)) dNext) (dIfS (bNot (bTru (dCall f_rises (aCons (dVar 0) aNil)))) (dRaiseN "BadChord" (dVar 1)) dNext)))
def N_check_chord : List Str := ["chord", "number"]
theorem sc_check_chord : FnScope ["chord", "number"] ["chord", "number"] (defScope s_check_chord) := ⟨rfl, rfl, rfl, by decide +kernel, rfl, by decide +kernel, by decide +kernel⟩
theorem pure_check_chord : ∀ ds R RX, f_check_chord ds R RX → W_check_chord { nx := fun _ => R .none, rt := R, ex := RX } (startD N_check_chord ds) := by
  rintro ds R RX ⟨l, n, rfl, h, hx⟩
  simp [W_check_chord, N_check_chord, intsD]
  by_cases l1 : 1 ≤ (l.length : Int)
  · by_cases l2 : (l.length : Int) ≤ 6
    · refine .inr ⟨l1, .inr ⟨l2, intsD l, l, 0, 80, rfl, by simp, ?_⟩⟩
      by_cases z : allIn 0 80 l = true
      · simp [z]
        refine ⟨l, rfl, by omega, ?_⟩
        cases y : risesB l with
        | true => simpa using h ⟨by omega, by omega, fun x hx => (by simpa using List.all_eq_true.mp z x hx), y⟩
        | false => simpa using hx fun o => by rw [o.up] at y; cases y
      · have no : ¬ OkChord l := fun o => z (allIn_ok o.n)
        have z : allIn 0 80 l = false := by simpa using z
        simpa [z] using hx no
    · exact .inr ⟨l1, .inl ⟨by omega, hx fun o => l2 (by have := o.l2; omega)⟩⟩
  · exact .inl ⟨by omega, hx fun o => l1 (by have := o.l1; omega)⟩
section
variable {P : Program} {w : World} {g : Glb} {mg : Str → Option Value} {base : Heap}
theorem ok_check_chord_all {f : Addr} {fd : FuncData} (F : FunQ g.K "check_chord" s_check_chord 0 f fd) (mgf : mg "check_chord" = some (.ref f)) (T : Txt mg) (C_all_within : C8.Cal P w g.K mg base 1 "all_within" (spD g f_all_within) []) (C_rises : C8.Cal P w g.K mg base 1 "rises" (spD g f_rises) []) (X_BadChord : ClsN P.main g.K mg g.cls "BadChord") : CalX P w g.K mg base 3 "check_chord" (spX g f_check_chord) :=
  calXa (N := ["chord", "number"]) (ps := ["chord", "number"]) (k := 2) (wb := W_check_chord) F mgf (F.binds1 2 1 (by simp) (by decide) fun T kV doc pm an cdv ct us its h1 h2 => match us, its, h1, h2 with | [_, _], [_], _, _ => ⟨_, rfl, rfl⟩) sc_check_chord len_check_chord (fun cdv A outer s H E r a ns hr tk =>
    (pssd_cons (ps_w (ps_if (pt_w (pt_not (pt_w (pt_chain op_le op_le (pe_w pe_int (xd_c fun _ => .int)) (pe_w (pe_callB call_len_seq (by rfl) T.m_len PySem.boot_len (pa_w (pa_cons (pe_w (pv 0) xd_var) (pa_w pa_nil xa_nil)) xa_cons)) (xd_cb cd_len)) (pe_w (pe_gint (by rfl) T.c_MOST_NOTES) (xd_c fun _ => .int))) (xt_chain od_le od_le))) xt_not) (pssd_one (ps_raiseN (c := ⟨g, r, a, ns⟩) rfl tk X_BadChord hr (by decide) (by rfl) (pe_w (pv 1) xd_var))) pssd_nil) xs_if) (pssd_cons (ps_w (ps_if (pt_w (pt_not (pt_w (pt_truth (pe_w (C8.pe_c C_all_within hr (by decide) (by rfl) (pa_w (pa_cons (pe_w (pv 0) xd_var) (pa_w (pa_cons (pe_w pe_int (xd_c fun _ => .int)) (pa_w (pa_cons (pe_w (pe_gint (by rfl) T.c_HIGHEST_NOTE) (xd_c fun _ => .int)) (pa_w pa_nil xa_nil)) xa_cons)) xa_cons)) xa_cons)) xd_call) (by intro _; rfl)) xt_tru)) xt_not) (pssd_one (ps_raiseN (c := ⟨g, r, a, ns⟩) rfl tk X_BadChord hr (by decide) (by rfl) (pe_w (pv 1) xd_var))) pssd_nil) xs_if) (pssd_one (ps_w (ps_if (pt_w (pt_not (pt_w (pt_truth (pe_w (C8.pe_c C_rises hr (by decide) (by rfl) (pa_w (pa_cons (pe_w (pv 0) xd_var) (pa_w pa_nil xa_nil)) xa_cons)) xd_call) (by intro _; rfl)) xt_tru)) xt_not) (pssd_one (ps_raiseN (c := ⟨g, r, a, ns⟩) rfl tk X_BadChord hr (by decide) (by rfl) (pe_w (pv 1) xd_var))) pssd_nil) xs_if))))) pure_check_chord
theorem ok_check_chord {f : Addr} {fd : FuncData} (F : FunQ g.K "check_chord" s_check_chord 0 f fd) (mgf : mg "check_chord" = some (.ref f)) (T : Txt mg) (C_all_within : C8.Cal P w g.K mg base 1 "all_within" (spD g f_all_within) []) (C_rises : C8.Cal P w g.K mg base 1 "rises" (spD g f_rises) []) (X_BadChord : ClsN P.main g.K mg g.cls "BadChord") : CalXd P w g.K mg base 3 "check_chord" (spX g f_check_chord) [V.int 0] :=
  calXd (N := ["chord", "number"]) (ps := ["chord", "number"]) (k := 2) (wb := W_check_chord) F mgf (F.binds1 1 0 (by simp) (by decide) fun T kV doc pm an cdv ct us its h1 h2 => match us, its, h1, h2 with | [_], [_], _, _ => ⟨_, rfl, rfl⟩) sc_check_chord len_check_chord (fun cdv A outer s H E r a ns hr tk =>
    (pssd_cons (ps_w (ps_if (pt_w (pt_not (pt_w (pt_chain op_le op_le (pe_w pe_int (xd_c fun _ => .int)) (pe_w (pe_callB call_len_seq (by rfl) T.m_len PySem.boot_len (pa_w (pa_cons (pe_w (pv 0) xd_var) (pa_w pa_nil xa_nil)) xa_cons)) (xd_cb cd_len)) (pe_w (pe_gint (by rfl) T.c_MOST_NOTES) (xd_c fun _ => .int))) (xt_chain od_le od_le))) xt_not) (pssd_one (ps_raiseN (c := ⟨g, r, a, ns⟩) rfl tk X_BadChord hr (by decide) (by rfl) (pe_w (pv 1) xd_var))) pssd_nil) xs_if) (pssd_cons (ps_w (ps_if (pt_w (pt_not (pt_w (pt_truth (pe_w (C8.pe_c C_all_within hr (by decide) (by rfl) (pa_w (pa_cons (pe_w (pv 0) xd_var) (pa_w (pa_cons (pe_w pe_int (xd_c fun _ => .int)) (pa_w (pa_cons (pe_w (pe_gint (by rfl) T.c_HIGHEST_NOTE) (xd_c fun _ => .int)) (pa_w pa_nil xa_nil)) xa_cons)) xa_cons)) xa_cons)) xd_call) (by intro _; rfl)) xt_tru)) xt_not) (pssd_one (ps_raiseN (c := ⟨g, r, a, ns⟩) rfl tk X_BadChord hr (by decide) (by rfl) (pe_w (pv 1) xd_var))) pssd_nil) xs_if) (pssd_one (ps_w (ps_if (pt_w (pt_not (pt_w (pt_truth (pe_w (C8.pe_c C_rises hr (by decide) (by rfl) (pa_w (pa_cons (pe_w (pv 0) xd_var) (pa_w pa_nil xa_nil)) xa_cons)) xd_call) (by intro _; rfl)) xt_tru)) xt_not) (pssd_one (ps_raiseN (c := ⟨g, r, a, ns⟩) rfl tk X_BadChord hr (by decide) (by rfl) (pe_w (pv 1) xd_var))) pssd_nil) xs_if))))) pure_check_chord
end

/-! ### check_chords, which may raise -/
def f_check_chords : Fx := fun ds R RX => ∃ ls : List (List Int), ds = [.list (ls.map intsD)] ∧ ls.length ≤ 1000 ∧ (6 < ls.length → RX ("BadChord", some 6)) ∧ (ls.length ≤ 6 → (∀ l ∈ ls, OkChord l) → R .none) ∧ (ls.length ≤ 6 → ∀ done l r, ls = done ++ l :: r → (∀ m ∈ done, OkChord m) → ¬ OkChord l → RX ("BadChord", some (done.length : Int)))
theorem len_check_chords : ∀ ds R RX, f_check_chords ds R RX → ds.length = 1 := by
  rintro ds R RX ⟨ls, rfl, _⟩; rfl
theorem intsD_injL : ∀ {a b : List (List Int)}, a.map intsD = b.map intsD → a = b
  | [], [], _ => rfl
  | [], _ :: _, h => by simp at h
  | _ :: _, [], h => by simp at h
  | x :: a, y :: b, h => by
    simp only [List.map_cons, List.cons.injEq, intsD_inj] at h
    rw [h.1, intsD_injL h.2]
@[simp] theorem intsD_mapInj {a b : List (List Int)} : a.map intsD = b.map intsD ↔ a = b := ⟨intsD_injL, fun h => by rw [h]⟩
/-- a for over what is told by a list -/
theorem forRun_map {α : Type} {φ : α → D} {wg : WG} {wb : WS} {De : EndsD} (I : List α → List α → Sg → Prop) (l0 : List α) (ht : ∀ (done : List α) (a : α) (l : List α) (e : Sg) (N : Sg → Prop), l0 = done ++ a :: l → I done (a :: l) e → (∀ e2, I (done ++ [a]) l e2 → N e2) → wg (φ a) e fun e' => wb { De with nx := N, ct := N, bk := De.nx, base := fun _ => False, pin := false } e')
    (he : ∀ e, I l0 [] e → De.nx e) (e : Sg) (h : I [] l0 e) : forRun wg wb De (l0.map φ) e := by
  refine forRun_go (fun ds e => ∃ done l, ds = l.map φ ∧ l0 = done ++ l ∧ I done l e) ?_ ?_ _ _ ⟨[], l0, rfl, rfl, h⟩
  · rintro d ds e N ⟨done, l, hd, hl, hI⟩ k
    cases l with
    | nil => simp at hd
    | cons a l =>
      simp only [List.map_cons, List.cons.injEq] at hd
      obtain ⟨rfl, rfl⟩ := hd
      exact ht done a l e N hl hI fun e2 h2 => k e2 ⟨done ++ [a], l, rfl, by rw [hl]; simp, h2⟩
  · rintro e ⟨done, l, hd, hl, hI⟩
    cases l with
    | nil =>
      rw [List.append_nil] at hl
      subst hl
      exact he e hI
    | cons a l => simp at hd
def W_check_chords : WS := (dSeq (dIfS (bB (dOp rdGt (dCall rdLen (aCons (dVar 0) aNil)) (dC (.int 6)))) (dRaiseN "BadChord" (dC (.int 6))) dNext) (dFor (iEnmL (aCons (dVar 0) aNil)) (tgT [1, 2]) (dDropX (dCallX f_check_chord (aCons (dVar 2) (aCons (dVar 1) aNil))))))
def N_check_chords : List Str := ["chords", "number", "chord"]
theorem sc_check_chords : FnScope ["chords", "number", "chord"] ["chords"] (defScope s_check_chords) := ⟨rfl, rfl, rfl, by decide +kernel, rfl, by decide +kernel, by decide +kernel⟩
theorem pure_check_chords : ∀ ds R RX, f_check_chords ds R RX → W_check_chords { nx := fun _ => R .none, rt := R, ex := RX } (startD N_check_chords ds) := by
  rintro ds R RX ⟨ls, rfl, hl, h6, h, hx⟩
  simp [W_check_chords, N_check_chords]
  by_cases q : ls.length ≤ 6
  · have q' : ¬ (6 : Int) < ls.length := by omega
    simp [q']
    refine ⟨by omega, ?_⟩
    rw [enumD_map]
    refine forRun_map (fun done _ e => (∀ p ∈ done, OkChord p.1) ∧ ∃ x1 x2, e = [.val (.list (ls.map intsD)), x1, x2]) _ ?_ ?_ _ ⟨fun p hp => (by cases hp), _, _, rfl⟩
    · rintro done p l e N he ⟨hd, x1, x2, rfl⟩ k
      simp
      refine ⟨fun ok => k _ ⟨fun z hz => ?_, _, _, rfl⟩, fun no => ?_⟩
      · rcases List.mem_append.mp hz with y | y
        · exact hd z y
        · rw [List.mem_singleton.mp y]; exact ok
      · have h1 := congrArg (List.map Prod.fst) he
        rw [List.zipIdx_map_fst, List.map_append, List.map_cons] at h1
        have h2 : ls.zipIdx[done.length]? = some p := by rw [he, List.getElem?_append_right (Nat.le_refl _), Nat.sub_self]; rfl
        have h3 : p.2 = done.length := by
          rw [List.getElem?_zipIdx] at h2
          cases e : ls[done.length]? with
          | none => rw [e] at h2; cases h2
          | some x =>
            rw [e] at h2
            cases h2
            simp
        have h4 := hx q (done.map Prod.fst) p.1 (l.map Prod.fst) h1 (fun m hm => by
          obtain ⟨z, hz, rfl⟩ := List.mem_map.mp hm
          exact hd z hz) no
        rw [List.length_map] at h4
        rw [h3]; exact h4
    · rintro e ⟨hd, x1, x2, rfl⟩
      refine h q fun l hl => ?_
      obtain ⟨n, hn, e⟩ := List.getElem_of_mem hl
      have : (l, n) ∈ ls.zipIdx := by
        rw [List.mem_zipIdx_iff_getElem?]
        rw [← e]; exact List.getElem?_eq_getElem hn
      exact hd _ this
  · have q' : (6 : Int) < ls.length := by omega
    simp [q']
    exact .inr (h6 (by omega))
section
variable {P : Program} {w : World} {g : Glb} {mg : Str → Option Value} {base : Heap}
theorem ok_check_chords {f : Addr} {fd : FuncData} (F : FunP g.K "check_chords" s_check_chords f fd) (mgf : mg "check_chords" = some (.ref f)) (T : Txt mg) (C_check_chord_all : CalX P w g.K mg base 3 "check_chord" (spX g f_check_chord)) (X_BadChord : ClsN P.main g.K mg g.cls "BadChord") : CalX P w g.K mg base 4 "check_chords" (spX g f_check_chords) :=
  calX (N := ["chords", "number", "chord"]) (ps := ["chords"]) (k := 3) (wb := W_check_chords) F mgf (F.bindsN fun _ _ _ _ _ _ us hl => match us, hl with | [_], _ => rfl) sc_check_chords len_check_chords (fun cdv A outer s H E r a ns hr tk =>
    (pssd_cons (ps_w (ps_if (pt_w (pt_cmpR op_gt (pe_w (pe_callB call_len_seq (by rfl) T.m_len PySem.boot_len (pa_w (pa_cons (pe_w (pv 0) xd_var) (pa_w pa_nil xa_nil)) xa_cons)) (xd_cb cd_len)) (pe_w (pe_gint (by rfl) T.c_MOST_CHORDS) (xd_c fun _ => .int)) (nomark _)) (xt_cmp od_gt)) (pssd_one (ps_raiseN (c := ⟨g, r, a, ns⟩) rfl tk X_BadChord hr (by decide) (by rfl) (pe_w (pe_gint (by rfl) T.c_MOST_CHORDS) (xd_c fun _ => .int)))) pssd_nil) xs_if) (pssd_one (ps_w (ps_for (g := gTup _ 2 (gNames [1, 2])) (passes_of rfl) rfl (pi_w (pi_enum (by rfl) T.m_enumerate (pa_w (pa_cons (pe_w (pv 0) xd_var) (pa_w pa_nil xa_nil)) xa_cons)) xi_enumL) (pg_tup rfl (pgs_cons (pg_name (i := 1) sc_check_chords.nd rfl (.inl rfl)) (pgs_cons (pg_name (i := 2) sc_check_chords.nd rfl (.inl rfl)) pgs_nil))) (pssd_one (ps_w (ps_expr (pe_w (pe_cx C_check_chord_all hr (by decide) (by rfl) tk (pa_w (pa_cons (pe_w (pv 2) xd_var) (pa_w (pa_cons (pe_w (pv 1) xd_var) (pa_w pa_nil xa_nil)) xa_cons)) xa_cons)) xdx_call)) xs_dropX))) (xs_for (gd_tup (is := [1, 2]) rfl)))))) pure_check_chords
end

/-! ### check_tune, which may raise -/
structure OkTune (ns : List Int) : Prop where
  l1 : 1 ≤ ns.length
  l2 : ns.length ≤ 30
  n : ∀ x ∈ ns, 0 ≤ x ∧ x ≤ 80
def f_check_tune : Fx := fun ds R RX => ∃ ns : List Int, ds = [.list (ns.map .int)] ∧ (OkTune ns → R .none) ∧ (¬ OkTune ns → RX ("BadTune", none))
theorem len_check_tune : ∀ ds R RX, f_check_tune ds R RX → ds.length = 1 := by
  rintro ds R RX ⟨ns, rfl, _⟩; rfl
@[simp] theorem check_tune_iff {ns : List Int} {R : D → Prop} {RX : Exc → Prop} : f_check_tune [.list (ns.map .int)] R RX ↔ (OkTune ns → R .none) ∧ (¬ OkTune ns → RX ("BadTune", none)) := by
  constructor
  · rintro ⟨a, e, h⟩; simp at e; rw [e]; exact h
  · intro h; exact ⟨ns, rfl, h⟩
def W_check_tune : WS := (dSeq (dIfS (bNot (bB (dChain rdLe rdLe (dC (.int 1)) (dCall rdLen (aCons (dVar 0) aNil)) (dC (.int 30))))) (dRaise "BadTune") dNext) (dIfS (bNot (bTru (dCall f_all_within (aCons (dVar 0) (aCons (dC (.int 0)) (aCons (dC (.int 80)) aNil)))))) (dRaise "BadTune") dNext))
def N_check_tune : List Str := ["tune"]
theorem sc_check_tune : FnScope ["tune"] ["tune"] (defScope s_check_tune) := ⟨rfl, rfl, rfl, by decide +kernel, rfl, by decide +kernel, by decide +kernel⟩
theorem pure_check_tune : ∀ ds R RX, f_check_tune ds R RX → W_check_tune { nx := fun _ => R .none, rt := R, ex := RX } (startD N_check_tune ds) := by
  rintro ds R RX ⟨ns, rfl, h, hx⟩
  simp [W_check_tune, N_check_tune]
  by_cases l1 : 1 ≤ (ns.length : Int)
  · by_cases l2 : (ns.length : Int) ≤ 30
    · simp [l1, l2, f_all_within]
      refine .inr (.inr ⟨_, ns, 0, 80, ⟨rfl, rfl, rfl⟩, by simp, ?_⟩)
      by_cases z : allIn 0 80 ns = true
      · simp [z]
        exact h ⟨by omega, by omega, fun x hx => by simpa using List.all_eq_true.mp z x hx⟩
      · have no : ¬ OkTune ns := fun o => z (allIn_ok o.n)
        have z : allIn 0 80 ns = false := by simpa using z
        simp [z]
        exact hx no
    · simp [l1, l2]
      exact .inr ⟨by omega, hx fun o => l2 (by have := o.l2; omega)⟩
  · simp [l1]
    exact ⟨by omega, hx fun o => l1 (by have := o.l1; omega)⟩
section
variable {P : Program} {w : World} {g : Glb} {mg : Str → Option Value} {base : Heap}
theorem ok_check_tune {f : Addr} {fd : FuncData} (F : FunP g.K "check_tune" s_check_tune f fd) (mgf : mg "check_tune" = some (.ref f)) (T : Txt mg) (C_all_within : C8.Cal P w g.K mg base 1 "all_within" (spD g f_all_within) []) (X_BadTune : ClsX g.K mg g.cls "BadTune") : CalX P w g.K mg base 2 "check_tune" (spX g f_check_tune) :=
  calX (N := ["tune"]) (ps := ["tune"]) (k := 1) (wb := W_check_tune) F mgf (F.bindsN fun _ _ _ _ _ _ us hl => match us, hl with | [_], _ => rfl) sc_check_tune len_check_tune (fun cdv A outer s H E r a ns hr tk =>
    (pssd_cons (ps_w (ps_if (pt_w (pt_not (pt_w (pt_chain op_le op_le (pe_w pe_int (xd_c fun _ => .int)) (pe_w (pe_callB call_len_seq (by rfl) T.m_len PySem.boot_len (pa_w (pa_cons (pe_w (pv 0) xd_var) (pa_w pa_nil xa_nil)) xa_cons)) (xd_cb cd_len)) (pe_w (pe_gint (by rfl) T.c_LONGEST_TUNE) (xd_c fun _ => .int))) (xt_chain od_le od_le))) xt_not) (pssd_one (ps_raiseD (c := ⟨g, r, a, ns⟩) rfl tk X_BadTune (by rfl))) pssd_nil) xs_if) (pssd_one (ps_w (ps_if (pt_w (pt_not (pt_w (pt_truth (pe_w (C8.pe_c C_all_within hr (by decide) (by rfl) (pa_w (pa_cons (pe_w (pv 0) xd_var) (pa_w (pa_cons (pe_w pe_int (xd_c fun _ => .int)) (pa_w (pa_cons (pe_w (pe_gint (by rfl) T.c_HIGHEST_NOTE) (xd_c fun _ => .int)) (pa_w pa_nil xa_nil)) xa_cons)) xa_cons)) xa_cons)) xd_call) (by intro _; rfl)) xt_tru)) xt_not) (pssd_one (ps_raiseD (c := ⟨g, r, a, ns⟩) rfl tk X_BadTune (by rfl))) pssd_nil) xs_if)))) pure_check_tune
end

/-! ### _check_retunable, which may raise -/
def f_check_retunable : Fx := fun ds R RX => ∃ t f c, ds = [neckD t f c] ∧ t.length ≤ 1000 ∧ (OkNeck t f c → t.length ≤ 4 → R .none) ∧ (¬ (OkNeck t f c ∧ t.length ≤ 4) → RX ("BadNeck", none))
theorem len_check_retunable : ∀ ds R RX, f_check_retunable ds R RX → ds.length = 1 := by
  rintro ds R RX ⟨t, f, c, rfl, _⟩; rfl
@[simp] theorem check_retunable_iff {t : List Int} {f c : Int} {R : D → Prop} {RX : Exc → Prop} : f_check_retunable [neckD t f c] R RX ↔ t.length ≤ 1000 ∧ (OkNeck t f c → t.length ≤ 4 → R .none) ∧ (¬ (OkNeck t f c ∧ t.length ≤ 4) → RX ("BadNeck", none)) := by
  constructor
  · rintro ⟨t', f', c', e, h⟩; simp at e; obtain ⟨rfl, rfl, rfl⟩ := e; exact h
  · intro h; exact ⟨_, _, _, rfl, h⟩
@[simp] theorem check_neck_ix {t : List Int} {f c : Int} {R : D → Prop} {RX : Exc → Prop} : f_check_neck [neckD t f c] R RX ↔ t.length ≤ 1000 ∧ (OkNeck t f c → R .none) ∧ (¬ OkNeck t f c → RX ("BadNeck", none)) := by
  constructor
  · rintro ⟨t', f', c', e, h⟩; simp at e; obtain ⟨rfl, rfl, rfl⟩ := e; exact h
  · intro h; exact ⟨_, _, _, rfl, h⟩
def W_check_retunable : WS := (dSeq (dDropX (dCallX f_check_neck (aCons (dVar 0) aNil))) (dSeq (dUnp [1, 2, 2] (dVar 0)) (dIfS (bB (dOp rdGt (dCall rdLen (aCons (dVar 1) aNil)) (dC (.int 4)))) (dRaise "BadNeck") dNext)))
def N_check_retunable : List Str := ["neck", "tuning", "_"]
theorem sc_check_retunable : FnScope ["neck", "tuning", "_"] ["neck"] (defScope s_check_retunable) := ⟨rfl, rfl, rfl, by decide +kernel, rfl, by decide +kernel, by decide +kernel⟩
theorem pure_check_retunable : ∀ ds R RX, f_check_retunable ds R RX → W_check_retunable { nx := fun _ => R .none, rt := R, ex := RX } (startD N_check_retunable ds) := by
  rintro ds R RX ⟨t, f, c, rfl, hl, h, hx⟩
  simp [W_check_retunable, N_check_retunable]
  refine ⟨hl, fun ok => ?_, fun no => hx fun z => no z.1⟩
  simp [neckD]
  by_cases q : t.length ≤ 4
  · have q' : ¬ (4 : Int) < t.length := by omega
    simp [q']
    exact ⟨by omega, h ok q⟩
  · have q' : (4 : Int) < t.length := by omega
    simp [q']
    exact .inr (hx fun z => q z.2)
section
variable {P : Program} {w : World} {g : Glb} {mg : Str → Option Value} {base : Heap}
theorem ok_check_retunable {f : Addr} {fd : FuncData} (F : FunP g.K "_check_retunable" s_check_retunable f fd) (mgf : mg "_check_retunable" = some (.ref f)) (T : Txt mg) (C_check_neck : CalX P w g.K mg base 2 "check_neck" (spX g f_check_neck)) (X_BadNeck : ClsX g.K mg g.cls "BadNeck") : CalX P w g.K mg base 3 "_check_retunable" (spX g f_check_retunable) :=
  calX (N := ["neck", "tuning", "_"]) (ps := ["neck"]) (k := 2) (wb := W_check_retunable) F mgf (F.bindsN fun _ _ _ _ _ _ us hl => match us, hl with | [_], _ => rfl) sc_check_retunable len_check_retunable (fun cdv A outer s H E r a ns hr tk =>
    (pssd_cons (ps_w (ps_expr (pe_w (pe_cx C_check_neck hr (by decide) (by rfl) tk (pa_w (pa_cons (pe_w (pv 0) xd_var) (pa_w pa_nil xa_nil)) xa_cons)) xdx_call)) xs_dropX) (pssd_cons (ps_w (ps_asg (pe_w (pv 0) xd_var) (pg_tup rfl (pgs_cons (pg_name (i := 1) sc_check_retunable.nd rfl (.inl rfl)) (pgs_cons (pg_name (i := 2) sc_check_retunable.nd rfl (.inl rfl)) (pgs_cons (pg_name (i := 2) sc_check_retunable.nd rfl (.inl rfl)) pgs_nil))))) (xs_unp (is := [1, 2, 2]) rfl)) (pssd_one (ps_w (ps_if (pt_w (pt_cmpR op_gt (pe_w (pe_callB call_len_seq (by rfl) T.m_len PySem.boot_len (pa_w (pa_cons (pe_w (pv 1) xd_var) (pa_w pa_nil xa_nil)) xa_cons)) (xd_cb cd_len)) (pe_w (pe_gint (by rfl) T.c_MOST_RETUNED) (xd_c fun _ => .int)) (nomark _)) (xt_cmp od_gt)) (pssd_one (ps_raiseD (c := ⟨g, r, a, ns⟩) rfl tk X_BadNeck (by rfl))) pssd_nil) xs_if))))) pure_check_retunable
end

/-! ### ways, refused -/
def f_ways : Fx := fun ds R RX => ∃ t f c l h, ds = [neckD t f c, intsD l, intsD h] ∧ t.length ≤ 1000 ∧ (¬ OkNeck t f c → RX ("BadNeck", none)) ∧ (OkNeck t f c → ¬ OkChord l → RX ("BadChord", some 0)) ∧ (OkNeck t f c → OkChord l → ¬ OkHand h → RX ("BadHand", none)) ∧ ¬ (OkNeck t f c ∧ OkChord l ∧ OkHand h)
theorem len_ways : ∀ ds R RX, f_ways ds R RX → ds.length = 3 := by
  rintro ds R RX ⟨t, f, c, l, h, rfl, _⟩; rfl
@[simp] theorem ways_iff {t l h : List Int} {f c : Int} {R : D → Prop} {RX : Exc → Prop} : f_ways [neckD t f c, intsD l, intsD h] R RX ↔ t.length ≤ 1000 ∧ (¬ OkNeck t f c → RX ("BadNeck", none)) ∧ (OkNeck t f c → ¬ OkChord l → RX ("BadChord", some 0)) ∧ (OkNeck t f c → OkChord l → ¬ OkHand h → RX ("BadHand", none)) ∧ ¬ (OkNeck t f c ∧ OkChord l ∧ OkHand h) := by
  constructor
  · rintro ⟨t', f', c', l', h', e, k⟩; simp at e; obtain ⟨⟨rfl, rfl, rfl⟩, rfl, rfl⟩ := e; exact k
  · intro k; exact ⟨_, _, _, _, _, rfl, k⟩
def W_ways : WS := (dSeq (dDropX (dCallX f_check_neck (aCons (dVar 0) aNil))) (dSeq (dDropX (dCallXI f_check_chord 0 (aCons (dVar 1) aNil))) (dSeq (dDropX (dCallX f_check_hand (aCons (dVar 2) aNil))) dNever)))
def N_ways : List Str := ["neck", "chord", "hand", "tuning", "_", "found", "strings", "shape"]
theorem sc_ways : FnScope ["neck", "chord", "hand", "tuning", "_", "found", "strings", "shape"] ["neck", "chord", "hand"] (defScope s_ways) := ⟨rfl, rfl, rfl, by decide +kernel, rfl, by decide +kernel, by decide +kernel⟩
theorem pure_ways : ∀ ds R RX, f_ways ds R RX → W_ways { nx := fun _ => R .none, rt := R, ex := RX } (startD N_ways ds) := by
  rintro ds R RX ⟨t, f, c, l, h, rfl, hl, h1, h2, h3, h4⟩
  simp [W_ways, N_ways]
  exact ⟨hl, fun ok => ⟨fun oc => ⟨fun oh => h4 ⟨ok, oc, oh⟩, fun no => h3 ok oc no⟩, fun no => h2 ok no⟩, h1⟩
section
variable {P : Program} {w : World} {g : Glb} {mg : Str → Option Value} {base : Heap}
theorem ok_ways {f : Addr} {fd : FuncData} (F : FunP g.K "ways" s_ways f fd) (mgf : mg "ways" = some (.ref f)) (T : Txt mg) (C_check_neck : CalX P w g.K mg base 2 "check_neck" (spX g f_check_neck)) (C_check_chord : CalXd P w g.K mg base 3 "check_chord" (spX g f_check_chord) [V.int 0]) (C_check_hand : CalX P w g.K mg base 2 "check_hand" (spX g f_check_hand)) : CalX P w g.K mg base 5 "ways" (spX g f_ways) :=
  calX (N := ["neck", "chord", "hand", "tuning", "_", "found", "strings", "shape"]) (ps := ["neck", "chord", "hand"]) (k := 4) (wb := W_ways) F mgf (F.bindsN fun _ _ _ _ _ _ us hl => match us, hl with | [_, _, _], _ => rfl) sc_ways len_ways (fun cdv A outer s H E r a ns hr tk =>
    (pssd_cons (ps_w (ps_expr (pe_w (pe_cx C_check_neck hr (by decide) (by rfl) tk (pa_w (pa_cons (pe_w (pv 0) xd_var) (pa_w pa_nil xa_nil)) xa_cons)) xdx_call)) xs_dropX) (pssd_cons (ps_w (ps_expr (pe_w (pe_cxd C_check_chord hr (by decide) (by rfl) tk (pa_w (pa_cons (pe_w (pv 1) xd_var) (pa_w pa_nil xa_nil)) xa_cons)) xdx_callI)) xs_dropX) (pssd_cons (ps_w (ps_expr (pe_w (pe_cx C_check_hand hr (by decide) (by rfl) tk (pa_w (pa_cons (pe_w (pv 2) xd_var) (pa_w pa_nil xa_nil)) xa_cons)) xdx_call)) xs_dropX) (pss_w pss_never xs_cut))))) pure_ways
end

/-! ### retuned, refused -/
def f_retuned : Fx := fun ds R RX => ∃ t f c ls h, ds = [neckD t f c, .list (ls.map intsD), intsD h] ∧ t.length ≤ 1000 ∧ ls.length ≤ 1000 ∧ (¬ (OkNeck t f c ∧ t.length ≤ 4) → RX ("BadNeck", none)) ∧
  (OkNeck t f c → t.length ≤ 4 → (6 < ls.length → RX ("BadChord", some 6)) ∧ (ls.length ≤ 6 → ∀ done l r, ls = done ++ l :: r → (∀ m ∈ done, OkChord m) → ¬ OkChord l → RX ("BadChord", some (done.length : Int))) ∧ (ls.length ≤ 6 → (∀ l ∈ ls, OkChord l) → ¬ OkHand h ∧ RX ("BadHand", none)))
theorem len_retuned : ∀ ds R RX, f_retuned ds R RX → ds.length = 3 := by
  rintro ds R RX ⟨t, f, c, l, h, rfl, _⟩; rfl
@[simp] theorem retuned_iff {t h : List Int} {ls : List (List Int)} {f c : Int} {R : D → Prop} {RX : Exc → Prop} : f_retuned [neckD t f c, .list (ls.map intsD), intsD h] R RX ↔ t.length ≤ 1000 ∧ ls.length ≤ 1000 ∧ (¬ (OkNeck t f c ∧ t.length ≤ 4) → RX ("BadNeck", none)) ∧
    (OkNeck t f c → t.length ≤ 4 → (6 < ls.length → RX ("BadChord", some 6)) ∧ (ls.length ≤ 6 → ∀ done l r, ls = done ++ l :: r → (∀ m ∈ done, OkChord m) → ¬ OkChord l → RX ("BadChord", some (done.length : Int))) ∧ (ls.length ≤ 6 → (∀ l ∈ ls, OkChord l) → ¬ OkHand h ∧ RX ("BadHand", none))) := by
  constructor
  · rintro ⟨t', f', c', l', h', e, k⟩; simp at e; obtain ⟨⟨rfl, rfl, rfl⟩, rfl, rfl⟩ := e; exact k
  · intro k; exact ⟨_, _, _, _, _, rfl, k⟩
def W_retuned : WS := (dSeq (dDropX (dCallX f_check_retunable (aCons (dVar 0) aNil))) (dSeq (dDropX (dCallX f_check_chords (aCons (dVar 1) aNil))) (dSeq (dDropX (dCallX f_check_hand (aCons (dVar 2) aNil))) dNever)))
def N_retuned : List Str := ["neck", "chords", "hand", "reasons", "retuning", "number"]
theorem sc_retuned : FnScope ["neck", "chords", "hand", "reasons", "retuning", "number"] ["neck", "chords", "hand"] (defScope s_retuned) := ⟨rfl, rfl, rfl, by decide +kernel, rfl, by decide +kernel, by decide +kernel⟩
theorem pure_retuned : ∀ ds R RX, f_retuned ds R RX → W_retuned { nx := fun _ => R .none, rt := R, ex := RX } (startD N_retuned ds) := by
  rintro ds R RX ⟨t, f, c, ls, h, rfl, hl, hm, h1, h2⟩
  simp [W_retuned, N_retuned]
  refine ⟨hl, fun ok q => ?_, fun no => h1 fun z => by have := no z.1; omega⟩
  obtain ⟨a1, a2, a3⟩ := h2 ok q
  refine ⟨ls, rfl, hm, a1, fun q6 all => ?_, a2⟩
  simp
  exact ⟨fun oh => (a3 q6 all).1 oh, fun _ => (a3 q6 all).2⟩
section
variable {P : Program} {w : World} {g : Glb} {mg : Str → Option Value} {base : Heap}
theorem ok_retuned {f : Addr} {fd : FuncData} (F : FunP g.K "retuned" s_retuned f fd) (mgf : mg "retuned" = some (.ref f)) (T : Txt mg) (C_check_retunable : CalX P w g.K mg base 3 "_check_retunable" (spX g f_check_retunable)) (C_check_chords : CalX P w g.K mg base 4 "check_chords" (spX g f_check_chords)) (C_check_hand : CalX P w g.K mg base 2 "check_hand" (spX g f_check_hand)) : CalX P w g.K mg base 5 "retuned" (spX g f_retuned) :=
  calX (N := ["neck", "chords", "hand", "reasons", "retuning", "number"]) (ps := ["neck", "chords", "hand"]) (k := 4) (wb := W_retuned) F mgf (F.bindsN fun _ _ _ _ _ _ us hl => match us, hl with | [_, _, _], _ => rfl) sc_retuned len_retuned (fun cdv A outer s H E r a ns hr tk =>
    (pssd_cons (ps_w (ps_expr (pe_w (pe_cx C_check_retunable hr (by decide) (by rfl) tk (pa_w (pa_cons (pe_w (pv 0) xd_var) (pa_w pa_nil xa_nil)) xa_cons)) xdx_call)) xs_dropX) (pssd_cons (ps_w (ps_expr (pe_w (pe_cx C_check_chords hr (by decide) (by rfl) tk (pa_w (pa_cons (pe_w (pv 1) xd_var) (pa_w pa_nil xa_nil)) xa_cons)) xdx_call)) xs_dropX) (pssd_cons (ps_w (ps_expr (pe_w (pe_cx C_check_hand hr (by decide) (by rfl) tk (pa_w (pa_cons (pe_w (pv 2) xd_var) (pa_w pa_nil xa_nil)) xa_cons)) xdx_call)) xs_dropX) (pss_w pss_never xs_cut))))) pure_retuned
end

/-! ### table, refused -/
def f_table : Fx := fun ds R RX => ∃ t f c ns r, ds = [neckD t f c, .list (ns.map .int), .int r] ∧ t.length ≤ 1000 ∧ (¬ OkNeck t f c → RX ("BadNeck", none)) ∧ (OkNeck t f c → ¬ OkTune ns → RX ("BadTune", none)) ∧ (OkNeck t f c → OkTune ns → ¬ (0 ≤ r ∧ r ≤ 6) ∧ RX ("BadHand", none))
theorem len_table : ∀ ds R RX, f_table ds R RX → ds.length = 3 := by
  rintro ds R RX ⟨t, f, c, l, h, rfl, _⟩; rfl
@[simp] theorem table_iff {t ns : List Int} {f c r : Int} {R : D → Prop} {RX : Exc → Prop} : f_table [neckD t f c, .list (ns.map .int), .int r] R RX ↔ t.length ≤ 1000 ∧ (¬ OkNeck t f c → RX ("BadNeck", none)) ∧ (OkNeck t f c → ¬ OkTune ns → RX ("BadTune", none)) ∧ (OkNeck t f c → OkTune ns → ¬ (0 ≤ r ∧ r ≤ 6) ∧ RX ("BadHand", none)) := by
  constructor
  · rintro ⟨t', f', c', l', h', e, k⟩; simp at e; obtain ⟨⟨rfl, rfl, rfl⟩, rfl, rfl⟩ := e; exact k
  · intro k; exact ⟨_, _, _, _, _, rfl, k⟩
def W_table : WS := (dSeq (dDropX (dCallX f_check_neck (aCons (dVar 0) aNil))) (dSeq (dDropX (dCallX f_check_tune (aCons (dVar 1) aNil))) (dSeq (dDropX (dCallX f_check_reach (aCons (dVar 2) aNil))) dNever)))
def N_table : List Str := ["neck", "tune", "reach", "row", "rows", "note"]
theorem sc_table : FnScope ["neck", "tune", "reach", "row", "rows", "note"] ["neck", "tune", "reach"] (defScope s_table) := ⟨rfl, rfl, rfl, by decide +kernel, rfl, by decide +kernel, by decide +kernel⟩
theorem pure_table : ∀ ds R RX, f_table ds R RX → W_table { nx := fun _ => R .none, rt := R, ex := RX } (startD N_table ds) := by
  rintro ds R RX ⟨t, f, c, ns, r, rfl, hl, h1, h2, h3⟩
  simp [W_table, N_table]
  refine ⟨hl, fun ok => ⟨fun ot => ⟨fun a => by have := (h3 ok ot).1; omega, fun _ => (h3 ok ot).2⟩, h2 ok⟩, h1⟩
section
variable {P : Program} {w : World} {g : Glb} {mg : Str → Option Value} {base : Heap}
theorem ok_table {f : Addr} {fd : FuncData} (F : FunP g.K "table" s_table f fd) (mgf : mg "table" = some (.ref f)) (T : Txt mg) (C_check_neck : CalX P w g.K mg base 2 "check_neck" (spX g f_check_neck)) (C_check_tune : CalX P w g.K mg base 2 "check_tune" (spX g f_check_tune)) (C_check_reach : CalX P w g.K mg base 1 "check_reach" (spX g f_check_reach)) : CalX P w g.K mg base 3 "table" (spX g f_table) :=
  calX (N := ["neck", "tune", "reach", "row", "rows", "note"]) (ps := ["neck", "tune", "reach"]) (k := 2) (wb := W_table) F mgf (F.bindsN fun _ _ _ _ _ _ us hl => match us, hl with | [_, _, _], _ => rfl) sc_table len_table (fun cdv A outer s H E r a ns hr tk =>
    (pssd_cons (ps_w (ps_expr (pe_w (pe_cx C_check_neck hr (by decide) (by rfl) tk (pa_w (pa_cons (pe_w (pv 0) xd_var) (pa_w pa_nil xa_nil)) xa_cons)) xdx_call)) xs_dropX) (pssd_cons (ps_w (ps_expr (pe_w (pe_cx C_check_tune hr (by decide) (by rfl) tk (pa_w (pa_cons (pe_w (pv 1) xd_var) (pa_w pa_nil xa_nil)) xa_cons)) xdx_call)) xs_dropX) (pssd_cons (ps_w (ps_expr (pe_w (pe_cx C_check_reach hr (by decide) (by rfl) tk (pa_w (pa_cons (pe_w (pv 2) xd_var) (pa_w pa_nil xa_nil)) xa_cons)) xdx_call)) xs_dropX) (pss_w pss_never xs_cut))))) pure_table
end

/-! ### played, refused -/
def f_played : Fx := f_table
theorem len_played : ∀ ds R RX, f_played ds R RX → ds.length = 3 := len_table
def W_played : WS := (dSeq (dAsgX 3 (dCallX f_table (aCons (dVar 0) (aCons (dVar 1) (aCons (dVar 2) aNil))))) dNever)
def N_played : List Str := ["neck", "tune", "reach", "rows", "playing", "note", "position", "string", "fret"]
theorem sc_played : FnScope ["neck", "tune", "reach", "rows", "playing", "note", "position", "string", "fret"] ["neck", "tune", "reach"] (defScope s_played) := ⟨rfl, rfl, rfl, by decide +kernel, rfl, by decide +kernel, by decide +kernel⟩
theorem pure_played : ∀ ds R RX, f_played ds R RX → W_played { nx := fun _ => R .none, rt := R, ex := RX } (startD N_played ds) := by
  rintro ds R RX ⟨t, f, c, ns, r, rfl, hl, h1, h2, h3⟩
  simp [W_played, N_played]
  exact ⟨hl, h1, h2, fun a b => ⟨fun c => by have := (h3 a b).1; omega, (h3 a b).2⟩⟩
section
variable {P : Program} {w : World} {g : Glb} {mg : Str → Option Value} {base : Heap}
theorem ok_played {f : Addr} {fd : FuncData} (F : FunP g.K "played" s_played f fd) (mgf : mg "played" = some (.ref f)) (T : Txt mg) (C_table : CalX P w g.K mg base 3 "table" (spX g f_table)) : CalX P w g.K mg base 4 "played" (spX g f_played) :=
  calX (N := ["neck", "tune", "reach", "rows", "playing", "note", "position", "string", "fret"]) (ps := ["neck", "tune", "reach"]) (k := 3) (wb := W_played) F mgf (F.bindsN fun _ _ _ _ _ _ us hl => match us, hl with | [_, _, _], _ => rfl) sc_played len_played (fun cdv A outer s H E r a ns hr tk =>
    (pssd_cons (ps_w (ps_set (i := 3) sc_played.nd rfl (.inl rfl) (pe_w (pe_cx C_table hr (by decide) (by rfl) tk (pa_w (pa_cons (pe_w (pv 0) xd_var) (pa_w (pa_cons (pe_w (pv 1) xd_var) (pa_w (pa_cons (pe_w (pv 2) xd_var) (pa_w pa_nil xa_nil)) xa_cons)) xa_cons)) xa_cons)) xdx_call)) xs_asgX) (pss_w pss_never xs_cut))) pure_played
end

/-! ### what is told of an exception -/
def okX (x : Exc) : Prop := (x.1 ∈ excNames ∧ x.2 = none) ∨ (x.1 = "BadChord" ∧ ∃ k, x.2 = some k)
def tellX (x : Exc) : D := match x.2 with
  | none => .str (if x.1 = "BadNeck" then "neck" else if x.1 = "BadTune" then "tune" else "hand")
  | some k => .tuple [.str "chord", .int k]
@[simp] theorem ok_neck : okX ("BadNeck", none) := .inl ⟨by decide +kernel, rfl⟩
@[simp] theorem ok_tune : okX ("BadTune", none) := .inl ⟨by decide +kernel, rfl⟩
@[simp] theorem ok_hand : okX ("BadHand", none) := .inl ⟨by decide +kernel, rfl⟩
@[simp] theorem ok_chord {k : Int} : okX ("BadChord", some k) := .inr ⟨rfl, k, rfl⟩
@[simp] theorem tell_neck : tellX ("BadNeck", none) = .str "neck" := by
  show PyData.str _ = _
  rw [if_pos rfl]
@[simp] theorem tell_tune : tellX ("BadTune", none) = .str "tune" := by
  show PyData.str _ = _
  rw [if_neg (by decide +kernel), if_pos rfl]
@[simp] theorem tell_hand : tellX ("BadHand", none) = .str "hand" := by
  show PyData.str _ = _
  rw [if_neg (by decide +kernel), if_neg (by decide +kernel)]
@[simp] theorem tell_chord {k : Int} : tellX ("BadChord", some k) = .tuple [.str "chord", .int k] := rfl

/-! ### _law_taken: the row is read and written, so the layer's own words -/
section
variable {P : Program} {w : World} {g : Glb} {mg : Str → Option Value} {base : Heap}
theorem sc_law_taken : FnScope ["_law_row", "_law_many", "_law_found", "_law_cell"] ["_law_row", "_law_many"] (defScope s_law_taken) := ⟨rfl, rfl, rfl, by decide +kernel, rfl, by decide +kernel, by decide +kernel⟩
theorem ok_law_taken {f : Addr} {fd : FuncData} (Fn : FunP g.K "_law_taken" s_law_taken f fd) (mgf : mg "_law_taken" = some (.ref f)) (T : Txt mg) : C8.Cal P w g.K mg base 1 "_law_taken" (spD g f_law_taken) [] := by
  refine ⟨f, fd, ["_law_row", "_law_many"], [], Fn.ok (k := 0) sc_law_taken (fun vs H Q E h => ?_) (fun cdv A outer s H vs Q E hr h => ?_), mgf, Fn.kp, Fn.bindsN fun _ _ _ _ _ _ us hl => match us, hl with | [_, _], _ => rfl, .nil⟩
  · obtain ⟨c, F, ds, R, _, _, rv, h, _⟩ := h
    rw [rv.length]; exact len_law_taken ds R h
  · obtain ⟨c, F, ds, R, hg, W, rv, ⟨m, rfl, hm, hm2, hR⟩, P'⟩ := h
    subst hg
    obtain ⟨v1, v2, rfl, q1, q2⟩ := reps2 rv
    have e1 := q1.row_inv
    have e2 := q2.int_inv
    subst e1 e2
    obtain ⟨i, x, k, hrow, hi, hx, hx2, hsq⟩ := W.row
    -- what is asked of the end
    have fin : ∀ (i' x' k' v : Int) (H' : Hp), 0 ≤ i' → 0 ≤ x' → x' < 2147483647 → H' c.r = some (.lst [.ref c.a, .int i', .int x', .int k']) → (∀ b, b ≠ c.r → H' b = H b) → 0 ≤ v → v < m → Q (.int v) H' := fun i' x' k' v H' a1 a2 a3 a4 a5 a6 a7 =>
      P' _ _ H' F (hR v a6 a7) (Ext.rowed W a1 a2 a3 a4 a5) .int
    refine ⟨_, PSs.nox (pss_cons (ps_if (pt_cmpR op_gt (pe_ix ix_list (pv 0) pe_int (fun _ _ => rfl)) pe_int (nomark _))
        (pss_cons (ps_set (i := 2) sc_law_taken.nd rfl (.inl rfl) (pe_op op_modN (pe_ix ix_list (pv 0) pe_int (fun _ _ => rfl)) (pv 1)))
        (pss_cons (ps_asg (pe_op op_fdivN (pe_ix ix_list (pv 0) pe_int (fun _ _ => rfl)) (pv 1)) (pg_sub (pv 0) pe_int set_list))
        (pss_one (ps_ret (pv 2))))) pss_nil)
      (pss_cons (ps_asg (pe_op op_add (pe_ix ix_list (pv 0) pe_int (fun _ _ => rfl)) pe_int) (pg_sub (pv 0) pe_int set_list))
      (pss_cons (ps_if (pt_cmpR op_gt (pe_ix ix_list (pv 0) pe_int (fun _ _ => rfl)) (pe_callB call_len_seq (by rfl) T.m_len PySem.boot_len (pa_cons (pe_ix ix_list (pv 0) pe_int (fun _ _ => rfl)) pa_nil)) (nomark _))
        (pss_cons (ps_asg (pe_op op_modN (pe_op op_add (pe_op op_mul (pe_ix ix_list (pv 0) pe_int (fun _ _ => rfl)) pe_int) pe_int) pe_int) (pg_sub (pv 0) pe_int set_list))
        (pss_one (ps_ret (pe_op op_modN (pe_op op_fdivN (pe_ix ix_list (pv 0) pe_int (fun _ _ => rfl)) pe_int) (pv 1))))) pss_nil)
      (pss_cons (ps_set (i := 3) sc_law_taken.nd rfl (.inl rfl) (pe_ix ix_list (pe_ix ix_list (pv 0) pe_int (fun _ _ => rfl)) (pe_op op_sub (pe_ix ix_list (pv 0) pe_int (fun _ _ => rfl)) pe_int) (fun _ _ => rfl)))
      (pss_cons (ps_asg (pe_op op_modN (pe_op op_add (pe_op op_add (pe_op op_mul (pe_ix ix_list (pv 0) pe_int (fun _ _ => rfl)) pe_int) (pv 3)) pe_int) pe_int) (pg_sub (pv 0) pe_int set_list))
      (pss_cons (ps_if (pt_cmpR op_ge (pv 3) (pe_op op_pow pe_int pe_int) (nomark _))
        (pss_one (ps_asg (pe_op op_fdivN (pv 3) (pv 1)) (pg_sub (pv 0) pe_int set_list))) pss_nil)
      (pss_one (ps_ret (pe_op op_modN (pv 3) (pv 1)))))))))), ?_⟩
    have hz : m ≠ 0 := by omega
    have hd : m ≠ 0 ∧ m.natAbs < 1073741824 := ⟨hz, by omega⟩
    -- if row[3] > 0
    refine ⟨_, rfl, c.r, _, 3, .int k, rfl, rfl, SqL.of hrow, rfl, _, _, rfl, rfl, _, rfl, ?_⟩
    refine ite2 (fun _ => ?_) (fun _ => ?_)
    · refine ⟨_, rfl, c.r, _, 3, .int k, rfl, rfl, SqL.of hrow, rfl, _, rfl, _, _, rfl, rfl, hz, ?_⟩
      refine ⟨_, rfl, c.r, _, 3, .int k, rfl, rfl, SqL.of hrow, rfl, _, rfl, _, _, rfl, rfl, hd, _, rfl, c.r, _, 3, 3, rfl, rfl, hrow, rfl, _, rfl, ?_⟩
      exact fin i x _ _ _ hi hx hx2 upd_same (fun b hb => upd_ne hb) (fmod_lt hm).1 (fmod_lt hm).2
    · -- row[1] = row[1] + 1
      refine ⟨_, rfl, c.r, _, 1, .int i, rfl, rfl, SqL.of hrow, rfl, _, _, rfl, rfl, _, rfl, c.r, _, 1, 1, rfl, rfl, hrow, rfl, ?_⟩
      have row1 : upd H c.r (.lst [.ref c.a, .int (i + 1), .int x, .int k]) c.r = some (.lst [.ref c.a, .int (i + 1), .int x, .int k]) := upd_same
      have sq1 : SqL c.g.K (upd H c.r (.lst [.ref c.a, .int (i + 1), .int x, .int k])) c.a (c.ns.map V.int) := (Ext.rowed (k := k) W (show 0 ≤ i + 1 by omega) hx hx2 row1 (fun b hb => upd_ne hb)).ok.row.sq
      refine ⟨_, rfl, c.r, _, 1, .int (i + 1), rfl, rfl, SqL.of row1, rfl, _, rfl, c.r, _, 0, .ref c.a, rfl, rfl, SqL.of row1, rfl, c.a, _, rfl, .inl sq1, _, _, rfl, rfl, _, rfl, ?_⟩
      refine ite2 (fun _ => ?_) (fun hle => ?_)
      · refine ⟨_, rfl, c.r, _, 2, .int x, rfl, rfl, SqL.of row1, rfl, _, _, rfl, rfl, .inl ⟨by omega, by omega⟩, _, _, rfl, rfl, _, _, rfl, rfl, (show (2147483647 : Int) ≠ 0 by decide), _, rfl, c.r, _, 2, 2, rfl, rfl, row1, rfl, ?_⟩
        refine ⟨_, rfl, c.r, _, 2, _, rfl, rfl, SqL.of upd_same, rfl, _, _, rfl, rfl, ⟨by decide, by decide⟩, _, rfl, _, _, rfl, rfl, hz, ?_⟩
        have b := fmod_lt (a := x * 48271 + 11) (show (0 : Int) < 2147483647 by decide)
        exact fin (i + 1) _ k _ _ (by omega) b.1 b.2 upd_same (fun b hb => by rw [upd_ne hb, upd_ne hb]) (fmod_lt hm).1 (fmod_lt hm).2
      · -- the cell
        rw [List.length_map] at hle
        have hle2 : i < c.ns.length := by
          have := of_decide_eq_false (Bool.eq_false_iff.mpr hle)
          omega
        obtain ⟨n, hn⟩ : ∃ n : Nat, i = n := ⟨i.toNat, by omega⟩
        subst hn
        have hn3 : n < c.ns.length := by omega
        have at1 : atI (c.ns.map V.int) ((n : Int) + 1 - 1) = some (.int c.ns[n]) := by
          have e : ((n : Int) + 1 - 1) = (n : Int) := by omega
          rw [e]
          exact atI_nat (by rw [List.getElem?_map, List.getElem?_eq_getElem hn3]; rfl)
        refine ⟨_, rfl, c.r, _, 0, .ref c.a, rfl, rfl, SqL.of row1, rfl, _, rfl, c.r, _, 1, .int ((n : Int) + 1), rfl, rfl, SqL.of row1, rfl, _, _, rfl, rfl, c.a, _, _, _, rfl, rfl, sq1, at1, ?_⟩
        refine ⟨_, rfl, c.r, _, 2, .int x, rfl, rfl, SqL.of row1, rfl, _, _, rfl, rfl, .inl ⟨by omega, by omega⟩, _, rfl, _, _, rfl, rfl, _, _, rfl, rfl, _, _, rfl, rfl, (show (2147483647 : Int) ≠ 0 by decide), _, rfl, c.r, _, 2, 2, rfl, rfl, row1, rfl, ?_⟩
        have b := fmod_lt (a := x * 48271 + c.ns[n] + 11) (show (0 : Int) < 2147483647 by decide)
        refine ⟨_, rfl, _, _, rfl, rfl, ⟨by decide, by decide, by decide⟩, _, _, rfl, rfl, _, rfl, ?_⟩
        refine ite2 (fun _ => ?_) (fun _ => ?_)
        · refine ⟨_, rfl, _, rfl, _, _, rfl, rfl, hd, _, rfl, c.r, _, 3, 3, rfl, rfl, upd_same, rfl, ?_⟩
          refine ⟨_, rfl, _, rfl, _, _, rfl, rfl, hz, ?_⟩
          exact fin (n + 1) _ _ _ _ (by omega) b.1 b.2 upd_same (fun b hb => by rw [upd_ne hb, upd_ne hb, upd_ne hb]) (fmod_lt hm).1 (fmod_lt hm).2
        · refine ⟨_, rfl, _, rfl, _, _, rfl, rfl, hz, ?_⟩
          exact fin (n + 1) _ k _ _ (by omega) b.1 b.2 upd_same (fun b hb => by rw [upd_ne hb, upd_ne hb]) (fmod_lt hm).1 (fmod_lt hm).2
end

/-! ### _law_alike, by the depth of what is compared: of one and the same datum it is true -/
/-- data of this depth at most, of no great lists -/
inductive Al : Nat → D → Prop
  | non {n : Nat} : Al n .none
  | bool {n : Nat} (b : Bool) : Al n (.bool b)
  | int {n : Nat} (i : Int) : Al n (.int i)
  | str {n : Nat} (x : Str) : SeqAt.shaped (PyData.str x) = true → Al n (.str x)
  | lst {n : Nat} {xs : List D} : xs.length ≤ 1000000 → (∀ x ∈ xs, Al n x) → Al (n + 1) (.list xs)
  | tup {n : Nat} {xs : List D} : xs.length ≤ 1000000 → (∀ x ∈ xs, Al n x) → Al (n + 1) (.tuple xs)
def f_alike : Nat → Fd
  | 0 => fun _ _ => False
  | n + 1 => fun ds R => ∃ d, ds = [d, d] ∧ Al n d ∧ R (.bool true)
theorem len_alike (n : Nat) : ∀ ds R, f_alike n ds R → ds.length = 2 := by
  cases n with
  | zero => intro ds R h; exact h.elim
  | succ n => rintro ds R ⟨d, rfl, _⟩; rfl
def f_law_alike : Fd := f_alike 4
theorem len_law_alike : ∀ ds R, f_law_alike ds R → ds.length = 2 := len_alike 4
@[simp] theorem law_alike_iff {x y : D} {R : D → Prop} : f_law_alike [x, y] R ↔ x = y ∧ Al 3 y ∧ R (.bool true) := by
  constructor
  · rintro ⟨d, e, h⟩; simp at e; obtain ⟨rfl, rfl⟩ := e; exact ⟨rfl, h⟩
  · rintro ⟨rfl, h⟩; exact ⟨_, rfl, h⟩
theorem Al.ints {n : Nat} {l : List Int} (h : l.length ≤ 1000000) : Al (n + 1) (intsD l) := .tup (by simpa using h) fun x hx => by
  obtain ⟨i, _, rfl⟩ := List.mem_map.mp hx
  exact .int i
theorem Al.intsL {n : Nat} {l : List Int} (h : l.length ≤ 1000000) : Al (n + 1) (.list (l.map PyData.int)) := .lst (by simpa using h) fun x hx => by
  obtain ⟨i, _, rfl⟩ := List.mem_map.mp hx
  exact .int i
def W_law_alike (fa : Fd) : WS := (dSeq (dIfS (bOr (bTru (dIsi "tuple" (dVar 1))) (bTru (dIsi "list" (dVar 1)))) (dSeq (dIfS (bOr (bB (dOp rdNe (dIsi "tuple" (dVar 0)) (dIsi "tuple" (dVar 1)))) (bNot (bTru (dIsi2 "tuple" "list" (dVar 0))))) (dRet (dC (.bool false))) dNext) (dSeq (dIfS (bB (dOp rdNe (dCall rdLen (aCons (dVar 0) aNil)) (dCall rdLen (aCons (dVar 1) aNil)))) (dRet (dC (.bool false))) dNext) (dRet (dOp rdEq (dN (dLcW (iR1 (aCons (dCall rdLen (aCons (dVar 1) aNil)) aNil)) (tgN 2) (bNot (bTru (dCall fa (aCons (dOp rdIx (dVar 0) (dVar 2)) (aCons (dOp rdIx (dVar 1) (dVar 2)) aNil))))) (dVar 2) [2])) (dLst aNil))))) dNext) (dSeq (dIfS (bOr (bB (dIsN (dVar 1))) (bB (dIsN (dVar 0)))) (dRet (dAnd (dIsN (dVar 1)) (dIsN (dVar 0)))) dNext) (dSeq (dIfS (bOr (bTru (dIsi "bool" (dVar 1))) (bTru (dIsi "bool" (dVar 0)))) (dRet (dAnd (dIsi "bool" (dVar 1)) (dAnd (dIsi "bool" (dVar 0)) (dOp rdEq (dVar 0) (dVar 1))))) dNext) (dSeq (dIfS (bTru (dIsi "str" (dVar 1))) (dRet (dAnd (dIsi "str" (dVar 0)) (dOp rdEq (dVar 0) (dVar 1)))) dNext) (dRet (dAnd (dIsi "int" (dVar 0)) (dOp rdEq (dVar 0) (dVar 1))))))))
def N_law_alike : List Str := ["_law_found", "_law_due", "_law_k"]
theorem sc_law_alike : FnScope ["_law_found", "_law_due", "_law_k"] ["_law_found", "_law_due"] (defScope s_law_alike) := ⟨rfl, rfl, rfl, by decide +kernel, rfl, by decide +kernel, by decide +kernel⟩
theorem alike_items {n : Nat} (xs : List D) (hx : ∀ x ∈ xs, Al n x) {g : D → (Sg → Prop) → Prop} {wt : WT} {we : W} {R : List D → Prop} (hg : ∀ (i : Nat) x, xs[i]? = some x → ∀ K : Option D → Prop, K none → g (.int (0 + (i : Nat))) fun e' => wt e' fun b => if b = true then we e' fun y => y ≠ .dict [] ∧ K (some y) else K none) (r : R []) :
    lcRun g wt we R (rngD 0 xs.length) [] := by
  refine lcRun_det (fun _ => none) _ _ (fun d hd K k => ?_) ?_
  · unfold rngD at hd
    obtain ⟨i, hi, rfl⟩ := List.mem_map.mp hd
    have hi' := List.mem_range.mp hi
    exact hg i _ (List.getElem?_eq_getElem hi') K k
  · rw [List.nil_append, filterMap_nothing]; exact r
theorem pure_law_alike (n : Nat) : ∀ ds R, f_alike (n + 1) ds R → W_law_alike (f_alike n) { nx := fun _ => R .none, rt := R } (startD ["_law_found", "_law_due", "_law_k"] ds) := by
  rintro ds R ⟨d, rfl, hd, h⟩
  cases hd with
  | non => simp [W_law_alike, tyN, isN, isNone, h]
  | bool b => simp [W_law_alike, tyN, isN, isNone, h]
  | int i => simp [W_law_alike, tyN, isN, isNone, h]
  | str x hs =>
    have e : PyData.eqv (.str x) (.str x) = true := by
      show (x == x) = true
      simp
    simp [W_law_alike, tyN, isN, isNone, h, hs, e]
  | @lst m xs hl hx =>
    simp [W_law_alike, tyN, isN, isNone]
    refine ⟨by omega, by omega, alike_items xs hx (fun i x hi K k => ?_) (by simpa using h)⟩
    have e := atI_z hi
    simp only [Int.zero_add] at e
    simp [e]
    exact ⟨x, rfl, hx x (List.mem_of_getElem? hi), by simpa using k⟩
  | @tup m xs hl hx =>
    simp [W_law_alike, tyN, isN, isNone]
    refine ⟨by omega, by omega, alike_items xs hx (fun i x hi K k => ?_) (by simpa using h)⟩
    have e := atI_z hi
    simp only [Int.zero_add] at e
    simp [e]
    exact ⟨x, rfl, hx x (List.mem_of_getElem? hi), by simpa using k⟩
section
variable {P : Program} {w : World} {g : Glb} {mg : Str → Option Value} {base : Heap}
theorem step_law_alike {f : Addr} {fd : FuncData} {k : Nat} {fa fb : Fd} (F : FunP g.K "_law_alike" s_law_alike f fd) (mgf : mg "_law_alike" = some (.ref f)) (T : Txt mg) (hlen : ∀ ds R, fb ds R → ds.length = 2) (C_law_alike : C8.Cal P w g.K mg base k "_law_alike" (spD g fa) [])
    (pure_ : ∀ ds R, fb ds R → W_law_alike fa { nx := fun _ => R .none, rt := R } (startD ["_law_found", "_law_due", "_law_k"] ds)) : C8.Cal P w g.K mg base (k + 1) "_law_alike" (spD g fb) [] :=
  calD (N := ["_law_found", "_law_due", "_law_k"]) (ps := ["_law_found", "_law_due"]) (k := k) (wb := W_law_alike fa) F mgf (F.bindsN fun _ _ _ _ _ _ us hl => match us, hl with | [_, _], _ => rfl) sc_law_alike hlen (fun cdv A outer s H E r a ns hr =>
    (pssd_cons (ps_w (ps_if (PW.pt (pw_w (pw_or (pt_w (pt_truth (pe_w (pe_callB call_isi (by rfl) T.m_isinstance (by decide +kernel) (pa_cons (pe_w (pv 1) xd_var) (pa_cons (pe_bltn (v := .ty "tuple") (by rfl) T.m_tuple (by decide +kernel) rfl) pa_nil))) (xd_isi (by decide))) (by intro _; rfl)) xt_tru) (pw_or1 (pt_w (pt_truth (pe_w (pe_callB call_isi (by rfl) T.m_isinstance (by decide +kernel) (pa_cons (pe_w (pv 1) xd_var) (pa_cons (pe_bltn (v := .ty "list") (by rfl) T.m_list (by decide +kernel) rfl) pa_nil))) (xd_isi (by decide))) (by intro _; rfl)) xt_tru))) xt_or)) (pssd_cons (ps_w (ps_if (PW.pt (pw_w (pw_or (pt_w (pt_cmpR (op_neD hr.units) (pe_w (pe_callB call_isi (by rfl) T.m_isinstance (by decide +kernel) (pa_cons (pe_w (pv 0) xd_var) (pa_cons (pe_bltn (v := .ty "tuple") (by rfl) T.m_tuple (by decide +kernel) rfl) pa_nil))) (xd_isi (by decide))) (pe_w (pe_callB call_isi (by rfl) T.m_isinstance (by decide +kernel) (pa_cons (pe_w (pv 1) xd_var) (pa_cons (pe_bltn (v := .ty "tuple") (by rfl) T.m_tuple (by decide +kernel) rfl) pa_nil))) (xd_isi (by decide))) (nomark _)) (xt_cmp od_ne)) (pw_or1 (pt_w (pt_not (pt_w (pt_truth (pe_w (pe_callB call_isiT (by rfl) T.m_isinstance (by decide +kernel) (pa_cons (pe_w (pv 0) xd_var) (pa_cons (pe_tup (pa_cons (pe_bltn (v := .ty "tuple") (by rfl) T.m_tuple (by decide +kernel) rfl) (pa_cons (pe_bltn (v := .ty "list") (by rfl) T.m_list (by decide +kernel) rfl) pa_nil))) pa_nil))) (xd_isi2 (by decide) (by decide))) (by intro _; rfl)) xt_tru)) xt_not))) xt_or)) (pssd_one (ps_w (ps_ret (pe_w pe_bl (xd_c fun _ => .bl))) xs_ret)) pssd_nil) xs_if) (pssd_cons (ps_w (ps_if (pt_w (pt_cmpR (op_neD hr.units) (pe_w (pe_callB call_len_seq (by rfl) T.m_len PySem.boot_len (pa_w (pa_cons (pe_w (pv 0) xd_var) (pa_w pa_nil xa_nil)) xa_cons)) (xd_cb cd_len)) (pe_w (pe_callB call_len_seq (by rfl) T.m_len PySem.boot_len (pa_w (pa_cons (pe_w (pv 1) xd_var) (pa_w pa_nil xa_nil)) xa_cons)) (xd_cb cd_len)) (nomark _)) (xt_cmp od_ne)) (pssd_one (ps_w (ps_ret (pe_w pe_bl (xd_c fun _ => .bl))) xs_ret)) pssd_nil) xs_if) (pssd_one (ps_w (ps_ret (pe_w (pe_cmpR (op_eqD hr.units) (pe_w (pe_w (pe_lc (own := [("_law_k", 2)]) (g := gName 2) rfl sc_law_alike.nd (pi_w (pi_range1 (by rfl) T.m_range (pa_w (pa_cons (pe_w (pe_callB call_len_seq (by rfl) T.m_len PySem.boot_len (pa_w (pa_cons (pe_w (pv 1) xd_var) (pa_w pa_nil xa_nil)) xa_cons)) (xd_cb cd_len)) (pa_w pa_nil xa_nil)) xa_cons)) xi_rng1) (blkOk_by (own := [("_law_k", 2)]) (N := ["_law_found", "_law_due", "_law_k"]) (sc := (defScope s_law_alike)) (by decide +kernel)) (fun _ _ _ _ _ => (pg_name (i := 2) sc_law_alike.nd rfl (.inl rfl))) (fun _ _ _ _ _ => (pts_one (pt_w (pt_not (pt_w (pt_truth (pe_w (C8.pe_c C_law_alike hr (Nat.le_refl _) (by rfl) (pa_w (pa_cons (pe_w (pe_ix ix_lt (pe_w (pv 0) xd_var) (pe_w (pv 2) xd_var) (fun _ _ => rfl)) (xd_op od_ixL)) (pa_w (pa_cons (pe_w (pe_ix ix_lt (pe_w (pv 1) xd_var) (pe_w (pv 2) xd_var) (fun _ _ => rfl)) (xd_op od_ixL)) (pa_w pa_nil xa_nil)) xa_cons)) xa_cons)) xd_call) (by intro _; rfl)) xt_tru)) xt_not))) (fun _ _ _ _ _ => (pe_w (pv 2) xd_var))) (xn_lc gd_name stores_name)) xd_N) (pe_w (pe_lst (pa_w pa_nil xa_nil)) xd_lst) (nomark _)) (xd_op od_eq))) xs_ret)))) pssd_nil) xs_if) (pssd_cons (ps_w (ps_if (PW.pt (pw_w (pw_or (pt_w (pt_cmp (pc_isN (pe_w (pv 1) xd_var))) xt_isN) (pw_or1 (pt_w (pt_cmp (pc_isN (pe_w (pv 0) xd_var))) xt_isN))) xt_or)) (pssd_one (ps_w (ps_ret (pe_w (pe_and (pe_w (pe_cmp (pc_isN (pe_w (pv 1) xd_var))) xd_isN) (pe_one (pe_w (pe_cmp (pc_isN (pe_w (pv 0) xd_var))) xd_isN))) xd_and)) xs_ret)) pssd_nil) xs_if) (pssd_cons (ps_w (ps_if (PW.pt (pw_w (pw_or (pt_w (pt_truth (pe_w (pe_callB call_isi (by rfl) T.m_isinstance (by decide +kernel) (pa_cons (pe_w (pv 1) xd_var) (pa_cons (pe_bltn (v := .ty "bool") (by rfl) T.m_bool (by decide +kernel) rfl) pa_nil))) (xd_isi (by decide))) (by intro _; rfl)) xt_tru) (pw_or1 (pt_w (pt_truth (pe_w (pe_callB call_isi (by rfl) T.m_isinstance (by decide +kernel) (pa_cons (pe_w (pv 0) xd_var) (pa_cons (pe_bltn (v := .ty "bool") (by rfl) T.m_bool (by decide +kernel) rfl) pa_nil))) (xd_isi (by decide))) (by intro _; rfl)) xt_tru))) xt_or)) (pssd_one (ps_w (ps_ret (pe_w (pe_and (pe_w (pe_callB call_isi (by rfl) T.m_isinstance (by decide +kernel) (pa_cons (pe_w (pv 1) xd_var) (pa_cons (pe_bltn (v := .ty "bool") (by rfl) T.m_bool (by decide +kernel) rfl) pa_nil))) (xd_isi (by decide))) (pe_w (pe_and (pe_w (pe_callB call_isi (by rfl) T.m_isinstance (by decide +kernel) (pa_cons (pe_w (pv 0) xd_var) (pa_cons (pe_bltn (v := .ty "bool") (by rfl) T.m_bool (by decide +kernel) rfl) pa_nil))) (xd_isi (by decide))) (pe_one (pe_w (pe_cmpR (op_eqD hr.units) (pe_w (pv 0) xd_var) (pe_w (pv 1) xd_var) (nomark _)) (xd_op od_eq)))) xd_and)) xd_and)) xs_ret)) pssd_nil) xs_if) (pssd_cons (ps_w (ps_if (pt_w (pt_truth (pe_w (pe_callB call_isi (by rfl) T.m_isinstance (by decide +kernel) (pa_cons (pe_w (pv 1) xd_var) (pa_cons (pe_bltn (v := .ty "str") (by rfl) T.m_str (by decide +kernel) rfl) pa_nil))) (xd_isi (by decide))) (by intro _; rfl)) xt_tru) (pssd_one (ps_w (ps_ret (pe_w (pe_and (pe_w (pe_callB call_isi (by rfl) T.m_isinstance (by decide +kernel) (pa_cons (pe_w (pv 0) xd_var) (pa_cons (pe_bltn (v := .ty "str") (by rfl) T.m_str (by decide +kernel) rfl) pa_nil))) (xd_isi (by decide))) (pe_one (pe_w (pe_cmpR (op_eqD hr.units) (pe_w (pv 0) xd_var) (pe_w (pv 1) xd_var) (nomark _)) (xd_op od_eq)))) xd_and)) xs_ret)) pssd_nil) xs_if) (pssd_one (ps_w (ps_ret (pe_w (pe_and (pe_w (pe_callB call_isi (by rfl) T.m_isinstance (by decide +kernel) (pa_cons (pe_w (pv 0) xd_var) (pa_cons (pe_bltn (v := .ty "int") (by rfl) T.m_int (by decide +kernel) rfl) pa_nil))) (xd_isi (by decide))) (pe_one (pe_w (pe_cmpR (op_eqD hr.units) (pe_w (pv 0) xd_var) (pe_w (pv 1) xd_var) (nomark _)) (xd_op od_eq)))) xd_and)) xs_ret))))))) pure_
theorem cal_none {x : Str} {st : Stmt} {f : Addr} {fd : FuncData} {ps : List Str} (F : FunP g.K x st f fd) (mgf : mg x = some (.ref f)) (b : Binds g.K fd ps []) : C8.Cal P w g.K mg base 0 x (spD g fun _ _ => False) [] :=
  ⟨f, fd, ps, [], ⟨fun vs H Q E ⟨_, _, _, _, _, _, _, h, _⟩ => h.elim, fun A outer s H args us vs Q E _ _ _ _ ⟨_, _, _, _, _, _, _, h, _⟩ => h.elim⟩, mgf, F.kp, b, .nil⟩
theorem alike_at {f : Addr} {fd : FuncData} (F : FunP g.K "_law_alike" s_law_alike f fd) (mgf : mg "_law_alike" = some (.ref f)) (T : Txt mg) : ∀ n : Nat, C8.Cal P w g.K mg base n "_law_alike" (spD g (f_alike n)) []
  | 0 => cal_none F mgf (F.bindsN (ps := ["_law_found", "_law_due"]) fun _ _ _ _ _ _ us hl => match us, hl with | [_, _], _ => rfl)
  | n + 1 => step_law_alike F mgf T (len_alike (n + 1)) (alike_at F mgf T n) (pure_law_alike n)
theorem ok_law_alike {f : Addr} {fd : FuncData} (F : FunP g.K "_law_alike" s_law_alike f fd) (mgf : mg "_law_alike" = some (.ref f)) (T : Txt mg) : C8.Cal P w g.K mg base 4 "_law_alike" (spD g f_law_alike) [] := alike_at F mgf T 4
end

/-! ### _law_neck -/
def f_law_neck : Fd := fun ds R => ∃ most : Int, ds = [.dict [], .int most] ∧ 1 ≤ most ∧ most ≤ 6 ∧ ∀ t f c, OkNeck t f c → (t.length : Int) ≤ most → R (neckD t f c)
theorem len_law_neck : ∀ ds R, f_law_neck ds R → ds.length = 2 := by
  rintro ds R ⟨m, rfl, _⟩; rfl
@[simp] theorem law_neck_iff {most : Int} {R : D → Prop} : f_law_neck [.dict [], .int most] R ↔ 1 ≤ most ∧ most ≤ 6 ∧ ∀ t f c, OkNeck t f c → (t.length : Int) ≤ most → R (neckD t f c) := by
  constructor
  · rintro ⟨m, e, h⟩; simp at e; rw [e]; exact h
  · intro h; exact ⟨_, rfl, h⟩
def W_law_neck : WS := (dSeq (dAsg 2 (dCall f_law_taken (aCons (dVar 0) (aCons (dC (.int 40)) aNil)))) (dSeq (dOwn 3 (nLst (aCons (dVar 2) aNil))) (dSeq (dFor (iR1 (aCons (dCall f_law_taken (aCons (dVar 0) (aCons (dVar 1) aNil))) aNil)) (tgN 4) (dApp 3 (dCall rdMin2 (aCons (dC (.int 60)) (aCons (dCall rdMax2 (aCons (dC (.int 0)) (aCons (dOp rdAdd (dOwnIx 3 (dNeg (dC (.int 1)))) (dOp rdIx (dLst (aCons (dC (.int 5)) (aCons (dC (.int 4)) (aCons (dC (.int 7)) (aCons (dC (.int 0)) (aCons (dOp rdSub (dCall f_law_taken (aCons (dVar 0) (aCons (dC (.int 14)) aNil))) (dC (.int 5))) aNil)))))) (dCall f_law_taken (aCons (dVar 0) (aCons (dC (.int 5)) aNil))))) aNil))) aNil))))) (dFrz 3 (dSeq (dIfS (bB (dOp rdEq (dCall f_law_taken (aCons (dVar 0) (aCons (dC (.int 6)) aNil))) (dC (.int 5)))) (dAsg 3 (dN (dLcW (iLst (dVar 3)) (tgN 7) (fun _ R => R true) (dCall f_law_taken (aCons (dVar 0) (aCons (dC (.int 61)) aNil))) [7]))) dNext) (dSeq (dAsg 5 (dOp rdIx (dLst (aCons (dC (.int 12)) (aCons (dC (.int 5)) (aCons (dC (.int 7)) (aCons (dCall f_law_taken (aCons (dVar 0) (aCons (dC (.int 21)) aNil))) aNil))))) (dCall f_law_taken (aCons (dVar 0) (aCons (dC (.int 4)) aNil))))) (dSeq (dAsg 6 (dOp rdIx (dLst (aCons (dC (.int 0)) (aCons (dC (.int 0)) (aCons (dCall f_law_taken (aCons (dVar 0) (aCons (dOp rdAdd (dVar 5) (dC (.int 1))) aNil))) aNil)))) (dCall f_law_taken (aCons (dVar 0) (aCons (dC (.int 3)) aNil))))) (dRet (dTup (aCons (dCall rdTuple (aCons (dVar 3) aNil)) (aCons (dVar 5) (aCons (dVar 6) aNil))))))))))))
def N_law_neck : List Str := ["_law_row", "_law_most", "_law_begin", "_law_tuning", "_law_k", "_law_frets", "_law_capo", "_law_note"]
theorem sc_law_neck : FnScope ["_law_row", "_law_most", "_law_begin", "_law_tuning", "_law_k", "_law_frets", "_law_capo", "_law_note"] ["_law_row", "_law_most"] (defScope s_law_neck) := ⟨rfl, rfl, rfl, by decide +kernel, rfl, by decide +kernel, by decide +kernel⟩
theorem neck_end {R : D → Prop} {most : Int} {a b c0 d0 e0 u7 : Sl} {l : List Int} (hl : 1 ≤ l.length) (hl6 : (l.length : Int) ≤ most) (h6 : most ≤ 6) (hn : ∀ y ∈ l, 0 ≤ y ∧ y ≤ 60) (hR : ∀ t f c, OkNeck t f c → (t.length : Int) ≤ most → R (neckD t f c)) :
    dSeq (dAsg 5 (dOp rdIx (dLst (aCons (dC (.int 12)) (aCons (dC (.int 5)) (aCons (dC (.int 7)) (aCons (dCall f_law_taken (aCons (dVar 0) (aCons (dC (.int 21)) aNil))) aNil))))) (dCall f_law_taken (aCons (dVar 0) (aCons (dC (.int 4)) aNil)))))
      (dSeq (dAsg 6 (dOp rdIx (dLst (aCons (dC (.int 0)) (aCons (dC (.int 0)) (aCons (dCall f_law_taken (aCons (dVar 0) (aCons (dOp rdAdd (dVar 5) (dC (.int 1))) aNil))) aNil)))) (dCall f_law_taken (aCons (dVar 0) (aCons (dC (.int 3)) aNil)))))
        (dRet (dTup (aCons (dCall rdTuple (aCons (dVar 3) aNil)) (aCons (dVar 5) (aCons (dVar 6) aNil)))))) { nx := fun _ => R .none, rt := R } [.val (.dict []), a, b, .val (.list (l.map PyData.int)), c0, d0, e0, u7] := by
  simp
  intro f0 hf0 hf1 i hi0 hi1
  obtain ⟨d, e, hd⟩ := atI_in (l := [PyData.int 12, PyData.int 5, PyData.int 7, PyData.int f0]) hi0 (by simpa using hi1)
  obtain ⟨f, rfl, g0, g1⟩ : ∃ f : Int, d = .int f ∧ 0 ≤ f ∧ f ≤ 20 := by
    simp at hd
    rcases hd with rfl | rfl | rfl | rfl
    · exact ⟨12, rfl, by omega, by omega⟩
    · exact ⟨5, rfl, by omega, by omega⟩
    · exact ⟨7, rfl, by omega, by omega⟩
    · exact ⟨f0, rfl, by omega, by omega⟩
  refine ⟨_, e, ?_⟩
  simp
  refine ⟨by omega, by omega, ?_⟩
  intro c1 hc0 hc1 j hj0 hj1
  obtain ⟨d, e, hd⟩ := atI_in (l := [PyData.int 0, PyData.int 0, PyData.int c1]) hj0 (by simpa using hj1)
  obtain ⟨c, rfl, k0, k1⟩ : ∃ c : Int, d = .int c ∧ 0 ≤ c ∧ c ≤ f := by
    simp at hd
    rcases hd with rfl | rfl
    · exact ⟨0, rfl, by omega, by omega⟩
    · exact ⟨c1, rfl, by omega, by omega⟩
  refine ⟨_, e, ?_⟩
  simp
  exact hR l f c ⟨hl, by omega, hn, g0, g1, k0, k1⟩ hl6
theorem pure_law_neck : ∀ ds R, f_law_neck ds R → W_law_neck { nx := fun _ => R .none, rt := R } (startD ["_law_row", "_law_most", "_law_begin", "_law_tuning", "_law_k", "_law_frets", "_law_capo", "_law_note"] ds) := by
  rintro ds R ⟨most, rfl, h1, h6, hR⟩
  simp [W_law_neck]
  intro v hv0 hv1
  refine ⟨by omega, by omega, ?_⟩
  intro n hn0 hn1
  refine ⟨by omega, by omega, ?_⟩
  refine forRun_inv (fun ds e => ∃ (l : List Int) (z : Int) (x : Sl), (∀ y ∈ l ++ [z], 0 ≤ y ∧ y ≤ 60) ∧ l.length + ds.length = n.toNat ∧ e = [Sl.val (.dict []), .val (.int most), .val (.int v), .own ((l ++ [z]).map PyData.int), x, .un, .un, .un]) ?_ ?_ _ _ ⟨[], v, .un, by simp; omega, by simp, rfl⟩
  · rintro d ds e ⟨l, z, x, hz, hl, rfl⟩ k
    simp
    refine ⟨_, atI_last _ _, ?_⟩
    simp
    intro w hw0 hw1 i hi0 hi1
    obtain ⟨d5, e5, hd⟩ := atI_in (l := [PyData.int 5, PyData.int 4, PyData.int 7, PyData.int 0, PyData.int (w - 5)]) hi0 (by simpa using hi1)
    obtain ⟨s, rfl⟩ : ∃ s : Int, d5 = .int s := by
      simp at hd
      rcases hd with rfl | rfl | rfl | rfl | rfl <;> exact ⟨_, rfl⟩
    refine ⟨_, e5, ?_⟩
    simp
    refine ⟨by simp at hl; omega, ?_⟩
    have hb : ∀ q : Int, 0 ≤ (if (if q > 0 then q else 0) < 60 then (if q > 0 then q else 0) else 60) ∧ (if (if q > 0 then q else 0) < 60 then (if q > 0 then q else 0) else 60) ≤ 60 := fun q => by split <;> split <;> omega
    have := k _ ⟨l ++ [z], (if (if z + s > 0 then z + s else 0) < 60 then (if z + s > 0 then z + s else 0) else 60), .val d, fun y hy => ?_, by simp at hl ⊢; omega, rfl⟩
    · simpa using this
    · rcases List.mem_append.mp hy with h | h
      · exact hz y h
      · rw [List.mem_singleton.mp h]
        exact hb (z + s)
  · rintro e ⟨l, z, x, hz, hl, rfl⟩
    simp only [rd, dFrz, List.getElem?_cons_succ, List.getElem?_cons_zero, Option.some.injEq, Sl.ownO.injEq, true_and, exists_eq_left', List.set_cons_succ, List.set_cons_zero]
    have len1 : ((l ++ [z]).length : Int) ≤ most := by simp at hl ⊢; omega
    show dIfS _ _ _ _ _
    simp only [dIfS, bB, dOp, dCall, aCons, aNil, dVar, rd, dC, List.getElem?_cons_succ, List.getElem?_cons_zero, Option.some.injEq, Sl.val.injEq, exists_eq_left', taken_iff]
    refine ⟨by omega, by omega, fun q hq0 hq1 => ?_⟩
    refine ⟨by simp, by simp, by simp, by simp, _, rfl, ?_⟩
    rw [eqv_int]
    by_cases h5 : q = 5
    · rw [if_pos (by simpa using h5)]
      simp only [dAsg, dN, dLcW, iLst, dVar, rd, List.getElem?_cons_succ, List.getElem?_cons_zero, Option.some.injEq, Sl.val.injEq, exists_eq_left', PyData.list.injEq, List.length_map]
      refine ⟨by omega, lcRun_each (fun d => ∃ i : Int, d = .int i ∧ 0 ≤ i ∧ i ≤ 60) _ _ (fun d hd K k => ?_) fun zs hzl hzs => ?_⟩
      · simp
        intro u hu0 hu1
        exact k _ ⟨u, rfl, by omega, by omega⟩
      · obtain ⟨m, rfl, hm⟩ : ∃ m : List Int, zs = m.map PyData.int ∧ ∀ y ∈ m, 0 ≤ y ∧ y ≤ 60 := by
          clear hzl
          induction zs with
          | nil => exact ⟨[], rfl, by simp⟩
          | cons a zs ih =>
            obtain ⟨m, e, hm⟩ := ih fun z hz => hzs z (List.mem_cons_of_mem _ hz)
            obtain ⟨i, rfl, hi⟩ := hzs a List.mem_cons_self
            exact ⟨i :: m, by rw [e]; rfl, fun y hy => by
              rcases List.mem_cons.mp hy with h | h
              · rw [h]; exact hi
              · exact hm y h⟩
        rw [List.length_map] at hzl
        exact neck_end (by rw [hzl]; simp) (by rw [hzl]; simpa using len1) h6 hm hR
    · rw [if_neg (by simpa using h5)]
      exact neck_end (by simp) len1 h6 hz hR
section
variable {P : Program} {w : World} {g : Glb} {mg : Str → Option Value} {base : Heap}
theorem ok_law_neck {f : Addr} {fd : FuncData} (F : FunP g.K "_law_neck" s_law_neck f fd) (mgf : mg "_law_neck" = some (.ref f)) (T : Txt mg) (C_law_taken : C8.Cal P w g.K mg base 1 "_law_taken" (spD g f_law_taken) []) : C8.Cal P w g.K mg base 2 "_law_neck" (spD g f_law_neck) [] :=
  calD (N := ["_law_row", "_law_most", "_law_begin", "_law_tuning", "_law_k", "_law_frets", "_law_capo", "_law_note"]) (ps := ["_law_row", "_law_most"]) (k := 1) (wb := W_law_neck) F mgf (F.bindsN fun _ _ _ _ _ _ us hl => match us, hl with | [_, _], _ => rfl) sc_law_neck len_law_neck (fun cdv A outer s H E r a ns hr =>
    (pssd_cons (ps_w (ps_set (i := 2) sc_law_neck.nd rfl (.inl rfl) (pe_w (C8.pe_c C_law_taken hr (by decide) (by rfl) (pa_w (pa_cons (pe_w (pv 0) xd_var) (pa_w (pa_cons (pe_w pe_int (xd_c fun _ => .int)) (pa_w pa_nil xa_nil)) xa_cons)) xa_cons)) xd_call)) xs_asg) (pssd_cons (ps_w (ps_set (i := 3) sc_law_neck.nd rfl (.inl rfl) (pe_w (pe_lst (pa_w (pa_cons (pe_w (pv 2) xd_var) (pa_w pa_nil xa_nil)) xa_cons)) xn_lst)) xs_own) (pssd_cons (ps_w (ps_for (g := gName 4) PassesOwn.never rfl (pi_w (pi_range1 (by rfl) T.m_range (pa_w (pa_cons (pe_w (C8.pe_c C_law_taken hr (by decide) (by rfl) (pa_w (pa_cons (pe_w (pv 0) xd_var) (pa_w (pa_cons (pe_w (pv 1) xd_var) (pa_w pa_nil xa_nil)) xa_cons)) xa_cons)) xd_call) (pa_w pa_nil xa_nil)) xa_cons)) xi_rng1) (pg_name (i := 4) sc_law_neck.nd rfl (.inl rfl)) (pssd_one (ps_w (ps_expr (pe_bm PySem.F.plainAttrs_list PySem.F.slot_list_append PySem.F.type_list_append mt_append (pv 3) (pa_cons (pe_w (pe_callB (call_min2 (by rfl)) (by rfl) T.m_min (by decide +kernel) (pa_w (pa_cons (pe_w pe_int (xd_c fun _ => .int)) (pa_w (pa_cons (pe_w (pe_callB (call_max2 (by rfl)) (by rfl) T.m_max (by decide +kernel) (pa_w (pa_cons (pe_w pe_int (xd_c fun _ => .int)) (pa_w (pa_cons (pe_w (pe_op op_add (pe_w (pe_ix ix_lt (pv 3) (pe_w (pe_un un_neg (pe_w pe_int (xd_c fun _ => .int))) xd_neg) (fun _ _ => rfl)) xd_ownIx) (pe_w (pe_ix ix_lt (pe_w (pe_lst (pa_w (pa_cons (pe_w pe_int (xd_c fun _ => .int)) (pa_w (pa_cons (pe_w pe_int (xd_c fun _ => .int)) (pa_w (pa_cons (pe_w pe_int (xd_c fun _ => .int)) (pa_w (pa_cons (pe_w pe_int (xd_c fun _ => .int)) (pa_w (pa_cons (pe_w (pe_op op_sub (pe_w (C8.pe_c C_law_taken hr (by decide) (by rfl) (pa_w (pa_cons (pe_w (pv 0) xd_var) (pa_w (pa_cons (pe_w pe_int (xd_c fun _ => .int)) (pa_w pa_nil xa_nil)) xa_cons)) xa_cons)) xd_call) (pe_w pe_int (xd_c fun _ => .int))) (xd_op od_sub)) (pa_w pa_nil xa_nil)) xa_cons)) xa_cons)) xa_cons)) xa_cons)) xa_cons)) xd_lst) (pe_w (C8.pe_c C_law_taken hr (by decide) (by rfl) (pa_w (pa_cons (pe_w (pv 0) xd_var) (pa_w (pa_cons (pe_w pe_int (xd_c fun _ => .int)) (pa_w pa_nil xa_nil)) xa_cons)) xa_cons)) xd_call) (fun _ _ => rfl)) (xd_op od_ixL))) (xd_op od_add)) (pa_w pa_nil xa_nil)) xa_cons)) xa_cons)) (xd_cb cd_max2)) (pa_w pa_nil xa_nil)) xa_cons)) xa_cons)) (xd_cb cd_min2)) pa_nil))) xs_app))) (xs_for gd_name)) (pss_w (pssd_cons (ps_w (ps_if (pt_w (pt_cmpR (op_eqD hr.units) (pe_w (C8.pe_c C_law_taken hr (by decide) (by rfl) (pa_w (pa_cons (pe_w (pv 0) xd_var) (pa_w (pa_cons (pe_w pe_int (xd_c fun _ => .int)) (pa_w pa_nil xa_nil)) xa_cons)) xa_cons)) xd_call) (pe_w pe_int (xd_c fun _ => .int)) (nomark _)) (xt_cmp od_eq)) (pssd_one (ps_w (ps_setLc (i := 3) (own := [("_law_note", 7)]) (g := gName 7) rfl sc_law_neck.nd rfl rfl (sw_true rfl rfl rfl (by decide +kernel)) (pi_w (pi_list (pe_w (pv 3) xd_var)) xi_list) (blkOk_by (own := [("_law_note", 7)]) (N := ["_law_row", "_law_most", "_law_begin", "_law_tuning", "_law_k", "_law_frets", "_law_capo", "_law_note"]) (sc := (defScope s_law_neck)) (by decide +kernel)) (fun _ _ _ _ _ => (pg_name (i := 7) sc_law_neck.nd rfl (.inl rfl))) (fun _ _ _ _ _ => (pts_w pts_nil xt_yes)) (fun _ _ _ _ _ => (pe_w (C8.pe_c C_law_taken hr (by decide) (by rfl) (pa_w (pa_cons (pe_w (pv 0) xd_var) (pa_w (pa_cons (pe_w pe_int (xd_c fun _ => .int)) (pa_w pa_nil xa_nil)) xa_cons)) xa_cons)) xd_call))) (xs_asgLc gd_name stores_name))) pssd_nil) xs_if) (pssd_cons (ps_w (ps_set (i := 5) sc_law_neck.nd rfl (.inl rfl) (pe_w (pe_ix ix_lt (pe_w (pe_lst (pa_w (pa_cons (pe_w pe_int (xd_c fun _ => .int)) (pa_w (pa_cons (pe_w pe_int (xd_c fun _ => .int)) (pa_w (pa_cons (pe_w pe_int (xd_c fun _ => .int)) (pa_w (pa_cons (pe_w (C8.pe_c C_law_taken hr (by decide) (by rfl) (pa_w (pa_cons (pe_w (pv 0) xd_var) (pa_w (pa_cons (pe_w pe_int (xd_c fun _ => .int)) (pa_w pa_nil xa_nil)) xa_cons)) xa_cons)) xd_call) (pa_w pa_nil xa_nil)) xa_cons)) xa_cons)) xa_cons)) xa_cons)) xd_lst) (pe_w (C8.pe_c C_law_taken hr (by decide) (by rfl) (pa_w (pa_cons (pe_w (pv 0) xd_var) (pa_w (pa_cons (pe_w pe_int (xd_c fun _ => .int)) (pa_w pa_nil xa_nil)) xa_cons)) xa_cons)) xd_call) (fun _ _ => rfl)) (xd_op od_ixL))) xs_asg) (pssd_cons (ps_w (ps_set (i := 6) sc_law_neck.nd rfl (.inl rfl) (pe_w (pe_ix ix_lt (pe_w (pe_lst (pa_w (pa_cons (pe_w pe_int (xd_c fun _ => .int)) (pa_w (pa_cons (pe_w pe_int (xd_c fun _ => .int)) (pa_w (pa_cons (pe_w (C8.pe_c C_law_taken hr (by decide) (by rfl) (pa_w (pa_cons (pe_w (pv 0) xd_var) (pa_w (pa_cons (pe_w (pe_op op_add (pe_w (pv 5) xd_var) (pe_w pe_int (xd_c fun _ => .int))) (xd_op od_add)) (pa_w pa_nil xa_nil)) xa_cons)) xa_cons)) xd_call) (pa_w pa_nil xa_nil)) xa_cons)) xa_cons)) xa_cons)) xd_lst) (pe_w (C8.pe_c C_law_taken hr (by decide) (by rfl) (pa_w (pa_cons (pe_w (pv 0) xd_var) (pa_w (pa_cons (pe_w pe_int (xd_c fun _ => .int)) (pa_w pa_nil xa_nil)) xa_cons)) xa_cons)) xd_call) (fun _ _ => rfl)) (xd_op od_ixL))) xs_asg) (pssd_one (ps_w (ps_ret (pe_w (pe_tup (pa_w (pa_cons (pe_w (pe_callTy call_tuple_of (by rfl) T.m_tuple (by decide +kernel) (pa_w (pa_cons (pe_w (pv 3) xd_var) (pa_w pa_nil xa_nil)) xa_cons)) (xd_cb cd_tuple)) (pa_w (pa_cons (pe_w (pv 5) xd_var) (pa_w (pa_cons (pe_w (pv 6) xd_var) (pa_w pa_nil xa_nil)) xa_cons)) xa_cons)) xa_cons)) xd_tup)) xs_ret))))) xs_frz))))) pure_law_neck
end

/-! ### notes that are no chord, no tune -/
def OddN (most : Int) (l : List Int) : Prop := l.length ≤ 101 ∧ (l = [] ∨ most < l.length ∨ ∃ x ∈ l, x < 0 ∨ 80 < x)
def f_law_odd_notes : Fd := fun ds R => ∃ most : Int, ds = [.dict [], .int most] ∧ 0 ≤ most ∧ most ≤ 100 ∧ ∀ l, OddN most l → R (intsD l)
theorem len_law_odd_notes : ∀ ds R, f_law_odd_notes ds R → ds.length = 2 := by
  rintro ds R ⟨m, rfl, _⟩; rfl
@[simp] theorem law_odd_notes_iff {most : Int} {R : D → Prop} : f_law_odd_notes [.dict [], .int most] R ↔ 0 ≤ most ∧ most ≤ 100 ∧ ∀ l, OddN most l → R (intsD l) := by
  constructor
  · rintro ⟨m, e, h⟩; simp at e; rw [e]; exact h
  · intro h; exact ⟨_, rfl, h⟩
def W_law_odd_notes : WS := (dSeq (dAsg 2 (dCall f_law_taken (aCons (dVar 0) (aCons (dOp rdPow (dC (.int 10)) (dC (.int 6))) aNil)))) (dSeq (dAsg 3 (dLst (aCons (dTup aNil) (aCons (dTupRg (gRg1 (dOp rdAdd (dVar 1) (dC (.int 1))))) (aCons (dTup (aCons (dC (.int 3)) (aCons (dOp rdAdd (dC (.int 81)) (dVar 2)) aNil))) (aCons (dTup (aCons (dOp rdSub (dOp rdSub (dC (.int 0)) (dC (.int 1))) (dVar 2)) (aCons (dC (.int 3)) aNil))) (aCons (dTup (aCons (dOp rdAdd (dC (.int 81)) (dVar 2)) aNil)) aNil))))))) (dRet (dOp rdIx (dVar 3) (dCall f_law_taken (aCons (dVar 0) (aCons (dC (.int 5)) aNil)))))))
def N_law_odd_notes : List Str := ["_law_row", "_law_most", "_law_far", "_law_some"]
theorem sc_law_odd_notes : FnScope ["_law_row", "_law_most", "_law_far", "_law_some"] ["_law_row", "_law_most"] (defScope s_law_odd_notes) := ⟨rfl, rfl, rfl, by decide +kernel, rfl, by decide +kernel, by decide +kernel⟩
theorem pure_law_odd_notes : ∀ ds R, f_law_odd_notes ds R → W_law_odd_notes { nx := fun _ => R .none, rt := R } (startD N_law_odd_notes ds) := by
  rintro ds R ⟨most, rfl, m0, m1, h⟩
  simp [W_law_odd_notes, N_law_odd_notes]
  have hr : rngD 0 (most + 1).toNat = ((List.range (most + 1).toNat).map fun (k : Nat) => (k : Int)).map .int := by
    unfold rngD
    rw [List.map_map]
    refine List.map_congr_left fun k _ => ?_
    simp
  refine ⟨⟨by decide, by decide, by decide⟩, fun v v0 v1 => ⟨RgOk.of_le (by omega) (by omega) (by omega) (by omega), fun u u0 u5 => ?_⟩⟩
  obtain ⟨d, e, hd⟩ := atI_in (l := [PyData.tuple [], PyData.tuple (rngD 0 (most + 1).toNat), PyData.tuple [PyData.int 3, PyData.int (81 + v)], PyData.tuple [PyData.int (-1 - v), PyData.int 3], PyData.tuple [PyData.int (81 + v)]]) u0 (by simpa using u5)
  refine ⟨d, e, ?_⟩
  simp only [List.mem_cons, List.not_mem_nil, or_false] at hd
  rcases hd with rfl | rfl | rfl | rfl | rfl
  · exact h [] ⟨by simp, .inl rfl⟩
  · rw [hr]
    exact h _ ⟨by simp; omega, .inr (.inl (by simp; omega))⟩
  · exact h [3, 81 + v] ⟨by simp, .inr (.inr ⟨81 + v, by simp, by omega⟩)⟩
  · exact h [-1 - v, 3] ⟨by simp, .inr (.inr ⟨-1 - v, by simp, by omega⟩)⟩
  · exact h [81 + v] ⟨by simp, .inr (.inr ⟨81 + v, by simp, by omega⟩)⟩
section
variable {P : Program} {w : World} {g : Glb} {mg : Str → Option Value} {base : Heap}
theorem ok_law_odd_notes {f : Addr} {fd : FuncData} (F : FunP g.K "_law_odd_notes" s_law_odd_notes f fd) (mgf : mg "_law_odd_notes" = some (.ref f)) (T : Txt mg) (C_law_taken : C8.Cal P w g.K mg base 1 "_law_taken" (spD g f_law_taken) []) : C8.Cal P w g.K mg base 2 "_law_odd_notes" (spD g f_law_odd_notes) [] :=
  calD (N := ["_law_row", "_law_most", "_law_far", "_law_some"]) (ps := ["_law_row", "_law_most"]) (k := 1) (wb := W_law_odd_notes) F mgf (F.bindsN fun _ _ _ _ _ _ us hl => match us, hl with | [_, _], _ => rfl) sc_law_odd_notes len_law_odd_notes (fun cdv A outer s H E r a ns hr =>
    (pssd_cons (ps_w (ps_set (i := 2) sc_law_odd_notes.nd rfl (.inl rfl) (pe_w (C8.pe_c C_law_taken hr (by decide) (by rfl) (pa_w (pa_cons (pe_w (pv 0) xd_var) (pa_w (pa_cons (pe_w (pe_op op_pow (pe_w pe_int (xd_c fun _ => .int)) (pe_w pe_int (xd_c fun _ => .int))) (xd_op od_pow)) (pa_w pa_nil xa_nil)) xa_cons)) xa_cons)) xd_call)) xs_asg) (pssd_cons (ps_w (ps_set (i := 3) sc_law_odd_notes.nd rfl (.inl rfl) (pe_w (pe_lst (pa_w (pa_cons (pe_w (pe_tup (pa_w pa_nil xa_nil)) xd_tup) (pa_w (pa_cons (pe_w (pe_tupRg (by rfl) (by rfl) T.m_tuple (prg_w (prg_1 (by rfl) T.m_range (pe_w (pe_op op_add (pe_w (pv 1) xd_var) (pe_w pe_int (xd_c fun _ => .int))) (xd_op od_add))) xg_rg1)) xd_tupRg) (pa_w (pa_cons (pe_w (pe_tup (pa_w (pa_cons (pe_w pe_int (xd_c fun _ => .int)) (pa_w (pa_cons (pe_w (pe_op op_add (pe_w pe_int (xd_c fun _ => .int)) (pe_w (pv 2) xd_var)) (xd_op od_add)) (pa_w pa_nil xa_nil)) xa_cons)) xa_cons)) xd_tup) (pa_w (pa_cons (pe_w (pe_tup (pa_w (pa_cons (pe_w (pe_op op_sub (pe_w (pe_op op_sub (pe_w pe_int (xd_c fun _ => .int)) (pe_w pe_int (xd_c fun _ => .int))) (xd_op od_sub)) (pe_w (pv 2) xd_var)) (xd_op od_sub)) (pa_w (pa_cons (pe_w pe_int (xd_c fun _ => .int)) (pa_w pa_nil xa_nil)) xa_cons)) xa_cons)) xd_tup) (pa_w (pa_cons (pe_w (pe_tup (pa_w (pa_cons (pe_w (pe_op op_add (pe_w pe_int (xd_c fun _ => .int)) (pe_w (pv 2) xd_var)) (xd_op od_add)) (pa_w pa_nil xa_nil)) xa_cons)) xd_tup) (pa_w pa_nil xa_nil)) xa_cons)) xa_cons)) xa_cons)) xa_cons)) xa_cons)) xd_lst)) xs_asg) (pssd_one (ps_w (ps_ret (pe_w (pe_ix ix_lt (pe_w (pv 3) xd_var) (pe_w (C8.pe_c C_law_taken hr (by decide) (by rfl) (pa_w (pa_cons (pe_w (pv 0) xd_var) (pa_w (pa_cons (pe_w pe_int (xd_c fun _ => .int)) (pa_w pa_nil xa_nil)) xa_cons)) xa_cons)) xd_call) (fun _ _ => rfl)) (xd_op od_ixL))) xs_ret))))) pure_law_odd_notes
end

/-! ### what is no chord -/
def f_law_odd_chord : Fd := fun ds R => ds = [.dict []] ∧ ∀ l : List Int, ¬ OkChord l → l.length ≤ 101 → R (intsD l)
theorem len_law_odd_chord : ∀ ds R, f_law_odd_chord ds R → ds.length = 1 := by
  rintro ds R ⟨rfl, _⟩; rfl
@[simp] theorem law_odd_chord_iff {R : D → Prop} : f_law_odd_chord [.dict []] R ↔ ∀ l : List Int, ¬ OkChord l → l.length ≤ 101 → R (intsD l) := ⟨fun h => h.2, fun h => ⟨rfl, h⟩⟩
theorem odd_chord {l : List Int} (h : OddN 6 l) : ¬ OkChord l := fun o => by
  rcases h.2 with z | z | ⟨x, hx, z⟩
  · have := o.l1
    rw [z] at this; simp at this
  · have := o.l2; omega
  · have := o.n x hx; omega
def W_law_odd_chord : WS := (dRet (dOp rdIx (dLst (aCons (dTup (aCons (dC (.int 5)) (aCons (dC (.int 5)) aNil))) (aCons (dTup (aCons (dC (.int 7)) (aCons (dC (.int 3)) aNil))) (aCons (dCall f_law_odd_notes (aCons (dVar 0) (aCons (dC (.int 6)) aNil))) aNil)))) (dCall f_law_taken (aCons (dVar 0) (aCons (dC (.int 3)) aNil)))))
def N_law_odd_chord : List Str := ["_law_row"]
theorem sc_law_odd_chord : FnScope ["_law_row"] ["_law_row"] (defScope s_law_odd_chord) := ⟨rfl, rfl, rfl, by decide +kernel, rfl, by decide +kernel, by decide +kernel⟩
theorem pure_law_odd_chord : ∀ ds R, f_law_odd_chord ds R → W_law_odd_chord { nx := fun _ => R .none, rt := R } (startD N_law_odd_chord ds) := by
  rintro ds R ⟨rfl, h⟩
  simp [W_law_odd_chord, N_law_odd_chord]
  intro l hl v v0 v3
  obtain ⟨d, e, hd⟩ := atI_in (l := [PyData.tuple [PyData.int 5, PyData.int 5], PyData.tuple [PyData.int 7, PyData.int 3], intsD l]) v0 (by simpa using v3)
  refine ⟨d, e, ?_⟩
  simp only [List.mem_cons, List.not_mem_nil, or_false] at hd
  rcases hd with rfl | rfl | rfl
  · exact h [5, 5] (fun o => by have := o.up; simp [risesB] at this) (by simp)
  · exact h [7, 3] (fun o => by have := o.up; simp [risesB] at this) (by simp)
  · exact h l (odd_chord hl) hl.1
section
variable {P : Program} {w : World} {g : Glb} {mg : Str → Option Value} {base : Heap}
theorem ok_law_odd_chord {f : Addr} {fd : FuncData} (F : FunP g.K "_law_odd_chord" s_law_odd_chord f fd) (mgf : mg "_law_odd_chord" = some (.ref f)) (T : Txt mg) (C_law_taken : C8.Cal P w g.K mg base 1 "_law_taken" (spD g f_law_taken) []) (C_law_odd_notes : C8.Cal P w g.K mg base 2 "_law_odd_notes" (spD g f_law_odd_notes) []) : C8.Cal P w g.K mg base 3 "_law_odd_chord" (spD g f_law_odd_chord) [] :=
  calD (N := ["_law_row"]) (ps := ["_law_row"]) (k := 2) (wb := W_law_odd_chord) F mgf (F.bindsN fun _ _ _ _ _ _ us hl => match us, hl with | [_], _ => rfl) sc_law_odd_chord len_law_odd_chord (fun cdv A outer s H E r a ns hr =>
    (pssd_one (ps_w (ps_ret (pe_w (pe_ix ix_lt (pe_w (pe_lst (pa_w (pa_cons (pe_w (pe_tup (pa_w (pa_cons (pe_w pe_int (xd_c fun _ => .int)) (pa_w (pa_cons (pe_w pe_int (xd_c fun _ => .int)) (pa_w pa_nil xa_nil)) xa_cons)) xa_cons)) xd_tup) (pa_w (pa_cons (pe_w (pe_tup (pa_w (pa_cons (pe_w pe_int (xd_c fun _ => .int)) (pa_w (pa_cons (pe_w pe_int (xd_c fun _ => .int)) (pa_w pa_nil xa_nil)) xa_cons)) xa_cons)) xd_tup) (pa_w (pa_cons (pe_w (C8.pe_c C_law_odd_notes hr (by decide) (by rfl) (pa_w (pa_cons (pe_w (pv 0) xd_var) (pa_w (pa_cons (pe_w pe_int (xd_c fun _ => .int)) (pa_w pa_nil xa_nil)) xa_cons)) xa_cons)) xd_call) (pa_w pa_nil xa_nil)) xa_cons)) xa_cons)) xa_cons)) xd_lst) (pe_w (C8.pe_c C_law_taken hr (by decide) (by rfl) (pa_w (pa_cons (pe_w (pv 0) xd_var) (pa_w (pa_cons (pe_w pe_int (xd_c fun _ => .int)) (pa_w pa_nil xa_nil)) xa_cons)) xa_cons)) xd_call) (fun _ _ => rfl)) (xd_op od_ixL))) xs_ret))) pure_law_odd_chord
end

/-! ### _law_told -/
def WA_told : Str → Addr → WS := fun n xa => (dSeq (dAsg 2 (dLst (aCons (dIsE xa 1 (isSub n "BadNeck")) (aCons (dIsE xa 1 (isSub n "BadChord")) (aCons (dIsE xa 1 (isSub n "BadTune")) (aCons (dIsE xa 1 (isSub n "BadHand")) aNil)))))) (dSeq (dAsg 2 (dOp rdCatL (dVar 2) (dLst (aCons (dIsE xa 1 (isSub n "BadShape")) (aCons (dIsE xa 1 (isSub n "BadText")) aNil))))) (dSeq (dIfS (bOr (bB (dOp rdNe (dMeth rdCntB (dVar 2) (aCons (dC (.bool true)) aNil)) (dC (.int 1)))) (bNot (bTru (dIsE xa 1 true)))) (dRet (dC (.str "other"))) dNext) (dSeq (dIfS (bTru (dOp rdIx (dVar 2) (dC (.int 1)))) dNever dNext) (dRet (dOp rdIx (dLst (aCons (dC (.str "neck")) (aCons (dC (.str "")) (aCons (dC (.str "tune")) (aCons (dC (.str "hand")) (aCons (dC (.str "other")) (aCons (dC (.str "other")) aNil))))))) (dMeth rdIdxB (dVar 2) (aCons (dC (.bool true)) aNil))))))))
def WB_told : Addr → Addr → Int → WS := fun xa xd k => (dSeq (dAsg 2 (dLst (aCons (dIsO xa (some (xd, k)) 1 (isSub "BadChord" "BadNeck")) (aCons (dIsO xa (some (xd, k)) 1 (isSub "BadChord" "BadChord")) (aCons (dIsO xa (some (xd, k)) 1 (isSub "BadChord" "BadTune")) (aCons (dIsO xa (some (xd, k)) 1 (isSub "BadChord" "BadHand")) aNil)))))) (dSeq (dAsg 2 (dOp rdCatL (dVar 2) (dLst (aCons (dIsO xa (some (xd, k)) 1 (isSub "BadChord" "BadShape")) (aCons (dIsO xa (some (xd, k)) 1 (isSub "BadChord" "BadText")) aNil))))) (dSeq (dIfS (bOr (bB (dOp rdNe (dMeth rdCntB (dVar 2) (aCons (dC (.bool true)) aNil)) (dC (.int 1)))) (bNot (bTru (dIsO xa (some (xd, k)) 1 true)))) (dRet (dC (.str "other"))) dNext) (dSeq (dIfS (bTru (dOp rdIx (dVar 2) (dC (.int 1)))) (dRet (dTup (aCons (dC (.str "chord")) (aCons (dNumO xa xd k 1) aNil)))) dNext) (dRet (dOp rdIx (dLst (aCons (dC (.str "neck")) (aCons (dC (.str "")) (aCons (dC (.str "tune")) (aCons (dC (.str "hand")) (aCons (dC (.str "other")) (aCons (dC (.str "other")) aNil))))))) (dMeth rdIdxB (dVar 2) (aCons (dC (.bool true)) aNil))))))))
theorem sc_law_told : FnScope ["_law_work", "e", "_law_kinds"] ["_law_work"] (defScope s_law_told) := ⟨rfl, rfl, rfl, by decide +kernel, rfl, by decide +kernel, by decide +kernel⟩
theorem pureA_told {f : Addr} : ∀ n ∈ excNames, ∀ a (R : D → Prop), R (tellX (n, none)) → WA_told n a { nx := fun _ => False, rt := R } [.exc f, .exc a, .un] := by
  intro n hn a R h
  simp only [excNames, List.mem_cons, List.not_mem_nil, or_false] at hn
  rcases hn with rfl | rfl | rfl
  · rw [tell_hand] at h
    simp [WA_told]
    refine cntB_at (n := 1) (bs := [false, false, false, true, false, false]) rfl ⟨rfl, (by intro z; cases z), .inl ⟨rfl, idxB_at (j := 3) (bs := [false, false, false, true, false, false]) (by decide) rfl (fun m hm => ?_) ⟨3, rfl, _, rfl, h⟩⟩⟩
    match m, hm with
    | 0, _ => rfl
    | 1, _ => rfl
    | 2, _ => rfl
  · rw [tell_neck] at h
    simp [WA_told]
    refine cntB_at (n := 1) (bs := [true, false, false, false, false, false]) rfl ⟨rfl, (by intro z; cases z), .inl ⟨rfl, idxB_at (j := 0) (bs := [true, false, false, false, false, false]) (by decide) rfl (fun m hm => by omega) ⟨0, rfl, _, rfl, h⟩⟩⟩
  · rw [tell_tune] at h
    simp [WA_told]
    refine cntB_at (n := 1) (bs := [false, false, true, false, false, false]) rfl ⟨rfl, (by intro z; cases z), .inl ⟨rfl, idxB_at (j := 2) (bs := [false, false, true, false, false, false]) (by decide) rfl (fun m hm => ?_) ⟨2, rfl, _, rfl, h⟩⟩⟩
    match m, hm with
    | 0, _ => rfl
    | 1, _ => rfl
theorem pureB_told {f : Addr} : ∀ a dx k (R : D → Prop), R (tellX ("BadChord", some k)) → WB_told a dx k { nx := fun _ => False, rt := R } [.exc f, .exc a (some (dx, k)), .un] := by
  intro a dx k R h
  rw [tell_chord] at h
  simp [WB_told]
  exact cntB_at (n := 1) (bs := [false, true, false, false, false, false]) rfl ⟨rfl, (by intro z; cases z), .inl ⟨rfl, h⟩⟩

section
variable {P : Program} {w : World} {g : Glb} {mg : Str → Option Value} {base : Heap}

theorem ok_law_told {f : Addr} {fd : FuncData} (F : FunP g.K "_law_told" s_law_told f fd) (mgf : mg "_law_told" = some (.ref f)) (T : Txt mg) (XS : Xs g mg) (XN : ExcT g "BadChord") (XC : ClsN P.main g.K mg g.cls "BadChord") : C8.Cal P w g.K mg base 7 "_law_told" (spT P w mg base 5 g okX tellX) [] := by
  refine ⟨f, fd, ["_law_work"], [], F.ok (k := 6) sc_law_told (fun vs H Q E h => ?_) (fun cdv A outer s H vs Q E hr h => ?_), mgf, F.kp, F.bindsN fun _ _ _ _ _ _ us hl => match us, hl with | [_], _ => rfl, .nil⟩
  · obtain ⟨_, _, _, _, _, _, _, _, _, _, _, rfl, _⟩ := h
    rfl
  · obtain ⟨⟨g', r, a, ns⟩, F', f', l, us, cl, ds, Wl, R, hg, Wk, hvs, L, LD, C, nF, rv, hw, P'⟩ := h
    have hg' : g' = g := hg
    subst hg' hvs
    refine ⟨_, ?_, told_run (c := ⟨g', r, a, ns⟩) (E := E) (names := excNames) (nm := "BadChord") (wsA := WA_told) (wsB := WB_told) (cv := .ref (g'.cls "NeckError")) (Wout := fun _ _ _ _ => False) (N := ["_law_work", "e", "_law_kinds"]) (i := 1) rfl rfl (fun n hn => ?_) (fun x hx => hx) pureA_told pureB_told Wk C nF rv hw P'⟩
    · refine pss_cons (ps_try_as (i := 1) (tb := fun W => tDrop (tLamC l ⟨g', r, a, ns⟩ 0 Wl (WE W))) (ts := tsO ⟨g', r, a, ns⟩ E excNames "BadChord" WA_told WB_told) (Wout := fun _ _ _ _ => False) rfl rfl sc_law_told.nd rfl rfl ⟨by rfl, by decide, .inl (XS.m "NeckError" (by decide))⟩ takes0
        (fun W pn xe tk _ => pss_one (ps_expr (pe_lamC (k := 5) L rfl (.inl rfl) tk hr (by decide) LD))) (fun xa oe cls d pn hz hf => pss_tsO (fun n hn hc hd => ?_) (fun xd k hc hd => ?_))) (pssd_one (ps_w (ps_ret (pe_w pe_non (xd_c fun _ => .non))) xs_ret))
      · subst hc hd
        exact (pssd_cons (ps_w (ps_set (i := 2) sc_law_told.nd rfl (.inl rfl) (pe_w (pe_lst (pa_w (pa_cons (pe_w (pe_callB (call_isE (XS.t n hn).ec hz hf) (by rfl) T.m_isinstance (by decide +kernel) (pa_cons (pv 1) (pa_cons (pe_glob (v := .ref (g'.cls "BadNeck")) (by rfl) (XS.m "BadNeck" (by decide)) rfl) pa_nil))) (xd_isER ((XS.t n hn).kit "BadNeck" (by decide)))) (pa_w (pa_cons (pe_w (pe_callB (call_isE (XS.t n hn).ec hz hf) (by rfl) T.m_isinstance (by decide +kernel) (pa_cons (pv 1) (pa_cons (pe_glob (v := .ref (g'.cls "BadChord")) (by rfl) (XS.m "BadChord" (by decide)) rfl) pa_nil))) (xd_isER ((XS.t n hn).kit "BadChord" (by decide)))) (pa_w (pa_cons (pe_w (pe_callB (call_isE (XS.t n hn).ec hz hf) (by rfl) T.m_isinstance (by decide +kernel) (pa_cons (pv 1) (pa_cons (pe_glob (v := .ref (g'.cls "BadTune")) (by rfl) (XS.m "BadTune" (by decide)) rfl) pa_nil))) (xd_isER ((XS.t n hn).kit "BadTune" (by decide)))) (pa_w (pa_cons (pe_w (pe_callB (call_isE (XS.t n hn).ec hz hf) (by rfl) T.m_isinstance (by decide +kernel) (pa_cons (pv 1) (pa_cons (pe_glob (v := .ref (g'.cls "BadHand")) (by rfl) (XS.m "BadHand" (by decide)) rfl) pa_nil))) (xd_isER ((XS.t n hn).kit "BadHand" (by decide)))) (pa_w pa_nil xa_nil)) xa_cons)) xa_cons)) xa_cons)) xa_cons)) xd_lst)) xs_asg) (pssd_cons (ps_w (ps_set (i := 2) sc_law_told.nd rfl (.inl rfl) (pe_w (pe_op op_cat (pe_w (pv 2) xd_var) (pe_w (pe_lst (pa_w (pa_cons (pe_w (pe_callB (call_isE (XS.t n hn).ec hz hf) (by rfl) T.m_isinstance (by decide +kernel) (pa_cons (pv 1) (pa_cons (pe_glob (v := .ref (g'.cls "BadShape")) (by rfl) (XS.m "BadShape" (by decide)) rfl) pa_nil))) (xd_isER ((XS.t n hn).kit "BadShape" (by decide)))) (pa_w (pa_cons (pe_w (pe_callB (call_isE (XS.t n hn).ec hz hf) (by rfl) T.m_isinstance (by decide +kernel) (pa_cons (pv 1) (pa_cons (pe_glob (v := .ref (g'.cls "BadText")) (by rfl) (XS.m "BadText" (by decide)) rfl) pa_nil))) (xd_isER ((XS.t n hn).kit "BadText" (by decide)))) (pa_w pa_nil xa_nil)) xa_cons)) xa_cons)) xd_lst)) (xd_op od_catL))) xs_asg) (pssd_cons (ps_w (ps_if (PW.pt (pw_w (pw_or (pt_w (pt_cmpR (op_neD hr.units) (pe_w (pe_bm PySem.F.plainAttrs_list PySem.F.slot_list_count PySem.F.type_list_count mt_cntB (pe_w (pv 2) xd_var) (pa_w (pa_cons (pe_w pe_bl (xd_c fun _ => .bl)) (pa_w pa_nil xa_nil)) xa_cons)) (xd_meth md_cntB)) (pe_w pe_int (xd_c fun _ => .int)) (nomark _)) (xt_cmp od_ne)) (pw_or1 (pt_w (pt_not (pt_w (pt_truth (pe_w (pe_callB (call_isE (XS.t n hn).ec hz hf) (by rfl) T.m_isinstance (by decide +kernel) (pa_cons (pv 1) (pa_cons (pe_bltn (v := .ty "ValueError") (by rfl) T.m_ValueError (by decide +kernel) rfl) pa_nil))) (xd_isET (XS.t n hn).ve)) (by intro _; rfl)) xt_tru)) xt_not))) xt_or)) (pssd_one (ps_w (ps_ret (pe_w pe_str (xd_c fun _ => .str))) xs_ret)) pssd_nil) xs_if) (pssd_cons (ps_w (ps_if (pt_w (pt_truth (pe_w (pe_ix ix_lt (pe_w (pv 2) xd_var) (pe_w pe_int (xd_c fun _ => .int)) (fun _ _ => rfl)) (xd_op od_ixL)) (by intro _; rfl)) xt_tru) (pssd_one (ps_w ps_never xs_never)) pssd_nil) xs_if) (pssd_one (ps_w (ps_ret (pe_w (pe_ix ix_lt (pe_w (pe_lst (pa_w (pa_cons (pe_w pe_str (xd_c fun _ => .str)) (pa_w (pa_cons (pe_w pe_str (xd_c fun _ => .str)) (pa_w (pa_cons (pe_w pe_str (xd_c fun _ => .str)) (pa_w (pa_cons (pe_w pe_str (xd_c fun _ => .str)) (pa_w (pa_cons (pe_w pe_str (xd_c fun _ => .str)) (pa_w (pa_cons (pe_w pe_str (xd_c fun _ => .str)) (pa_w pa_nil xa_nil)) xa_cons)) xa_cons)) xa_cons)) xa_cons)) xa_cons)) xa_cons)) xd_lst) (pe_w (pe_bm PySem.F.plainAttrs_list PySem.F.slot_list_index PySem.F.type_list_index (mt_indexD (by have h := hr.un; have h2 := Nat.lt_of_le_of_lt (Nat.le_trans (Nat.add_le_add_left (by decide : 65 ≤ 16 * 6 + 200) _) (Nat.le_of_eq (Nat.add_assoc _ _ _).symm)) h; exact h2)) (pe_w (pv 2) xd_var) (pa_w (pa_cons (pe_w pe_bl (xd_c fun _ => .bl)) (pa_w pa_nil xa_nil)) xa_cons)) (xd_meth md_idxB)) (fun _ _ => rfl)) (xd_op od_ixL))) xs_ret))))))
      · subst hc hd
        exact (pssd_cons (ps_w (ps_set (i := 2) sc_law_told.nd rfl (.inl rfl) (pe_w (pe_lst (pa_w (pa_cons (pe_w (pe_callB (call_isN XN.ec hz hf) (by rfl) T.m_isinstance (by decide +kernel) (pa_cons (pv 1) (pa_cons (pe_glob (v := .ref (g'.cls "BadNeck")) (by rfl) (XS.m "BadNeck" (by decide)) rfl) pa_nil))) (xd_isMR (XN.kit "BadNeck" (by decide)))) (pa_w (pa_cons (pe_w (pe_callB (call_isN XN.ec hz hf) (by rfl) T.m_isinstance (by decide +kernel) (pa_cons (pv 1) (pa_cons (pe_glob (v := .ref (g'.cls "BadChord")) (by rfl) (XS.m "BadChord" (by decide)) rfl) pa_nil))) (xd_isMR (XN.kit "BadChord" (by decide)))) (pa_w (pa_cons (pe_w (pe_callB (call_isN XN.ec hz hf) (by rfl) T.m_isinstance (by decide +kernel) (pa_cons (pv 1) (pa_cons (pe_glob (v := .ref (g'.cls "BadTune")) (by rfl) (XS.m "BadTune" (by decide)) rfl) pa_nil))) (xd_isMR (XN.kit "BadTune" (by decide)))) (pa_w (pa_cons (pe_w (pe_callB (call_isN XN.ec hz hf) (by rfl) T.m_isinstance (by decide +kernel) (pa_cons (pv 1) (pa_cons (pe_glob (v := .ref (g'.cls "BadHand")) (by rfl) (XS.m "BadHand" (by decide)) rfl) pa_nil))) (xd_isMR (XN.kit "BadHand" (by decide)))) (pa_w pa_nil xa_nil)) xa_cons)) xa_cons)) xa_cons)) xa_cons)) xd_lst)) xs_asg) (pssd_cons (ps_w (ps_set (i := 2) sc_law_told.nd rfl (.inl rfl) (pe_w (pe_op op_cat (pe_w (pv 2) xd_var) (pe_w (pe_lst (pa_w (pa_cons (pe_w (pe_callB (call_isN XN.ec hz hf) (by rfl) T.m_isinstance (by decide +kernel) (pa_cons (pv 1) (pa_cons (pe_glob (v := .ref (g'.cls "BadShape")) (by rfl) (XS.m "BadShape" (by decide)) rfl) pa_nil))) (xd_isMR (XN.kit "BadShape" (by decide)))) (pa_w (pa_cons (pe_w (pe_callB (call_isN XN.ec hz hf) (by rfl) T.m_isinstance (by decide +kernel) (pa_cons (pv 1) (pa_cons (pe_glob (v := .ref (g'.cls "BadText")) (by rfl) (XS.m "BadText" (by decide)) rfl) pa_nil))) (xd_isMR (XN.kit "BadText" (by decide)))) (pa_w pa_nil xa_nil)) xa_cons)) xa_cons)) xd_lst)) (xd_op od_catL))) xs_asg) (pssd_cons (ps_w (ps_if (PW.pt (pw_w (pw_or (pt_w (pt_cmpR (op_neD hr.units) (pe_w (pe_bm PySem.F.plainAttrs_list PySem.F.slot_list_count PySem.F.type_list_count mt_cntB (pe_w (pv 2) xd_var) (pa_w (pa_cons (pe_w pe_bl (xd_c fun _ => .bl)) (pa_w pa_nil xa_nil)) xa_cons)) (xd_meth md_cntB)) (pe_w pe_int (xd_c fun _ => .int)) (nomark _)) (xt_cmp od_ne)) (pw_or1 (pt_w (pt_not (pt_w (pt_truth (pe_w (pe_callB (call_isN XN.ec hz hf) (by rfl) T.m_isinstance (by decide +kernel) (pa_cons (pv 1) (pa_cons (pe_bltn (v := .ty "ValueError") (by rfl) T.m_ValueError (by decide +kernel) rfl) pa_nil))) (xd_isMT XN.ve)) (by intro _; rfl)) xt_tru)) xt_not))) xt_or)) (pssd_one (ps_w (ps_ret (pe_w pe_str (xd_c fun _ => .str))) xs_ret)) pssd_nil) xs_if) (pssd_cons (ps_w (ps_if (pt_w (pt_truth (pe_w (pe_ix ix_lt (pe_w (pv 2) xd_var) (pe_w pe_int (xd_c fun _ => .int)) (fun _ _ => rfl)) (xd_op od_ixL)) (by intro _; rfl)) xt_tru) (pssd_one (ps_w (ps_ret (pe_w (pe_tup (pa_w (pa_cons (pe_w pe_str (xd_c fun _ => .str)) (pa_w (pa_cons (pe_w (pe_xf ⟨XN.ec.hg, XN.ec.hk, XN.ec.hs, XN.ec.hd⟩ XC.ini.choose_spec.noF hz hf (pv 1)) xd_numO) (pa_w pa_nil xa_nil)) xa_cons)) xa_cons)) xd_tup)) xs_ret)) pssd_nil) xs_if) (pssd_one (ps_w (ps_ret (pe_w (pe_ix ix_lt (pe_w (pe_lst (pa_w (pa_cons (pe_w pe_str (xd_c fun _ => .str)) (pa_w (pa_cons (pe_w pe_str (xd_c fun _ => .str)) (pa_w (pa_cons (pe_w pe_str (xd_c fun _ => .str)) (pa_w (pa_cons (pe_w pe_str (xd_c fun _ => .str)) (pa_w (pa_cons (pe_w pe_str (xd_c fun _ => .str)) (pa_w (pa_cons (pe_w pe_str (xd_c fun _ => .str)) (pa_w pa_nil xa_nil)) xa_cons)) xa_cons)) xa_cons)) xa_cons)) xa_cons)) xa_cons)) xd_lst) (pe_w (pe_bm PySem.F.plainAttrs_list PySem.F.slot_list_index PySem.F.type_list_index (mt_indexD (by have h := hr.un; have h2 := Nat.lt_of_le_of_lt (Nat.le_trans (Nat.add_le_add_left (by decide : 65 ≤ 16 * 6 + 200) _) (Nat.le_of_eq (Nat.add_assoc _ _ _).symm)) h; exact h2)) (pe_w (pv 2) xd_var) (pa_w (pa_cons (pe_w pe_bl (xd_c fun _ => .bl)) (pa_w pa_nil xa_nil)) xa_cons)) (xd_meth md_idxB)) (fun _ _ => rfl)) (xd_op od_ixL))) xs_ret))))))
    · rcases List.mem_cons.mp hn with rfl | hn
      · exact XN.te
      · exact (XS.t n hn).te
end

def st_law_works (j : Nat) : Stmt := (defBody s_law_works).getD j (.Pass ⟨0, 0, 0, 0⟩)
def lam_law_works_0 : FXL.LamD := lamD "_law_works.<locals>.<lambda>" ["_law_neck_here", "_law_chord", "_law_chords", "_law_tune", "_law_hand_here"] (st_law_works 0)
def lam_law_works_1 : FXL.LamD := lamD "_law_works.<locals>.<lambda>" ["_law_neck_here", "_law_chord", "_law_chords", "_law_tune", "_law_hand_here"] (st_law_works 1)
def lam_law_works_2 : FXL.LamD := lamD "_law_works.<locals>.<lambda>" ["_law_neck_here", "_law_chord", "_law_chords", "_law_tune", "_law_hand_here"] (st_law_works 2)
def lam_law_works_3 : FXL.LamD := lamD "_law_works.<locals>.<lambda>" ["_law_neck_here", "_law_chord", "_law_chords", "_law_tune", "_law_hand_here"] (st_law_works 3)
def lams_law_works : List FXL.LamD := [lam_law_works_0, lam_law_works_1, lam_law_works_2, lam_law_works_3]
def Ws_law_works : List WXp := [(dCallX f_ways (aCons (dVar 0) (aCons (dVar 1) (aCons (dVar 4) aNil)))), (dCallX f_retuned (aCons (dVar 0) (aCons (dVar 2) (aCons (dVar 4) aNil)))), (dCallX f_played (aCons (dVar 0) (aCons (dVar 3) (aCons (dOp rdIx (dVar 4) (dC (.int 0))) aNil)))), (dCallX f_table (aCons (dVar 0) (aCons (dVar 3) (aCons (dOp rdIx (dVar 4) (dC (.int 0))) aNil))))]
theorem sc_law_works : FnScope ["_law_neck_here", "_law_chord", "_law_chords", "_law_tune", "_law_hand_here", "_law_works_here"] ["_law_neck_here", "_law_chord", "_law_chords", "_law_tune", "_law_hand_here"] (defScope s_law_works) := ⟨rfl, rfl, rfl, by decide +kernel, rfl, by decide +kernel, by decide +kernel⟩
theorem lamsOk_law_works : ∀ l ∈ lams_law_works, l.Ok := fun l hl => by
  simp only [lams_law_works, List.mem_cons, List.not_mem_nil, or_false] at hl
  rcases hl with rfl | rfl | rfl | rfl <;> exact ⟨rfl, rfl, rfl, by decide +kernel, fun _ _ _ _ => rfl⟩
theorem lamsS_law_works : LamsOk (defScope s_law_works) ["_law_neck_here", "_law_chord", "_law_chords", "_law_tune", "_law_hand_here", "_law_works_here"] ["_law_neck_here", "_law_chord", "_law_chords", "_law_tune", "_law_hand_here"] "_law_works.<locals>.<lambda>" lams_law_works where
  q := fun l hl => by
    simp only [lams_law_works, List.mem_cons, List.not_mem_nil, or_false] at hl
    rcases hl with rfl | rfl | rfl | rfl <;> rfl
  N := fun l hl => by
    simp only [lams_law_works, List.mem_cons, List.not_mem_nil, or_false] at hl
    rcases hl with rfl | rfl | rfl | rfl <;> rfl
  free := fun l hl => by
    simp only [lams_law_works, List.mem_cons, List.not_mem_nil, or_false] at hl
    rcases hl with rfl | rfl | rfl | rfl <;> decide +kernel
  own := fun l hl => by
    simp only [lams_law_works, List.mem_cons, List.not_mem_nil, or_false] at hl
    rcases hl with rfl | rfl | rfl | rfl <;> decide +kernel
  len := by decide
  ne := by simp [lams_law_works]
section
variable {P : Program} {w : World} {g : Glb} {mg : Str → Option Value} {base : Heap}

theorem ok_law_works {fd : FuncData} (F : FunP g.K "_law_works" s_law_works (He.fAd g.K ("_law_works", none)) fd) (mgf : mg "_law_works" = some (.ref (He.fAd g.K ("_law_works", none)))) (T : Txt mg) (TB : LamX.TabB base mg (He.codeOf g.K ("_law_works", none)) (He.tabOf g.K (He.codeOf g.K ("_law_works", none))))
    (hP : He.tabOf g.K (He.codeOf g.K ("_law_works", none)) ∈ g.Ps ∧ (He.tabOf g.K (He.codeOf g.K ("_law_works", none)), ("_law_works.<locals>.<lambda>" : Str)) ∈ g.Ls ∧ ∀ q', (He.tabOf g.K (He.codeOf g.K ("_law_works", none)), q') ∈ g.Ls → q' = "_law_works.<locals>.<lambda>") : C8.Cal P w g.K mg base 1 "_law_works" (spW g 5 lams_law_works) [] := by
  refine works_ok (k := 0) (i := 5) (init := [st_law_works 0, st_law_works 1, st_law_works 2, st_law_works 3]) F mgf (F.bindsN fun _ _ _ _ _ _ us hl => match us, hl with | [_, _, _, _, _], _ => rfl) sc_law_works lamsS_law_works hP.1 hP.2.1 hP.2.2 rfl rfl rfl (by decide) (cells_in rfl (by decide +kernel)) (cells_of (by decide +kernel)) (fun cdv A outer s H E hcd hr => ⟨[(st_law_works 0, ts0 (He.tabOf g.K (He.codeOf g.K ("_law_works", none))) 5 (cellsFrom (s.heap.objs.size + 1) (defScope s_law_works).names []) lam_law_works_0), (st_law_works 1, tsA g.K (He.tabOf g.K (He.codeOf g.K ("_law_works", none))) 5 (cellsFrom (s.heap.objs.size + 1) (defScope s_law_works).names []) lam_law_works_1), (st_law_works 2, tsA g.K (He.tabOf g.K (He.codeOf g.K ("_law_works", none))) 5 (cellsFrom (s.heap.objs.size + 1) (defScope s_law_works).names []) lam_law_works_2), (st_law_works 3, tsA g.K (He.tabOf g.K (He.codeOf g.K ("_law_works", none))) 5 (cellsFrom (s.heap.objs.size + 1) (defScope s_law_works).names []) lam_law_works_3)], rfl, fun p hp => ?_, rfl⟩)
  simp only [List.mem_cons, List.not_mem_nil, or_false] at hp
  rcases hp with rfl | rfl | rfl | rfl
  · exact ps_set (i := 5) sc_law_works.nd rfl (.inl rfl) (pe_lst (pa_cons (pe_lam (l := lam_law_works_0) ⟨TB.code, TB.bm, TB.gP⟩ hcd rfl rfl (fun _ y hy e => cell_has (lamsS_law_works.free _ (by simp [lams_law_works]) y hy e))) pa_nil))
  · exact ps_expr (pe_bm PySem.F.plainAttrs_list PySem.F.slot_list_append PySem.F.type_list_append mt_append (pv 5) (pa_cons (pe_lam (l := lam_law_works_1) ⟨TB.code, TB.bm, TB.gP⟩ hcd rfl rfl (fun _ y hy e => cell_has (lamsS_law_works.free _ (by simp [lams_law_works]) y hy e))) pa_nil))
  · exact ps_expr (pe_bm PySem.F.plainAttrs_list PySem.F.slot_list_append PySem.F.type_list_append mt_append (pv 5) (pa_cons (pe_lam (l := lam_law_works_2) ⟨TB.code, TB.bm, TB.gP⟩ hcd rfl rfl (fun _ y hy e => cell_has (lamsS_law_works.free _ (by simp [lams_law_works]) y hy e))) pa_nil))
  · exact ps_expr (pe_bm PySem.F.plainAttrs_list PySem.F.slot_list_append PySem.F.type_list_append mt_append (pv 5) (pa_cons (pe_lam (l := lam_law_works_3) ⟨TB.code, TB.bm, TB.gP⟩ hcd rfl rfl (fun _ y hy e => cell_has (lamsS_law_works.free _ (by simp [lams_law_works]) y hy e))) pa_nil))
theorem ld_law_works (T : Txt mg) (C_ways : CalX P w g.K mg base 5 "ways" (spX g f_ways)) (C_retuned : CalX P w g.K mg base 5 "retuned" (spX g f_retuned)) (C_played : CalX P w g.K mg base 4 "played" (spX g f_played)) (C_table : CalX P w g.K mg base 3 "table" (spX g f_table)) (r a : Addr) (ns : List Int) (j : Nat) (l : FXL.LamD) (Wl : WXp) (h1 : lams_law_works[j]? = some l) (h2 : Ws_law_works[j]? = some Wl) : LamDer P w mg base 5 ⟨g, r, a, ns⟩ l Wl := by
  match j, h1, h2 with
  | 0, h1, h2 =>
    cases h1
    cases h2
    intro A outer s H E cl f c' hr
    have tk : Takes (FXL.lamY P w g.K mg base lam_law_works_0 cl A outer s H E f c') (wishE E) := takes_of rfl rfl rfl rfl
    exact (pe_w (pe_cx C_ways hr (by decide) (by rfl) tk (pa_w (pa_cons (pe_w (pv 0) xd_var) (pa_w (pa_cons (pe_w (pv 1) xd_var) (pa_w (pa_cons (pe_w (pv 4) xd_var) (pa_w pa_nil xa_nil)) xa_cons)) xa_cons)) xa_cons)) xdx_call)
  | 1, h1, h2 =>
    cases h1
    cases h2
    intro A outer s H E cl f c' hr
    have tk : Takes (FXL.lamY P w g.K mg base lam_law_works_1 cl A outer s H E f c') (wishE E) := takes_of rfl rfl rfl rfl
    exact (pe_w (pe_cx C_retuned hr (by decide) (by rfl) tk (pa_w (pa_cons (pe_w (pv 0) xd_var) (pa_w (pa_cons (pe_w (pv 2) xd_var) (pa_w (pa_cons (pe_w (pv 4) xd_var) (pa_w pa_nil xa_nil)) xa_cons)) xa_cons)) xa_cons)) xdx_call)
  | 2, h1, h2 =>
    cases h1
    cases h2
    intro A outer s H E cl f c' hr
    have tk : Takes (FXL.lamY P w g.K mg base lam_law_works_2 cl A outer s H E f c') (wishE E) := takes_of rfl rfl rfl rfl
    exact (pe_w (pe_cx C_played hr (by decide) (by rfl) tk (pa_w (pa_cons (pe_w (pv 0) xd_var) (pa_w (pa_cons (pe_w (pv 3) xd_var) (pa_w (pa_cons (pe_w (pe_ix ix_lt (pe_w (pv 4) xd_var) (pe_w pe_int (xd_c fun _ => .int)) (fun _ _ => rfl)) (xd_op od_ixL)) (pa_w pa_nil xa_nil)) xa_cons)) xa_cons)) xa_cons)) xdx_call)
  | 3, h1, h2 =>
    cases h1
    cases h2
    intro A outer s H E cl f c' hr
    have tk : Takes (FXL.lamY P w g.K mg base lam_law_works_3 cl A outer s H E f c') (wishE E) := takes_of rfl rfl rfl rfl
    exact (pe_w (pe_cx C_table hr (by decide) (by rfl) tk (pa_w (pa_cons (pe_w (pv 0) xd_var) (pa_w (pa_cons (pe_w (pv 3) xd_var) (pa_w (pa_cons (pe_w (pe_ix ix_lt (pe_w (pv 4) xd_var) (pe_w pe_int (xd_c fun _ => .int)) (fun _ _ => rfl)) (xd_op od_ixL)) (pa_w pa_nil xa_nil)) xa_cons)) xa_cons)) xa_cons)) xdx_call)
  | j + 4, h1, h2 => cases h1
end

def st_law_handed (j : Nat) : Stmt := (defBody s_law_handed).getD j (.Pass ⟨0, 0, 0, 0⟩)
def lam_law_handed_0 : FXL.LamD := lamD "_law_handed.<locals>.<lambda>" ["_law_neck_here", "_law_chord", "_law_hand_here"] (st_law_handed 0)
def lam_law_handed_1 : FXL.LamD := lamD "_law_handed.<locals>.<lambda>" ["_law_neck_here", "_law_chord", "_law_hand_here"] (st_law_handed 1)
def lams_law_handed : List FXL.LamD := [lam_law_handed_0, lam_law_handed_1]
def Ws_law_handed : List WXp := [(dCallX f_ways (aCons (dVar 0) (aCons (dVar 1) (aCons (dVar 2) aNil)))), (dCallX f_retuned (aCons (dVar 0) (aCons (dLst (aCons (dVar 1) aNil)) (aCons (dVar 2) aNil))))]
theorem sc_law_handed : FnScope ["_law_neck_here", "_law_chord", "_law_hand_here", "_law_works_here"] ["_law_neck_here", "_law_chord", "_law_hand_here"] (defScope s_law_handed) := ⟨rfl, rfl, rfl, by decide +kernel, rfl, by decide +kernel, by decide +kernel⟩
theorem lamsOk_law_handed : ∀ l ∈ lams_law_handed, l.Ok := fun l hl => by
  simp only [lams_law_handed, List.mem_cons, List.not_mem_nil, or_false] at hl
  rcases hl with rfl | rfl <;> exact ⟨rfl, rfl, rfl, by decide +kernel, fun _ _ _ _ => rfl⟩
theorem lamsS_law_handed : LamsOk (defScope s_law_handed) ["_law_neck_here", "_law_chord", "_law_hand_here", "_law_works_here"] ["_law_neck_here", "_law_chord", "_law_hand_here"] "_law_handed.<locals>.<lambda>" lams_law_handed where
  q := fun l hl => by
    simp only [lams_law_handed, List.mem_cons, List.not_mem_nil, or_false] at hl
    rcases hl with rfl | rfl <;> rfl
  N := fun l hl => by
    simp only [lams_law_handed, List.mem_cons, List.not_mem_nil, or_false] at hl
    rcases hl with rfl | rfl <;> rfl
  free := fun l hl => by
    simp only [lams_law_handed, List.mem_cons, List.not_mem_nil, or_false] at hl
    rcases hl with rfl | rfl <;> decide +kernel
  own := fun l hl => by
    simp only [lams_law_handed, List.mem_cons, List.not_mem_nil, or_false] at hl
    rcases hl with rfl | rfl <;> decide +kernel
  len := by decide
  ne := by simp [lams_law_handed]
section
variable {P : Program} {w : World} {g : Glb} {mg : Str → Option Value} {base : Heap}

theorem ok_law_handed {fd : FuncData} (F : FunP g.K "_law_handed" s_law_handed (He.fAd g.K ("_law_handed", none)) fd) (mgf : mg "_law_handed" = some (.ref (He.fAd g.K ("_law_handed", none)))) (T : Txt mg) (TB : LamX.TabB base mg (He.codeOf g.K ("_law_handed", none)) (He.tabOf g.K (He.codeOf g.K ("_law_handed", none))))
    (hP : He.tabOf g.K (He.codeOf g.K ("_law_handed", none)) ∈ g.Ps ∧ (He.tabOf g.K (He.codeOf g.K ("_law_handed", none)), ("_law_handed.<locals>.<lambda>" : Str)) ∈ g.Ls ∧ ∀ q', (He.tabOf g.K (He.codeOf g.K ("_law_handed", none)), q') ∈ g.Ls → q' = "_law_handed.<locals>.<lambda>") : C8.Cal P w g.K mg base 1 "_law_handed" (spW g 3 lams_law_handed) [] := by
  refine works_ok (k := 0) (i := 3) (init := [st_law_handed 0, st_law_handed 1]) F mgf (F.bindsN fun _ _ _ _ _ _ us hl => match us, hl with | [_, _, _], _ => rfl) sc_law_handed lamsS_law_handed hP.1 hP.2.1 hP.2.2 rfl rfl rfl (by decide) (cells_in rfl (by decide +kernel)) (cells_of (by decide +kernel)) (fun cdv A outer s H E hcd hr => ⟨[(st_law_handed 0, ts0 (He.tabOf g.K (He.codeOf g.K ("_law_handed", none))) 3 (cellsFrom (s.heap.objs.size + 1) (defScope s_law_handed).names []) lam_law_handed_0), (st_law_handed 1, tsA g.K (He.tabOf g.K (He.codeOf g.K ("_law_handed", none))) 3 (cellsFrom (s.heap.objs.size + 1) (defScope s_law_handed).names []) lam_law_handed_1)], rfl, fun p hp => ?_, rfl⟩)
  simp only [List.mem_cons, List.not_mem_nil, or_false] at hp
  rcases hp with rfl | rfl
  · exact ps_set (i := 3) sc_law_handed.nd rfl (.inl rfl) (pe_lst (pa_cons (pe_lam (l := lam_law_handed_0) ⟨TB.code, TB.bm, TB.gP⟩ hcd rfl rfl (fun _ y hy e => cell_has (lamsS_law_handed.free _ (by simp [lams_law_handed]) y hy e))) pa_nil))
  · exact ps_expr (pe_bm PySem.F.plainAttrs_list PySem.F.slot_list_append PySem.F.type_list_append mt_append (pv 3) (pa_cons (pe_lam (l := lam_law_handed_1) ⟨TB.code, TB.bm, TB.gP⟩ hcd rfl rfl (fun _ y hy e => cell_has (lamsS_law_handed.free _ (by simp [lams_law_handed]) y hy e))) pa_nil))
theorem ld_law_handed (T : Txt mg) (C_ways : CalX P w g.K mg base 5 "ways" (spX g f_ways)) (C_retuned : CalX P w g.K mg base 5 "retuned" (spX g f_retuned)) (r a : Addr) (ns : List Int) (j : Nat) (l : FXL.LamD) (Wl : WXp) (h1 : lams_law_handed[j]? = some l) (h2 : Ws_law_handed[j]? = some Wl) : LamDer P w mg base 5 ⟨g, r, a, ns⟩ l Wl := by
  match j, h1, h2 with
  | 0, h1, h2 =>
    cases h1
    cases h2
    intro A outer s H E cl f c' hr
    have tk : Takes (FXL.lamY P w g.K mg base lam_law_handed_0 cl A outer s H E f c') (wishE E) := takes_of rfl rfl rfl rfl
    exact (pe_w (pe_cx C_ways hr (by decide) (by rfl) tk (pa_w (pa_cons (pe_w (pv 0) xd_var) (pa_w (pa_cons (pe_w (pv 1) xd_var) (pa_w (pa_cons (pe_w (pv 2) xd_var) (pa_w pa_nil xa_nil)) xa_cons)) xa_cons)) xa_cons)) xdx_call)
  | 1, h1, h2 =>
    cases h1
    cases h2
    intro A outer s H E cl f c' hr
    have tk : Takes (FXL.lamY P w g.K mg base lam_law_handed_1 cl A outer s H E f c') (wishE E) := takes_of rfl rfl rfl rfl
    exact (pe_w (pe_cx C_retuned hr (by decide) (by rfl) tk (pa_w (pa_cons (pe_w (pv 0) xd_var) (pa_w (pa_cons (pe_w (pe_lst (pa_w (pa_cons (pe_w (pv 1) xd_var) (pa_w pa_nil xa_nil)) xa_cons)) xd_lst) (pa_w (pa_cons (pe_w (pv 2) xd_var) (pa_w pa_nil xa_nil)) xa_cons)) xa_cons)) xa_cons)) xdx_call)
  | j + 2, h1, h2 => cases h1
end

/-! ### the law of k12 -/
def W_law_turn_19 : WS := (dIfS (bNot (bTru (dCall f_law_alike (aCons (dWork1 1 5 Ws_law_works okX tellX (aCons (dVar 16) (aCons (dVar 9) (aCons (dVar 10) (aCons (dVar 12) (aCons (dVar 7) aNil)))))) (aCons (dC (.str "neck")) aNil))))) (dRet (dC (.bool false))) dNext)
def W_law_turn_18 : WS := (dSeq (dAsg 16 (dTup (aCons (dSl (dOp rdRepT (dVar 3) (dC (.int 5))) oNone (oSome (dC (.int 5))) .tuple) (aCons (dVar 4) (aCons (dVar 5) aNil))))) W_law_turn_19)
def W_law_turn_17 : WS := (dSeq (dIfS (bNot (bTru (dCall f_law_alike (aCons (dVar 13) (aCons (dN (nRep (aCons (dC (.str "neck")) aNil) (dC (.int 4)))) aNil))))) (dRet (dC (.bool false))) dNext) W_law_turn_18)
def W_law_turn_16 : WS := (dSeq (dAsg 13 (dN (nWorks 17 5 Ws_law_works okX tellX (aCons (dVar 15) (aCons (dVar 9) (aCons (dVar 10) (aCons (dVar 12) (aCons (dVar 7) aNil)))))))) W_law_turn_17)
def W_law_turn_15 : WS := (dSeq (dAsg 15 (dOp rdIx (dLst (aCons (dTup (aCons (dTup aNil) (aCons (dVar 4) (aCons (dVar 5) aNil)))) (aCons (dTup (aCons (dVar 3) (aCons (dVar 4) (aCons (dOp rdAdd (dVar 4) (dC (.int 1))) aNil)))) (aCons (dTup (aCons (dVar 3) (aCons (dC (.int 21)) (aCons (dC (.int 0)) aNil)))) aNil)))) (dCall f_law_taken (aCons (dVar 1) (aCons (dC (.int 3)) aNil))))) W_law_turn_16)
def W_law_turn_14 : WS := (dSeq (dIfS (bNot (bTru (dCall f_law_alike (aCons (dVar 13) (aCons (dN (nRep (aCons (dC (.str "hand")) aNil) (dC (.int 2)))) aNil))))) (dRet (dC (.bool false))) dNext) W_law_turn_15)
def W_law_turn_13 : WS := (dSeq (dAsg 13 (dN (nWorks 17 3 Ws_law_handed okX tellX (aCons (dVar 6) (aCons (dVar 8) (aCons (dVar 14) aNil)))))) W_law_turn_14)
def W_law_turn_12 : WS := (dSeq (dAsg 14 (dOp rdIx (dLst (aCons (dTup (aCons (dC (.int 3)) aNil)) (aCons (dTup (aCons (dC (.int 3)) (aCons (dC (.int 7)) aNil))) (aCons (dTup (aCons (dC (.int 3)) (aCons (dC (.int 3)) (aCons (dC (.int 3)) aNil)))) (aCons (dTup (aCons (dC (.int 3)) (aCons (dOp rdSub (dC (.int 0)) (dC (.int 1))) aNil))) (aCons (dTup aNil) (aCons (dTup (aCons (dC (.int 7)) (aCons (dC (.int 3)) aNil))) aNil))))))) (dCall f_law_taken (aCons (dVar 1) (aCons (dC (.int 6)) aNil))))) W_law_turn_13)
def W_law_turn_11 : WS := (dSeq (dIfS (bNot (bTru (dCall f_law_alike (aCons (dVar 13) (aCons (dN (nRep (aCons (dC (.str "hand")) aNil) (dC (.int 4)))) aNil))))) (dRet (dC (.bool false))) dNext) W_law_turn_12)
def W_law_turn_10 : WS := (dSeq (dAsg 13 (dN (nWorks 17 5 Ws_law_works okX tellX (aCons (dVar 6) (aCons (dVar 8) (aCons (dN (nRep (aCons (dVar 8) aNil) (dCall f_law_taken (aCons (dVar 1) (aCons (dC (.int 7)) aNil))))) (aCons (dLst (aCons (dC (.int 3)) (aCons (dC (.int 80)) aNil))) (aCons (dVar 7) aNil)))))))) W_law_turn_11)
def W_law_turn_9 : WS := (dSeq (dIfS (bNot (bTru (dCall f_law_alike (aCons (dVar 13) (aCons (dLst (aCons (dTup (aCons (dC (.str "chord")) (aCons (dC (.int 0)) aNil))) (aCons (dVar 11) (aCons (dC (.str "tune")) (aCons (dC (.str "tune")) aNil))))) aNil))))) (dRet (dC (.bool false))) dNext) W_law_turn_10)
def W_law_turn_8 : WS := (dSeq (dAsg 13 (dN (nWorks 17 5 Ws_law_works okX tellX (aCons (dVar 6) (aCons (dVar 9) (aCons (dVar 10) (aCons (dVar 12) (aCons (dVar 7) aNil)))))))) W_law_turn_9)
def W_law_turn_7 : WS := (dSeq (dAsg 12 (dCall rdList (aCons (dCall f_law_odd_notes (aCons (dVar 1) (aCons (dC (.int 30)) aNil))) aNil))) W_law_turn_8)
def W_law_turn_6 : WS := (dSeq (dAsg 11 (dTup (aCons (dC (.str "chord")) (aCons (dIf (bB (dOp rdGt (dCall rdLen (aCons (dVar 10) aNil)) (dC (.int 6)))) (dC (.int 6)) (dMeth rdIdxT (dVar 10) (aCons (dVar 9) aNil))) aNil)))) W_law_turn_7)
def W_law_turn_5 : WS := (dSeq (dAsg 10 (dOp rdCatL (dN (nRep (aCons (dVar 8) aNil) (dCall f_law_taken (aCons (dVar 1) (aCons (dC (.int 6)) aNil))))) (dLst (aCons (dVar 9) (aCons (dTup aNil) aNil))))) W_law_turn_6)
def W_law_turn_4 : WS := (dSeq (dAsg 9 (dCall f_law_odd_chord (aCons (dVar 1) aNil))) W_law_turn_5)
def W_law_turn_3 : WS := (dSeq (dAsg 8 (dOp rdIx (dLst (aCons (dTup (aCons (dC (.int 3)) aNil)) (aCons (dTup (aCons (dC (.int 3)) (aCons (dC (.int 4)) aNil))) (aCons (dTup (aCons (dC (.int 0)) (aCons (dC (.int 80)) aNil))) aNil)))) (dCall f_law_taken (aCons (dVar 1) (aCons (dC (.int 3)) aNil))))) W_law_turn_4)
def W_law_turn_2 : WS := (dSeq (dAsg 7 (dOp rdIx (dLst (aCons (dTup (aCons (dOp rdAdd (dC (.int 7)) (dCall f_law_taken (aCons (dVar 1) (aCons (dC (.int 9)) aNil)))) (aCons (dC (.int 1)) aNil))) (aCons (dTup (aCons (dOp rdSub (dC (.int 0)) (dC (.int 1))) (aCons (dC (.int 2)) aNil))) aNil))) (dCall f_law_taken (aCons (dVar 1) (aCons (dC (.int 2)) aNil))))) W_law_turn_3)
def W_law_turn_1 : WS := (dSeq (dAsg 6 (dTup (aCons (dSl (dVar 3) oNone (oSome (dC (.int 4))) .tuple) (aCons (dVar 4) (aCons (dVar 5) aNil))))) W_law_turn_2)
def W_law_turn_0 : WS := (dSeq (dUnp [3, 4, 5] (dCall f_law_neck (aCons (dVar 1) (aCons (dC (.int 4)) aNil)))) W_law_turn_1)
def W_law : WS := (dSeq (dFor (iR1 (aCons (dC (.int 4)) aNil)) (tgN 2) W_law_turn_0) (dRet (dC (.bool true))))
def N_law : List Str := ["_law_script", "_law_row", "_law_turn", "_law_tuning", "_law_frets", "_law_capo", "_law_neck_here", "_law_hand_here", "_law_good", "_law_chord", "_law_chords", "_law_due", "_law_tune", "_law_told_here", "_law_odd", "_law_bad", "_law_five", "_law_work"]
theorem sc_law : FnScope ["_law_script", "_law_row", "_law_turn", "_law_tuning", "_law_frets", "_law_capo", "_law_neck_here", "_law_hand_here", "_law_good", "_law_chord", "_law_chords", "_law_due", "_law_tune", "_law_told_here", "_law_odd", "_law_bad", "_law_five", "_law_work"] ["_law_script"] (defScope s_law) := ⟨rfl, rfl, rfl, by decide +kernel, rfl, by decide +kernel, by decide +kernel⟩
theorem cut12 {α : Type} {φ : α → D} (l : List α) (n : Nat) : cutD (l.map φ) none (some (n : Int)) = (l.take n).map φ := by
  unfold cutD
  rw [HT.sIx_nat, HT.sIx_none, List.length_map, List.map_take, List.drop_zero, Nat.sub_zero]
  rcases Nat.le_total n l.length with h | h
  · rw [Nat.min_eq_left h]
  · rw [Nat.min_eq_right h, List.take_of_length_le (by simp), List.take_of_length_le (by simpa using h)]
/-- a def that is refused so -/
def Ref (f : Fx) (ds : List D) (x : Exc) : Prop := ∀ (R : D → Prop) (RX : Exc → Prop), RX x → f ds R RX
theorem works_tell {t l h : List Int} {f c r : Int} {ls : List (List Int)} {ns : List Int} {x0 x1 x2 : Exc} (o0 : okX x0) (o1 : okX x1) (o2 : okX x2) (hr : h.head? = some r) (h0 : Ref f_ways [neckD t f c, intsD l, intsD h] x0) (h1 : Ref f_retuned [neckD t f c, .list (ls.map intsD), intsD h] x1) (h2 : Ref f_table [neckD t f c, .list (ns.map .int), .int r] x2) :
    ∀ (j : Nat) (Wl : WXp) (z : D), Ws_law_works[j]? = some Wl → [tellX x0, tellX x1, tellX x2, tellX x2][j]? = some z → z ≠ .dict [] ∧ Wl (fun x => okX x ∧ tellX x = z) ([neckD t f c, intsD l, .list (ls.map intsD), .list (ns.map .int), intsD h].map .val) (fun _ => PyData.none = z) := by
  have nd : ∀ x, tellX x ≠ .dict [] := fun x => by
    obtain ⟨n, o⟩ := x
    cases o <;> exact fun z => by cases z
  cases h with
  | nil => cases hr
  | cons r' h =>
    simp at hr
    subst hr
    intro j Wl z hW hz
    match j, hW, hz with
    | 0, hW, hz =>
      cases hW
      cases hz
      refine ⟨nd _, ?_⟩
      simp [-ways_iff, -retuned_iff, -table_iff]
      exact h0 _ _ ⟨o0, rfl⟩
    | 1, hW, hz =>
      cases hW
      cases hz
      refine ⟨nd _, ?_⟩
      simp [-ways_iff, -retuned_iff, -table_iff]
      exact h1 _ _ ⟨o1, rfl⟩
    | 2, hW, hz =>
      cases hW
      cases hz
      refine ⟨nd _, ?_⟩
      simp [-ways_iff, -retuned_iff, -table_iff]
      exact h2 _ _ ⟨o2, rfl⟩
    | 3, hW, hz =>
      cases hW
      cases hz
      refine ⟨nd _, ?_⟩
      simp [-ways_iff, -retuned_iff, -table_iff]
      exact h2 _ _ ⟨o2, rfl⟩
    | j + 4, hW, hz => cases hW
theorem handed_tell {t l h : List Int} {f c : Int} {x0 x1 : Exc} (o0 : okX x0) (o1 : okX x1) (h0 : Ref f_ways [neckD t f c, intsD l, intsD h] x0) (h1 : Ref f_retuned [neckD t f c, .list ([l].map intsD), intsD h] x1) :
    ∀ (j : Nat) (Wl : WXp) (z : D), Ws_law_handed[j]? = some Wl → [tellX x0, tellX x1][j]? = some z → z ≠ .dict [] ∧ Wl (fun x => okX x ∧ tellX x = z) ([neckD t f c, intsD l, intsD h].map .val) (fun _ => PyData.none = z) := by
  have nd : ∀ x, tellX x ≠ .dict [] := fun x => by
    obtain ⟨n, o⟩ := x
    cases o <;> exact fun z => by cases z
  intro j Wl z hW hz
  match j, hW, hz with
  | 0, hW, hz =>
    cases hW
    cases hz
    refine ⟨nd _, ?_⟩
    simp [-ways_iff, -retuned_iff, -table_iff]
    exact h0 _ _ ⟨o0, rfl⟩
  | 1, hW, hz =>
    cases hW
    cases hz
    refine ⟨nd _, ?_⟩
    simp [-ways_iff, -retuned_iff, -table_iff]
    exact h1 _ _ ⟨o1, rfl⟩
  | j + 2, hW, hz => cases hW
theorem ref_ways_neck {t l h : List Int} {f c : Int} (hl : t.length ≤ 1000) (n : ¬ OkNeck t f c) : Ref f_ways [neckD t f c, intsD l, intsD h] ("BadNeck", none) := fun R RX r => ways_iff.mpr ⟨hl, fun _ => r, fun o => absurd o n, fun o => absurd o n, fun z => n z.1⟩
theorem ref_ways_chord {t l h : List Int} {f c : Int} (o : OkNeck t f c) (n : ¬ OkChord l) : Ref f_ways [neckD t f c, intsD l, intsD h] ("BadChord", some 0) := fun R RX r => ways_iff.mpr ⟨by have := o.l2; omega, fun z => absurd o z, fun _ _ => r, fun _ z => absurd z n, fun z => n z.2.1⟩
theorem ref_ways_hand {t l h : List Int} {f c : Int} (o : OkNeck t f c) (oc : OkChord l) (n : ¬ OkHand h) : Ref f_ways [neckD t f c, intsD l, intsD h] ("BadHand", none) := fun R RX r => ways_iff.mpr ⟨by have := o.l2; omega, fun z => absurd o z, fun _ z => absurd oc z, fun _ _ _ => r, fun z => n z.2.2⟩
theorem ref_ret_neck {t h : List Int} {ls : List (List Int)} {f c : Int} (hl : t.length ≤ 1000) (hm : ls.length ≤ 1000) (n : ¬ (OkNeck t f c ∧ t.length ≤ 4)) : Ref f_retuned [neckD t f c, .list (ls.map intsD), intsD h] ("BadNeck", none) := fun R RX r => retuned_iff.mpr ⟨hl, hm, fun _ => r, fun a b => absurd ⟨a, b⟩ n⟩
theorem ref_ret_many {t h : List Int} {ls : List (List Int)} {f c : Int} (o : OkNeck t f c) (h4 : t.length ≤ 4) (hm : ls.length ≤ 1000) (h6 : 6 < ls.length) : Ref f_retuned [neckD t f c, .list (ls.map intsD), intsD h] ("BadChord", some 6) := fun R RX r => retuned_iff.mpr ⟨by omega, hm, fun z => absurd ⟨o, h4⟩ z, fun _ _ => ⟨fun _ => r, fun q => by omega, fun q => by omega⟩⟩
theorem bad_uniq : ∀ {a b : List (List Int)} {l m : List Int} {r s : List (List Int)}, a ++ l :: r = b ++ m :: s → (∀ x ∈ a, OkChord x) → (∀ x ∈ b, OkChord x) → ¬ OkChord l → ¬ OkChord m → a = b
  | [], [], _, _, _, _, _, _, _, _, _ => rfl
  | [], y :: b, l, m, r, s, h, _, hb, hl, _ => by
    simp only [List.nil_append, List.cons_append, List.cons.injEq] at h
    exact absurd (hb y (List.mem_cons_self ..)) (by rw [← h.1]; exact hl)
  | x :: a, [], l, m, r, s, h, ha, _, _, hm => by
    simp only [List.nil_append, List.cons_append, List.cons.injEq] at h
    exact absurd (ha x (List.mem_cons_self ..)) (by rw [h.1]; exact hm)
  | x :: a, y :: b, l, m, r, s, h, ha, hb, hl, hm => by
    simp only [List.cons_append, List.cons.injEq] at h
    rw [h.1, bad_uniq h.2 (fun z hz => ha z (List.mem_cons_of_mem _ hz)) (fun z hz => hb z (List.mem_cons_of_mem _ hz)) hl hm]
theorem ref_ret_chord {t h : List Int} {done r : List (List Int)} {l : List Int} {f c : Int} (o : OkNeck t f c) (h4 : t.length ≤ 4) (h6 : (done ++ l :: r).length ≤ 6) (hd : ∀ m ∈ done, OkChord m) (n : ¬ OkChord l) : Ref f_retuned [neckD t f c, .list ((done ++ l :: r).map intsD), intsD h] ("BadChord", some (done.length : Int)) := fun R RX rr =>
  retuned_iff.mpr ⟨by omega, by omega, fun z => absurd ⟨o, h4⟩ z, fun _ _ => ⟨fun q => by omega, fun _ d2 l2 r2 e hd2 n2 => by
    have := bad_uniq e hd hd2 n n2
    rw [← this]; exact rr, fun _ all => absurd (all l (by simp)) n⟩⟩
theorem ref_ret_hand {t h : List Int} {ls : List (List Int)} {f c : Int} (o : OkNeck t f c) (h4 : t.length ≤ 4) (h6 : ls.length ≤ 6) (hd : ∀ m ∈ ls, OkChord m) (n : ¬ OkHand h) : Ref f_retuned [neckD t f c, .list (ls.map intsD), intsD h] ("BadHand", none) := fun R RX rr =>
  retuned_iff.mpr ⟨by omega, by omega, fun z => absurd ⟨o, h4⟩ z, fun _ _ => ⟨fun q => by omega, fun _ d2 l2 r2 e hd2 n2 => absurd (hd l2 (by rw [e]; simp)) n2, fun _ _ => ⟨n, rr⟩⟩⟩
theorem ref_tab_neck {t ns : List Int} {f c r : Int} (hl : t.length ≤ 1000) (n : ¬ OkNeck t f c) : Ref f_table [neckD t f c, .list (ns.map .int), .int r] ("BadNeck", none) := fun R RX rr => table_iff.mpr ⟨hl, fun _ => rr, fun o => absurd o n, fun o => absurd o n⟩
theorem ref_tab_tune {t ns : List Int} {f c r : Int} (o : OkNeck t f c) (n : ¬ OkTune ns) : Ref f_table [neckD t f c, .list (ns.map .int), .int r] ("BadTune", none) := fun R RX rr => table_iff.mpr ⟨by have := o.l2; omega, fun z => absurd o z, fun _ _ => rr, fun _ z => absurd z n⟩
theorem ref_tab_hand {t ns : List Int} {f c r : Int} (o : OkNeck t f c) (ot : OkTune ns) (n : ¬ (0 ≤ r ∧ r ≤ 6)) : Ref f_table [neckD t f c, .list (ns.map .int), .int r] ("BadHand", none) := fun R RX rr => table_iff.mpr ⟨by have := o.l2; omega, fun z => absurd o z, fun _ z => absurd ot z, fun _ _ => ⟨n, rr⟩⟩
theorem sh_str : SeqAt.shaped (.str "tune") = true ∧ SeqAt.shaped (.str "hand") = true ∧ SeqAt.shaped (.str "neck") = true ∧ SeqAt.shaped (.str "chord") = true := by decide +kernel
theorem nWorks_intro {v n : Nat} {Ws : List WXp} {wa : WA} {e : Sg} {R : List D → Prop} {ds zs : List D} (hv : v < e.length) (ha : ∀ K : List D → Prop, K ds → wa e K) (hn : ds.length = n) (hz : zs.length = Ws.length)
    (hw : ∀ (j : Nat) (Wl : WXp) (z : D), Ws[j]? = some Wl → zs[j]? = some z → z ≠ .dict [] ∧ Wl (fun x => okX x ∧ tellX x = z) (ds.map .val) (fun _ => PyData.none = z)) (hR : R zs) : nWorks v n Ws okX tellX wa e R := ⟨hv, ha _ ⟨hn, zs, hz, hw, hR⟩⟩
def ToldW (n : Nat) (Ws : List WXp) (R : List D → Prop) (ds : List D) : Prop := ds.length = n ∧ ∃ zs : List D, zs.length = Ws.length ∧ (∀ (j : Nat) (Wl : WXp) (z : D), Ws[j]? = some Wl → zs[j]? = some z → z ≠ .dict [] ∧ Wl (fun x => okX x ∧ tellX x = z) (ds.map .val) (fun _ => PyData.none = z)) ∧ R zs
theorem nWorks_mk {v n : Nat} {Ws : List WXp} {wa : WA} {e : Sg} {R : List D → Prop} (hv : v < e.length) (h : wa e (ToldW n Ws R)) : nWorks v n Ws okX tellX wa e R := ⟨hv, h⟩
theorem al_word {n : Nat} {m : Nat} {x : Str} (h : SeqAt.shaped (.str x) = true) (hm : m ≤ 1000) : Al (n + 1) (.list (List.replicate m (.str x))) := .lst (by rw [List.length_replicate]; omega) fun y hy => by
  rw [(List.mem_replicate.mp hy).2]
  exact .str _ h
section
variable {De : EndsD} {t : List Int} {f c : Int} (o : OkNeck t f c) (h4 : t.length ≤ 4) {h good l : List Int} {r : Int} {rest : List Int} (hh : h = r :: rest) (nh : ¬ OkHand h) (nr : ¬ (0 ≤ r ∧ r ≤ 6)) (og : OkChord good) (nl : ¬ OkChord l) {chords : List (List Int)} (hc : chords.length ≤ 1000) {tune : List Int}
include o h4 hh hc
/-- five strings -/
theorem k12_18 (x2 x6 x8 x11 x13 x14 x15 x16 x17 : Sl) (hn : ∀ x16 : Sl, De.nx [.un, .val (.dict []), x2, .val (intsD t), .val (.int f), .val (.int c), x6, .val (intsD h), x8, .val (intsD l), .val (.list (chords.map intsD)), x11, .val (.list (tune.map .int)), x13, x14, x15, x16, x17]) :
    W_law_turn_18 De [.un, .val (.dict []), x2, .val (intsD t), .val (.int f), .val (.int c), x6, .val (intsD h), x8, .val (intsD l), .val (.list (chords.map intsD)), x11, .val (.list (tune.map .int)), x13, x14, x15, x16, x17] := by
  have l1 := o.l1
  have e5 : cutD (List.map PyData.int t ++ (List.map PyData.int t ++ (List.map PyData.int t ++ (List.map PyData.int t ++ List.map PyData.int t)))) none (some 5) = ((t ++ (t ++ (t ++ (t ++ t)))).take 5).map .int := by
    simp only [← List.map_append]
    exact cut12 _ 5
  have l5 : ((t ++ (t ++ (t ++ (t ++ t)))).take 5).length = 5 := by
    rw [List.length_take]
    simp
    omega
  simp [W_law_turn_18, W_law_turn_19]
  rw [e5]
  generalize (t ++ (t ++ (t ++ (t ++ t)))).take 5 = t5 at l5
  refine ⟨fun z => by rw [z] at l1; simp at l1, by omega, ?_⟩
  unfold dWork1
  simp
  refine ⟨_, rfl, .str "neck", ?_, rfl, .str _ sh_str.2.2.1, hn _⟩
  simp [-ways_iff, -retuned_iff, -table_iff]
  have rf : Ref f_retuned [neckD t5 f c, .list (chords.map intsD), intsD h] ("BadNeck", none) := ref_ret_neck (by rw [l5]; omega) hc (fun z => by have := z.2; rw [l5] at this; omega)
  exact rf _ _ ⟨ok_neck, tell_neck⟩
/-- a bad neck -/
theorem k12_15 (x2 x6 x8 x11 x13 x14 x15 x16 x17 : Sl) (hn : ∀ x13 x15 x16 : Sl, De.nx [.un, .val (.dict []), x2, .val (intsD t), .val (.int f), .val (.int c), x6, .val (intsD h), x8, .val (intsD l), .val (.list (chords.map intsD)), x11, .val (.list (tune.map .int)), x13, x14, x15, x16, x17]) :
    W_law_turn_15 De [.un, .val (.dict []), x2, .val (intsD t), .val (.int f), .val (.int c), x6, .val (intsD h), x8, .val (intsD l), .val (.list (chords.map intsD)), x11, .val (.list (tune.map .int)), x13, x14, x15, x16, x17] := by
  have l2 := o.l2
  have f0 := o.f0
  have f1 := o.f1
  have c0 := o.c0
  have c1 := o.c1
  simp [W_law_turn_15]
  intro v v0 v3
  obtain ⟨b, fb, cb, e, nb, lb⟩ : ∃ (b : List Int) (fb cb : Int), atI [neckD [] f c, neckD t f (f + 1), neckD t 21 0] v = some (neckD b fb cb) ∧ ¬ OkNeck b fb cb ∧ b.length ≤ 1000 := by
    obtain ⟨d, e, hd⟩ := atI_in (l := [neckD [] f c, neckD t f (f + 1), neckD t 21 0]) v0 (by simpa using v3)
    simp only [List.mem_cons, List.not_mem_nil, or_false] at hd
    rcases hd with rfl | rfl | rfl
    · exact ⟨_, _, _, e, fun z => by have := z.l1; simp at this, by simp⟩
    · exact ⟨_, _, _, e, fun z => by have := z.c1; omega, by omega⟩
    · exact ⟨_, _, _, e, fun z => by have := z.f1; omega, by omega⟩
  refine ⟨neckD b fb cb, e, ?_⟩
  simp [W_law_turn_16]
  refine nWorks_intro (ds := [neckD b fb cb, intsD l, .list (chords.map intsD), .list (tune.map .int), intsD h]) (zs := [tellX ("BadNeck", none), tellX ("BadNeck", none), tellX ("BadNeck", none), tellX ("BadNeck", none)]) (by simp) (fun K k => by simpa using k) rfl rfl
    (works_tell (r := r) ok_neck ok_neck ok_neck (by rw [hh]; rfl) (ref_ways_neck lb nb) (ref_ret_neck lb hc fun z => nb z.1) (ref_tab_neck lb nb)) ?_
  simp [W_law_turn_17]
  exact ⟨al_word (m := 4) sh_str.2.2.1 (by decide), k12_18 o h4 hh hc _ _ _ _ _ _ _ _ _ fun x16 => hn _ _ _⟩
include og
/-- an odd hand -/
theorem k12_12 (x2 x11 x13 x14 x15 x16 x17 : Sl) (hn : ∀ x13 x14 x15 x16 : Sl, De.nx [.un, .val (.dict []), x2, .val (intsD t), .val (.int f), .val (.int c), .val (neckD t f c), .val (intsD h), .val (intsD good), .val (intsD l), .val (.list (chords.map intsD)), x11, .val (.list (tune.map .int)), x13, x14, x15, x16, x17]) :
    W_law_turn_12 De [.un, .val (.dict []), x2, .val (intsD t), .val (.int f), .val (.int c), .val (neckD t f c), .val (intsD h), .val (intsD good), .val (intsD l), .val (.list (chords.map intsD)), x11, .val (.list (tune.map .int)), x13, x14, x15, x16, x17] := by
  simp [W_law_turn_12]
  intro v v0 v6
  obtain ⟨b, e, nb⟩ : ∃ b : List Int, atI [intsD [3], intsD [3, 7], intsD [3, 3, 3], intsD [3, -1], intsD [], intsD [7, 3]] v = some (intsD b) ∧ ¬ OkHand b := by
    obtain ⟨d, e, hd⟩ := atI_in (l := [intsD [3], intsD [3, 7], intsD [3, 3, 3], intsD [3, -1], intsD [], intsD [7, 3]]) v0 (by simpa using v6)
    simp only [List.mem_cons, List.not_mem_nil, or_false] at hd
    rcases hd with rfl | rfl | rfl | rfl | rfl | rfl
    · exact ⟨_, e, fun z => by have := z.len; simp at this⟩
    · exact ⟨_, e, fun z => by have := z.at_ 7 (by simp); omega⟩
    · exact ⟨_, e, fun z => by have := z.len; simp at this⟩
    · exact ⟨_, e, fun z => by have := z.at_ (-1) (by simp); omega⟩
    · exact ⟨_, e, fun z => by have := z.len; simp at this⟩
    · exact ⟨_, e, fun z => by have := z.at_ 7 (by simp); omega⟩
  refine ⟨intsD b, e, ?_⟩
  simp [W_law_turn_13]
  refine nWorks_intro (ds := [neckD t f c, intsD good, intsD b]) (zs := [tellX ("BadHand", none), tellX ("BadHand", none)]) (by simp) (fun K k => by simpa using k) rfl rfl (handed_tell ok_hand ok_hand (ref_ways_hand o og nb) (ref_ret_hand o h4 (by simp) (fun m hm => by rw [List.mem_singleton.mp hm]; exact og) nb)) ?_
  simp [W_law_turn_14]
  exact ⟨al_word (m := 2) sh_str.2.1 (by decide), k12_15 o h4 hh hc _ _ _ _ _ _ _ _ _ fun x13 x15 x16 => hn _ _ _ _⟩
include nh nr
/-- a hand that is none, behind a good chord and a good tune -/
theorem k12_10 (x2 x11 x13 x14 x15 x16 x17 : Sl) (hn : ∀ x13 x14 x15 x16 : Sl, De.nx [.un, .val (.dict []), x2, .val (intsD t), .val (.int f), .val (.int c), .val (neckD t f c), .val (intsD h), .val (intsD good), .val (intsD l), .val (.list (chords.map intsD)), x11, .val (.list (tune.map .int)), x13, x14, x15, x16, x17]) :
    W_law_turn_10 De [.un, .val (.dict []), x2, .val (intsD t), .val (.int f), .val (.int c), .val (neckD t f c), .val (intsD h), .val (intsD good), .val (intsD l), .val (.list (chords.map intsD)), x11, .val (.list (tune.map .int)), x13, x14, x15, x16, x17] := by
  simp [W_law_turn_10]
  refine nWorks_mk (by simp) ?_
  simp
  intro v v0 v7
  have e : List.replicate v.toNat (intsD good) = (List.replicate v.toNat good).map intsD := by rw [List.map_replicate]
  rw [e]
  have ot : OkTune [3, 80] := ⟨by simp, by simp, by simp⟩
  refine ⟨v0, by omega, rfl, [tellX ("BadHand", none), tellX ("BadHand", none), tellX ("BadHand", none), tellX ("BadHand", none)], rfl, works_tell (ns := [3, 80]) (r := r) ok_hand ok_hand ok_hand (by rw [hh]; rfl) (ref_ways_hand o og nh)
    (ref_ret_hand o h4 (by rw [List.length_replicate]; omega) (fun m hm => by rw [(List.mem_replicate.mp hm).2]; exact og) nh) (ref_tab_hand o ot nr), ?_⟩
  simp [W_law_turn_11]
  exact ⟨al_word (m := 4) sh_str.2.1 (by decide), k12_12 o h4 hh og hc _ _ _ _ _ _ _ fun x13 x14 x15 x16 => hn _ _ _ _⟩
include nl
/-- an odd chord, an odd tune -/
theorem k12_8 {k : Int} (nt : ¬ OkTune tune) (rk : Ref f_retuned [neckD t f c, .list (chords.map intsD), intsD h] ("BadChord", some k)) (x2 x13 x14 x15 x16 x17 : Sl)
    (hn : ∀ x13 x14 x15 x16 : Sl, De.nx [.un, .val (.dict []), x2, .val (intsD t), .val (.int f), .val (.int c), .val (neckD t f c), .val (intsD h), .val (intsD good), .val (intsD l), .val (.list (chords.map intsD)), .val (.tuple [.str "chord", .int k]), .val (.list (tune.map .int)), x13, x14, x15, x16, x17]) :
    W_law_turn_8 De [.un, .val (.dict []), x2, .val (intsD t), .val (.int f), .val (.int c), .val (neckD t f c), .val (intsD h), .val (intsD good), .val (intsD l), .val (.list (chords.map intsD)), .val (.tuple [.str "chord", .int k]), .val (.list (tune.map .int)), x13, x14, x15, x16, x17] := by
  simp [W_law_turn_8]
  refine nWorks_intro (ds := [neckD t f c, intsD l, .list (chords.map intsD), .list (tune.map .int), intsD h]) (zs := [tellX ("BadChord", some 0), tellX ("BadChord", some k), tellX ("BadTune", none), tellX ("BadTune", none)]) (by simp) (fun K k => by simpa using k) rfl rfl
    (works_tell (r := r) ok_chord ok_chord ok_tune (by rw [hh]; rfl) (ref_ways_chord o nl) rk (ref_tab_tune o nt)) ?_
  simp [W_law_turn_9]
  have al : ∀ i : Int, Al 2 (.tuple [.str "chord", .int i]) := fun i => .tup (by simp) fun x hx => by
    rcases List.mem_cons.mp hx with rfl | hx
    · exact .str _ sh_str.2.2.2
    · rw [List.mem_singleton.mp hx]; exact .int _
  refine ⟨.lst (by simp) fun x hx => ?_, k12_10 o h4 hh nh nr og hc _ _ _ _ _ _ _ fun x13 x14 x15 x16 => hn _ _ _ _⟩
  simp only [List.mem_cons, List.not_mem_nil, or_false] at hx
  rcases hx with rfl | rfl | rfl | rfl
  · exact al 0
  · exact al k
  · exact .str _ sh_str.1
  · exact .str _ sh_str.1
end
theorem pure_law : W_law { nx := fun _ => False, rt := fun d => d = .bool true } (.un :: .val (.dict []) :: List.replicate (N_law.length - 2) .un) := by
  simp [W_law, N_law]
  refine forRun_go (fun ds e => (∀ d ∈ ds, ∃ i : Int, d = .int i) ∧ ∃ x2 x3 x4 x5 x6 x7 x8 x9 x10 x11 x12 x13 x14 x15 x16 x17 : Sl, e = [.un, .val (.dict []), x2, x3, x4, x5, x6, x7, x8, x9, x10, x11, x12, x13, x14, x15, x16, x17]) ?_ ?_ _ _ ⟨fun d hd => by
    unfold rngD at hd
    obtain ⟨i, _, rfl⟩ := List.mem_map.mp hd
    exact ⟨_, rfl⟩, _, _, _, _, _, _, _, _, _, _, _, _, _, _, _, _, rfl⟩
  · rintro d ds e N ⟨hds, x2, x3, x4, x5, x6, x7, x8, x9, x10, x11, x12, x13, x14, x15, x16, x17, rfl⟩ k
    obtain ⟨i, rfl⟩ := hds d List.mem_cons_self
    simp [W_law_turn_0]
    intro t f c o h4
    have h4 : t.length ≤ 4 := by omega
    have e4 : cutD (t.map PyData.int) none (some 4) = t.map .int := by
      have := cut12 (φ := PyData.int) t 4
      rw [List.take_of_length_le h4] at this
      exact this
    refine ⟨_, rfl, rfl, ?_⟩
    simp [W_law_turn_1]
    rw [e4]
    have hN : ∀ x13 x14 x15 x16 x17 x2 y3 y4 y5 y6 y7 y8 y9 y10 y11 y12 : Sl, N [.un, .val (.dict []), x2, y3, y4, y5, y6, y7, y8, y9, y10, y11, y12, x13, x14, x15, x16, x17] := fun x13 x14 x15 x16 x17 x2 y3 y4 y5 y6 y7 y8 y9 y10 y11 y12 => k _ ⟨fun d hd => hds d (List.mem_cons_of_mem _ hd), _, _, _, _, _, _, _, _, _, _, _, _, _, _, _, _, rfl⟩
    have en : PyData.tuple [PyData.tuple (t.map .int), .int f, .int c] = neckD t f c := rfl
    rw [en]
    simp [W_law_turn_2]
    intro v v0 v9 u u0 u2
    obtain ⟨h, r, rest, e, hh, nh, nr⟩ : ∃ (h : List Int) (r : Int) (rest : List Int), atI [intsD [7 + v, 1], intsD [-1, 2]] u = some (intsD h) ∧ h = r :: rest ∧ ¬ OkHand h ∧ ¬ (0 ≤ r ∧ r ≤ 6) := by
      obtain ⟨d, e, hd⟩ := atI_in (l := [intsD [7 + v, 1], intsD [-1, 2]]) u0 (by simpa using u2)
      simp only [List.mem_cons, List.not_mem_nil, or_false] at hd
      rcases hd with rfl | rfl
      · exact ⟨_, _, _, e, rfl, fun z => by have := z.at_ (7 + v) (by simp); omega, by omega⟩
      · exact ⟨_, _, _, e, rfl, fun z => by have := z.at_ (-1) (by simp); omega, by omega⟩
    refine ⟨intsD h, e, ?_⟩
    simp [W_law_turn_3]
    intro w w0 w3
    obtain ⟨good, e2, og, gl⟩ : ∃ good : List Int, atI [intsD [3], intsD [3, 4], intsD [0, 80]] w = some (intsD good) ∧ OkChord good ∧ good.length ≤ 6 := by
      obtain ⟨d, e, hd⟩ := atI_in (l := [intsD [3], intsD [3, 4], intsD [0, 80]]) w0 (by simpa using w3)
      simp only [List.mem_cons, List.not_mem_nil, or_false] at hd
      rcases hd with rfl | rfl | rfl
      · exact ⟨_, e, ⟨by simp, by simp, by simp, rfl⟩, by simp⟩
      · exact ⟨_, e, ⟨by simp, by simp, by simp, rfl⟩, by simp⟩
      · exact ⟨_, e, ⟨by simp, by simp, by simp, rfl⟩, by simp⟩
    refine ⟨intsD good, e2, ?_⟩
    simp [W_law_turn_4]
    intro l nl ll
    simp [W_law_turn_5]
    intro n n0 n6
    refine ⟨n0, by omega, by omega, ?_⟩
    obtain ⟨m, rfl⟩ : ∃ m : Nat, n = m := ⟨n.toNat, by omega⟩
    have m6 : m < 6 := by omega
    have ech : List.replicate (m : Int).toNat (intsD good) ++ [intsD l, PyData.tuple []] = (List.replicate m good ++ l :: [[]]).map intsD := by
      rw [List.map_append, List.map_replicate]; rfl
    rw [ech]
    have lch : (List.replicate m good ++ l :: [[]]).length = m + 2 := by simp
    have gd : ∀ x ∈ List.replicate m good, OkChord x := fun x hx => by rw [(List.mem_replicate.mp hx).2]; exact og
    have idx : ∀ R : D → Prop, R (.int (m : Int)) → rdIdxT ((List.replicate m good ++ l :: [[]]).map intsD) [intsD l] R := fun R hR => by
      refine ⟨List.replicate m good ++ l :: [[]], l, m, rfl, rfl, by rw [lch]; omega, by rw [List.getElem?_append_right (by simp)]; simp, fun j hj z => ?_, hR⟩
      rw [List.getElem?_append_left (by simpa using hj), List.getElem?_replicate, if_pos hj] at z
      cases z
      exact nl og
    have rk : Ref f_retuned [neckD t f c, .list ((List.replicate m good ++ l :: [[]]).map intsD), intsD h] ("BadChord", some (if 6 < m + 2 then 6 else (m : Int))) := by
      by_cases q : 6 < m + 2
      · rw [if_pos q]
        exact ref_ret_many o h4 (by rw [lch]; omega) (by rw [lch]; exact q)
      · rw [if_neg q]
        have := ref_ret_chord (h := h) (done := List.replicate m good) (r := [[]]) (l := l) o h4 (by rw [lch]; omega) gd nl
        rw [List.length_replicate] at this
        exact this
    generalize List.replicate m good ++ l :: [[]] = chords at lch idx rk
    have hc : chords.length ≤ 1000 := by omega
    simp [W_law_turn_6]
    have fin : W_law_turn_7 { nx := N, rt := fun d => d = PyData.bool true, bk := dRet (dC (PyData.bool true)) { nx := fun x => False, rt := fun d => d = PyData.bool true }, ct := N }
        [.un, .val (.dict []), .val (.int i), .val (intsD t), .val (.int f), .val (.int c), .val (neckD t f c), .val (intsD h), .val (intsD good), .val (intsD l), .val (.list (chords.map intsD)), .val (.tuple [.str "chord", .int (if 6 < m + 2 then 6 else (m : Int))]), x12, x13, x14, x15, x16, x17] := by
      simp [W_law_turn_7]
      intro tune ht
      have nt : ¬ OkTune tune := fun z => by
        rcases ht.2 with y | y | ⟨a, ha, y⟩
        · have := z.l1
          rw [y] at this; simp at this
        · have := z.l2; omega
        · have := z.n a ha; omega
      exact k12_8 o h4 hh nh nr og nl hc nt rk _ _ _ _ _ _ fun x13 x14 x15 x16 => hN _ _ _ _ _ _ _ _ _ _ _ _ _ _ _ _
    by_cases q : 6 < m + 2
    · rw [if_pos q] at fin
      refine .inr ⟨by rw [lch]; omega, fin⟩
    · rw [if_neg q] at fin
      refine .inl ⟨by rw [lch]; omega, ?_⟩
      exact idx _ ⟨fun z => (by cases z), fin⟩
  · rintro e ⟨_, x2, x3, x4, x5, x6, x7, x8, x9, x10, x11, x12, x13, x14, x15, x16, x17, rfl⟩
    simp
section
variable {P : Program} {w : World} {g : Glb} {mg : Str → Option Value} {base : Heap}
theorem ok_law {f : Addr} {fd : FuncData} (F : FunP g.K "law" s_law f fd) (T : Txt mg) (C_law_neck : C8.Cal P w g.K mg base 2 "_law_neck" (spD g f_law_neck) []) (C_law_odd_chord : C8.Cal P w g.K mg base 3 "_law_odd_chord" (spD g f_law_odd_chord) []) (C_law_taken : C8.Cal P w g.K mg base 1 "_law_taken" (spD g f_law_taken) []) (C_law_odd_notes : C8.Cal P w g.K mg base 2 "_law_odd_notes" (spD g f_law_odd_notes) []) (C_law_told : C8.Cal P w g.K mg base 7 "_law_told" (spT P w mg base 5 g okX tellX) []) (C_law_alike : C8.Cal P w g.K mg base 4 "_law_alike" (spD g f_law_alike) []) (C_law_works : C8.Cal P w g.K mg base 1 "_law_works" (spW g 5 lams_law_works) []) (LD_law_works : ∀ (r a : Addr) (ns : List Int) (j : Nat) (l : FXL.LamD) (Wl : WXp), lams_law_works[j]? = some l → Ws_law_works[j]? = some Wl → LamDer P w mg base 5 ⟨g, r, a, ns⟩ l Wl) (C_law_handed : C8.Cal P w g.K mg base 1 "_law_handed" (spW g 3 lams_law_handed) []) (LD_law_handed : ∀ (r a : Addr) (ns : List Int) (j : Nat) (l : FXL.LamD) (Wl : WXp), lams_law_handed[j]? = some l → Ws_law_handed[j]? = some Wl → LamDer P w mg base 5 ⟨g, r, a, ns⟩ l Wl) : FnOk P w g.K mg base CX0 8 f fd ["_law_script"] (spLaw g) := by
  refine F.ok (k := 7) sc_law (fun vs H Q E h => ?_) (fun cdv A outer s H vs Q E hr h => ?_)
  · obtain ⟨a, ns, rfl, _⟩ := h
    rfl
  · obtain ⟨a, ns, rfl, hP, hs, k⟩ := h
    refine ⟨_, PSs.nox (pss_cons (ps_set (i := 1) sc_law.nd rfl (.inl rfl) (pe_lst (pa_cons (pv 0) (pa_cons pe_int (pa_cons pe_int (pa_cons pe_int pa_nil)))))) (pss_any (g := g) (E := E) (w := W_law) fun r a ns =>
      (pssd_cons (ps_w (ps_for (g := gName 2) PassesOwn.never rfl (pi_w (pi_range1 (by rfl) T.m_range (pa_w (pa_cons (pe_w pe_int (xd_c fun _ => .int)) (pa_w pa_nil xa_nil)) xa_cons)) xi_rng1) (pg_name (i := 2) sc_law.nd rfl (.inl rfl)) (pssd_cons (ps_w (ps_asg (pe_w (C8.pe_c C_law_neck hr (by decide) (by rfl) (pa_w (pa_cons (pe_w (pv 1) xd_var) (pa_w (pa_cons (pe_w pe_int (xd_c fun _ => .int)) (pa_w pa_nil xa_nil)) xa_cons)) xa_cons)) xd_call) (pg_tup rfl (pgs_cons (pg_name (i := 3) sc_law.nd rfl (.inl rfl)) (pgs_cons (pg_name (i := 4) sc_law.nd rfl (.inl rfl)) (pgs_cons (pg_name (i := 5) sc_law.nd rfl (.inl rfl)) pgs_nil))))) (xs_unp (is := [3, 4, 5]) rfl)) (pssd_cons (ps_w (ps_set (i := 6) sc_law.nd rfl (.inl rfl) (pe_w (pe_tup (pa_w (pa_cons (pe_w (pe_slice sl_tupA (pe_w (pv 3) xd_var) (po_w po_none xo_none) (po_w (po_some (pe_w pe_int (xd_c fun _ => .int))) xo_some)) xd_slT) (pa_w (pa_cons (pe_w (pv 4) xd_var) (pa_w (pa_cons (pe_w (pv 5) xd_var) (pa_w pa_nil xa_nil)) xa_cons)) xa_cons)) xa_cons)) xd_tup)) xs_asg) (pssd_cons (ps_w (ps_set (i := 7) sc_law.nd rfl (.inl rfl) (pe_w (pe_ix ix_lt (pe_w (pe_lst (pa_w (pa_cons (pe_w (pe_tup (pa_w (pa_cons (pe_w (pe_op op_add (pe_w pe_int (xd_c fun _ => .int)) (pe_w (C8.pe_c C_law_taken hr (by decide) (by rfl) (pa_w (pa_cons (pe_w (pv 1) xd_var) (pa_w (pa_cons (pe_w pe_int (xd_c fun _ => .int)) (pa_w pa_nil xa_nil)) xa_cons)) xa_cons)) xd_call)) (xd_op od_add)) (pa_w (pa_cons (pe_w pe_int (xd_c fun _ => .int)) (pa_w pa_nil xa_nil)) xa_cons)) xa_cons)) xd_tup) (pa_w (pa_cons (pe_w (pe_tup (pa_w (pa_cons (pe_w (pe_op op_sub (pe_w pe_int (xd_c fun _ => .int)) (pe_w pe_int (xd_c fun _ => .int))) (xd_op od_sub)) (pa_w (pa_cons (pe_w pe_int (xd_c fun _ => .int)) (pa_w pa_nil xa_nil)) xa_cons)) xa_cons)) xd_tup) (pa_w pa_nil xa_nil)) xa_cons)) xa_cons)) xd_lst) (pe_w (C8.pe_c C_law_taken hr (by decide) (by rfl) (pa_w (pa_cons (pe_w (pv 1) xd_var) (pa_w (pa_cons (pe_w pe_int (xd_c fun _ => .int)) (pa_w pa_nil xa_nil)) xa_cons)) xa_cons)) xd_call) (fun _ _ => rfl)) (xd_op od_ixL))) xs_asg) (pssd_cons (ps_w (ps_set (i := 8) sc_law.nd rfl (.inl rfl) (pe_w (pe_ix ix_lt (pe_w (pe_lst (pa_w (pa_cons (pe_w (pe_tup (pa_w (pa_cons (pe_w pe_int (xd_c fun _ => .int)) (pa_w pa_nil xa_nil)) xa_cons)) xd_tup) (pa_w (pa_cons (pe_w (pe_tup (pa_w (pa_cons (pe_w pe_int (xd_c fun _ => .int)) (pa_w (pa_cons (pe_w pe_int (xd_c fun _ => .int)) (pa_w pa_nil xa_nil)) xa_cons)) xa_cons)) xd_tup) (pa_w (pa_cons (pe_w (pe_tup (pa_w (pa_cons (pe_w pe_int (xd_c fun _ => .int)) (pa_w (pa_cons (pe_w pe_int (xd_c fun _ => .int)) (pa_w pa_nil xa_nil)) xa_cons)) xa_cons)) xd_tup) (pa_w pa_nil xa_nil)) xa_cons)) xa_cons)) xa_cons)) xd_lst) (pe_w (C8.pe_c C_law_taken hr (by decide) (by rfl) (pa_w (pa_cons (pe_w (pv 1) xd_var) (pa_w (pa_cons (pe_w pe_int (xd_c fun _ => .int)) (pa_w pa_nil xa_nil)) xa_cons)) xa_cons)) xd_call) (fun _ _ => rfl)) (xd_op od_ixL))) xs_asg) (pssd_cons (ps_w (ps_set (i := 9) sc_law.nd rfl (.inl rfl) (pe_w (C8.pe_c C_law_odd_chord hr (by decide) (by rfl) (pa_w (pa_cons (pe_w (pv 1) xd_var) (pa_w pa_nil xa_nil)) xa_cons)) xd_call)) xs_asg) (pssd_cons (ps_w (ps_set (i := 10) sc_law.nd rfl (.inl rfl) (pe_w (pe_op op_cat (pe_w (pe_w (pe_op op_rep (pe_lst (pa_w (pa_cons (pe_w (pv 8) xd_var) (pa_w pa_nil xa_nil)) xa_cons)) (pe_w (C8.pe_c C_law_taken hr (by decide) (by rfl) (pa_w (pa_cons (pe_w (pv 1) xd_var) (pa_w (pa_cons (pe_w pe_int (xd_c fun _ => .int)) (pa_w pa_nil xa_nil)) xa_cons)) xa_cons)) xd_call)) xn_rep) xd_N) (pe_w (pe_lst (pa_w (pa_cons (pe_w (pv 9) xd_var) (pa_w (pa_cons (pe_w (pe_tup (pa_w pa_nil xa_nil)) xd_tup) (pa_w pa_nil xa_nil)) xa_cons)) xa_cons)) xd_lst)) (xd_op od_catL))) xs_asg) (pssd_cons (ps_w (ps_set (i := 11) sc_law.nd rfl (.inl rfl) (pe_w (pe_tup (pa_w (pa_cons (pe_w pe_str (xd_c fun _ => .str)) (pa_w (pa_cons (pe_w (pe_ifExp (pt_w (pt_cmpR op_gt (pe_w (pe_callB call_len_seq (by rfl) T.m_len PySem.boot_len (pa_w (pa_cons (pe_w (pv 10) xd_var) (pa_w pa_nil xa_nil)) xa_cons)) (xd_cb cd_len)) (pe_w pe_int (xd_c fun _ => .int)) (nomark _)) (xt_cmp od_gt)) (pe_w pe_int (xd_c fun _ => .int)) (pe_w (pe_bm PySem.F.plainAttrs_list PySem.F.slot_list_index PySem.F.type_list_index (mt_indexD (by have h := hr.un; have h2 := Nat.lt_of_le_of_lt (Nat.le_trans (Nat.add_le_add_left (by decide : 65 ≤ 16 * 7 + 200) _) (Nat.le_of_eq (Nat.add_assoc _ _ _).symm)) h; exact h2)) (pe_w (pv 10) xd_var) (pa_w (pa_cons (pe_w (pv 9) xd_var) (pa_w pa_nil xa_nil)) xa_cons)) (xd_meth md_idxT))) xd_if) (pa_w pa_nil xa_nil)) xa_cons)) xa_cons)) xd_tup)) xs_asg) (pssd_cons (ps_w (ps_set (i := 12) sc_law.nd rfl (.inl rfl) (pe_w (pe_callTy call_list_of (by rfl) T.m_list (by decide +kernel) (pa_w (pa_cons (pe_w (C8.pe_c C_law_odd_notes hr (by decide) (by rfl) (pa_w (pa_cons (pe_w (pv 1) xd_var) (pa_w (pa_cons (pe_w pe_int (xd_c fun _ => .int)) (pa_w pa_nil xa_nil)) xa_cons)) xa_cons)) xd_call) (pa_w pa_nil xa_nil)) xa_cons)) (xd_cb cd_list))) xs_asg) (pssd_cons (ps_w (ps_setLc (i := 13) (own := [("_law_work", 17)]) (g := gName 17) rfl sc_law.nd rfl rfl (sw_true rfl rfl rfl (by decide +kernel)) (pi_list (C8.pe_c C_law_works hr (by decide) (by rfl) (pa_w (pa_cons (pe_w (pv 6) xd_var) (pa_w (pa_cons (pe_w (pv 9) xd_var) (pa_w (pa_cons (pe_w (pv 10) xd_var) (pa_w (pa_cons (pe_w (pv 12) xd_var) (pa_w (pa_cons (pe_w (pv 7) xd_var) (pa_w pa_nil xa_nil)) xa_cons)) xa_cons)) xa_cons)) xa_cons)) xa_cons))) (blkOk_by (own := [("_law_work", 17)]) (N := ["_law_script", "_law_row", "_law_turn", "_law_tuning", "_law_frets", "_law_capo", "_law_neck_here", "_law_hand_here", "_law_good", "_law_chord", "_law_chords", "_law_due", "_law_tune", "_law_told_here", "_law_odd", "_law_bad", "_law_five", "_law_work"]) (sc := (defScope s_law)) (by decide +kernel)) (fun _ _ _ _ _ => (pg_name (i := 17) sc_law.nd rfl (.inl rfl))) (fun _ _ _ _ _ => pts_nil) (fun _ _ _ _ _ => (C8.pe_c C_law_told hr (by decide) (by rfl) (pa_cons (pv 17) pa_nil)))) (xs_asgWorks (c := ⟨g, r, a, ns⟩) (ls := lams_law_works) rfl lamsOk_law_works (LD_law_works r a ns) (by decide))) (pssd_cons (ps_w (ps_if (pt_w (pt_not (pt_w (pt_truth (pe_w (C8.pe_c C_law_alike hr (by decide) (by rfl) (pa_w (pa_cons (pe_w (pv 13) xd_var) (pa_w (pa_cons (pe_w (pe_lst (pa_w (pa_cons (pe_w (pe_tup (pa_w (pa_cons (pe_w pe_str (xd_c fun _ => .str)) (pa_w (pa_cons (pe_w pe_int (xd_c fun _ => .int)) (pa_w pa_nil xa_nil)) xa_cons)) xa_cons)) xd_tup) (pa_w (pa_cons (pe_w (pv 11) xd_var) (pa_w (pa_cons (pe_w pe_str (xd_c fun _ => .str)) (pa_w (pa_cons (pe_w pe_str (xd_c fun _ => .str)) (pa_w pa_nil xa_nil)) xa_cons)) xa_cons)) xa_cons)) xa_cons)) xd_lst) (pa_w pa_nil xa_nil)) xa_cons)) xa_cons)) xd_call) (by intro _; rfl)) xt_tru)) xt_not) (pssd_one (ps_w (ps_ret (pe_w pe_bl (xd_c fun _ => .bl))) xs_ret)) pssd_nil) xs_if) (pssd_cons (ps_w (ps_setLc (i := 13) (own := [("_law_work", 17)]) (g := gName 17) rfl sc_law.nd rfl rfl (sw_true rfl rfl rfl (by decide +kernel)) (pi_list (C8.pe_c C_law_works hr (by decide) (by rfl) (pa_w (pa_cons (pe_w (pv 6) xd_var) (pa_w (pa_cons (pe_w (pv 8) xd_var) (pa_w (pa_cons (pe_w (pe_w (pe_op op_rep (pe_lst (pa_w (pa_cons (pe_w (pv 8) xd_var) (pa_w pa_nil xa_nil)) xa_cons)) (pe_w (C8.pe_c C_law_taken hr (by decide) (by rfl) (pa_w (pa_cons (pe_w (pv 1) xd_var) (pa_w (pa_cons (pe_w pe_int (xd_c fun _ => .int)) (pa_w pa_nil xa_nil)) xa_cons)) xa_cons)) xd_call)) xn_rep) xd_N) (pa_w (pa_cons (pe_w (pe_lst (pa_w (pa_cons (pe_w pe_int (xd_c fun _ => .int)) (pa_w (pa_cons (pe_w pe_int (xd_c fun _ => .int)) (pa_w pa_nil xa_nil)) xa_cons)) xa_cons)) xd_lst) (pa_w (pa_cons (pe_w (pv 7) xd_var) (pa_w pa_nil xa_nil)) xa_cons)) xa_cons)) xa_cons)) xa_cons)) xa_cons))) (blkOk_by (own := [("_law_work", 17)]) (N := ["_law_script", "_law_row", "_law_turn", "_law_tuning", "_law_frets", "_law_capo", "_law_neck_here", "_law_hand_here", "_law_good", "_law_chord", "_law_chords", "_law_due", "_law_tune", "_law_told_here", "_law_odd", "_law_bad", "_law_five", "_law_work"]) (sc := (defScope s_law)) (by decide +kernel)) (fun _ _ _ _ _ => (pg_name (i := 17) sc_law.nd rfl (.inl rfl))) (fun _ _ _ _ _ => pts_nil) (fun _ _ _ _ _ => (C8.pe_c C_law_told hr (by decide) (by rfl) (pa_cons (pv 17) pa_nil)))) (xs_asgWorks (c := ⟨g, r, a, ns⟩) (ls := lams_law_works) rfl lamsOk_law_works (LD_law_works r a ns) (by decide))) (pssd_cons (ps_w (ps_if (pt_w (pt_not (pt_w (pt_truth (pe_w (C8.pe_c C_law_alike hr (by decide) (by rfl) (pa_w (pa_cons (pe_w (pv 13) xd_var) (pa_w (pa_cons (pe_w (pe_w (pe_op op_rep (pe_lst (pa_w (pa_cons (pe_w pe_str (xd_c fun _ => .str)) (pa_w pa_nil xa_nil)) xa_cons)) (pe_w pe_int (xd_c fun _ => .int))) xn_rep) xd_N) (pa_w pa_nil xa_nil)) xa_cons)) xa_cons)) xd_call) (by intro _; rfl)) xt_tru)) xt_not) (pssd_one (ps_w (ps_ret (pe_w pe_bl (xd_c fun _ => .bl))) xs_ret)) pssd_nil) xs_if) (pssd_cons (ps_w (ps_set (i := 14) sc_law.nd rfl (.inl rfl) (pe_w (pe_ix ix_lt (pe_w (pe_lst (pa_w (pa_cons (pe_w (pe_tup (pa_w (pa_cons (pe_w pe_int (xd_c fun _ => .int)) (pa_w pa_nil xa_nil)) xa_cons)) xd_tup) (pa_w (pa_cons (pe_w (pe_tup (pa_w (pa_cons (pe_w pe_int (xd_c fun _ => .int)) (pa_w (pa_cons (pe_w pe_int (xd_c fun _ => .int)) (pa_w pa_nil xa_nil)) xa_cons)) xa_cons)) xd_tup) (pa_w (pa_cons (pe_w (pe_tup (pa_w (pa_cons (pe_w pe_int (xd_c fun _ => .int)) (pa_w (pa_cons (pe_w pe_int (xd_c fun _ => .int)) (pa_w (pa_cons (pe_w pe_int (xd_c fun _ => .int)) (pa_w pa_nil xa_nil)) xa_cons)) xa_cons)) xa_cons)) xd_tup) (pa_w (pa_cons (pe_w (pe_tup (pa_w (pa_cons (pe_w pe_int (xd_c fun _ => .int)) (pa_w (pa_cons (pe_w (pe_op op_sub (pe_w pe_int (xd_c fun _ => .int)) (pe_w pe_int (xd_c fun _ => .int))) (xd_op od_sub)) (pa_w pa_nil xa_nil)) xa_cons)) xa_cons)) xd_tup) (pa_w (pa_cons (pe_w (pe_tup (pa_w pa_nil xa_nil)) xd_tup) (pa_w (pa_cons (pe_w (pe_tup (pa_w (pa_cons (pe_w pe_int (xd_c fun _ => .int)) (pa_w (pa_cons (pe_w pe_int (xd_c fun _ => .int)) (pa_w pa_nil xa_nil)) xa_cons)) xa_cons)) xd_tup) (pa_w pa_nil xa_nil)) xa_cons)) xa_cons)) xa_cons)) xa_cons)) xa_cons)) xa_cons)) xd_lst) (pe_w (C8.pe_c C_law_taken hr (by decide) (by rfl) (pa_w (pa_cons (pe_w (pv 1) xd_var) (pa_w (pa_cons (pe_w pe_int (xd_c fun _ => .int)) (pa_w pa_nil xa_nil)) xa_cons)) xa_cons)) xd_call) (fun _ _ => rfl)) (xd_op od_ixL))) xs_asg) (pssd_cons (ps_w (ps_setLc (i := 13) (own := [("_law_work", 17)]) (g := gName 17) rfl sc_law.nd rfl rfl (sw_true rfl rfl rfl (by decide +kernel)) (pi_list (C8.pe_c C_law_handed hr (by decide) (by rfl) (pa_w (pa_cons (pe_w (pv 6) xd_var) (pa_w (pa_cons (pe_w (pv 8) xd_var) (pa_w (pa_cons (pe_w (pv 14) xd_var) (pa_w pa_nil xa_nil)) xa_cons)) xa_cons)) xa_cons))) (blkOk_by (own := [("_law_work", 17)]) (N := ["_law_script", "_law_row", "_law_turn", "_law_tuning", "_law_frets", "_law_capo", "_law_neck_here", "_law_hand_here", "_law_good", "_law_chord", "_law_chords", "_law_due", "_law_tune", "_law_told_here", "_law_odd", "_law_bad", "_law_five", "_law_work"]) (sc := (defScope s_law)) (by decide +kernel)) (fun _ _ _ _ _ => (pg_name (i := 17) sc_law.nd rfl (.inl rfl))) (fun _ _ _ _ _ => pts_nil) (fun _ _ _ _ _ => (C8.pe_c C_law_told hr (by decide) (by rfl) (pa_cons (pv 17) pa_nil)))) (xs_asgWorks (c := ⟨g, r, a, ns⟩) (ls := lams_law_handed) rfl lamsOk_law_handed (LD_law_handed r a ns) (by decide))) (pssd_cons (ps_w (ps_if (pt_w (pt_not (pt_w (pt_truth (pe_w (C8.pe_c C_law_alike hr (by decide) (by rfl) (pa_w (pa_cons (pe_w (pv 13) xd_var) (pa_w (pa_cons (pe_w (pe_w (pe_op op_rep (pe_lst (pa_w (pa_cons (pe_w pe_str (xd_c fun _ => .str)) (pa_w pa_nil xa_nil)) xa_cons)) (pe_w pe_int (xd_c fun _ => .int))) xn_rep) xd_N) (pa_w pa_nil xa_nil)) xa_cons)) xa_cons)) xd_call) (by intro _; rfl)) xt_tru)) xt_not) (pssd_one (ps_w (ps_ret (pe_w pe_bl (xd_c fun _ => .bl))) xs_ret)) pssd_nil) xs_if) (pssd_cons (ps_w (ps_set (i := 15) sc_law.nd rfl (.inl rfl) (pe_w (pe_ix ix_lt (pe_w (pe_lst (pa_w (pa_cons (pe_w (pe_tup (pa_w (pa_cons (pe_w (pe_tup (pa_w pa_nil xa_nil)) xd_tup) (pa_w (pa_cons (pe_w (pv 4) xd_var) (pa_w (pa_cons (pe_w (pv 5) xd_var) (pa_w pa_nil xa_nil)) xa_cons)) xa_cons)) xa_cons)) xd_tup) (pa_w (pa_cons (pe_w (pe_tup (pa_w (pa_cons (pe_w (pv 3) xd_var) (pa_w (pa_cons (pe_w (pv 4) xd_var) (pa_w (pa_cons (pe_w (pe_op op_add (pe_w (pv 4) xd_var) (pe_w pe_int (xd_c fun _ => .int))) (xd_op od_add)) (pa_w pa_nil xa_nil)) xa_cons)) xa_cons)) xa_cons)) xd_tup) (pa_w (pa_cons (pe_w (pe_tup (pa_w (pa_cons (pe_w (pv 3) xd_var) (pa_w (pa_cons (pe_w pe_int (xd_c fun _ => .int)) (pa_w (pa_cons (pe_w pe_int (xd_c fun _ => .int)) (pa_w pa_nil xa_nil)) xa_cons)) xa_cons)) xa_cons)) xd_tup) (pa_w pa_nil xa_nil)) xa_cons)) xa_cons)) xa_cons)) xd_lst) (pe_w (C8.pe_c C_law_taken hr (by decide) (by rfl) (pa_w (pa_cons (pe_w (pv 1) xd_var) (pa_w (pa_cons (pe_w pe_int (xd_c fun _ => .int)) (pa_w pa_nil xa_nil)) xa_cons)) xa_cons)) xd_call) (fun _ _ => rfl)) (xd_op od_ixL))) xs_asg) (pssd_cons (ps_w (ps_setLc (i := 13) (own := [("_law_work", 17)]) (g := gName 17) rfl sc_law.nd rfl rfl (sw_true rfl rfl rfl (by decide +kernel)) (pi_list (C8.pe_c C_law_works hr (by decide) (by rfl) (pa_w (pa_cons (pe_w (pv 15) xd_var) (pa_w (pa_cons (pe_w (pv 9) xd_var) (pa_w (pa_cons (pe_w (pv 10) xd_var) (pa_w (pa_cons (pe_w (pv 12) xd_var) (pa_w (pa_cons (pe_w (pv 7) xd_var) (pa_w pa_nil xa_nil)) xa_cons)) xa_cons)) xa_cons)) xa_cons)) xa_cons))) (blkOk_by (own := [("_law_work", 17)]) (N := ["_law_script", "_law_row", "_law_turn", "_law_tuning", "_law_frets", "_law_capo", "_law_neck_here", "_law_hand_here", "_law_good", "_law_chord", "_law_chords", "_law_due", "_law_tune", "_law_told_here", "_law_odd", "_law_bad", "_law_five", "_law_work"]) (sc := (defScope s_law)) (by decide +kernel)) (fun _ _ _ _ _ => (pg_name (i := 17) sc_law.nd rfl (.inl rfl))) (fun _ _ _ _ _ => pts_nil) (fun _ _ _ _ _ => (C8.pe_c C_law_told hr (by decide) (by rfl) (pa_cons (pv 17) pa_nil)))) (xs_asgWorks (c := ⟨g, r, a, ns⟩) (ls := lams_law_works) rfl lamsOk_law_works (LD_law_works r a ns) (by decide))) (pssd_cons (ps_w (ps_if (pt_w (pt_not (pt_w (pt_truth (pe_w (C8.pe_c C_law_alike hr (by decide) (by rfl) (pa_w (pa_cons (pe_w (pv 13) xd_var) (pa_w (pa_cons (pe_w (pe_w (pe_op op_rep (pe_lst (pa_w (pa_cons (pe_w pe_str (xd_c fun _ => .str)) (pa_w pa_nil xa_nil)) xa_cons)) (pe_w pe_int (xd_c fun _ => .int))) xn_rep) xd_N) (pa_w pa_nil xa_nil)) xa_cons)) xa_cons)) xd_call) (by intro _; rfl)) xt_tru)) xt_not) (pssd_one (ps_w (ps_ret (pe_w pe_bl (xd_c fun _ => .bl))) xs_ret)) pssd_nil) xs_if) (pssd_cons (ps_w (ps_set (i := 16) sc_law.nd rfl (.inl rfl) (pe_w (pe_tup (pa_w (pa_cons (pe_w (pe_slice sl_tupA (pe_w (pe_op op_repT (pe_w (pv 3) xd_var) (pe_w pe_int (xd_c fun _ => .int))) (xd_op od_repT)) (po_w po_none xo_none) (po_w (po_some (pe_w pe_int (xd_c fun _ => .int))) xo_some)) xd_slT) (pa_w (pa_cons (pe_w (pv 4) xd_var) (pa_w (pa_cons (pe_w (pv 5) xd_var) (pa_w pa_nil xa_nil)) xa_cons)) xa_cons)) xa_cons)) xd_tup)) xs_asg) (pssd_one (ps_w (ps_if (pt_w (pt_not (pt_w (pt_truth (pe_w (C8.pe_c C_law_alike hr (by decide) (by rfl) (pa_w (pa_cons (pe_w (C8.pe_c C_law_told hr (by decide) (by rfl) (pa_cons (pe_ix ix_list (C8.pe_c C_law_works hr (by decide) (by rfl) (pa_w (pa_cons (pe_w (pv 16) xd_var) (pa_w (pa_cons (pe_w (pv 9) xd_var) (pa_w (pa_cons (pe_w (pv 10) xd_var) (pa_w (pa_cons (pe_w (pv 12) xd_var) (pa_w (pa_cons (pe_w (pv 7) xd_var) (pa_w pa_nil xa_nil)) xa_cons)) xa_cons)) xa_cons)) xa_cons)) xa_cons)) pe_int (fun _ _ => rfl)) pa_nil)) (xd_work1 (c := ⟨g, r, a, ns⟩) (ls := lams_law_works) rfl lamsOk_law_works (LD_law_works r a ns))) (pa_w (pa_cons (pe_w pe_str (xd_c fun _ => .str)) (pa_w pa_nil xa_nil)) xa_cons)) xa_cons)) xd_call) (by intro _; rfl)) xt_tru)) xt_not) (pssd_one (ps_w (ps_ret (pe_w pe_bl (xd_c fun _ => .bl))) xs_ret)) pssd_nil) xs_if)))))))))))))))))))))) (xs_for gd_name)) (pssd_one (ps_w (ps_ret (pe_w pe_bl (xd_c fun _ => .bl))) xs_ret))))), ?_⟩
    exact ⟨_, rfl, len_le (by show 4 ≤ 1000000; decide), law_start (n := 16) hP hs k pure_law⟩
end

end FW
namespace FW
open PySem PySem.Spec PyProof.Rows L2 FXL
/-- what is told of an exception's class -/
def excB (K : PySem.W.Frag) (n : Str) : Bool := PySem.W.excIn K (He.ga K n) He.veBase "ValueError.__new__" && (PySem.W.keepIn K (.ref (He.ga K n)) && (decide (PySem.W.subIn K (.ref (He.ga K n)) (.type "BaseException") = some true) && (decide (PySem.W.typeIn K (.ref (He.ga K n)) = some (.type "type")) &&
  (decide (PySem.W.findIn K (.ref (He.ga K n)) "__getattribute__" = some (some (.builtin "BaseException.__getattribute__"))) && (decide (PySem.W.findIn K (.ref (He.ga K n)) "__getattr__" = some none) && (PySem.W.hasDictIn K (He.ga K n) && (decide (PySem.W.findIn K (.ref (He.ga K n)) "__class__" = some (some (.builtin "object.__class__"))) &&
  (decide (PySem.W.specialIn K (.builtin "object.__class__") "__get__" = some (some (.builtin "getset_descriptor.__get__"))) && (decide (PySem.W.takesIn K (.builtin "object.__class__") = some true) && (decide (PySem.W.mroIn K (He.ga K n) (.type "object") = some true) && (decide (PySem.W.exmOne K (.ref (He.ga K n)) (.ref (He.ga K "NeckError")) = some true) &&
  (decide (PySem.W.kitOne K (.ref (He.ga K n)) (.type "ValueError") = some true) && clsNames.all fun m => decide (PySem.W.kitOne K (.ref (He.ga K n)) (.ref (He.ga K m)) = some (isSub n m))))))))))))))
theorem excB_ok {K : PySem.W.Frag} {n : Str} {mg : Str → Option Value} (h : excB K n = true) (m : mg n = some (.ref (He.ga K n))) : ClsX K mg (He.ga K) n ∧ ∀ Ps Ls, ExcT ⟨K, Ps, He.ga K, Ls⟩ n := by
  unfold excB at h
  simp only [Bool.and_eq_true, decide_eq_true_eq] at h
  obtain ⟨h1, h2, h3, h4, h5, h6, h7, h8, h9, h10, h11, h12, h13, h14⟩ := h
  refine ⟨⟨m, h1, h2, h3, h4⟩, fun Ps Ls => ⟨⟨h5, h6, h3, h7, h8, h9, h10, h11⟩, h12, fun k hk => ?_, h13⟩⟩
  exact of_decide_eq_true (List.all_eq_true.mp h14 k hk)

/-- what is told of an exception's class with an __init__ of its own -/
def excTB (K : PySem.W.Frag) (n : Str) : Bool := decide (PySem.W.subIn K (.ref (He.ga K n)) (.type "BaseException") = some true) && (decide (PySem.W.findIn K (.ref (He.ga K n)) "__getattribute__" = some (some (.builtin "BaseException.__getattribute__"))) && (decide (PySem.W.findIn K (.ref (He.ga K n)) "__getattr__" = some none) && (PySem.W.hasDictIn K (He.ga K n) && (decide (PySem.W.findIn K (.ref (He.ga K n)) "__class__" = some (some (.builtin "object.__class__"))) &&
  (decide (PySem.W.specialIn K (.builtin "object.__class__") "__get__" = some (some (.builtin "getset_descriptor.__get__"))) && (decide (PySem.W.takesIn K (.builtin "object.__class__") = some true) && (decide (PySem.W.mroIn K (He.ga K n) (.type "object") = some true) && (decide (PySem.W.exmOne K (.ref (He.ga K n)) (.ref (He.ga K "NeckError")) = some true) &&
  (decide (PySem.W.kitOne K (.ref (He.ga K n)) (.type "ValueError") = some true) && clsNames.all fun m => decide (PySem.W.kitOne K (.ref (He.ga K n)) (.ref (He.ga K m)) = some (isSub n m)))))))))))
theorem excTB_ok {K : PySem.W.Frag} {n : Str} (h : excTB K n = true) (Ps : List Addr) (Ls : List (Addr × Str)) : ExcT ⟨K, Ps, He.ga K, Ls⟩ n := by
  unfold excTB at h
  simp only [Bool.and_eq_true, decide_eq_true_eq] at h
  obtain ⟨h3, h5, h6, h7, h8, h9, h10, h11, h12, h13, h14⟩ := h
  exact ⟨⟨h5, h6, h3, h7, h8, h9, h10, h11⟩, h12, fun k hk => of_decide_eq_true (List.all_eq_true.mp h14 k hk), h13⟩

/-- tables that must not be one -/
def apartL : List (Str × Str) := [("all_within", "_law_works"), ("all_within", "_law_handed"), ("rises", "_law_works"), ("rises", "_law_handed"), ("_law_works", "_law_handed")]
def apartB (K : PySem.W.Frag) : Bool := apartL.all fun p => decide ((He.cT K (p.1, none)).2 ≠ (He.cT K (p.2, none)).2)

def d_all_within : He.DefD := ⟨("all_within", none), "all_within", "all_within", defArgs s_all_within, defBody s_all_within, defScope s_all_within, [], []⟩
def d_rises : He.DefD := ⟨("rises", none), "rises", "rises", defArgs s_rises, defBody s_rises, defScope s_rises, [], []⟩
def d_is_place : He.DefD := ⟨("is_place", none), "is_place", "is_place", defArgs s_is_place, defBody s_is_place, defScope s_is_place, [], []⟩
def d_check_neck : He.DefD := ⟨("check_neck", none), "check_neck", "check_neck", defArgs s_check_neck, defBody s_check_neck, defScope s_check_neck, [], []⟩
def d_check_hand : He.DefD := ⟨("check_hand", none), "check_hand", "check_hand", defArgs s_check_hand, defBody s_check_hand, defScope s_check_hand, [], []⟩
def d_check_reach : He.DefD := ⟨("check_reach", none), "check_reach", "check_reach", defArgs s_check_reach, defBody s_check_reach, defScope s_check_reach, [], []⟩
def d_check_chord : He.DefD := ⟨("check_chord", none), "check_chord", "check_chord", defArgs s_check_chord, defBody s_check_chord, defScope s_check_chord, [.int (0)], []⟩
def d_check_chords : He.DefD := ⟨("check_chords", none), "check_chords", "check_chords", defArgs s_check_chords, defBody s_check_chords, defScope s_check_chords, [], []⟩
def d_check_tune : He.DefD := ⟨("check_tune", none), "check_tune", "check_tune", defArgs s_check_tune, defBody s_check_tune, defScope s_check_tune, [], []⟩
def d_ways : He.DefD := ⟨("ways", none), "ways", "ways", defArgs s_ways, defBody s_ways, defScope s_ways, [], []⟩
def d_placed : He.DefD := ⟨("_placed", none), "_placed", "_placed", defArgs s_placed, defBody s_placed, defScope s_placed, [], []⟩
def d_is_pressed : He.DefD := ⟨("_is_pressed", none), "_is_pressed", "_is_pressed", defArgs s_is_pressed, defBody s_is_pressed, defScope s_is_pressed, [], []⟩
def d_fits : He.DefD := ⟨("_fits", none), "_fits", "_fits", defArgs s_fits, defBody s_fits, defScope s_fits, [], []⟩
def d_places : He.DefD := ⟨("places", none), "places", "places", defArgs s_places, defBody s_places, defScope s_places, [], []⟩
def d_played : He.DefD := ⟨("played", none), "played", "played", defArgs s_played, defBody s_played, defScope s_played, [], []⟩
def d_table : He.DefD := ⟨("table", none), "table", "table", defArgs s_table, defBody s_table, defScope s_table, [], []⟩
def d_movement : He.DefD := ⟨("movement", none), "movement", "movement", defArgs s_movement, defBody s_movement, defScope s_movement, [], []⟩
def d_positions : He.DefD := ⟨("_positions", none), "_positions", "_positions", defArgs s_positions, defBody s_positions, defScope s_positions, [], []⟩
def d_place_from : He.DefD := ⟨("_place_from", none), "_place_from", "_place_from", defArgs s_place_from, defBody s_place_from, defScope s_place_from, [], []⟩
def d_next_row : He.DefD := ⟨("_next_row", none), "_next_row", "_next_row", defArgs s_next_row, defBody s_next_row, defScope s_next_row, [], []⟩
def d_arrival : He.DefD := ⟨("_arrival", none), "_arrival", "_arrival", defArgs s_arrival, defBody s_arrival, defScope s_arrival, [], []⟩
def d_walk : He.DefD := ⟨("_walk", none), "_walk", "_walk", defArgs s_walk, defBody s_walk, defScope s_walk, [], []⟩
def d_retuned : He.DefD := ⟨("retuned", none), "retuned", "retuned", defArgs s_retuned, defBody s_retuned, defScope s_retuned, [], []⟩
def d_check_retunable : He.DefD := ⟨("_check_retunable", none), "_check_retunable", "_check_retunable", defArgs s_check_retunable, defBody s_check_retunable, defScope s_check_retunable, [], []⟩
def d_retunings : He.DefD := ⟨("_retunings", none), "_retunings", "_retunings", defArgs s_retunings, defBody s_retunings, defScope s_retunings, [], []⟩
def d_rank : He.DefD := ⟨("_rank", none), "_rank", "_rank", defArgs s_rank, defBody s_rank, defScope s_rank, [], []⟩
def d_tuned : He.DefD := ⟨("_tuned", none), "_tuned", "_tuned", defArgs s_tuned, defBody s_tuned, defScope s_tuned, [], []⟩
def d_first_without_way : He.DefD := ⟨("_first_without_way", none), "_first_without_way", "_first_without_way", defArgs s_first_without_way, defBody s_first_without_way, defScope s_first_without_way, [], []⟩
def d_law_taken : He.DefD := ⟨("_law_taken", none), "_law_taken", "_law_taken", defArgs s_law_taken, defBody s_law_taken, defScope s_law_taken, [], []⟩
def d_law_alike : He.DefD := ⟨("_law_alike", none), "_law_alike", "_law_alike", defArgs s_law_alike, defBody s_law_alike, defScope s_law_alike, [], []⟩
def d_law_neck : He.DefD := ⟨("_law_neck", none), "_law_neck", "_law_neck", defArgs s_law_neck, defBody s_law_neck, defScope s_law_neck, [], []⟩
def d_law_places : He.DefD := ⟨("_law_places", none), "_law_places", "_law_places", defArgs s_law_places, defBody s_law_places, defScope s_law_places, [], []⟩
def d_law_shape : He.DefD := ⟨("_law_shape", none), "_law_shape", "_law_shape", defArgs s_law_shape, defBody s_law_shape, defScope s_law_shape, [], []⟩
def d_law_hand : He.DefD := ⟨("_law_hand", none), "_law_hand", "_law_hand", defArgs s_law_hand, defBody s_law_hand, defScope s_law_hand, [], []⟩
def d_law_sounds : He.DefD := ⟨("_law_sounds", none), "_law_sounds", "_law_sounds", defArgs s_law_sounds, defBody s_law_sounds, defScope s_law_sounds, [], []⟩
def d_law_odd_notes : He.DefD := ⟨("_law_odd_notes", none), "_law_odd_notes", "_law_odd_notes", defArgs s_law_odd_notes, defBody s_law_odd_notes, defScope s_law_odd_notes, [], []⟩
def d_law_odd_chord : He.DefD := ⟨("_law_odd_chord", none), "_law_odd_chord", "_law_odd_chord", defArgs s_law_odd_chord, defBody s_law_odd_chord, defScope s_law_odd_chord, [], []⟩
def d_law_told : He.DefD := ⟨("_law_told", none), "_law_told", "_law_told", defArgs s_law_told, defBody s_law_told, defScope s_law_told, [], []⟩
def d_law_works : He.DefD := ⟨("_law_works", none), "_law_works", "_law_works", defArgs s_law_works, defBody s_law_works, defScope s_law_works, [], []⟩
def d_law_handed : He.DefD := ⟨("_law_handed", none), "_law_handed", "_law_handed", defArgs s_law_handed, defBody s_law_handed, defScope s_law_handed, [], []⟩
def d_law : He.DefD := ⟨("law", none), "law", "law", defArgs s_law, defBody s_law, defScope s_law, [], []⟩
def fnL : List He.DefD := d_all_within :: d_rises :: d_is_place :: d_check_neck :: d_check_hand :: d_check_reach :: d_check_chord :: d_check_chords :: d_check_tune :: d_ways :: d_placed :: d_is_pressed :: d_fits :: d_places :: d_played :: d_table :: d_movement :: d_positions :: d_place_from :: d_next_row :: d_arrival :: d_walk :: d_retuned :: d_check_retunable :: d_retunings :: d_rank :: d_tuned :: d_first_without_way :: d_law_taken :: d_law_alike :: d_law_neck :: d_law_places :: d_law_shape :: d_law_hand :: d_law_sounds :: d_law_odd_notes :: d_law_odd_chord :: d_law_told :: d_law_works :: d_law_handed :: d_law :: []
def faL : List He.Fa := (.glo "all_within") :: (.glo "rises") :: (.glo "is_place") :: (.glo "check_neck") :: (.glo "check_hand") :: (.glo "check_reach") :: (.glo "check_chord") :: (.glo "check_chords") :: (.glo "check_tune") :: (.glo "ways") :: (.glo "_placed") :: (.glo "_is_pressed") :: (.glo "_fits") :: (.glo "places") :: (.glo "played") :: (.glo "table") :: (.glo "movement") :: (.glo "_positions") :: (.glo "_place_from") :: (.glo "_next_row") :: (.glo "_arrival") :: (.glo "_walk") :: (.glo "retuned") :: (.glo "_check_retunable") :: (.glo "_retunings") :: (.glo "_rank") :: (.glo "_tuned") :: (.glo "_first_without_way") :: (.glo "_law_taken") :: (.glo "_law_alike") :: (.glo "_law_neck") :: (.glo "_law_places") :: (.glo "_law_shape") :: (.glo "_law_hand") :: (.glo "_law_sounds") :: (.glo "_law_odd_notes") :: (.glo "_law_odd_chord") :: (.glo "_law_told") :: (.glo "_law_works") :: (.glo "_law_handed") :: (.glo "law") :: (.glo "NeckError") :: (.glo "BadNeck") :: (.glo "BadShape") :: (.glo "BadHand") :: (.glo "BadChord") :: (.glo "BadTune") :: (.glo "BadText") :: (.free "all") :: (.free "len") :: (.free "range") :: (.free "sorted") :: (.free "tuple") :: (.free "list") :: (.free "zip") :: (.free "enumerate") :: (.free "min") :: (.free "max") :: (.free "isinstance") :: (.free "int") :: (.free "str") :: (.free "bool") :: (.free "sum") :: (.free "abs") :: (.free "reversed") :: (.free "ValueError") :: (.int "SILENT" (-1)) :: (.int "MOST_STRINGS" (6)) :: (.int "HIGHEST_TUNING" (60)) :: (.int "MOST_FRETS" (20)) :: (.int "MOST_OF_HAND" (6)) :: (.int "MOST_NOTES" (6)) :: (.int "HIGHEST_NOTE" (80)) :: (.int "MOST_CHORDS" (6)) :: (.int "LONGEST_TUNE" (30)) :: (.int "CANNOT" (-1)) :: (.int "MOST_RETUNED" (4)) :: (.int "FARTHEST" (2)) :: []
def tfL : List He.Defn := [("all_within", none), ("rises", none), ("_law_works", none), ("_law_handed", none)]
def exL : PySem.W.Frag → Bool := fun K => (decide (PySem.W.nsIn K mainGlobals "permutations" = some (some (.type "itertools.permutations"))) && (excNames.all (excB K) && (FXI.initB K PySem.Challenge.pw_fretways_k12_refused_in_order.main (He.ga K "BadChord") && (excTB K "BadChord" && apartB K))))
abbrev R : PySem.W.OpenRow := PySem.W.OpenLaw.row PySem.Challenge.rw_fretways_k12_refused_in_order
abbrev hk : PySem.W.Hook := FXH.hookS 4 faL fnL [] tfL exL
def ob (s : PySem.W.SharedT) : He.AlX := FXH.obsS 4 faL fnL [] tfL exL (HandSHeadRun.getT s)
theorem ob_eq (s : PySem.W.SharedT) : ob s = hk.obs s.abs := FXH.obsS_eq (HandSHeadRun.getT_eq s)
def looseL : List PySem.Str := ("permutations" : PySem.Str) :: ("NeckError" : PySem.Str) :: ("BadNeck" : PySem.Str) :: ("BadShape" : PySem.Str) :: ("BadHand" : PySem.Str) :: ("BadChord" : PySem.Str) :: ("BadTune" : PySem.Str) :: ("BadText" : PySem.Str) :: ("SILENT" : PySem.Str) :: ("MOST_STRINGS" : PySem.Str) :: ("HIGHEST_TUNING" : PySem.Str) :: ("MOST_FRETS" : PySem.Str) :: ("MOST_OF_HAND" : PySem.Str) :: ("MOST_NOTES" : PySem.Str) :: ("HIGHEST_NOTE" : PySem.Str) :: ("MOST_CHORDS" : PySem.Str) :: ("LONGEST_TUNE" : PySem.Str) :: ("all_within" : PySem.Str) :: ("rises" : PySem.Str) :: ("is_place" : PySem.Str) :: ("check_neck" : PySem.Str) :: ("check_hand" : PySem.Str) :: ("check_reach" : PySem.Str) :: ("check_chord" : PySem.Str) :: ("check_chords" : PySem.Str) :: ("check_tune" : PySem.Str) :: ("ways" : PySem.Str) :: ("_placed" : PySem.Str) :: ("_is_pressed" : PySem.Str) :: ("_fits" : PySem.Str) :: ("places" : PySem.Str) :: ("CANNOT" : PySem.Str) :: ("played" : PySem.Str) :: ("table" : PySem.Str) :: ("movement" : PySem.Str) :: ("_positions" : PySem.Str) :: ("_place_from" : PySem.Str) :: ("_next_row" : PySem.Str) :: ("_arrival" : PySem.Str) :: ("_walk" : PySem.Str) :: ("MOST_RETUNED" : PySem.Str) :: ("FARTHEST" : PySem.Str) :: ("retuned" : PySem.Str) :: ("_check_retunable" : PySem.Str) :: ("_retunings" : PySem.Str) :: ("_rank" : PySem.Str) :: ("_tuned" : PySem.Str) :: ("_first_without_way" : PySem.Str) :: ("_law_taken" : PySem.Str) :: ("_law_alike" : PySem.Str) :: ("_law_neck" : PySem.Str) :: ("_law_places" : PySem.Str) :: ("_law_shape" : PySem.Str) :: ("_law_hand" : PySem.Str) :: ("_law_sounds" : PySem.Str) :: ("_law_odd_notes" : PySem.Str) :: ("_law_odd_chord" : PySem.Str) :: ("_law_told" : PySem.Str) :: ("_law_works" : PySem.Str) :: ("_law_handed" : PySem.Str) :: []
theorem run (w : World) : HandSHeadRun.RunEqI R (PySem.W.view R.prog [0, 67]) hk ob 4000 looseL w := by
  unfold HandSHeadRun.RunEqI
  kernel_rfl
section
variable {P : Program} {w : World} {K : PySem.W.Frag} {h : Heap} {mg : Str → Option Value}
theorem txt_ok (X : K.In h) (G : h.Ns mainGlobals mg) (c : He.SaysD faL fnL K) : Txt mg :=
  ⟨He.free_ok X G (He.SaysD.fact (f := .free "all") c 48 (by rfl)), He.free_ok X G (He.SaysD.fact (f := .free "len") c 49 (by rfl)), He.free_ok X G (He.SaysD.fact (f := .free "range") c 50 (by rfl)), He.free_ok X G (He.SaysD.fact (f := .free "sorted") c 51 (by rfl)), He.free_ok X G (He.SaysD.fact (f := .free "tuple") c 52 (by rfl)), He.free_ok X G (He.SaysD.fact (f := .free "list") c 53 (by rfl)), He.free_ok X G (He.SaysD.fact (f := .free "zip") c 54 (by rfl)), He.free_ok X G (He.SaysD.fact (f := .free "enumerate") c 55 (by rfl)), He.free_ok X G (He.SaysD.fact (f := .free "min") c 56 (by rfl)), He.free_ok X G (He.SaysD.fact (f := .free "max") c 57 (by rfl)), He.free_ok X G (He.SaysD.fact (f := .free "isinstance") c 58 (by rfl)), He.free_ok X G (He.SaysD.fact (f := .free "int") c 59 (by rfl)), He.free_ok X G (He.SaysD.fact (f := .free "str") c 60 (by rfl)), He.free_ok X G (He.SaysD.fact (f := .free "bool") c 61 (by rfl)), He.free_ok X G (He.SaysD.fact (f := .free "sum") c 62 (by rfl)), He.free_ok X G (He.SaysD.fact (f := .free "abs") c 63 (by rfl)), He.free_ok X G (He.SaysD.fact (f := .free "reversed") c 64 (by rfl)), He.free_ok X G (He.SaysD.fact (f := .free "ValueError") c 65 (by rfl)), He.int_ok X G (He.SaysD.fact (f := .int "SILENT" (-1)) c 66 (by rfl)), He.int_ok X G (He.SaysD.fact (f := .int "MOST_STRINGS" (6)) c 67 (by rfl)), He.int_ok X G (He.SaysD.fact (f := .int "HIGHEST_TUNING" (60)) c 68 (by rfl)), He.int_ok X G (He.SaysD.fact (f := .int "MOST_FRETS" (20)) c 69 (by rfl)), He.int_ok X G (He.SaysD.fact (f := .int "MOST_OF_HAND" (6)) c 70 (by rfl)), He.int_ok X G (He.SaysD.fact (f := .int "MOST_NOTES" (6)) c 71 (by rfl)), He.int_ok X G (He.SaysD.fact (f := .int "HIGHEST_NOTE" (80)) c 72 (by rfl)), He.int_ok X G (He.SaysD.fact (f := .int "MOST_CHORDS" (6)) c 73 (by rfl)), He.int_ok X G (He.SaysD.fact (f := .int "LONGEST_TUNE" (30)) c 74 (by rfl)), He.int_ok X G (He.SaysD.fact (f := .int "CANNOT" (-1)) c 75 (by rfl)), He.int_ok X G (He.SaysD.fact (f := .int "MOST_RETUNED" (4)) c 76 (by rfl)), He.int_ok X G (He.SaysD.fact (f := .int "FARTHEST" (2)) c 77 (by rfl)), trivial⟩
def cs (K : PySem.W.Frag) : List (Addr × Addr) := tfL.map (He.cT K)
def glb (K : PySem.W.Frag) : Glb := ⟨K, (cs K).map (·.2), He.ga K, [((He.cT K ("_law_works", none)).2, "_law_works.<locals>.<lambda>"), ((He.cT K ("_law_handed", none)).2, "_law_handed.<locals>.<lambda>")]⟩
theorem law_at (X : K.In h) (G : h.Ns mainGlobals mg) {fa : Addr} (hfa : mg ("law" : Str) = some (.ref fa)) (c : He.SaysX faL fnL [] tfL exL w h K) : LamX.LawAtS PySem.Challenge.rw_fretways_k12_refused_in_order w K CX0 8 63 "_law_script" mg fa h := by
  have cd := c.t.d
  have e := hfa.symm.trans (He.glo_ok X G (He.SaysD.fact (f := .glo "law") cd 40 (by rfl)))
  cases e
  have T := txt_ok X G cd
  obtain ⟨fd_all_within, F_all_within⟩ := cd.defs (d := d_all_within) (by simp only [fnL, List.mem_cons, true_or, or_true])
  obtain ⟨fd_rises, F_rises⟩ := cd.defs (d := d_rises) (by simp only [fnL, List.mem_cons, true_or, or_true])
  obtain ⟨fd_check_neck, F_check_neck⟩ := cd.defs (d := d_check_neck) (by simp only [fnL, List.mem_cons, true_or, or_true])
  obtain ⟨fd_check_hand, F_check_hand⟩ := cd.defs (d := d_check_hand) (by simp only [fnL, List.mem_cons, true_or, or_true])
  obtain ⟨fd_check_reach, F_check_reach⟩ := cd.defs (d := d_check_reach) (by simp only [fnL, List.mem_cons, true_or, or_true])
  obtain ⟨fd_check_chord, F_check_chord⟩ := cd.defs (d := d_check_chord) (by simp only [fnL, List.mem_cons, true_or, or_true])
  obtain ⟨fd_check_chords, F_check_chords⟩ := cd.defs (d := d_check_chords) (by simp only [fnL, List.mem_cons, true_or, or_true])
  obtain ⟨fd_check_tune, F_check_tune⟩ := cd.defs (d := d_check_tune) (by simp only [fnL, List.mem_cons, true_or, or_true])
  obtain ⟨fd_check_retunable, F_check_retunable⟩ := cd.defs (d := d_check_retunable) (by simp only [fnL, List.mem_cons, true_or, or_true])
  obtain ⟨fd_ways, F_ways⟩ := cd.defs (d := d_ways) (by simp only [fnL, List.mem_cons, true_or, or_true])
  obtain ⟨fd_retuned, F_retuned⟩ := cd.defs (d := d_retuned) (by simp only [fnL, List.mem_cons, true_or, or_true])
  obtain ⟨fd_table, F_table⟩ := cd.defs (d := d_table) (by simp only [fnL, List.mem_cons, true_or, or_true])
  obtain ⟨fd_played, F_played⟩ := cd.defs (d := d_played) (by simp only [fnL, List.mem_cons, true_or, or_true])
  obtain ⟨fd_law_taken, F_law_taken⟩ := cd.defs (d := d_law_taken) (by simp only [fnL, List.mem_cons, true_or, or_true])
  obtain ⟨fd_law_alike, F_law_alike⟩ := cd.defs (d := d_law_alike) (by simp only [fnL, List.mem_cons, true_or, or_true])
  obtain ⟨fd_law_neck, F_law_neck⟩ := cd.defs (d := d_law_neck) (by simp only [fnL, List.mem_cons, true_or, or_true])
  obtain ⟨fd_law_odd_notes, F_law_odd_notes⟩ := cd.defs (d := d_law_odd_notes) (by simp only [fnL, List.mem_cons, true_or, or_true])
  obtain ⟨fd_law_odd_chord, F_law_odd_chord⟩ := cd.defs (d := d_law_odd_chord) (by simp only [fnL, List.mem_cons, true_or, or_true])
  obtain ⟨fd_law_told, F_law_told⟩ := cd.defs (d := d_law_told) (by simp only [fnL, List.mem_cons, true_or, or_true])
  obtain ⟨fd_law_works, F_law_works⟩ := cd.defs (d := d_law_works) (by simp only [fnL, List.mem_cons, true_or, or_true])
  obtain ⟨fd_law_handed, F_law_handed⟩ := cd.defs (d := d_law_handed) (by simp only [fnL, List.mem_cons, true_or, or_true])
  obtain ⟨fd_law, F_law⟩ := cd.defs (d := d_law) (by simp only [fnL, List.mem_cons, true_or, or_true])
  have b := FunD.bindsA (ps := ["_law_script"]) F_law fun _ _ _ _ _ _ us hl => match us, hl with | [_], _ => rfl
  refine ⟨fd_law, cs K, spLaw (glb K), fun p hp => ?_, fun p hp => ?_, fun p hp => ?_, fun s v => b s [v] rfl, fun H a ns _ _ hP hS => ⟨a, ns, rfl, fun P hp => ?_, hS, fun _ => rfl⟩, fun base _ _ TB => ?_⟩
  · obtain ⟨q, hq, rfl⟩ := List.mem_map.mp hp
    exact c.empty q hq
  · obtain ⟨q, hq, rfl⟩ := List.mem_map.mp hp
    exact c.out q hq
  · obtain ⟨q, hq, rfl⟩ := List.mem_map.mp hp
    exact PySem.W.codeHd_of_K X (c.hd q hq)
  · obtain ⟨q, hq, rfl⟩ := List.mem_map.mp hp
    exact hP q hq
  have MO0 := Bool.and_eq_true_iff.mp (show (decide (PySem.W.nsIn K mainGlobals "permutations" = some (some (.type "itertools.permutations"))) && (excNames.all (excB K) && (FXI.initB K PySem.Challenge.pw_fretways_k12_refused_in_order.main (He.ga K "BadChord") && (excTB K "BadChord" && apartB K)))) = true from c.more)
  have MO1 := Bool.and_eq_true_iff.mp MO0.2
  have MO2 := Bool.and_eq_true_iff.mp MO1.2
  have MO3 := Bool.and_eq_true_iff.mp MO2.2
  have MO4 := MO3.2
  have AP := fun a b (h : (a, b) ∈ apartL) => of_decide_eq_true (List.all_eq_true.mp (show apartB K = true from MO4) (a, b) h)
  have EX := List.all_eq_true.mp (show excNames.all (excB K) = true from MO1.1)
  have X_BadHand := (excB_ok (EX "BadHand" (by decide)) (He.glo_ok X G (He.SaysD.fact (f := .glo "BadHand") cd 44 (by rfl)))).1
  have X_BadNeck := (excB_ok (EX "BadNeck" (by decide)) (He.glo_ok X G (He.SaysD.fact (f := .glo "BadNeck") cd 42 (by rfl)))).1
  have X_BadTune := (excB_ok (EX "BadTune" (by decide)) (He.glo_ok X G (He.SaysD.fact (f := .glo "BadTune") cd 46 (by rfl)))).1
  have XS : Xs (glb K) mg := by
    have M : ∀ n, n ∈ clsNames → mg n = some (.ref (He.ga K n)) := fun n hn => by
      simp only [clsNames, List.mem_cons, List.not_mem_nil, or_false] at hn
      rcases hn with rfl | rfl | rfl | rfl | rfl | rfl | rfl
      · exact He.glo_ok X G (He.SaysD.fact (f := .glo "NeckError") cd 41 (by rfl))
      · exact He.glo_ok X G (He.SaysD.fact (f := .glo "BadNeck") cd 42 (by rfl))
      · exact He.glo_ok X G (He.SaysD.fact (f := .glo "BadShape") cd 43 (by rfl))
      · exact He.glo_ok X G (He.SaysD.fact (f := .glo "BadHand") cd 44 (by rfl))
      · exact He.glo_ok X G (He.SaysD.fact (f := .glo "BadChord") cd 45 (by rfl))
      · exact He.glo_ok X G (He.SaysD.fact (f := .glo "BadTune") cd 46 (by rfl))
      · exact He.glo_ok X G (He.SaysD.fact (f := .glo "BadText") cd 47 (by rfl))
    refine ⟨fun n hn => (excB_ok (EX n hn) (M n ?_)).2 _ _, M⟩
    simp only [excNames, List.mem_cons, List.not_mem_nil, or_false] at hn
    rcases hn with rfl | rfl | rfl <;> decide
  have X_BadChord : ClsN PySem.Challenge.rw_fretways_k12_refused_in_order.prog.main K mg (He.ga K) "BadChord" := ⟨He.glo_ok X G (He.SaysD.fact (f := .glo "BadChord") cd 45 (by rfl)), FXI.initB_ok (show FXI.initB K PySem.Challenge.pw_fretways_k12_refused_in_order.main (He.ga K "BadChord") = true from MO2.1)⟩
  have XN : ExcT (glb K) "BadChord" := excTB_ok (show excTB K "BadChord" = true from MO3.1) _ _
  have PRM : mg "permutations" = some (.type "itertools.permutations") := PySem.W.mg_of X G (of_decide_eq_true (show decide (PySem.W.nsIn K mainGlobals "permutations" = some (some (.type "itertools.permutations"))) = true from MO0.1))
  have tb_all_within : He.cT K ("all_within", none) ∈ cs K := List.mem_map.mpr ⟨_, by simp only [tfL, List.mem_cons, true_or, or_true], rfl⟩
  have C_all_within := ok_all_within (P := PySem.Challenge.rw_fretways_k12_refused_in_order.prog) (w := w) (g := glb K) (mg := mg) (base := base) F_all_within (He.glo_ok X G (He.SaysD.fact (f := .glo "all_within") cd 0 (by rfl))) T ⟨(TB _ tb_all_within).code, (TB _ tb_all_within).bm, (TB _ tb_all_within).gP⟩ ⟨List.mem_map.mpr ⟨_, tb_all_within, rfl⟩, fun q => fun h => (List.mem_cons.mp h).elim (fun e => AP "all_within" "_law_works" (by simp [apartL]) (congrArg Prod.fst e)) (fun h => (List.mem_cons.mp h).elim (fun e => AP "all_within" "_law_handed" (by simp [apartL]) (congrArg Prod.fst e)) (fun h => nomatch h))⟩
  have tb_rises : He.cT K ("rises", none) ∈ cs K := List.mem_map.mpr ⟨_, by simp only [tfL, List.mem_cons, true_or, or_true], rfl⟩
  have C_rises := ok_rises (P := PySem.Challenge.rw_fretways_k12_refused_in_order.prog) (w := w) (g := glb K) (mg := mg) (base := base) F_rises (He.glo_ok X G (He.SaysD.fact (f := .glo "rises") cd 1 (by rfl))) T ⟨(TB _ tb_rises).code, (TB _ tb_rises).bm, (TB _ tb_rises).gP⟩ ⟨List.mem_map.mpr ⟨_, tb_rises, rfl⟩, fun q => fun h => (List.mem_cons.mp h).elim (fun e => AP "rises" "_law_works" (by simp [apartL]) (congrArg Prod.fst e)) (fun h => (List.mem_cons.mp h).elim (fun e => AP "rises" "_law_handed" (by simp [apartL]) (congrArg Prod.fst e)) (fun h => nomatch h))⟩
  have C_check_neck := ok_check_neck (P := PySem.Challenge.rw_fretways_k12_refused_in_order.prog) (w := w) (g := glb K) (mg := mg) (base := base) F_check_neck (He.glo_ok X G (He.SaysD.fact (f := .glo "check_neck") cd 3 (by rfl))) T C_all_within X_BadNeck
  have C_check_hand := ok_check_hand (P := PySem.Challenge.rw_fretways_k12_refused_in_order.prog) (w := w) (g := glb K) (mg := mg) (base := base) F_check_hand (He.glo_ok X G (He.SaysD.fact (f := .glo "check_hand") cd 4 (by rfl))) T C_all_within X_BadHand
  have C_check_reach := ok_check_reach (P := PySem.Challenge.rw_fretways_k12_refused_in_order.prog) (w := w) (g := glb K) (mg := mg) (base := base) F_check_reach (He.glo_ok X G (He.SaysD.fact (f := .glo "check_reach") cd 5 (by rfl))) T X_BadHand
  have C_check_chord := ok_check_chord (P := PySem.Challenge.rw_fretways_k12_refused_in_order.prog) (w := w) (g := glb K) (mg := mg) (base := base) F_check_chord (He.glo_ok X G (He.SaysD.fact (f := .glo "check_chord") cd 6 (by rfl))) T C_all_within C_rises X_BadChord
  have C_check_chord_all := ok_check_chord_all (P := PySem.Challenge.rw_fretways_k12_refused_in_order.prog) (w := w) (g := glb K) (mg := mg) (base := base) F_check_chord (He.glo_ok X G (He.SaysD.fact (f := .glo "check_chord") cd 6 (by rfl))) T C_all_within C_rises X_BadChord
  have C_check_chords := ok_check_chords (P := PySem.Challenge.rw_fretways_k12_refused_in_order.prog) (w := w) (g := glb K) (mg := mg) (base := base) F_check_chords (He.glo_ok X G (He.SaysD.fact (f := .glo "check_chords") cd 7 (by rfl))) T C_check_chord_all X_BadChord
  have C_check_tune := ok_check_tune (P := PySem.Challenge.rw_fretways_k12_refused_in_order.prog) (w := w) (g := glb K) (mg := mg) (base := base) F_check_tune (He.glo_ok X G (He.SaysD.fact (f := .glo "check_tune") cd 8 (by rfl))) T C_all_within X_BadTune
  have C_check_retunable := ok_check_retunable (P := PySem.Challenge.rw_fretways_k12_refused_in_order.prog) (w := w) (g := glb K) (mg := mg) (base := base) F_check_retunable (He.glo_ok X G (He.SaysD.fact (f := .glo "_check_retunable") cd 23 (by rfl))) T C_check_neck X_BadNeck
  have C_ways := ok_ways (P := PySem.Challenge.rw_fretways_k12_refused_in_order.prog) (w := w) (g := glb K) (mg := mg) (base := base) F_ways (He.glo_ok X G (He.SaysD.fact (f := .glo "ways") cd 9 (by rfl))) T C_check_neck C_check_chord C_check_hand
  have C_retuned := ok_retuned (P := PySem.Challenge.rw_fretways_k12_refused_in_order.prog) (w := w) (g := glb K) (mg := mg) (base := base) F_retuned (He.glo_ok X G (He.SaysD.fact (f := .glo "retuned") cd 22 (by rfl))) T C_check_retunable C_check_chords C_check_hand
  have C_table := ok_table (P := PySem.Challenge.rw_fretways_k12_refused_in_order.prog) (w := w) (g := glb K) (mg := mg) (base := base) F_table (He.glo_ok X G (He.SaysD.fact (f := .glo "table") cd 15 (by rfl))) T C_check_neck C_check_tune C_check_reach
  have C_played := ok_played (P := PySem.Challenge.rw_fretways_k12_refused_in_order.prog) (w := w) (g := glb K) (mg := mg) (base := base) F_played (He.glo_ok X G (He.SaysD.fact (f := .glo "played") cd 14 (by rfl))) T C_table
  have C_law_taken := ok_law_taken (P := PySem.Challenge.rw_fretways_k12_refused_in_order.prog) (w := w) (g := glb K) (mg := mg) (base := base) F_law_taken (He.glo_ok X G (He.SaysD.fact (f := .glo "_law_taken") cd 28 (by rfl))) T
  have C_law_alike := ok_law_alike (P := PySem.Challenge.rw_fretways_k12_refused_in_order.prog) (w := w) (g := glb K) (mg := mg) (base := base) F_law_alike (He.glo_ok X G (He.SaysD.fact (f := .glo "_law_alike") cd 29 (by rfl))) T
  have C_law_neck := ok_law_neck (P := PySem.Challenge.rw_fretways_k12_refused_in_order.prog) (w := w) (g := glb K) (mg := mg) (base := base) F_law_neck (He.glo_ok X G (He.SaysD.fact (f := .glo "_law_neck") cd 30 (by rfl))) T C_law_taken
  have C_law_odd_notes := ok_law_odd_notes (P := PySem.Challenge.rw_fretways_k12_refused_in_order.prog) (w := w) (g := glb K) (mg := mg) (base := base) F_law_odd_notes (He.glo_ok X G (He.SaysD.fact (f := .glo "_law_odd_notes") cd 35 (by rfl))) T C_law_taken
  have C_law_odd_chord := ok_law_odd_chord (P := PySem.Challenge.rw_fretways_k12_refused_in_order.prog) (w := w) (g := glb K) (mg := mg) (base := base) F_law_odd_chord (He.glo_ok X G (He.SaysD.fact (f := .glo "_law_odd_chord") cd 36 (by rfl))) T C_law_taken C_law_odd_notes
  have C_law_told := ok_law_told (P := PySem.Challenge.rw_fretways_k12_refused_in_order.prog) (w := w) (g := glb K) (mg := mg) (base := base) F_law_told (He.glo_ok X G (He.SaysD.fact (f := .glo "_law_told") cd 37 (by rfl))) T XS XN X_BadChord
  have tb_law_works : He.cT K ("_law_works", none) ∈ cs K := List.mem_map.mpr ⟨_, by simp only [tfL, List.mem_cons, true_or, or_true], rfl⟩
  have C_law_works := ok_law_works (P := PySem.Challenge.rw_fretways_k12_refused_in_order.prog) (w := w) (g := glb K) (mg := mg) (base := base) F_law_works (He.glo_ok X G (He.SaysD.fact (f := .glo "_law_works") cd 38 (by rfl))) T ⟨(TB _ tb_law_works).code, (TB _ tb_law_works).bm, (TB _ tb_law_works).gP⟩ ⟨List.mem_map.mpr ⟨_, tb_law_works, rfl⟩, List.mem_cons_self, fun q' => fun h => (List.mem_cons.mp h).elim (fun e => congrArg Prod.snd e) (fun h => (List.mem_cons.mp h).elim (fun e => absurd (congrArg Prod.fst e) (AP "_law_works" "_law_handed" (by simp [apartL]))) (fun h => nomatch h))⟩
  have tb_law_handed : He.cT K ("_law_handed", none) ∈ cs K := List.mem_map.mpr ⟨_, by simp only [tfL, List.mem_cons, true_or, or_true], rfl⟩
  have C_law_handed := ok_law_handed (P := PySem.Challenge.rw_fretways_k12_refused_in_order.prog) (w := w) (g := glb K) (mg := mg) (base := base) F_law_handed (He.glo_ok X G (He.SaysD.fact (f := .glo "_law_handed") cd 39 (by rfl))) T ⟨(TB _ tb_law_handed).code, (TB _ tb_law_handed).bm, (TB _ tb_law_handed).gP⟩ ⟨List.mem_map.mpr ⟨_, tb_law_handed, rfl⟩, List.mem_cons_of_mem _ List.mem_cons_self, fun q' => fun h => (List.mem_cons.mp h).elim (fun e => absurd (congrArg Prod.fst e).symm (AP "_law_works" "_law_handed" (by simp [apartL]))) (fun h => (List.mem_cons.mp h).elim (fun e => congrArg Prod.snd e) (fun h => nomatch h))⟩
  have LD_law_works := fun r a ns j l Wl h1 h2 => ld_law_works (P := PySem.Challenge.rw_fretways_k12_refused_in_order.prog) (w := w) (g := glb K) (mg := mg) (base := base) T C_ways C_retuned C_played C_table r a ns j l Wl h1 h2
  have LD_law_handed := fun r a ns j l Wl h1 h2 => ld_law_handed (P := PySem.Challenge.rw_fretways_k12_refused_in_order.prog) (w := w) (g := glb K) (mg := mg) (base := base) T C_ways C_retuned r a ns j l Wl h1 h2
  exact ok_law (g := glb K) F_law T C_law_neck C_law_odd_chord C_law_taken C_law_odd_notes C_law_told C_law_alike C_law_works LD_law_works C_law_handed LD_law_handed
end
end FW
open PySem PySem.W PySem.Calls PyProof.Rows
theorem PySem.Challenge.cw_fretways_k12_refused_in_order_holds : PySem.Challenge.rw_fretways_k12_refused_in_order.Holds := by
  w_on; o_law
  refine HandSHeadRun.head_imp (r := OpenLaw.row PySem.Challenge.rw_fretways_k12_refused_in_order) (q := view (OpenLaw.row PySem.Challenge.rw_fretways_k12_refused_in_order).prog [0, 67]) (H := FW.hk) (ob := FW.ob) (M := 4000) (loose := FW.looseL) (d := HandSHeadRun.topDef (OpenLaw.row PySem.Challenge.rw_fretways_k12_refused_in_order).prog 67) (kwd := []) FW.ob_eq
    FW.run (by kernel_rfl) (by kernel_rfl) (by kernel_rfl) (by rfl) (by first | assumption | decide +kernel) (by decide +kernel) ⟨rfl, rfl, rfl, rfl, rfl, by decide +kernel⟩ ?hw ?hc
  case hw => w_witness2
  case hc =>
    refine LamX.walk_ofTsE (l := PySem.Challenge.rw_fretways_k12_refused_in_order) (n := 63) (k := 8) (x := "_law_script") (CX := fun _ => L2.CX0) rfl (by decide) (by kernel_rfl) ⟨rfl, by decide, by decide⟩ ?F (fun _ _ _ _ _ z => z)
    intro w mg fa h Y G hmg0
    obtain ⟨K, KX, c⟩ := Y
    have hmg : mg ("law" : PySem.Str) = some (.ref fa) := by
      have e : (HandSHeadRun.topDef (OpenLaw.row PySem.Challenge.rw_fretways_k12_refused_in_order).prog 67).name = ("law" : PySem.Str) := by kernel_rfl
      rw [← e]
      exact hmg0
    exact ⟨K, KX, FW.law_at KX G hmg c⟩
