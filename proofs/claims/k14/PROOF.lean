import PyProof.Rows.All
import Wide.All
import OpenK.AllK
import Wide.FinOn
import HandS.ForMost
import HandS.AnyAll
import HandS.Codes
import HandS.IsInst
import HandS.SortInts
import HandS.Zip
import HandS.TupAny
import HandS.Conv
import HandS.Defaults
import HandS.HeadHook4
import HandS.EndTab
import HandS.HeadWalk
import HandS.Exc
import HandS.ExcOwn
import HandS.WordsExc
import HandS.TryOnly
import HandS.Iter
import KE.GoesEnum
import PyProof.EnumMake
import HandS.ExcIs
import HandS.TupMul
import PyProof.MinMaxWalk
import PyProof.WalksMore
import HandS.FltList
import HandS.Style
import HandS.Rev
import KE.KRevSl
import PyProof.EqKinds
import HandS.Deep
import HandS.SetFor
import KE.GoesSet
import HandS.Strs
import HandS.RepeatKit
import HandS.Zip0
import PyProof.GenCompT
import PyProof.P3In
import PyProof.Rows.InDataRows
import HandS.Text
import HandS.DictComp
import HandS.Small
import KE.SortKeyHeap
import HandS.SortKw
import HandS.Flow
import KE.KStateDown
import HandS.More
import HandS.Words
import HandS.Head0
import HandS.Head1
import HandS.Head2
import HandS.Head3
import HandS.HeadEnd
import HandS.HeadHook1
import HandS.HeadHook2
import HandS.HeadHook3
import PySem.Challenge.RW_fretways_k14_asked_again
set_option Elab.async false
set_option linter.all false
set_option maxRecDepth 100000
set_option maxHeartbeats 4000000
/-! FW0: data instead of heaps. A value stands for a datum (PyData); what does not change stands in a frozen part F of the heap; a reading of the layer becomes a predicate over data. -/
namespace FW
open PySem PySem.Spec PyProof.Rows L2
abbrev D := PyData
theorem same_t {K : PySem.W.Frag} {F H : Hp} {a : Addr} {xs : List V} (e : Same F H) (h : SqT K F a xs) : SqT K H a xs := by
  rcases h with (h | ⟨o, h⟩) | h
  · exact .inl (.inl (e _ _ h))
  · exact .inl (.inr ⟨o, e _ _ h⟩)
  · exact .inr h
/-- a dict of texts and numbers -/
def dicV (m : List (Str × Int)) : List (Key × V) := m.map fun p => (Sum.inr p.1, V.int p.2)
def dicD (m : List (Str × Int)) : List (D × D) := m.map fun p => (.str p.1, .int p.2)
theorem dicV_ne {m : List (Str × Int)} (h : m ≠ []) : (!(dicV m).isEmpty) = true := by
  cases m with
  | nil => exact absurd rfl h
  | cons p m => rfl
theorem dicD_ne {m : List (Str × Int)} {kvs : List (D × D)} (h : m ≠ []) (e : kvs = dicD m) : kvs ≠ [] := fun z => by
  rw [z] at e
  exact h (List.map_eq_nil_iff.mp e.symm)
/-! ### data: as the layer's Dp, but a list stands in the frozen part itself -/
mutual
inductive Rp (K : PySem.W.Frag) (F : Hp) : V → D → Prop
  | non : Rp K F .non .none
  | bl (b : Bool) : Rp K F (.bl b) (.bool b)
  | int (i : Int) : Rp K F (.int i) (.int i)
  | str (x : Str) : Rp K F (.str x) (.str x)
  | lst {a : Addr} {xs : List V} {ds : List D} : F a = some (.lst xs) → RpAll K F xs ds → Rp K F (.ref a) (.list ds)
  | tup {a : Addr} {xs : List V} {ds : List D} : SqT K F a xs → RpAll K F xs ds → Rp K F (.ref a) (.tuple ds)
  | dic {a : Addr} {m : List (Str × Int)} {kvs : List (D × D)} : m ≠ [] → kvs = dicD m → F a = some (.dK (dicV m)) → Rp K F (.ref a) (.dict kvs)
inductive RpAll (K : PySem.W.Frag) (F : Hp) : List V → List D → Prop
  | nil : RpAll K F [] []
  | cons {v : V} {vs : List V} {d : D} {ds : List D} : Rp K F v d → RpAll K F vs ds → RpAll K F (v :: vs) (d :: ds)
end
mutual
theorem dp_same {K : PySem.W.Frag} {F H : Hp} (e : Same F H) : ∀ (d : D) (v : V), Rp K F v d → Rp K H v d
  | .none, _, h => by cases h; exact .non
  | .bool b, _, h => by cases h; exact .bl b
  | .int i, _, h => by cases h; exact .int i
  | .str x, _, h => by cases h; exact .str x
  | .list ds, _, h => by
    cases h with
    | lst hs ha => exact .lst (e _ _ hs) (dpAll_same e ds _ ha)
  | .tuple ds, _, h => by
    cases h with
    | tup hs ha => exact .tup (same_t e hs) (dpAll_same e ds _ ha)
  | .dict _, _, h => by
    cases h with
    | dic h0 h1 h2 => exact .dic h0 h1 (e _ _ h2)
theorem dpAll_same {K : PySem.W.Frag} {F H : Hp} (e : Same F H) : ∀ (ds : List D) (vs : List V), RpAll K F vs ds → RpAll K H vs ds
  | [], _, h => by cases h; exact .nil
  | d :: ds, _, h => by
    cases h with
    | cons h1 h2 => exact .cons (dp_same e d _ h1) (dpAll_same e ds _ h2)
end
mutual
theorem rp_dp {K : PySem.W.Frag} {F : Hp} : ∀ (d : D) (v : V), PyData.canLay0 d = true → Rp K F v d → Dp K F v d
  | .none, _, _, h => by cases h; exact .non
  | .bool b, _, _, h => by cases h; exact .bl b
  | .int i, _, _, h => by cases h; exact .int i
  | .str x, _, _, h => by cases h; exact .str x
  | .list ds, _, l, h => by
    cases h with
    | lst hs ha => exact .lst (SqL.of hs) (rpAll_dp ds _ (by simpa only [PyData.canLay0] using l) ha)
  | .tuple ds, _, l, h => by
    cases h with
    | tup hs ha => exact .tup hs (rpAll_dp ds _ (by simpa only [PyData.canLay0] using l) ha)
  | .dict _, _, l, _ => by simp only [PyData.canLay0] at l; cases l
theorem rpAll_dp {K : PySem.W.Frag} {F : Hp} : ∀ (ds : List D) (vs : List V), PyData.canLayAll0 ds = true → RpAll K F vs ds → DpAll K F vs ds
  | [], _, _, h => by cases h; exact .nil
  | d :: ds, _, l, h => by
    simp only [PyData.canLayAll0, Bool.and_eq_true] at l
    cases h with
    | cons h1 h2 => exact .cons (rp_dp d _ l.1 h1) (rpAll_dp ds _ l.2 h2)
end
/-! ### what stands around: the row of draws, the tables of code objects -/
structure Glb where
  K : PySem.W.Frag
  Ps : List Addr
  cls : Str → Addr
structure Amb where
  g : Glb
  r : Addr
  a : Addr
  ns : List Int
abbrev Amb.K (c : Amb) : PySem.W.Frag := c.g.K
abbrev Amb.Ps (c : Amb) : List Addr := c.g.Ps
def RowOk (c : Amb) (H : Hp) : Prop := ∃ i x k : Int, H c.r = some (.lst [.ref c.a, .int i, .int x, .int k]) ∧ 0 ≤ i ∧ 0 ≤ x ∧ x < 2147483647 ∧ SqL c.K H c.a (c.ns.map V.int)
structure Wok (c : Amb) (H F : Hp) : Prop where
  sub : Same F H
  row : RowOk c H
  rF : F c.r = none
  tab : ∀ P ∈ c.Ps, GxR.TabG H P ∧ F P = none
structure Ext (c : Amb) (H F H' F' : Hp) : Prop where
  ok : Wok c H' F'
  grow : Same F F'
  keep : ∀ b o, H b = some o → b ≠ c.r → b ∉ c.Ps → H' b = some o
  new : ∀ b, F b = none → F' b ≠ none → H b = none
  pre : SqL c.K H c.a (c.ns.map V.int)
theorem RowOk.sq {c : Amb} {H : Hp} (h : RowOk c H) : SqL c.K H c.a (c.ns.map V.int) := let ⟨_, _, _, _, _, _, _, h⟩ := h; h
section
variable {c : Amb} {H F H1 F1 H2 F2 H' F' : Hp}
theorem Ext.refl (W : Wok c H F) : Ext c H F H F := ⟨W, fun _ _ h => h, fun _ _ h _ _ => h, fun _ h h' => absurd h h', W.row.sq⟩
theorem Wok.rH (W : Wok c H F) : H c.r ≠ none := by
  obtain ⟨i, x, k, h, _⟩ := W.row
  rw [h]; simp
theorem Ext.free (x : Ext c H F H' F') {b : Addr} (h : H' b = none) : H b = none := by
  cases q : H b with
  | none => rfl
  | some o =>
    by_cases hr : b = c.r
    · rw [hr] at h; exact absurd h x.ok.rH
    · by_cases hp : b ∈ c.Ps
      · obtain ⟨⟨ps, e, _⟩, _⟩ := x.ok.tab b hp
        rw [e] at h; cases h
      · rw [x.keep b o q hr hp] at h; cases h
theorem Ext.trans (a : Ext c H F H1 F1) (b : Ext c H1 F1 H2 F2) : Ext c H F H2 F2 where
  ok := b.ok
  grow := a.grow.trans b.grow
  keep := fun x o h hr hp => b.keep x o (a.keep x o h hr hp) hr hp
  new := fun x h h' => by
    by_cases q : F1 x = none
    · exact a.free (b.new x q h')
    · exact a.new x h q
  pre := a.pre
theorem RowOk.keep (h : RowOk c H) (k : ∀ b o, H b = some o → b ∉ c.Ps → H' b = some o) (ht : ∀ P ∈ c.Ps, GxR.TabG H P) : RowOk c H' := by
  obtain ⟨i, x, n, h1, h2, h3, h4, h5⟩ := h
  have nt : ∀ b o, H b = some o → (∀ ps, o ≠ .tbl ps) → H' b = some o := fun b o e ne => k b o e fun hb => by
    obtain ⟨ps, e', _⟩ := ht b hb
    rw [e] at e'; exact ne ps (Option.some.inj e')
  refine ⟨i, x, n, nt _ _ h1 (fun ps z => by cases z), h2, h3, h4, ?_⟩
  rcases h5 with (h5 | ⟨o, h5⟩) | h5
  · exact .inl (.inl (nt _ _ h5 fun ps z => by cases z))
  · exact .inl (.inr ⟨o, nt _ _ h5 fun ps z => by cases z⟩)
  · exact .inr h5
theorem upd_keep {p : Addr} {o : HO} (hp : H p = none) : ∀ b u, H b = some u → upd H p o b = some u := fun b u e => by
  rw [upd_ne (ne_of_none e hp)]; exact e
theorem TabG.keep {P : Addr} (h : GxR.TabG H P) (k : ∀ b o, H b = some o → H' b = some o) : GxR.TabG H' P := by
  obtain ⟨ps, e, t⟩ := h
  exact ⟨ps, k _ _ e, t⟩
/-- a new object, frozen -/
theorem Ext.laid (W : Wok c H F) {p : Addr} (o : HO) (hp : H p = none) : Ext c H F (upd H p o) (upd F p o) := by
  have hF : F p = none := by
    cases q : F p with
    | none => rfl
    | some u => rw [W.sub p u q] at hp; cases hp
  have np : ∀ b, H b ≠ none → b ≠ p := fun b h z => h (by rw [z]; exact hp)
  refine ⟨⟨fun b u e => ?_, W.row.keep (fun b u e _ => upd_keep hp b u e) (fun P h => (W.tab P h).1), ?_, fun P h => ⟨TabG.keep (W.tab P h).1 (upd_keep hp), ?_⟩⟩, upd_keep hF, fun b u e _ _ => upd_keep hp b u e, fun b h h' => ?_, W.row.sq⟩
  · by_cases hb : b = p
    · rw [hb, upd_same] at e ⊢; exact e
    · rw [upd_ne hb] at e ⊢; exact W.sub b u e
  · rw [upd_ne (np _ W.rH)]; exact W.rF
  · obtain ⟨⟨ps, e, _⟩, z⟩ := W.tab P h
    rw [upd_ne (np _ (by rw [e]; simp))]; exact z
  · by_cases hb : b = p
    · rw [hb]; exact hp
    · rw [upd_ne hb] at h'; exact absurd h h'
/-- a new object, not frozen -/
theorem Ext.loose (W : Wok c H F) {p : Addr} (o : HO) (hp : H p = none) : Ext c H F (upd H p o) F :=
  ⟨⟨fun b u e => upd_keep hp b u (W.sub b u e), W.row.keep (fun b u e _ => upd_keep hp b u e) (fun P h => (W.tab P h).1), W.rF, fun P h => ⟨TabG.keep (W.tab P h).1 (upd_keep hp), (W.tab P h).2⟩⟩, fun _ _ h => h, fun b u e _ _ => upd_keep hp b u e, fun b h h' => absurd h h', W.row.sq⟩
/-- an object that stands already in the heap and is nobody's is frozen -/
theorem Wok.freeze (W : Wok c H F) {p : Addr} {o : HO} (hp : H p = some o) (hr : p ≠ c.r) (ht : ∀ ps, o ≠ .tbl ps) : Wok c H (upd F p o) := by
  refine ⟨fun b u e => ?_, W.row, ?_, fun P h => ⟨(W.tab P h).1, ?_⟩⟩
  · by_cases hb : b = p
    · rw [hb, upd_same] at e; rw [hb, hp]; exact e
    · rw [upd_ne hb] at e; exact W.sub b u e
  · rw [upd_ne (fun z => hr z.symm)]; exact W.rF
  · obtain ⟨⟨ps, e, _⟩, z⟩ := W.tab P h
    rw [upd_ne (fun q => ?_)]
    · exact z
    · rw [q, hp] at e; exact ht ps (Option.some.inj e)
/-- an object that is new and not frozen is changed -/
theorem Ext.mut (x : Ext c H F H' F') {L : Addr} {ws : List V} (h0 : H L = none) (h2 : H' L = some (.lst ws)) (n2 : F' L = none) (nr : L ≠ c.r) (ws' : List V) : Ext c H F (upd H' L (.lst ws')) F' := by
  have np : L ∉ c.Ps := fun hp => by
    obtain ⟨⟨ps, q, _⟩, _⟩ := x.ok.tab L hp
    rw [h2] at q; cases q
  refine ⟨⟨fun b o eb => ?_, ?_, x.ok.rF, fun P hP => ⟨?_, (x.ok.tab P hP).2⟩⟩, x.grow, fun b o eb hr hp => ?_, x.new, x.pre⟩
  · rw [upd_ne (fun z => by rw [z, n2] at eb; cases eb)]; exact x.ok.sub b o eb
  · obtain ⟨i, y, n, h1, h3, h4, h5, h6⟩ := x.ok.row
    refine ⟨i, y, n, by rw [upd_ne (fun z => nr z.symm)]; exact h1, h3, h4, h5, ?_⟩
    rcases h6 with (h6 | ⟨o, h6⟩) | h6
    · by_cases hz : c.a = L
      · rcases x.pre with (p | ⟨o, p⟩) | p
        · rw [hz, h0] at p; cases p
        · rw [hz, h0] at p; cases p
        · exact .inr p
      · exact .inl (.inl (by rw [upd_ne hz]; exact h6))
    · exact .inl (.inr ⟨o, by rw [upd_ne (fun z => by rw [z, h2] at h6; cases h6)]; exact h6⟩)
    · exact .inr h6
  · obtain ⟨ps, e1, t1⟩ := (x.ok.tab P hP).1
    exact ⟨ps, by rw [upd_ne (fun (z : P = L) => np (z ▸ hP))]; exact e1, t1⟩
  · rw [upd_ne (fun z => by rw [z, h0] at eb; cases eb)]
    exact x.keep b o eb hr hp
/-! ### a datum of a value; the row is told as the empty dict -/
def RepV (c : Amb) (F : Hp) (v : V) (d : D) : Prop := Rp c.K F v d ∨ (d = .dict [] ∧ v = .ref c.r)
theorem RepV.grow {v : V} {d : D} (h : RepV c F v d) (e : Same F F') : RepV c F' v d := by
  rcases h with h | h
  · exact .inl (dp_same e _ _ h)
  · exact .inr h
theorem RepV.dp {v : V} {d : D} (h : RepV c F v d) (hd : d ≠ .dict []) : Rp c.K F v d := by
  rcases h with h | h
  · exact h
  · exact absurd h.1 hd
theorem RepV.int {i : Int} : RepV c F (.int i) (.int i) := .inl (.int i)
theorem RepV.bl {b : Bool} : RepV c F (.bl b) (.bool b) := .inl (.bl b)
theorem RepV.non : RepV c F .non .none := .inl .non
theorem RepV.str {x : Str} : RepV c F (.str x) (.str x) := .inl (.str x)
theorem RepV.int_inv {v : V} {i : Int} (h : RepV c F v (.int i)) : v = .int i := by
  have h := h.dp (by intro z; cases z)
  cases h; rfl
theorem RepV.bl_inv {v : V} {b : Bool} (h : RepV c F v (.bool b)) : v = .bl b := by
  have h := h.dp (by intro z; cases z)
  cases h; rfl
theorem RepV.non_inv {v : V} (h : RepV c F v .none) : v = .non := by
  have h := h.dp (by intro z; cases z)
  cases h; rfl
theorem RepV.str_inv {v : V} {x : Str} (h : RepV c F v (.str x)) : v = .str x := by
  have h := h.dp (by intro z; cases z)
  cases h; rfl
theorem RepV.row_inv {v : V} (h : RepV c F v (.dict [])) : v = .ref c.r := by
  rcases h with h | h
  · cases h with
    | dic h0 h1 _ => exact absurd (List.map_eq_nil_iff.mp h1.symm) h0
  · exact h.2
theorem RepV.list_inv {v : V} {ds : List D} (h : RepV c F v (.list ds)) : ∃ a vs, v = .ref a ∧ F a = some (.lst vs) ∧ RpAll c.K F vs ds := by
  have h := h.dp (by intro z; cases z)
  cases h with
  | lst hs ha => exact ⟨_, _, rfl, hs, ha⟩
theorem RepV.tup_inv {v : V} {ds : List D} (h : RepV c F v (.tuple ds)) : ∃ a vs, v = .ref a ∧ SqT c.K F a vs ∧ RpAll c.K F vs ds := by
  have h := h.dp (by intro z; cases z)
  cases h with
  | tup hs ha => exact ⟨_, _, rfl, hs, ha⟩
theorem dpAll_length {K : PySem.W.Frag} : ∀ {vs : List V} {ds : List D}, RpAll K F vs ds → vs.length = ds.length
  | _, _, .nil => rfl
  | _, _, .cons _ t => congrArg (· + 1) (dpAll_length t)
theorem dpAll_get {K : PySem.W.Frag} : ∀ {vs : List V} {ds : List D} {i : Nat} {v : V}, RpAll K F vs ds → vs[i]? = some v → ∃ d, ds[i]? = some d ∧ Rp K F v d
  | _, _, _, _, .nil, h => by simp at h
  | _, _, 0, _, .cons h _, e => by simp at e; subst e; exact ⟨_, rfl, h⟩
  | _, _, i + 1, _, .cons _ t, e => by
    obtain ⟨d, h1, h2⟩ := dpAll_get (i := i) t (by simpa using e)
    exact ⟨d, by simpa using h1, h2⟩
theorem dpAll_at {K : PySem.W.Frag} : ∀ {vs : List V} {ds : List D} {i : Nat} {d : D}, RpAll K F vs ds → ds[i]? = some d → ∃ v, vs[i]? = some v ∧ Rp K F v d
  | _, _, _, _, .nil, h => by simp at h
  | _, _, 0, _, .cons h _, e => by simp at e; subst e; exact ⟨_, rfl, h⟩
  | _, _, i + 1, _, .cons _ t, e => by
    obtain ⟨d, h1, h2⟩ := dpAll_at (i := i) t (by simpa using e)
    exact ⟨d, by simpa using h1, h2⟩
theorem dpAll_app {K : PySem.W.Frag} : ∀ {vs ws : List V} {ds es : List D}, RpAll K F vs ds → RpAll K F ws es → RpAll K F (vs ++ ws) (ds ++ es)
  | _, _, _, _, .nil, h => h
  | _, _, _, _, .cons h t, h2 => .cons h (dpAll_app t h2)
theorem dpAll_drop {K : PySem.W.Frag} : ∀ {vs : List V} {ds : List D} (n : Nat), RpAll K F vs ds → RpAll K F (vs.drop n) (ds.drop n)
  | _, _, 0, h => h
  | _, _, _ + 1, .nil => .nil
  | _, _, n + 1, .cons _ t => dpAll_drop n t
theorem dpAll_take {K : PySem.W.Frag} : ∀ {vs : List V} {ds : List D} (n : Nat), RpAll K F vs ds → RpAll K F (vs.take n) (ds.take n)
  | _, _, 0, _ => .nil
  | _, _, _ + 1, .nil => .nil
  | _, _, n + 1, .cons h t => .cons h (dpAll_take n t)
theorem dpAll_set {K : PySem.W.Frag} {v : V} {d : D} (h : Rp K F v d) : ∀ {vs : List V} {ds : List D} (i : Nat), RpAll K F vs ds → RpAll K F (vs.set i v) (ds.set i d)
  | _, _, _, .nil => .nil
  | _, _, 0, .cons _ t => .cons h t
  | _, _, i + 1, .cons q t => .cons q (dpAll_set h i t)
theorem dpAll_rev {K : PySem.W.Frag} : ∀ {vs : List V} {ds : List D}, RpAll K F vs ds → RpAll K F vs.reverse ds.reverse
  | _, _, .nil => .nil
  | _, _, .cons h t => by
    simp only [List.reverse_cons]
    exact dpAll_app (dpAll_rev t) (.cons h .nil)
theorem dpAll_ints {K : PySem.W.Frag} : ∀ (l : List Int), RpAll K F (l.map V.int) (l.map PyData.int)
  | [] => .nil
  | i :: l => .cons (.int i) (dpAll_ints l)
theorem dpAll_ints_inv {K : PySem.W.Frag} : ∀ (l : List Int) (vs : List V), RpAll K F vs (l.map PyData.int) → vs = l.map V.int
  | [], _, h => by cases h; rfl
  | i :: l, _, h => by
    cases h with
    | cons h1 h2 =>
      cases h1
      rw [dpAll_ints_inv l _ h2]; rfl
/-! ### the slots -/
inductive Sl where
  | un | val (d : D) | ownO (o : Option Hp) (ds : List D) | exc (a : Addr) | fix (k : Bool) (Fb : Hp) (d : D)
/-- without the lists of Fb -/
def cutF (F Fb : Hp) : Hp := fun b => match F b with
  | some (.lst vs) => (match Fb b with
    | none => some (.lst vs)
    | some _ => none)
  | o => o
theorem cutF_sub {F Fb : Hp} : Same (cutF F Fb) F := fun b o h => by
  unfold cutF at h
  split at h
  · rename_i vs e
    split at h
    · rw [e]; exact h
    · cases h
  · exact h
theorem cutF_some {F Fb : Hp} {b : Addr} {o : HO} (h : F b = some o) (k : (∃ vs, o = .lst vs) → Fb b = none) : cutF F Fb b = some o := by
  unfold cutF
  rw [h]
  cases o with
  | lst vs => show (match Fb b with | none => some (HO.lst vs) | some _ => none) = _; rw [k ⟨vs, rfl⟩]
  | _ => rfl
theorem cutF_new {F Fb : Hp} {b : Addr} {vs : List V} (h : cutF F Fb b = some (.lst vs)) : F b = some (.lst vs) ∧ Fb b = none := by
  refine ⟨cutF_sub _ _ h, ?_⟩
  have e := cutF_sub _ _ h
  unfold cutF at h
  rw [e] at h
  cases q : Fb b with
  | none => rfl
  | some o =>
    have h : (match Fb b with | none => some (HO.lst vs) | some _ => none) = some (HO.lst vs) := h
    rw [q] at h
    cases h
theorem cutF_grow {F F' Fb Fb' : Hp} (s : Same F F') (k : ∀ b, Fb b = none → F b ≠ none → Fb' b = none) : Same (cutF F Fb) (cutF F' Fb') := fun b o h => by
  have h1 := cutF_sub _ _ h
  refine cutF_some (s _ _ h1) fun ⟨vs, e⟩ => ?_
  subst e
  exact k b (cutF_new h).2 (by rw [h1]; simp)
/-- of data whose lists may be any -/
abbrev Sl.own (ds : List D) : Sl := .ownO none ds
def cutO (F : Hp) : Option Hp → Hp
  | none => F
  | some Fb => cutF F Fb
theorem cutO_grow {F F' : Hp} : ∀ (o : Option Hp), Same F F' → Same (cutO F o) (cutO F' o)
  | none, s => s
  | some _, s => cutF_grow s fun _ h _ => h
abbrev Sg := List Sl
structure RepS (c : Amb) (H0 : Hp) (σ : L2.St) (H F : Hp) (e : Sg) : Prop where
  len : σ.length = e.length
  val : ∀ (i : Nat) (d : D), e[i]? = some (.val d) → ∃ v, σ[i]? = some (some v) ∧ RepV c F v d
  ownO : ∀ (i : Nat) (o : Option Hp) (ds : List D), e[i]? = some (.ownO o ds) → ∃ a vs, σ[i]? = some (some (.ref a)) ∧ H a = some (.lst vs) ∧ F a = none ∧ H0 a = none ∧ a ≠ c.r ∧ RpAll c.K (cutO F o) vs ds
  distO : ∀ (i j : Nat) (o o' : Option Hp) (ds es : List D) (a : Addr), i ≠ j → e[i]? = some (.ownO o ds) → e[j]? = some (.ownO o' es) → σ[i]? = some (some (.ref a)) → σ[j]? = some (some (.ref a)) → False
  exc : ∀ (i : Nat) (a : Addr), e[i]? = some (.exc a) → σ[i]? = some (some (.ref a))
  fix : ∀ (i : Nat) (k : Bool) (Fb : Hp) (d : D), e[i]? = some (.fix k Fb d) → Same Fb F ∧ ∃ v, σ[i]? = some (some v) ∧ RepV c (if k = true then cutF F Fb else Fb) v d
theorem RepS.own {c : Amb} {H0 : Hp} {σ : L2.St} {H F : Hp} {e : Sg} (S : RepS c H0 σ H F e) (i : Nat) (ds : List D) (h : e[i]? = some (.own ds)) : ∃ a vs, σ[i]? = some (some (.ref a)) ∧ H a = some (.lst vs) ∧ F a = none ∧ H0 a = none ∧ a ≠ c.r ∧ RpAll c.K F vs ds := S.ownO i none ds h
theorem RepS.dist {c : Amb} {H0 : Hp} {σ : L2.St} {H F : Hp} {e : Sg} (S : RepS c H0 σ H F e) (i j : Nat) (ds es : List D) (a : Addr) (hij : i ≠ j) (h1 : e[i]? = some (.own ds)) (h2 : e[j]? = some (.own es)) (h3 : σ[i]? = some (some (.ref a))) (h4 : σ[j]? = some (some (.ref a))) : False := S.distO i j none none ds es a hij h1 h2 h3 h4
abbrev FixOk (c : Amb) (F : Hp) (σ : L2.St) (e : Sg) : Prop := ∀ (i : Nat) (k : Bool) (Fb : Hp) (d : D), e[i]? = some (.fix k Fb d) → Same Fb F ∧ ∃ v, σ[i]? = some (some v) ∧ RepV c (if k = true then cutF F Fb else Fb) v d
theorem fix_set {c : Amb} {F : Hp} {e : Sg} {σ : L2.St} {i : Nat} {s : Sl} {o : Option V} (S : FixOk c F σ e) (hs : ∀ k Fb d, s ≠ .fix k Fb d) : FixOk c F (σ.set i o) (e.set i s) := fun j k Fb d h => by
  by_cases hij : i = j
  · subst hij
    by_cases hl : i < e.length
    · rw [List.getElem?_set_self hl] at h
      exact absurd (Option.some.inj h) (hs k Fb d)
    · rw [List.getElem?_eq_none (by simpa using hl)] at h; cases h
  · rw [List.getElem?_set_ne hij] at h ⊢
    exact S j k Fb d h
theorem fix_set0 {c : Amb} {F : Hp} {e : Sg} {σ : L2.St} {i : Nat} {s : Sl} (S : FixOk c F σ e) (hs : ∀ k Fb d, s ≠ .fix k Fb d) : FixOk c F σ (e.set i s) := fun j k Fb d h => by
  by_cases hij : i = j
  · subst hij
    by_cases hl : i < e.length
    · rw [List.getElem?_set_self hl] at h
      exact absurd (Option.some.inj h) (hs k Fb d)
    · rw [List.getElem?_eq_none (by simpa using hl)] at h; cases h
  · rw [List.getElem?_set_ne hij] at h
    exact S j k Fb d h
theorem fix_grow {c : Amb} {F F' : Hp} {e : Sg} {σ : L2.St} (S : FixOk c F σ e) (g : Same F F') : FixOk c F' σ e := fun j k Fb d h => by
  obtain ⟨h1, v, h2, h3⟩ := S j k Fb d h
  refine ⟨h1.trans g, v, h2, ?_⟩
  cases k with
  | false => exact h3
  | true => exact h3.grow (cutF_grow g fun _ z _ => z)
/-- a slot is set, to what is no exception -/
theorem exc_set {e : Sg} {σ : L2.St} {i : Nat} {s : Sl} {o : Option V} (S : ∀ (i : Nat) (a : Addr), e[i]? = some (.exc a) → σ[i]? = some (some (.ref a))) (hs : ∀ a, s ≠ .exc a) (j : Nat) (a : Addr) (h : (e.set i s)[j]? = some (.exc a)) : (σ.set i o)[j]? = some (some (.ref a)) := by
  by_cases hij : i = j
  · subst hij
    by_cases hl : i < e.length
    · rw [List.getElem?_set_self hl] at h
      exact absurd (Option.some.inj h) (hs a)
    · rw [List.getElem?_eq_none (by simpa using hl)] at h; cases h
  · rw [List.getElem?_set_ne hij] at h ⊢
    exact S j a h
theorem exc_set0 {e : Sg} {σ : L2.St} {i : Nat} {s : Sl} (S : ∀ (i : Nat) (a : Addr), e[i]? = some (.exc a) → σ[i]? = some (some (.ref a))) (hs : ∀ a, s ≠ .exc a) (j : Nat) (a : Addr) (h : (e.set i s)[j]? = some (.exc a)) : σ[j]? = some (some (.ref a)) := by
  by_cases hij : i = j
  · subst hij
    by_cases hl : i < e.length
    · rw [List.getElem?_set_self hl] at h
      exact absurd (Option.some.inj h) (hs a)
    · rw [List.getElem?_eq_none (by simpa using hl)] at h; cases h
  · rw [List.getElem?_set_ne hij] at h
    exact S j a h
variable {H0 : Hp} {σ : L2.St} {e : Sg}
theorem Wok.noP (W : Wok c H F) {a : Addr} {vs : List V} (h : H a = some (.lst vs)) : a ∉ c.Ps := fun hp => by
  obtain ⟨⟨ps, q, _⟩, _⟩ := W.tab a hp
  rw [h] at q; cases q
theorem RepS.ext (S : RepS c H0 σ H F e) (W : Wok c H F) (x : Ext c H F H' F') : RepS c H0 σ H' F' e where
  exc := S.exc
  fix := fix_grow S.fix x.grow
  len := S.len
  val := fun i d h => by
    obtain ⟨v, h1, h2⟩ := S.val i d h
    exact ⟨v, h1, h2.grow x.grow⟩
  ownO := fun i o ds h => by
    obtain ⟨a, vs, h1, h2, h3, h4, h5, h6⟩ := S.ownO i o ds h
    refine ⟨a, vs, h1, x.keep a _ h2 h5 (W.noP h2), ?_, h4, h5, dpAll_same (cutO_grow o x.grow) _ _ h6⟩
    cases q : F' a with
    | none => rfl
    | some u =>
      have := x.new a h3 (by rw [q]; simp)
      rw [h2] at this; cases this
  distO := S.distO
theorem RepS.set_val (S : RepS c H0 σ H F e) (i : Nat) {v : V} {d : D} (r : RepV c F v d) : RepS c H0 (σ.set i (some v)) H F (e.set i (.val d)) where
  exc := exc_set S.exc fun _ z => nomatch z
  fix := fix_set S.fix fun _ _ _ z => nomatch z
  len := by simp [S.len]
  val := fun j d' h => by
    by_cases hij : i = j
    · subst hij
      by_cases hl : i < e.length
      · rw [List.getElem?_set_self hl] at h
        cases h
        exact ⟨v, by rw [List.getElem?_set_self (by rw [S.len]; exact hl)], r⟩
      · rw [List.getElem?_eq_none (by simpa using hl)] at h; cases h
    · rw [List.getElem?_set_ne hij] at h ⊢
      exact S.val j d' h
  ownO := fun j o' ds h => by
    by_cases hij : i = j
    · subst hij
      by_cases hl : i < e.length
      · rw [List.getElem?_set_self hl] at h; cases h
      · rw [List.getElem?_eq_none (by simpa using hl)] at h; cases h
    · rw [List.getElem?_set_ne hij] at h ⊢
      exact S.ownO j o' ds h
  distO := fun j k o1 o2 ds es a hjk h1 h2 h3 h4 => by
    have f : ∀ (j : Nat) (o : Option Hp) (ds : List D), (e.set i (.val d))[j]? = some (.ownO o ds) → i ≠ j := fun j o ds h z => by
      subst z
      by_cases hl : i < e.length
      · rw [List.getElem?_set_self hl] at h; cases h
      · rw [List.getElem?_eq_none (by simpa using hl)] at h; cases h
    have n1 := f j o1 ds h1
    have n2 := f k o2 es h2
    rw [List.getElem?_set_ne n1] at h1 h3
    rw [List.getElem?_set_ne n2] at h2 h4
    exact S.distO j k o1 o2 ds es a hjk h1 h2 h3 h4
theorem RepS.set_un (S : RepS c H0 σ H F e) (i : Nat) (o : Option V) : RepS c H0 (σ.set i o) H F (e.set i .un) where
  exc := exc_set S.exc fun _ z => nomatch z
  fix := fix_set S.fix fun _ _ _ z => nomatch z
  len := by simp [S.len]
  val := fun j d' h => by
    by_cases hij : i = j
    · subst hij
      by_cases hl : i < e.length
      · rw [List.getElem?_set_self hl] at h; cases h
      · rw [List.getElem?_eq_none (by simpa using hl)] at h; cases h
    · rw [List.getElem?_set_ne hij] at h ⊢
      exact S.val j d' h
  ownO := fun j o' ds h => by
    by_cases hij : i = j
    · subst hij
      by_cases hl : i < e.length
      · rw [List.getElem?_set_self hl] at h; cases h
      · rw [List.getElem?_eq_none (by simpa using hl)] at h; cases h
    · rw [List.getElem?_set_ne hij] at h ⊢
      exact S.ownO j o' ds h
  distO := fun j k o1 o2 ds es a hjk h1 h2 h3 h4 => by
    have f : ∀ (j : Nat) (o : Option Hp) (ds : List D), (e.set i Sl.un)[j]? = some (.ownO o ds) → i ≠ j := fun j o ds h z => by
      subst z
      by_cases hl : i < e.length
      · rw [List.getElem?_set_self hl] at h; cases h
      · rw [List.getElem?_eq_none (by simpa using hl)] at h; cases h
    have n1 := f j o1 ds h1
    have n2 := f k o2 es h2
    rw [List.getElem?_set_ne n1] at h1 h3
    rw [List.getElem?_set_ne n2] at h2 h4
    exact S.distO j k o1 o2 ds es a hjk h1 h2 h3 h4
/-- a slot gets a list of its own at p -/
theorem RepS.set_ownO (S : RepS c H0 σ H F e) (i : Nat) (o : Option Hp) {p : Addr} {vs : List V} {ds : List D} (hp : H p = some (.lst vs)) (hF : F p = none) (h0 : H0 p = none) (hr : p ≠ c.r) (hd : RpAll c.K (cutO F o) vs ds)
    (hn : ∀ (j : Nat) (o : Option Hp) (es : List D), j ≠ i → e[j]? = some (.ownO o es) → σ[j]? ≠ some (some (.ref p))) : RepS c H0 (σ.set i (some (.ref p))) H F (e.set i (.ownO o ds)) where
  exc := exc_set S.exc fun _ z => nomatch z
  fix := fix_set S.fix fun _ _ _ z => nomatch z
  len := by simp [S.len]
  val := fun j d' h => by
    by_cases hij : i = j
    · subst hij
      by_cases hl : i < e.length
      · rw [List.getElem?_set_self hl] at h; cases h
      · rw [List.getElem?_eq_none (by simpa using hl)] at h; cases h
    · rw [List.getElem?_set_ne hij] at h ⊢
      exact S.val j d' h
  ownO := fun j o' es h => by
    by_cases hij : i = j
    · subst hij
      by_cases hl : i < e.length
      · rw [List.getElem?_set_self hl] at h
        cases h
        exact ⟨p, vs, by rw [List.getElem?_set_self (by rw [S.len]; exact hl)], hp, hF, h0, hr, hd⟩
      · rw [List.getElem?_eq_none (by simpa using hl)] at h; cases h
    · rw [List.getElem?_set_ne hij] at h ⊢
      exact S.ownO j o' es h
  distO := fun j k o1 o2 es fs a hjk h1 h2 h3 h4 => by
    by_cases n1 : i = j
    · subst n1
      have n2 : i ≠ k := hjk
      rw [List.getElem?_set_ne n2] at h2 h4
      have : a = p := by
        by_cases hl : i < σ.length
        · rw [List.getElem?_set_self hl] at h3; cases h3; rfl
        · rw [List.getElem?_eq_none (by simpa using hl)] at h3; cases h3
      subst this
      exact hn k o2 fs (fun z => n2 z.symm) h2 h4
    · by_cases n2 : i = k
      · subst n2
        rw [List.getElem?_set_ne n1] at h1 h3
        have : a = p := by
          by_cases hl : i < σ.length
          · rw [List.getElem?_set_self hl] at h4; cases h4; rfl
          · rw [List.getElem?_eq_none (by simpa using hl)] at h4; cases h4
        subst this
        exact hn j o1 es (fun z => n1 z.symm) h1 h3
      · rw [List.getElem?_set_ne n1] at h1 h3
        rw [List.getElem?_set_ne n2] at h2 h4
        exact S.distO j k o1 o2 es fs a hjk h1 h2 h3 h4
theorem RepS.set_own (S : RepS c H0 σ H F e) (i : Nat) {p : Addr} {vs : List V} {ds : List D} (hp : H p = some (.lst vs)) (hF : F p = none) (h0 : H0 p = none) (hr : p ≠ c.r) (hd : RpAll c.K F vs ds)
    (hn : ∀ (j : Nat) (o : Option Hp) (es : List D), j ≠ i → e[j]? = some (.ownO o es) → σ[j]? ≠ some (some (.ref p))) : RepS c H0 (σ.set i (some (.ref p))) H F (e.set i (.own ds)) := S.set_ownO i none hp hF h0 hr hd hn
end
end FW
/-! FW1: readings over data: expressions, tests, arguments, statements. -/
namespace FW
open PySem PySem.Spec PyProof.Rows L2
/-! ### a judgement asks less where its reading asks more -/
section
variable {X : Cx}
theorem pe_w {e : Expr} {t t' : TE} (h : PE X e t) (k : ∀ σ H Q, t' σ H Q → t σ H Q) : PE X e t' := ⟨fun pins s σ H Q I q => h.run pins s σ H Q I (k σ H Q q)⟩
theorem pt_w {e : Expr} {t t' : TT} (h : PT X e t) (k : ∀ σ H Q, t' σ H Q → t σ H Q) : PT X e t' := ⟨fun pins s σ H Q I q => h.run pins s σ H Q I (k σ H Q q)⟩
theorem pw_w {e : Expr} {t t' : TT} (h : PW X e t) (k : ∀ σ H Q, t' σ H Q → t σ H Q) : PW X e t' := ⟨fun wh pins s σ H Q I q => h.run wh pins s σ H Q I (k σ H Q q)⟩
theorem pa_w {es : List Expr} {t t' : TA} (h : PA X es t) (k : ∀ σ H Q, t' σ H Q → t σ H Q) : PA X es t' := ⟨fun pos pins s σ H Q I q => h.run pos pins s σ H Q I (k σ H Q q)⟩
theorem ps_w {st : Stmt} {t t' : TS} (h : PS X st t) (k : ∀ D σ H, t' D σ H → t D σ H) : PS X st t' := ⟨fun pins s σ H D I q => h.run pins s σ H D I (k D σ H q)⟩
theorem pss_w {st : List Stmt} {t t' : TS} (h : PSs X st t) (k : ∀ D σ H, t' D σ H → t D σ H) : PSs X st t' := ⟨fun pins s σ H D I q => h.run pins s σ H D I (k D σ H q)⟩
theorem pts_w {es : List Expr} {t t' : TT} (h : PTs X es t) (k : ∀ σ H Q, t' σ H Q → t σ H Q) : PTs X es t' := ⟨fun pins s σ H Q I q => h.run pins s σ H Q I (k σ H Q q)⟩
theorem pi_w {tg it : Expr} {t t' : TI} (h : PI X tg it t) (k : ∀ σ H R, t' σ H R → t σ H R) : PI X tg it t' := ⟨fun pins s σ H R I q => h.run pins s σ H R I (k σ H R q)⟩
end
/-! ### readings over data -/
abbrev W := Sg → (D → Prop) → Prop
abbrev WT := Sg → (Bool → Prop) → Prop
abbrev WA := Sg → (List D → Prop) → Prop
abbrev RepVs (c : Amb) (F : Hp) : List V → List D → Prop := Paired (RepV c F)
section
variable (c : Amb)
def Post (H F : Hp) (R : D → Prop) (Q : VK) : Prop := ∀ d v H' F', R d → Ext c H F H' F' → RepV c F' v d → Q v H'
def tD (w : W) : TE := fun σ H Q => ∃ e F H0 R, Wok c H F ∧ RepS c H0 σ H F e ∧ w e R ∧ Post c H F R Q
def tT (w : WT) : TT := fun σ H Q => ∃ e F H0 R, Wok c H F ∧ RepS c H0 σ H F e ∧ w e R ∧ ∀ b H' F', R b → Ext c H F H' F' → Q b H'
def tA (w : WA) : TA := fun σ H Q => ∃ e F H0 R, Wok c H F ∧ RepS c H0 σ H F e ∧ w e R ∧ ∀ ds vs H' F', R ds → Ext c H F H' F' → RepVs c F' vs ds → Q vs H'
/-- a new list, nobody's yet -/
def tN (w : WA) : TE := fun σ H Q => ∃ e F H0 R, Wok c H F ∧ RepS c H0 σ H F e ∧ w e R ∧ ∀ ds p vs H' F', R ds → Ext c H F H' F' → H p = none → H' p = some (.lst vs) → F' p = none → p ≠ c.r → RpAll c.K F' vs ds → Q (.ref p) H'
end
section
variable {c : Amb} {H F H0 H1 F1 H' F' : Hp} {σ : L2.St} {e : Sg} {X : Cx}
theorem Post.ext {R : D → Prop} {Q : VK} (P : Post c H F R Q) (x : Ext c H F H1 F1) : Post c H1 F1 R Q := fun d v H' F' r x' rv => P d v H' F' r (x.trans x') rv
theorem Post.here {R : D → Prop} {Q : VK} (P : Post c H F R Q) (W : Wok c H F) {d : D} {v : V} (r : R d) (rv : RepV c F v d) : Q v H := P d v H F r (Ext.refl W) rv
theorem repVs_grow : ∀ {vs : List V} {ds : List D}, RepVs c F vs ds → Same F F' → RepVs c F' vs ds
  | _, _, .nil, _ => .nil
  | _, _, .cons h t, e => .cons (h.grow e) (repVs_grow t e)
theorem repVs_dp : ∀ {vs : List V} {ds : List D}, RepVs c F vs ds → (∀ d ∈ ds, d ≠ .dict []) → RpAll c.K F vs ds
  | _, _, .nil, _ => .nil
  | _, _, .cons h t, k => .cons (h.dp (k _ List.mem_cons_self)) (repVs_dp t fun d hd => k d (List.mem_cons_of_mem _ hd))
theorem dpAll_rep : ∀ {vs : List V} {ds : List D}, RpAll c.K F vs ds → RepVs c F vs ds
  | _, _, .nil => .nil
  | _, _, .cons h t => .cons (.inl h) (dpAll_rep t)
/-! ### values -/
/-- what a slot tells -/
@[simp] def rd : Option Sl → Option D
  | some (.val d) => some d
  | some (.fix _ _ d) => some d
  | _ => none
theorem RepS.rd (S : RepS c H0 σ H F e) {i : Nat} {d : D} (h : rd e[i]? = some d) : ∃ v, σ[i]? = some (some v) ∧ RepV c F v d := by
  cases q : e[i]? with
  | none => rw [q] at h; cases h
  | some s =>
    rw [q] at h
    cases s with
    | val d' => cases h; exact S.val i d q
    | fix k Fb d' =>
      cases h
      obtain ⟨h1, v, h2, h3⟩ := S.fix i k Fb d q
      refine ⟨v, h2, ?_⟩
      cases k with
      | false => exact h3.grow h1
      | true => exact h3.grow cutF_sub
    | _ => cases h
@[simp] def dVar (i : Nat) : W := fun e R => ∃ d, rd e[i]? = some d ∧ R d
@[simp] def dC (d : D) : W := fun _ R => R d
theorem xd_var {i : Nat} : ∀ σ H Q, tD c (dVar i) σ H Q → tVar i σ H Q := fun σ H Q ⟨e, F, H0, R, W, S, ⟨d, h, r⟩, P⟩ => by
  obtain ⟨v, h1, h2⟩ := S.rd h
  exact ⟨v, h1, P.here W r h2⟩
theorem xd_c {v : V} {d : D} (h : ∀ F, RepV c F v d) : ∀ σ H Q, tD c (dC d) σ H Q → tC v σ H Q := fun σ H Q ⟨e, F, H0, R, W, S, r, P⟩ => P.here W r (h F)
def OpD (c : Amb) (r : R2) (rd : D → D → (D → Prop) → Prop) : Prop := ∀ H F x y d e R Q, Wok c H F → RepV c F x d → RepV c F y e → rd d e R → Post c H F R Q → r x y H Q
@[simp] def dOp (rd : D → D → (D → Prop) → Prop) (wa wb : W) : W := fun e R => wa e fun x => wb e fun y => rd x y R
theorem xd_op {r : R2} {rd : D → D → (D → Prop) → Prop} (hd : OpD c r rd) {wa wb : W} : ∀ σ H Q, tD c (dOp rd wa wb) σ H Q → tOp r (tD c wa) (tD c wb) σ H Q := fun σ H Q ⟨e, F, H0, R, W, S, q, P⟩ =>
  ⟨e, F, H0, _, W, S, q, fun d v H1 F1 q1 x1 r1 => ⟨e, F1, H0, _, x1.ok, S.ext W x1, q1, fun d2 v2 H2 F2 q2 x2 r2 =>
    hd H2 F2 v v2 d d2 R Q x2.ok (r1.grow x2.grow) r2 q2 (P.ext (x1.trans x2))⟩⟩
@[simp] def rdI (g : Int → Int → D) : D → D → (D → Prop) → Prop := fun x y R => ∃ i j, x = .int i ∧ y = .int j ∧ R (g i j)
@[simp] def rdC (C : Int → Int → Prop) (g : Int → Int → D) : D → D → (D → Prop) → Prop := fun x y R => ∃ i j, x = .int i ∧ y = .int j ∧ C i j ∧ R (g i j)
theorem od_I0 {g : Int → Int → V} {gd : Int → Int → D} (h : ∀ F i j, RepV c F (g i j) (gd i j)) : OpD c (rI0 g) (rdI gd) := by
  rintro H F x y d e R Q W rx ry ⟨i, j, rfl, rfl, r⟩ P
  exact ⟨i, j, rx.int_inv, ry.int_inv, P.here W r (h F i j)⟩
theorem od_I {C : Int → Int → Prop} {g : Int → Int → V} {gd : Int → Int → D} (h : ∀ F i j, RepV c F (g i j) (gd i j)) : OpD c (rI C g) (rdC C gd) := by
  rintro H F x y d e R Q W rx ry ⟨i, j, rfl, rfl, hc, r⟩ P
  exact ⟨i, j, rx.int_inv, ry.int_inv, hc, P.here W r (h F i j)⟩
abbrev rdAdd := rdI fun i j => .int (i + j)
abbrev rdSub := rdI fun i j => .int (i - j)
abbrev rdLt := rdI fun i j => .bool (decide (i < j))
abbrev rdLe := rdI fun i j => .bool (decide (i ≤ j))
abbrev rdGt := rdI fun i j => .bool (decide (j < i))
abbrev rdGe := rdI fun i j => .bool (decide (j ≤ i))
abbrev rdMul := rdC CMul fun i j => .int (i * j)
abbrev rdDiv := rdC CDivN fun i j => .int (i.fdiv j)
abbrev rdMod := rdC (fun _ j => j ≠ 0) fun i j => .int (i.fmod j)
abbrev rdPow := rdC CPow fun i j => .int (i ^ j.toNat)
theorem od_add : OpD c (rI0 fun i j => .int (i + j)) rdAdd := od_I0 fun _ _ _ => .int
theorem od_sub : OpD c (rI0 fun i j => .int (i - j)) rdSub := od_I0 fun _ _ _ => .int
theorem od_lt : OpD c (rI0 fun i j => .bl (decide (i < j))) rdLt := od_I0 fun _ _ _ => .bl
theorem od_le : OpD c (rI0 fun i j => .bl (decide (i ≤ j))) rdLe := od_I0 fun _ _ _ => .bl
theorem od_gt : OpD c (rI0 fun i j => .bl (decide (j < i))) rdGt := od_I0 fun _ _ _ => .bl
theorem od_ge : OpD c (rI0 fun i j => .bl (decide (j ≤ i))) rdGe := od_I0 fun _ _ _ => .bl
theorem od_mul : OpD c (rI CMul fun i j => .int (i * j)) rdMul := od_I fun _ _ _ => .int
theorem od_div : OpD c (rI CDivN fun i j => .int (i.fdiv j)) rdDiv := od_I fun _ _ _ => .int
theorem od_mod : OpD c (rI (fun _ j => j ≠ 0) fun i j => .int (i.fmod j)) rdMod := od_I fun _ _ _ => .int
theorem od_pow : OpD c (rI CPow fun i j => .int (i ^ j.toNat)) rdPow := od_I fun _ _ _ => .int
/-- == and != of any data -/
@[simp] def rdEq : D → D → (D → Prop) → Prop := fun x y R => SeqAt.shaped x = true ∧ SeqAt.shaped y = true ∧ x ≠ .dict [] ∧ y ≠ .dict [] ∧ R (.bool (PyData.eqv x y))
@[simp] def rdNe : D → D → (D → Prop) → Prop := fun x y R => SeqAt.shaped x = true ∧ SeqAt.shaped y = true ∧ x ≠ .dict [] ∧ y ≠ .dict [] ∧ R (.bool (!PyData.eqv x y))
theorem od_eq : OpD c (rEqD c.K) rdEq := by
  rintro H F x y d e R Q W rx ry ⟨h1, h2, h3, h4, r⟩ P
  exact ⟨d, e, rp_dp _ _ (SeqAt.canLay_of_shaped h1) (dp_same W.sub _ _ (rx.dp h3)), rp_dp _ _ (SeqAt.canLay_of_shaped h2) (dp_same W.sub _ _ (ry.dp h4)), h1, h2, P.here W r .bl⟩
theorem od_ne : OpD c (rNeD c.K) rdNe := by
  rintro H F x y d e R Q W rx ry ⟨h1, h2, h3, h4, r⟩ P
  exact ⟨d, e, rp_dp _ _ (SeqAt.canLay_of_shaped h1) (dp_same W.sub _ _ (rx.dp h3)), rp_dp _ _ (SeqAt.canLay_of_shaped h2) (dp_same W.sub _ _ (ry.dp h4)), h1, h2, P.here W r .bl⟩
/-- is None -/
def isNone : D → Bool
  | .none => true
  | _ => false
@[simp] def dIsN (w : W) : W := fun e R => w e fun d => R (.bool (isNone d))
@[simp] def dNotN (w : W) : W := fun e R => w e fun d => R (.bool (!isNone d))
theorem isN_eq {v : V} {d : D} (r : RepV c F v d) : decide (v = .non) = isNone d := by
  rcases r with h | ⟨rfl, rfl⟩
  · cases h <;> simp [isNone]
  · simp [isNone]
theorem xd_isN {w : W} : ∀ σ H Q, tD c (dIsN w) σ H Q → tIsN (tD c w) σ H Q := fun σ H Q ⟨e, F, H0, R, W, S, q, P⟩ =>
  ⟨e, F, H0, _, W, S, q, fun d v H1 F1 q1 x1 r1 => by show Q (.bl (decide (v = .non))) H1; rw [isN_eq r1]; exact P _ _ _ _ q1 x1 .bl⟩
theorem xd_notN {w : W} : ∀ σ H Q, tD c (dNotN w) σ H Q → tNotN (tD c w) σ H Q := fun σ H Q ⟨e, F, H0, R, W, S, q, P⟩ =>
  ⟨e, F, H0, _, W, S, q, fun d v H1 F1 q1 x1 r1 => by
    show Q (.bl (!decide (v = .non))) H1
    rw [isN_eq r1]
    exact P _ _ _ _ q1 x1 .bl⟩
@[simp] def dNeg (w : W) : W := fun e R => w e fun d => ∃ i, d = .int i ∧ R (.int (-i))
theorem xd_neg {w : W} : ∀ σ H Q, tD c (dNeg w) σ H Q → tUn (rU fun i => .int (-i)) (tD c w) σ H Q := fun σ H Q ⟨e, F, H0, R, W, S, q, P⟩ =>
  ⟨e, F, H0, _, W, S, q, fun d v H1 F1 ⟨i, hi, q1⟩ x1 r1 => by subst hi; exact ⟨i, r1.int_inv, P _ _ _ _ q1 x1 .int⟩⟩
/-! ### tests -/
@[simp] def bB (w : W) : WT := fun e R => w e fun d => ∃ b, d = .bool b ∧ R b
theorem xt_test {w : W} : ∀ σ H Q, tT c (bB w) σ H Q → tTest (tD c w) σ H Q := fun σ H Q ⟨e, F, H0, R, W, S, q, P⟩ =>
  ⟨e, F, H0, _, W, S, q, fun d v H1 F1 ⟨b, hb, q1⟩ x1 r1 => by subst hb; exact ⟨b, r1.bl_inv, P _ _ _ q1 x1⟩⟩
theorem xt_B {w : W} : ∀ σ H Q, tT c (bB w) σ H Q → tB (tD c w) σ H Q := xt_test
@[simp] def tru : D → Bool
  | .none => false
  | .bool b => b
  | .int i => i != 0
  | .str _ => true
  | .list ds => !ds.isEmpty
  | .tuple ds => !ds.isEmpty
  | .dict _ => true
/-- truth of what is no text -/
@[simp] def bTru (w : W) : WT := fun e R => w e fun d => (∀ x, d ≠ .str x) ∧ d ≠ .dict [] ∧ R (tru d)
theorem isEmpty_len {α β : Type} {xs : List α} {ys : List β} (h : xs.length = ys.length) : xs.isEmpty = ys.isEmpty := by
  cases xs <;> cases ys <;> simp_all
theorem xt_tru {w : W} : ∀ σ H Q, tT c (bTru w) σ H Q → (fun σ H Q => tD c w σ H fun x H' => ∃ k, TruV c.K x H' k ∧ Q k H') σ H Q := fun σ H Q ⟨e, F, H0, R, W, S, q, P⟩ =>
  ⟨e, F, H0, _, W, S, q, fun d v H1 F1 ⟨n1, n2, q1⟩ x1 r1 => ⟨tru d, by
    have h := r1.dp n2
    cases h with
    | non => exact rfl
    | bl b => exact rfl
    | int i => exact rfl
    | str x => exact absurd rfl (n1 x)
    | lst hs ha => exact .inl ⟨_, SqL.of (x1.ok.sub _ _ hs), by show (!_) = (!_); rw [isEmpty_len (dpAll_length ha)]⟩
    | tup hs ha => exact .inr (.inl ⟨_, same_t x1.ok.sub hs, by show (!_) = (!_); rw [isEmpty_len (dpAll_length ha)]⟩)
    | dic h0 h1 h2 => exact .inr (.inr ⟨_, x1.ok.sub _ _ h2, (dicV_ne h0).symm⟩), P _ _ _ q1 x1⟩⟩
@[simp] def bAnd (a b : WT) : WT := fun e R => a e fun x => if x = true then b e R else R false
@[simp] def bOr (a b : WT) : WT := fun e R => a e fun x => if x = true then R true else b e R
@[simp] def bNot (a : WT) : WT := fun e R => a e fun x => R (!x)
theorem xt_and {a b : WT} : ∀ σ H Q, tT c (bAnd a b) σ H Q → tAnd (tT c a) (tT c b) σ H Q := fun σ H Q ⟨e, F, H0, R, W, S, q, P⟩ =>
  ⟨e, F, H0, _, W, S, q, fun x H1 F1 q1 x1 => by
    cases x with
    | true => exact ⟨e, F1, H0, R, x1.ok, S.ext W x1, by simpa using q1, fun b H2 F2 r x2 => P b H2 F2 r (x1.trans x2)⟩
    | false => exact P false H1 F1 (by simpa using q1) x1⟩
theorem xt_or {a b : WT} : ∀ σ H Q, tT c (bOr a b) σ H Q → tOr (tT c a) (tT c b) σ H Q := fun σ H Q ⟨e, F, H0, R, W, S, q, P⟩ =>
  ⟨e, F, H0, _, W, S, q, fun x H1 F1 q1 x1 => by
    cases x with
    | true => exact P true H1 F1 (by simpa using q1) x1
    | false => exact ⟨e, F1, H0, R, x1.ok, S.ext W x1, by simpa using q1, fun b H2 F2 r x2 => P b H2 F2 r (x1.trans x2)⟩⟩
theorem xt_not {a : WT} : ∀ σ H Q, tT c (bNot a) σ H Q → tNot (tT c a) σ H Q := fun σ H Q ⟨e, F, H0, R, W, S, q, P⟩ =>
  ⟨e, F, H0, _, W, S, q, fun x H1 F1 q1 x1 => P _ H1 F1 q1 x1⟩
theorem xt_yes : ∀ σ H Q, tT c (fun _ R => R true) σ H Q → tYes σ H Q := fun σ H Q ⟨e, F, H0, R, W, S, q, P⟩ => P true H F q (Ext.refl W)
/-- and, or, not of truth values, as values -/
@[simp] def dAnd (a b : W) : W := fun e R => a e fun x => ∃ k, x = .bool k ∧ if k = true then b e R else R (.bool false)
@[simp] def dOr (a b : W) : W := fun e R => a e fun x => ∃ k, x = .bool k ∧ if k = true then R (.bool true) else b e R
@[simp] def dNot (a : W) : W := fun e R => a e fun x => ∃ k, x = .bool k ∧ R (.bool (!k))
theorem xd_and {a b : W} : ∀ σ H Q, tD c (dAnd a b) σ H Q → tAndV (tD c a) (tD c b) σ H Q := fun σ H Q ⟨e, F, H0, R, W, S, q, P⟩ =>
  ⟨e, F, H0, _, W, S, q, fun d v H1 F1 ⟨k, hk, q1⟩ x1 r1 => by
    subst hk
    refine ⟨k, r1.bl_inv, ?_⟩
    cases k with
    | true => exact ⟨e, F1, H0, R, x1.ok, S.ext W x1, by simpa using q1, P.ext x1⟩
    | false => exact P _ _ H1 F1 (by simpa using q1) x1 .bl⟩
theorem xd_or {a b : W} : ∀ σ H Q, tD c (dOr a b) σ H Q → tOrV (tD c a) (tD c b) σ H Q := fun σ H Q ⟨e, F, H0, R, W, S, q, P⟩ =>
  ⟨e, F, H0, _, W, S, q, fun d v H1 F1 ⟨k, hk, q1⟩ x1 r1 => by
    subst hk
    refine ⟨k, r1.bl_inv, ?_⟩
    cases k with
    | true => exact P _ _ H1 F1 (by simpa using q1) x1 .bl
    | false => exact ⟨e, F1, H0, R, x1.ok, S.ext W x1, by simpa using q1, P.ext x1⟩⟩
theorem xd_not {a : W} : ∀ σ H Q, tD c (dNot a) σ H Q → tNotV (tD c a) σ H Q := fun σ H Q ⟨e, F, H0, R, W, S, q, P⟩ =>
  ⟨e, F, H0, _, W, S, q, fun d v H1 F1 ⟨k, hk, q1⟩ x1 r1 => by
    subst hk
    exact ⟨k, r1.bl_inv, P _ _ H1 F1 q1 x1 .bl⟩⟩
@[simp] def dIf (t : WT) (a b : W) : W := fun e R => t e fun x => if x = true then a e R else b e R
theorem xd_if {t : WT} {a b : W} : ∀ σ H Q, tD c (dIf t a b) σ H Q → tIf (tT c t) (tD c a) (tD c b) σ H Q := fun σ H Q ⟨e, F, H0, R, W, S, q, P⟩ =>
  ⟨e, F, H0, _, W, S, q, fun x H1 F1 q1 x1 => by
    cases x with
    | true => exact ⟨e, F1, H0, R, x1.ok, S.ext W x1, by simpa using q1, P.ext x1⟩
    | false => exact ⟨e, F1, H0, R, x1.ok, S.ext W x1, by simpa using q1, P.ext x1⟩⟩
@[simp] def dChain (r r' : D → D → (D → Prop) → Prop) (wa wb wc : W) : W := fun e R => wa e fun x => wb e fun y => r x y fun z => ∃ k, z = .bool k ∧ if k = true then wc e fun u => r' y u R else R (.bool false)
theorem xd_chain {r r' : R2} {rd rd' : D → D → (D → Prop) → Prop} (h : OpD c r rd) (h' : OpD c r' rd') {wa wb wc : W} : ∀ σ H Q, tD c (dChain rd rd' wa wb wc) σ H Q → tChain r r' (tD c wa) (tD c wb) (tD c wc) σ H Q :=
  fun σ H Q ⟨e, F, H0, R, W, S, q, P⟩ => ⟨e, F, H0, _, W, S, q, fun d v H1 F1 q1 x1 r1 => ⟨e, F1, H0, _, x1.ok, S.ext W x1, q1, fun d2 v2 H2 F2 q2 x2 r2 =>
    h H2 F2 v v2 d d2 _ _ x2.ok (r1.grow x2.grow) r2 q2 fun d3 v3 H3 F3 ⟨k, hk, q3⟩ x3 r3 => by
      subst hk
      refine ⟨k, r3.bl_inv, ?_⟩
      have x13 := (x1.trans x2).trans x3
      cases k with
      | true => exact ⟨e, F3, H0, _, x3.ok, S.ext W x13, by simpa using q3, fun d4 v4 H4 F4 q4 x4 r4 => h' H4 F4 v2 v4 d2 d4 R Q x4.ok (r2.grow (x3.trans x4).grow) r4 q4 (P.ext (x13.trans x4))⟩
      | false => exact P _ _ H3 F3 (by simpa using q3) x13 .bl⟩⟩
/-! ### arguments, displays -/
@[simp] def aNil : WA := fun _ R => R []
@[simp] def aCons (w : W) (r : WA) : WA := fun e R => w e fun d => r e fun ds => R (d :: ds)
theorem xa_nil : ∀ σ H Q, tA c aNil σ H Q → tNil σ H Q := fun σ H Q ⟨e, F, H0, R, W, S, q, P⟩ => P [] [] H F q (Ext.refl W) .nil
theorem xa_cons {w : W} {r : WA} : ∀ σ H Q, tA c (aCons w r) σ H Q → tCons (tD c w) (tA c r) σ H Q := fun σ H Q ⟨e, F, H0, R, W, S, q, P⟩ =>
  ⟨e, F, H0, _, W, S, q, fun d v H1 F1 q1 x1 r1 => ⟨e, F1, H0, _, x1.ok, S.ext W x1, q1, fun ds vs H2 F2 q2 x2 r2 => P _ _ H2 F2 q2 (x1.trans x2) (.cons (r1.grow x2.grow) r2)⟩⟩
theorem Wok.newR (W : Wok c H F) {p : Addr} (h : H p = none) : p ≠ c.r := fun z => W.rH (by rw [← z]; exact h)
theorem Wok.newF (W : Wok c H F) {p : Addr} (h : H p = none) : F p = none := by
  cases q : F p with
  | none => rfl
  | some u => rw [W.sub p u q] at h; cases h
theorem repLst {p : Addr} {vs : List V} {ds : List D} (h : F p = some (.lst vs)) (k : RpAll c.K F vs ds) : RepV c F (.ref p) (.list ds) := .inl (.lst h k)
theorem repTup {p : Addr} {vs : List V} {ds : List D} (h : F p = some (.tup vs)) (k : RpAll c.K F vs ds) : RepV c F (.ref p) (.tuple ds) := .inl (.tup (SqT.of h) k)
/-- a new tuple of these -/
theorem Post.newTup {R : D → Prop} {Q : VK} (P : Post c H F R Q) (W : Wok c H F) {vs : List V} {ds : List D} (k : RpAll c.K F vs ds) (r : R (.tuple ds)) : ∀ p, H p = none → Q (.ref p) (upd H p (.tup vs)) := fun p hp =>
  P _ _ _ _ r (Ext.laid W _ hp) (repTup upd_same (dpAll_same (upd_keep (W.newF hp)) _ _ k))
theorem Post.newLst {R : D → Prop} {Q : VK} (P : Post c H F R Q) (W : Wok c H F) {vs : List V} {ds : List D} (k : RpAll c.K F vs ds) (r : R (.list ds)) : ∀ p, H p = none → Q (.ref p) (upd H p (.lst vs)) := fun p hp =>
  P _ _ _ _ r (Ext.laid W _ hp) (repLst upd_same (dpAll_same (upd_keep (W.newF hp)) _ _ k))
theorem len_le {n : Nat} (h : n ≤ 1000000) : n ≤ sizeLine := Nat.le_trans h (by rw [sizeLine_eq]; decide)
theorem len_lt {n : Nat} (h : n < 1000000) : n < sizeLine := Nat.lt_of_lt_of_le h (by rw [sizeLine_eq]; decide)
/-- no item is the row -/
def noRow (ds : List D) : Prop := ∀ d ∈ ds, d ≠ .dict []
@[simp] def dTup (w : WA) : W := fun e R => w e fun ds => ds.length ≤ 1000000 ∧ noRow ds ∧ R (.tuple ds)
@[simp] def dLst (w : WA) : W := fun e R => w e fun ds => ds.length ≤ 1000000 ∧ noRow ds ∧ R (.list ds)
theorem paired_len {α β : Type} {G : α → β → Prop} {xs : List α} {ys : List β} (h : Paired G xs ys) : xs.length = ys.length := h.length
theorem xd_tup {w : WA} : ∀ σ H Q, tD c (dTup w) σ H Q → tTup (tA c w) σ H Q := fun σ H Q ⟨e, F, H0, R, W, S, q, P⟩ =>
  ⟨e, F, H0, _, W, S, q, fun ds vs H1 F1 ⟨hl, hn, q1⟩ x1 r1 => ⟨by rw [r1.length]; exact len_le hl, (P.ext x1).newTup x1.ok (repVs_dp r1 hn) q1⟩⟩
theorem xd_lst {w : WA} : ∀ σ H Q, tD c (dLst w) σ H Q → tLst (tA c w) σ H Q := fun σ H Q ⟨e, F, H0, R, W, S, q, P⟩ =>
  ⟨e, F, H0, _, W, S, q, fun ds vs H1 F1 ⟨hl, hn, q1⟩ x1 r1 => ⟨by rw [r1.length]; exact len_le hl, (P.ext x1).newLst x1.ok (repVs_dp r1 hn) q1⟩⟩
/-- a new list that is nobody's yet -/
@[simp] def nLst (w : WA) : WA := fun e R => w e fun ds => ds.length ≤ 1000000 ∧ noRow ds ∧ R ds
theorem xn_lst {w : WA} : ∀ σ H Q, tN c (nLst w) σ H Q → tLst (tA c w) σ H Q := fun σ H Q ⟨e, F, H0, R, W, S, q, P⟩ =>
  ⟨e, F, H0, _, W, S, q, fun ds vs H1 F1 ⟨hl, hn, q1⟩ x1 r1 => ⟨by rw [r1.length]; exact len_le hl, fun p hp =>
    have x2 := Ext.loose x1.ok (.lst vs) hp
    P ds p vs _ _ q1 (x1.trans x2) (x1.free hp) upd_same (x1.ok.newF hp) (x1.ok.newR hp) (repVs_dp r1 hn)⟩⟩
/-- a new list is a list -/
@[simp] def dN (w : WA) : W := fun e R => w e fun ds => R (.list ds)
theorem Post.frozen {R : D → Prop} {Q : VK} (P : Post c H F R Q) (x : Ext c H F H1 F1) {p : Addr} {vs : List V} {ds : List D} (h0 : H p = none) (h1 : H1 p = some (.lst vs)) (hr : p ≠ c.r) (hF : F1 p = none) (k : RpAll c.K F1 vs ds) (r : R (.list ds)) : Q (.ref p) H1 := by
  refine P _ _ H1 (upd F1 p (.lst vs)) r ⟨x.ok.freeze h1 hr (fun ps z => by cases z), fun b o e => upd_keep hF b o (x.grow b o e), x.keep, fun b hb hb' => ?_, x.pre⟩ (repLst upd_same (dpAll_same (upd_keep hF) _ _ k))
  by_cases hp : b = p
  · rw [hp]; exact h0
  · rw [upd_ne hp] at hb'; exact x.new b hb hb'
theorem xd_N {w : WA} : ∀ σ H Q, tD c (dN w) σ H Q → tN c w σ H Q := fun σ H Q ⟨e, F, H0, R, W, S, q, P⟩ =>
  ⟨e, F, H0, _, W, S, q, fun ds p vs H1 F1 r x h0 h1 hF hr k => P.frozen x h0 h1 hr hF k r⟩
/-! ### calls of values -/
def CallD (c : Amb) (r : List V → Hp → VK → Prop) (rd : List D → (D → Prop) → Prop) : Prop := ∀ H F vs ds R Q, Wok c H F → RepVs c F vs ds → rd ds R → Post c H F R Q → r vs H Q
@[simp] def dCall (rd : List D → (D → Prop) → Prop) (w : WA) : W := fun e R => w e fun ds => rd ds R
theorem xd_cb {r : List V → Hp → VK → Prop} {rd : List D → (D → Prop) → Prop} (h : CallD c r rd) {w : WA} : ∀ σ H Q, tD c (dCall rd w) σ H Q → tCB r (tA c w) σ H Q := fun σ H Q ⟨e, F, H0, R, W, S, q, P⟩ =>
  ⟨e, F, H0, _, W, S, q, fun ds vs H1 F1 q1 x1 r1 => h H1 F1 vs ds R Q x1.ok r1 q1 (P.ext x1)⟩
/-- a def's promise over data -/
abbrev Fd := List D → (D → Prop) → Prop
abbrev Fn := List D → (List D → Prop) → Prop
def spD (g : Glb) (f : Fd) : Sp := fun vs H Q _ => ∃ (c : Amb) (F : Hp) (ds : List D) (R : D → Prop), c.g = g ∧ Wok c H F ∧ RepVs c F vs ds ∧ f ds R ∧ Post c H F R Q
def spN (g : Glb) (f : Fn) : Sp := fun vs H Q _ => ∃ (c : Amb) (F : Hp) (ds : List D) (R : List D → Prop), c.g = g ∧ Wok c H F ∧ RepVs c F vs ds ∧ f ds R ∧
  ∀ ds p vs H' F', R ds → Ext c H F H' F' → H p = none → H' p = some (.lst vs) → F' p = none → p ≠ c.r → RpAll c.K F' vs ds → Q (.ref p) H'
theorem xd_call {f : Fd} {w : WA} : ∀ σ H Q, tD c (dCall f w) σ H Q → tCall (spD c.g f) [] E0 (tA c w) σ H Q := fun σ H Q ⟨e, F, H0, R, W, S, q, P⟩ =>
  ⟨e, F, H0, _, W, S, q, fun ds vs H1 F1 q1 x1 r1 => ⟨c, F1, ds, R, rfl, x1.ok, by rw [List.append_nil]; exact r1, q1, P.ext x1⟩⟩
@[simp] def nCall (f : Fn) (w : WA) : WA := fun e R => w e fun ds => f ds R
theorem xn_call {f : Fn} {w : WA} : ∀ σ H Q, tN c (nCall f w) σ H Q → tCall (spN c.g f) [] E0 (tA c w) σ H Q := fun σ H Q ⟨e, F, H0, R, W, S, q, P⟩ =>
  ⟨e, F, H0, _, W, S, q, fun ds vs H1 F1 q1 x1 r1 => ⟨c, F1, ds, R, rfl, x1.ok, by rw [List.append_nil]; exact r1, q1, fun es p us H' F' r x h0 h1 hF hr k => P es p us H' F' r (x1.trans x) (x1.free h0) h1 hF hr k⟩⟩
end
end FW
/-! FW2: statements, targets, loops, comprehensions over data; lists of one's own. -/
namespace FW
open PySem PySem.Spec PyProof.Rows L2
abbrev Exc := Str × Option Int
structure EndsD where
  nx : Sg → Prop
  rt : D → Prop
  rn : List D → Prop := fun _ => False
  bk : Sg → Prop := fun _ => False
  ct : Sg → Prop := fun _ => False
  ex : Exc → Prop := fun _ => False
  /-- a frozen part to which one may go back -/
  base : Hp → Prop := fun _ => False
  pin : Bool := false
  /-- handed back, its lists new -/
  rf : D → Prop := fun _ => False
abbrev WS := EndsD → Sg → Prop
def ExcAt (c : Amb) (E : XK) (H : Hp) : Exc → Prop
  | (n, none) => E (.ref (c.g.cls n)) none H
  | (n, some k) => ∃ d, H d = some (.xd [(("number" : Str), .int k)]) ∧ E (.ref (c.g.cls n)) (some d) H
structure EndsOk (c : Amb) (E : XK) (H0 F0 : Hp) (De : EndsD) (Dn : Ends) : Prop where
  nx : ∀ e σ H F, De.nx e → Ext c H0 F0 H F → RepS c H0 σ H F e → Dn.nx σ H
  rt : ∀ d v H F, De.rt d → Ext c H0 F0 H F → RepV c F v d → Dn.rt v H
  rn : ∀ ds p vs H F, De.rn ds → Ext c H0 F0 H F → H0 p = none → H p = some (.lst vs) → F p = none → p ≠ c.r → RpAll c.K F vs ds → Dn.rt (.ref p) H
  bk : ∀ e σ H F, De.bk e → Ext c H0 F0 H F → RepS c H0 σ H F e → Dn.bk σ H
  ct : ∀ e σ H F, De.ct e → Ext c H0 F0 H F → RepS c H0 σ H F e → Dn.ct σ H
  ex : ∀ x H F, De.ex x → Ext c H0 F0 H F → ExcAt c E H x
  base : ∀ Fb, De.base Fb → Same F0 Fb ∧ ∀ b, F0 b = none → Fb b ≠ none → H0 b = none
  rf : ∀ d v H F, De.rf d → Ext c H0 F0 H F → RepV c (cutF F F0) v d → Dn.rt v H
  pin : De.pin = true → ∀ Fb, Same F0 Fb → (∀ b, F0 b = none → Fb b ≠ none → H0 b = none) → De.base Fb
def sD (c : Amb) (E : XK) (w : WS) : TS := fun Dn σ H => ∃ e F H0 F0 De, Ext c H0 F0 H F ∧ RepS c H0 σ H F e ∧ w De e ∧ EndsOk c E H0 F0 De Dn
section
variable {c : Amb} {E : XK} {H F H0 F0 H1 F1 : Hp} {σ : L2.St} {X : Cx} {De : EndsD} {Dn : Ends}
theorem EndsOk.next (h : EndsOk c E H0 F0 De Dn) {n : Sg → Prop} {N : L2.St → Hp → Prop} (k : ∀ e σ H F, n e → Ext c H0 F0 H F → RepS c H0 σ H F e → N σ H) : EndsOk c E H0 F0 { De with nx := n } { Dn with nx := N } := ⟨k, h.rt, h.rn, h.bk, h.ct, h.ex, h.base, h.rf, h.pin⟩
@[simp] def dNext : WS := fun De e => De.nx e
@[simp] def dSeq (w1 w2 : WS) : WS := fun De e => w1 { De with nx := w2 De } e
theorem xs_next : ∀ Dn σ H, sD c E dNext Dn σ H → tNext Dn σ H := fun Dn σ H ⟨e, F, H0, F0, De, x, S, q, K⟩ => K.nx e σ H F q x S
theorem xs_seq {w1 w2 : WS} : ∀ Dn σ H, sD c E (dSeq w1 w2) Dn σ H → tSeq (sD c E w1) (sD c E w2) Dn σ H := fun Dn σ H ⟨e, F, H0, F0, De, x, S, q, K⟩ =>
  ⟨e, F, H0, F0, _, x, S, q, K.next fun e' σ' H' F' n x' S' => ⟨e', F', H0, F0, De, x', S', n, K⟩⟩
theorem pssd_nil : PSs X [] (sD c E dNext) := pss_w pss_nil xs_next
theorem pssd_cons {st : Stmt} {rest : List Stmt} {w1 w2 : WS} (h1 : PS X st (sD c E w1)) (h2 : PSs X rest (sD c E w2)) : PSs X (st :: rest) (sD c E (dSeq w1 w2)) := pss_w (pss_cons h1 h2) xs_seq
theorem pssd_one {st : Stmt} {w1 : WS} (h1 : PS X st (sD c E w1)) : PSs X [st] (sD c E w1) := pss_one h1
/-! ### assignment to names -/
@[simp] def dAsg (i : Nat) (w : W) : WS := fun De e => w e fun d => De.nx (e.set i (.val d))
theorem xs_asg {i : Nat} {w : W} : ∀ Dn σ H, sD c E (dAsg i w) Dn σ H → tAsg (tD c w) (gName i) Dn σ H := fun Dn σ H ⟨e, F, H0, F0, De, x, S, q, K⟩ =>
  ⟨e, F, H0, _, x.ok, S, q, fun d v H' F' r x' rv => K.nx _ _ _ _ r (x.trans x') ((S.ext x.ok x').set_val i rv)⟩
@[simp] def dOwn (i : Nat) (w : WA) : WS := fun De e => w e fun ds => De.nx (e.set i (.own ds))
theorem xs_own {i : Nat} {w : WA} : ∀ Dn σ H, sD c E (dOwn i w) Dn σ H → tAsg (tN c w) (gName i) Dn σ H := fun Dn σ H ⟨e, F, H0, F0, De, x, S, q, K⟩ =>
  ⟨e, F, H0, _, x.ok, S, q, fun ds p vs H' F' r x' hp hp' hF hr k => K.nx _ _ _ _ r (x.trans x') ((S.ext x.ok x').set_own i hp' hF (x.free hp) hr k fun j o es _ hj z => by
    obtain ⟨a, ws, h1, h2, _⟩ := S.ownO j o es hj
    rw [h1] at z
    cases z
    rw [hp] at h2; cases h2)⟩
@[simp] def dDrop (w : W) : WS := fun De e => w e fun _ => De.nx e
theorem xs_drop {w : W} : ∀ Dn σ H, sD c E (dDrop w) Dn σ H → tDrop (tD c w) Dn σ H := fun Dn σ H ⟨e, F, H0, F0, De, x, S, q, K⟩ =>
  ⟨e, F, H0, _, x.ok, S, q, fun d v H' F' r x' rv => K.nx _ _ _ _ r (x.trans x') (S.ext x.ok x')⟩
@[simp] def dRet (w : W) : WS := fun De e => w e De.rt
theorem xs_ret {w : W} : ∀ Dn σ H, sD c E (dRet w) Dn σ H → tRet (tD c w) Dn σ H := fun Dn σ H ⟨e, F, H0, F0, De, x, S, q, K⟩ =>
  ⟨e, F, H0, _, x.ok, S, q, fun d v H' F' r x' rv => K.rt d v H' F' r (x.trans x') rv⟩
@[simp] def dRetL (w : WA) : WS := fun De e => w e De.rn
theorem xs_retL {w : WA} : ∀ Dn σ H, sD c E (dRetL w) Dn σ H → tRet (tN c w) Dn σ H := fun Dn σ H ⟨e, F, H0, F0, De, x, S, q, K⟩ =>
  ⟨e, F, H0, _, x.ok, S, q, fun ds p vs H' F' r x' hp hp' hF hr k => K.rn ds p vs H' F' r (x.trans x') (x.free hp) hp' hF hr k⟩
/-- return of a slot's own list -/
@[simp] def dRetO (i : Nat) : WS := fun De e => ∃ ds, e[i]? = some (.own ds) ∧ De.rn ds
theorem xs_retO {i : Nat} : ∀ Dn σ H, sD c E (dRetO i) Dn σ H → tRet (tVar i) Dn σ H := fun Dn σ H ⟨e, F, H0, F0, De, x, S, ⟨ds, h, q⟩, K⟩ => by
  obtain ⟨a, vs, h1, h2, h3, h4, h5, h6⟩ := S.own i ds h
  exact ⟨_, h1, K.rn ds a vs H F q x h4 h2 h3 h5 h6⟩
@[simp] def dRetN : WS := fun De _ => De.rt .none
theorem xs_retN : ∀ Dn σ H, sD c E dRetN Dn σ H → tRetN Dn σ H := fun Dn σ H ⟨e, F, H0, F0, De, x, S, q, K⟩ => K.rt _ _ H F q x .non
@[simp] def dIfS (t : WT) (a b : WS) : WS := fun De e => t e fun k => if k = true then a De e else b De e
theorem xs_if {t : WT} {a b : WS} : ∀ Dn σ H, sD c E (dIfS t a b) Dn σ H → tIfS (tT c t) (sD c E a) (sD c E b) Dn σ H := fun Dn σ H ⟨e, F, H0, F0, De, x, S, q, K⟩ =>
  ⟨e, F, H0, _, x.ok, S, q, fun k H' F' r x' => by
    cases k with
    | true => exact ⟨e, F', H0, F0, De, x.trans x', S.ext x.ok x', by simpa using r, K⟩
    | false => exact ⟨e, F', H0, F0, De, x.trans x', S.ext x.ok x', by simpa using r, K⟩⟩
@[simp] def dBreak : WS := fun De e => De.bk e
@[simp] def dCont : WS := fun De e => De.ct e
theorem xs_break : ∀ Dn σ H, sD c E dBreak Dn σ H → tBreak Dn σ H := fun Dn σ H ⟨e, F, H0, F0, De, x, S, q, K⟩ => K.bk e σ H F q x S
theorem xs_cont : ∀ Dn σ H, sD c E dCont Dn σ H → tCont Dn σ H := fun Dn σ H ⟨e, F, H0, F0, De, x, S, q, K⟩ => K.ct e σ H F q x S
@[simp] def dNever : WS := fun _ _ => False
theorem xs_never : ∀ Dn σ H, sD c E dNever Dn σ H → tNever Dn σ H := fun Dn σ H ⟨e, F, H0, F0, De, x, S, q, K⟩ => q.elim
/-- a slot's own list is its own no more: from here on it is data -/
@[simp] def dFrz (i : Nat) (w : WS) : WS := fun De e => ∃ ds, e[i]? = some (.own ds) ∧ w De (e.set i (.val (.list ds)))
theorem RepS.frz {e : Sg} (S : RepS c H0 σ H F e) {i : Nat} {o0 : Option Hp} {ds : List D} (h : e[i]? = some (.ownO o0 ds)) {a : Addr} {vs : List V} (h1 : σ[i]? = some (some (.ref a))) (h2 : H a = some (.lst vs)) (h3 : F a = none) (k : RpAll c.K F vs ds) :
    RepS c H0 σ H (upd F a (.lst vs)) (e.set i (.val (.list ds))) where
  exc := exc_set0 S.exc fun _ z => nomatch z
  fix := fix_set0 (fix_grow S.fix (upd_keep h3)) fun _ _ _ z => nomatch z
  len := by simp [S.len]
  val := fun j d hj => by
    by_cases hij : i = j
    · subst hij
      have hl := (List.getElem?_eq_some_iff.mp h).1
      rw [List.getElem?_set_self hl] at hj
      cases hj
      exact ⟨_, h1, repLst upd_same (dpAll_same (upd_keep h3) _ _ k)⟩
    · rw [List.getElem?_set_ne hij] at hj
      obtain ⟨v, h5, h6⟩ := S.val j d hj
      exact ⟨v, h5, h6.grow (upd_keep h3)⟩
  ownO := fun j o es hj => by
    by_cases hij : i = j
    · subst hij
      have hl := (List.getElem?_eq_some_iff.mp h).1
      rw [List.getElem?_set_self hl] at hj
      cases hj
    · rw [List.getElem?_set_ne hij] at hj
      obtain ⟨b, ws, g1, g2, g3, g4, g5, g6⟩ := S.ownO j o es hj
      refine ⟨b, ws, g1, g2, ?_, g4, g5, dpAll_same (cutO_grow o (upd_keep h3)) _ _ g6⟩
      rw [upd_ne (fun z => ?_)]
      · exact g3
      · rw [z] at g1
        exact S.distO i j o0 o ds es a hij h hj h1 g1
  distO := fun j k o1 o2 es fs b hjk q1 q2 q3 q4 => by
    have f : ∀ (j : Nat) (o : Option Hp) (es : List D), (e.set i (.val (.list ds)))[j]? = some (.ownO o es) → i ≠ j := fun j o es hj z => by
      subst z
      have hl := (List.getElem?_eq_some_iff.mp h).1
      rw [List.getElem?_set_self hl] at hj
      cases hj
    rw [List.getElem?_set_ne (f j o1 es q1)] at q1
    rw [List.getElem?_set_ne (f k o2 fs q2)] at q2
    exact S.distO j k o1 o2 es fs b hjk q1 q2 q3 q4
theorem Ext.frz (x : Ext c H0 F0 H F) {a : Addr} {vs : List V} (h2 : H a = some (.lst vs)) (h3 : F a = none) (h4 : H0 a = none) (h5 : a ≠ c.r) : Ext c H0 F0 H (upd F a (.lst vs)) :=
  ⟨x.ok.freeze h2 h5 (fun ps z => by cases z), fun b o e => upd_keep h3 b o (x.grow b o e), x.keep, fun b hb hb' => by
    by_cases hp : b = a
    · rw [hp]; exact h4
    · rw [upd_ne hp] at hb'; exact x.new b hb hb', x.pre⟩
theorem xs_frz {i : Nat} {w : WS} : ∀ Dn σ H, sD c E (dFrz i w) Dn σ H → sD c E w Dn σ H := fun Dn σ H ⟨e, F, H0, F0, De, x, S, ⟨ds, h, q⟩, K⟩ => by
  obtain ⟨a, vs, h1, h2, h3, h4, h5, h6⟩ := S.own i ds h
  exact ⟨_, _, H0, F0, De, x.frz h2 h3 h4 h5, S.frz h h1 h2 h3 h6, q, K⟩
/-! ### targets -/
@[simp] def setAll : Sg → List Nat → List D → Sg
  | e, i :: is, d :: ds => setAll (e.set i (.val d)) is ds
  | e, _, _ => e
def gNames : List Nat → TGs
  | [] => gNil
  | i :: is => gCons (gName i) (gNames is)
theorem gNames_ok : ∀ (is : List Nat) {vs : List V} {ds : List D} {σ : L2.St} {e : Sg} {Q : L2.St → Hp → Prop}, RepS c H0 σ H F e → RpAll c.K F vs ds → ds.length = is.length →
    (∀ σ', RepS c H0 σ' H F (setAll e is ds) → Q σ' H) → gNames is vs σ H Q
  | [], _, _, _, _, _, S, k, hl, q => by
    cases k with
    | nil => exact ⟨rfl, q _ S⟩
    | cons _ _ => simp at hl
  | i :: is, _, _, _, _, _, S, k, hl, q => by
    cases k with
    | nil => simp at hl
    | cons h t => exact ⟨_, _, rfl, gNames_ok is (S.set_val i (.inl h)) t (by simpa using hl) q⟩
@[simp] def dUnp (is : List Nat) (w : W) : WS := fun De e => w e fun d => ∃ ds, d = .tuple ds ∧ ds.length = is.length ∧ De.nx (setAll e is ds)
theorem xs_unp {is : List Nat} {n : Nat} (hn : n = is.length) {w : W} : ∀ Dn σ H, sD c E (dUnp is w) Dn σ H → tAsg (tD c w) (gTup c.K n (gNames is)) Dn σ H := fun Dn σ H ⟨e, F, H0, F0, De, x, S, q, K⟩ =>
  ⟨e, F, H0, _, x.ok, S, q, fun d v H' F' ⟨ds, hd, hl, r⟩ x' rv => by
    subst hd
    obtain ⟨a, vs, rfl, ht, k⟩ := rv.tup_inv
    exact ⟨a, vs, rfl, same_t x'.ok.sub ht, by rw [dpAll_length k, hl, hn], gNames_ok is (S.ext x.ok x') k hl fun σ' S' => K.nx _ _ _ _ r (x.trans x') S'⟩⟩
/-! ### what is walked -/
structure Yields (c : Amb) (J : It) (F1 : Hp) (ds : List D) : Prop where
  go : ∀ i H F, i < ds.length → Wok c H F → Same F1 F → J.go i H
  yld : ∀ (i : Nat) d H F x H', ds[i]? = some d → Wok c H F → Same F1 F → J.yld i H x H' → ∃ F', Ext c H F H' F' ∧ RepV c F' x d
  stop : ∀ H F, Wok c H F → Same F1 F → J.stop ds.length H
theorem Yields.grow {J : It} {ds : List D} (Y : Yields c J F ds) (e : Same F F1) : Yields c J F1 ds :=
  ⟨fun i H F hi W s => Y.go i H F hi W (e.trans s), fun i d H F x H' hd W s y => Y.yld i d H F x H' hd W (e.trans s) y, fun H F W s => Y.stop H F W (e.trans s)⟩
def tI (c : Amb) (w : WA) : TI := fun σ H R => ∃ e F H0 Rd, Wok c H F ∧ RepS c H0 σ H F e ∧ w e Rd ∧ ∀ ds J H' F', Rd ds → Ext c H F H' F' → Yields c J F' ds → R J H'
@[simp] def iLst (w : W) : WA := fun e R => w e fun d => ∃ ds, d = .list ds ∧ R ds
@[simp] def iTpl (w : W) : WA := fun e R => w e fun d => ∃ ds, d = .tuple ds ∧ R ds
theorem yields_list {a : Addr} {vs : List V} {ds : List D} (h : F a = some (.lst vs)) (k : RpAll c.K F vs ds) : Yields c (Itl c.K a) F ds where
  go := fun i H G hi W s => by
    have hl := dpAll_length k
    exact ⟨vs, vs[i]'(by omega), SqL.of (W.sub _ _ (s _ _ h)), List.getElem?_eq_getElem _⟩
  yld := fun i d H G x H' hd W s ⟨e, y⟩ => by
    subst e
    have hx := y vs (SqL.of (W.sub _ _ (s _ _ h)))
    obtain ⟨d', h1, h2⟩ := dpAll_get k hx
    rw [hd] at h1
    cases h1
    exact ⟨G, Ext.refl W, .inl (dp_same s _ _ h2)⟩
  stop := fun H G W s => ⟨vs, SqL.of (W.sub _ _ (s _ _ h)), Nat.le_of_eq (dpAll_length k)⟩
theorem yields_tup {a : Addr} {vs : List V} {ds : List D} (h : SqT c.K F a vs) (k : RpAll c.K F vs ds) : Yields c (Itt c.K a) F ds where
  go := fun i H G hi W s => by
    have hl := dpAll_length k
    exact ⟨vs, vs[i]'(by omega), same_t (s.trans W.sub) h, List.getElem?_eq_getElem _⟩
  yld := fun i d H G x H' hd W s ⟨e, y⟩ => by
    subst e
    have hx := y vs (same_t (s.trans W.sub) h)
    obtain ⟨d', h1, h2⟩ := dpAll_get k hx
    rw [hd] at h1
    cases h1
    exact ⟨G, Ext.refl W, .inl (dp_same s _ _ h2)⟩
  stop := fun H G W s => ⟨vs, same_t (s.trans W.sub) h, Nat.le_of_eq (dpAll_length k)⟩
def rngD (lo : Int) (n : Nat) : List D := (List.range n).map fun k => .int (lo + (k : Nat))
theorem rngD_length {lo : Int} {n : Nat} : (rngD lo n).length = n := by simp [rngD]
theorem rngD_get {lo : Int} {n i : Nat} {d : D} (h : (rngD lo n)[i]? = some d) : i < n ∧ d = .int (lo + (i : Nat)) := by
  unfold rngD at h
  rw [List.getElem?_map] at h
  cases q : (List.range n)[i]? with
  | none => rw [q] at h; cases h
  | some j =>
    rw [q] at h
    cases h
    obtain ⟨hi, e⟩ := List.getElem?_eq_some_iff.mp q
    rw [List.getElem_range] at e
    subst e
    exact ⟨by simpa using hi, rfl⟩
theorem yields_rng {lo : Int} {n : Nat} : Yields c (Itr lo n) F (rngD lo n) where
  go := fun i H G hi W s => by rw [rngD_length] at hi; exact hi
  yld := fun i d H G x H' hd W s ⟨e, y⟩ => by
    subst e
    obtain ⟨_, rfl⟩ := rngD_get hd
    rw [y]
    exact ⟨G, Ext.refl W, .int⟩
  stop := fun H G W s => by rw [rngD_length]; exact Nat.le_refl n
theorem xi_list {w : W} : ∀ σ H R, tI c (iLst w) σ H R → iList c.K (tD c w) σ H R := fun σ H R ⟨e, F, H0, Rd, W, S, q, P⟩ =>
  ⟨e, F, H0, _, W, S, q, fun d v H' F' ⟨ds, hd, r⟩ x rv => by
    subst hd
    obtain ⟨a, vs, rfl, h, k⟩ := rv.list_inv
    exact ⟨a, rfl, ⟨vs, SqL.of (x.ok.sub _ _ h)⟩, P ds _ H' F' r x (yields_list h k)⟩⟩
theorem xi_tup {w : W} : ∀ σ H R, tI c (iTpl w) σ H R → iTup c.K (tD c w) σ H R := fun σ H R ⟨e, F, H0, Rd, W, S, q, P⟩ =>
  ⟨e, F, H0, _, W, S, q, fun d v H' F' ⟨ds, hd, r⟩ x rv => by
    subst hd
    obtain ⟨a, vs, rfl, h, k⟩ := rv.tup_inv
    exact ⟨a, rfl, ⟨vs, same_t x.ok.sub h⟩, P ds _ H' F' r x (yields_tup h k)⟩⟩
theorem repVs_ints_inv : ∀ {vs : List V} {l : List Int}, RepVs c F vs (l.map PyData.int) → vs = l.map V.int
  | _, [], .nil => rfl
  | _, _ :: _, .cons h t => by rw [repVs_ints_inv t, h.int_inv]; rfl
@[simp] def iR1 (w : WA) : WA := fun e R => w e fun ds => ∃ j : Int, ds = [.int j] ∧ -(2 ^ 62) ≤ j ∧ j < 2 ^ 62 ∧ R (rngD 0 j.toNat)
@[simp] def iR2 (w : WA) : WA := fun e R => w e fun ds => ∃ i j : Int, ds = [.int i, .int j] ∧ (-(2 ^ 62) ≤ i ∧ i < 2 ^ 62 ∧ -(2 ^ 62) ≤ j ∧ j < 2 ^ 62) ∧ R (rngD i (j - i).toNat)
theorem xi_rng1 {w : WA} : ∀ σ H R, tI c (iR1 w) σ H R → iRng1 (tA c w) σ H R := fun σ H R ⟨e, F, H0, Rd, W, S, q, P⟩ =>
  ⟨e, F, H0, _, W, S, q, fun ds vs H' F' ⟨j, hd, h1, h2, r⟩ x rv => by
    subst hd
    exact ⟨j, repVs_ints_inv (l := [j]) rv, h1, h2, P _ _ H' F' r x yields_rng⟩⟩
theorem xi_rng2 {w : WA} : ∀ σ H R, tI c (iR2 w) σ H R → iRng2 (tA c w) σ H R := fun σ H R ⟨e, F, H0, Rd, W, S, q, P⟩ =>
  ⟨e, F, H0, _, W, S, q, fun ds vs H' F' ⟨i, j, hd, h1, r⟩ x rv => by
    subst hd
    exact ⟨i, j, repVs_ints_inv (l := [i, j]) rv, h1, P _ _ H' F' r x yields_rng⟩⟩
/-! ### for -/
abbrev WG := D → Sg → (Sg → Prop) → Prop
/-- a target's reading: where it stores a datum -/
def gD (c : Amb) (wg : WG) (g : TG) : Prop := ∀ (v : V) (d : D) (σ : L2.St) (H F H0 : Hp) (e : Sg) (R : Sg → Prop) (Q : L2.St → Hp → Prop), Wok c H F → RepS c H0 σ H F e → RepV c F v d → wg d e R → (∀ σ' e', R e' → RepS c H0 σ' H F e' → Q σ' H) → g v σ H Q
@[simp] def tgN (i : Nat) : WG := fun d e R => R (e.set i (.val d))
@[simp] def tgT (is : List Nat) : WG := fun d e R => ∃ ds, d = .tuple ds ∧ ds.length = is.length ∧ R (setAll e is ds)
theorem gd_name {i : Nat} : gD c (tgN i) (gName i) := fun v d σ H F H0 e R Q W S rv r k => k _ _ r (S.set_val i rv)
theorem gd_tup {is : List Nat} {n : Nat} (hn : n = is.length) : gD c (tgT is) (gTup c.K n (gNames is)) := fun v d σ H F H0 e R Q W S rv ⟨ds, hd, hl, r⟩ k => by
  subst hd
  obtain ⟨a, vs, rfl, ht, kk⟩ := rv.tup_inv
  exact ⟨a, vs, rfl, same_t W.sub ht, by rw [dpAll_length kk, hl, hn], gNames_ok is S kk hl fun σ' S' => k _ _ r S'⟩
/-- a for over these, one after another -/
def forRun (wg : WG) (wb : WS) (De : EndsD) : List D → Sg → Prop
  | [], e => De.nx e
  | d :: ds, e => wg d e fun e' => wb { De with nx := fun e2 => forRun wg wb De ds e2, ct := fun e2 => forRun wg wb De ds e2, bk := De.nx, base := fun _ => False, pin := false } e'
@[simp] def dFor (wi : WA) (wg : WG) (wb : WS) : WS := fun De e => wi e fun ds => forRun wg wb De ds e
theorem drop_at {α : Type} {l : List α} {i : Nat} (h : i < l.length) : l.drop i = l[i] :: l.drop (i + 1) := List.drop_eq_getElem_cons h
theorem xs_for {wi : WA} {wg : WG} {wb : WS} {g : TG} (hg : gD c wg g) : ∀ Dn σ H, sD c E (dFor wi wg wb) Dn σ H → tFor (tI c wi) g (sD c E wb) Dn σ H := fun Dn σ H ⟨e, F, H0, F0, De, x, S, q, K⟩ =>
  ⟨e, F, H0, _, x.ok, S, q, fun ds J H1 F1 i0 x1 Y => by
    refine ⟨fun i m σ H => m = ds.length - i ∧ i ≤ ds.length ∧ ∃ e F, Ext c H0 F0 H F ∧ RepS c H0 σ H F e ∧ Same F1 F ∧ forRun wg wb De (ds.drop i) e, ⟨_, rfl, Nat.zero_le _, e, F1, x.trans x1, S.ext x.ok x1, fun _ _ h => h, i0⟩, ?_⟩
    rintro i m σ' H' ⟨rfl, hi, e', F', x', S', s', h'⟩
    by_cases hlt : i < ds.length
    · refine .inr ⟨Y.go i H' F' hlt x'.ok s', fun σ2 H2 => ∃ e F, Ext c H0 F0 H2 F ∧ RepS c H0 σ2 H2 F e ∧ Same F1 F ∧ forRun wg wb De (ds.drop (i + 1)) e, fun σ2 H2 ⟨e2, F2, a, b, d, f⟩ => ⟨ds.length - (i + 1), by omega, rfl, hlt, e2, F2, a, b, d, f⟩, fun v H2 y => ?_⟩
      have hd : ds[i]? = some ds[i] := List.getElem?_eq_getElem hlt
      rw [drop_at hlt] at h'
      obtain ⟨F2, x2, rv⟩ := Y.yld i _ H' F' v H2 hd x'.ok s' y
      refine hg v _ σ' H2 F2 H0 e' _ _ x2.ok (S'.ext x'.ok x2) rv h' fun σ3 e3 r3 S3 => ?_
      -- the frozen part has grown since the loop's start: it is carried in what is kept
      refine ⟨e3, F2, H0, F2, _, ⟨x2.ok, fun _ _ h => h, (x'.trans x2).keep, fun b h h' => absurd h h', x.pre⟩, S3, r3, ?_⟩
      have up : ∀ {H3 F3 : Hp}, Ext c H0 F2 H3 F3 → Ext c H0 F0 H3 F3 := fun {H3 F3} z => ⟨z.ok, fun b o h => z.grow b o ((x'.trans x2).grow b o h), z.keep, fun b h h' => by
        by_cases q2 : F2 b = none
        · exact z.new b q2 h'
        · exact (x'.trans x2).new b h q2, x.pre⟩
      refine ⟨fun e4 σ4 H4 F4 n z S4 => ⟨e4, F4, up z, S4, (s'.trans x2.grow).trans z.grow, n⟩, fun d4 v4 H4 F4 n z rv => K.rt d4 v4 H4 F4 n (up z) rv, fun ds4 p vs4 H4 F4 n z h0 h1 h2 h3 k4 => K.rn ds4 p vs4 H4 F4 n (up z) h0 h1 h2 h3 k4,
        fun e4 σ4 H4 F4 n z S4 => K.nx e4 σ4 H4 F4 n (up z) S4, fun e4 σ4 H4 F4 n z S4 => ⟨e4, F4, up z, S4, (s'.trans x2.grow).trans z.grow, n⟩, fun x4 H4 F4 n z => K.ex x4 H4 F4 n (up z), fun _ z => z.elim, fun d4 v4 H4 F4 n z rv => K.rf d4 v4 H4 F4 n (up z) (rv.grow (cutF_grow (fun _ _ h => h) fun b q _ => ?_)), fun z => nomatch z⟩
      cases q0 : F0 b with
      | none => rfl
      | some o =>
        have := x2.grow b o (x'.grow b o q0)
        rw [q] at this; cases this
    · have he : i = ds.length := by omega
      subst he
      rw [List.drop_length] at h'
      exact .inl ⟨Y.stop H' F' x'.ok s', K.nx e' σ' H' F' h' x' S'⟩⟩
/-! ### comprehensions -/
@[simp] def wipeS : Sg → List Nat → Sg
  | e, [] => e
  | e, v :: vs => (wipeS e vs).set v .un
theorem RepS.wipe {e : Sg} (S : RepS c H0 σ H F e) : ∀ vs : List Nat, RepS c H0 (wipe σ vs) H F (wipeS e vs)
  | [] => S
  | v :: vs => (S.wipe vs).set_un v none
/-- the slots that a target stores: what they forget again is as before -/
def Stores (g : TG) (vs : List Nat) : Prop := ∀ (v : V) (σ : L2.St) (H : Hp) (Q : L2.St → Hp → Prop), g v (wipe σ vs) H Q → g v (wipe σ vs) H fun σ2 H2 => wipe σ2 vs = wipe σ vs ∧ Q σ2 H2
theorem stores_name {i : Nat} : Stores (gName i) [i] := fun v σ H Q h => ⟨by simp [L2.wipe], h⟩
/-- a comprehension over these, one after another; acc: what is made so far -/
def lcRun (g : D → (Sg → Prop) → Prop) (wt : WT) (we : W) (R : List D → Prop) : List D → List D → Prop
  | [], acc => R acc
  | d :: ds, acc => g d fun e' => wt e' fun b => if b = true then we e' fun y => y ≠ .dict [] ∧ lcRun g wt we R ds (acc ++ [y]) else lcRun g wt we R ds acc
@[simp] def dLcW (wi : WA) (wg : WG) (wt : WT) (we : W) (vs : List Nat) : WA := fun e R => wi e fun ds => ds.length ≤ 1000000 ∧ lcRun (fun d k => wg d (wipeS e vs) k) wt we R ds []
theorem xn_lc {wi : WA} {wg : WG} {wt : WT} {we : W} {g : TG} {vs : List Nat} (hg : gD c wg g) (hs : Stores g vs) : ∀ σ H Q, tN c (dLcW wi wg wt we vs) σ H Q → tLc (tI c wi) g (tT c wt) (tD c we) vs σ H Q := fun σ H Q ⟨e, F, H0, R, W, S, q, P⟩ =>
  ⟨e, F, H0, _, W, S, q, fun ds J H1 F1 ⟨hlen, i0⟩ x1 Y => fun L hL => by
    have n0 : F1 L = none := x1.ok.newF hL
    have nr : L ≠ c.r := x1.ok.newR hL
    have h0 : H L = none := x1.free hL
    refine ⟨fun i m H2 => m = ds.length - i ∧ i ≤ ds.length ∧ ∃ F2 ws acc, Ext c H F H2 F2 ∧ Same F1 F2 ∧ H2 L = some (.lst ws) ∧ F2 L = none ∧ RpAll c.K F2 ws acc ∧ acc.length ≤ i ∧ lcRun (fun d k => wg d (wipeS e vs) k) wt we R (ds.drop i) acc,
      ⟨_, rfl, Nat.zero_le _, F1, [], [], x1.trans (Ext.loose x1.ok _ hL), fun _ _ h => h, upd_same, n0, .nil, Nat.le_refl _, i0⟩, ?_⟩
    rintro i m H2 ⟨rfl, hi, F2, ws, acc, x2, s2, hL2, n2, k2, ha, hI⟩
    by_cases hlt : i < ds.length
    · refine .inr ⟨Y.go i H2 F2 hlt x2.ok s2, fun H3 => ∃ F3 ws acc, Ext c H F H3 F3 ∧ Same F1 F3 ∧ H3 L = some (.lst ws) ∧ F3 L = none ∧ RpAll c.K F3 ws acc ∧ acc.length ≤ i + 1 ∧ lcRun (fun d k => wg d (wipeS e vs) k) wt we R (ds.drop (i + 1)) acc,
        fun H3 ⟨F3, ws3, acc3, a1, a2, a3, a4, a5, a6, a7⟩ => ⟨ds.length - (i + 1), by omega, rfl, hlt, F3, ws3, acc3, a1, a2, a3, a4, a5, a6, a7⟩, fun v H3 y => ?_⟩
      have hd : ds[i]? = some ds[i] := List.getElem?_eq_getElem hlt
      rw [drop_at hlt] at hI
      obtain ⟨F3, x3, rv⟩ := Y.yld i _ H2 F2 v H3 hd x2.ok s2 y
      have still : ∀ {H4 F4 : Hp}, Ext c H2 F2 H4 F4 → H4 L = some (.lst ws) ∧ F4 L = none ∧ RpAll c.K F4 ws acc := fun {H4 F4} z => by
        refine ⟨z.keep L _ hL2 nr (x2.ok.noP hL2), ?_, dpAll_same z.grow _ _ k2⟩
        cases q4 : F4 L with
        | none => exact rfl
        | some u =>
          have := z.new L n2 (by rw [q4]; simp)
          rw [hL2] at this; cases this
      refine hs v σ H3 _ (hg v _ _ H3 F3 H0 _ _ _ x3.ok ((S.wipe vs).ext W (x2.trans x3)) rv hI fun σ4 e4 r4 S4 => ?_)
      refine ⟨e4, F3, H0, _, x3.ok, S4, r4, fun b H5 F5 r5 x5 => ?_⟩
      have x35 := x3.trans x5
      cases b with
      | false =>
        obtain ⟨b1, b2, b3⟩ := still x35
        exact ⟨F5, ws, acc, x2.trans x35, (s2.trans x35.grow), b1, b2, b3, by omega, by simpa using r5⟩
      | true =>
        refine ⟨e4, F5, H0, fun y => y ≠ .dict [] ∧ lcRun (fun d k => wg d (wipeS e vs) k) wt we R (ds.drop (i + 1)) (acc ++ [y]), x5.ok, S4.ext x3.ok x5, by simpa using r5, fun y v6 H6 F6 ⟨hy, r6⟩ x6 rv6 => ?_⟩
        have x36 := x35.trans x6
        obtain ⟨b1, b2, b3⟩ := still x36
        have hz : ws.length = acc.length := dpAll_length k2
        refine ⟨ws, b1, len_lt (by omega), ⟨F6, ws ++ [v6], acc ++ [y], ?_, s2.trans x36.grow, upd_same, b2, dpAll_app b3 (.cons (rv6.dp hy) .nil), by simp; omega, r6⟩⟩
        exact (x2.trans x36).mut h0 b1 b2 nr _
    · have he : i = ds.length := by omega
      subst he
      rw [List.drop_length] at hI
      exact .inl ⟨Y.stop H2 F2 x2.ok s2, P acc L ws H2 F2 hI x2 h0 hL2 n2 nr k2⟩⟩
end
end FW
/-! FW3: built-ins, subscripts, slices, a slot's own list, defs. -/
namespace FW
open PySem PySem.Spec PyProof.Rows L2
section
variable {c : Amb} {E : XK} {H F H0 F0 H1 F1 : Hp} {σ : L2.St} {X : Cx}
theorem pe_gint {x : Str} {i : Int} {pos : Pos} (hg : Gl X x) (h : ∃ t, X.mg x = some (.int i t)) (hd : (x == ("__debug__" : Str)) = false := by decide) : PE X (.Name x pos) (tC (.int i)) := by
  obtain ⟨t, e⟩ := h
  exact pe_glob hg e ⟨t, rfl⟩ hd
/-! ### sequences read -/
inductive IsSeq : D → List D → Prop
  | lst (ds : List D) : IsSeq (.list ds) ds
  | tup (ds : List D) : IsSeq (.tuple ds) ds
theorem seq_inv {d : D} {ds : List D} (h : IsSeq d ds) {v : V} (r : RepV c F v d) (s : Same F H) : ∃ a vs, v = .ref a ∧ (SqL c.K H a vs ∨ SqT c.K H a vs) ∧ RpAll c.K F vs ds := by
  cases h with
  | lst =>
    obtain ⟨a, vs, e, h1, h2⟩ := r.list_inv
    exact ⟨a, vs, e, .inl (SqL.of (s _ _ h1)), h2⟩
  | tup =>
    obtain ⟨a, vs, e, h1, h2⟩ := r.tup_inv
    exact ⟨a, vs, e, .inr (same_t s h1), h2⟩
theorem reps1 {vs : List V} {d : D} (r : RepVs c F vs [d]) : ∃ v, vs = [v] ∧ RepV c F v d := by
  cases r with
  | cons h t => cases t; exact ⟨_, rfl, h⟩
theorem reps2 {vs : List V} {d e : D} (r : RepVs c F vs [d, e]) : ∃ v u, vs = [v, u] ∧ RepV c F v d ∧ RepV c F u e := by
  cases r with
  | cons h t =>
    obtain ⟨u, rfl, q⟩ := reps1 t
    exact ⟨_, _, rfl, h, q⟩
@[simp] def rdLen : List D → (D → Prop) → Prop := fun ds R => ∃ d xs, ds = [d] ∧ IsSeq d xs ∧ R (.int (xs.length : Nat))
theorem cd_len : CallD c (fun xs H Q => ∃ p ys, xs = [.ref p] ∧ (SqL c.K H p ys ∨ SqT c.K H p ys) ∧ Q (.int ys.length) H) rdLen := by
  rintro H F vs ds R Q W rv ⟨d, xs, rfl, hs, r⟩ P
  obtain ⟨v, rfl, q⟩ := reps1 rv
  obtain ⟨a, ws, rfl, h1, h2⟩ := seq_inv hs q W.sub
  refine ⟨a, ws, rfl, h1, P.here W r ?_⟩
  rw [dpAll_length h2]; exact .int
@[simp] def rdTuple : List D → (D → Prop) → Prop := fun ds R => ∃ d xs, ds = [d] ∧ IsSeq d xs ∧ R (.tuple xs)
theorem cd_tuple : CallD c (fun xs H Q => ∃ p ys, xs = [.ref p] ∧ ((SqL c.K H p ys ∧ ∀ l, H l = none → Q (.ref l) (upd H l (.tup ys))) ∨ (SqT c.K H p ys ∧ Q (.ref p) H))) rdTuple := by
  rintro H F vs ds R Q W rv ⟨d, xs, rfl, hs, r⟩ P
  obtain ⟨v, rfl, q⟩ := reps1 rv
  cases hs with
  | lst =>
    obtain ⟨a, ws, rfl, h1, h2⟩ := q.list_inv
    exact ⟨a, ws, rfl, .inl ⟨SqL.of (W.sub _ _ h1), P.newTup W h2 r⟩⟩
  | tup =>
    obtain ⟨a, ws, rfl, h1, h2⟩ := q.tup_inv
    exact ⟨a, ws, rfl, .inr ⟨same_t W.sub h1, P.here W r (.inl (.tup h1 h2))⟩⟩
@[simp] def rdList : List D → (D → Prop) → Prop := fun ds R => ∃ d xs, ds = [d] ∧ IsSeq d xs ∧ R (.list xs)
theorem cd_list : CallD c (fun xs H Q => ∃ p ys, xs = [.ref p] ∧ (SqL c.K H p ys ∨ SqT c.K H p ys) ∧ ∀ l, H l = none → Q (.ref l) (upd H l (.lst ys))) rdList := by
  rintro H F vs ds R Q W rv ⟨d, xs, rfl, hs, r⟩ P
  obtain ⟨v, rfl, q⟩ := reps1 rv
  obtain ⟨a, ws, rfl, h1, h2⟩ := seq_inv hs q W.sub
  exact ⟨a, ws, rfl, h1, P.newLst W h2 r⟩
def rdMax2 : List D → (D → Prop) → Prop := fun ds R => ∃ i j, ds = [.int i, .int j] ∧ R (.int (if j > i then j else i))
def rdMin2 : List D → (D → Prop) → Prop := fun ds R => ∃ i j, ds = [.int i, .int j] ∧ R (.int (if j < i then j else i))
theorem cd_max2 : CallD c (fun xs H Q => ∃ i j, xs = [.int i, .int j] ∧ Q (.int (if j > i then j else i)) H) rdMax2 := by
  rintro H F vs ds R Q W rv ⟨i, j, rfl, r⟩ P
  exact ⟨i, j, repVs_ints_inv (l := [i, j]) rv, P.here W r .int⟩
theorem cd_min2 : CallD c (fun xs H Q => ∃ i j, xs = [.int i, .int j] ∧ Q (.int (if j < i then j else i)) H) rdMin2 := by
  rintro H F vs ds R Q W rv ⟨i, j, rfl, r⟩ P
  exact ⟨i, j, repVs_ints_inv (l := [i, j]) rv, P.here W r .int⟩
def rdInt1 : List D → (D → Prop) → Prop := fun ds R => (∃ i, ds = [.int i] ∧ R (.int i)) ∨ ∃ k, ds = [.bool k] ∧ R (.int (if k then 1 else 0))
theorem cd_int1 : CallD c (fun xs H Q => (∃ i, xs = [.int i] ∧ Q (.int i) H) ∨ ∃ k, xs = [.bl k] ∧ Q (.int (if k then 1 else 0)) H) rdInt1 := by
  rintro H F vs ds R Q W rv (⟨i, rfl, r⟩ | ⟨k, rfl, r⟩) P
  · obtain ⟨v, rfl, q⟩ := reps1 rv
    exact .inl ⟨i, by rw [q.int_inv], P.here W r .int⟩
  · obtain ⟨v, rfl, q⟩ := reps1 rv
    exact .inr ⟨k, by rw [q.bl_inv], P.here W r .int⟩
def rdMaxL : List D → (D → Prop) → Prop := fun ds R => ∃ ns : List Int, ds = [.list (ns.map .int)] ∧ 0 < ns.length ∧ ∀ m, m ∈ ns → (∀ y, y ∈ ns → y ≤ m) → R (.int m)
def rdMinL : List D → (D → Prop) → Prop := fun ds R => ∃ ns : List Int, ds = [.list (ns.map .int)] ∧ 0 < ns.length ∧ ∀ m, m ∈ ns → (∀ y, y ∈ ns → m ≤ y) → R (.int m)
theorem cd_maxL : CallD c (rMax c.K) rdMaxL := by
  rintro H F vs ds R Q W rv ⟨ns, rfl, h, r⟩ P
  obtain ⟨v, rfl, q⟩ := reps1 rv
  obtain ⟨a, ws, rfl, h1, h2⟩ := q.list_inv
  have e := dpAll_ints_inv ns ws h2
  subst e
  exact ⟨a, ns, rfl, SqL.of (W.sub _ _ h1), h, fun m hm hle => P.here W (r m hm hle) .int⟩
theorem cd_minL : CallD c (rMin c.K) rdMinL := by
  rintro H F vs ds R Q W rv ⟨ns, rfl, h, r⟩ P
  obtain ⟨v, rfl, q⟩ := reps1 rv
  obtain ⟨a, ws, rfl, h1, h2⟩ := q.list_inv
  have e := dpAll_ints_inv ns ws h2
  subst e
  exact ⟨a, ns, rfl, SqL.of (W.sub _ _ h1), h, fun m hm hle => P.here W (r m hm hle) .int⟩
/-- sorted of ints -/
def rdSortI : List D → (D → Prop) → Prop := fun ds R => ∃ ns : List Int, ds = [.list (ns.map .int)] ∧ ∀ ns' : List Int, ns'.Perm ns → ns'.Pairwise (· ≤ ·) → R (.list (ns'.map .int))
theorem cd_sortI : CallD c (rSortedI c.K) rdSortI := by
  rintro H F vs ds R Q W rv ⟨ns, rfl, r⟩ P
  obtain ⟨v, rfl, q⟩ := reps1 rv
  obtain ⟨a, ws, rfl, h1, h2⟩ := q.list_inv
  have e := dpAll_ints_inv ns ws h2
  subst e
  exact ⟨a, ns, rfl, SqL.of (W.sub _ _ h1), fun ns' p hp hs hn => P.newLst W (dpAll_ints ns') (r ns' hp hs) p hn⟩
/-! ### a[i] -/
@[simp] def rdIx : D → D → (D → Prop) → Prop := fun x y R => ∃ ds i d, IsSeq x ds ∧ y = .int i ∧ atI ds i = some d ∧ R d
theorem atI_dp {K : PySem.W.Frag} {vs : List V} {ds : List D} {i : Int} {d : D} (k : RpAll K F vs ds) (h : atI ds i = some d) : ∃ v, atI vs i = some v ∧ Rp K F v d := by
  unfold atI at h ⊢
  rw [dpAll_length k]
  cases q : ixN ds.length i with
  | none => rw [q] at h; cases h
  | some j =>
    rw [q] at h
    exact dpAll_at k h
theorem od_ixL : OpD c (fun x y H Q => rIxL c.K x y H Q ∨ rIxT c.K x y H Q) rdIx := by
  rintro H F x y d e R Q W rx ry ⟨ds, i, d', hs, rfl, hi, r⟩ P
  cases hs with
  | lst =>
    obtain ⟨a, ws, rfl, h1, h2⟩ := rx.list_inv
    obtain ⟨v, e1, e2⟩ := atI_dp h2 hi
    exact .inl ⟨a, ws, i, v, rfl, ry.int_inv, SqL.of (W.sub _ _ h1), e1, P.here W r (.inl e2)⟩
  | tup =>
    obtain ⟨a, ws, rfl, h1, h2⟩ := rx.tup_inv
    obtain ⟨v, e1, e2⟩ := atI_dp h2 hi
    exact .inr ⟨a, ws, i, v, rfl, ry.int_inv, same_t W.sub h1, e1, P.here W r (.inl e2)⟩
theorem ix_lt : IxR X (fun x y H Q => rIxL X.K x y H Q ∨ rIxT X.K x y H Q) := ix_list.or ix_tup
/-! ### a[lo:hi] -/
abbrev WO := Sg → (Option Int → Prop) → Prop
def tO (c : Amb) (w : WO) : TO := fun σ H Q => ∃ e F H0 R, Wok c H F ∧ RepS c H0 σ H F e ∧ w e R ∧ ∀ o H' F', R o → Ext c H F H' F' → Q o H'
theorem po_w {X : Cx} {o : Option Expr} {t t' : TO} (h : PO X o t) (k : ∀ σ H Q, t' σ H Q → t σ H Q) : PO X o t' := ⟨fun pins s σ H Q I q => h.run pins s σ H Q I (k σ H Q q)⟩
@[simp] def oNone : WO := fun _ R => R none
@[simp] def oSome (w : W) : WO := fun e R => w e fun d => ∃ i, d = .int i ∧ R (some i)
theorem xo_none : ∀ σ H Q, tO c oNone σ H Q → tNoPart σ H Q := fun σ H Q ⟨e, F, H0, R, W, S, q, P⟩ => P none H F q (Ext.refl W)
theorem xo_some {w : W} : ∀ σ H Q, tO c (oSome w) σ H Q → tPart (tD c w) σ H Q := fun σ H Q ⟨e, F, H0, R, W, S, q, P⟩ =>
  ⟨e, F, H0, _, W, S, q, fun d v H1 F1 ⟨i, hi, q1⟩ x1 r1 => by subst hi; exact ⟨i, r1.int_inv, P _ H1 F1 q1 x1⟩⟩
def cutD (ds : List D) (lo hi : Option Int) : List D := (ds.drop (HT.sIx ds.length 0 lo)).take (HT.sIx ds.length ds.length hi - HT.sIx ds.length 0 lo)
theorem cut_dp {K : PySem.W.Frag} {vs : List V} {ds : List D} (k : RpAll K F vs ds) (lo hi : Option Int) : RpAll K F (cutV vs lo hi) (cutD ds lo hi) := by
  unfold cutV cutD
  rw [dpAll_length k]
  exact dpAll_take _ (dpAll_drop _ k)
@[simp] def dSl (w : W) (lo hi : WO) (mk : List D → D) : W := fun e R => w e fun d => lo e fun l => hi e fun h => ∃ ds, d = mk ds ∧ R (mk (cutD ds l h))
theorem xd_slT {w : W} {lo hi : WO} : ∀ σ H Q, tD c (dSl w lo hi .tuple) σ H Q → tSl (rSlA c.K) (tD c w) (tO c lo) (tO c hi) σ H Q := fun σ H Q ⟨e, F, H0, R, W, S, q, P⟩ =>
  ⟨e, F, H0, _, W, S, q, fun d v H1 F1 q1 x1 r1 => ⟨e, F1, H0, _, x1.ok, S.ext W x1, q1, fun l H2 F2 q2 x2 => ⟨e, F2, H0, _, x2.ok, (S.ext W x1).ext x1.ok x2, q2, fun h H3 F3 ⟨ds, hd, q3⟩ x3 => by
    subst hd
    have x13 := (x1.trans x2).trans x3
    obtain ⟨a, vs, rfl, h1, h2⟩ := (r1.grow (x2.trans x3).grow).tup_inv
    refine ⟨a, vs, rfl, same_t x3.ok.sub h1, fun hw => ?_, fun _ => (P.ext x13).newTup x3.ok (cut_dp h2 l h) q3⟩
    have e1 : cutD ds l h = ds := by
      unfold cutD
      rw [← dpAll_length h2, hw.1, hw.2]
      simp [dpAll_length h2]
    rw [e1] at q3
    exact P _ _ _ _ q3 x13 (.inl (.tup h1 h2))⟩⟩⟩
theorem xd_slL {w : W} {lo hi : WO} : ∀ σ H Q, tD c (dSl w lo hi .list) σ H Q → tSl (rSlL c.K) (tD c w) (tO c lo) (tO c hi) σ H Q := fun σ H Q ⟨e, F, H0, R, W, S, q, P⟩ =>
  ⟨e, F, H0, _, W, S, q, fun d v H1 F1 q1 x1 r1 => ⟨e, F1, H0, _, x1.ok, S.ext W x1, q1, fun l H2 F2 q2 x2 => ⟨e, F2, H0, _, x2.ok, (S.ext W x1).ext x1.ok x2, q2, fun h H3 F3 ⟨ds, hd, q3⟩ x3 => by
    subst hd
    have x13 := (x1.trans x2).trans x3
    obtain ⟨a, vs, rfl, h1, h2⟩ := (r1.grow (x2.trans x3).grow).list_inv
    exact ⟨a, vs, rfl, SqL.of (x3.ok.sub _ _ h1), (P.ext x13).newLst x3.ok (cut_dp h2 l h) q3⟩⟩⟩⟩
/-! ### + and * of sequences -/
@[simp] def rdCatT : D → D → (D → Prop) → Prop := fun x y R => ∃ xs ys, x = .tuple xs ∧ y = .tuple ys ∧ xs.length + ys.length ≤ 1000000 ∧ R (.tuple (xs ++ ys))
theorem od_catT : OpD c (rCatA c.K) rdCatT := by
  rintro H F x y d e R Q W rx ry ⟨xs, ys, rfl, rfl, hl, r⟩ P
  obtain ⟨a, vs, rfl, h1, h2⟩ := rx.tup_inv
  obtain ⟨b, us, rfl, g1, g2⟩ := ry.tup_inv
  have l1 := dpAll_length h2
  have l2 := dpAll_length g2
  refine ⟨a, b, vs, us, rfl, rfl, same_t W.sub h1, same_t W.sub g1, len_le (by omega), fun z => ?_, fun _ z => ?_, fun _ _ => P.newTup W (dpAll_app h2 g2) r⟩
  · subst z
    cases h2
    exact P.here W r (.inl (.tup g1 g2))
  · subst z
    cases g2
    rw [List.append_nil] at r
    exact P.here W r (.inl (.tup h1 h2))
@[simp] def rdCatL : D → D → (D → Prop) → Prop := fun x y R => ∃ xs ys, x = .list xs ∧ y = .list ys ∧ xs.length + ys.length ≤ 1000000 ∧ R (.list (xs ++ ys))
theorem od_catL : OpD c rCat rdCatL := by
  rintro H F x y d e R Q W rx ry ⟨xs, ys, rfl, rfl, hl, r⟩ P
  obtain ⟨a, vs, rfl, h1, h2⟩ := rx.list_inv
  obtain ⟨b, us, rfl, g1, g2⟩ := ry.list_inv
  have l1 := dpAll_length h2
  have l2 := dpAll_length g2
  exact ⟨a, b, vs, us, rfl, rfl, W.sub _ _ h1, W.sub _ _ g1, len_le (by omega), P.newLst W (dpAll_app h2 g2) r⟩
/-! ### in, not in, of flat data -/
def flatD : D → Bool
  | .none => true
  | .bool _ => true
  | .int _ => true
  | .str _ => true
  | _ => false
theorem flat_rp {K : PySem.W.Frag} {v : V} {d : D} (h : Rp K F v d) (hd : flatD d = true) : flatV v = true := by
  cases h <;> first | rfl | cases hd
theorem flat_all {K : PySem.W.Frag} : ∀ {vs : List V} {ds : List D}, RpAll K F vs ds → ds.all flatD = true → vs.all flatV = true
  | _, _, .nil, _ => rfl
  | _, _, .cons h t, e => by
    rw [List.all_cons, Bool.and_eq_true] at e ⊢
    exact ⟨flat_rp h e.1, flat_all t e.2⟩
def intsOf : List D → Option (List Int)
  | [] => some []
  | .int i :: r => (intsOf r).map (i :: ·)
  | _ => none
theorem inV_ints (i : Int) : ∀ l : List Int, inV (.int i) (l.map V.int) = decide (i ∈ l)
  | [] => rfl
  | j :: l => by
    have h := inV_ints i l
    unfold inV at h ⊢
    rw [List.map_cons, List.any_cons, h]
    have e : eqV (.int j) (.int i) = decide (j = i) := by
      show (j == i) = _
      exact Bool.beq_eq_decide_eq j i
    rw [e]
    by_cases q : i = j
    · subst q; simp
    · have q' : ¬ j = i := fun z => q z.symm
      simp [q, q']
theorem flat_ints : ∀ l : List Int, (l.map V.int).all flatV = true
  | [] => rfl
  | _ :: l => by rw [List.map_cons, List.all_cons, flat_ints l]; rfl
/-- an int in a sequence of ints -/
def rdInI (neg : Bool) : D → D → (D → Prop) → Prop := fun x y R => ∃ (i : Int) (ns : List Int), x = .int i ∧ (IsSeq y (ns.map PyData.int)) ∧ R (.bool (if neg = true then !decide (i ∈ ns) else decide (i ∈ ns)))
theorem od_inI {neg : Bool} : OpD c (rIn c.K neg) (rdInI neg) := by
  rintro H F x y d e R Q W rx ry ⟨i, ns, rfl, hs, r⟩ P
  have ex := rx.int_inv
  subst ex
  obtain ⟨a, vs, rfl, h1, h2⟩ := seq_inv hs ry W.sub
  have ev := dpAll_ints_inv ns vs h2
  subst ev
  refine ⟨a, _, rfl, h1, rfl, flat_ints ns, ?_⟩
  rw [inV_ints]
  exact P.here W r .bl
/-! ### list(range(..)) -/
def tRgD (c : Amb) (w : Sg → (Int → Int → Prop) → Prop) : L2.St → Hp → (Int → Int → Hp → Prop) → Prop := fun σ H Q => ∃ e F H0 R, Wok c H F ∧ RepS c H0 σ H F e ∧ w e R ∧ ∀ a b H' F', R a b → Ext c H F H' F' → Q a b H'
theorem prg_w {x : Expr} {t t' : L2.St → Hp → (Int → Int → Hp → Prop) → Prop} (h : PRg X x t) (k : ∀ σ H Q, t' σ H Q → t σ H Q) : PRg X x t' := fun pins s σ H Q I q => h pins s σ H Q I (k σ H Q q)
@[simp] def gRg2 (wa wb : W) : Sg → (Int → Int → Prop) → Prop := fun e R => wa e fun x => wb e fun y => ∃ i j, x = .int i ∧ y = .int j ∧ R i j
@[simp] def gRg1 (wa : W) : Sg → (Int → Int → Prop) → Prop := fun e R => wa e fun x => ∃ i, x = .int i ∧ R 0 i
theorem xg_rg2 {wa wb : W} : ∀ σ H Q, tRgD c (gRg2 wa wb) σ H Q → tRg2 (tD c wa) (tD c wb) σ H Q := fun σ H Q ⟨e, F, H0, R, W, S, q, P⟩ =>
  ⟨e, F, H0, _, W, S, q, fun d v H1 F1 q1 x1 r1 => ⟨e, F1, H0, _, x1.ok, S.ext W x1, q1, fun d2 v2 H2 F2 ⟨i, j, h1, h2, r⟩ x2 r2 => by
    subst h1 h2
    exact ⟨i, j, r1.int_inv, r2.int_inv, P i j H2 F2 r (x1.trans x2)⟩⟩⟩
theorem xg_rg1 {wa : W} : ∀ σ H Q, tRgD c (gRg1 wa) σ H Q → tRg1 (tD c wa) σ H Q := fun σ H Q ⟨e, F, H0, R, W, S, q, P⟩ =>
  ⟨e, F, H0, _, W, S, q, fun d v H1 F1 ⟨i, h1, r⟩ x1 r1 => by
    subst h1
    exact ⟨i, r1.int_inv, P 0 i H1 F1 r x1⟩⟩
@[simp] def dLstRg (w : Sg → (Int → Int → Prop) → Prop) : W := fun e R => w e fun a b => RgOk a b ∧ R (.list (rngD a (b - a).toNat))
theorem rgV_dp {K : PySem.W.Frag} (a b : Int) : RpAll K F (rgV a b) (rngD a (b - a).toNat) := by
  unfold rgV rngD
  have e1 : ∀ n : List Nat, n.map (fun i => V.int (a + (i : Nat))) = (n.map fun i => a + (i : Nat)).map V.int := fun n => by rw [List.map_map]; rfl
  have e2 : ∀ n : List Nat, n.map (fun i => PyData.int (a + (i : Nat))) = (n.map fun i => a + (i : Nat)).map PyData.int := fun n => by rw [List.map_map]; rfl
  rw [e1, e2]
  exact dpAll_ints _
theorem xd_lstRg {w : Sg → (Int → Int → Prop) → Prop} : ∀ σ H Q, tD c (dLstRg w) σ H Q → tLstRg (tRgD c w) σ H Q := fun σ H Q ⟨e, F, H0, R, W, S, q, P⟩ =>
  ⟨e, F, H0, _, W, S, q, fun a b H1 F1 ⟨h, r⟩ x1 => ⟨h, (P.ext x1).newLst x1.ok (rgV_dp a b) r⟩⟩
/-! ### zip of two tuples, a pair as the target -/
def rdZip (ds : List D) (R : List D → Prop) : Prop := ∃ xs ys, ds = [.tuple xs, .tuple ys] ∧ R ((xs.zip ys).map fun p => .tuple [p.1, p.2])
@[simp] def iZip (w : WA) : WA := fun e R => w e fun ds => rdZip ds R
theorem yields_zip {a b : Addr} {vs us : List V} {xs ys : List D} (h : SqT c.K F a vs) (k : RpAll c.K F vs xs) (h' : SqT c.K F b us) (k' : RpAll c.K F us ys) : Yields c (RZ.ItzT c.K a b) F ((xs.zip ys).map fun p => .tuple [p.1, p.2]) where
  go := fun i H G hi W s => by
    have hl := dpAll_length k
    have hl' := dpAll_length k'
    simp at hi
    exact ⟨vs, us, vs[i]'(by omega), us[i]'(by omega), same_t (s.trans W.sub) h, same_t (s.trans W.sub) h', List.getElem?_eq_getElem _, List.getElem?_eq_getElem _⟩
  yld := fun i d H G x H' hd W s ⟨T, x1, x2, e, hT, hH, q1, q2⟩ => by
    subst e hH
    obtain ⟨d1, e1, r1⟩ := dpAll_get k (q1 vs (same_t (s.trans W.sub) h))
    obtain ⟨d2, e2, r2⟩ := dpAll_get k' (q2 us (same_t (s.trans W.sub) h'))
    have e3 : ((xs.zip ys).map fun p => PyData.tuple [p.1, p.2])[i]? = some (.tuple [d1, d2]) := by
      rw [List.getElem?_map, List.getElem?_zip_eq_some (z := (d1, d2)) |>.mpr ⟨e1, e2⟩]; rfl
    rw [hd] at e3
    cases e3
    exact ⟨_, Ext.laid W _ hT, repTup upd_same (.cons (dp_same (s.trans (upd_keep (W.newF hT))) _ _ r1) (.cons (dp_same (s.trans (upd_keep (W.newF hT))) _ _ r2) .nil))⟩
  stop := fun H G W s => by
    have hl := dpAll_length k
    have hl' := dpAll_length k'
    refine ⟨vs, us, same_t (s.trans W.sub) h, same_t (s.trans W.sub) h', ?_⟩
    simp
    omega
theorem xi_zip {w : WA} : ∀ σ H R, tI c (iZip w) σ H R → RZ.iZipA c.K (tA c w) σ H R := fun σ H R ⟨e, F, H0, Rd, W, S, q, P⟩ =>
  ⟨e, F, H0, _, W, S, q, fun ds vs H' F' ⟨xs, ys, hd, r⟩ x rv => by
    subst hd
    obtain ⟨v, u, rfl, r1, r2⟩ := reps2 rv
    obtain ⟨a, us, rfl, h1, h2⟩ := r1.tup_inv
    obtain ⟨b, ws, rfl, g1, g2⟩ := r2.tup_inv
    exact ⟨a, b, us, ws, rfl, .inr ⟨same_t x.ok.sub h1, same_t x.ok.sub g1, P _ _ H' F' r x (yields_zip h1 h2 g1 g2)⟩⟩⟩
theorem stores_pair {K : PySem.W.Frag} {i j : Nat} : Stores (gTup K 2 (gNames [i, j])) [i, j] := fun v σ H Q ⟨a, xs, h1, h2, h3, x, r, h4, y, r', h5, h6, q⟩ =>
  ⟨a, xs, h1, h2, h3, x, r, h4, y, r', h5, h6, by
    simp [L2.wipe]
    apply List.ext_getElem?
    intro k
    simp only [List.getElem?_set, List.length_set]
    split <;> split <;> simp_all, q⟩
/-! ### a slot's own list -/
/-- x[k] -/
@[simp] def dOwnIx (i : Nat) (w : W) : W := fun e R => ∃ ds, e[i]? = some (.own ds) ∧ w e fun k => ∃ n d, k = .int n ∧ atI ds n = some d ∧ R d
theorem xd_ownIx {i : Nat} {w : W} : ∀ σ H Q, tD c (dOwnIx i w) σ H Q → tOp (fun x y H Q => rIxL c.K x y H Q ∨ rIxT c.K x y H Q) (tVar i) (tD c w) σ H Q := fun σ H Q ⟨e, F, H0, R, W, S, ⟨ds, h, q⟩, P⟩ => by
  obtain ⟨a, vs, h1, h2, h3, h4, h5, h6⟩ := S.own i ds h
  refine ⟨.ref a, h1, e, F, H0, _, W, S, q, fun d v H1 F1 ⟨n, d', g2, g3, r⟩ x1 rv => ?_⟩
  subst g2
  obtain ⟨v', e1, e2⟩ := atI_dp (dpAll_same x1.grow _ _ h6) g3
  exact .inl ⟨a, vs, n, v', rfl, rv.int_inv, SqL.of (x1.keep a _ h2 h5 (W.noP h2)), e1, P _ _ H1 F1 r x1 (.inl e2)⟩
/-- len(x) -/
@[simp] def dOwnLen (i : Nat) : W := fun e R => ∃ ds, e[i]? = some (.own ds) ∧ R (.int (ds.length : Nat))
theorem xd_ownLen {i : Nat} : ∀ σ H Q, tD c (dOwnLen i) σ H Q → tCB (fun xs H Q => ∃ p ys, xs = [.ref p] ∧ (SqL c.K H p ys ∨ SqT c.K H p ys) ∧ Q (.int ys.length) H) (tCons (tVar i) tNil) σ H Q := fun σ H Q ⟨e, F, H0, R, W, S, ⟨ds, h, q⟩, P⟩ => by
  obtain ⟨a, vs, h1, h2, h3, h4, h5, h6⟩ := S.own i ds h
  refine ⟨.ref a, h1, a, vs, rfl, .inl (SqL.of h2), P.here W q ?_⟩
  rw [dpAll_length h6]; exact .int
/-- the list of slot i becomes another one -/
theorem RepS.mutO {e : Sg} (S : RepS c H0 σ H F e) {i : Nat} {o0 : Option Hp} {ds : List D} (h : e[i]? = some (.ownO o0 ds)) {a : Addr} {vs : List V} (h1 : σ[i]? = some (some (.ref a))) (h3 : F a = none) (h4 : H0 a = none) (h5 : a ≠ c.r) {ds' : List D} (k : RpAll c.K (cutO F o0) vs ds') :
    RepS c H0 σ (upd H a (.lst vs)) F (e.set i (.ownO o0 ds')) where
  exc := exc_set0 S.exc fun _ z => nomatch z
  fix := fix_set0 S.fix fun _ _ _ z => nomatch z
  len := by simp [S.len]
  val := fun j d hj => by
    by_cases hij : i = j
    · subst hij
      have hl := (List.getElem?_eq_some_iff.mp h).1
      rw [List.getElem?_set_self hl] at hj
      cases hj
    · rw [List.getElem?_set_ne hij] at hj
      exact S.val j d hj
  ownO := fun j o es hj => by
    by_cases hij : i = j
    · subst hij
      have hl := (List.getElem?_eq_some_iff.mp h).1
      rw [List.getElem?_set_self hl] at hj
      cases hj
      exact ⟨a, vs, h1, upd_same, h3, h4, h5, k⟩
    · rw [List.getElem?_set_ne hij] at hj
      obtain ⟨b, ws, g1, g2, g3, g4, g5, g6⟩ := S.ownO j o es hj
      refine ⟨b, ws, g1, ?_, g3, g4, g5, g6⟩
      rw [upd_ne (fun z => ?_)]
      · exact g2
      · rw [z] at g1
        exact S.distO i j o0 o ds es a hij h hj h1 g1
  distO := fun j k' o1 o2 es fs b hjk q1 q2 q3 q4 => by
    have f : ∀ (j : Nat) (o : Option Hp) (es : List D), (e.set i (.ownO o0 ds'))[j]? = some (.ownO o es) → ∃ o', ∃ es', e[j]? = some (.ownO o' es') := fun j o es hj => by
      by_cases hij : i = j
      · subst hij
        exact ⟨o0, ds, h⟩
      · rw [List.getElem?_set_ne hij] at hj
        exact ⟨o, es, hj⟩
    obtain ⟨o3, es1, p1⟩ := f j o1 es q1
    obtain ⟨o4, es2, p2⟩ := f k' o2 fs q2
    exact S.distO j k' o3 o4 es1 es2 b hjk p1 p2 q3 q4
theorem RepS.mut {e : Sg} (S : RepS c H0 σ H F e) {i : Nat} {ds : List D} (h : e[i]? = some (.own ds)) {a : Addr} {vs : List V} (h1 : σ[i]? = some (some (.ref a))) (h3 : F a = none) (h4 : H0 a = none) (h5 : a ≠ c.r) {ds' : List D} (k : RpAll c.K F vs ds') :
    RepS c H0 σ (upd H a (.lst vs)) F (e.set i (.own ds')) := S.mutO h h1 h3 h4 h5 k
/-- x.append(e) -/
@[simp] def dApp (i : Nat) (w : W) : WS := fun De e => ∃ ds, e[i]? = some (.own ds) ∧ w e fun d => d ≠ .dict [] ∧ ds.length < 1000000 ∧ De.nx (e.set i (.own (ds ++ [d])))
theorem xs_app {i : Nat} {w : W} : ∀ Dn σ H, sD c E (dApp i w) Dn σ H → tDrop (tBM c.K "list" rAppend (tVar i) (tCons (tD c w) tNil)) Dn σ H := fun Dn σ H ⟨e, F, H0, F0, De, x, S, ⟨ds, h, q⟩, K⟩ => by
  obtain ⟨a, vs, h1, h2, h3, h4, h5, h6⟩ := S.own i ds h
  refine ⟨.ref a, h1, .inl ⟨rfl, vs, SqL.of h2⟩, e, F, H0, _, x.ok, S, q, fun d v H1 F1 ⟨hd, hl, r⟩ x1 rv => ?_⟩
  have g2 := x1.keep a _ h2 h5 (x.ok.noP h2)
  have g3 : F1 a = none := by
    obtain ⟨b, ws, e1, e2, e3, _⟩ := (S.ext x.ok x1).own i ds h
    rw [h1] at e1; cases e1; exact e3
  have kk := dpAll_app (dpAll_same x1.grow _ _ h6) (.cons (rv.dp hd) .nil)
  refine ⟨a, vs, v, rfl, rfl, g2, len_lt (by rw [dpAll_length h6]; exact hl), ?_⟩
  exact K.nx _ _ _ _ r ((x.trans x1).mut h4 g2 g3 h5 _) ((S.ext x.ok x1).mut h h1 g3 h4 h5 kk)
/-- x.extend(e) -/
@[simp] def dExt (i : Nat) (w : W) : WS := fun De e => ∃ ds, e[i]? = some (.own ds) ∧ w e fun d => ∃ es, d = .list es ∧ ds.length + es.length ≤ 1000000 ∧ De.nx (e.set i (.own (ds ++ es)))
theorem xs_ext {i : Nat} {w : W} : ∀ Dn σ H, sD c E (dExt i w) Dn σ H → tDrop (tBM c.K "list" rExtend (tVar i) (tCons (tD c w) tNil)) Dn σ H := fun Dn σ H ⟨e, F, H0, F0, De, x, S, ⟨ds, h, q⟩, K⟩ => by
  obtain ⟨a, vs, h1, h2, h3, h4, h5, h6⟩ := S.own i ds h
  refine ⟨.ref a, h1, .inl ⟨rfl, vs, SqL.of h2⟩, e, F, H0, _, x.ok, S, q, fun d v H1 F1 ⟨es, hd, hl, r⟩ x1 rv => ?_⟩
  subst hd
  obtain ⟨b, us, rfl, b1, b2⟩ := rv.list_inv
  have g2 := x1.keep a _ h2 h5 (x.ok.noP h2)
  have g3 : F1 a = none := by
    obtain ⟨b, ws, e1, e2, e3, _⟩ := (S.ext x.ok x1).own i ds h
    rw [h1] at e1; cases e1; exact e3
  have kk := dpAll_app (dpAll_same x1.grow _ _ h6) b2
  refine ⟨a, b, vs, us, rfl, rfl, g2, x1.ok.sub _ _ b1, len_le (by rw [dpAll_length h6, dpAll_length b2]; exact hl), ?_⟩
  exact K.nx _ _ _ _ r ((x.trans x1).mut h4 g2 g3 h5 _) ((S.ext x.ok x1).mut h h1 g3 h4 h5 kk)
/-- x[k] = e -/
@[simp] def dSetI (i : Nat) (w wk : W) : WS := fun De e => w e fun d => ∃ ds, e[i]? = some (.own ds) ∧ wk e fun k => ∃ n j, k = .int n ∧ ixN ds.length n = some j ∧ d ≠ .dict [] ∧ De.nx (e.set i (.own (ds.set j d)))
theorem xs_setI {i : Nat} {w wk : W} : ∀ Dn σ H, sD c E (dSetI i w wk) Dn σ H → tAsg (tD c w) (gSub (tVar i) (tD c wk) rSetL) Dn σ H := fun Dn σ H ⟨e, F, H0, F0, De, x, S, q, K⟩ => by
  refine ⟨e, F, H0, _, x.ok, S, q, fun d v H1 F1 ⟨ds, h, q1⟩ x1 rv => ?_⟩
  have S1 := S.ext x.ok x1
  obtain ⟨a, vs, h1, h2, h3, h4, h5, h6⟩ := S1.own i ds h
  refine ⟨.ref a, h1, e, F1, H0, _, x1.ok, S1, q1, fun k u H2 F2 ⟨n, j, hk, hj, hd, r⟩ x2 ru => ?_⟩
  subst hk
  have g2 := x2.keep a _ h2 h5 (x1.ok.noP h2)
  have g3 : F2 a = none := by
    obtain ⟨b, ws, e1, e2, e3, _⟩ := (S1.ext x1.ok x2).own i ds h
    rw [h1] at e1; cases e1; exact e3
  have kk := dpAll_set ((rv.grow x2.grow).dp hd) j (dpAll_same x2.grow _ _ h6)
  refine ⟨a, vs, n, j, rfl, ru.int_inv, g2, by rw [dpAll_length h6]; exact hj, ?_⟩
  exact K.nx _ _ _ _ r (((x.trans x1).trans x2).mut h4 g2 g3 h5 _) ((S1.ext x1.ok x2).mut h h1 g3 h4 h5 kk)
/-- [v] * n, nobody's yet -/
@[simp] def nRep (w : WA) (wn : W) : WA := fun e R => w e fun ds => ds.length ≤ 1000 ∧ noRow ds ∧ wn e fun y => ∃ k : Int, y = .int k ∧ 0 ≤ k ∧ k ≤ 1000 ∧ R (List.replicate k.toNat ds).flatten
end
/-! ### defs -/
/-- a def of the top, as the head tells it -/
abbrev FunP (K : PySem.W.Frag) (x : Str) (st : Stmt) (f : Addr) (fd : FuncData) : Prop := FunD K x x (defArgs st) (defBody st) (defScope st) [] [] f fd
@[simp] def startD (N : List Str) (ds : List D) : Sg := ds.map .val ++ List.replicate (N.length - ds.length) .un
theorem rep_start {c : Amb} {H F : Hp} {N : List Str} : ∀ {vs : List V} {ds : List D}, RepVs c F vs ds → RepS c H (L2.start N vs) H F (startD N ds) := fun {vs ds} r => by
  have hl := r.length
  have vals : ∀ {vs : List V} {ds : List D}, RepVs c F vs ds → ∀ (i : Nat) (d : D), ds[i]? = some d → ∃ v, vs[i]? = some v ∧ RepV c F v d := by
    intro vs ds r
    induction r with
    | nil => intro i d h; simp at h
    | cons h t ih =>
      intro i d e
      cases i with
      | zero => simp at e; subst e; exact ⟨_, rfl, h⟩
      | succ i => obtain ⟨v, h1, h2⟩ := ih i d (by simpa using e); exact ⟨v, by simpa using h1, h2⟩
  have noOwn : ∀ (i : Nat) (o : Option Hp) (es : List D), (startD N ds)[i]? ≠ some (.ownO o es) := fun i o es h => by
    unfold startD at h
    by_cases hi : i < ds.length
    · rw [List.getElem?_append_left (by simpa using hi), List.getElem?_map] at h
      cases q : ds[i]? with
      | none => rw [q] at h; cases h
      | some d => rw [q] at h; cases h
    · rw [List.getElem?_append_right (by simpa using hi), List.getElem?_replicate] at h
      split at h <;> cases h
  have noFix : ∀ (i : Nat) (k : Bool) (Fb : Hp) (d : D), (startD N ds)[i]? ≠ some (.fix k Fb d) := fun i k Fb d0 h => by
    unfold startD at h
    by_cases hi : i < ds.length
    · rw [List.getElem?_append_left (by simpa using hi), List.getElem?_map] at h
      cases q : ds[i]? with
      | none => rw [q] at h; cases h
      | some d => rw [q] at h; cases h
    · rw [List.getElem?_append_right (by simpa using hi), List.getElem?_replicate] at h
      split at h <;> cases h
  have noExc : ∀ (i : Nat) (a : Addr), (startD N ds)[i]? ≠ some (.exc a) := fun i a h => by
    unfold startD at h
    by_cases hi : i < ds.length
    · rw [List.getElem?_append_left (by simpa using hi), List.getElem?_map] at h
      cases q : ds[i]? with
      | none => rw [q] at h; cases h
      | some d => rw [q] at h; cases h
    · rw [List.getElem?_append_right (by simpa using hi), List.getElem?_replicate] at h
      split at h <;> cases h
  refine ⟨by unfold L2.start startD; simp [hl], fun i d h => ?_, fun i o es h => absurd h (noOwn i o es), fun i j o _ es fs a _ h => absurd h (noOwn i o es), fun i a h => absurd h (noExc i a), fun i k Fb d h => absurd h (noFix i k Fb d)⟩
  unfold startD at h
  by_cases hi : i < ds.length
  · rw [List.getElem?_append_left (by simpa using hi), List.getElem?_map] at h
    cases q : ds[i]? with
    | none => rw [q] at h; cases h
    | some d' =>
      rw [q] at h
      cases h
      obtain ⟨v, h1, h2⟩ := vals r i d q
      refine ⟨v, ?_, h2⟩
      unfold L2.start
      rw [List.getElem?_append_left (by simp; omega), List.getElem?_map, h1]; rfl
  · rw [List.getElem?_append_right (by simpa using hi), List.getElem?_replicate] at h
    split at h <;> cases h
section
variable {P : Program} {w : World} {g : Glb} {mg : Str → Option Value} {base : Heap} {x : Str} {st : Stmt} {f : Addr} {fd : FuncData} {N ps : List Str} {k : Nat} {wb : WS}
/-- THE RULE for a def: its body over data -/
theorem calD {f0 : Fd} (Fn : FunP g.K x st f fd) (mgf : mg x = some (.ref f)) (b : Binds g.K fd ps []) (S : FnScope N ps (defScope st)) (hlen : ∀ ds R, f0 ds R → ds.length = ps.length)
    (hb : ∀ (cdv : Value) (A : Around) (outer : List PySem.Env) (s : Shared) (H : Hp) (E : XK) (r a : Addr) (ns : List Int), Room k (A.deeper (envOfC x (defScope st) s.heap.objs.size f cdv)) →
      PSs (cxOf CX0 P w g.K mg base N x (defScope st) f cdv A outer s H E).nox (defBody st) (sD ⟨g, r, a, ns⟩ E wb))
    (hp : ∀ ds R, f0 ds R → wb { nx := fun _ => R .none, rt := R } (startD N ds)) : C8.Cal P w g.K mg base (k + 1) x (spD g f0) [] := by
  refine ⟨f, fd, ps, [], Fn.ok S (fun vs H Q E h => ?_) (fun cdv A outer s H vs Q E hr h => ?_), mgf, Fn.kp, b, .nil⟩
  · obtain ⟨c, F, ds, R, _, _, rv, h, _⟩ := h
    rw [rv.length]; exact hlen ds R h
  · obtain ⟨⟨g', r, a, ns⟩, F, ds, R, hg, W, rv, h, P'⟩ := h
    have hg' : g' = g := hg
    subst hg'
    refine ⟨_, (hb cdv A outer s H E r a ns hr).nox, startD N ds, F, H, F, _, Ext.refl W, rep_start rv, hp ds R h, ?_⟩
    exact ⟨fun e σ H' F' q x S' => P' _ _ H' F' q x .non, fun d v H' F' q x rv => P' d v H' F' q x rv, fun _ _ _ _ _ z => z.elim, fun _ _ _ _ z => z.elim, fun _ _ _ _ z => z.elim, fun _ _ _ z => z.elim, fun _ z => z.elim, fun _ _ _ _ z => z.elim, fun z => nomatch z⟩
/-- .. that hands back a new list -/
theorem calN {f0 : Fn} (Fn : FunP g.K x st f fd) (mgf : mg x = some (.ref f)) (b : Binds g.K fd ps []) (S : FnScope N ps (defScope st)) (hlen : ∀ ds R, f0 ds R → ds.length = ps.length)
    (hb : ∀ (cdv : Value) (A : Around) (outer : List PySem.Env) (s : Shared) (H : Hp) (E : XK) (r a : Addr) (ns : List Int), Room k (A.deeper (envOfC x (defScope st) s.heap.objs.size f cdv)) →
      PSs (cxOf CX0 P w g.K mg base N x (defScope st) f cdv A outer s H E).nox (defBody st) (sD ⟨g, r, a, ns⟩ E wb))
    (hp : ∀ ds R, f0 ds R → wb { nx := fun _ => False, rt := fun _ => False, rn := R } (startD N ds)) : C8.Cal P w g.K mg base (k + 1) x (spN g f0) [] := by
  refine ⟨f, fd, ps, [], Fn.ok S (fun vs H Q E h => ?_) (fun cdv A outer s H vs Q E hr h => ?_), mgf, Fn.kp, b, .nil⟩
  · obtain ⟨c, F, ds, R, _, _, rv, h, _⟩ := h
    rw [rv.length]; exact hlen ds R h
  · obtain ⟨⟨g', r, a, ns⟩, F, ds, R, hg, W, rv, h, P'⟩ := h
    have hg' : g' = g := hg
    subst hg'
    refine ⟨_, (hb cdv A outer s H E r a ns hr).nox, startD N ds, F, H, F, _, Ext.refl W, rep_start rv, hp ds R h, ?_⟩
    exact ⟨fun _ _ _ _ z => z.elim, fun _ _ _ _ z => z.elim, fun ds p vs H' F' q x h0 h1 h2 h3 kk => P' ds p vs H' F' q x h0 h1 h2 h3 kk, fun _ _ _ _ z => z.elim, fun _ _ _ _ z => z.elim, fun _ _ _ z => z.elim, fun _ z => z.elim, fun _ _ _ _ z => z.elim, fun z => nomatch z⟩
/-- a new list is a list -/
theorem calN_D {f0 : Fn} (C : C8.Cal P w g.K mg base k x (spN g f0) []) : C8.Cal P w g.K mg base k x (spD g fun ds R => f0 ds fun es => R (.list es)) [] := by
  obtain ⟨f, fd, ps, ds, F, h⟩ := C.ex
  refine ⟨f, fd, ps, ds, F.imp fun vs H Q E ⟨c, F, ds, R, hg, W, rv, h, P'⟩ => ⟨c, F, ds, _, hg, W, rv, h, fun es p us H' F' r x h0 h1 h2 h3 kk => Post.frozen P' x h0 h1 h3 h2 kk r⟩, h⟩
end
/-! ### tests and stores by one more step -/
section
variable {c : Amb} {E : XK} {H F H0 F0 : Hp} {σ : L2.St}
theorem xt_cmp {r : R2} {rd : D → D → (D → Prop) → Prop} (hd : OpD c r rd) {wa wb : W} : ∀ σ H Q, tT c (bB (dOp rd wa wb)) σ H Q → tTest (tOp r (tD c wa) (tD c wb)) σ H Q := fun σ H Q h => xd_op hd σ H _ (xt_test σ H Q h)
theorem xt_chain {r r' : R2} {rd rd' : D → D → (D → Prop) → Prop} (h : OpD c r rd) (h' : OpD c r' rd') {wa wb wc : W} : ∀ σ H Q, tT c (bB (dChain rd rd' wa wb wc)) σ H Q → tTest (tChain r r' (tD c wa) (tD c wb) (tD c wc)) σ H Q := fun σ H Q z => xd_chain h h' σ H _ (xt_test σ H Q z)
theorem xt_isN {w : W} : ∀ σ H Q, tT c (bB (dIsN w)) σ H Q → tB (tIsN (tD c w)) σ H Q := fun σ H Q z => xd_isN σ H _ (xt_test σ H Q z)
theorem xt_notN {w : W} : ∀ σ H Q, tT c (bB (dNotN w)) σ H Q → tB (tNotN (tD c w)) σ H Q := fun σ H Q z => xd_notN σ H _ (xt_test σ H Q z)
theorem xs_ownLc {i : Nat} {wi : WA} {wg : WG} {wt : WT} {we : W} {g : TG} {vs : List Nat} (hg : gD c wg g) (hs : Stores g vs) : ∀ Dn σ H, sD c E (dOwn i (dLcW wi wg wt we vs)) Dn σ H → tAsg (tLc (tI c wi) g (tT c wt) (tD c we) vs) (gName i) Dn σ H := fun Dn σ H z => xn_lc hg hs σ H _ (xs_own Dn σ H z)
theorem xs_asgLc {i : Nat} {wi : WA} {wg : WG} {wt : WT} {we : W} {g : TG} {vs : List Nat} (hg : gD c wg g) (hs : Stores g vs) : ∀ Dn σ H, sD c E (dAsg i (dN (dLcW wi wg wt we vs))) Dn σ H → tAsg (tLc (tI c wi) g (tT c wt) (tD c we) vs) (gName i) Dn σ H := fun Dn σ H z => xn_lc hg hs σ H _ (xd_N σ H _ (xs_asg Dn σ H z))
theorem flat_rep {vs : List V} {ds : List D} {K : PySem.W.Frag} (k : RpAll K F vs ds) : ∀ n : Nat, RpAll K F (List.replicate n vs).flatten (List.replicate n ds).flatten
  | 0 => .nil
  | n + 1 => by
    rw [List.replicate_succ, List.replicate_succ, List.flatten_cons, List.flatten_cons]
    exact dpAll_app k (flat_rep k n)
theorem xn_rep {w : WA} {wn : W} : ∀ σ H Q, tN c (nRep w wn) σ H Q → tOp rRep (tLst (tA c w)) (tD c wn) σ H Q := fun σ H Q ⟨e, F, H0, R, W, S, q, P⟩ =>
  ⟨e, F, H0, _, W, S, q, fun ds vs H1 F1 ⟨h3, hn, q1⟩ x1 r1 => by
    have hl : vs.length = ds.length := r1.length
    refine ⟨len_le (by omega), fun p hp => ?_⟩
    have x1' := Ext.loose x1.ok (.lst vs) hp
    have np := x1.ok.newR hp
    refine ⟨e, F1, H0, _, x1'.ok, S.ext W (x1.trans x1'), q1, fun d v H2 F2 ⟨k, hk, h1, h2, r⟩ x2 rv => ?_⟩
    subst hk
    have g2 := x2.keep p _ upd_same np (x1'.ok.noP upd_same)
    have hk2 : vs.length * k.toNat ≤ 1000000 := Nat.le_trans (Nat.mul_le_mul (show vs.length ≤ 1000 by omega) (show k.toNat ≤ 1000 by omega)) (by decide)
    refine ⟨p, k, vs, rfl, rv.int_inv, g2, by omega, by omega, len_le hk2, fun p2 hp2 => ?_⟩
    have xx := (x1.trans x1').trans x2
    exact P _ p2 _ _ _ r (xx.trans (Ext.loose x2.ok _ hp2)) (xx.free hp2) upd_same (x2.ok.newF hp2) (x2.ok.newR hp2) (flat_rep (dpAll_same (x1'.trans x2).grow _ _ (repVs_dp r1 hn)) _)⟩
end
end FW
/-! FWG: all(test of x for x in numbers), numbers a list or a tuple of ints; the test may look at names that the def holds in cells. -/
namespace FWG
open PySem PySem.Spec PyProof.Rows L2
section
variable {prog : Program} {w : World} {A : Around} {E : Value → Shared → Prop} {s : Shared}
/-- the code object of a generator expression: found in the table, or made and laid there -/
theorem gen_code {env : PySem.Env} {c P : Addr} {ps : Array Value} {pos : Pos} {qual : Str} {scope : Scope} {Q : Value → Shared → Prop} (hc : env.code = .ref c) (cd : PySem.W.CodeHd s.heap c P)
    (hP : s.heap.get? P = some { cls := .none, data := .fields ps }) (ht : TriplesOk ps.toList)
    (k : ∀ (code : Value) (h3 : Heap) (tk : Nat) (more : Array Value), Heap.ExtBut P s.heap h3 → s.heap.objs.size ≤ h3.objs.size → h3.get? P = some { cls := .none, data := .fields (ps ++ more) } → TriplesOk (ps ++ more).toList → Q code { s with heap := h3, toks := tk }) :
    wpAny (model prog w) A (genexprCode env pos qual scope) Q E s := by
  cases hf : codeAmong pos ps.toList with
  | some cv =>
    refine wpAny_genexprCode_hit hc (cd.code hP ht) hf ?_
    have e : ps ++ #[] = ps := by simp
    exact k cv s.heap s.toks #[] (Heap.ExtBut.refl _ _) (Nat.le_refl _) (by rw [e]; exact hP) (by rw [e]; exact ht)
  | none =>
    refine wpAny_genexprCodeX hc (cd.code hP ht) (cd.tab hP) hf fun c' h' tk hx hge hlt hco _ htab _ => ?_
    obtain ⟨_, _, _, _, _, _, _, _, _, _, _, _, _, _, _, _, _, _, _, htr, _⟩ := hco
    exact k _ h' tk _ hx (Nat.le_trans hge (Nat.le_of_lt hlt)) htab.2 htr
end
/-- a list or a tuple -/
def SqA (K : PySem.W.Frag) (H : Hp) (a : Addr) (xs : List V) : Prop := SqL K H a xs ∨ SqT K H a xs
/-- the element as a test of an int, where the cells of h stand as they stood -/
def ElI (X : Cx) (scope : Scope) (x : Str) (elt : Expr) (pb : Int → Bool) (h : Heap) : Prop :=
  ∀ (cenv : PySem.Env) (A' : Around) (E' : Value → Shared → Prop) (n : Int) (t : Tok) (s2 : Shared) (m2 : Str → Option Value), cenv.scope = scope → cenv.cells = cloFrom X.env.cells scope.names [] → s2.heap.Ns cenv.locals m2 → m2 x = some (.int n t) →
    (∀ b v, h.IsCell b (some v) → s2.heap.IsCell b (some v)) → wpAny (model X.prog X.w) A' (eval elt cenv) (fun y s3 => y = .bool (pb n) ∧ Keeps s2 s3) E' s2
def atB (pb : Int → Bool) (ns : List Int) (i : Nat) : Bool := match ns[i]? with
  | some n => pb n
  | none => false
theorem all_atB (pb : Int → Bool) : ∀ ns : List Int, (List.range ns.length).all (atB pb ns) = ns.all pb := fun ns => by
  rw [Bool.eq_iff_iff, List.all_eq_true, List.all_eq_true]
  constructor
  · intro h b hb
    obtain ⟨j, hj, e⟩ := List.getElem_of_mem hb
    have q := h j (List.mem_range.mpr hj)
    unfold atB at q
    rw [List.getElem?_eq_getElem hj, e] at q
    exact q
  · intro h j hj
    have hj' := List.mem_range.mp hj
    unfold atB
    rw [List.getElem?_eq_getElem hj']
    exact h _ (List.getElem_mem hj')
/-- a generator at g over the tests of ns, to be walked from s5 on -/
def Gen (X : Cx) (pins : List (Addr × Obj)) (σ : L2.St) (H1 : Hp) (P : Addr) (ns : List Int) (pb : Int → Bool) (g : Addr) (s5 : Shared) : Prop :=
  ∃ (fp wr : List Addr) (G : Array GenState → Array GenState → Prop) (Fv : Nat → Value → Prop) (St : Nat → Shared → Prop), WalksS X.prog X.w X.A.in1 g fp wr G ns.length Fv St ∧ St 0 s5 ∧
    TruthOf X.prog X.w X.A.in1 Fv (atB pb ns) ∧ ∀ s', Moved wr G s5 s' → ∃ H2, GxR.Tabbed P H1 H2 ∧ Inv X pins σ H2 s'
section
variable {X : Cx} {pins : List (Addr × Obj)} {σ : L2.St} {H1 : Hp} {s1 : Shared}
/-- from the iterator on: it stands at the heap's end, over the items of a -/
theorem gen_from {c P a : Addr} {elt : Expr} {x : Str} {gpos : Pos} {scope : Scope} {pb : Int → Bool} {k : Nat} {ns : List Int} {its : List Value} {o : Obj} {ps : Array Value} {St0 : Nat → Heap → Prop} {Q' : Value → Shared → Prop}
    (hr : Room k X.A) (TB : GxR.TabB X.base X.mg c P) (hcode : X.env.code = .ref c) (I1 : Inv X pins σ H1 s1) (rv : Vals (ns.map V.int) its) (hel : ElI X scope x elt pb s1.heap) (hP : H1 P = some (.tbl ps)) (ht : TriplesOk ps.toList)
    (ha : a < s1.heap.objs.size) (haP : a ≠ P) (W : ∀ A' : Around, A'.handled = none → Walks X.prog X.w A' s1.heap.objs.size [s1.heap.objs.size, a] [s1.heap.objs.size] its.toArray.size (fun i v => its.toArray[i]? = some v) St0)
    (hst : St0 0 (s1.heap.push o)) (hQ : ∀ g s5, Gen X pins σ H1 P ns pb g s5 → Q' (.ref g) s5) :
    wpAny (model X.prog X.w) X.A (genexprCode X.env gpos (X.env.qual ++ "<genexpr>") scope) (fun code s3 => wpAny (model X.prog X.w) X.A (builtinsFor X.env.globals X.env.builtins) (fun bi s4 =>
      ∃ Ia fp wr n₀ Pf St₀ pz F, Value.ref s1.heap.objs.size = .ref Ia ∧ (∀ A' : Around, A'.handled = none → Walks X.prog X.w A' Ia fp wr n₀ Pf St₀) ∧ St₀ 0 s4.heap ∧ (∀ b ∈ fp, b < s4.heap.objs.size) ∧ s4.heap.NoLimit ∧ cStatics ∉ wr ∧
        (∀ href : Heap, (∀ b o, s4.heap.get? b = some o → href.get? b = some o) → QuietGen X.prog X.w (genEnv scope (cloFrom X.env.cells scope.names []) s4.heap.objs.size code bi X.env) x [] elt (List.range s4.heap.objs.size) wr Pf pz F href) ∧
        (∀ a h5 tk gs, gs.bare = true → s4.heap.objs.size < a → h5.objs.size = a + 1 → (∀ b o, s4.heap.get? b = some o → h5.get? b = some o) →
          WalksS X.prog X.w X.A.in4 a (a :: s4.heap.objs.size :: List.range s4.heap.objs.size) (s4.heap.objs.size :: wr) (GenOnlyQ s4.gens.size) (passing pz n₀ 0).length (fun j y => ∃ i, (passing pz n₀ 0)[j]? = some i ∧ F i y)
            (GenAt X.prog X.w X.A.in4 a s4.gens.size s4.heap.objs.size (List.range s4.heap.objs.size) wr pz n₀ F) →
          GenAt X.prog X.w X.A.in4 a s4.gens.size s4.heap.objs.size (List.range s4.heap.objs.size) wr pz n₀ F 0 { s4 with gens := s4.gens.push gs, toks := tk, heap := h5 } →
          Q' (.ref a) { s4 with gens := s4.gens.push gs, toks := tk, heap := h5 })) X.xe s3) X.xe { s1 with heap := s1.heap.push o } := by
  have hPs : s1.heap.get? P = some { cls := .none, data := .fields ps } := I1.hok P _ hP
  have ltP : P < s1.heap.objs.size := Heap.lt_size hPs
  have kp : ∀ b u, s1.heap.get? b = some u → (s1.heap.push o).get? b = some u := fun b u e => Heap.get?_push_of_some _ e
  have sz : (s1.heap.push o).objs.size = s1.heap.objs.size + 1 := Heap.size_push ..
  refine gen_code hcode (TB.code.keeps fun b u e => kp b u (I1.bk b u e)) (kp _ _ hPs) ht fun code h3 tk more hx hge hP3 ht3 => ?_
  have hge3 : s1.heap.objs.size + 1 ≤ h3.objs.size := by rw [← sz]; exact hge
  have k3 : ∀ b u, b ≠ P → s1.heap.get? b = some u → h3.get? b = some u := fun b u hb e => hx b u hb (kp b u e)
  have hst3 : St0 0 h3 := (W X.A hr.hd).frame _ _ _ hst fun b hb u e => hx b u (fun z => by
    rcases List.mem_cons.mp hb with q | q
    · rw [q] at z; rw [← z] at ltP; exact Nat.lt_irrefl _ ltP
    · rw [List.mem_singleton.mp q] at z; exact haP z) e
  obtain ⟨bm, ob, e1, e2, e3, e4, e5, e6, e7, e8⟩ := TB.bm
  have hcl : cStatics < s1.heap.objs.size := let ⟨_, hns, _⟩ := I1.nolimit; hns.lt
  have hcP : cStatics ≠ P := fun e => by
    obtain ⟨_, ⟨o', es, ep, ho, hd, _⟩, _⟩ := I1.nolimit
    rw [e, hPs] at ho
    cases ho
    cases hd
  have lim3 : h3.NoLimit := (I1.nolimit.push o).extBut hx hcP
  refine wpAny_builtinsFor (m := X.mg) (by rw [I1.ok.glob]; exact ((I1.mod.glob.keeps I1.bk).push o).extBut hx TB.gP) e1 e2 (k3 _ _ e4 (I1.bk _ _ e5)) e6 e7 e8 ?_
  have hlen : its.toArray.size = ns.length := by rw [List.size_toArray, ← rv.length, List.length_map]
  refine ⟨s1.heap.objs.size, [s1.heap.objs.size, a], [s1.heap.objs.size], its.toArray.size, fun i v => its.toArray[i]? = some v, St0, fun _ => true, fun i y => ∃ n, ns[i]? = some n ∧ y = .bool (pb n), rfl, W, hst3, ?_, lim3, ?_, ?_, ?_⟩
  · intro b hb
    show b < h3.objs.size
    rcases List.mem_cons.mp hb with z | z
    · rw [z]; exact hge3
    · rw [List.mem_singleton.mp z]; exact Nat.lt_of_lt_of_le ha (Nat.le_trans (Nat.le_succ _) hge3)
  · intro z
    rw [List.mem_singleton.mp z] at hcl
    exact Nat.lt_irrefl _ hcl
  · -- the element: no tests stand ahead of it, the cells are as they were
    intro href hhref
    refine ⟨fun A' E' i v s2 m2 _ _ _ _ _ => ?_, fun A' E' i v s2 m2 hA hv _ hn hm hk => ?_⟩
    · rw [List.forIn_nil]
      exact wpAny_pure ⟨rfl, GxR.keeps_refl _⟩
    · have hv' : its[i]? = some v := by simpa using hv
      have hi : i < ns.length := by rw [← hlen]; exact (Array.getElem?_eq_some_iff.mp hv).1
      have hb : (ns.map V.int)[i]? = some (V.int ns[i]) := by rw [List.getElem?_map, List.getElem?_eq_getElem hi]; rfl
      obtain ⟨u, hu, t, rfl⟩ := rv.get hb
      rw [hv'] at hu
      cases hu
      refine wpAny_mono (hel _ A' E' _ t s2 m2 rfl rfl hn hm fun b v hc => ?_) (fun y s3 r => ⟨⟨_, List.getElem?_eq_getElem hi, r.1⟩, r.2⟩) fun _ _ e => e
      obtain ⟨oc, ho, hd⟩ := hc
      have hbP : b ≠ P := fun z => by rw [z, hPs] at ho; cases ho; cases hd
      exact ⟨oc, hk b (List.mem_range.mpr (Nat.lt_of_lt_of_le (Heap.lt_size ho) (Nat.le_trans (Nat.le_succ _) hge3))) (fun z => by
        rw [List.mem_singleton.mp z] at ho; exact Nat.lt_irrefl _ (Heap.lt_size ho)) oc (hhref _ _ (k3 b oc hbP ho)), hd⟩
  · intro g h5 tk5 gs hgb hlt hsz5 hk5 W5 hat
    simp only [GxR.passing_true, List.length_range] at W5
    rw [hlen] at W5 hat
    refine hQ g _ ⟨_, _, _, _, _, W5.in4_1, hat, ?_, fun s' hm => ?_⟩
    · rintro j y sj Qj Ej ⟨i, hij, n, hn, rfl⟩ hq
      obtain ⟨_, ej⟩ := List.getElem?_eq_some_iff.mp hij
      rw [List.getElem_range] at ej
      subst ej
      have e9 : atB pb ns j = pb n := by unfold atB; rw [hn]
      rw [e9] at hq
      exact wpAny_truthy_bool hq
    · have out : ∀ b u, s1.heap.get? b = some u → b ∉ h3.objs.size :: [s1.heap.objs.size] := fun b u e hb => by
        have hl := Heap.lt_size e
        rcases List.mem_cons.mp hb with z | z
        · rw [z] at hl; exact absurd (Nat.lt_of_lt_of_le hl (Nat.le_trans (Nat.le_succ _) hge3)) (Nat.lt_irrefl _)
        · rw [List.mem_singleton.mp z] at hl; exact Nat.lt_irrefl _ hl
      have J := GxR.inv_tab (more := more) (h' := s'.heap) (g' := s'.gens) (d' := s'.drawn) (t' := s'.toks) I1 hP (fun b u hb e => hm.heap b u (out b u e) (hk5 b u (k3 b u hb e))) (hm.heap P _ (out P _ hPs) (hk5 P _ hP3)) (AllBare.movedS (I1.bare.push hgb) hm)
      rw [GxR.sh_eta s1 s' hm.os] at J
      exact ⟨_, ⟨⟨ps ++ more, upd_same, ht3⟩, fun b hb => upd_ne hb⟩, J⟩
theorem gen_ints {c P : Addr} {elt iter : Expr} {x : Str} {px gpos : Pos} {scope : Scope} {pb : Int → Bool} {te : TE} {k : Nat} {Q' : Value → Shared → Prop} {R : List Int → Hp → Prop} {H : Hp} {s : Shared}
    (hr : Room k X.A) (TB : GxR.TabB X.base X.mg c P) (hcode : X.env.code = .ref c) (S : GxR.GenS X.env scope x) (hi : PE X iter te) (hel : ∀ H1 s1, Inv X pins σ H1 s1 → ElI X scope x elt pb s1.heap)
    (hs : ∀ v, genFold iter X.env v = pure v) (I : Inv X pins σ H s) (h : te σ H fun v H1 => ∃ (a : Addr) (ns : List Int), v = .ref a ∧ SqA X.K H1 a (ns.map V.int) ∧ GxR.TabG H1 P ∧ R ns H1)
    (hQ : ∀ ns H1 g s5, R ns H1 → Gen X pins σ H1 P ns pb g s5 → Q' (.ref g) s5) :
    wpAny (model X.prog X.w) X.A (eval (.GeneratorExp elt [⟨.Name x px, iter, [], 0⟩] scope gpos) X.env) Q' X.xe s := by
  refine wpAny_GeneratorExp_walksQ hr.hd S.co (closure_ok S.free) S.cell S.dot S.loc S.kind (Nat.lt_of_le_of_lt (Nat.le_trans (Nat.le_add_right _ _) (Nat.le_add_right _ 5)) hr.dp) ?_ hs
  refine thn (hi.run pins s σ H _ I h) fun xv s1 ⟨v, H1, I1, r1, a, ns, e, hsq, ⟨ps, hP, ht⟩, q1⟩ => ?_
  subst e
  obtain rfl : xv = Value.ref a := r1
  rcases hsq with hsq | hsq
  · obtain ⟨its, rv, pl, _⟩ := I1.list hsq
    have hIL := pl.isList
    have hlt : a < s1.heap.objs.size := let ⟨_, e, _⟩ := hIL; Heap.lt_size e
    have haP : a ≠ P := fun z => by
      obtain ⟨oo, e, hc1, _⟩ := hIL
      rw [z, show s1.heap.get? P = _ from I1.hok P _ hP] at e
      cases e; cases hc1
    refine wpAny_pyIter_list hIL ⟨I1.nolimit.push _, ?_⟩
    exact gen_from hr TB hcode I1 rv (hel H1 s1 I1) hP ht hlt haP (fun A' hA => Walks.list hA _ _ (Nat.ne_of_lt hlt) _) ⟨⟨_, Heap.get?_push_size _ rfl, rfl, rfl⟩, hIL.push _⟩ fun g s5 G => hQ ns H1 g s5 q1 G
  · obtain ⟨its, rv, pl, _⟩ := I1.tuple hsq
    have hlt : a < s1.heap.objs.size := pl.lt
    have haP : a ≠ P := fun z => by
      obtain ⟨oo, e, hc1, _⟩ := pl
      rw [z, show s1.heap.get? P = _ from I1.hok P _ hP] at e
      cases e; cases hc1
    refine wpAny_pyIter_tuple (items := its.toArray) pl ⟨I1.nolimit.push _, ?_⟩
    exact gen_from hr TB hcode I1 rv (hel H1 s1 I1) hP ht hlt haP (fun A' hA => Walks.tuple hA _ _ (Nat.ne_of_lt hlt) _) ⟨⟨_, Heap.get?_push_size _ rfl, rfl, rfl⟩, pl.push _⟩ fun g s5 G => hQ ns H1 g s5 q1 G
/-- all(..): behind it the def's table may have grown -/
def tAll (K : PySem.W.Frag) (P : Addr) (pb : L2.St → Int → Bool) (te : TE) : TE := fun σ H Q => te σ H fun v H1 => ∃ (a : Addr) (ns : List Int), v = .ref a ∧ SqA K H1 a (ns.map V.int) ∧ GxR.TabG H1 P ∧ ∀ H2, GxR.Tabbed P H1 H2 → Q (.bl (ns.all (pb σ))) H2
theorem pe_all {c P : Addr} {elt iter : Expr} {x : Str} {px p pos gpos : Pos} {scope : Scope} {pb : L2.St → Int → Bool} {te : TE} {k : Nat}
    (hr : Room k X.A) (hg : Gl X "all") (hm : X.mg "all" = none) (hb : bootBuiltins "all" = some (.builtin "all")) (TB : GxR.TabB X.base X.mg c P) (hcode : X.env.code = .ref c) (S : GxR.GenS X.env scope x) (hi : PE X iter te)
    {Pre : L2.St → Prop} (hel : ∀ pins σ H1 s1, Pre σ → Inv X pins σ H1 s1 → ElI X scope x elt (pb σ) s1.heap) (hs : ∀ v, genFold iter X.env v = pure v)
    (he : starEach [.GeneratorExp elt [⟨.Name x px, iter, [], 0⟩] scope gpos] X.env = (false, eval (.GeneratorExp elt [⟨.Name x px, iter, [], 0⟩] scope gpos) X.env) :: starEach [] X.env := by rfl) :
    PE X (.Call (.Name "all" p) [.GeneratorExp elt [⟨.Name x px, iter, [], 0⟩] scope gpos] [] pos) (fun σ H Q => Pre σ ∧ tAll X.K P pb te σ H Q) := by
  refine ⟨fun pins s σ H Q I h => ?_⟩
  obtain ⟨hpre, h⟩ := h
  refine wpAny_Call_Name_kw (ld_blt I hg hm hb ?_)
  refine PyProof.Rows.callWith_builtin1 ?_ he (by rfl)
  rw [he]
  show wpAny _ _ (spliced ((false, eval _ X.env) :: backTo pos (starEach [] X.env))) _ _ s
  refine Calls.spliced_cons (gen_ints (R := fun ns H1 => ∀ H2, GxR.Tabbed P H1 H2 → Q (.bl (ns.all (pb σ))) H2) hr TB hcode S hi (fun H1 s1 I1 => hel pins σ H1 s1 hpre I1) hs I h fun ns H1 g s5 hR hG => Calls.spliced_nil ?_)
  obtain ⟨fp, wr, G, Fv, St, W, hst, htr, hI⟩ := hG
  refine call_all_walkS (W.self 0 _ _ _ hst ⟨g, fp, wr, G, _, Fv, St, _, rfl, W, hst, htr, fun s' hmv => ?_⟩)
  obtain ⟨H2, hT, J⟩ := hI s' hmv
  exact ⟨.bl _, H2, J, rfl, by rw [all_atB (pb σ) ns]; exact hR H2 hT⟩
end
/-- lo <= x <= hi, both ends captured -/
theorem el_between {X : Cx} {scope : Scope} {h : Heap} {x y z : Str} {lo hi : Int} {tl th : Tok} {cl ch : Addr} {p1 p2 p3 p4 : Pos} (hk : scope.kind = .function) (hx : scope.names.lookup x = some .local) (hl : scope.names.lookup y = some .free) (hh : scope.names.lookup z = some .free)
    (e1 : (cloFrom X.env.cells scope.names []).lookup y = some cl) (e2 : (cloFrom X.env.cells scope.names []).lookup z = some ch) (v1 : h.IsCell cl (some (.int lo tl))) (v2 : h.IsCell ch (some (.int hi th)))
    (dx : (x == ("__debug__" : Str)) = false) (dy : (y == ("__debug__" : Str)) = false) (dz : (z == ("__debug__" : Str)) = false) (cy : (y == ("__classdict__" : Str)) = false) (cz : (z == ("__classdict__" : Str)) = false) :
    ElI X scope x (.Compare (.Name y p1) [.LtE, .LtE] [.Name x p2, .Name z p3] p4) (fun n => decide (lo ≤ n) && decide (n ≤ hi)) h := by
  intro cenv A' E' n t s2 m2 hs hc hn hm hcell
  have kk : cenv.scope.kind = .function := by rw [hs]; exact hk
  refine Compare_chain (wpAny_Name (wpAny_loadName_free (c := cl) kk (show cenv.scope.names.lookup y = _ by rw [hs]; exact hl) (by rw [hc]; exact e1) (hcell _ _ v1) ?_ cy) dy) (by rfl)
  refine chain_link (wpAny_Name (wpAny_loadName_local kk (show cenv.scope.names.lookup x = _ by rw [hs]; exact hx) hn hm ?_) dx)
  refine le_int (wpAny_truthy_bool ?_)
  by_cases q : lo ≤ n
  · rw [decide_eq_true q]
    refine ite_tt (chain_last (wpAny_Name (wpAny_loadName_free (c := ch) kk (show cenv.scope.names.lookup z = _ by rw [hs]; exact hh) (by rw [hc]; exact e2) (hcell _ _ v2) ?_ cz) dz))
    exact le_int ⟨by simp [q], GxR.keeps_refl _⟩
  · rw [decide_eq_false q]
    exact ite_ff ⟨by simp [q], GxR.keeps_refl _⟩
end FWG
namespace FW
open PySem PySem.Spec PyProof.Rows L2
section
variable {c : Amb} {H F H2 : Hp}
/-- a table has grown: nothing else has changed -/
theorem Ext.tabbed (W : Wok c H F) {P : Addr} (hP : P ∈ c.Ps) (T : GxR.Tabbed P H H2) : Ext c H F H2 F := by
  obtain ⟨t1, t2⟩ := T
  have ht := (W.tab P hP).1
  have ne : ∀ b o, H b = some o → (∀ ps, o ≠ .tbl ps) → b ≠ P := fun b o e k z => by
    obtain ⟨ps, q, _⟩ := ht
    rw [z, q] at e
    exact k ps (Option.some.inj e).symm
  have nt : ∀ b o, H b = some o → b ∉ c.Ps → H2 b = some o := fun b o e nb => by
    rw [t2 b (fun z => nb (z ▸ hP))]; exact e
  refine ⟨⟨fun b o e => ?_, W.row.keep (fun b o e nb => nt b o e nb) (fun P h => (W.tab P h).1), W.rF, fun P' hP' => ⟨?_, (W.tab P' hP').2⟩⟩, fun _ _ h => h, fun b o e _ nb => nt b o e nb, fun _ h h' => absurd h h', W.row.sq⟩
  · rw [t2 b (fun z => by rw [z, (W.tab P hP).2] at e; cases e)]; exact W.sub b o e
  · by_cases z : P' = P
    · rw [z]; exact t1
    · obtain ⟨ps, q, r⟩ := (W.tab P' hP').1
      exact ⟨ps, by rw [t2 _ z]; exact q, r⟩
def pbT (i j : Nat) (σ : L2.St) (n : Int) : Bool := match σ[i]?, σ[j]? with
  | some (some (.int lo)), some (some (.int hi)) => decide (lo ≤ n) && decide (n ≤ hi)
  | _, _ => false
def dAllW (i j : Nat) (w : W) : W := fun e R => ∃ lo hi : Int, e[i]? = some (.val (.int lo)) ∧ e[j]? = some (.val (.int hi)) ∧ w e fun d => ∃ ns : List Int, IsSeq d (ns.map PyData.int) ∧ R (.bool (ns.all fun n => decide (lo ≤ n) && decide (n ≤ hi)))
theorem xd_allW {i j : Nat} {w : W} {P : Addr} (hP : P ∈ c.Ps) : ∀ σ H Q, tD c (dAllW i j w) σ H Q → ((∃ lo hi : Int, σ[i]? = some (some (V.int lo)) ∧ σ[j]? = some (some (V.int hi))) ∧ FWG.tAll c.K P (pbT i j) (tD c w) σ H Q) := by
  rintro σ H Q ⟨e, F, H0, R, W, S, ⟨lo, hi, h1, h2, q⟩, P'⟩
  obtain ⟨v1, a1, b1⟩ := S.val i _ h1
  obtain ⟨v2, a2, b2⟩ := S.val j _ h2
  rw [b1.int_inv] at a1
  rw [b2.int_inv] at a2
  refine ⟨⟨lo, hi, a1, a2⟩, e, F, H0, _, W, S, q, fun d v H1 F1 ⟨ns, hs, r⟩ x1 rv => ?_⟩
  obtain ⟨a, vs, rfl, g1, g2⟩ := seq_inv hs rv x1.ok.sub
  have ev := dpAll_ints_inv ns vs g2
  subst ev
  refine ⟨a, ns, rfl, g1, (x1.ok.tab P hP).1, fun H2 T => ?_⟩
  have ep : pbT i j σ = fun n => decide (lo ≤ n) && decide (n ≤ hi) := by
    funext n
    unfold pbT
    rw [a1, a2]
  rw [ep]
  exact P' _ _ H2 F1 r (x1.trans (Ext.tabbed x1.ok hP T)) .bl
end
/-- THE RULE for a def whose body asks for its own code object -/
theorem calDc {P : Program} {w : World} {g : Glb} {mg : Str → Option Value} {base : Heap} {x : Str} {st : Stmt} {fd : FuncData} {N ps : List Str} {k : Nat} {wb : WS} {f0 : Fd} (Fn : FunP g.K x st (He.fAd g.K (x, none)) fd) (mgf : mg x = some (.ref (He.fAd g.K (x, none)))) (b : Binds g.K fd ps [])
    (S : FnScope N ps (defScope st)) (hlen : ∀ ds R, f0 ds R → ds.length = ps.length)
    (hb : ∀ (cdv : Value) (A : Around) (outer : List PySem.Env) (s : Shared) (H : Hp) (E : XK) (r a : Addr) (ns : List Int), cdv = .ref (He.codeOf g.K (x, none)) → Room k (A.deeper (envOfC x (defScope st) s.heap.objs.size (He.fAd g.K (x, none)) cdv)) →
      PSs (cxOf CX0 P w g.K mg base N x (defScope st) (He.fAd g.K (x, none)) cdv A outer s H E).nox (defBody st) (sD ⟨g, r, a, ns⟩ E wb))
    (hp : ∀ ds R, f0 ds R → wb { nx := fun _ => R .none, rt := R } (startD N ds)) : C8.Cal P w g.K mg base (k + 1) x (spD g f0) [] := by
  obtain ⟨oc, od, dV, kV, doc, pm, an, cdv, ct, osl, rfl, lk, hcd, _, _⟩ := Fn.ex
  obtain ⟨cc, rfl⟩ := He.codeIn_ref hcd
  have ec := He.codeOf_eq (K := g.K) (p := (x, none)) lk rfl
  refine ⟨_, _, ps, [], fn_of lk hcd S (fun vs H Q E h => ?_) (fun A outer s H vs Q E hr h => ?_), mgf, Fn.kp, b, .nil⟩
  · obtain ⟨c, F, ds, R, _, _, rv, h, _⟩ := h
    rw [rv.length]; exact hlen ds R h
  · obtain ⟨⟨g', r, a, ns⟩, F, ds, R, hg, W, rv, h, P'⟩ := h
    have hg' : g' = g := hg
    subst hg'
    refine ⟨_, (hb _ A outer s H E r a ns (by rw [ec]) hr).nox, startD N ds, F, H, F, _, Ext.refl W, rep_start rv, hp ds R h, ?_⟩
    exact ⟨fun e σ H' F' q x S' => P' _ _ H' F' q x .non, fun d v H' F' q x rv => P' d v H' F' q x rv, fun _ _ _ _ _ z => z.elim, fun _ _ _ _ z => z.elim, fun _ _ _ _ z => z.elim, fun _ _ _ z => z.elim, fun _ z => z.elim, fun _ _ _ _ z => z.elim, fun z => nomatch z⟩
end FW
/-! FWL: plain facts about the readings. -/
namespace FW
open PySem PySem.Spec PyProof.Rows L2
@[simp] theorem isSeq_tup {xs ys : List D} : IsSeq (.tuple xs) ys ↔ ys = xs := by
  constructor
  · intro h; cases h; rfl
  · intro h; subst h; exact .tup _
@[simp] theorem isSeq_lst {xs ys : List D} : IsSeq (.list xs) ys ↔ ys = xs := by
  constructor
  · intro h; cases h; rfl
  · intro h; subst h; exact .lst _
@[simp] theorem mapInt_inj {l m : List Int} : l.map PyData.int = m.map PyData.int ↔ l = m := by
  constructor
  · intro h
    have : ∀ {l m : List Int}, l.map PyData.int = m.map PyData.int → l = m := by
      intro l
      induction l with
      | nil => intro m h; cases m with
        | nil => rfl
        | cons => simp at h
      | cons a l ih => intro m h; cases m with
        | nil => simp at h
        | cons b m =>
          simp only [List.map_cons, List.cons.injEq, PyData.int.injEq] at h
          rw [h.1, ih h.2]
    exact this h
  · intro h; rw [h]
/-- a comprehension without draws: what each item gives -/
theorem lcRun_det {g : D → (Sg → Prop) → Prop} {wt : WT} {we : W} {R : List D → Prop} (h : D → Option D) : ∀ (ds acc : List D),
    (∀ d ∈ ds, ∀ K : Option D → Prop, K (h d) → g d fun e' => wt e' fun b => if b = true then we e' fun y => y ≠ .dict [] ∧ K (some y) else K none) → R (acc ++ ds.filterMap h) → lcRun g wt we R ds acc
  | [], acc, _, r => by simpa [lcRun] using r
  | d :: ds, acc, ht, r => by
    unfold lcRun
    refine ht d List.mem_cons_self (fun o => match o with
      | some y => lcRun g wt we R ds (acc ++ [y])
      | none => lcRun g wt we R ds acc) ?_
    cases q : h d with
    | some y =>
      refine lcRun_det h ds _ (fun d' hd => ht d' (List.mem_cons_of_mem _ hd)) ?_
      simpa [List.filterMap_cons, q] using r
    | none =>
      refine lcRun_det h ds _ (fun d' hd => ht d' (List.mem_cons_of_mem _ hd)) ?_
      simpa [List.filterMap_cons, q] using r
def optI (p : Int → Bool) (f : Int → D) : D → Option D
  | .int n => if p n = true then some (f n) else none
  | _ => none
theorem filterMap_optI (p : Int → Bool) (f : Int → D) : ∀ l : List Int, (l.map PyData.int).filterMap (optI p f) = (l.filter p).map f
  | [] => rfl
  | a :: l => by
    rw [List.map_cons, List.filterMap_cons, filterMap_optI p f l]
    by_cases q : p a = true
    · simp [optI, q]
    · simp [optI, q]
/-- .. over ints -/
theorem lcRun_ints {g : D → (Sg → Prop) → Prop} {wt : WT} {we : W} {R : List D → Prop} (p : Int → Bool) (f : Int → D) (ns : List Int) (ht : ∀ n ∈ ns, ∀ K : Option D → Prop, K (if p n = true then some (f n) else none) → g (.int n) fun e' => wt e' fun b => if b = true then we e' fun y => y ≠ .dict [] ∧ K (some y) else K none)
    (r : R ((ns.filter p).map f)) : lcRun g wt we R (ns.map PyData.int) [] := by
  refine lcRun_det (optI p f) _ _ (fun d hd K k => ?_) ?_
  · obtain ⟨n, hn, rfl⟩ := List.mem_map.mp hd
    exact ht n hn K k
  · rw [List.nil_append, filterMap_optI]; exact r
/-- each item gives something of a kind -/
theorem lcRun_each {g : D → (Sg → Prop) → Prop} {wt : WT} {we : W} {R : List D → Prop} (Pd : D → Prop) : ∀ (ds acc : List D),
    (∀ d ∈ ds, ∀ K : Option D → Prop, (∀ y, Pd y → K (some y)) → g d fun e' => wt e' fun b => if b = true then we e' fun y => y ≠ .dict [] ∧ K (some y) else K none) → (∀ zs : List D, zs.length = ds.length → (∀ z ∈ zs, Pd z) → R (acc ++ zs)) → lcRun g wt we R ds acc
  | [], acc, _, r => by
    have := r [] rfl (fun z hz => absurd hz (by simp))
    simpa [lcRun] using this
  | d :: ds, acc, ht, r => by
    unfold lcRun
    refine ht d List.mem_cons_self (fun o => match o with
      | some y => lcRun g wt we R ds (acc ++ [y])
      | none => lcRun g wt we R ds acc) (fun y hy => ?_)
    refine lcRun_each Pd ds _ (fun d' hd => ht d' (List.mem_cons_of_mem _ hd)) (fun zs hl hz => ?_)
    have := r (y :: zs) (by simp [hl]) (fun z h => by rcases List.mem_cons.mp h with h | h; · rw [h]; exact hy
                                                      · exact hz z h)
    simpa using this
/-- a for whose turns go on: what holds between them -/
theorem forRun_inv {wg : WG} {wb : WS} {De : EndsD} (I : List D → Sg → Prop) (ht : ∀ d ds e, I (d :: ds) e → (∀ e2, I ds e2 → forRun wg wb De ds e2) → wg d e fun e' => wb { De with nx := fun e2 => forRun wg wb De ds e2, ct := fun e2 => forRun wg wb De ds e2, bk := De.nx, base := fun _ => False, pin := false } e') (he : ∀ e, I [] e → De.nx e) :
    ∀ ds e, I ds e → forRun wg wb De ds e
  | [], e, h => he e h
  | d :: ds, e, h => ht d ds e h fun e2 h2 => forRun_inv I ht he ds e2 h2
/-! ### == -/
def Sh (n : Nat) (d : D) : Prop := PyData.canLay0 d = true ∧ PyData.depth d ≤ n
theorem Sh.int {n : Nat} {i : Int} : Sh n (.int i) := ⟨by simp [PyData.canLay0], by simp [PyData.depth]⟩
theorem Sh.bool {n : Nat} {i : Bool} : Sh n (.bool i) := ⟨by simp [PyData.canLay0], by simp [PyData.depth]⟩
theorem Sh.none {n : Nat} : Sh n .none := ⟨by simp [PyData.canLay0], by simp [PyData.depth]⟩
theorem Sh.mono {n m : Nat} {d : D} (h : Sh n d) (k : n ≤ m) : Sh m d := ⟨h.1, Nat.le_trans h.2 k⟩
theorem sh_all {n : Nat} : ∀ {xs : List D}, (∀ x ∈ xs, Sh n x) → PyData.canLayAll0 xs = true ∧ PyData.depthAll xs ≤ n
  | [], _ => ⟨by simp [PyData.canLayAll0], by simp [PyData.depthAll]⟩
  | x :: xs, h => by
    obtain ⟨h1, h2⟩ := sh_all (xs := xs) fun y hy => h y (List.mem_cons_of_mem _ hy)
    obtain ⟨g1, g2⟩ := h x List.mem_cons_self
    exact ⟨by simp [PyData.canLayAll0, g1, h1], by simp [PyData.depthAll]; omega⟩
theorem Sh.tup {n : Nat} {xs : List D} (h : ∀ x ∈ xs, Sh n x) : Sh (n + 1) (.tuple xs) := by
  obtain ⟨h1, h2⟩ := sh_all h
  exact ⟨by simp [PyData.canLay0, h1], by simp [PyData.depth]; omega⟩
theorem Sh.lst {n : Nat} {xs : List D} (h : ∀ x ∈ xs, Sh n x) : Sh (n + 1) (.list xs) := by
  obtain ⟨h1, h2⟩ := sh_all h
  exact ⟨by simp [PyData.canLay0, h1], by simp [PyData.depth]; omega⟩
theorem Sh.ints {n : Nat} {l : List Int} : ∀ x ∈ l.map PyData.int, Sh n x := fun x hx => by
  obtain ⟨i, _, rfl⟩ := List.mem_map.mp hx
  exact Sh.int
theorem Sh.ok {n : Nat} {d : D} (h : Sh n d) (k : n ≤ 64 := by decide) : SeqAt.shaped d = true := by
  unfold SeqAt.shaped
  simp [h.1, Nat.le_trans h.2 k]
@[simp] theorem shaped_int {i : Int} : SeqAt.shaped (.int i) = true := (Sh.int (n := 0)).ok
@[simp] theorem shaped_bool {i : Bool} : SeqAt.shaped (.bool i) = true := (Sh.bool (n := 0)).ok
@[simp] theorem shaped_none : SeqAt.shaped .none = true := (Sh.none (n := 0)).ok
@[simp] theorem shaped_ints {l : List Int} : SeqAt.shaped (.tuple (l.map PyData.int)) = true := (Sh.tup (n := 0) Sh.ints).ok
@[simp] theorem shaped_intsL {l : List Int} : SeqAt.shaped (.list (l.map PyData.int)) = true := (Sh.lst (n := 0) Sh.ints).ok
@[simp] theorem shaped_nilL : SeqAt.shaped (.list []) = true := (Sh.lst (n := 0) (xs := []) (by simp)).ok
@[simp] theorem shaped_nilT : SeqAt.shaped (.tuple []) = true := (Sh.tup (n := 0) (xs := []) (by simp)).ok
@[simp] theorem eqv_int {i j : Int} : PyData.eqv (.int i) (.int j) = decide (i = j) := by
  show (i == j) = _
  exact Bool.beq_eq_decide_eq i j
@[simp] theorem eqv_bool {i j : Bool} : PyData.eqv (.bool i) (.bool j) = (i == j) := rfl
@[simp] theorem eqv_none : PyData.eqv .none .none = true := rfl
@[simp] theorem eqv_tup_none {xs : List D} : PyData.eqv (.tuple xs) .none = false := rfl
@[simp] theorem eqv_none_tup {xs : List D} : PyData.eqv .none (.tuple xs) = false := rfl
@[simp] theorem eqv_int_none {i : Int} : PyData.eqv (.int i) .none = false := rfl
@[simp] theorem eqv_none_int {i : Int} : PyData.eqv .none (.int i) = false := rfl
mutual
/-- no truth values, texts, dicts inside -/
def plainD : D → Bool
  | .none => true
  | .int _ => true
  | .list xs => plainAll xs
  | .tuple xs => plainAll xs
  | _ => false
def plainAll : List D → Bool
  | [] => true
  | x :: xs => plainD x && plainAll xs
end
mutual
theorem eqv_plain : ∀ (d e : D), plainD d = true → plainD e = true → (PyData.eqv d e = true ↔ d = e)
  | .none, e, _, h => by cases e <;> simp_all [PyData.eqv, plainD]
  | .int i, e, _, h => by cases e <;> simp_all [PyData.eqv, plainD]
  | .bool _, _, h, _ => by simp [plainD] at h
  | .str _, _, h, _ => by simp [plainD] at h
  | .dict _, _, h, _ => by simp [plainD] at h
  | .list xs, e, h, h' => by
    cases e with
    | list ys => simpa [PyData.eqv] using eqv_plainAll xs ys (by simpa [plainD] using h) (by simpa [plainD] using h')
    | _ => simp_all [PyData.eqv, plainD]
  | .tuple xs, e, h, h' => by
    cases e with
    | tuple ys => simpa [PyData.eqv] using eqv_plainAll xs ys (by simpa [plainD] using h) (by simpa [plainD] using h')
    | _ => simp_all [PyData.eqv, plainD]
theorem eqv_plainAll : ∀ (xs ys : List D), plainAll xs = true → plainAll ys = true → (PyData.eqvAll xs ys = true ↔ xs = ys)
  | [], ys, _, _ => by cases ys <;> simp [PyData.eqvAll]
  | x :: xs, ys, h, h' => by
    cases ys with
    | nil => simp [PyData.eqvAll]
    | cons y ys =>
      simp only [plainAll, Bool.and_eq_true] at h h'
      simp [PyData.eqvAll, eqv_plain x y h.1 h'.1, eqv_plainAll xs ys h.2 h'.2]
end
theorem plain_map {α : Type} {f : α → D} (h : ∀ a, plainD (f a) = true) : ∀ l : List α, plainAll (l.map f) = true
  | [] => rfl
  | a :: l => by simp [plainAll, h a, plain_map h l]
theorem plain_all : ∀ {l : List D}, (∀ d ∈ l, plainD d = true) → plainAll l = true
  | [], _ => rfl
  | a :: l, h => by simp [plainAll, h a List.mem_cons_self, plain_all fun d hd => h d (List.mem_cons_of_mem _ hd)]
@[simp] theorem plain_int {i : Int} : plainD (.int i) = true := rfl
@[simp] theorem plain_none : plainD .none = true := rfl
@[simp] theorem plain_ints {l : List Int} : plainD (.tuple (l.map PyData.int)) = true := by
  show plainAll _ = true
  exact plain_map (fun _ => rfl) l
@[simp] theorem plain_intsL {l : List Int} : plainD (.list (l.map PyData.int)) = true := by
  show plainAll _ = true
  exact plain_map (fun _ => rfl) l
theorem eqv_dec {d e : D} (h : plainD d = true) (h' : plainD e = true) {b : Bool} (k : b = true ↔ d = e) : PyData.eqv d e = b := by
  rw [Bool.eq_iff_iff, eqv_plain d e h h', k]
@[simp] theorem eqv_ints {l m : List Int} : PyData.eqv (.tuple (l.map PyData.int)) (.tuple (m.map PyData.int)) = decide (l = m) := eqv_dec plain_ints plain_ints (by simp)
@[simp] theorem eqv_intsL {l m : List Int} : PyData.eqv (.list (l.map PyData.int)) (.list (m.map PyData.int)) = decide (l = m) := eqv_dec plain_intsL plain_intsL (by simp)
theorem filterMap_nothing {α β : Type} : ∀ l : List α, l.filterMap (fun _ => (none : Option β)) = []
  | [] => rfl
  | a :: l => by rw [List.filterMap_cons]; exact filterMap_nothing l
theorem atI_z {α : Type} {l : List α} {i : Nat} {x : α} (h : l[i]? = some x) : atI l (0 + (i : Int)) = some x := by
  rw [Int.zero_add]; exact atI_nat h
@[simp] theorem noRow_nil : noRow [] := fun d h => absurd h (by simp)
@[simp] theorem noRow_cons {d : D} {ds : List D} : noRow (d :: ds) ↔ d ≠ .dict [] ∧ noRow ds := by
  constructor
  · intro h
    exact ⟨h d List.mem_cons_self, fun x hx => h x (List.mem_cons_of_mem _ hx)⟩
  · rintro ⟨h1, h2⟩ x hx
    rcases List.mem_cons.mp hx with z | z
    · rw [z]; exact h1
    · exact h2 x z
@[simp] theorem eqv_nilL : PyData.eqv (.list []) (.list []) = true := rfl
@[simp] theorem rngD_len {lo : Int} {n : Nat} : (rngD lo n).length = n := rngD_length
@[simp] theorem rdMax2_iff {i j : Int} {R : D → Prop} : rdMax2 [.int i, .int j] R ↔ R (.int (if j > i then j else i)) := by
  constructor
  · rintro ⟨a, b, e, h⟩; simp at e; rw [e.1, e.2]; exact h
  · intro h; exact ⟨i, j, rfl, h⟩
@[simp] theorem rdMin2_iff {i j : Int} {R : D → Prop} : rdMin2 [.int i, .int j] R ↔ R (.int (if j < i then j else i)) := by
  constructor
  · rintro ⟨a, b, e, h⟩; simp at e; rw [e.1, e.2]; exact h
  · intro h; exact ⟨i, j, rfl, h⟩
@[simp] theorem rdInt1_bool {k : Bool} {R : D → Prop} : rdInt1 [.bool k] R ↔ R (.int (if k then 1 else 0)) := by
  constructor
  · rintro (⟨a, e, h⟩ | ⟨a, e, h⟩)
    · simp at e
    · simp at e; rw [e]; exact h
  · intro h; exact .inr ⟨k, rfl, h⟩
@[simp] theorem rdInt1_int {k : Int} {R : D → Prop} : rdInt1 [.int k] R ↔ R (.int k) := by
  constructor
  · rintro (⟨a, e, h⟩ | ⟨a, e, h⟩)
    · simp at e; rw [e]; exact h
    · simp at e
  · intro h; exact .inl ⟨k, rfl, h⟩
@[simp] theorem rdZip_iff {xs ys : List D} {R : List D → Prop} : rdZip [.tuple xs, .tuple ys] R ↔ R ((xs.zip ys).map fun p => .tuple [p.1, p.2]) := by
  constructor
  · rintro ⟨a, b, e, h⟩; simp at e; rw [e.1, e.2]; exact h
  · intro h; exact ⟨xs, ys, rfl, h⟩
@[simp] theorem atI_0 {α : Type} {a : α} {l : List α} : atI (a :: l) 0 = some a := atI_nat (j := 0) rfl
@[simp] theorem atI_1 {α : Type} {a b : α} {l : List α} : atI (a :: b :: l) 1 = some b := atI_nat (j := 1) rfl
@[simp] theorem atI_2 {α : Type} {a b c : α} {l : List α} : atI (a :: b :: c :: l) 2 = some c := atI_nat (j := 2) rfl
@[simp] theorem atI_3 {α : Type} {a b c d : α} {l : List α} : atI (a :: b :: c :: d :: l) 3 = some d := atI_nat (j := 3) rfl
@[simp] theorem eqv_list_nil {xs : List D} : PyData.eqv (.list xs) (.list []) = xs.isEmpty := by cases xs <;> rfl
/-- the places at which something is bad -/
def badAt (bad : Nat → Bool) : D → Option D
  | .int i => if bad i.toNat = true then some (.int i) else none
  | _ => none
theorem badAt_list (bad : Nat → Bool) (n : Nat) : ((rngD 0 n).filterMap (badAt bad)).isEmpty = (List.range n).all fun k => !bad k := by
  unfold rngD
  rw [List.filterMap_map]
  have : ∀ l : List Nat, (l.filterMap (badAt bad ∘ fun k => PyData.int (0 + (k : Nat)))).isEmpty = l.all fun k => !bad k := by
    intro l
    induction l with
    | nil => rfl
    | cons a l ih =>
      rw [List.filterMap_cons, List.all_cons]
      by_cases q : bad a = true
      · simp [badAt, q]
      · simp [badAt, q]
        simpa using ih
  exact this _
theorem badAt_nil (bad : Nat → Bool) (n : Nat) : (rngD 0 n).filterMap (badAt bad) = [] ↔ ((List.range n).all fun k => !bad k) = true := by
  rw [← badAt_list, List.isEmpty_iff]
theorem badAt_sh (bad : Nat → Bool) (l : List D) : SeqAt.shaped (.list (l.filterMap (badAt bad))) = true := by
  refine (Sh.lst (n := 0) fun x hx => ?_).ok
  obtain ⟨d, _, e⟩ := List.mem_filterMap.mp hx
  cases d with
  | int i =>
    have e : (if bad i.toNat = true then some (PyData.int i) else none) = some x := e
    by_cases q : bad i.toNat = true
    · rw [if_pos q] at e; rw [← Option.some.inj e]; exact Sh.int
    · rw [if_neg q] at e; cases e
  | _ => cases e
/-- a comprehension over range(n) that gathers bad places -/
theorem lcRun_bad {g : D → (Sg → Prop) → Prop} {wt : WT} {we : W} {R : List D → Prop} (bad : Nat → Bool) (n : Nat) (ht : ∀ k : Nat, k < n → ∀ K : Option D → Prop, K (if bad k = true then some (.int k) else none) → g (.int k) fun e' => wt e' fun b => if b = true then we e' fun y => y ≠ .dict [] ∧ K (some y) else K none)
    (r : R ((rngD 0 n).filterMap (badAt bad))) : lcRun g wt we R (rngD 0 n) [] := by
  refine lcRun_det (badAt bad) _ _ (fun d hd K k => ?_) (by simpa using r)
  unfold rngD at hd
  obtain ⟨i, hi, rfl⟩ := List.mem_map.mp hd
  rw [Int.zero_add] at k ⊢
  exact ht i (List.mem_range.mp hi) K (by simpa [badAt] using k)
theorem atI_map {α β : Type} {l : List α} {f : α → β} {i : Nat} {x : α} (h : l[i]? = some x) : atI (l.map f) (i : Int) = some (f x) := atI_nat (by rw [List.getElem?_map, h]; rfl)
theorem all_range {α : Type} (p : α → Bool) (l : List α) (bad : Nat → Bool) (h : ∀ (i : Nat) x, l[i]? = some x → bad i = !p x) : ((List.range l.length).all fun k => !bad k) = l.all p := by
  rw [Bool.eq_iff_iff, List.all_eq_true, List.all_eq_true]
  constructor
  · intro k x hx
    obtain ⟨i, hi, e⟩ := List.getElem_of_mem hx
    have := k i (List.mem_range.mpr hi)
    rw [h i x (by rw [List.getElem?_eq_getElem hi, e])] at this
    simpa using this
  · intro k i hi
    have hi' := List.mem_range.mp hi
    rw [h i _ (List.getElem?_eq_getElem hi'), k _ (List.getElem_mem hi')]
    rfl
@[simp] theorem isNone_none : isNone .none = true := rfl
@[simp] theorem isNone_int {i : Int} : isNone (.int i) = false := rfl
@[simp] theorem isNone_bool {i : Bool} : isNone (.bool i) = false := rfl
@[simp] theorem isNone_str {i : Str} : isNone (.str i) = false := rfl
@[simp] theorem isNone_list {i : List D} : isNone (.list i) = false := rfl
@[simp] theorem isNone_tup {i : List D} : isNone (.tuple i) = false := rfl
end FW
/-! FWR: the row of draws. -/
namespace FW
open PySem PySem.Spec PyProof.Rows L2
section
variable {c : Amb} {H F H' : Hp}
/-- the row has changed, nothing else -/
theorem Ext.rowed (W : Wok c H F) {i x k : Int} (hi : 0 ≤ i) (hx : 0 ≤ x) (hx2 : x < 2147483647) (h1 : H' c.r = some (.lst [.ref c.a, .int i, .int x, .int k])) (h2 : ∀ b, b ≠ c.r → H' b = H b) : Ext c H F H' F := by
  obtain ⟨i0, x0, k0, g1, _, _, _, g5⟩ := W.row
  have hr : ∀ P ∈ c.Ps, P ≠ c.r := fun P hP z => by
    obtain ⟨ps, q, _⟩ := (W.tab P hP).1
    rw [z, g1] at q; cases q
  refine ⟨⟨fun b o e => ?_, ⟨i, x, k, h1, hi, hx, hx2, ?_⟩, W.rF, fun P hP => ⟨?_, (W.tab P hP).2⟩⟩, fun _ _ h => h, fun b o e hb _ => by rw [h2 b hb]; exact e, fun _ h h' => absurd h h', W.row.sq⟩
  · rw [h2 b (fun z => by rw [z, W.rF] at e; cases e)]; exact W.sub b o e
  · have ne : ∀ u, H c.a = some u → (∀ o, u ≠ .lst (V.ref c.a :: o)) → c.a ≠ c.r := fun u e k z => by
      rw [z, g1] at e
      exact k _ (by rw [← Option.some.inj e, z])
    rcases g5 with (g5 | ⟨o, g5⟩) | g5
    · refine .inl (.inl ?_)
      rw [h2 c.a (ne _ g5 fun o z => ?_)]
      · exact g5
      · have z' := HO.lst.inj z
        cases q : c.ns with
        | nil => rw [q] at z'; cases z'
        | cons a l => rw [q] at z'; cases z'
    · exact .inl (.inr ⟨o, by rw [h2 c.a (ne _ g5 fun o z => by cases z)]; exact g5⟩)
    · exact .inr g5
  · obtain ⟨ps, q, r⟩ := (W.tab P hP).1
    exact ⟨ps, by rw [h2 P (hr P hP)]; exact q, r⟩
end
/-- a draw: some number below m -/
def f_law_taken : Fd := fun ds R => ∃ m : Int, ds = [.dict [], .int m] ∧ 0 < m ∧ m < 1073741824 ∧ ∀ v : Int, 0 ≤ v → v < m → R (.int v)
theorem len_law_taken : ∀ ds R, f_law_taken ds R → ds.length = 2 := by
  rintro ds R ⟨m, rfl, _⟩; rfl
theorem fmod_lt {a m : Int} (h : 0 < m) : 0 ≤ a.fmod m ∧ a.fmod m < m := ⟨Int.fmod_nonneg_of_pos a h, Int.fmod_lt_of_pos a h⟩
/-! ### isinstance -/
def tyN : D → String
  | .none => "NoneType"
  | .bool _ => "bool"
  | .int _ => "int"
  | .str _ => "str"
  | .list _ => "list"
  | .tuple _ => "tuple"
  | .dict _ => "dict"
def isN (a t : String) : Bool := decide (a = t) || (decide (a = "bool") && decide (t = "int"))
def tyNs : List String := ["NoneType", "bool", "int", "str", "list", "tuple", "dict"]
def clsNs : List String := ["tuple", "list", "bool", "str", "int"]
theorem kit_all : ∀ a ∈ tyNs, ∀ t ∈ clsNs, kitB a t = some (isN a t) := by decide +kernel
theorem tyN_mem {d : D} : tyN d ∈ tyNs := by
  cases d <;> simp [tyN, tyNs]
theorem kit_d {K : PySem.W.Frag} {d : D} (h : True) {t : String} (ht : t ∈ clsNs) : PySem.W.kitOne K (.type (tyN d)) (.type t) = some (isN (tyN d) t) := kit_ty (kit_all _ tyN_mem t ht)
theorem ty_rp {K : PySem.W.Frag} {F H : Hp} (e : Same F H) {v : V} {d : D} (h : Rp K F v d) : TyX K H v (.type (tyN d)) ∧ True := by
  cases h with
  | non => exact ⟨.base .non, trivial⟩
  | bl b => exact ⟨.base (.bl b), trivial⟩
  | int i => exact ⟨.base (.int i), trivial⟩
  | str x => exact ⟨.base (.str x), trivial⟩
  | lst hs _ => exact ⟨.base (.lst (e _ _ hs)), trivial⟩
  | tup hs _ =>
    refine ⟨?_, trivial⟩
    rcases hs with (hs | ⟨o, hs⟩) | ⟨o, its, n, hs, hc, _⟩
    · exact .base (.tup (e _ _ hs))
    · exact .fTuple (e _ _ hs)
    · exact .kTuple hs hc
  | dic _ _ h2 => exact ⟨.base (.dK (e _ _ h2)), trivial⟩
@[simp] def dIsi (t : String) (w : W) : W := fun e R => w e fun d => d ≠ .dict [] ∧ R (.bool (isN (tyN d) t))
section
variable {c : Amb} {H F H' : Hp}
theorem xd_isi {t : String} (ht : t ∈ clsNs) {w : W} : ∀ σ H Q, tD c (dIsi t w) σ H Q → tCB (rIsi c.K) (tCons (tD c w) (tCons (tC (.ty t)) tNil)) σ H Q := fun σ H Q ⟨e, F, H0, R, W, S, q, P⟩ =>
  ⟨e, F, H0, _, W, S, q, fun d v H1 F1 ⟨hd, r⟩ x1 rv => by
    obtain ⟨ty, nd⟩ := ty_rp x1.ok.sub (rv.dp hd)
    exact ⟨v, .ty t, _, _, _, rfl, .ty t, ty, kit_d nd ht, P _ _ H1 F1 r x1 .bl⟩⟩
/-- isinstance(x, (tuple, list)) -/
@[simp] def dIsi2 (t u : String) (w : W) : W := fun e R => w e fun d => d ≠ .dict [] ∧ R (.bool (isN (tyN d) t || isN (tyN d) u))
theorem xd_isi2 {t u : String} (ht : t ∈ clsNs) (hu : u ∈ clsNs) {w : W} : ∀ σ H Q, tD c (dIsi2 t u w) σ H Q → tCB (rIsiT c.K) (tCons (tD c w) (tCons (tTup (tCons (tC (.ty t)) (tCons (tC (.ty u)) tNil))) tNil)) σ H Q := fun σ H Q ⟨e, F, H0, R, W, S, q, P⟩ =>
  ⟨e, F, H0, _, W, S, q, fun d v H1 F1 ⟨hd, r⟩ x1 rv => ⟨len_le (by simp), fun p hp => by
    have x2 := Ext.loose x1.ok (.tup [.ty t, .ty u]) hp
    obtain ⟨ty, nd⟩ := ty_rp x2.ok.sub (rv.dp hd)
    refine ⟨v, p, _, _, [.type t, .type u], _, rfl, upd_same, .cons (.ty t) (.cons (.ty u) .nil), ty, kitAny_cons (r := isN (tyN d) t || isN (tyN d) u) (kit_d nd ht) (fun h => ?_) (fun h => by rw [h]; rfl), P _ _ _ _ r (x1.trans x2) .bl⟩
    rw [h, Bool.false_or]
    exact kitAny_cons (kit_d nd hu) (fun h => by rw [h]; exact kitAny_nil) (fun h => h)⟩⟩
end
/-! ### draws -/
theorem taken_ok {m : Int} {R : D → Prop} (h : 0 < m) (h2 : m < 1073741824) (k : ∀ v : Int, 0 ≤ v → v < m → R (.int v)) : f_law_taken [.dict [], .int m] R := ⟨m, rfl, h, h2, k⟩
@[simp] theorem taken_iff {m : Int} {R : D → Prop} : f_law_taken [.dict [], .int m] R ↔ 0 < m ∧ m < 1073741824 ∧ ∀ v : Int, 0 ≤ v → v < m → R (.int v) := by
  constructor
  · rintro ⟨m', e, h⟩
    simp at e
    subst e
    exact h
  · rintro ⟨h1, h2, h3⟩; exact ⟨m, rfl, h1, h2, h3⟩
theorem atI_in {α : Type} {l : List α} {v : Int} (h0 : 0 ≤ v) (h1 : v < l.length) : ∃ d, atI l v = some d ∧ d ∈ l := by
  obtain ⟨n, rfl⟩ : ∃ n : Nat, v = n := ⟨v.toNat, by omega⟩
  have hn : n < l.length := by omega
  exact ⟨l[n], atI_nat (List.getElem?_eq_getElem hn), List.getElem_mem hn⟩
end FW
/-! FWE: the law itself: its first statement makes the row. -/
namespace FW
open PySem PySem.Spec PyProof.Rows L2
section
variable {X : Cx} {g : Glb} {E : XK}
/-- the rest of the law, whatever the row's address is -/
def sAny (g : Glb) (E : XK) (w : WS) : TS := fun D σ H => ∃ (r a : Addr) (ns : List Int), sD ⟨g, r, a, ns⟩ E w D σ H
theorem pss_any {st : List Stmt} {w : WS} (h : ∀ r a ns, PSs X st (sD ⟨g, r, a, ns⟩ E w)) : PSs X st (sAny g E w) := ⟨fun pins s σ H D I ⟨r, a, ns, q⟩ => (h r a ns).run pins s σ H D I q⟩
end
def spLaw (g : Glb) : Sp := fun vs H Q _ => ∃ (a : Addr) (ns : List Int), vs = [.ref a] ∧ (∀ P ∈ g.Ps, H P = some (.tbl #[])) ∧ SqL g.K H a (ns.map V.int) ∧ ∀ H', Q (.bl true) H'
/-- where the row has been made: the rest may run -/
theorem law_start {g : Glb} {E : XK} {H : Hp} {a : Addr} {ns : List Int} {w : WS} {Q : VK} {n : Nat} (hP : ∀ P ∈ g.Ps, H P = some (.tbl #[])) (hs : SqL g.K H a (ns.map V.int)) (k : ∀ H', Q (.bl true) H')
    (hw : w { nx := fun _ => False, rt := fun d => d = .bool true } (.un :: .val (.dict []) :: List.replicate n .un)) : ∀ p, H p = none →
      sAny g E w { nx := fun _ H' => Q .non H', rt := Q } (some (.ref a) :: some (.ref p) :: List.replicate n none) (upd H p (.lst [.ref a, .int 0, .int 0, .int 0])) := fun p hp => by
  refine ⟨p, a, ns, .un :: .val (.dict []) :: List.replicate n .un, fun _ => none, upd H p (.lst [.ref a, .int 0, .int 0, .int 0]), fun _ => none, _, Ext.refl ?_, ?_, hw, ?_⟩
  · refine ⟨fun b o e => (by cases e), ⟨0, 0, 0, upd_same, Int.le_refl _, Int.le_refl _, by decide, ?_⟩, rfl, fun P h => ⟨⟨#[], ?_, trivial⟩, rfl⟩⟩
    · rcases hs with (h | ⟨o, h⟩) | h
      · exact .inl (.inl (by rw [upd_ne (ne_of_none h hp)]; exact h))
      · exact .inl (.inr ⟨o, by rw [upd_ne (ne_of_none h hp)]; exact h⟩)
      · exact .inr h
    · rw [upd_ne (ne_of_none (hP P h) hp)]; exact hP P h
  · have noE : ∀ (i : Nat) (b : Addr), (Sl.un :: Sl.val (.dict []) :: List.replicate n Sl.un)[i]? ≠ some (.exc b) := fun i b h => by
      match i with
      | 0 => cases h
      | 1 => cases h
      | i + 2 =>
        simp only [List.getElem?_cons_succ, List.getElem?_replicate] at h
        split at h <;> cases h
    have noF : ∀ (i : Nat) (k : Bool) (Fb : Hp) (d : D), (Sl.un :: Sl.val (.dict []) :: List.replicate n Sl.un)[i]? ≠ some (.fix k Fb d) := fun i k Fb d h => by
      match i with
      | 0 => cases h
      | 1 => cases h
      | i + 2 =>
        simp only [List.getElem?_cons_succ, List.getElem?_replicate] at h
        split at h <;> cases h
    have noO : ∀ (i : Nat) (o : Option Hp) (es : List D), (Sl.un :: Sl.val (.dict []) :: List.replicate n Sl.un)[i]? ≠ some (.ownO o es) := fun i o es h => by
      match i with
      | 0 => cases h
      | 1 => cases h
      | i + 2 =>
        simp only [List.getElem?_cons_succ, List.getElem?_replicate] at h
        split at h <;> cases h
    refine ⟨by simp, fun i d h => ?_, fun i o es h => absurd h (noO i o es), fun i j o _ es fs b _ h => absurd h (noO i o es), fun i b h => absurd h (noE i b), fun i k Fb d h => absurd h (noF i k Fb d)⟩
    match i with
    | 0 => cases h
    | 1 =>
      simp at h
      subst h
      exact ⟨_, rfl, .inr ⟨rfl, rfl⟩⟩
    | i + 2 =>
      simp only [List.getElem?_cons_succ, List.getElem?_replicate] at h
      split at h <;> cases h
  · refine ⟨fun _ _ _ _ z => z.elim, fun d v H' F' q _ rv => ?_, fun _ _ _ _ _ z => z.elim, fun _ _ _ _ z => z.elim, fun _ _ _ _ z => z.elim, fun _ _ _ z => z.elim, fun _ z => z.elim, fun _ _ _ _ z => z.elim, fun z => nomatch z⟩
    have q : d = .bool true := q
    subst q
    rw [rv.bl_inv]
    exact k H'
end FW
/-! FWX: defs that may raise: their promises, calls of them, raise. -/
namespace FW
open PySem PySem.Spec PyProof.Rows L2
abbrev Fx := List D → (D → Prop) → (Exc → Prop) → Prop
abbrev Fnx := List D → (List D → Prop) → (Exc → Prop) → Prop
section
variable (c : Amb) (H F : Hp)
def PostX (RX : Exc → Prop) (E : XK) : Prop := ∀ x H' F', RX x → Ext c H F H' F' → ExcAt c E H' x
def PostN (R : List D → Prop) (Q : VK) : Prop := ∀ ds p vs H' F', R ds → Ext c H F H' F' → H p = none → H' p = some (.lst vs) → F' p = none → p ≠ c.r → RpAll c.K F' vs ds → Q (.ref p) H'
end
def spX (g : Glb) (f : Fx) : Sp := fun vs H Q E => ∃ (c : Amb) (F : Hp) (ds : List D) (R : D → Prop) (RX : Exc → Prop), c.g = g ∧ Wok c H F ∧ RepVs c F vs ds ∧ f ds R RX ∧ Post c H F R Q ∧ PostX c H F RX E
def spNX (g : Glb) (f : Fnx) : Sp := fun vs H Q E => ∃ (c : Amb) (F : Hp) (ds : List D) (R : List D → Prop) (RX : Exc → Prop), c.g = g ∧ Wok c H F ∧ RepVs c F vs ds ∧ f ds R RX ∧ PostN c H F R Q ∧ PostX c H F RX E
/-- a def that may raise, called by its name -/
structure CalX (P : Program) (w : World) (K : PySem.W.Frag) (mg : Str → Option Value) (base : Heap) (k : Nat) (x : Str) (sp : Sp) : Prop where
  ex : ∃ (f : Addr) (fd : FuncData) (ps : List Str), FnOk P w K mg base (L2.CX P w) k f fd ps sp ∧ mg x = some (.ref f) ∧ PySem.W.keepIn K (.ref f) = true ∧ Binds K fd ps []
/-- an expression that may raise: De.ex is handed down -/
abbrev WXp := (Exc → Prop) → W
abbrev WAXp := (Exc → Prop) → WA
section
variable (c : Amb) (E : L2.St → XK)
def tDX (w : WXp) : TE := fun σ H Q => ∃ e F H0 R RX, Wok c H F ∧ RepS c H0 σ H F e ∧ w RX e R ∧ Post c H F R Q ∧ PostX c H F RX (E σ)
def tNX (w : WAXp) : TE := fun σ H Q => ∃ e F H0 R RX, Wok c H F ∧ RepS c H0 σ H F e ∧ w RX e R ∧ PostN c H F R Q ∧ PostX c H F RX (E σ)
end
section
variable {c : Amb} {E : L2.St → XK} {H F H0 F0 H1 F1 : Hp} {σ : L2.St} {X : Cx}
theorem PostX.ext {RX : Exc → Prop} {E : XK} (P : PostX c H F RX E) (x : Ext c H F H1 F1) : PostX c H1 F1 RX E := fun y H' F' r x' => P y H' F' r (x.trans x')
theorem PostN.ext {R : List D → Prop} {Q : VK} (P : PostN c H F R Q) (x : Ext c H F H1 F1) : PostN c H1 F1 R Q := fun ds p vs H' F' r x' h0 h1 h2 h3 k => P ds p vs H' F' r (x.trans x') (x.free h0) h1 h2 h3 k
theorem xdx_of {w : W} : ∀ σ H Q, tDX c E (fun _ => w) σ H Q → tD c w σ H Q := fun σ H Q ⟨e, F, H0, R, _, W, S, q, P, _⟩ => ⟨e, F, H0, R, W, S, q, P⟩
theorem xnx_of {w : WA} : ∀ σ H Q, tNX c E (fun _ => w) σ H Q → tN c w σ H Q := fun σ H Q ⟨e, F, H0, R, _, W, S, q, P, _⟩ => ⟨e, F, H0, R, W, S, q, P⟩
/-- a call whose exceptions go the def's own way -/
@[simp] def dCallX (f : Fx) (w : WA) : WXp := fun RX e R => w e fun ds => f ds R RX
@[simp] def nCallX (f : Fnx) (w : WA) : WAXp := fun RX e R => w e fun ds => f ds R RX
theorem xdx_call {f : Fx} {w : WA} : ∀ σ H Q, tDX c E (dCallX f w) σ H Q → tCallS (spX c.g f) E (tA c w) σ H Q := fun σ H Q ⟨e, F, H0, R, RX, W, S, q, P, PX⟩ =>
  ⟨e, F, H0, _, W, S, q, fun ds vs H1 F1 q1 x1 r1 => ⟨c, F1, ds, R, RX, rfl, x1.ok, r1, q1, P.ext x1, PX.ext x1⟩⟩
theorem xnx_call {f : Fnx} {w : WA} : ∀ σ H Q, tNX c E (nCallX f w) σ H Q → tCallS (spNX c.g f) E (tA c w) σ H Q := fun σ H Q ⟨e, F, H0, R, RX, W, S, q, P, PX⟩ =>
  ⟨e, F, H0, _, W, S, q, fun ds vs H1 F1 q1 x1 r1 => ⟨c, F1, ds, R, RX, rfl, x1.ok, r1, q1, P.ext x1, PX.ext x1⟩⟩
/-- a call that does not raise here -/
@[simp] def calm (f : Fx) : Fd := fun ds R => f ds R fun _ => False
@[simp] def calmN (f : Fnx) : Fn := fun ds R => f ds R fun _ => False
theorem xd_callC {f : Fx} {w : WA} : ∀ σ H Q, tD c (dCall (calm f) w) σ H Q → tCall (spX c.g f) [] E0 (tA c w) σ H Q := fun σ H Q ⟨e, F, H0, R, W, S, q, P⟩ =>
  ⟨e, F, H0, _, W, S, q, fun ds vs H1 F1 q1 x1 r1 => ⟨c, F1, ds, R, _, rfl, x1.ok, by rw [List.append_nil]; exact r1, q1, P.ext x1, fun _ _ _ z => z.elim⟩⟩
theorem xn_callC {f : Fnx} {w : WA} : ∀ σ H Q, tN c (nCall (calmN f) w) σ H Q → tCall (spNX c.g f) [] E0 (tA c w) σ H Q := fun σ H Q ⟨e, F, H0, R, W, S, q, P⟩ =>
  ⟨e, F, H0, _, W, S, q, fun ds vs H1 F1 q1 x1 r1 => ⟨c, F1, ds, R, _, rfl, x1.ok, by rw [List.append_nil]; exact r1, q1, PostN.ext (c := c) (F := F) P x1, fun _ _ _ z => z.elim⟩⟩
/-- a choice between such -/
@[simp] def dIfX (t : WT) (a b : WXp) : WXp := fun RX e R => t e fun x => if x = true then a RX e R else b RX e R
theorem xdx_if {t : WT} {a b : WXp} : ∀ σ H Q, tDX c E (dIfX t a b) σ H Q → tIf (tT c t) (tDX c E a) (tDX c E b) σ H Q := fun σ H Q ⟨e, F, H0, R, RX, W, S, q, P, PX⟩ =>
  ⟨e, F, H0, _, W, S, q, fun x H1 F1 q1 x1 => by
    cases x with
    | true => exact ⟨e, F1, H0, R, RX, x1.ok, S.ext W x1, by simpa using q1, P.ext x1, PX.ext x1⟩
    | false => exact ⟨e, F1, H0, R, RX, x1.ok, S.ext W x1, by simpa using q1, P.ext x1, PX.ext x1⟩⟩
/-- a new list is a list -/
@[simp] def dNX (w : WAXp) : WXp := fun RX e R => w RX e fun ds => R (.list ds)
theorem xdx_N {w : WAXp} : ∀ σ H Q, tDX c E (dNX w) σ H Q → tNX c E w σ H Q := fun σ H Q ⟨e, F, H0, R, RX, W, S, q, P, PX⟩ =>
  ⟨e, F, H0, _, RX, W, S, q, fun ds p vs H' F' r x h0 h1 h2 h3 k => Post.frozen P x h0 h1 h3 h2 k r, PX⟩
end
/-! ### calls -/
section
variable {X : Cx} {W : WX} {k j : Nat} {x : Str} {sp : Sp} {p pos : Pos} {e : Expr} {es : List Expr} {t : TA}
theorem pe_cx (c : CalX X.prog X.w X.K X.mg X.base k x sp) (hr : Room j X.A) (hk : k ≤ j) (hg : Gl X x) (tk : Takes X W) (ha : PA X (e :: es) t)
    (hdb : (x == ("__debug__" : Str)) = false := by decide) (he : starEach (e :: es) X.env = (false, eval e X.env) :: starEach es X.env := by rfl) (hpl : (backTo pos (starEach es X.env)).any (·.1) = false := by rfl) :
    PE X (.Call (.Name x p) (e :: es) [] pos) (tCallS sp (WE W) t) := by
  obtain ⟨f, fd, ps, F, hm, kp, b⟩ := c.ex
  exact pe_callS F (hr.mono hk) hg hm kp b (fun σ => passAt tk σ) ha hdb he hpl
theorem pe_c0 (c : CalX X.prog X.w X.K X.mg X.base k x sp) (hr : Room j X.A) (hk : k ≤ j) (hg : Gl X x) (ha : PA X (e :: es) t)
    (hdb : (x == ("__debug__" : Str)) = false := by decide) (he : starEach (e :: es) X.env = (false, eval e X.env) :: starEach es X.env := by rfl) (hpl : (backTo pos (starEach es X.env)).any (·.1) = false := by rfl) :
    PE X (.Call (.Name x p) (e :: es) [] pos) (tCall sp [] E0 t) := by
  obtain ⟨f, fd, ps, F, hm, kp, b⟩ := c.ex
  exact pe_call F (hr.mono hk) hg hm kp b .nil passL ha hdb he hpl
end
/-! ### statements -/
/-- the def's own wish of an exception -/
abbrev wishE (E : XK) : WX := fun cls d _ H => E cls d H
section
variable {c : Amb} {E : XK} {H F H0 F0 : Hp} {σ : L2.St} {X : Cx} {De : EndsD} {Dn : Ends}
theorem EndsOk.exc (K : EndsOk c E H0 F0 De Dn) (x : Ext c H0 F0 H F) : PostX c H F De.ex E := fun y H' F' r x' => K.ex y H' F' r (x.trans x')
@[simp] def dDropX (w : WXp) : WS := fun De e => w De.ex e fun _ => De.nx e
theorem xs_dropX {w : WXp} : ∀ Dn σ H, sD c E (dDropX w) Dn σ H → tDrop (tDX c (WE (wishE E)) w) Dn σ H := fun Dn σ H ⟨e, F, H0, F0, De, x, S, q, K⟩ =>
  ⟨e, F, H0, _, De.ex, x.ok, S, q, fun d v H' F' r x' rv => K.nx _ _ _ _ r (x.trans x') (S.ext x.ok x'), K.exc x⟩
@[simp] def dRetX (w : WXp) : WS := fun De e => w De.ex e De.rt
theorem xs_retX {w : WXp} : ∀ Dn σ H, sD c E (dRetX w) Dn σ H → tRet (tDX c (WE (wishE E)) w) Dn σ H := fun Dn σ H ⟨e, F, H0, F0, De, x, S, q, K⟩ =>
  ⟨e, F, H0, _, De.ex, x.ok, S, q, fun d v H' F' r x' rv => K.rt d v H' F' r (x.trans x') rv, K.exc x⟩
@[simp] def dRetLX (w : WAXp) : WS := fun De e => w De.ex e De.rn
theorem xs_retLX {w : WAXp} : ∀ Dn σ H, sD c E (dRetLX w) Dn σ H → tRet (tNX c (WE (wishE E)) w) Dn σ H := fun Dn σ H ⟨e, F, H0, F0, De, x, S, q, K⟩ =>
  ⟨e, F, H0, _, De.ex, x.ok, S, q, fun ds p vs H' F' r x' hp hp' hF hr k => K.rn ds p vs H' F' r (x.trans x') (x.free hp) hp' hF hr k, K.exc x⟩
@[simp] def dAsgX (i : Nat) (w : WXp) : WS := fun De e => w De.ex e fun d => De.nx (e.set i (.val d))
theorem xs_asgX {i : Nat} {w : WXp} : ∀ Dn σ H, sD c E (dAsgX i w) Dn σ H → tAsg (tDX c (WE (wishE E)) w) (gName i) Dn σ H := fun Dn σ H ⟨e, F, H0, F0, De, x, S, q, K⟩ =>
  ⟨e, F, H0, _, De.ex, x.ok, S, q, fun d v H' F' r x' rv => K.nx _ _ _ _ r (x.trans x') ((S.ext x.ok x').set_val i rv), K.exc x⟩
@[simp] def dOwnX (i : Nat) (w : WAXp) : WS := fun De e => w De.ex e fun ds => De.nx (e.set i (.own ds))
theorem xs_ownX {i : Nat} {w : WAXp} : ∀ Dn σ H, sD c E (dOwnX i w) Dn σ H → tAsg (tNX c (WE (wishE E)) w) (gName i) Dn σ H := fun Dn σ H ⟨e, F, H0, F0, De, x, S, q, K⟩ =>
  ⟨e, F, H0, _, De.ex, x.ok, S, q, fun ds p vs H' F' r x' hp hp' hF hr k => K.nx _ _ _ _ r (x.trans x') ((S.ext x.ok x').set_own i hp' hF (x.free hp) hr k fun j o es _ hj z => by
    obtain ⟨a, ws, h1, h2, _⟩ := S.ownO j o es hj
    rw [h1] at z
    cases z
    rw [hp] at h2; cases h2), K.exc x⟩
/-- raise C('..') -/
@[simp] def dRaise (n : Str) : WS := fun De _ => De.ex (n, none)
theorem xs_raise {n : Str} : ∀ Dn σ H, sD c E (dRaise n) Dn σ H → E (.ref (c.g.cls n)) none H := fun Dn σ H ⟨e, F, H0, F0, De, x, S, q, K⟩ => K.ex (n, none) H F q x
end
/-- a class of one's own over ValueError -/
structure ClsX (K : PySem.W.Frag) (mg : Str → Option Value) (cls : Str → Addr) (n : Str) : Prop where
  gP : mg n = some (.ref (cls n))
  xP : PySem.W.excIn K (cls n) He.veBase "ValueError.__new__" = true
  kP : PySem.W.keepIn K (.ref (cls n)) = true
  bP : PySem.W.subIn K (.ref (cls n)) (.type "BaseException") = some true
  tP : PySem.W.typeIn K (.ref (cls n)) = some (.type "type")
theorem ps_raiseD {X : Cx} {c : Amb} {E : XK} {n m : Str} {j : Nat} {p p2 pos pos2 : Pos} (hc : X.calm = true) (tk : Takes X (wishE E)) (T : ClsX X.K X.mg c.g.cls n) (hg : Gl X n) (hdb : (n == ("__debug__" : Str)) = false := by decide) :
    PS X (.Raise (some (.Call (.Name n p) [.Constant (.str m) j p2] [] pos)) none pos2) (sD c E (dRaise n)) :=
  ps_w (ps_raise hc tk (pmk_own PySem.F.excBase_ValueError T.xP T.gP T.kP (raises_own T.bP T.tP) hg hdb)) xs_raise
/-! ### defs -/
section
variable {P : Program} {w : World} {g : Glb} {mg : Str → Option Value} {base : Heap} {x : Str} {st : Stmt} {f : Addr} {fd : FuncData} {N ps : List Str} {k : Nat} {wb : WS}
theorem calX {f0 : Fx} (Fn : FunP g.K x st f fd) (mgf : mg x = some (.ref f)) (b : Binds g.K fd ps []) (S : FnScope N ps (defScope st)) (hlen : ∀ ds R RX, f0 ds R RX → ds.length = ps.length)
    (hb : ∀ (cdv : Value) (A : Around) (outer : List PySem.Env) (s : Shared) (H : Hp) (E : XK) (r a : Addr) (ns : List Int), Room k (A.deeper (envOfC x (defScope st) s.heap.objs.size f cdv)) →
      Takes (cxOf (L2.CX P w) P w g.K mg base N x (defScope st) f cdv A outer s H E) (wishE E) → PSs (cxOf (L2.CX P w) P w g.K mg base N x (defScope st) f cdv A outer s H E) (defBody st) (sD ⟨g, r, a, ns⟩ E wb))
    (hp : ∀ ds R RX, f0 ds R RX → wb { nx := fun _ => R .none, rt := R, ex := RX } (startD N ds)) : CalX P w g.K mg base (k + 1) x (spX g f0) := by
  obtain ⟨oc, od, dV, kV, doc, pm, an, cdv, ct, osl, rfl, lk, hcd, _, _⟩ := Fn.ex
  refine ⟨_, _, ps, fn_of lk hcd S (fun vs H Q E h => ?_) (fun A outer s H vs Q E hr h => ?_), mgf, Fn.kp, b⟩
  · obtain ⟨c, F, ds, R, RX, _, _, rv, h, _⟩ := h
    rw [rv.length]; exact hlen ds R RX h
  · obtain ⟨⟨g', r, a, ns⟩, F, ds, R, RX, hg, W, rv, h, P', PX⟩ := h
    have hg' : g' = g := hg
    subst hg'
    refine ⟨_, hb cdv A outer s H E r a ns hr (takes_of rfl rfl rfl rfl), startD N ds, F, H, F, _, Ext.refl W, rep_start rv, hp ds R RX h, ?_⟩
    exact ⟨fun e σ H' F' q x S' => P' _ _ H' F' q x .non, fun d v H' F' q x rv => P' d v H' F' q x rv, fun _ _ _ _ _ z => z.elim, fun _ _ _ _ z => z.elim, fun _ _ _ _ z => z.elim, fun y H' F' q x' => PX y H' F' q x', fun _ z => z.elim, fun _ _ _ _ z => z.elim, fun z => nomatch z⟩
theorem calNX {f0 : Fnx} (Fn : FunP g.K x st f fd) (mgf : mg x = some (.ref f)) (b : Binds g.K fd ps []) (S : FnScope N ps (defScope st)) (hlen : ∀ ds R RX, f0 ds R RX → ds.length = ps.length)
    (hb : ∀ (cdv : Value) (A : Around) (outer : List PySem.Env) (s : Shared) (H : Hp) (E : XK) (r a : Addr) (ns : List Int), Room k (A.deeper (envOfC x (defScope st) s.heap.objs.size f cdv)) →
      Takes (cxOf (L2.CX P w) P w g.K mg base N x (defScope st) f cdv A outer s H E) (wishE E) → PSs (cxOf (L2.CX P w) P w g.K mg base N x (defScope st) f cdv A outer s H E) (defBody st) (sD ⟨g, r, a, ns⟩ E wb))
    (hp : ∀ ds R RX, f0 ds R RX → wb { nx := fun _ => False, rt := fun _ => False, rn := R, ex := RX } (startD N ds)) : CalX P w g.K mg base (k + 1) x (spNX g f0) := by
  obtain ⟨oc, od, dV, kV, doc, pm, an, cdv, ct, osl, rfl, lk, hcd, _, _⟩ := Fn.ex
  refine ⟨_, _, ps, fn_of lk hcd S (fun vs H Q E h => ?_) (fun A outer s H vs Q E hr h => ?_), mgf, Fn.kp, b⟩
  · obtain ⟨c, F, ds, R, RX, _, _, rv, h, _⟩ := h
    rw [rv.length]; exact hlen ds R RX h
  · obtain ⟨⟨g', r, a, ns⟩, F, ds, R, RX, hg, W, rv, h, P', PX⟩ := h
    have hg' : g' = g := hg
    subst hg'
    refine ⟨_, hb cdv A outer s H E r a ns hr (takes_of rfl rfl rfl rfl), startD N ds, F, H, F, _, Ext.refl W, rep_start rv, hp ds R RX h, ?_⟩
    exact ⟨fun _ _ _ _ z => z.elim, fun _ _ _ _ z => z.elim, fun ds p vs H' F' q x h0 h1 h2 h3 kk => P' ds p vs H' F' q x h0 h1 h2 h3 kk, fun _ _ _ _ z => z.elim, fun _ _ _ _ z => z.elim, fun y H' F' q x' => PX y H' F' q x', fun _ z => z.elim, fun _ _ _ _ z => z.elim, fun z => nomatch z⟩
end
end FW
/-! FWN: enumerate over a tuple. -/
namespace FWN
open PySem
open PySem.Sem (wp)
open AutoSeq1 (wpAny_loadPart')
theorem meets_enum1 {v : Value} {o : Obj} {H : Heap → Prop} (B : Begins v o H) :
    Meets (Builtin.«enumerate.__new__» ⟨[.type "enumerate", v], []⟩) (fun _ R s => H s.heap ∧
      R (.ok (.ret (.ref (s.heap.push o).objs.size))) { s with heap := (s.heap.push o).push { cls := .type "enumerate", data := .fields #[.none, .bool false, .ref s.heap.objs.size, rawInt 0, .none, .none] } }) :=
  .of_wp fun prog w A R s h => by
    obtain ⟨hp, g, d, tk, os⟩ := s; obtain ⟨h1, h⟩ := h
    have hsub := sub_enumerate
    have q1 : ∀ {A' : Around} {E : Value → Shared → Prop} {Q : Value → Shared → Prop}, Q (.ref hp.objs.size) ⟨hp.push o, g, d, tk, os⟩ → wpAny (model prog w) A' (pyIter v) Q E ⟨hp, g, d, tk, os⟩ :=
      fun q => B.iter prog w _ _ ⟨hp, g, d, tk, os⟩ _ h1 q
    wp_walk using q1
    refine wpAny_stack_any fun st => wpAny_pure ?_
    split
    · rename_i c _ _ _ _ _
      cases (c == Value.type "enumerate")
      · wp_walk using q1
        exact ⟨_, rfl, h⟩
      · wp_walk using q1
        exact ⟨_, rfl, h⟩
    · wp_walk using q1
      exact ⟨_, rfl, h⟩
section
variable {prog : Program} {w : World} {A : Around} {E : Value → Shared → Prop} {s : Shared}
theorem enum_begins1 {v : Value} {o : Obj} {H : Heap → Prop} {Q : Value → Shared → Prop} (B : Begins v o H) (h1 : H s.heap)
    (h : ∀ h', IsEnum h' (s.heap.objs.size + 1) s.heap.objs.size 0 .none → h'.get? s.heap.objs.size = some o → h'.objs.size = s.heap.objs.size + 2 →
      (∀ b o, s.heap.get? b = some o → h'.get? b = some o) → Q (.ref (s.heap.objs.size + 1)) { s with heap := h' }) :
    wpAny (model prog w) A (call (.type "enumerate") [v]) Q E s := by
  refine callType_new F.called_enumerate (by decide) (F.typeCall_enumerate_1 _) (F.newCall_enumerate_1 _) (fun obj => F.args_object_init_2 obj _) F.entry_enumerate_new
    (meets_enum1 B) ⟨h1, ?_⟩
  have hz : (s.heap.push o).objs.size = s.heap.objs.size + 1 := Heap.size_push ..
  show _ ∧ _
  rw [hz]
  have he : IsEnum ((s.heap.push o).push { cls := .type "enumerate", data := .fields #[.none, .bool false, .ref s.heap.objs.size, rawInt 0, .none, .none] }) (s.heap.objs.size + 1) s.heap.objs.size 0 .none := by
    have := Heap.get?_push_size (s.heap.push o) (o := { cls := .type "enumerate", data := .fields #[.none, .bool false, .ref s.heap.objs.size, rawInt 0, .none, .none] }) rfl
    rw [hz] at this; exact this
  refine ⟨⟨_, he, rfl⟩, h _ he (Heap.get?_push_of_some _ (Heap.get?_push_size _ B.free)) (by rw [Heap.size_push, hz]) fun b o x => Heap.get?_push_of_some _ (Heap.get?_push_of_some _ x)⟩
end
section
variable {prog : Program} {w : World} {A : Around} {E : Value → Shared → Prop} {s : Shared}
theorem enum_endT {e it l : Addr} {i : Nat} {items : Array Value} {old : Value} {Q : Option Value → Shared → Prop} (hh : A.handled = none)
    (he : IsEnum s.heap e it i old) (hit : s.heap.IsTupleIter it l i) (hl : s.heap.IsTuple l items) (hx : items[i]? = none)
    (hQ : ∀ h', Heap.ExtBut it s.heap h' → Q none { s with heap := h' }) : wpAny (model prog w) A (pyNext (.ref e)) Q E s := by
  have hT : s.TypeIs (.ref e) "enumerate" := ⟨_, he, rfl⟩
  unfold pyNext
  refine wpAny_bind (wpAny_attempt (wpAny_callSpecial?_slot (name := Str.ofString "__next__") hT F.slot_enumerate_next
    (wpAny_call_entry F.slot_enumerate_next hT F.entry_enumerate_next ?_ (F.args_enumerate_next_1 _))))
  show wpAny _ _ (field (.ref e) 2 >>= _) _ _ _
  refine wpAny_bind (wpAny_field he rfl (x := .ref it) rfl ?_)
  refine wpAny_bind (wpAny_nextOf_tuple_end hh hit hl hx fun h' x he' hx' => ?_)
  obtain ⟨o, ho, hc⟩ := hx'
  refine wpAny_bind (wpAny_isInstance (T := "StopIteration") (b := true) ⟨o, ho, hc⟩ isSubtype_stop ?_)
  exact wpAny_pure (hQ _ he')
end
open PySem.Spec PyProof.Rows L2
/-- the tuple at a, each item in a new pair with its number -/
def IteT (K : PySem.W.Frag) (a : Addr) : It :=
  ⟨fun i H => ∃ (xs : List V) (x : V), SqT K H a xs ∧ xs[i]? = some x, fun i H v H' => ∃ T x, v = .ref T ∧ H T = none ∧ H' = upd H T (.tup [.int (i : Nat), x]) ∧ ∀ xs, SqT K H a xs → xs[i]? = some x, fun i H => ∃ xs : List V, SqT K H a xs ∧ xs.length ≤ i⟩
theorem turn_enumT {P : Program} {w : World} {K : PySem.W.Frag} {elts : List Expr} {kk : Nat} {tpos : Pos} (a e it : Addr) :
    Turn P w K (.Tuple elts kk tpos) (IteT K a) [e, it] e (fun i h => (∃ old, IsEnum h e it ((i : Nat) : Int) old) ∧ h.IsTupleIter it a i ∧ e ≠ it ∧ e ≠ a ∧ a ≠ it) where
  mem := by simp
  obj := fun i h st b hb => by
    obtain ⟨⟨old, he⟩, ⟨o, ho, hc, hd⟩, _⟩ := st
    have e' : b = e ∨ b = it := by simpa using hb
    rcases e' with z | z
    · rw [z]; exact ⟨_, he, fun v q => nomatch q⟩
    · rw [z]; exact ⟨o, ho, fun v q => by rw [hd] at q; cases q⟩
  keep := fun i h h' st k => let ⟨⟨old, he⟩, hi, hne⟩ := st; ⟨⟨old, k e (by simp) _ he⟩, hi.at fun o q => k it (by simp) o q, hne⟩
  item := by
    intro X hP hw hK hc i pins s σ H E I hf st hg
    subst hP hw hK
    obtain ⟨⟨old, he⟩, hit, hne, hea, hai⟩ := st
    obtain ⟨xs, x, hq, hx⟩ := hg
    obtain ⟨its, rv, p, hz⟩ := I.tuple hq
    obtain ⟨u, hu, ru⟩ := rv.get hx
    have hel : e < s.heap.objs.size := Heap.lt_size he
    have hil : it < s.heap.objs.size := by obtain ⟨_, q, _⟩ := hit; exact Heap.lt_size q
    have hu' : its.toArray[i]? = some u := by simpa using hu
    have hlt : i < its.toArray.size := (Array.getElem?_eq_some_iff.mp hu').1
    refine wpAny_pyNext_enum_itemC (Draws.tuple (A := X.A.in1) (I.ok.hd hc) it a hai its.toArray) he (c := (i : Int)) ⟨hit, p⟩ hlt hne (by simp; exact ⟨hne, hea⟩) fun y h' tk hy ho hit' hT hsz hk => ?_
    have ey : y = u := Option.some.inj (hy.symm.trans hu')
    subst ey
    refine ⟨_, rfl, wpAny_letOwnedTupleGo_enum (s := { s with heap := h', toks := tk + 1 }) ho fun h'' he' sb => ?_⟩
    have hT2 : h''.get? s.heap.objs.size = some { cls := .type "tuple", data := .seq #[.int i tk, y] } := (sb.2 _ (Nat.ne_of_gt hel)).trans hT
    have new : ObjOk X.prog X.w (upd H s.heap.objs.size (.tup [.int (i : Nat), x])) h'' s.heap.objs.size (.tup [.int (i : Nat), x]) :=
      ⟨by show 2 ≤ sizeLine; decide, [.int i tk, y], .cons ⟨_, rfl⟩ (.cons ru .nil), ⟨_, hT2, rfl, _, rfl⟩⟩
    have I1 : Inv X pins σ (upd H s.heap.objs.size (.tup [.int (i : Nat), x])) { s with heap := h'', toks := tk + 1 } :=
      I.turnedNew (ch := [e, it]) (fun b ob hb q => (sb.2 b (fun z => hb (by simp [z]))).trans (hk b ob (fun z => hb (by simp [z])) (fun z => hb (by simp [z])) q)) hf (Nat.le_refl _) new
    refine ⟨.ref s.heap.objs.size, _, I1, rfl, ⟨_, x, rfl, I.hok.fresh (Nat.le_refl _), rfl, fun ys hy => by rw [I.tuple_inj hy hq]; exact hx⟩, ⟨⟨y, ?_⟩, hit'.1.at fun o q => (sb.2 it (Ne.symm hne)).trans q, hne, hea, hai⟩, fun b hb => ?_⟩
    · have e1 : ((i + 1 : Nat) : Int) = (i : Int) + 1 := by omega
      rw [e1]; exact he'
    · have hb' : b < s.heap.objs.size := by
        have e' : b = e ∨ b = it := by simpa using hb
        rcases e' with z | z
        · rw [z]; exact hel
        · rw [z]; exact hil
      rw [upd_ne (Nat.ne_of_lt hb')]
      exact (hf b hb).1
  done := by
    intro X hP hw hK hc i pins s σ H E I hf st hg
    subst hP hw hK
    obtain ⟨⟨old, he⟩, hit, hne, hea, hai⟩ := st
    obtain ⟨xs, hq, hx⟩ := hg
    obtain ⟨its, rv, p, hz⟩ := I.tuple hq
    obtain ⟨f0, f1, f2, f3, f4, f5⟩ := hf it (by simp)
    have hl := rv.length
    exact enum_endT (I.ok.hd hc) he hit p (by simp; omega) fun h' eb => ⟨rfl, I.turned (t' := s.toks) (fun b o hb q => eb b o hb q) f0 f1 f3 f4 f5⟩
  self := fun A i s Q E st h => let ⟨⟨_, he⟩, _⟩ := st; wpAny_pyIter_enum he h
def iEnumT (K : PySem.W.Frag) (ta : TA) : TI := fun σ H R => ta σ H fun vs H1 => ∃ a xs, vs = [.ref a] ∧ SqT K H1 a xs ∧ R (IteT K a) H1
theorem pi_enumT {X : Cx} {e : Expr} {ta : TA} {p pos tpos : Pos} {elts : List Expr} {kk : Nat} (hg : Gl X "enumerate") (hm : X.mg "enumerate" = none) (ha : PA X [e] ta) (hs : starEach [e] X.env = [(false, eval e X.env)] := by rfl) :
    PI X (.Tuple elts kk tpos) (.Call (.Name "enumerate" p) [e] [] pos) (iEnumT X.K ta) := by
  refine ⟨fun pins s σ H R I h => ?_⟩
  refine Call_ (ld_blt I hg hm boot_enumerate (PyProof.Rows.callWith_type1 (thn (ha.run pos pins s σ H _ I h) fun us s1 ⟨vs, H1, I1, r1, q1⟩ => ?_) hs rfl))
  obtain ⟨a, xs, ex, hq, q⟩ := q1
  subst ex
  cases r1 with
  | cons r rr =>
    cases rr
    cases r
    obtain ⟨its, rv, p', hz⟩ := I1.tuple hq
    have hal : a < s1.heap.objs.size := by obtain ⟨_, q, _⟩ := p'; exact Heap.lt_size q
    refine enum_begins1 (begins_tuple a its.toArray) p' fun h' he hit hsz hk => wpAny_pyIter_enum he ?_
    have I2 : Inv X pins σ H1 { s1 with heap := h' } := I1.kept (t' := s1.toks) hk
    refine ⟨s1.heap.objs.size + 1, [s1.heap.objs.size + 1, s1.heap.objs.size], _, _, H1, rfl, I2, turn_enumT a (s1.heap.objs.size + 1) s1.heap.objs.size, ⟨⟨.none, he⟩, ⟨_, hit, rfl, rfl⟩, Nat.succ_ne_self _, Nat.ne_of_gt (Nat.lt_succ_of_lt hal), Nat.ne_of_lt hal⟩, fun b hb => ?_, q⟩
    have e' : b = s1.heap.objs.size + 1 ∨ b = s1.heap.objs.size := by simpa using hb
    have hle : s1.heap.objs.size ≤ b := by
      rcases e' with z | z
      · rw [z]; exact Nat.le_add_right _ _
      · rw [z]; exact Nat.le_refl _
    exact I1.fpOk hle (I1.hok.fresh hle)
end FWN
namespace FW
open PySem PySem.Spec PyProof.Rows L2
section
variable {c : Amb} {H F : Hp} {σ : L2.St}
/-- what enumerate gives -/
def enumD (xs : List D) : List D := xs.zipIdx.map fun p => .tuple [.int (p.2 : Nat), p.1]
theorem enumD_get {xs : List D} {i : Nat} {d : D} (h : (enumD xs)[i]? = some d) : ∃ x, xs[i]? = some x ∧ d = .tuple [.int (i : Nat), x] := by
  unfold enumD at h
  rw [List.getElem?_map, List.getElem?_zipIdx] at h
  cases q : xs[i]? with
  | none => rw [q] at h; cases h
  | some x =>
    rw [q] at h
    simp at h
    exact ⟨x, rfl, h.symm⟩
@[simp] theorem enumD_length {xs : List D} : (enumD xs).length = xs.length := by simp [enumD]
@[simp] def rdEnum : List D → (List D → Prop) → Prop := fun ds R => ∃ xs, ds = [.tuple xs] ∧ R (enumD xs)
@[simp] def iEnm (w : WA) : WA := fun e R => w e fun ds => rdEnum ds R
theorem yields_enum {a : Addr} {vs : List V} {xs : List D} (h : SqT c.K F a vs) (k : RpAll c.K F vs xs) : Yields c (FWN.IteT c.K a) F (enumD xs) where
  go := fun i H G hi W s => by
    rw [enumD_length, ← dpAll_length k] at hi
    exact ⟨vs, vs[i], same_t (s.trans W.sub) h, List.getElem?_eq_getElem hi⟩
  yld := fun i d H G x H' hd W s ⟨T, y, ex, hT, eH, z⟩ => by
    subst ex
    subst eH
    obtain ⟨u, hu, rfl⟩ := enumD_get hd
    obtain ⟨d', h1, h2⟩ := dpAll_get k (z vs (same_t (s.trans W.sub) h))
    rw [hu] at h1
    cases h1
    exact ⟨_, Ext.laid W _ hT, repTup upd_same (dpAll_same (upd_keep (W.newF hT)) _ _ (.cons (.int _) (.cons (dp_same s _ _ h2) .nil)))⟩
  stop := fun H G W s => ⟨vs, same_t (s.trans W.sub) h, by rw [enumD_length]; exact Nat.le_of_eq (dpAll_length k)⟩
theorem xi_enum {w : WA} : ∀ σ H R, tI c (iEnm w) σ H R → FWN.iEnumT c.K (tA c w) σ H R := fun σ H R ⟨e, F, H0, Rd, W, S, q, P⟩ =>
  ⟨e, F, H0, _, W, S, q, fun ds vs H' F' ⟨xs, hd, r⟩ x rv => by
    subst hd
    obtain ⟨v, rfl, r1⟩ := reps1 rv
    obtain ⟨a, us, rfl, h1, h2⟩ := r1.tup_inv
    exact ⟨a, us, rfl, same_t x.ok.sub h1, P _ _ H' F' r x (yields_enum h1 h2)⟩⟩
end
/-- a comprehension over items told by a list of one's own -/
theorem lcRun_map {α : Type} {g : D → (Sg → Prop) → Prop} {wt : WT} {we : W} {R : List D → Prop} {φ : α → D} (p : α → Bool) (f : α → D) : ∀ (l : List α) (acc : List D),
    (∀ a ∈ l, ∀ K : Option D → Prop, K (if p a = true then some (f a) else none) → g (φ a) fun e' => wt e' fun b => if b = true then we e' fun y => y ≠ .dict [] ∧ K (some y) else K none) → R (acc ++ (l.filter p).map f) → lcRun g wt we R (l.map φ) acc
  | [], acc, _, r => by simpa [lcRun] using r
  | a :: l, acc, ht, r => by
    rw [List.map_cons]
    unfold lcRun
    refine ht a List.mem_cons_self (fun o => match o with
      | some y => lcRun g wt we R (l.map φ) (acc ++ [y])
      | none => lcRun g wt we R (l.map φ) acc) ?_
    cases q : p a with
    | true =>
      refine lcRun_map p f l _ (fun b hb => ht b (List.mem_cons_of_mem _ hb)) ?_
      simpa [List.filter_cons, q] using r
    | false =>
      refine lcRun_map p f l _ (fun b hb => ht b (List.mem_cons_of_mem _ hb)) ?_
      simpa [List.filter_cons, q] using r
theorem enumD_map {α : Type} {φ : α → D} (l : List α) : enumD (l.map φ) = l.zipIdx.map fun p => .tuple [.int (p.2 : Nat), φ p.1] := by
  unfold enumD
  rw [List.zipIdx_map, List.map_map]
  rfl
end FW
/-! FWT: try: f(..) except C as n: suite, all that f lets out being caught. -/
namespace FW
open PySem PySem.Spec PyProof.Rows L2
theorem RepS.set_exc {c : Amb} {H0 H F : Hp} {σ : L2.St} {e : Sg} (S : RepS c H0 σ H F e) (i : Nat) (a : Addr) : RepS c H0 (σ.set i (some (.ref a))) H F (e.set i (.exc a)) where
  len := by simp [S.len]
  val := fun j d h => by
    by_cases hij : i = j
    · subst hij
      by_cases hl : i < e.length
      · rw [List.getElem?_set_self hl] at h; cases h
      · rw [List.getElem?_eq_none (by simpa using hl)] at h; cases h
    · rw [List.getElem?_set_ne hij] at h ⊢
      exact S.val j d h
  ownO := fun j o' ds h => by
    by_cases hij : i = j
    · subst hij
      by_cases hl : i < e.length
      · rw [List.getElem?_set_self hl] at h; cases h
      · rw [List.getElem?_eq_none (by simpa using hl)] at h; cases h
    · rw [List.getElem?_set_ne hij] at h ⊢
      exact S.ownO j o' ds h
  distO := fun j k o1 o2 ds es b hjk h1 h2 h3 h4 => by
    have f : ∀ (j : Nat) (o : Option Hp) (ds : List D), (e.set i (.exc a))[j]? = some (.ownO o ds) → i ≠ j := fun j o ds h z => by
      subst z
      by_cases hl : i < e.length
      · rw [List.getElem?_set_self hl] at h; cases h
      · rw [List.getElem?_eq_none (by simpa using hl)] at h; cases h
    have n1 := f j o1 ds h1
    have n2 := f k o2 es h2
    rw [List.getElem?_set_ne n1] at h1 h3
    rw [List.getElem?_set_ne n2] at h2 h4
    exact S.distO j k o1 o2 ds es b hjk h1 h2 h3 h4
  fix := fix_set S.fix fun _ _ _ z => nomatch z
  exc := fun j b h => by
    by_cases hij : i = j
    · subst hij
      by_cases hl : i < e.length
      · rw [List.getElem?_set_self hl] at h
        cases h
        rw [List.getElem?_set_self (by rw [S.len]; exact hl)]
      · rw [List.getElem?_eq_none (by simpa using hl)] at h; cases h
    · rw [List.getElem?_set_ne hij] at h ⊢
      exact S.exc j b h
/-- the ends of an except suite: its name goes -/
@[simp] def suiteEnds (i : Nat) (De : EndsD) : EndsD := { nx := fun e => De.nx (e.set i .un), rt := De.rt, rn := De.rn, bk := fun e => De.bk (e.set i .un), ct := fun e => De.ct (e.set i .un), ex := fun _ => False }
@[simp] def dTryAs (i : Nat) (names : List Str) (wb : WXp) (ws : Addr → Str → WS) : WS := fun De e =>
  wb (fun x => x.1 ∈ names ∧ x.2 = none ∧ ∀ a, ws a x.1 (suiteEnds i De) (e.set i (.exc a))) e fun _ => De.nx e
/-- the suite's reading: for each class -/
def tsD (c : Amb) (E : XK) (names : List Str) (ws : Addr → Str → WS) (a : Addr) (cls : Value) (d : Option Addr) : TS := fun Dn σ H => ∃ n, n ∈ names ∧ cls = .ref (c.g.cls n) ∧ d = none ∧ sD c E (ws a n) Dn σ H
section
variable {c : Amb} {E : XK} {X : Cx}
theorem pss_tsD {st : List Stmt} {names : List Str} {ws : Addr → Str → WS} {a : Addr} {cls : Value} {d : Option Addr} (h : ∀ n ∈ names, cls = .ref (c.g.cls n) → d = none → PSs X st (sD c E (ws a n))) : PSs X st (tsD c E names ws a cls d) :=
  ⟨fun pins s σ H D I ⟨n, hn, hc, hd, q⟩ => (h n hn hc hd).run pins s σ H D I q⟩
theorem xs_tryAs {i : Nat} {names : List Str} {wb : WXp} {ws : Addr → Str → WS} {cv : Value} {Wout : WX} (hm : ∀ n ∈ names, PySem.W.exmOne c.K (.ref (c.g.cls n)) cv = some true) : ∀ Dn σ H, sD c E (dTryAs i names wb ws) Dn σ H →
    tDrop (tDX c (WE (wAs c.K cv i (tsD c E names ws) Wout Dn)) wb) Dn σ H := fun Dn σ H ⟨e, F, H0, F0, De, x, S, q, K⟩ => by
  refine ⟨e, F, H0, _, _, x.ok, S, q, fun d v H' F' r x' rv => K.nx _ _ _ _ r (x.trans x') (S.ext x.ok x'), ?_⟩
  rintro ⟨n, k⟩ H' F' ⟨hn, hk, r⟩ x'
  have hk : k = none := hk
  subst hk
  refine ⟨true, hm n hn, fun _ a _ => ⟨n, hn, rfl, rfl, e.set i (.exc a), F', H0, F0, _, x.trans x', (S.ext x.ok x').set_exc i a, r a, ?_⟩, fun z => nomatch z⟩
  exact ⟨fun e2 σ2 H2 F2 q2 x2 S2 => K.nx _ _ _ _ q2 x2 (S2.set_un i none), fun d v H2 F2 q2 x2 rv => K.rt d v H2 F2 q2 x2 rv, fun ds p vs H2 F2 q2 x2 h0 h1 h2 h3 kk => K.rn ds p vs H2 F2 q2 x2 h0 h1 h2 h3 kk,
    fun e2 σ2 H2 F2 q2 x2 S2 => K.bk _ _ _ _ q2 x2 (S2.set_un i none), fun e2 σ2 H2 F2 q2 x2 S2 => K.ct _ _ _ _ q2 x2 (S2.set_un i none), fun _ _ _ z => z.elim, fun _ z => z.elim, fun _ _ _ _ z => z.elim, fun z => nomatch z⟩
/-- isinstance(e, C), e the exception that the suite holds -/
@[simp] def dIsE (a : Addr) (i : Nat) (b : Bool) : W := fun e R => e[i]? = some (.exc a) ∧ R (.bool b)
theorem xd_isE {a D : Addr} {i : Nat} {b : Bool} {cv : Value} {v : V} (hv : ∀ u, RelV v u → u = cv) (hk : PySem.W.kitOne c.K (.ref D) cv = some b) : ∀ σ H Q, tD c (dIsE a i b) σ H Q → tCB (rIsE c.K D a) (tCons (tVar i) (tCons (tC v) tNil)) σ H Q := fun σ H Q ⟨e, F, H0, R, W, S, ⟨h, q⟩, P⟩ =>
  ⟨.ref a, S.exc i a h, v, cv, b, rfl, hv, hk, P.here W q .bl⟩
theorem xd_isER {a D C : Addr} {i : Nat} {b : Bool} (hk : PySem.W.kitOne c.K (.ref D) (.ref C) = some b) : ∀ σ H Q, tD c (dIsE a i b) σ H Q → tCB (rIsE c.K D a) (tCons (tVar i) (tCons (tC (.ref C)) tNil)) σ H Q := xd_isE (v := .ref C) (cv := .ref C) (fun _ h => h) hk
theorem xd_isET {a D : Addr} {i : Nat} {b : Bool} {t : String} (hk : PySem.W.kitOne c.K (.ref D) (.type t) = some b) : ∀ σ H Q, tD c (dIsE a i b) σ H Q → tCB (rIsE c.K D a) (tCons (tVar i) (tCons (tC (.ty t)) tNil)) σ H Q := xd_isE (v := .ty t) (cv := .type t) (fun _ h => h) hk
end
end FW
/-! FWM: tuple * int. -/
namespace FW
open PySem PySem.Spec PyProof.Rows L2
theorem dpAll_repl {K : PySem.W.Frag} {F : Hp} {vs : List V} {ds : List D} (h : RpAll K F vs ds) : ∀ n : Nat, RpAll K F (List.replicate n vs).flatten (List.replicate n ds).flatten
  | 0 => .nil
  | n + 1 => by
    rw [List.replicate_succ, List.replicate_succ, List.flatten_cons, List.flatten_cons]
    exact dpAll_app h (dpAll_repl h n)
@[simp] def rdRepT : D → D → (D → Prop) → Prop := fun x y R => ∃ xs k, x = .tuple xs ∧ y = .int k ∧ xs ≠ [] ∧ 2 ≤ k ∧ k ≤ 1000 ∧ xs.length ≤ 1000 ∧ R (.tuple (List.replicate k.toNat xs).flatten)
theorem od_repT {c : Amb} : OpD c (rRepT c.K) rdRepT := by
  rintro H F x y d e R Q W rx ry ⟨xs, k, rfl, rfl, hne, h2, h3, h4, r⟩ P
  obtain ⟨a, vs, rfl, g1, g2⟩ := rx.tup_inv
  have l1 := dpAll_length g2
  refine ⟨a, k, vs, rfl, ry.int_inv, same_t W.sub g1, fun z => ?_, h2, h3, by omega, P.newTup W (dpAll_repl g2 _) r⟩
  subst z
  cases g2
  exact hne rfl
theorem cut_to (l : List Int) {n : Nat} (h : n ≤ l.length) : cutD (l.map PyData.int) none (some (n : Int)) = (l.take n).map PyData.int := by
  unfold cutD
  rw [HT.sIx_nat, HT.sIx_none, List.length_map, Nat.min_eq_left h, List.map_take]
  rfl
theorem cut_from (l : List Int) {n : Nat} (h : n < l.length) : cutD (l.map PyData.int) (some ((n : Int) + 1)) none = (l.drop (n + 1)).map PyData.int := by
  have z : ((n : Int) + 1) = ((n + 1 : Nat) : Int) := by omega
  unfold cutD
  rw [z, HT.sIx_nat, HT.sIx_none, List.length_map, Nat.min_eq_left h, List.map_drop]
  exact List.take_of_length_le (by simp)
/-- a for over what is numbered -/
theorem forRun_ix {wg : WG} {wb : WS} {De : EndsD} {φ : Nat → D} {n : Nat} (I : Nat → Sg → Prop) (ht : ∀ (k : Nat) (e : Sg) (N : Sg → Prop), k < n → I k e → (∀ e2, I (k + 1) e2 → N e2) → wg (φ k) e fun e' => wb { De with nx := N, ct := N, bk := De.nx, base := fun _ => False, pin := false } e')
    (he : ∀ e, I n e → De.nx e) (e : Sg) (h : I 0 e) : forRun wg wb De ((List.range n).map φ) e := by
  have key : ∀ (m k : Nat) (e : Sg), k + m = n → I k e → forRun wg wb De (((List.range n).map φ).drop k) e := by
    intro m
    induction m with
    | zero =>
      intro k e hk h
      have : k = n := by omega
      subst this
      rw [List.drop_of_length_le (by simp)]
      exact he e h
    | succ m ih =>
      intro k e hk h
      have hlt : k < ((List.range n).map φ).length := by simp; omega
      rw [drop_at hlt]
      have e1 : ((List.range n).map φ)[k] = φ k := by simp
      rw [e1]
      exact ht k e _ (by omega) h fun e2 h2 => ih (k + 1) e2 (by omega) h2
  have := key n 0 e (by omega) h
  simpa using this
end FW
/-! FWU0: min of a list whose items are compared by what the heap holds (tuples). -/
namespace FWU
open PySem
open Sem (wp)
/-- comparisons that hold while what stood in h0 stands -/
def CmpH (prog : Program) (w : World) (A : Around) (h0 : Heap) (P : Nat → Value → Prop) (bt : Nat → Nat → Bool) : Prop :=
  ∀ i j vi vj (s : Shared) (Q E : Value → Shared → Prop), (∀ b o, h0.get? b = some o → s.heap.get? b = some o) → P i vi → P j vj → Q (.bool (bt i j)) s → wpAny (model prog w) A (richCompare .Lt vi vj) Q E s
section
variable {prog : Program} {w : World} {A : Around} {R : Result → Shared → Prop} {I : Addr} {fp wr : List Addr} {n : Nat} {P : Nat → Value → Prop} {St : Nat → Heap → Prop} {h0 : Heap} {bt : Nat → Nat → Bool} {S : Addr}
abbrev mlist (vs : Array Value) (c : Nat) : Obj := { cls := .type "list", dict := none, data := .seq vs c, slots := #[] }
/-- all that is told behind the loop -/
def MinEnd (R : Result → Shared → Prop) (wr : List Addr) (S : Addr) (P : Nat → Value → Prop) (k : Nat) (s : Shared) : Prop :=
  ∀ v h' tk, P k v → (∀ b o, b ∉ wr → b ≠ S → s.heap.get? b = some o → h'.get? b = some o) → R (.ok (.ret v)) { s with heap := h', toks := tk }
theorem min_turns (W : Walks prog w A.in1 I fp wr n P St) (hcmp : CmpH prog w A.in1 h0 P bt) (hSf : S ∉ fp) (h0w : ∀ b o, h0.get? b = some o → b ∉ wr ∧ b ≠ S) :
    ∀ (k j : Nat) (s : Shared) (vb : Value) (c : Nat), n - (j + 1) = k → j + 1 ≤ n → St (j + 1) s.heap → P (argBest bt j) vb → s.heap.get? S = some (mlist #[vb, vb] c) →
      (∀ b o, h0.get? b = some o → s.heap.get? b = some o) → MinEnd R wr S P (argBest bt (n - 1)) s → codeAny (model prog w) A (.builtin "min.loop" ⟨[.ref I, .none, .ref S], []⟩) R s := by
  have nw : S ∉ wr := fun q => hSf (W.sub _ q)
  intro k
  induction k with
  | zero =>
    intro j s vb c e1 e2 a1 a2 a3 a4 a5
    have e3 : j + 1 = n := by omega
    refine codeAny_builtin F.entry_min_loop ?_
    rw [Around.under_plainId F.plain_min_loop _]
    show wpAny (model prog w) A.in1 (seqItems? (.ref S) >>= _) _ _ s; refine wpAny_bind (wpAny_seqItems a3 rfl ?_)
    show wpAny (model prog w) A.in1 (tryCatch (pyNext (.ref I)) _ >>= _) _ _ s; refine wpAny_bind (wpAny_tryCatch (W.done s _ _ (e3 ▸ a1) fun h' tk kp => ?_))
    show wpAny (model prog w) A.in1 (updateSeq S (fun _ => #[]) >>= _) _ _ _; refine wpAny_bind ?_; refine wpAny_updateSeq (kp S _ nw a3) rfl (wpAny_bind (wpAny_letGo (wpAny_pure ?_)))
    exact a5 vb _ tk (by rw [← e3]; exact a2) fun b o x y z => (Heap.get?_update_other _ _ (Ne.symm y)).trans (kp b o x z)
  | succ k ih =>
    intro j s vb c e1 e2 a1 a2 a3 a4 a5
    have lt : j + 1 < n := by omega
    refine codeAny_builtin F.entry_min_loop ?_
    rw [Around.under_plainId F.plain_min_loop _]
    show wpAny (model prog w) A.in1 (seqItems? (.ref S) >>= _) _ _ s; refine wpAny_bind (wpAny_seqItems a3 rfl ?_)
    show wpAny (model prog w) A.in1 (tryCatch (pyNext (.ref I)) _ >>= _) _ _ s; refine wpAny_bind (wpAny_tryCatch (W.item (j + 1) s _ _ lt a1 fun v h' tk pv st' kp => ?_))
    have kS := kp S _ nw a3
    have k0 : ∀ b o, h0.get? b = some o → h'.get? b = some o := fun b o q => kp b o (h0w b o q).1 (a4 b o q)
    show wpAny (model prog w) A.in1 (tryCatch (holding [v, v] (richCompare .Lt v vb >>= _)) _ >>= _) _ _ _; refine wpAny_bind (wpAny_tryCatch (wpAny_holding (wpAny_bind (hcmp (j + 1) (argBest bt j) v vb _ _ _ k0 pv a2 ?_))))
    refine wpAny_bind (wpAny_holding (wpAny_truthy_bool ?_)); refine wpAny_bind (wpAny_letGo (wpAny_pure ?_))
    by_cases q : bt (j + 1) (argBest bt j) = true
    · have e4 : argBest bt (j + 1) = j + 1 := if_pos q
      simp only [q, if_true]
      refine wpAny_bind ?_; refine wpAny_updateSeq kS rfl (wpAny_bind (wpAny_letGo (wpAny_pure ⟨plainId_quiet F.plain_min_loop _, ?_⟩)))
      refine ih (j + 1) _ v _ (by omega) lt (W.frame _ _ _ st' fun b x o z => ?_) (by rw [e4]; exact pv) (Heap.get?_update_self _ kS rfl) (fun b o x => ?_) fun v' h2 tk2 x y => ?_
      · exact (Heap.get?_update_other _ _ (fun (z : S = b) => hSf (z ▸ x))).trans z
      · exact (Heap.get?_update_other _ _ (Ne.symm (h0w b o x).2)).trans (k0 b o x)
      · exact a5 v' h2 tk2 x fun b o x1 x2 x3 => y b o x1 x2 ((Heap.get?_update_other _ _ (Ne.symm x2)).trans (kp b o x1 x3))
    · have e4 : argBest bt (j + 1) = argBest bt j := if_neg q
      simp only [q, Bool.false_eq_true, if_false]
      refine wpAny_bind (wpAny_letGo (wpAny_pure ⟨plainId_quiet F.plain_min_loop _, ?_⟩))
      exact ih (j + 1) _ vb c (by omega) lt st' (by rw [e4]; exact a2) kS k0 fun v' h2 tk2 x y => a5 v' h2 tk2 x fun b o x1 x2 x3 => y b o x1 x2 (kp b o x1 x3)
theorem min_first (W : Walks prog w A.in1 I fp wr n P St) (hcmp : CmpH prog w A.in1 h0 P bt) (hSf : S ∉ fp) (h0w : ∀ b o, h0.get? b = some o → b ∉ wr ∧ b ≠ S) (hn : 0 < n) {s : Shared} {c : Nat} (a1 : St 0 s.heap) (a3 : s.heap.get? S = some (mlist #[] c))
    (a4 : ∀ b o, h0.get? b = some o → s.heap.get? b = some o) (a5 : MinEnd R wr S P (argBest bt (n - 1)) s) : codeAny (model prog w) A (.builtin "min.loop" ⟨[.ref I, .none, .ref S], []⟩) R s := by
  have nw : S ∉ wr := fun q => hSf (W.sub _ q)
  refine codeAny_builtin F.entry_min_loop ?_
  rw [Around.under_plainId F.plain_min_loop _]
  show wpAny (model prog w) A.in1 (seqItems? (.ref S) >>= _) _ _ s; refine wpAny_bind (wpAny_seqItems a3 rfl ?_)
  show wpAny (model prog w) A.in1 (tryCatch (pyNext (.ref I)) _ >>= _) _ _ s; refine wpAny_bind (wpAny_tryCatch (W.item 0 s _ _ hn a1 fun v h' tk pv st' kp => ?_))
  have kS := kp S _ nw a3
  show wpAny (model prog w) A.in1 (updateSeq S (fun _ => #[v, v]) >>= _) _ _ _; refine wpAny_bind ?_; refine wpAny_updateSeq kS rfl (wpAny_pure ⟨plainId_quiet F.plain_min_loop _, ?_⟩)
  refine min_turns W hcmp hSf h0w _ 0 _ v _ rfl hn (W.frame _ _ _ st' fun b x o z => ?_) pv (Heap.get?_update_self _ kS rfl) (fun b o x => ?_) fun v' h2 tk2 x y => ?_
  · exact (Heap.get?_update_other _ _ (fun (z : S = b) => hSf (z ▸ x))).trans z
  · exact (Heap.get?_update_other _ _ (Ne.symm (h0w b o x).2)).trans (kp b o (h0w b o x).1 (a4 b o x))
  · exact a5 v' h2 tk2 x fun b o x1 x2 x3 => y b o x1 x2 ((Heap.get?_update_other _ _ (Ne.symm x2)).trans (kp b o x1 x3))
end
section
variable {prog : Program} {w : World} {A : Around} {E : Value → Shared → Prop} {s : Shared}
theorem min_list {l : Addr} {its : Array Value} {bt : Nat → Nat → Bool} {Q : Value → Shared → Prop} (hh : A.handled = none) (hl : s.heap.IsList l its) (hn : 0 < its.size) (hcmp : CmpH prog w A.in1 s.heap (fun i v => its[i]? = some v) bt)
    (h : ∀ v h' tk, its[argBest bt (its.size - 1)]? = some v → (∀ b o, s.heap.get? b = some o → h'.get? b = some o) → Q v { s with heap := h', toks := tk }) : wpAny (model prog w) A (call (.builtin "min") [.ref l]) Q E s := by
  refine call_function_tree F.kind_min F.plain_min F.entry_min (F.args_min1 _) ?_
  show wpAny (model prog w) A.in1 (Builtin.Builtins.bindParams "min" ["key", "default"] 0 ⟨[], []⟩ >>= _) _ _ s; refine wpAny_bind (wpAny_of_eq (show Builtin.Builtins.bindParams "min" ["key", "default"] 0 ⟨[], []⟩ = pure [none, none] from rfl) (wpAny_bind (wpAny_pure ?_)))
  refine wpAny_bind (L2.iter_anyList (A := A.in1) hl fun s2 e st fpOk ne => ?_)
  subst e
  refine wpAny_bind (wpAny_newObj_type ?_)
  have hlt : l < s.heap.objs.size := let ⟨_, e, _⟩ := hl; Heap.lt_size e
  have sz : (s.heap.push { cls := .type "list_iterator", data := .fields #[.ref l, .int 0 0] }).objs.size = s.heap.objs.size + 1 := Heap.size_push ..
  have W := Walks.list (prog := prog) (w := w) (A := A.in1) hh s.heap.objs.size l ne its
  refine wpAny_pure ⟨plainId_quiet F.plain_min_loop _, ?_⟩
  refine min_first (S := (s.heap.push { cls := .type "list_iterator", data := .fields #[.ref l, .int 0 0] }).objs.size) W hcmp (fun q => Nat.lt_irrefl _ (fpOk _ q)) (fun b o q => ?_) hn (W.frame _ _ _ st fun b _ o e => Heap.get?_push_of_some _ e) (Heap.get?_push_size _ rfl) (fun b o q => ?_) fun v h' tk pv kp => ?_
  · have hb := Heap.lt_size q
    refine ⟨fun z => ?_, fun z => ?_⟩
    · rw [List.mem_singleton.mp z] at hb; exact Nat.lt_irrefl _ hb
    · rw [z, sz] at hb; exact Nat.lt_irrefl _ (Nat.lt_of_succ_lt hb)
  · exact Heap.get?_push_of_some _ (Heap.get?_push_of_some _ q)
  · refine h v h' tk pv fun b o q => ?_
    have hb := Heap.lt_size q
    refine kp b o (fun z => ?_) (fun z => ?_) (Heap.get?_push_of_some _ (Heap.get?_push_of_some _ q))
    · rw [List.mem_singleton.mp z] at hb; exact Nat.lt_irrefl _ hb
    · rw [z, sz] at hb; exact Nat.lt_irrefl _ (Nat.lt_of_succ_lt hb)
end
theorem argBest_mem (bt : Nat → Nat → Bool) : ∀ k, argBest bt k ≤ k
  | 0 => Nat.le_refl 0
  | k + 1 => by
    show (if bt (k + 1) (argBest bt k) then k + 1 else argBest bt k) ≤ k + 1
    have := argBest_mem bt k
    split <;> omega
/-- by an order: none is better -/
theorem argBest_best (lt : Nat → Nat → Bool) (irr : ∀ i, lt i i = false) (as : ∀ i j, lt i j = true → lt j i = false) (tr2 : ∀ i j k, lt j i = false → lt k j = false → lt k i = false) :
    ∀ k j, j ≤ k → lt j (argBest lt k) = false
  | 0, j, h => by
    have : j = 0 := by omega
    subst this
    exact irr 0
  | k + 1, j, h => by
    have ih := argBest_best lt irr as tr2 k
    show lt j (if lt (k + 1) (argBest lt k) then k + 1 else argBest lt k) = false
    by_cases q : lt (k + 1) (argBest lt k) = true
    · rw [if_pos q]
      by_cases z : j = k + 1
      · rw [z]; exact irr _
      · exact tr2 (k + 1) (argBest lt k) j (as _ _ q) (ih j (by omega))
    · rw [if_neg q]
      by_cases z : j = k + 1
      · rw [z]; simpa using q
      · exact ih j (by omega)
end FWU
/-! FWU: min of pairs, sum, abs, reversed, [::-1], zip of lists; tests that look into a list of one's own. -/
namespace FW
open PySem PySem.Spec PyProof.Rows L2
/-! ### min of a list of pairs of ints -/
def ltP2 (p q : Int × Int) : Bool := if p.1 = q.1 then decide (p.2 < q.2) else decide (p.1 < q.1)
def rMinP (K : PySem.W.Frag) : List V → Hp → VK → Prop := fun vs H Q => ∃ (a : Addr) (xs : List V) (k : Nat → Int × Int), vs = [V.ref a] ∧ SqL K H a xs ∧ 0 < xs.length ∧
  (∀ i x, xs[i]? = some x → ∃ t, x = V.ref t ∧ SqT K H t [.int (k i).1, .int (k i).2]) ∧ ∀ (i : Nat) x, xs[i]? = some x → (∀ j, j < xs.length → ltP2 (k j) (k i) = false) → Q x H
section
variable {X : Cx}
theorem cr_minP (hc : X.calm = true) (hu : X.A.units + 64 < cLine) : CallR X (.builtin "min") (rMinP X.K) := by
  intro pins s σ H vs us Q I r h
  obtain ⟨a, xs, k, rfl, hs, h0, hx, q⟩ := h
  obtain ⟨its, rv, hl, _⟩ := I.list hs
  rw [Vals.ref1 r]
  have hlen : its.toArray.size = xs.length := by rw [List.size_toArray]; exact rv.length.symm
  have at_ : ∀ (i : Nat) v, its.toArray[i]? = some v → ∃ x, xs[i]? = some x ∧ RelV x v := fun i v e => by
    have e' : its[i]? = some v := by simpa using e
    have hi : i < xs.length := by rw [rv.length]; exact (List.getElem?_eq_some_iff.mp e').1
    obtain ⟨u, hu, ru⟩ := rv.get (List.getElem?_eq_getElem hi)
    rw [e'] at hu
    cases hu
    exact ⟨_, List.getElem?_eq_getElem hi, ru⟩
  have cmp : FWU.CmpH X.prog X.w X.A.in1 s.heap (fun i v => its.toArray[i]? = some v) (fun i j => ltP2 (k i) (k j)) := by
    intro i j vi vj s2 Q2 E2 keep hi hj hq
    obtain ⟨x, ex, rx⟩ := at_ i vi hi
    obtain ⟨y, ey, ry⟩ := at_ j vj hj
    obtain ⟨t, rfl, ht⟩ := hx i x ex
    obtain ⟨t2, rfl, ht2⟩ := hx j y ey
    obtain rfl : vi = Value.ref t := rx
    obtain rfl : vj = Value.ref t2 := ry
    obtain ⟨i1, r1, p1, _⟩ := I.tuple ht
    obtain ⟨i2, r2, p2, _⟩ := I.tuple ht2
    have z1 : IntsAre i1.toArray.toList [(k i).1, (k i).2] := intsAre_of (ns := [(k i).1, (k i).2]) r1
    have z2 : IntsAre i2.toArray.toList [(k j).1, (k j).2] := intsAre_of (ns := [(k j).1, (k j).2]) r2
    have k1 : IsTup s2.heap t i1.toArray := let ⟨o, e, z⟩ := p1; ⟨o, keep _ _ e, z⟩
    have k2 : IsTup s2.heap t2 i2.toArray := let ⟨o, e, z⟩ := p2; ⟨o, keep _ _ e, z⟩
    have hu2 : X.A.in1.units < cLine := by show X.A.units + 1 < cLine; omega
    have lx : HT.lexLt [(k i).1, (k i).2] [(k j).1, (k j).2] = ltP2 (k i) (k j) := by
      unfold ltP2
      rw [HT.lexLt_cons, HT.lexLt_cons, HT.lexLt_nil_nil]
      by_cases c1 : (k i).1 = (k j).1
      · rw [if_pos c1, if_pos c1]
        by_cases c2 : (k i).2 = (k j).2
        · rw [if_pos c2, c2]; simp
        · rw [if_neg c2]
      · rw [if_neg c1, if_neg c1]
    have hq : Q2 (Value.bool (ltP2 (k i) (k j))) s2 := hq
    rw [← lx] at hq
    exact HT.lt_tupInts k1 k2 z1 z2 hu2 hq
  refine FWU.min_list (I.ok.hd hc) hl.isList (by rw [hlen]; exact h0) cmp fun v h' tk pv kp => ?_
  have le := FWU.argBest_mem (fun i j => ltP2 (k i) (k j)) (its.toArray.size - 1)
  generalize hb : PySem.argBest (fun i j => ltP2 (k i) (k j)) (its.toArray.size - 1) = b at pv le
  obtain ⟨x, ex, rx⟩ := at_ b v pv
  refine ⟨x, H, I.kept kp, rx, q b x ex fun j hj => ?_⟩
  rw [← hb]
  refine FWU.argBest_best (fun i j => ltP2 (k i) (k j)) (fun i => ?_) (fun i j => ?_) (fun i j l => ?_) _ j (by omega)
  · simp [ltP2]
  · unfold ltP2; intro h1; split at h1 <;> split <;> simp_all <;> omega
  · unfold ltP2; intro h1 h2; split at h1 <;> split at h2 <;> split <;> simp_all <;> omega
end
def pairsD (ps : List (Int × Int)) : List D := ps.map fun p => PyData.tuple [.int p.1, .int p.2]
def rdMinP : List D → (D → Prop) → Prop := fun ds R => ∃ ps : List (Int × Int), ds = [.list (pairsD ps)] ∧ ps ≠ [] ∧ ∀ m ∈ ps, (∀ y ∈ ps, ltP2 y m = false) → R (.tuple [.int m.1, .int m.2])
section
variable {c : Amb} {E : XK} {H F H0 F0 H1 F1 : Hp} {σ : L2.St} {X : Cx}
theorem cd_minP : CallD c (rMinP c.K) rdMinP := by
  rintro H F vs ds R Q W rv ⟨ps, rfl, hne, r⟩ P
  obtain ⟨v, rfl, q⟩ := reps1 rv
  obtain ⟨a, ws, rfl, h1, h2⟩ := q.list_inv
  have hl : ws.length = ps.length := by rw [dpAll_length h2]; simp [pairsD]
  refine ⟨a, ws, fun i => ps.getD i (0, 0), rfl, SqL.of (W.sub _ _ h1), ?_, fun i x hx => ?_, fun i x hx hb => ?_⟩
  · rw [hl]; exact List.length_pos_iff.mpr hne
  · obtain ⟨d, e1, e2⟩ := dpAll_get h2 hx
    have hi : i < ps.length := by rw [← hl]; exact (List.getElem?_eq_some_iff.mp hx).1
    have e3 : d = .tuple [.int ps[i].1, .int ps[i].2] := by
      unfold pairsD at e1
      rw [List.getElem?_map, List.getElem?_eq_getElem hi] at e1
      exact (Option.some.inj e1).symm
    subst e3
    cases e2 with
    | tup hs ha =>
      have := dpAll_ints_inv [ps[i].1, ps[i].2] _ ha
      subst this
      have e4 : ps.getD i (0, 0) = ps[i] := by rw [List.getD_eq_getElem?_getD, List.getElem?_eq_getElem hi]; rfl
      simp only [e4]
      exact ⟨_, rfl, same_t W.sub hs⟩
  · obtain ⟨d, e1, e2⟩ := dpAll_get h2 hx
    have hi : i < ps.length := by rw [← hl]; exact (List.getElem?_eq_some_iff.mp hx).1
    have e3 : d = .tuple [.int ps[i].1, .int ps[i].2] := by
      unfold pairsD at e1
      rw [List.getElem?_map, List.getElem?_eq_getElem hi] at e1
      exact (Option.some.inj e1).symm
    subst e3
    refine P.here W (r ps[i] (List.getElem_mem hi) fun y hy => ?_) (.inl e2)
    obtain ⟨j, hj, rfl⟩ := List.getElem_of_mem hy
    have := hb j (by rw [hl]; exact hj)
    simp only [List.getD_eq_getElem?_getD, List.getElem?_eq_getElem hi, List.getElem?_eq_getElem hj, Option.getD_some] at this
    exact this
/-! ### sum, abs -/
def rdSum : List D → (D → Prop) → Prop := fun ds R => ∃ ns : List Int, ds = [.list (ns.map .int)] ∧ R (.int ns.sum)
theorem cd_sum : CallD c (rSum c.K) rdSum := by
  rintro H F vs ds R Q W rv ⟨ns, rfl, r⟩ P
  obtain ⟨v, rfl, q⟩ := reps1 rv
  obtain ⟨a, ws, rfl, h1, h2⟩ := q.list_inv
  have e := dpAll_ints_inv ns ws h2
  subst e
  exact ⟨a, ns, rfl, SqL.of (W.sub _ _ h1), P.here W r .int⟩
def absI (i : Int) : Int := if i < 0 then -i else i
def rdAbs : List D → (D → Prop) → Prop := fun ds R => ∃ i, ds = [.int i] ∧ R (.int (absI i))
theorem cd_abs : CallD c (fun xs H Q => ∃ i, xs = [.int i] ∧ Q (.int (if i < 0 then -i else i)) H) rdAbs := by
  rintro H F vs ds R Q W rv ⟨i, rfl, r⟩ P
  exact ⟨i, repVs_ints_inv (l := [i]) rv, P.here W r .int⟩
@[simp] theorem rdAbs_iff {i : Int} {R : D → Prop} : rdAbs [.int i] R ↔ R (.int (absI i)) := by
  constructor
  · rintro ⟨a, e, h⟩; simp at e; rw [e]; exact h
  · intro h; exact ⟨i, rfl, h⟩
@[simp] theorem rdSum_iff {ns : List Int} {R : D → Prop} : rdSum [.list (ns.map .int)] R ↔ R (.int ns.sum) := by
  constructor
  · rintro ⟨a, e, h⟩; simp at e; rw [e]; exact h
  · intro h; exact ⟨ns, rfl, h⟩
@[simp] theorem rdMaxL_iff {ns : List Int} {R : D → Prop} : rdMaxL [.list (ns.map .int)] R ↔ 0 < ns.length ∧ ∀ m, m ∈ ns → (∀ y, y ∈ ns → y ≤ m) → R (.int m) := by
  constructor
  · rintro ⟨a, e, h⟩; simp at e; rw [e]; exact h
  · intro h; exact ⟨ns, rfl, h⟩
@[simp] theorem rdMinL_iff {ns : List Int} {R : D → Prop} : rdMinL [.list (ns.map .int)] R ↔ 0 < ns.length ∧ ∀ m, m ∈ ns → (∀ y, y ∈ ns → m ≤ y) → R (.int m) := by
  constructor
  · rintro ⟨a, e, h⟩; simp at e; rw [e]; exact h
  · intro h; exact ⟨ns, rfl, h⟩
/-- a for: what holds between its turns; what follows a turn is hidden -/
theorem forRun_go {wg : WG} {wb : WS} {De : EndsD} (I : List D → Sg → Prop) (ht : ∀ (d : D) (ds : List D) (e : Sg) (N : Sg → Prop), I (d :: ds) e → (∀ e2, I ds e2 → N e2) → wg d e fun e' => wb { De with nx := N, ct := N, bk := De.nx, base := fun _ => False, pin := false } e') (he : ∀ e, I [] e → De.nx e) :
    ∀ ds e, I ds e → forRun wg wb De ds e := forRun_inv I (fun d ds e h k => ht d ds e _ h k) he
/-! ### x[::-1] of a list -/
@[simp] def dRevL (w : W) : W := fun e R => w e fun d => ∃ ds, d = .list ds ∧ R (.list ds.reverse)
theorem xd_revL {w : W} : ∀ σ H Q, tD c (dRevL w) σ H Q → tRevL c.K (tD c w) σ H Q := fun σ H Q ⟨e, F, H0, R, W, S, q, P⟩ =>
  ⟨e, F, H0, _, W, S, q, fun d v H1 F1 ⟨ds, hd, r⟩ x1 rv => by
    subst hd
    obtain ⟨a, vs, rfl, h1, h2⟩ := rv.list_inv
    exact ⟨a, vs, rfl, SqL.of (x1.ok.sub _ _ h1), (P.ext x1).newLst x1.ok (dpAll_rev h2) r⟩⟩
/-! ### for x in reversed(a list or a tuple) -/
@[simp] def iRev (w : W) : WA := fun e R => w e fun d => ∃ ds, IsSeq d ds ∧ R ds.reverse
theorem yields_rev {a : Addr} {vs : List V} {ds : List D} (h : F a = some (.lst vs)) (k : RpAll c.K F vs ds) : Yields c (Itv c.K a vs.length) F ds.reverse where
  go := fun i H G hi W s => by
    have hl := dpAll_length k
    rw [List.length_reverse] at hi
    exact ⟨by omega, vs, vs[vs.length - 1 - i]'(by omega), SqL.of (W.sub _ _ (s _ _ h)), List.getElem?_eq_getElem _⟩
  yld := fun i d H G x H' hd W s ⟨e, y⟩ => by
    subst e
    have hl := dpAll_length k
    have hx := y vs (SqL.of (W.sub _ _ (s _ _ h)))
    obtain ⟨d', h1, h2⟩ := dpAll_get k hx
    have hi : i < ds.length := by rw [← List.length_reverse]; exact (List.getElem?_eq_some_iff.mp hd).1
    rw [List.getElem?_reverse hi, ← hl, h1] at hd
    cases hd
    exact ⟨G, Ext.refl W, .inl (dp_same s _ _ h2)⟩
  stop := fun H G W s => by rw [List.length_reverse]; exact Nat.le_of_eq (dpAll_length k)
theorem yields_revT {a : Addr} {vs : List V} {ds : List D} (h : SqT c.K F a vs) (k : RpAll c.K F vs ds) : Yields c (RT.ItvT c.K a vs.length) F ds.reverse where
  go := fun i H G hi W s => by
    have hl := dpAll_length k
    rw [List.length_reverse] at hi
    exact ⟨by omega, vs, vs[vs.length - 1 - i]'(by omega), same_t (s.trans W.sub) h, List.getElem?_eq_getElem _⟩
  yld := fun i d H G x H' hd W s ⟨e, y⟩ => by
    subst e
    have hl := dpAll_length k
    have hx := y vs (same_t (s.trans W.sub) h)
    obtain ⟨d', h1, h2⟩ := dpAll_get k hx
    have hi : i < ds.length := by rw [← List.length_reverse]; exact (List.getElem?_eq_some_iff.mp hd).1
    rw [List.getElem?_reverse hi, ← hl, h1] at hd
    cases hd
    exact ⟨G, Ext.refl W, .inl (dp_same s _ _ h2)⟩
  stop := fun H G W s => by rw [List.length_reverse]; exact Nat.le_of_eq (dpAll_length k)
theorem xi_rev {w : W} : ∀ σ H R, tI c (iRev w) σ H R → RT.iRevA c.K (tD c w) σ H R := fun σ H R ⟨e, F, H0, Rd, W, S, q, P⟩ =>
  ⟨e, F, H0, _, W, S, q, fun d v H' F' ⟨ds, hd, r⟩ x rv => by
    cases hd with
    | lst =>
      obtain ⟨a, vs, rfl, h, k⟩ := rv.list_inv
      exact ⟨a, vs, rfl, .inl ⟨SqL.of (x.ok.sub _ _ h), P _ _ H' F' r x (yields_rev h k)⟩⟩
    | tup =>
      obtain ⟨a, vs, rfl, h, k⟩ := rv.tup_inv
      exact ⟨a, vs, rfl, .inr ⟨same_t x.ok.sub h, P _ _ H' F' r x (yields_revT h k)⟩⟩⟩
/-! ### zip of two lists -/
theorem yields_zipL {a b : Addr} {vs us : List V} {xs ys : List D} (h : F a = some (.lst vs)) (k : RpAll c.K F vs xs) (h' : F b = some (.lst us)) (k' : RpAll c.K F us ys) : Yields c (Itz c.K a b) F ((xs.zip ys).map fun p => .tuple [p.1, p.2]) where
  go := fun i H G hi W s => by
    have hl := dpAll_length k
    have hl' := dpAll_length k'
    simp at hi
    exact ⟨vs, us, vs[i]'(by omega), us[i]'(by omega), SqL.of (W.sub _ _ (s _ _ h)), SqL.of (W.sub _ _ (s _ _ h')), List.getElem?_eq_getElem _, List.getElem?_eq_getElem _⟩
  yld := fun i d H G x H' hd W s ⟨T, x1, x2, e, hT, hH, q1, q2⟩ => by
    subst e hH
    obtain ⟨d1, e1, r1⟩ := dpAll_get k (q1 vs (SqL.of (W.sub _ _ (s _ _ h))))
    obtain ⟨d2, e2, r2⟩ := dpAll_get k' (q2 us (SqL.of (W.sub _ _ (s _ _ h'))))
    have e3 : ((xs.zip ys).map fun p => PyData.tuple [p.1, p.2])[i]? = some (.tuple [d1, d2]) := by
      rw [List.getElem?_map, List.getElem?_zip_eq_some (z := (d1, d2)) |>.mpr ⟨e1, e2⟩]; rfl
    rw [hd] at e3
    cases e3
    exact ⟨_, Ext.laid W _ hT, repTup upd_same (.cons (dp_same (s.trans (upd_keep (W.newF hT))) _ _ r1) (.cons (dp_same (s.trans (upd_keep (W.newF hT))) _ _ r2) .nil))⟩
  stop := fun H G W s => by
    have hl := dpAll_length k
    have hl' := dpAll_length k'
    refine ⟨vs, us, SqL.of (W.sub _ _ (s _ _ h)), SqL.of (W.sub _ _ (s _ _ h')), ?_⟩
    simp
    omega
def rdZipL (ds : List D) (R : List D → Prop) : Prop := ∃ xs ys, ds = [.list xs, .list ys] ∧ R ((xs.zip ys).map fun p => .tuple [p.1, p.2])
@[simp] def iZipL (w : WA) : WA := fun e R => w e fun ds => rdZipL ds R
@[simp] theorem rdZipL_iff {xs ys : List D} {R : List D → Prop} : rdZipL [.list xs, .list ys] R ↔ R ((xs.zip ys).map fun p => .tuple [p.1, p.2]) := by
  constructor
  · rintro ⟨a, b, e, h⟩; simp at e; rw [e.1, e.2]; exact h
  · intro h; exact ⟨xs, ys, rfl, h⟩
theorem xi_zipL {w : WA} : ∀ σ H R, tI c (iZipL w) σ H R → RZ.iZipA c.K (tA c w) σ H R := fun σ H R ⟨e, F, H0, Rd, W, S, q, P⟩ =>
  ⟨e, F, H0, _, W, S, q, fun ds vs H' F' ⟨xs, ys, hd, r⟩ x rv => by
    subst hd
    obtain ⟨v, u, rfl, r1, r2⟩ := reps2 rv
    obtain ⟨a, us, rfl, h1, h2⟩ := r1.list_inv
    obtain ⟨b, ws, rfl, g1, g2⟩ := r2.list_inv
    exact ⟨a, b, us, ws, rfl, .inl ⟨SqL.of (x.ok.sub _ _ h1), SqL.of (x.ok.sub _ _ g1), P _ _ H' F' r x (yields_zipL h1 h2 g1 g2)⟩⟩⟩
/-! ### targets of any number of names -/
theorem wipe_get (σ : L2.St) : ∀ (vs : List Nat) (j : Nat), j < σ.length → (wipe σ vs)[j]? = if j ∈ vs then some none else σ[j]?
  | [], j, _ => by simp [L2.wipe]
  | v :: vs, j, hj => by
    unfold L2.wipe
    by_cases h : v = j
    · subst h
      rw [List.getElem?_set_self (by rw [wipe_length]; exact hj)]
      simp
    · rw [List.getElem?_set_ne h, wipe_get σ vs j hj]
      have : (j ∈ v :: vs) ↔ j ∈ vs := by
        rw [List.mem_cons]
        exact ⟨fun x => x.resolve_left fun z => h z.symm, .inr⟩
      simp only [this]
theorem wipe_eq {σ σ' : L2.St} {vs : List Nat} (hl : σ.length = σ'.length) (h : ∀ j, j ∉ vs → σ[j]? = σ'[j]?) : wipe σ vs = wipe σ' vs := by
  apply List.ext_getElem?
  intro j
  by_cases hj : j < σ.length
  · rw [wipe_get σ vs j hj, wipe_get σ' vs j (by omega)]
    by_cases q : j ∈ vs
    · rw [if_pos q, if_pos q]
    · rw [if_neg q, if_neg q, h j q]
  · rw [List.getElem?_eq_none (by rw [wipe_length]; omega), List.getElem?_eq_none (by rw [wipe_length]; omega)]
theorem gNames_wipe {vs0 : List Nat} : ∀ (is : List Nat) {xs : List V} {σ0 σ : L2.St} {H : Hp} {Q : L2.St → Hp → Prop}, (∀ i ∈ is, i ∈ vs0) → σ.length = σ0.length → (∀ j, j ∉ vs0 → σ[j]? = σ0[j]?) → gNames is xs σ H Q → gNames is xs σ H fun σ2 H2 => wipe σ2 vs0 = wipe σ0 vs0 ∧ Q σ2 H2
  | [], _, σ0, σ, _, _, _, hl, he, ⟨h, q⟩ => ⟨h, wipe_eq hl he, q⟩
  | i :: is, _, σ0, σ, _, _, hm, hl, he, ⟨x, r, h1, h2⟩ => ⟨x, r, h1, gNames_wipe is (fun j hj => hm j (List.mem_cons_of_mem _ hj)) (by rw [List.length_set]; exact hl) (fun j hj => by
      rw [List.getElem?_set_ne (fun (z : i = j) => hj (by rw [← z]; exact hm i List.mem_cons_self))]; exact he j hj) h2⟩
theorem wipe_wipe (σ : L2.St) (vs : List Nat) : wipe (wipe σ vs) vs = wipe σ vs := wipe_eq (wipe_length σ vs) fun j hj => by
  by_cases q : j < σ.length
  · rw [wipe_get σ vs j q, if_neg hj]
  · rw [List.getElem?_eq_none (by rw [wipe_length]; omega), List.getElem?_eq_none (by omega)]
theorem stores_names {K : PySem.W.Frag} {n : Nat} (is : List Nat) : Stores (gTup K n (gNames is)) is := fun v σ H Q ⟨a, xs, h1, h2, h3, h4⟩ =>
  ⟨a, xs, h1, h2, h3, by
    have := gNames_wipe (vs0 := is) is (σ0 := wipe σ is) (σ := wipe σ is) (fun _ h => h) rfl (fun _ _ => rfl) h4
    rw [wipe_wipe] at this
    exact this⟩
/-! ### a test that reads a list of one's own as data -/
@[simp] def bPeek (i : Nat) (w : WT) : WT := fun e R => ∃ ds, e[i]? = some (.own ds) ∧ w (e.set i (.val (.list ds))) R
/-- of what is frozen on the way, a test keeps nothing -/
theorem Ext.back {F1 F' H' : Hp} (W : Wok c H F) (s : Same F F1) (x : Ext c H F1 H' F') : Ext c H F H' F :=
  ⟨⟨fun b o e => x.ok.sub b o (x.grow b o (s b o e)), x.ok.row, W.rF, fun P h => ⟨(x.ok.tab P h).1, (W.tab P h).2⟩⟩, fun _ _ h => h, x.keep, fun _ h h' => absurd h h', x.pre⟩
theorem xt_peek {i : Nat} {w : WT} : ∀ σ H Q, tT c (bPeek i w) σ H Q → tT c w σ H Q := fun σ H Q ⟨e, F, H0, R, W, S, ⟨ds, h, q⟩, P⟩ => by
  obtain ⟨a, vs, h1, h2, h3, h4, h5, h6⟩ := S.own i ds h
  exact ⟨_, upd F a (.lst vs), H0, R, W.freeze h2 h5 (fun ps z => by cases z), S.frz h h1 h2 h3 h6, q, fun b H' F' r x => P b H' F r (Ext.back W (upd_keep h3) x)⟩
end
end FW
/-! FWV: [::-1] of a tuple. -/
namespace FWV
open PySem PySem.Spec PyProof.Rows L2
open HT (slicePart_)
section
variable {prog : Program} {w : World} {A : Around} {E : Value → Shared → Prop} {s : Shared}
theorem adjust_back (n : Nat) : Builtin.Slice.sliceAdjust none none (-1) (n : Int) = ((n : Int) - 1, -1) := rfl
theorem places_back (n : Nat) : Builtin.Slice.slicePlaces ((n : Int) - 1) (-1) (-1) = n := by
  unfold Builtin.Slice.slicePlaces
  rw [if_neg (by decide), show (- -1 : Int) = 1 by decide, Int.ediv_one]
  split <;> omega
theorem fm_congr {α β : Type} {f g : α → Option β} : ∀ l : List α, (∀ k ∈ l, f k = g k) → l.filterMap f = l.filterMap g
  | [], _ => rfl
  | a :: l, h => by
    rw [List.filterMap_cons, List.filterMap_cons, h a List.mem_cons_self, fm_congr l fun k hk => h k (List.mem_cons_of_mem _ hk)]
theorem pick_back (xs : Array Value) : ((List.range xs.size).filterMap fun (k : Nat) => xs[(((xs.size : Int) - 1) + (k : Int) * (-1)).toNat]?).toArray = xs.toList.reverse.toArray := by
  have e : (List.range xs.size).filterMap (fun (k : Nat) => xs[(((xs.size : Int) - 1) + (k : Int) * (-1)).toNat]?) = ((List.range xs.size).map fun k => xs.size - 1 - k).filterMap (xs[·]?) := by
    rw [List.filterMap_map]
    refine fm_congr _ fun k hk => ?_
    have := List.mem_range.mp hk
    have e2 : (((xs.size : Int) - 1) + (k : Int) * (-1)).toNat = xs.size - 1 - k := by omega
    show xs[(((xs.size : Int) - 1) + (k : Int) * (-1)).toNat]? = xs[xs.size - 1 - k]?
    rw [e2]
  rw [e, PySem.W.krv_range, List.filterMap_reverse, PySem.W.krv_all]
theorem applied_back {sl : Addr} {vl vu vs : Value} {n : Nat} {Q : Int × Int × Nat → Shared → Prop} (hs : s.heap.IsSliceOf sl vl vu vs) (pl : IsPart vl none) (pu : IsPart vu none) (ps : IsPart vs (some (-1))) (h : Q ((n : Int) - 1, -1, n) s) :
    wpAny (model prog w) A (Builtin.Slice.sliceApplied (.ref sl) (pure (n : Int))) Q E s := by
  obtain ⟨ob, e1, _, e3⟩ := id hs
  unfold Builtin.Slice.sliceApplied Builtin.Slice.sliceFields
  refine wpAny_bind (wpAny_bind (wpAny_field e1 e3 (x := vl) rfl (wpAny_bind (wpAny_field e1 e3 (x := vu) rfl (wpAny_bind (wpAny_field e1 e3 (x := vs) rfl (wpAny_pure ?_)))))))
  refine wpAny_bind (slicePart_ ps ?_)
  show wpAny _ _ (if ((-1 : Int) == 0) = true then _ else _) _ _ s
  rw [if_neg (by decide)]
  refine wpAny_bind (slicePart_ pl (wpAny_bind (slicePart_ pu (wpAny_bind (wpAny_pure (wpAny_pure ?_))))))
  have q : Q ((n : Int) - 1, -1, Builtin.Slice.slicePlaces ((n : Int) - 1) (-1) (-1)) s := by rw [places_back]; exact h
  exact q
theorem get_back {t sl : Addr} {items : Array Value} {vl vu vs : Value} {Q : Value → Shared → Prop} (ht : IsTup s.heap t items) (hs : s.heap.IsSliceOf sl vl vu vs) (pl : IsPart vl none) (pu : IsPart vu none) (ps : IsPart vs (some (-1)))
    (h : Q (.ref s.heap.objs.size) { s with heap := s.heap.push { cls := .type "tuple", data := .seq items.toList.reverse.toArray } }) (hsz : items.size ≤ sizeLine) : wpAny (model prog w) A (getItem (.ref t) (.ref sl)) Q E s := by
  have fits : sizeOk (.seq items.toList.reverse.toArray) := by
    show items.toList.reverse.toArray.size ≤ sizeLine
    simpa using hsz
  obtain ⟨ob, e1, e2, e3⟩ := id hs
  have tsl : s.TypeIs (.ref sl) "slice" := ⟨ob, e1, e2⟩
  unfold getItem
  try with_reducible refine wpAny_holding ?_
  first | refine wpAny_bind (wpAny_pure ?_) | skip
  refine wpAny_bind (wpAny_sequenceKey ht.typeIs (by decide) (wpAny_bind (wpAny_callSpecial?_slot (name := Str.ofString "__getitem__") ht.typeIs PyProof.Rows.slot_tuple_getitem
    (wpAny_call_entry PyProof.Rows.slot_tuple_getitem ht.typeIs entry_tuple_getitem ?_ (args_tuple_getitem _ _)))))
  show wpAny (model prog w) _ (Builtin.Tuple.tupleItemsOf (.ref t) >>= _) _ _ s
  refine wpAny_bind (tupleItemsOf_ ht (wpAny_bind (wpAny_typeOf tsl ?_)))
  rw [if_pos (by decide)]
  refine wpAny_bind (applied_back hs pl pu ps ?_)
  have no : ¬ ((((items.size : Int) - 1 == 0) && ((-1 : Int) == 1) && (items.size == items.size)) = true) := by
    rw [show ((-1 : Int) == 1) = false from rfl, Bool.and_false, Bool.false_and]
    exact Bool.false_ne_true
  show wpAny (model prog w) _ (if (((items.size : Int) - 1 == 0) && ((-1 : Int) == 1) && (items.size == items.size)) = true then _ else _) _ _ s
  rw [if_neg no, pick_back]
  first
    | exact wpAny_bind (m := Builtin.Tuple.tupleExact _) (wpAny_newObj_type (wpAny_pure ⟨_, rfl, wpAny_pure h⟩) fits)
    | exact wpAny_bind (wpAny_bind (m := Builtin.Tuple.tupleExact _) (wpAny_newObj_type (wpAny_pure ⟨_, rfl, wpAny_pure h⟩) fits))
    | exact wpAny_bind (wpAny_bind (m := Builtin.Tuple.tupleExact _) (wpAny_newObj_type (wpAny_pure (wpAny_pure ⟨_, rfl, wpAny_pure h⟩)) fits))
end
def tRevT (K : PySem.W.Frag) (te : TE) : TE := fun σ H Q => te σ H fun x H1 => ∃ a xs, x = .ref a ∧ SqT K H1 a xs ∧ ∀ p, H1 p = none → Q (.ref p) (upd H1 p (.tup xs.reverse))
section
variable {X : Cx}
theorem pe_revT {e : Expr} {te : TE} {k : Nat} {p1 p2 p3 pos : Pos} (he : PE X e te) : PE X (.Subscript e (.Slice none none (some (.UnaryOp .USub (.Constant (.int 1) k p1) p2)) p3) pos) (tRevT X.K te) := by
  refine ⟨fun pins s σ H Q I h => Subscript_ (thn (he.run pins s σ H _ I h) fun v s1 ⟨x, H1, I1, rx, z⟩ => ?_)⟩
  obtain ⟨a, xs, rfl, hx, q⟩ := z
  cases rx
  have st : PO X (some (.UnaryOp .USub (.Constant (.int 1) k p1) p2)) (tPart (tUn (rU fun i => .int (-i)) (tC (.int 1)))) := po_some (pe_un un_neg pe_int)
  refine wpAny_Slice (thn (po_none.run pins s1 σ H1 (fun o G => o = none ∧ G = H1) I1 ⟨rfl, rfl⟩) fun vl s2 ⟨_, _, I2, pl, eo, eG⟩ => ?_)
  subst eo eG
  refine thn (po_none.run pins s2 σ _ (fun o G => o = none ∧ G = _) I2 ⟨rfl, rfl⟩) fun vu s3 ⟨_, _, I3, pu, eo, eG⟩ => ?_
  subst eo eG
  refine thn (st.run pins s3 σ _ (fun o G => o = some (-1) ∧ G = _) I3 ⟨1, rfl, -1, rfl, rfl, rfl⟩) fun vs s4 ⟨_, H4, I4, ps, eo, eG⟩ => ?_
  subst eo eG
  have J : Inv X pins σ _ { s4 with heap := s4.heap.push { cls := .type "slice", data := .fields #[vl, vu, vs] } } := I4.kept (t' := s4.toks) fun b ob z => Heap.get?_push_of_some _ z
  obtain ⟨its, r, ht, hz⟩ := J.tuple hx
  show wpAny (model X.prog X.w) X.A (subscriptTail e (.Slice none none (some (.UnaryOp .USub (.Constant (.int 1) k p1) p2)) p3) (.ref a) (.ref s4.heap.objs.size)) (EP X pins σ Q) X.xe _
  refine tail_any (ops := [.ref a, .ref s4.heap.objs.size]) ht.typeIs PyProof.Rows.slot_tuple_getitem.lookup ?_ (by with_unfolding_all rfl)
  refine get_back ht (Heap.IsSliceOf.new _ vl vu vs) pl pu ps ?_ (by rw [List.size_toArray, ← r.length]; exact hz)
  refine ⟨.ref _, _, J.laid (t' := s4.toks) (o := .tup xs.reverse) (fun b ob z => Heap.get?_push_of_some _ z) (Nat.le_refl _) ?_, rfl, q _ (J.hok.fresh (Nat.le_refl _))⟩
  exact ⟨by rw [List.length_reverse]; exact hz, _, r.reverse, IsTup.new _ _⟩
/-- max of a tuple of ints -/
def rMaxT (K : PySem.W.Frag) : List V → Hp → VK → Prop := fun vs H Q => ∃ (a : Addr) (ns : List Int), vs = [V.ref a] ∧ SqT K H a (ns.map V.int) ∧ 0 < ns.length ∧ ∀ m, m ∈ ns → (∀ y, y ∈ ns → y ≤ m) → Q (.int m) H
theorem cr_maxT (hc : X.calm = true) : CallR X (.builtin "max") (rMaxT X.K) := by
  intro pins s σ H vs us Q I r h
  obtain ⟨a, ns, rfl, hs, hne, q⟩ := h
  obtain ⟨its, rv, ht, _⟩ := I.tuple hs
  rw [Vals.ref1 r]
  have hl : its.toArray.size = ns.length := by rw [List.size_toArray, ← rv.length, List.length_map]
  have at_ : ∀ (i : Nat) v, its.toArray[i]? = some v → ∃ t, v = .int (ns.getD i 0) t := fun i v e => by
    have e' : its[i]? = some v := by simpa using e
    have hi : i < ns.length := by rw [← hl, List.size_toArray]; exact (List.getElem?_eq_some_iff.mp e').1
    obtain ⟨u, hu, ru⟩ := rv.get (show (ns.map V.int)[i]? = some (V.int ns[i]) by rw [List.getElem?_map, List.getElem?_eq_getElem hi]; rfl)
    rw [e'] at hu
    cases hu
    obtain ⟨t, rfl⟩ := ru
    exact ⟨t, by rw [List.getD_eq_getElem?_getD, List.getElem?_eq_getElem hi]; rfl⟩
  have hlt : a < s.heap.objs.size := ht.lt
  have sz : (s.heap.push { cls := .type "tuple_iterator", data := .fields #[.ref a, .int 0 0] }).objs.size = s.heap.objs.size + 1 := Heap.size_push ..
  refine call_max_walk (wpAny_pyIter_tuple (items := its.toArray) ht ?_)
  refine ⟨_, _, _, _, _, _, _, rfl, Walks.tuple (A := X.A.in1) (I.ok.hd hc) s.heap.objs.size a (Nat.ne_of_lt hlt) its.toArray, ⟨⟨_, Heap.get?_push_size _ rfl, rfl, rfl⟩, ht.push _⟩, fun b hb => ?_, by rw [hl]; exact hne, CmpOf.ints_gt (fun i => ns.getD i 0) at_, fun v h' tk pv kp => ?_⟩
  · show b < (s.heap.push _).objs.size
    rw [sz]
    rcases List.mem_cons.mp hb with z | z
    · rw [z]; exact Nat.lt_succ_self _
    · rw [List.mem_singleton.mp z]; exact Nat.lt_succ_of_lt hlt
  · obtain ⟨t, rfl⟩ := at_ _ v pv
    obtain ⟨k1, k2⟩ := argBest_gt (fun i => ns.getD i 0) (its.toArray.size - 1)
    have hb : argBest (fun i j => decide (ns.getD i 0 > ns.getD j 0)) (its.toArray.size - 1) < ns.length := by omega
    refine ⟨.int _, H, I.kept (fun b o e => kp b o (fun z => ?_) (Heap.get?_push_of_some _ e)), ⟨t, rfl⟩, q _ ?_ fun y hy => ?_⟩
    · have := Heap.lt_size e
      rw [List.mem_singleton.mp z] at this
      exact Nat.lt_irrefl _ this
    · rw [List.getD_eq_getElem?_getD, List.getElem?_eq_getElem hb]; exact List.getElem_mem hb
    · obtain ⟨j, hj, rfl⟩ := List.getElem_of_mem hy
      have := k2 j (by omega)
      have e : ns.getD j 0 = ns[j] := by rw [List.getD_eq_getElem?_getD, List.getElem?_eq_getElem hj]; rfl
      rw [← e]; exact this
end
end FWV
namespace FW
open PySem PySem.Spec PyProof.Rows L2
section
variable {c : Amb}
@[simp] def dRevT (w : W) : W := fun e R => w e fun d => ∃ ds, d = .tuple ds ∧ R (.tuple ds.reverse)
theorem xd_revT {w : W} : ∀ σ H Q, tD c (dRevT w) σ H Q → FWV.tRevT c.K (tD c w) σ H Q := fun σ H Q ⟨e, F, H0, R, W, S, q, P⟩ =>
  ⟨e, F, H0, _, W, S, q, fun d v H1 F1 ⟨ds, hd, r⟩ x1 rv => by
    subst hd
    obtain ⟨a, vs, rfl, h1, h2⟩ := rv.tup_inv
    exact ⟨a, vs, rfl, same_t x1.ok.sub h1, (P.ext x1).newTup x1.ok (dpAll_rev h2) r⟩⟩
def rdMaxT : List D → (D → Prop) → Prop := fun ds R => ∃ ns : List Int, ds = [.tuple (ns.map .int)] ∧ 0 < ns.length ∧ ∀ m, m ∈ ns → (∀ y, y ∈ ns → y ≤ m) → R (.int m)
theorem cd_maxT : CallD c (FWV.rMaxT c.K) rdMaxT := by
  rintro H F vs ds R Q W rv ⟨ns, rfl, h, r⟩ P
  obtain ⟨v, rfl, q⟩ := reps1 rv
  obtain ⟨a, ws, rfl, h1, h2⟩ := q.tup_inv
  have e := dpAll_ints_inv ns ws h2
  subst e
  exact ⟨a, ns, rfl, same_t W.sub h1, h, fun m hm hle => P.here W (r m hm hle) .int⟩
@[simp] theorem rdMaxT_iff {ns : List Int} {R : D → Prop} : rdMaxT [.tuple (ns.map .int)] R ↔ 0 < ns.length ∧ ∀ m, m ∈ ns → (∀ y, y ∈ ns → y ≤ m) → R (.int m) := by
  constructor
  · rintro ⟨a, e, h⟩; simp at e; rw [e]; exact h
  · intro h; exact ⟨ns, rfl, h⟩
end
end FW
/-! FWP: what was told is changed: slots that are pinned, told data whose lists are new, and the way back to what was frozen before. -/
namespace FW
open PySem PySem.Spec PyProof.Rows L2
/-! ### data without lists -/
mutual
def noListD : D → Bool
  | .tuple xs => noListA xs
  | .list _ => false
  | .dict _ => false
  | _ => true
def noListA : List D → Bool
  | [] => true
  | x :: xs => noListD x && noListA xs
end
mutual
theorem rp_cut {K : PySem.W.Frag} {F Fb : Hp} : ∀ (d : D) (v : V), noListD d = true → Rp K F v d → Rp K (cutF F Fb) v d
  | .none, _, _, h => by cases h; exact .non
  | .bool b, _, _, h => by cases h; exact .bl b
  | .int i, _, _, h => by cases h; exact .int i
  | .str x, _, _, h => by cases h; exact .str x
  | .list ds, _, n, _ => by simp [noListD] at n
  | .dict ds, _, n, _ => by simp [noListD] at n
  | .tuple ds, _, n, h => by
    cases h with
    | tup hs ha =>
      have n : noListA ds = true := by simpa [noListD] using n
      refine .tup ?_ (rp_cutA ds _ n ha)
      rcases hs with (hs | ⟨o, hs⟩) | hs
      · exact .inl (.inl (cutF_some hs fun ⟨vs, e⟩ => by cases e))
      · exact .inl (.inr ⟨o, cutF_some hs fun ⟨vs, e⟩ => by cases e⟩)
      · exact .inr hs
theorem rp_cutA {K : PySem.W.Frag} {F Fb : Hp} : ∀ (ds : List D) (vs : List V), noListA ds = true → RpAll K F vs ds → RpAll K (cutF F Fb) vs ds
  | [], _, _, h => by cases h; exact .nil
  | d :: ds, _, n, h => by
    cases h with
    | cons h1 h2 =>
      have n : (noListD d && noListA ds) = true := n
      rw [Bool.and_eq_true] at n
      exact .cons (rp_cut d _ n.1 h1) (rp_cutA ds _ n.2 h2)
end
def atomD : D → Bool
  | .none => true
  | .bool _ => true
  | .int _ => true
  | .str _ => true
  | .dict [] => true
  | _ => false
section
variable {c : Amb} {E : XK} {H F H0 F0 H1 F1 H' F' : Hp} {σ : L2.St} {e : Sg} {X : Cx} {De : EndsD} {Dn : Ends}
theorem atom_dict {kvs : List (D × D)} (h : kvs ≠ []) : atomD (.dict kvs) = false := by
  cases kvs with
  | nil => exact absurd rfl h
  | cons p m => rfl
theorem RepV.atom {v : V} {d : D} (h : RepV c F v d) (a : atomD d = true) (G : Hp) : RepV c G v d := by
  rcases h with h | ⟨rfl, rfl⟩
  · cases h with
    | non => exact .non
    | bl b => exact .bl
    | int i => exact .int
    | str x => exact .str
    | lst _ _ => cases a
    | tup _ _ => cases a
    | dic h0 h1 _ =>
      have z := dicD_ne h0 h1
      rw [atom_dict z] at a
      cases a
  · exact .inr ⟨rfl, rfl⟩
/-! ### for over a range: what was frozen ahead of it may be gone back to -/
def tIR (c : Amb) (w : WA) : TI := fun σ H R => ∃ e F H0 Rd, Wok c H F ∧ RepS c H0 σ H F e ∧ w e Rd ∧ ∀ ds J H' F', Rd ds → Ext c H F H' F' → (∀ G, Yields c J G ds) → R J H'
theorem xi_rng1R {w : WA} : ∀ σ H R, tIR c (iR1 w) σ H R → iRng1 (tA c w) σ H R := fun σ H R ⟨e, F, H0, Rd, W, S, q, P⟩ =>
  ⟨e, F, H0, _, W, S, q, fun ds vs H' F' ⟨j, hd, h1, h2, r⟩ x rv => by
    subst hd
    exact ⟨j, repVs_ints_inv (l := [j]) rv, h1, h2, P _ _ H' F' r x fun _ => yields_rng⟩⟩
theorem xi_rng2R {w : WA} : ∀ σ H R, tIR c (iR2 w) σ H R → iRng2 (tA c w) σ H R := fun σ H R ⟨e, F, H0, Rd, W, S, q, P⟩ =>
  ⟨e, F, H0, _, W, S, q, fun ds vs H' F' ⟨i, j, hd, h1, r⟩ x rv => by
    subst hd
    exact ⟨i, j, repVs_ints_inv (l := [i, j]) rv, h1, P _ _ H' F' r x fun _ => yields_rng⟩⟩
def forRunR (wg : WG) (wb : WS) (De : EndsD) : List D → Sg → Prop
  | [], e => De.nx e
  | d :: ds, e => wg d e fun e' => wb { De with nx := fun e2 => forRunR wg wb De ds e2, ct := fun e2 => forRunR wg wb De ds e2, bk := De.nx } e'
@[simp] def dForR (wi : WA) (wg : WG) (wb : WS) : WS := fun De e => wi e fun ds => forRunR wg wb De ds e
theorem xs_forR {wi : WA} {wg : WG} {wb : WS} {g : TG} (hg : gD c wg g) : ∀ Dn σ H, sD c E (dForR wi wg wb) Dn σ H → tFor (tIR c wi) g (sD c E wb) Dn σ H := fun Dn σ H ⟨e, F, H0, F0, De, x, S, q, K⟩ =>
  ⟨e, F, H0, _, x.ok, S, q, fun ds J H1 F1 i0 x1 Y => by
    refine ⟨fun i m σ H => m = ds.length - i ∧ i ≤ ds.length ∧ ∃ e F, Ext c H0 F0 H F ∧ RepS c H0 σ H F e ∧ forRunR wg wb De (ds.drop i) e, ⟨_, rfl, Nat.zero_le _, e, F1, x.trans x1, S.ext x.ok x1, i0⟩, ?_⟩
    rintro i m σ' H' ⟨rfl, hi, e', F', x', S', h'⟩
    by_cases hlt : i < ds.length
    · refine .inr ⟨(Y F').go i H' F' hlt x'.ok (fun _ _ h => h), fun σ2 H2 => ∃ e F, Ext c H0 F0 H2 F ∧ RepS c H0 σ2 H2 F e ∧ forRunR wg wb De (ds.drop (i + 1)) e, fun σ2 H2 ⟨e2, F2, a, b, f⟩ => ⟨ds.length - (i + 1), by omega, rfl, hlt, e2, F2, a, b, f⟩, fun v H2 y => ?_⟩
      have hd : ds[i]? = some ds[i] := List.getElem?_eq_getElem hlt
      rw [drop_at hlt] at h'
      obtain ⟨F2, x2, rv⟩ := (Y F').yld i _ H' F' v H2 hd x'.ok (fun _ _ h => h) y
      refine hg v _ σ' H2 F2 H0 e' _ _ x2.ok (S'.ext x'.ok x2) rv h' fun σ3 e3 r3 S3 => ?_
      exact ⟨e3, F2, H0, F0, _, x'.trans x2, S3, r3, fun e4 σ4 H4 F4 n z S4 => ⟨e4, F4, z, S4, n⟩, K.rt, K.rn, K.nx, fun e4 σ4 H4 F4 n z S4 => ⟨e4, F4, z, S4, n⟩, K.ex, K.base, K.rf, K.pin⟩
    · have he : i = ds.length := by omega
      subst he
      rw [List.drop_length] at h'
      exact .inl ⟨(Y F').stop H' F' x'.ok (fun _ _ h => h), K.nx e' σ' H' F' h' x' S'⟩⟩
theorem forRunR_go {wg : WG} {wb : WS} {De : EndsD} (I : List D → Sg → Prop) (ht : ∀ (d : D) (ds : List D) (e : Sg) (N : Sg → Prop), I (d :: ds) e → (∀ e2, I ds e2 → N e2) → wg d e fun e' => wb { De with nx := N, ct := N, bk := De.nx } e') (he : ∀ e, I [] e → De.nx e) :
    ∀ ds e, I ds e → forRunR wg wb De ds e
  | [], e, h => he e h
  | d :: ds, e, h => ht d ds e _ h fun e2 h2 => forRunR_go I ht he ds e2 h2
/-! ### pins -/
theorem RepS.to_fix (S : RepS c H0 σ H F e) {j : Nat} {d : D} (h : FW.rd e[j]? = some d) : RepS c H0 σ H F (e.set j (.fix false F d)) := by
  have hl : j < e.length := by
    cases q : e[j]? with
    | none => rw [q] at h; cases h
    | some s => exact (List.getElem?_eq_some_iff.mp q).1
  have off : ∀ {i : Nat} {s : Sl}, (e.set j (.fix false F d))[i]? = some s → (∀ k Fb d, s ≠ .fix k Fb d) → e[i]? = some s := fun {i s} hi hs => by
    by_cases z : j = i
    · subst z
      rw [List.getElem?_set_self hl] at hi
      exact absurd (Option.some.inj hi).symm (hs _ _ _)
    · rw [List.getElem?_set_ne z] at hi
      exact hi
  refine ⟨by simp [S.len], fun i d' hi => S.val i d' (off hi fun _ _ _ z => nomatch z), fun i o ds hi => S.ownO i o ds (off hi fun _ _ _ z => nomatch z), fun i k o1 o2 ds es a hik h1 h2 => S.distO i k o1 o2 ds es a hik (off h1 fun _ _ _ z => nomatch z) (off h2 fun _ _ _ z => nomatch z), fun i a hi => S.exc i a (off hi fun _ _ _ z => nomatch z), fun i k Fb d' hi => ?_⟩
  by_cases z : j = i
  · subst z
    rw [List.getElem?_set_self hl] at hi
    cases hi
    obtain ⟨v, h1, h2⟩ := S.rd h
    exact ⟨fun _ _ h => h, v, h1, h2⟩
  · rw [List.getElem?_set_ne z] at hi
    exact S.fix i k Fb d' hi
@[simp] def pinAll (Fb : Hp) : List Nat → Sg → Sg
  | [], e => e
  | j :: js, e => pinAll Fb js (match FW.rd e[j]? with
    | some d => e.set j (.fix false Fb d)
    | none => e)
theorem RepS.pins : ∀ (js : List Nat) {e : Sg}, RepS c H0 σ H F e → RepS c H0 σ H F (pinAll F js e)
  | [], e, S => S
  | j :: js, e, S => by
    unfold pinAll
    refine RepS.pins js ?_
    split
    · exact S.to_fix ‹_›
    · exact S
@[simp] def dPin (js : List Nat) (w : WS) : WS := fun De e => De.pin = true ∧ ∀ Fb, De.base Fb → w De (pinAll Fb js e)
theorem xs_pin {js : List Nat} {w : WS} : ∀ Dn σ H, sD c E (dPin js w) Dn σ H → sD c E w Dn σ H := fun Dn σ H ⟨e, F, H0, F0, De, x, S, ⟨hp, q⟩, K⟩ =>
  ⟨_, F, H0, F0, De, x, S.pins js, q F (K.pin hp F x.grow x.new), K⟩
/-- all pins are of this frozen part -/
@[simp] def allPin (Fb : Hp) : Sg → Prop
  | [] => True
  | .fix _ Fb' _ :: e => Fb' = Fb ∧ allPin Fb e
  | _ :: e => allPin Fb e
theorem allPin_at {Fb : Hp} : ∀ {e : Sg}, allPin Fb e → ∀ {i : Nat} {k : Bool} {Fb' : Hp} {d : D}, e[i]? = some (Sl.fix k Fb' d) → Fb' = Fb
  | [], _, i, _, _, _, h => by simp at h
  | s :: e, p, i, k, Fb', d, h => by
    have p' : allPin Fb e := by
      cases s with
      | fix _ _ _ => exact p.2
      | _ => exact p
    cases i with
    | zero =>
      simp at h
      subst h
      exact p.1
    | succ i => exact allPin_at p' (by simpa using h)
/-- back to what stood there -/
@[simp] def unpin1 : Sl → Sl
  | .fix false _ d => .val d
  | .val d => if atomD d = true then .val d else .un
  | _ => .un
@[simp] def unpin : Sg → Sg
  | [] => []
  | s :: e => unpin1 s :: unpin e
theorem unpin_len : ∀ e : Sg, (unpin e).length = e.length
  | [] => rfl
  | s :: e => congrArg (· + 1) (unpin_len e)
theorem unpin_at : ∀ {e : Sg} {i : Nat} {s : Sl}, (unpin e)[i]? = some s → ∃ s', e[i]? = some s' ∧ s = unpin1 s'
  | [], i, s, h => by simp at h
  | s' :: e, 0, s, h => by
    simp at h
    exact ⟨s', rfl, h.symm⟩
  | s' :: e, i + 1, s, h => by
    simp only [unpin, List.getElem?_cons_succ] at h
    simpa using unpin_at h
theorem unpin1_val {d : D} {s : Sl} (h : s = unpin1 (.val d)) : (s = .val d ∧ atomD d = true) ∨ s = .un := by
  by_cases a : atomD d = true
  · exact .inl ⟨h.trans (if_pos a), a⟩
  · exact .inr (h.trans (if_neg a))
theorem RepS.unpinTo {Fb F2 : Hp} (S : RepS c H0 σ H F e) (p : allPin Fb e) (G : Hp) (s : Same Fb F2) : RepS c H0 σ G F2 (unpin e) := by
  have noOwn : ∀ {i : Nat} {o : Option Hp} {ds : List D}, (FW.unpin e)[i]? = some (.ownO o ds) → False := fun {i o ds} h => by
    obtain ⟨s', _, h2⟩ := unpin_at h
    cases s' with
    | val d => rcases unpin1_val h2 with ⟨z, _⟩ | z <;> cases z
    | fix k _ _ => cases k <;> cases h2
    | _ => cases h2
  refine ⟨by rw [unpin_len]; exact S.len, fun i d h => ?_, fun i o ds h => (noOwn h).elim, fun i j o _ ds es a _ h => (noOwn h).elim, fun i a h => ?_, fun i k Fb' d h => ?_⟩
  · obtain ⟨s', h1, h2⟩ := unpin_at h
    cases s' with
    | val d' =>
      rcases unpin1_val h2 with ⟨z, z2⟩ | z
      · cases z
        obtain ⟨v, k1, k2⟩ := S.val i d h1
        exact ⟨v, k1, k2.atom z2 F2⟩
      · cases z
    | fix k Fb' d' =>
      cases k with
      | true => cases h2
      | false =>
        cases h2
        have := allPin_at p h1
        subst this
        obtain ⟨_, v, k1, k2⟩ := S.fix i false Fb' d h1
        exact ⟨v, k1, RepV.grow k2 s⟩
    | _ => cases h2
  · obtain ⟨s', _, h2⟩ := unpin_at h
    cases s' with
    | val d => rcases unpin1_val h2 with ⟨z, _⟩ | z <;> cases z
    | fix k _ _ => cases k <;> cases h2
    | _ => cases h2
  · obtain ⟨s', _, h2⟩ := unpin_at h
    cases s' with
    | val d => rcases unpin1_val h2 with ⟨z, _⟩ | z <;> cases z
    | fix k _ _ => cases k <;> cases h2
    | _ => cases h2
theorem RepS.unpin {Fb : Hp} (S : RepS c H0 σ H F e) (p : allPin Fb e) (G : Hp) : RepS c H0 σ G Fb (FW.unpin e) := S.unpinTo p G fun _ _ h => h
theorem unpin_own {e : Sg} {i : Nat} {o : Option Hp} {ds : List D} (h : (unpin e)[i]? = some (.ownO o ds)) : False := by
  obtain ⟨s', _, h2⟩ := unpin_at h
  cases s' with
  | val d => rcases unpin1_val h2 with ⟨z, _⟩ | z <;> cases z
  | fix k _ _ => cases k <;> cases h2
  | _ => cases h2
/-- some new lists are changed, and what was frozen behind Fb is forgotten -/
theorem Ext.smash {Fb : Hp} (x : Ext c H0 F0 H F) (s : Same Fb F) (b0 : Same F0 Fb ∧ ∀ b, F0 b = none → Fb b ≠ none → H0 b = none) {G : Hp} (k : ∀ b o, H b = some o → G b = some o ∨ ((∃ vs, F b = some (.lst vs)) ∧ Fb b = none)) : Ext c H0 F0 G Fb := by
  have ch : ∀ b, (∃ vs, F b = some (.lst vs)) → Fb b = none → H0 b = none := fun b ⟨vs, h1⟩ h2 => by
    have f0 : F0 b = none := by
      cases q : F0 b with
      | none => rfl
      | some o => rw [b0.1 b o q] at h2; cases h2
    exact x.new b f0 (by rw [h1]; simp)
  refine ⟨⟨fun b o h => ?_, ?_, ?_, fun P hP => ⟨?_, ?_⟩⟩, b0.1, fun b o h hr hp => ?_, b0.2, x.pre⟩
  · rcases k b o (x.ok.sub b o (s b o h)) with z | ⟨_, z⟩
    · exact z
    · rw [h] at z; cases z
  · obtain ⟨i, y, n, h1, h2, h3, h4, h5⟩ := x.ok.row
    refine ⟨i, y, n, ?_, h2, h3, h4, ?_⟩
    · rcases k _ _ h1 with z | ⟨⟨vs, z⟩, _⟩
      · exact z
      · rw [x.ok.rF] at z; cases z
    · rcases h5 with (h5 | ⟨o, h5⟩) | h5
      · rcases k _ _ h5 with z | ⟨z, z2⟩
        · exact .inl (.inl z)
        · have z3 := ch _ z z2
          rcases x.pre with (p | ⟨o, p⟩) | p
          · rw [z3] at p; cases p
          · rw [z3] at p; cases p
          · exact .inr p
      · rcases k _ _ h5 with z | ⟨⟨vs, z⟩, _⟩
        · exact .inl (.inr ⟨o, z⟩)
        · have := x.ok.sub _ _ z
          rw [h5] at this; cases this
      · exact .inr h5
  · cases q : Fb c.r with
    | none => rfl
    | some o => have := s _ _ q; rw [x.ok.rF] at this; cases this
  · obtain ⟨⟨ps, q, t⟩, f⟩ := x.ok.tab P hP
    rcases k _ _ q with z | ⟨⟨vs, z⟩, _⟩
    · exact ⟨ps, z, t⟩
    · rw [f] at z; cases z
  · cases q : Fb P with
    | none => rfl
    | some o => have := s _ _ q; rw [(x.ok.tab P hP).2] at this; cases this
  · rcases k b o (x.keep b o h hr hp) with z | ⟨z, z2⟩
    · exact z
    · rw [ch b z z2] at h; cases h
/-! ### what is told, its lists new -/
def spF (g : Glb) (f : Fd) : Sp := fun vs H Q _ => ∃ (c : Amb) (F : Hp) (ds : List D) (R : D → Prop), c.g = g ∧ Wok c H F ∧ RepVs c F vs ds ∧ f ds R ∧ ∀ d v H' F', R d → Ext c H F H' F' → RepV c (cutF F' F) v d → Q v H'
theorem xd_callF {f : Fd} {w : WA} : ∀ σ H Q, tD c (dCall f w) σ H Q → tCall (spF c.g f) [] E0 (tA c w) σ H Q := fun σ H Q ⟨e, F, H0, R, W, S, q, P⟩ =>
  ⟨e, F, H0, _, W, S, q, fun ds vs H1 F1 q1 x1 r1 => ⟨c, F1, ds, R, rfl, x1.ok, by rw [List.append_nil]; exact r1, q1, fun d v H' F' r x rv => P d v H' F' r (x1.trans x) (rv.grow cutF_sub)⟩⟩
theorem RepS.set_fixT (S : RepS c H0 σ H F e) (i : Nat) {v : V} {d : D} {Fb : Hp} (s : Same Fb F) (r : RepV c (cutF F Fb) v d) : RepS c H0 (σ.set i (some v)) H F (e.set i (.fix true Fb d)) := by
  have S1 := S.set_un i (some v)
  have off : ∀ {j : Nat} {s : Sl}, (e.set i (.fix true Fb d))[j]? = some s → (∀ k Fb d, s ≠ .fix k Fb d) → (e.set i .un)[j]? = some s := fun {j s} hj hs => by
    by_cases z : i = j
    · subst z
      by_cases hl : i < e.length
      · rw [List.getElem?_set_self hl] at hj
        exact absurd (Option.some.inj hj).symm (hs _ _ _)
      · rw [List.getElem?_eq_none (by simpa using hl)] at hj; cases hj
    · rw [List.getElem?_set_ne z] at hj ⊢
      exact hj
  refine ⟨by simp [S.len], fun j d' hj => S1.val j d' (off hj fun _ _ _ z => nomatch z), fun j o ds hj => S1.ownO j o ds (off hj fun _ _ _ z => nomatch z), fun j k o1 o2 ds es a hjk h1 h2 => S1.distO j k o1 o2 ds es a hjk (off h1 fun _ _ _ z => nomatch z) (off h2 fun _ _ _ z => nomatch z), fun j a hj => S1.exc j a (off hj fun _ _ _ z => nomatch z), fun j k Fb' d' hj => ?_⟩
  by_cases z : i = j
  · subst z
    by_cases hl : i < e.length
    · rw [List.getElem?_set_self hl] at hj
      cases hj
      exact ⟨s, v, by rw [List.getElem?_set_self (by rw [S.len]; exact hl)], r⟩
    · rw [List.getElem?_eq_none (by simpa using hl)] at hj; cases hj
  · rw [List.getElem?_set_ne z] at hj
    refine S1.fix j k Fb' d' ?_
    rw [List.getElem?_set_ne z]
    exact hj
@[simp] def dAsgF (i j : Nat) (f : Fd) (w : WA) : WS := fun De e => ∃ Fb d0, e[j]? = some (.fix false Fb d0) ∧ w e fun ds => f ds fun d => De.nx (e.set i (.fix true Fb d))
theorem xs_asgF {i j : Nat} {f : Fd} {w : WA} : ∀ Dn σ H, sD c E (dAsgF i j f w) Dn σ H → tAsg (tCall (spF c.g f) [] E0 (tA c w)) (gName i) Dn σ H := fun Dn σ H ⟨e, F, H0, F0, De, x, S, ⟨Fb, d0, hj, q⟩, K⟩ => by
  refine ⟨e, F, H0, _, x.ok, S, q, fun ds vs H1 F1 q1 x1 r1 => ⟨c, F1, ds, _, rfl, x1.ok, by rw [List.append_nil]; exact r1, q1, fun d v H' F' r x2 rv => ?_⟩⟩
  have s := (S.fix j false Fb d0 hj).1
  have x12 := x1.trans x2
  refine K.nx _ _ _ _ r (x.trans x12) ((S.ext x.ok x12).set_fixT i (s.trans x12.grow) (rv.grow (cutF_grow (fun _ _ h => h) fun b hb _ => ?_)))
  cases q2 : Fb b with
  | none => rfl
  | some o => rw [x1.grow b o (s b o q2)] at hb; cases hb
/-- told[1].append(e) -/
@[simp] def dSmash1 (i : Nat) (w : W) : WS := fun De e => ∃ Fb d0 ds, e[i]? = some (.fix true Fb (.tuple [d0, .list ds])) ∧ De.base Fb ∧ allPin Fb e ∧ ds.length < 1000000 ∧ w e fun d => d ≠ .dict [] ∧ De.nx (unpin e)
theorem xs_smash1 {i : Nat} {w : W} : ∀ Dn σ H, sD c E (dSmash1 i w) Dn σ H → tDrop (tBM c.K "list" rAppend (tOp (fun x y H Q => rIxL c.K x y H Q ∨ rIxT c.K x y H Q) (tVar i) (tC (.int 1))) (tCons (tD c w) tNil)) Dn σ H := fun Dn σ H ⟨e, F, H0, F0, De, x, S, ⟨Fb, d0, ds, hi, hb, hp, hl, q⟩, K⟩ => by
  obtain ⟨sb, v, h1, h2⟩ := S.fix i true Fb _ hi
  obtain ⟨a, vs, rfl, h3, h4⟩ := h2.tup_inv
  obtain ⟨v0, v1, rfl, g0, g1⟩ : ∃ v0 v1, vs = [v0, v1] ∧ Rp c.K (cutF F Fb) v0 d0 ∧ Rp c.K (cutF F Fb) v1 (.list ds) := by
    cases h4 with
    | cons a1 a2 => cases a2 with
      | cons b1 b2 => cases b2; exact ⟨_, _, rfl, a1, b1⟩
  obtain ⟨p, us, rfl, g2, g3⟩ := (show RepV c (cutF F Fb) v1 (.list ds) from .inl g1).list_inv
  obtain ⟨g4, g5⟩ := cutF_new g2
  have hH := x.ok.sub _ _ g4
  refine ⟨.ref a, h1, .inr ⟨a, _, 1, .ref p, rfl, rfl, same_t (Same.trans cutF_sub x.ok.sub) h3, atI_1, ?_⟩⟩
  refine .inl ⟨rfl, us, SqL.of hH⟩ |> fun z => ⟨z, e, F, H0, _, x.ok, S, q, fun d v H1 F1 ⟨hd, r⟩ x1 rv => ?_⟩
  have k1 := x1.grow _ _ g4
  have k2 := x1.ok.sub _ _ k1
  refine ⟨p, us, v, rfl, rfl, k2, len_lt (by rw [dpAll_length g3]; exact hl), ?_⟩
  refine K.nx _ _ _ _ r (Ext.smash (x.trans x1) (sb.trans x1.grow) (K.base Fb hb) fun b o h => ?_) ((S.ext x.ok x1).unpin hp _)
  by_cases z : b = p
  · subst z
    exact .inr ⟨⟨_, k1⟩, g5⟩
  · exact .inl (by rw [upd_ne z]; exact h)
/-- return (e, x), x the def's own list of data without lists -/
@[simp] def dRetFz (i : Nat) (w : W) : WS := fun De e => ∃ ds, e[i]? = some (.own ds) ∧ noListA ds = true ∧ w (e.set i (.val (.list ds))) fun d => noListD d = true ∧ De.rf (.tuple [d, .list ds])
theorem xs_retFz {i : Nat} {w : W} : ∀ Dn σ H, sD c E (dRetFz i w) Dn σ H → tRet (tTup (tCons (tD c w) (tCons (tVar i) tNil))) Dn σ H := fun Dn σ H ⟨e, F, H0, F0, De, x, S, ⟨ds, h, hn, q⟩, K⟩ => by
  obtain ⟨a, vs, h1, h2, h3, h4, h5, h6⟩ := S.own i ds h
  have xf := x.frz h2 h3 h4 h5
  refine ⟨_, upd F a (.lst vs), H0, _, xf.ok, S.frz h h1 h2 h3 h6, q, fun d v H1 F1 ⟨nd, r⟩ x1 rv => ⟨.ref a, h1, len_le (by show 2 ≤ 1000000; decide), fun p hpn => ?_⟩⟩
  have dd : d ≠ .dict [] := fun z => by rw [z] at nd; simp [noListD] at nd
  have x2 := (xf.trans x1).trans (Ext.laid x1.ok (.tup [v, .ref a]) hpn)
  have hpF : F1 p = none := x1.ok.newF hpn
  have up := upd_keep (o := HO.tup [v, .ref a]) hpF
  have ha1 : F1 a = some (.lst vs) := x1.grow _ _ upd_same
  have f0 : F0 a = none := by
    cases q0 : F0 a with
    | none => rfl
    | some o => rw [x.grow a o q0] at h3; cases h3
  refine K.rf _ _ _ _ r x2 (.inl (.tup (.inl (.inl (cutF_some upd_same fun ⟨_, z⟩ => by cases z))) (.cons ?_ (.cons (.lst (cutF_some (up _ _ ha1) fun _ => f0) ?_) .nil))))
  · exact rp_cut d v nd (dp_same up _ _ (rv.dp dd))
  · exact rp_cutA ds vs hn (dpAll_same (Same.trans (Same.trans (upd_keep h3) x1.grow) up) _ _ h6)
end
section
variable {P : Program} {w : World} {g : Glb} {mg : Str → Option Value} {base : Heap} {x : Str} {st : Stmt} {f : Addr} {fd : FuncData} {N ps : List Str} {k : Nat} {wb : WS}
/-- a def that hands back data whose lists are new -/
theorem calF {f0 : Fd} (Fn : FunP g.K x st f fd) (mgf : mg x = some (.ref f)) (b : Binds g.K fd ps []) (S : FnScope N ps (defScope st)) (hlen : ∀ ds R, f0 ds R → ds.length = ps.length)
    (hb : ∀ (cdv : Value) (A : Around) (outer : List PySem.Env) (s : Shared) (H : Hp) (E : XK) (r a : Addr) (ns : List Int), Room k (A.deeper (envOfC x (defScope st) s.heap.objs.size f cdv)) →
      PSs (cxOf CX0 P w g.K mg base N x (defScope st) f cdv A outer s H E).nox (defBody st) (sD ⟨g, r, a, ns⟩ E wb))
    (hp : ∀ ds R, f0 ds R → wb { nx := fun _ => R .none, rt := fun d => noListD d = true ∧ R d, rf := R } (startD N ds)) : C8.Cal P w g.K mg base (k + 1) x (spF g f0) [] := by
  refine ⟨f, fd, ps, [], Fn.ok S (fun vs H Q E h => ?_) (fun cdv A outer s H vs Q E hr h => ?_), mgf, Fn.kp, b, .nil⟩
  · obtain ⟨c, F, ds, R, _, _, rv, h, _⟩ := h
    rw [rv.length]; exact hlen ds R h
  · obtain ⟨⟨g', r, a, ns⟩, F, ds, R, hg, W, rv, h, P'⟩ := h
    have hg' : g' = g := hg
    subst hg'
    refine ⟨_, (hb cdv A outer s H E r a ns hr).nox, startD N ds, F, H, F, _, Ext.refl W, rep_start rv, hp ds R h, ?_⟩
    refine ⟨fun e σ H' F' q x S' => P' _ _ H' F' q x .non, fun d v H' F' ⟨nd, q⟩ x rv => P' d v H' F' q x ?_, fun _ _ _ _ _ z => z.elim, fun _ _ _ _ z => z.elim, fun _ _ _ _ z => z.elim, fun _ _ _ z => z.elim, fun _ z => z.elim, fun d v H' F' q x rv => P' d v H' F' q x rv, fun z => nomatch z⟩
    have dd : d ≠ .dict [] := fun z => by rw [z] at nd; simp [noListD] at nd
    exact .inl (rp_cut d v nd (rv.dp dd))
end
/-- where the row has been made, the way back open -/
theorem law_startB {g : Glb} {E : XK} {H : Hp} {a : Addr} {ns : List Int} {w : WS} {Q : VK} {n : Nat} (hP : ∀ P ∈ g.Ps, H P = some (.tbl #[])) (hs : SqL g.K H a (ns.map V.int)) (k : ∀ H', Q (.bl true) H')
    (hw : ∀ B : Hp → Prop, w { nx := fun _ => False, rt := fun d => d = .bool true, base := B, pin := true } (.un :: .val (.dict []) :: List.replicate n .un)) : ∀ p, H p = none →
      sAny g E w { nx := fun _ H' => Q .non H', rt := Q } (some (.ref a) :: some (.ref p) :: List.replicate n none) (upd H p (.lst [.ref a, .int 0, .int 0, .int 0])) := fun p hp => by
  obtain ⟨r, a', ns', e, F, H0, F0, De, x, S, q, K⟩ := law_start (w := fun De e => De.rt (.bool true) ∧ De = { nx := fun _ => False, rt := fun d => d = .bool true } ∧ e = .un :: .val (.dict []) :: List.replicate n .un) (E := E) hP hs k ⟨rfl, rfl, rfl⟩ p hp
  obtain ⟨_, rfl, rfl⟩ := q
  exact ⟨r, a', ns', _, F, H0, F0, _, x, S, hw fun Fb => Same F0 Fb ∧ ∀ b, F0 b = none → Fb b ≠ none → H0 b = none, K.nx, K.rt, K.rn, K.bk, K.ct, K.ex, fun Fb h => h, K.rf, fun _ Fb h1 h2 => ⟨h1, h2⟩⟩
end FW
/-! FWB: methods of lists of data; count(True), index(True) of a list of bools. -/
namespace FW
open PySem PySem.Spec PyProof.Rows L2
section
variable {X : Cx}
def eqB (v : Value) : Bool := match v with
  | .bool b => b
  | _ => false
theorem bools_of_vals : ∀ {bs : List Bool} {us : List Value}, Vals (bs.map V.bl) us → us = bs.map Value.bool
  | [], _, r => by cases r; rfl
  | b :: bs, _, r => by
    cases r with
    | cons h t => rw [show _ = Value.bool b from h, bools_of_vals t]; rfl
def rCntB (K : PySem.W.Frag) : V → List V → Hp → VK → Prop := fun x xs H Q => ∃ (p : Addr) (bs : List Bool), x = .ref p ∧ xs = [.bl true] ∧ SqL K H p (bs.map V.bl) ∧ Q (.int ((bs.countP id : Nat) : Int)) H
theorem mt_cntB : MtR X "list.count" (rCntB X.K) := by
  intro pins s σ H x xs v us Q I rx rxs h
  obtain ⟨p, bs, rfl, rfl, hs, q⟩ := h
  cases rx
  obtain ⟨u, rfl, ru⟩ := rxs.one
  obtain rfl : u = Value.bool true := ru
  obtain ⟨its, rv, ⟨⟨cls, dd, data, sl⟩, n, ho, hc, hdn, hd⟩, _⟩ := I.list hs
  simp only at hc hd
  subst hc hd
  have hi := bools_of_vals rv
  refine call_meets PySem.F.slot_list_count ⟨_, ho, rfl⟩ PySem.F.entry_list_count (PySem.F.args_list_count_2 _ _) (SeqAt.list_countAt p its.toArray n dd sl (.bool true) eqB) ⟨ho, fun y hy => ?_, ?_⟩
  · have hy : y ∈ its := by simpa using hy
    rw [hi] at hy
    obtain ⟨b, _, rfl⟩ := List.mem_map.mp hy
    have := SeqAt.EqAt.bool_bool (A := X.A.in1.in1) (s := s) b true
    cases b <;> exact SeqAt.EqAt.bool_bool _ true
  · have ec : its.toArray.toList.countP eqB = bs.countP id := by
      rw [show its.toArray.toList = its by simp, hi, List.countP_map]
      rfl
    refine ⟨.int ((bs.countP id : Nat) : Int), H, I.tok _, ⟨s.toks, ?_⟩, q⟩
    rw [ec]
end
section
variable {c : Amb} {E : XK} {H F H0 F0 H1 F1 : Hp} {σ : L2.St} {X : Cx}
def MethD (c : Amb) (r : V → List V → Hp → VK → Prop) (rd : List D → List D → (D → Prop) → Prop) : Prop := ∀ (H F : Hp) (a : Addr) (us : List V) (xs : List D) (vs : List V) (ds : List D) (R : D → Prop) (Q : VK), Wok c H F → F a = some (.lst us) → RpAll c.K F us xs → RepVs c F vs ds → rd xs ds R → Post c H F R Q → r (.ref a) vs H Q
@[simp] def dMeth (rd : List D → List D → (D → Prop) → Prop) (w : W) (wa : WA) : W := fun e R => w e fun d => ∃ xs, d = .list xs ∧ wa e fun ds => rd xs ds R
theorem xd_meth {r : V → List V → Hp → VK → Prop} {rd : List D → List D → (D → Prop) → Prop} (hm : MethD c r rd) {w : W} {wa : WA} : ∀ σ H Q, tD c (dMeth rd w wa) σ H Q → tBM c.K "list" r (tD c w) (tA c wa) σ H Q := fun σ H Q ⟨e, F, H0, R, W, S, q, P⟩ =>
  ⟨e, F, H0, _, W, S, q, fun d v H1 F1 ⟨xs, hd, q1⟩ x1 r1 => by
    subst hd
    obtain ⟨a, us, rfl, h1, h2⟩ := r1.list_inv
    refine ⟨.inl ⟨rfl, us, SqL.of (x1.ok.sub _ _ h1)⟩, e, F1, H0, _, x1.ok, S.ext W x1, q1, fun ds vs H2 F2 q2 x2 r2 => ?_⟩
    exact hm H2 F2 a us xs vs ds R Q x2.ok (x2.grow _ _ h1) (dpAll_same x2.grow _ _ h2) r2 q2 (P.ext (x1.trans x2))⟩
theorem dpAll_bools_inv {K : PySem.W.Frag} : ∀ (l : List Bool) (vs : List V), RpAll K F vs (l.map PyData.bool) → vs = l.map V.bl
  | [], _, h => by cases h; rfl
  | i :: l, _, h => by
    cases h with
    | cons h1 h2 =>
      cases h1
      rw [dpAll_bools_inv l _ h2]; rfl
def rdCntB : List D → List D → (D → Prop) → Prop := fun xs ds R => ∃ bs : List Bool, xs = bs.map .bool ∧ ds = [.bool true] ∧ R (.int ((bs.countP id : Nat) : Int))
theorem md_cntB : MethD c (rCntB c.K) rdCntB := by
  rintro H F a us xs vs ds R Q W h1 h2 rv ⟨bs, rfl, rfl, r⟩ P
  obtain ⟨v, rfl, q⟩ := reps1 rv
  have e := dpAll_bools_inv bs us h2
  subst e
  exact ⟨a, bs, rfl, by rw [q.bl_inv], SqL.of (W.sub _ _ h1), P.here W r .int⟩
def rdIdxB : List D → List D → (D → Prop) → Prop := fun xs ds R => ∃ (bs : List Bool) (j : Nat), xs = bs.map .bool ∧ ds = [.bool true] ∧ bs.length ≤ 1000 ∧ bs[j]? = some true ∧ (∀ m, m < j → bs[m]? = some false) ∧ R (.int (j : Nat))
theorem shaped_bools {bs : List Bool} : SeqAt.shaped (.list (bs.map .bool)) = true := (Sh.lst (n := 0) fun x hx => by
  obtain ⟨b, _, rfl⟩ := List.mem_map.mp hx
  exact Sh.bool).ok
theorem md_idxB : MethD c (rIndexD c.K) rdIdxB := by
  rintro H F a us xs vs ds R Q W h1 h2 rv ⟨bs, j, rfl, rfl, hl, hj, hm, r⟩ P
  obtain ⟨v, rfl, q⟩ := reps1 rv
  refine ⟨a, v, .bool true, bs.map .bool, j, .bool true, rfl, rfl, rp_dp _ _ (SeqAt.canLay_of_shaped shaped_bools) (.lst (W.sub _ _ h1) (dpAll_same W.sub _ _ h2)), ?_, shaped_bools, shaped_bool, ?_, rfl, fun m z' hm' hz => ?_, P.here W r .int⟩
  · rw [q.bl_inv]
    exact .bl true
  · rw [List.getElem?_map, hj]; rfl
  · rw [List.getElem?_map, hm m hm'] at hz
    cases hz
    rfl
end
end FW
/-! FWQ: for x in told: x.append(e), told a list of lists of numbers, all of them new. -/
namespace FW
open PySem PySem.Spec PyProof.Rows L2
@[simp] def intsL (l : List Int) : D := .list (l.map .int)
section
variable {c : Amb} {E : XK} {H F H0 F0 H1 F1 H' F' : Hp} {σ : L2.St} {e : Sg} {X : Cx} {De : EndsD} {Dn : Ends}
theorem rpAll_ints {K : PySem.W.Frag} : ∀ (l : List Int), RpAll K F (l.map V.int) (l.map .int)
  | [] => .nil
  | i :: l => .cons (.int i) (rpAll_ints l)
theorem rpAll_ints_inv {K : PySem.W.Frag} : ∀ {vs : List V} {l : List Int}, RpAll K F vs (l.map .int) → vs = l.map V.int
  | [], [], _ => rfl
  | [], _ :: _, h => nomatch h
  | v :: vs, [], h => nomatch h
  | v :: vs, i :: l, h => by
    cases h with
    | cons h1 h2 =>
      cases h1
      rw [rpAll_ints_inv h2]
      rfl
theorem rows_inv {K : PySem.W.Frag} : ∀ {us : List V} {rows : List (List Int)}, RpAll K F us (rows.map intsL) → ∀ v ∈ us, ∃ p, ∃ l : List Int, v = .ref p ∧ F p = some (.lst (l.map V.int)) ∧ l ∈ rows
  | [], _, _, v, hv => by cases hv
  | u :: us, [], h, _, _ => nomatch h
  | u :: us, r :: rows, h, v, hv => by
    cases h with
    | cons h1 h2 =>
      rcases List.mem_cons.mp hv with z | z
      · subst z
        cases h1 with
        | lst a1 a2 => exact ⟨_, r, rfl, by rw [← rpAll_ints_inv a2]; exact a1, List.mem_cons_self⟩
      · obtain ⟨p, l, e1, e2, e3⟩ := rows_inv h2 v z
        exact ⟨p, l, e1, e2, List.mem_cons_of_mem _ e3⟩
theorem frzAll : ∀ (vs : List V) {F1 : Hp}, Ext c H0 F0 H F1 → (∀ v ∈ vs, ∃ p, ∃ l : List Int, v = .ref p ∧ H p = some (.lst (l.map V.int)) ∧ H0 p = none ∧ p ≠ c.r) →
    ∃ F2, ∃ rows : List (List Int), Same F1 F2 ∧ Ext c H0 F0 H F2 ∧ RpAll c.K F2 vs (rows.map intsL) ∧ ∀ b, F2 b ≠ none → F1 b ≠ none ∨ V.ref b ∈ vs
  | [], F1, x, _ => ⟨F1, [], fun _ _ h => h, x, .nil, fun _ h => .inl h⟩
  | v :: vs, F1, x, h => by
    obtain ⟨p, l, rfl, h1, h2, h3⟩ := h v List.mem_cons_self
    have key : ∃ F1', Same F1 F1' ∧ Ext c H0 F0 H F1' ∧ F1' p = some (.lst (l.map V.int)) ∧ ∀ b, F1' b ≠ none → F1 b ≠ none ∨ b = p := by
      cases q : F1 p with
      | none =>
        refine ⟨_, upd_keep q, x.frz h1 q h2 h3, upd_same, fun b hb => ?_⟩
        by_cases z : b = p
        · exact .inr z
        · rw [upd_ne z] at hb; exact .inl hb
      | some o =>
        have := x.ok.sub _ _ q
        rw [h1] at this
        cases this
        exact ⟨F1, fun _ _ h => h, x, q, fun _ h => .inl h⟩
    obtain ⟨F1', s1, x1, g1, n1⟩ := key
    obtain ⟨F2, rows, s2, x2, r2, n2⟩ := frzAll vs x1 fun v hv => h v (List.mem_cons_of_mem _ hv)
    refine ⟨F2, l :: rows, s1.trans s2, x2, .cons (.lst (s2 _ _ g1) (rpAll_ints l)) r2, fun b hb => ?_⟩
    rcases n2 b hb with z | z
    · rcases n1 b z with z | rfl
      · exact .inl z
      · exact .inr List.mem_cons_self
    · exact .inr (List.mem_cons_of_mem _ z)
/-- between two turns -/
def AppW (us : List V) (σ : L2.St) (j : Nat) (H : Hp) : Nat → Nat → L2.St → Hp → Prop := fun n m σ' H' => m = us.length - n ∧ n ≤ us.length ∧ ((n = 0 ∧ σ' = σ) ∨ ∃ o, σ' = σ.set j o) ∧ (∀ b o, H b = some o → V.ref b ∉ us → H' b = some o) ∧ ∀ b, V.ref b ∈ us → ∃ l : List Int, H' b = some (.lst (l.map V.int)) ∧ l.length ≤ 1000 + n
@[simp] def dForApp (i j : Nat) (k : Int) : WS := fun De e => ∃ Fb, ∃ rows : List (List Int), e[i]? = some (.fix true Fb (.list (rows.map intsL))) ∧ De.base Fb ∧ allPin Fb e ∧ i ≠ j ∧ j < e.length ∧ 0 < rows.length ∧ rows.length ≤ 1000 ∧ (∀ l ∈ rows, l.length ≤ 1000) ∧
  ∀ rows' : List (List Int), De.nx (((unpin e).set j .un).set i (.own (rows'.map intsL)))
theorem xs_forApp {i j : Nat} {k : Int} : ∀ Dn σ H, sD c E (dForApp i j k) Dn σ H → tFor (iList c.K (tVar i)) (gName j) (tDrop (tBM c.K "list" rAppend (tVar j) (tCons (tC (.int k)) tNil))) Dn σ H := fun Dn σ H ⟨e, F, H0, F0, De, x, S, ⟨Fb, rows, hi, hb, hp, hij, hj, r0, r1, rl, q⟩, K⟩ => by
  obtain ⟨sb, v, h1, h2⟩ := S.fix i true Fb _ hi
  obtain ⟨a, us, rfl, h3, h4⟩ := h2.list_inv
  obtain ⟨h5, h6⟩ := cutF_new h3
  have hl := dpAll_length h4
  rw [List.length_map] at hl
  have inn := rows_inv h4
  have ch : ∀ b vs, F b = some (.lst vs) → Fb b = none → H0 b = none := fun b vs g1 g2 => by
    have f0 : F0 b = none := by
      cases q : F0 b with
      | none => rfl
      | some o => rw [(K.base Fb hb).1 b o q] at g2; cases g2
    exact x.new b f0 (by rw [g1]; simp)
  have na : V.ref a ∉ us := fun z => by
    obtain ⟨p, l, e1, e2, _⟩ := inn _ z
    cases e1
    rw [h3] at e2
    cases e2
    obtain ⟨_, _, z2⟩ := List.mem_map.mp z
    cases z2
  have nr : ∀ {p vs}, F p = some (.lst vs) → p ≠ c.r := fun g z => by
    rw [z, x.ok.rF] at g; cases g
  refine ⟨.ref a, h1, a, rfl, ⟨us, SqL.of (x.ok.sub _ _ h5)⟩, AppW us σ j H, ⟨_, rfl, Nat.zero_le _, .inl ⟨rfl, rfl⟩, fun b o h _ => h, fun b hb => ?_⟩, ?_⟩
  · obtain ⟨p, l, e1, e2, e3⟩ := inn _ hb
    cases e1
    exact ⟨l, x.ok.sub _ _ (cutF_sub _ _ e2), Nat.le_trans (rl l e3) (Nat.le_add_right _ _)⟩
  · rintro n m σ' H' ⟨rfl, hn, hσ, k1, k2⟩
    have ha := k1 a _ (x.ok.sub _ _ h5) na
    by_cases hlt : n < us.length
    · refine .inr ⟨⟨us, us[n], SqL.of ha, List.getElem?_eq_getElem hlt⟩, AppW us σ j H (n + 1) (us.length - (n + 1)), fun σ2 H2 z => ⟨_, ?_, z⟩, fun y H2 ⟨e1, e2⟩ => ?_⟩
      · omega
      · subst e1
        have hy := e2 us (SqL.of ha)
        rw [List.getElem?_eq_getElem hlt] at hy
        cases hy
        have hm : us[n] ∈ us := List.getElem_mem hlt
        obtain ⟨p, l0, e3, _, _⟩ := inn _ hm
        rw [e3] at hm ⊢
        obtain ⟨l, g1, g2⟩ := k2 p hm
        have hs : ∃ o, σ'.set j (some (.ref p)) = σ.set j o := by
          rcases hσ with ⟨_, rfl⟩ | ⟨o, rfl⟩
          · exact ⟨_, rfl⟩
          · exact ⟨some (.ref p), by rw [List.set_set]⟩
        have hlen : j < σ'.length := by
          rcases hσ with ⟨_, rfl⟩ | ⟨o, rfl⟩
          · rw [S.len]; exact hj
          · rw [List.length_set, S.len]; exact hj
        refine ⟨.ref p, List.getElem?_set_self hlen, .inl ⟨rfl, _, SqL.of g1⟩, p, _, .int k, rfl, rfl, g1, len_lt (by rw [List.length_map]; omega), rfl, by omega, .inr hs, fun b o h nb => ?_, fun b hb => ?_⟩
        · have : b ≠ p := fun z => nb (by rw [z]; exact hm)
          rw [upd_ne this]
          exact k1 b o h nb
        · by_cases z : b = p
          · subst z
            exact ⟨l ++ [k], by rw [upd_same, List.map_append]; rfl, by simp; omega⟩
          · obtain ⟨l', g3, g4⟩ := k2 b hb
            exact ⟨l', by rw [upd_ne z]; exact g3, by omega⟩
    · have he : n = us.length := by omega
      subst he
      refine .inl ⟨⟨us, SqL.of ha, Nat.le_refl _⟩, ?_⟩
      obtain ⟨o, rfl⟩ : ∃ o, σ' = σ.set j o := by
        rcases hσ with ⟨z, _⟩ | z
        · omega
        · exact z
      have xs : Ext c H0 F0 H' Fb := Ext.smash x sb (K.base Fb hb) fun b o h => by
        by_cases z : V.ref b ∈ us
        · obtain ⟨p, l, e1, e2, _⟩ := inn _ z
          cases e1
          obtain ⟨e3, e4⟩ := cutF_new e2
          exact .inr ⟨⟨_, e3⟩, e4⟩
        · exact .inl (k1 b o h z)
      obtain ⟨F2, rows', s2, x2, r2, n2⟩ := frzAll us xs fun v hv => by
        obtain ⟨p, l0, rfl, e2, _⟩ := inn _ hv
        obtain ⟨e3, e4⟩ := cutF_new e2
        obtain ⟨l, g1, _⟩ := k2 p hv
        exact ⟨p, l, rfl, g1, ch _ _ e3 e4, nr e3⟩
      have fa : F2 a = none := by
        cases z : F2 a with
        | none => rfl
        | some o =>
          rcases n2 a (by rw [z]; simp) with z | z
          · exact absurd h6 z
          · exact absurd z na
      have S1 := (S.unpinTo hp H' s2).set_un j o
      have S2 := S1.set_own i ha fa (ch _ _ h5 h6) (nr h5) r2 fun j' _ es _ z => by
        by_cases y : j = j'
        · subst y
          by_cases hl : j < (unpin e).length
          · rw [List.getElem?_set_self hl] at z; cases z
          · rw [List.getElem?_eq_none (by simpa using hl)] at z; cases z
        · rw [List.getElem?_set_ne y] at z
          exact (unpin_own z).elim
      have hs : (σ.set j o)[i]? = some (some (.ref a)) := by rw [List.getElem?_set_ne (fun z => hij z.symm)]; exact h1
      have es : (σ.set j o).set i (some (.ref a)) = σ.set j o := by
        obtain ⟨hl, e1⟩ := List.getElem?_eq_some_iff.mp hs
        rw [← e1]
        exact List.set_getElem_self hl
      rw [es] at S2
      exact K.nx _ _ _ _ (q rows') x2 S2
/-! ### a list of one's own that is turned round -/
@[simp] def dRevO (i : Nat) : WS := fun De e => ∃ ds, e[i]? = some (.own ds) ∧ De.nx (e.set i (.own ds.reverse))
theorem rpAll_rev {K : PySem.W.Frag} : ∀ {vs : List V} {ds : List D}, RpAll K F vs ds → RpAll K F vs.reverse ds.reverse
  | _, _, .nil => .nil
  | _, _, .cons h t => by
    rw [List.reverse_cons, List.reverse_cons]
    exact dpAll_app (rpAll_rev t) (.cons h .nil)
theorem xs_revO {i : Nat} : ∀ Dn σ H, sD c E (dRevO i) Dn σ H → tDrop (tBM0 c.K "list" rReverse (tVar i)) Dn σ H := fun Dn σ H ⟨e, F, H0, F0, De, x, S, ⟨ds, h, q⟩, K⟩ => by
  obtain ⟨a, vs, h1, h2, h3, h4, h5, h6⟩ := S.own i ds h
  exact ⟨.ref a, h1, .inl ⟨rfl, vs, SqL.of h2⟩, a, vs, rfl, rfl, h2, K.nx _ _ _ _ q (x.mut h4 h2 h3 h5 _) (S.mut h h1 h3 h4 h5 (rpAll_rev h6))⟩
/-! ### a list of one's own, of lists that are new -/
@[simp] def dOwnF (i k : Nat) (w : WA) : WS := fun De e => ∃ Fb d0, e[k]? = some (.fix false Fb d0) ∧ w e fun ds => ds = [] ∧ De.nx (e.set i (.ownO (some Fb) []))
theorem xs_ownF {i k : Nat} {w : WA} : ∀ Dn σ H, sD c E (dOwnF i k w) Dn σ H → tAsg (tN c w) (gName i) Dn σ H := fun Dn σ H ⟨e, F, H0, F0, De, x, S, ⟨Fb, d0, hk, q⟩, K⟩ =>
  ⟨e, F, H0, _, x.ok, S, q, fun ds p vs H' F' ⟨hd, r⟩ x' hp hp' hF hr k => by
    subst hd
    cases k
    exact K.nx _ _ _ _ r (x.trans x') ((S.ext x.ok x').set_ownO i (some Fb) hp' hF (x.free hp) hr .nil fun j o es _ hj z => by
      obtain ⟨a, ws, h1, h2, _⟩ := S.ownO j o es hj
      rw [h1] at z
      cases z
      rw [hp] at h2; cases h2)⟩
/-- x.append(y), y a list of one's own of data without lists -/
@[simp] def dAppMv (i j k : Nat) : WS := fun De e => ∃ Fb d0 ds es, e[k]? = some (.fix false Fb d0) ∧ e[i]? = some (.ownO (some Fb) ds) ∧ e[j]? = some (.own es) ∧ i ≠ j ∧ noListA es = true ∧ ds.length < 1000000 ∧ De.nx ((e.set j (.val (.list es))).set i (.ownO (some Fb) (ds ++ [.list es])))
theorem xs_appMv {i j k : Nat} : ∀ Dn σ H, sD c E (dAppMv i j k) Dn σ H → tDrop (tBM c.K "list" rAppend (tVar i) (tCons (tVar j) tNil)) Dn σ H := fun Dn σ H ⟨e, F, H0, F0, De, x, S, ⟨Fb, d0, ds, es, hk, hi, hj, hij, hn, hl, q⟩, K⟩ => by
  have sb := (S.fix k false Fb d0 hk).1
  obtain ⟨a, vs, h1, h2, h3, h4, h5, h6⟩ := S.ownO i _ ds hi
  obtain ⟨b, ws, g1, g2, g3, g4, g5, g6⟩ := S.own j es hj
  have hab : a ≠ b := fun z => by
    subst z
    exact S.distO i j _ _ ds es a hij hi hj h1 g1
  have fb : Fb b = none := by
    cases z : Fb b with
    | none => rfl
    | some o => rw [sb b o z] at g3; cases g3
  refine ⟨.ref a, h1, .inl ⟨rfl, vs, SqL.of h2⟩, .ref b, g1, a, vs, .ref b, rfl, rfl, h2, len_lt (by rw [dpAll_length h6]; exact hl), ?_⟩
  have xf := x.frz g2 g3 g4 g5
  have S1 := S.frz hj g1 g2 g3 g6
  have ha : (upd F b (.lst ws)) a = none := by rw [upd_ne hab]; exact h3
  have hi' : (e.set j (.val (.list es)))[i]? = some (.ownO (some Fb) ds) := by rw [List.getElem?_set_ne (fun z => hij z.symm)]; exact hi
  have kk : RpAll c.K (cutO (upd F b (.lst ws)) (some Fb)) (vs ++ [.ref b]) (ds ++ [.list es]) :=
    dpAll_app (dpAll_same (cutO_grow (some Fb) (upd_keep g3)) _ _ h6) (.cons (.lst (cutF_some upd_same fun _ => fb) (rp_cutA es ws hn (dpAll_same (upd_keep g3) _ _ g6))) .nil)
  exact K.nx _ _ _ _ q (xf.mut h4 h2 ha h5 _) (S1.mutO hi' h1 ha h4 h5 kk)
/-- return x, x a list of one's own, of lists that are new -/
@[simp] def dRetFO (i : Nat) : WS := fun De e => ∃ Fb ds, e[i]? = some (.ownO (some Fb) ds) ∧ De.base Fb ∧ De.rf (.list ds)
theorem xs_retFO {i : Nat} : ∀ Dn σ H, sD c E (dRetFO i) Dn σ H → tRet (tVar i) Dn σ H := fun Dn σ H ⟨e, F, H0, F0, De, x, S, ⟨Fb, ds, h, hb, r⟩, K⟩ => by
  obtain ⟨a, vs, h1, h2, h3, h4, h5, h6⟩ := S.ownO i _ ds h
  have xf := x.frz h2 h3 h4 h5
  have b0 := K.base Fb hb
  have f0 : F0 a = none := by
    cases q0 : F0 a with
    | none => rfl
    | some o => rw [x.grow a o q0] at h3; cases h3
  have gr : Same (cutF F Fb) (cutF (upd F a (.lst vs)) F0) := cutF_grow (upd_keep h3) fun b h1 _ => by
    cases q0 : F0 b with
    | none => rfl
    | some o => rw [b0.1 b o q0] at h1; cases h1
  exact ⟨.ref a, h1, K.rf _ _ _ _ r xf (.inl (.lst (cutF_some upd_same fun _ => f0) (dpAll_same gr _ _ h6)))⟩
end
section
variable {P : Program} {w : World} {g : Glb} {mg : Str → Option Value} {base : Heap} {x : Str} {st : Stmt} {f : Addr} {fd : FuncData} {N ps : List Str} {k : Nat} {wb : WS}
/-- a def that hands back data whose lists are new, told what was there -/
theorem calFB {f0 : Fd} (Fn : FunP g.K x st f fd) (mgf : mg x = some (.ref f)) (b : Binds g.K fd ps []) (S : FnScope N ps (defScope st)) (hlen : ∀ ds R, f0 ds R → ds.length = ps.length)
    (hb : ∀ (cdv : Value) (A : Around) (outer : List PySem.Env) (s : Shared) (H : Hp) (E : XK) (r a : Addr) (ns : List Int), Room k (A.deeper (envOfC x (defScope st) s.heap.objs.size f cdv)) →
      PSs (cxOf CX0 P w g.K mg base N x (defScope st) f cdv A outer s H E).nox (defBody st) (sD ⟨g, r, a, ns⟩ E wb))
    (hp : ∀ ds R, f0 ds R → ∀ B : Hp → Prop, wb { nx := fun _ => R .none, rt := fun d => noListD d = true ∧ R d, rf := R, base := B, pin := true } (startD N ds)) : C8.Cal P w g.K mg base (k + 1) x (spF g f0) [] := by
  refine ⟨f, fd, ps, [], Fn.ok S (fun vs H Q E h => ?_) (fun cdv A outer s H vs Q E hr h => ?_), mgf, Fn.kp, b, .nil⟩
  · obtain ⟨c, F, ds, R, _, _, rv, h, _⟩ := h
    rw [rv.length]; exact hlen ds R h
  · obtain ⟨⟨g', r, a, ns⟩, F, ds, R, hg, W, rv, h, P'⟩ := h
    have hg' : g' = g := hg
    subst hg'
    refine ⟨_, (hb cdv A outer s H E r a ns hr).nox, startD N ds, F, H, F, _, Ext.refl W, rep_start rv, hp ds R h (fun Fb => Same F Fb ∧ ∀ b, F b = none → Fb b ≠ none → H b = none), ?_⟩
    refine ⟨fun e σ H' F' q x S' => P' _ _ H' F' q x .non, fun d v H' F' ⟨nd, q⟩ x rv => P' d v H' F' q x ?_, fun _ _ _ _ _ z => z.elim, fun _ _ _ _ z => z.elim, fun _ _ _ _ z => z.elim, fun _ _ _ z => z.elim, fun Fb z => z, fun d v H' F' q x rv => P' d v H' F' q x rv, fun _ Fb h1 h2 => ⟨h1, h2⟩⟩
    have dd : d ≠ .dict [] := fun z => by rw [z] at nd; simp [noListD] at nd
    exact .inl (rp_cut d v nd (rv.dp dd))
end
end FW
/-! FWS: sets of numbers: {e for a in p for b in q}, and sorted of a set of any size. -/
namespace FWS
open PySem PySem.Spec PyProof.Rows L2
abbrev dbl (e a p b q : Expr) (sc : Scope) (pos : Pos) : Expr :=
  .SetComp e [⟨a, p, [], 0⟩, ⟨b, q, [], 0⟩] sc pos
/-- a turn of the first clause -/
theorem turn_a (e a p b q : Expr) (sc : Scope) (pos : Pos) (it acc : Value) (env : PySem.Env) :
    compTurn (dbl e a p b q sc pos) 0 it acc env = (do
      standAt p.pos
      match ← pyNext it with
      | none => pure (.done .next)
      | some v =>
        letOwnedTupleGo a it v
        assign a env v
        let mut go := true
        for c in ([] : List Expr) do
          if go then go ← isTrue c env (eval c env)
        if go then
          let y ← eval q env
          standAt q.pos
          let y ← foldedSetIterable q env y
          let j ← holding [y] (pyIter y)
          let _ ← runOwn (.compStart (dbl e a p b q sc pos) 1 j acc env) env
        again (.compLoop (dbl e a p b q sc pos) 0 it acc env)) := by rfl
/-- .. of the second -/
theorem turn_b (e a p b q : Expr) (sc : Scope) (pos : Pos) (it acc : Value) (env : PySem.Env) :
    compTurn (dbl e a p b q sc pos) 1 it acc env = (do
      standAt q.pos
      match ← pyNext it with
      | none => pure (.done .next)
      | some v =>
        letOwnedTupleGo b it v
        assign b env v
        let mut go := true
        for c in ([] : List Expr) do
          if go then go ← isTrue c env (eval c env)
        if go then
          (do let y ← eval e env; standAt e.pos; let _ ← call (.builtin "set.add") [acc, y])
        again (.compLoop (dbl e a p b q sc pos) 1 it acc env)) := by rfl
section
variable {P : Program} {w : World} {A : Around} {R : Result → Shared → Prop} {s : Shared}
variable {e a p b q : Expr} {sc : Scope} {pos : Pos} {it acc : Value} {env : PySem.Env}
abbrev Bad (P : Program) (w : World) (A : Around) (env : PySem.Env) (R : Result → Shared → Prop) : Value → Shared → Prop :=
  notedBy (model P w) A env fun x s' => R (.error x) s'
theorem loop_a (hq : ∀ x, foldedSetIterable q env x = pure x) (I : Nat → Shared → Prop)
    (turn : ∀ n s, I n s → wpAny (model P w) A (pyNext it) (fun r s1 => match r with
      | none => R (.ok .next) s1
      | some v => wpAny (model P w) A (letOwnedTupleGo a it v) (fun _ s2 =>
          wpAny (model P w) A (assign a env v) (fun _ s3 =>
            wpAny (model P w) A (eval q env) (fun y s4 =>
              wpAny (model P w) A (pyIter y) (fun j s5 =>
                codeAny (model P w) A (.compStart (dbl e a p b q sc pos) 1 j acc env) (fun r s' => match r with
                  | .ok _ => ∃ m, m < n ∧ I m s'
                  | .error _ => False) s5)
              (Bad P w A env R) s4) (Bad P w A env R) s3) (Bad P w A env R) s2) (Bad P w A env R) s1) (Bad P w A env R) s)
    (n : Nat) (h : I n s) : codeAny (model P w) A (.compLoop (dbl e a p b q sc pos) 0 it acc env) R s := by
  refine codeAny_loop rfl I (fun k t hI => ?_) n h
  show wpAny _ A ((compTurn (dbl e a p b q sc pos) 0 it acc env).onRaise (fun x => do noteFrame x env; theTreesLotGoes x)) _ _ t
  refine wpAny_noted ?_
  rw [turn_a]
  refine wpAny_bind (wpAny_standAt (wpAny_bind (wpAny_mono (turn k t hI) (fun r t1 g1 => ?_) fun _ _ z => z)))
  cases r with
  | none => exact wpAny_pure g1
  | some v =>
    refine wpAny_bind (wpAny_mono g1 (fun _ t2 g2 => ?_) fun _ _ z => z)
    refine wpAny_bind (wpAny_mono g2 (fun _ t3 g3 => ?_) fun _ _ z => z)
    show wpAny _ A (pure true >>= _) _ _ t3
    refine wpAny_bind (wpAny_pure ?_)
    refine wpAny_bind (wpAny_mono g3 (fun y t4 g4 => ?_) fun _ _ z => z)
    refine wpAny_bind (wpAny_standAt (wpAny_bind (wpAny_of_eq (hq y) (wpAny_bind (wpAny_holding (wpAny_mono g4 (fun j t5 g5 => ?_) fun _ _ z => z))))))
    refine wpAny_bind (wpAny_runOwn ?_)
    rw [Around.mark_none]
    refine codeAny_mono g5 fun r t6 g6 => ?_
    cases r with
    | ok f =>
      first
        | exact wpAny_pure ⟨rfl, g6⟩
        | exact wpAny_bind (wpAny_pure (wpAny_pure ⟨rfl, g6⟩))
    | error x => exact g6.elim
theorem loop_b (I : Nat → Shared → Prop)
    (turn : ∀ n s, I n s → wpAny (model P w) A (pyNext it) (fun r s1 => match r with
      | none => R (.ok .next) s1
      | some v => wpAny (model P w) A (letOwnedTupleGo b it v) (fun _ s2 =>
          wpAny (model P w) A (assign b env v) (fun _ s3 =>
            wpAny (model P w) A (eval e env) (fun y s4 =>
              wpAny (model P w) A (call (.builtin "set.add") [acc, y]) (fun _ s5 => ∃ m, m < n ∧ I m s5)
              (Bad P w A env R) s4) (Bad P w A env R) s3) (Bad P w A env R) s2) (Bad P w A env R) s1) (Bad P w A env R) s)
    (n : Nat) (h : I n s) : codeAny (model P w) A (.compLoop (dbl e a p b q sc pos) 1 it acc env) R s := by
  refine codeAny_loop rfl I (fun k t hI => ?_) n h
  show wpAny _ A ((compTurn (dbl e a p b q sc pos) 1 it acc env).onRaise (fun x => do noteFrame x env; theTreesLotGoes x)) _ _ t
  refine wpAny_noted ?_
  rw [turn_b]
  refine wpAny_bind (wpAny_standAt (wpAny_bind (wpAny_mono (turn k t hI) (fun r t1 g1 => ?_) fun _ _ z => z)))
  cases r with
  | none => exact wpAny_pure g1
  | some v =>
    refine wpAny_bind (wpAny_mono g1 (fun _ t2 g2 => ?_) fun _ _ z => z)
    refine wpAny_bind (wpAny_mono g2 (fun _ t3 g3 => ?_) fun _ _ z => z)
    show wpAny _ A (pure true >>= _) _ _ t3
    refine wpAny_bind (wpAny_pure ?_)
    refine wpAny_bind (wpAny_bind (wpAny_mono g3 (fun y t4 g4 => ?_) fun _ _ z => z))
    refine wpAny_bind (wpAny_standAt (wpAny_bind (wpAny_mono g4 (fun _ t5 g5 => ?_) fun _ _ z => z)))
    exact wpAny_pure (wpAny_pure ⟨rfl, g5⟩)
theorem start_b (h0 : codeAny (model P w) A (.compLoop (dbl e a p b q sc pos) 1 it acc env) R s)
    (h : wpAny (model P w) A (pyIter it) (fun j s' => codeAny (model P w) A (.compLoop (dbl e a p b q sc pos) 1 j acc env) R s')
      (Bad P w A env R) s) : codeAny (model P w) A (.compStart (dbl e a p b q sc pos) 1 it acc env) R s := by
  refine codeAny_of_tree ?_
  show wpAny _ _ ((compStart (dbl e a p b q sc pos) 1 it acc env).onRaise (fun x => do noteFrame x env; standAt theWindowsPlace)) _ _ s
  refine wpAny_notedAt ?_
  unfold compStart
  show wpAny _ A (ask >>= _) _ _ s
  refine wpAny_bind (wpAny_askSetting (wpAny_ite ?_))
  split
  · first
      | exact wpAny_bind (wpAny_pure (wpAny_pure (And.intro rfl h0)))
      | exact wpAny_pure (And.intro rfl h0)
  · refine wpAny_bind (wpAny_rule ?_)
    show wpAny _ A (standAt q.pos >>= _) _ _ s
    exact wpAny_bind (wpAny_standAt (wpAny_bind (wpAny_mono h (fun j t g => wpAny_pure (And.intro rfl g)) fun _ _ z => z)))
end
section
variable {X : Cx} {pins : List (Addr × Obj)} {σ : L2.St} {H : Hp} {s : Shared} {D : Addr}
/-- the set behind one more number -/
abbrev more (S : Int → Bool) (k : Int) : Int → Bool := fun j => S j || decide (j = k)
theorem add_ok {E : Value → Shared → Prop} {S : Int → Bool} {n : Nat} {k : Int} {tk : Tok} {Q : Value → Shared → Prop} (I : Inv X pins σ H s)
    (hD : H D = some (SetO X.w D S n)) (room : n + 1 < scanBound)
    (h : ∀ t, Inv X pins σ (upd H D (SetO X.w D (more S k) (if S k = true then n else n + 1))) t → Q .none t) :
    wpAny (model X.prog X.w) X.A (call (.builtin "set.add") [.ref D, .int k tk]) Q E s := by
  refine setR_add (setO_get I hD) room fun h' sb new => h _ ?_
  have there : ∃ u, h'.get? D = some u := by
    have ⟨o, _, _, _, ho, _⟩ := new
    exact ⟨o, ho⟩
  exact I.write (e := D) (t' := s.toks + 1) (by rw [hD]; trivial) (.inl rfl) (fun b u hb hu => (sb.2 b hb).trans hu) there (setO_new new)
/-- {e for a in p for b in q}: who walks, what is put in -/
def tSc (w : World) (wi : TI) (g : TG) (wi1 : TI) (g1 : TG) (te : TE) (vs vs1 : List Nat) : TE := fun σ H Q =>
  wi σ H fun J H1 => ∀ D, H1 D = none → ∃ W : Nat → Nat → Hp → Prop,
    (∃ m, W 0 m (upd H1 D (SetO w D (fun _ => false) 0))) ∧ ∀ i m H, W i m H →
      (J.stop i H ∧ Q (.ref D) H) ∨
      (J.go i H ∧ ∃ Nx : Hp → Prop, (∀ H', Nx H' → ∃ m', m' < m ∧ W (i + 1) m' H') ∧
        ∀ x H', J.yld i H x H' → g x (wipe σ vs) H' fun σ2 H2 => wipe σ2 vs = wipe σ vs ∧
          wi1 σ2 H2 fun J1 H4 => ∃ W1 : Nat → Nat → Hp → Prop, (∃ m, W1 0 m H4) ∧ ∀ j k H, W1 j k H →
            (J1.stop j H ∧ Nx H) ∨
            (J1.go j H ∧ ∃ N1 : Hp → Prop, (∀ H', N1 H' → ∃ k', k' < k ∧ W1 (j + 1) k' H') ∧
              ∀ x H', J1.yld j H x H' → g1 x (wipe σ2 vs1) H' fun σ3 H5 => wipe σ3 vs1 = wipe σ2 vs1 ∧
                te σ3 H5 fun y H7 => ∃ k S n, y = .int k ∧ H7 D = some (SetO w D S n) ∧ n + 1 < scanBound ∧
                  N1 (upd H7 D (SetO w D (more S k) (if S k = true then n else n + 1)))))
theorem pe_sc {e a p b q : Expr} {sc : Scope} {own : List (Str × Nat)} {vs1 : List Nat} {pos : Pos} {wi wi1 : TI} {g g1 : TG} {te : TE}
    (hc : X.calm = true) (hN : X.N.Nodup) (hi : PI X a p wi) (ok : BlkOk X.N X.env.scope sc own) (hv : ∀ i ∈ vs1, i ∈ own.map (·.2))
    (hg : ∀ (s : Shared) (H : Hp) (C : Addr) (cl : List (Str × Addr)) (fp : List Addr), PG (X.blk s H sc (compEnvC sc cl C X.env) fp) a g)
    (hj : ∀ (s : Shared) (H : Hp) (C : Addr) (cl : List (Str × Addr)) (fp : List Addr), PI (X.blk s H sc (compEnvC sc cl C X.env) fp) b q wi1)
    (hg1 : ∀ (s : Shared) (H : Hp) (C : Addr) (cl : List (Str × Addr)) (fp : List Addr), PG (X.blk s H sc (compEnvC sc cl C X.env) fp) b g1)
    (he : ∀ (s : Shared) (H : Hp) (C : Addr) (cl : List (Str × Addr)) (fp : List Addr), PE (X.blk s H sc (compEnvC sc cl C X.env) fp) e te)
    (hp : ∀ x, foldedSetIterable p X.env x = pure x := by intro _; rfl) (hq : ∀ env x, foldedSetIterable q env x = pure x := by intro _ _; rfl) :
    PE X (dbl e a p b q sc pos) (tSc X.w wi g wi1 g1 te (own.map (·.2)) vs1) := by
  refine ⟨fun pins s σ H Q I h => ?_⟩
  rw [arm_eval_SetComp]
  show wpAny _ _ (comprehension (dbl e a p b q sc pos) sc X.env _ (newSet (.type "set")) false (eval p X.env)) _ _ s
  have hfree : ∀ y ∈ sc.names, y.2 = .free → ∃ c, X.env.cells.lookup y.1 = some c := fun y hy z => by
    rcases ok.free y hy z with k | k
    · exact I.ok.has _ (.inl k)
    · exact I.ok.has _ (.inr k)
  refine wpAny_comprehension_free (use := none) rfl hp (closure_ok hfree) ok.kind (fun y hy z => by rw [ok.uniq y hy, z])
    (thn (hi.run pins s σ H _ I h) fun xv t1 hx => thn hx fun iv t2 h2 => ?_)
  obtain ⟨it, fp, tn, J, H2, rfl, I2, T, st2, f2, q2⟩ := h2
  refine wpAny_newSet_raw fun led hled => newEnv_comp ?_
  subst hled
  generalize hD : t2.heap.objs.size = D
  have hDn : H2 D = none := I2.hok.fresh (Nat.le_of_eq hD)
  obtain ⟨W, ⟨m0, w0⟩, turn⟩ := q2 D hDn
  generalize ht3 : ({ t2 with heap := t2.heap.push { cls := .type "set", dict := none, data := .set #[] 0 (.fresh 0 0 (!(X.w.params.followText "set-order"))) } } : Shared) = t3
  have hp3 : t3.heap = t2.heap.push { cls := .type "set", dict := none, data := .set #[] 0 (.fresh 0 0 (!(X.w.params.followText "set-order"))) } := by rw [← ht3]
  have I3 : Inv X pins σ (upd H2 D (SetO X.w D (fun _ => false) 0)) t3 := by
    rw [← ht3]
    refine I2.laid (t' := t2.toks) (fun b o z => Heap.get?_push_of_some _ z) (Nat.le_of_eq hD) (setO_new ?_)
    rw [← hD]
    exact setR_fresh X.w
  have small : ∀ b ∈ fp, b < t2.heap.objs.size := fun b hb => by
    obtain ⟨o, z, _⟩ := T.obj _ _ st2 b hb
    exact Heap.lt_size z
  have f3 : ∀ b ∈ fp, FpOk X pins (upd H2 D (SetO X.w D (fun _ => false) 0)) b ∧ b < t3.heap.objs.size := fun b hb => by
    have lt := small b hb
    refine ⟨⟨?_, (f2 b hb).2⟩, by rw [hp3, Heap.size_push]; exact Nat.lt_succ_of_lt lt⟩
    rw [upd_ne (by rw [← hD]; exact Nat.ne_of_lt lt)]
    exact (f2 b hb).1
  have st3 : tn 0 t3.heap := T.keep _ _ _ st2 fun b _ o z => by rw [hp3]; exact Heap.get?_push_of_some _ z
  have I4 := block_start I3 ok hN f3
  generalize hH3 : upd H2 D (SetO X.w D (fun _ => false) 0) = H3 at I3 I4 w0 f3
  generalize hcl : cellsFrom (t3.heap.objs.size + 1) sc.names (cloFrom X.env.cells sc.names []) = cl at I4
  have pg := hg t3 H3 t3.heap.objs.size cl fp
  have pe := he t3 H3 t3.heap.objs.size cl fp
  have pj := hj t3 H3 t3.heap.objs.size cl fp
  have pg1 := hg1 t3 H3 t3.heap.objs.size cl fp
  show codeAny _ _ (.compStart (dbl e a p b q sc pos) 0 (.ref it) (.ref D) (compEnvC sc cl t3.heap.objs.size X.env))
    (compPost (model X.prog X.w) X.A X.xe none _ (.ref D) t3.heap.objs.size) { t3 with heap := pushCells (t3.heap.push { cls := .type "dict", data := .dict #[] }) sc.names }
  generalize hce : compEnvC sc cl t3.heap.objs.size X.env = ce at I4 pg pe pj pg1 ⊢
  have cL : ce.locals = t3.heap.objs.size := by subst hce; rfl
  generalize ht4 : ({ t3 with heap := pushCells (t3.heap.push { cls := .type "dict", data := .dict #[] }) sc.names } : Shared) = t4 at I4 ⊢
  have st4 : tn 0 t4.heap := T.keep _ _ _ st3 fun b _ o z => by
    rw [← ht4]
    exact pushCells_keeps _ _ _ _ (Heap.get?_push_of_some _ z)
  have nfp : ∀ b ∈ fp, H3 b = none := fun b hb => (f3 b hb).1.1
  -- the iterator's objects, seen from the block
  have stat : ∀ {σ' : L2.St} {H' : Hp} {s' : Shared}, Inv (X.blk t3 H3 sc ce fp) [] σ' H' s' → (∀ b ∈ fp, H' b = none) →
      ∀ b ∈ fp, FpOk (X.blk t3 H3 sc ce fp) [] H' b := fun {σ' H' s'} I' hn b hb =>
    ⟨hn b hb, (I'.ok.exf b hb).1, I'.ok.exfs b hb, .inl hb, fun x c z => (I'.ok.exf b hb).2 x c z,
      fun p hp => absurd (show p ∈ ([] : List (Addr × Obj)) ++ [] from hp) (by simp)⟩
  have run : codeAny (model X.prog X.w) X.A (.compLoop (dbl e a p b q sc pos) 0 (.ref it) (.ref D) ce)
      (compPost (model X.prog X.w) X.A X.xe none (EP X pins σ Q) (.ref D) t3.heap.objs.size) t4 := by
    refine loop_a (hq ce) (fun n s' => ∃ i H', Inv (X.blk t3 H3 sc ce fp) [] (wipe σ (own.map (·.2))) H' s' ∧ tn i s'.heap ∧
      (∀ b ∈ fp, H' b = none) ∧ W i n H') ?_ m0 ⟨0, H3, I4, st4, nfp, w0⟩
    rintro n s5 ⟨i, H5, I5, st5, n5, w5⟩
    rcases turn i n H5 w5 with ⟨stop, over⟩ | ⟨go, Nx, hNx, step⟩
    · refine thnF (T.done (X.blk t3 H3 sc ce fp) rfl rfl rfl hc i [] s5 _ H5 (fun _ _ => False) I5 (stat I5 n5) st5 stop) fun r s6 ⟨hr, I6⟩ => ?_
      subst hr
      have I7 : Inv X pins σ H5 s6 := I3.call' (ch := fp) I6.os I6.base I6.hok I6.bare fun b hb =>
        ⟨(f3 b hb).1.2.2.2.1, (f3 b hb).1.2.1, (f3 b hb).1.2.2.2.2.1, (f3 b hb).1.2.2.2.2.2⟩
      have nC : H5 t3.heap.objs.size = none := by
        have z : H5 ce.locals = none := I6.free
        rwa [cL] at z
      obtain ⟨m, hn, _⟩ := I6.loc
      have hn : s6.heap.Ns ce.locals m := hn
      rw [cL] at hn
      refine ⟨m, hn, fun h'' sb => ?_⟩
      obtain ⟨k0, k1, k2, k3, k4, k5⟩ := I3.fpOk (Nat.le_refl _) nC
      exact ⟨.ref D, H5, I7.turned (t' := s6.toks) (fun b o hb z => (sb.2 b hb).trans z) k0 k1 k3 k4 k5, rfl, over⟩
    · refine thnF (T.item (X.blk t3 H3 sc ce fp) rfl rfl rfl hc i [] s5 _ H5 (fun _ _ => False) I5 (stat I5 n5) st5 go) fun r s6 ⟨u, hr, h6⟩ => ?_
      subst hr
      refine thnF h6 fun _ s7 ⟨x, H7, I7, r7, y7, st7, n7⟩ => ?_
      have P7 := I7.pinned (stat I7 n7) (T.obj _ _ st7)
      refine thnF (pg.run _ s7 _ H7 x u _ P7 r7 (step x H7 y7)) fun _ s8 ⟨σ8, H8, I8, hw8, q8⟩ => ?_
      -- the turn's end
      have close : ∀ {σ9 : L2.St} {s' : Shared} {H' : Hp}, Inv (X.blk t3 H3 sc ce fp) ([] ++ pinsAt fp s7.heap) σ9 H' s' → (wipe σ (own.map (·.2))).length = σ9.length →
          (∀ (j : Nat) v, (wipe σ (own.map (·.2)))[j]? = some (some v) → σ9[j]? = some (some v)) → Nx H' →
          ∃ m, m < n ∧ ∃ i H', Inv (X.blk t3 H3 sc ce fp) [] (wipe σ (own.map (·.2))) H' s' ∧ tn i s'.heap ∧ (∀ b ∈ fp, H' b = none) ∧ W i m H' := fun {σ9 s' H'} I' hl hk nx => by
        obtain ⟨m', hm, w'⟩ := hNx H' nx
        have same : ∀ b ∈ fp, ∀ o, s7.heap.get? b = some o → s'.heap.get? b = some o ∧ H' b = none := fun b hb o z =>
          have y := I'.pin (b, o) (List.mem_append_right _ (List.mem_append_right _ (mem_pinsAt hb z)))
          ⟨y.1, y.2.1⟩
        refine ⟨m', hm, i + 1, H', (I'.unpinned (pins := [])).weak hl hk, T.keep _ _ _ st7 fun b hb o z => (same b hb o z).1, fun b hb => ?_, w'⟩
        obtain ⟨o, z, _⟩ := T.obj _ _ st7 b hb
        exact (same b hb o z).2
      have hl8 : (wipe σ (own.map (·.2))).length = σ8.length := by rw [← hw8, wipe_length]
      have hk8 : ∀ (j : Nat) v, (wipe σ (own.map (·.2)))[j]? = some (some v) → (wipe σ8 vs1)[j]? = some (some v) := fun j v z => by
        rw [← hw8] at z
        obtain ⟨z1, z2⟩ := wipe_some z
        rw [wipe_out fun y => z2 (hv j y)]
        exact z1
      refine thnF (pj.run _ s8 σ8 H8 _ I8 q8) fun yv s9 hy => thnF hy fun jv s10 h10 => ?_
      obtain ⟨jt, fq, tq, J1, H10, rfl, I10, T1, st10, f10, W1, ⟨m1, w1⟩, turn1⟩ := h10
      have stat1 : ∀ {H' : Hp}, (∀ b ∈ fq, H' b = none) → ∀ b ∈ fq, FpOk (X.blk t3 H3 sc ce fp) ([] ++ pinsAt fp s7.heap) H' b := fun hn b hb => ⟨hn b hb, (f10 b hb).2⟩
      have inner : codeAny (model X.prog X.w) X.A (.compLoop (dbl e a p b q sc pos) 1 (.ref jt) (.ref D) ce)
          (fun r s' => match r with
            | .ok _ => ∃ m, m < n ∧ ∃ i H', Inv (X.blk t3 H3 sc ce fp) [] (wipe σ (own.map (·.2))) H' s' ∧ tn i s'.heap ∧ (∀ b ∈ fp, H' b = none) ∧ W i m H'
            | .error _ => False) s10 := by
        refine loop_b (fun k s' => ∃ j H', Inv (X.blk t3 H3 sc ce fp) ([] ++ pinsAt fp s7.heap) (wipe σ8 vs1) H' s' ∧ tq j s'.heap ∧ (∀ b ∈ fq, H' b = none) ∧ W1 j k H')
          ?_ m1 ⟨0, H10, I10.weak (wipe_length _ _) (fun j v z => (wipe_some z).1), st10, fun b hb => (f10 b hb).1, w1⟩
        rintro k s12 ⟨j, H12, I12, st12, n12, w12⟩
        rcases turn1 j k H12 w12 with ⟨stop1, nx1⟩ | ⟨go1, N1, hN1, step1⟩
        · refine thnF (T1.done (X.blk t3 H3 sc ce fp) rfl rfl rfl hc j _ s12 (wipe σ8 vs1) H12 (fun _ _ => False) I12 (stat1 n12) st12 stop1) fun r s13 ⟨hr, I13⟩ => ?_
          subst hr
          exact close I13 (hl8.trans (wipe_length σ8 vs1).symm) hk8 nx1
        · refine thnF (T1.item (X.blk t3 H3 sc ce fp) rfl rfl rfl hc j _ s12 (wipe σ8 vs1) H12 (fun _ _ => False) I12 (stat1 n12) st12 go1) fun r s13 ⟨u1, hr, h13⟩ => ?_
          subst hr
          refine thnF h13 fun _ s14 ⟨x1, H14, I14, r14, y14, st14, n14⟩ => ?_
          have P14 := I14.pinned (stat1 n14) (T1.obj _ _ st14)
          refine thnF (pg1.run _ s14 (wipe σ8 vs1) H14 x1 u1 _ P14 r14 (step1 x1 H14 y14)) fun _ s15 ⟨σ15, H15, I15, hw15, q15⟩ => ?_
          refine thnF (pe.run _ s15 σ15 H15 _ I15 q15) fun z s16 ⟨yv, H16, I16, r16, k16, S, c16, ey, hD16, room, nx⟩ => ?_
          subst ey
          obtain ⟨tk, rfl⟩ := r16
          refine add_ok (X := X.blk t3 H3 sc ce fp) I16 hD16 room fun s17 I17 => ?_
          obtain ⟨m', hm, w'⟩ := hN1 _ nx
          have same : ∀ b ∈ fq, ∀ o, s14.heap.get? b = some o → s17.heap.get? b = some o ∧ (upd H16 D (SetO X.w D (more S k16) (if S k16 = true then c16 else c16 + 1))) b = none := fun b hb o z =>
            have y := I17.pin (b, o) (List.mem_append_right _ (List.mem_append_right _ (mem_pinsAt hb z)))
            ⟨y.1, y.2.1⟩
          refine ⟨m', hm, j + 1, _, I17.unpinned.weak (by rw [← hw15, wipe_length]) (fun j v z => by rw [← hw15] at z; exact (wipe_some z).1),
            T1.keep _ _ _ st14 fun b hb o z => (same b hb o z).1, fun b hb => ?_, w'⟩
          obtain ⟨o, z, _⟩ := T1.obj _ _ st14 b hb
          exact (same b hb o z).2
      exact start_b inner (T1.self X.A 0 _ _ _ st10 inner)
  exact codeAny_compStart_set run (T.self X.A 0 _ _ _ st4 run)
end
end FWS
/-! ### sorted of a set, any number of members -/
namespace FWS
open PySem PySem.Spec PyProof.Rows L2
section
variable {P : Program} {w : World} {A : Around} {E : Value → Shared → Prop} {s : Shared} {a : Addr}
theorem all_ints {l : List Value} (h : ∀ v ∈ l, ∃ k tk, v = Value.int k tk) : IntsAre l (l.map SrtO.iv) := SrtO.ints_iv h
theorem sorted_big {S : Int → Bool} {n : Nat} {Q : Value → Shared → Prop} (R : SetR w s.heap a S n) (hh : A.handled = none)
    (hQ : ∀ t p (out : Array Value) (c : Nat) (ns : List Int), (∀ b o, s.heap.get? b = some o → t.heap.get? b = some o) → t.gens = s.gens → t.os = s.os → s.heap.objs.size ≤ p →
      t.heap.get? p = some (seqObj "list" out c) → IntsAre out.toList ns → ns.Pairwise (· < ·) → (∀ k, k ∈ ns ↔ S k = true) → ns.length = n → Q (.ref p) t) :
    wpAny (model P w) A (call (.builtin "sorted") [.ref a]) Q E s := by
  obtain ⟨o, es, ep, tb, ho, hex, hd, good, nd, mem, hb, hf, hn, hr, hl⟩ := R
  refine Calls.call_function_entry kind_sorted plain_sorted entry_sorted (args_sorted1 _) ?_
  unfold Builtin.«sorted»
  refine wpAny_bind (m := checkCount "sorted" 1 1 _) (wpAny_pure ?_)
  refine wpAny_bind (collect_set (A := A.in1) hh ⟨o, ho, hex.1, hd⟩ hf hb hr hl fun t1 vs k1 hz g1 o1 pm => ?_)
  have len : vs.length = n := by rw [pm.length_eq, List.length_map, Array.length_toList]; exact hn
  have small : vs.length ≤ sizeLine := by
    rw [len, ← hn]
    exact fits_of_scanBound hb
  have isI : IntsAre vs (vs.map SrtO.iv) := all_ints fun v hv => by
    obtain ⟨x, hx, q⟩ := List.mem_map.mp (pm.mem_iff.mp hv)
    obtain ⟨k, tk, h1, _⟩ := good x hx
    exact ⟨k, tk, by rw [← q]; exact h1⟩
  have perm : (vs.map SrtO.iv).Perm (es.toList.map keyOf) := by
    have q := pm.map SrtO.iv
    rw [List.map_map] at q
    exact q
  refine wpAny_bind (wpAny_newList ?_ small)
  have hoL : (t1.heap.push (seqObj "list" vs.toArray 0)).get? t1.heap.objs.size = some (seqObj "list" vs.toArray 0) := Heap.get?_push_size _ rfl
  refine wpAny_bind (wpAny_holding (wpAny_call_entry slot_list_sort ⟨_, hoL, rfl⟩ entry_list_sort
    (SrtO.list_sort_ord SrtO.swo_int hoL small (fun h2 => SrtO.ints_sortable isI h2) fun out hs hb => ⟨_, rfl, ?_⟩) (args_list_sort _)))
  obtain ⟨j1, j2, j3⟩ := SrtO.ints_out isI hs hb
  obtain ⟨c, hc⟩ := sortedHeap_at (vs := vs) (out := out.toArray) hoL
  have pn : (out.map SrtO.iv).Perm (es.toList.map keyOf) := j2.trans perm
  refine wpAny_pure ⟨_, rfl, hQ _ t1.heap.objs.size out.toArray c (out.map SrtO.iv) (fun b u z => ?_) g1 o1 hz hc j1 (lt_of_le_nodup _ j3 (pn.nodup_iff.mpr nd)) (fun k => by rw [pn.mem_iff, ← mem k]) ?_⟩
  · have q := k1 b u z
    have lt := Heap.lt_size q
    show (sortedHeap (t1.heap.push (seqObj "list" vs.toArray 0)) t1.heap.objs.size vs out.toArray).get? b = some u
    rw [sortedHeap_old (Nat.ne_of_lt lt) (by rw [size_push']; exact Nat.lt_succ_of_lt lt)]
    exact Heap.get?_push_of_some _ q
  · rw [pn.length_eq, List.length_map, Array.length_toList]; exact hn
end
section
variable {X : Cx}
/-- sorted(set) -/
def rSrtS (w : World) : List V → Hp → VK → Prop := fun vs H Q => ∃ (a : Addr) (S : Int → Bool) (n : Nat), vs = [V.ref a] ∧ H a = some (SetO w a S n) ∧
  ∀ (ns : List Int) (p : Addr), ns.Pairwise (· < ·) → (∀ k : Int, k ∈ ns ↔ S k = true) → ns.length = n → H p = none → Q (.ref p) (upd H p (.lst (ns.map V.int)))
theorem cr_srtS (hc : X.calm = true) : CallR X (.builtin "sorted") (rSrtS X.w) := by
  intro pins s σ H vs us Q I r h
  obtain ⟨a, S, n, rfl, ha, q⟩ := h
  have R := setO_get I ha
  rw [Vals.ref1 r]
  refine sorted_big R (I.ok.hd hc) fun t p out c ns k g o hp hg hi hs hm hl => ?_
  have room : (ns.map V.int).length ≤ sizeLine := by
    obtain ⟨_, es, _, _, _, _, _, _, _, _, hb, _, hn, _⟩ := R
    rw [List.length_map, hl, ← hn]
    exact fits_of_scanBound hb
  have fresh : H p = none := I.hok.fresh hp
  have J : Inv X pins σ (upd H p (.lst (ns.map V.int))) { s with heap := t.heap, gens := t.gens, drawn := t.drawn, toks := t.toks } :=
    I.call (ch := []) (Un.laid k hp fresh) (I.hok.laid k hp ⟨room, out.toList, c, vals_of_ints hi, hg⟩) (by rw [g]; exact I.bare) (fun _ z => nomatch z)
  have same : t = { s with heap := t.heap, gens := t.gens, drawn := t.drawn, toks := t.toks } := by
    cases t
    cases s
    cases o
    rfl
  rw [same]
  exact ⟨.ref p, _, J, rfl, q ns p hs hm hl fresh⟩
end
end FWS
/-! ### set(l), l a list of numbers -/
namespace FWS
open PySem PySem.Spec PyProof.Rows L2
/-- a set at its start -/
abbrev ob0 (w : World) : Obj := { cls := .type "set", dict := none, data := .set #[] 0 (.fresh 0 0 (!w.params.followText "set-order")) }
section
variable {P : Program} {w : World} {A : Around} {E : Value → Shared → Prop} {s : Shared}
theorem set_of_list {l : Addr} {its : Array Value} (ns : List Int) {Q : Value → Shared → Prop} (hh : A.handled = none) (hl : s.heap.IsList l its)
    (hit : IntsAre its.toList ns) (room : ns.length + 1 < scanBound)
    (k : ∀ (h' : Heap) (tk c : Nat), SetR w h' s.heap.objs.size (fun j => decide (j ∈ ns)) c → c ≤ ns.length →
      (∀ b o, s.heap.get? b = some o → h'.get? b = some o) → Q (.ref s.heap.objs.size) { s with heap := h', toks := tk }) :
    wpAny (model P w) A (call (.type "set") [.ref l]) Q E s := by
  have hsz : its.size = ns.length := by
    have q := IntsAre.length hit
    rwa [Array.length_toList] at q
  obtain ⟨c, tl, hmro⟩ := F.called_set.mro
  have g1 := F.called_set.made
  have g2 := F.called_set.sub
  refine wpAny_call (codeAny_of_tree ?_)
  show wpAny _ _ (callAny (.type "set") _) _ _ _
  refine wpAny_pure ⟨Code.quiet_builtin _ (by decide +kernel), ?_⟩
  refine codeAny_builtin F.entry_type_call ?_
  rw [Around.under_plain (weight_type_call_type "set" [.ref l] []) rfl]
  have g3 := F.called_set.notType
  have g4 := F.called_set.canCreate
  have g5 := F.typeCall_set_1 (.ref l)
  repeat (any_goals (first | assumption | wp_step))
  refine codeAny_mono (code_set_led1 (.ref l) (E := E)
    (Q₁ := fun y t => y = .ref s.heap.objs.size ∧ t = { s with heap := s.heap.push (ob0 w) }) ⟨rfl, rfl⟩) fun r t hr => ?_
  cases r with
  | error x => exact hr
  | ok fl =>
    cases fl with
    | ret y =>
      obtain ⟨rfl, rfl⟩ := hr
      have hS : (s.heap.push (ob0 w)).get? s.heap.objs.size = some (ob0 w) := Heap.get?_push_size _ rfl
      have hT : Shared.TypeIs { s with heap := s.heap.push (ob0 w) } (.ref s.heap.objs.size) "set" := ⟨_, hS, rfl⟩
      have g6 := F.called_set.init.lookup
      have g7 := F.called_set.init.bind (.ref s.heap.objs.size)
      repeat (any_goals (first | assumption | wp_step))
      refine codeAny_mono (codeAny_call_builtin (R := wants (fun y t => y = .none ∧ ∃ h' tk c, t = { s with heap := h', toks := tk } ∧
          SetR w h' s.heap.objs.size (fun j => decide (j ∈ ns)) c ∧ c ≤ ns.length ∧ ∀ b o, s.heap.get? b = some o → h'.get? b = some o) E)
        F.called_set.init.plain F.entry_set_init (check_set_init_1 hT ?_)) fun r2 t2 hr2 => ?_
      · obtain ⟨⟨ocls, odict, odata, oslots⟩, hol, hcl, nl, hdl⟩ := hl
        simp only at hcl hdl
        subst hcl
        subst hdl
        have hol' := Heap.get?_push_of_some (ob0 w) hol
        have j1 := F.sub_list_set
        have j2 := F.sub_list_frozenset
        have j3 : (Value.type "list" == Value.type "dict") = false := by decide
        have hl1 : (s.heap.push (ob0 w)).IsList l its := ⟨_, hol', rfl, nl, rfl⟩
        unfold Builtin.«set.__init__» noKeywords Builtin.Frozenset.updateFrom
        generalize hI : pyIter = walk
        wp_walk
        subst hI
        refine wpAny_pyIter_list hl1 ?_
        refine wpAny_bind (wpAny_runValue ?_)
        have below : l < s.heap.objs.size := Heap.lt_size hol
        have hh3 : A.in1.in1.in1.handled = none := by simp [hh]
        have one : (s.heap.push (ob0 w)).objs.size = s.heap.objs.size + 1 := Heap.size_push ..
        have ne : l ≠ (s.heap.push (ob0 w)).objs.size := by rw [one]; exact Nat.ne_of_lt (Nat.lt_succ_of_lt below)
        have off : s.heap.objs.size ∉ [(s.heap.push (ob0 w)).objs.size, l] := by
          rw [one]
          intro z
          rcases List.mem_cons.mp z with z | z
          · exact Nat.ne_of_lt (Nat.lt_succ_self _) z
          · exact Nat.ne_of_gt below (List.mem_singleton.mp z)
        have vals : ∀ (i : Nat) (v : Value), its[i]? = some v → ∃ k t, ns[i]? = some k ∧ v = .int k t := fun i v hv => by
          have hi : i < ns.length := by rw [← hsz]; exact (Array.getElem?_eq_some_iff.mp hv).1
          obtain ⟨t, z⟩ := PyProof.Rows.IntsAre.int_at hit i v (by rw [Array.getElem?_toList]; exact hv)
          refine ⟨ns[i], t, List.getElem?_eq_getElem hi, ?_⟩
          rw [z, List.getD_eq_getElem?_getD, List.getElem?_eq_getElem hi]
          rfl
        refine set_update_ints ((Walks.list hh3 _ l ne its).toS) s.heap.objs.size off ns hsz room vals (its.size - 0) 0 _
          (by omega) (Nat.zero_le _) ⟨⟨_, Heap.get?_push_size _ rfl, rfl, rfl⟩, (hl1.push _)⟩ ?first ?last
        case first => exact ⟨0, Nat.le_refl 0, setR_new_at (Heap.get?_push_of_some _ hS)⟩
        case last =>
          intro t c' hm hc' hS'
          obtain ⟨h', gg, dd, tk', oo⟩ := t
          have e1 : gg = s.gens := hm.gens
          have e2 : dd = s.drawn := hm.drawn
          have e3 : oo = s.os := hm.os
          subst e1 e2 e3
          show wpAny _ _ _ _ _ _
          refine wpAny_pure ?_
          show wpAny _ _ (ret Value.none) _ _ _
          rw [hsz] at hc'
          refine wpAny_pure ⟨rfl, h', tk', c', rfl, hS', hc', fun b o z => ?_⟩
          have b0 : b < s.heap.objs.size := Heap.lt_size z
          refine hm.heap b o ?_ (Heap.get?_push_of_some _ (Heap.get?_push_of_some _ z))
          rw [one]
          intro y
          rcases List.mem_cons.mp y with y | y
          · exact Nat.ne_of_lt b0 y
          · exact Nat.ne_of_lt (Nat.lt_succ_of_lt b0) (List.mem_singleton.mp y)
      · cases r2 with
        | error x => exact hr2
        | ok f2 =>
          cases f2 with
          | ret y =>
            obtain ⟨rfl, h', tk, c, rfl, hS', hc', hk'⟩ := hr2
            repeat (any_goals (first | assumption | wp_step))
            exact k _ _ _ hS' hc' hk'
          | _ => exact hr2.elim
    | _ => exact hr.elim
end
section
variable {X : Cx}
/-- set(l) -/
def rSetI (K : PySem.W.Frag) (w : World) : List V → Hp → VK → Prop := fun vs H Q => ∃ (l : Addr) (ns : List Int), vs = [V.ref l] ∧ SqL K H l (ns.map V.int) ∧ ns.length + 1 < scanBound ∧
  ∀ a c, H a = none → c ≤ ns.length → Q (.ref a) (upd H a (SetO w a (fun j => decide (j ∈ ns)) c))
theorem cr_setI (hc : X.calm = true) : CallR X (.type "set") (rSetI X.K X.w) := by
  intro pins s σ H vs us Q I r h
  obtain ⟨l, ns, rfl, hq, room, q⟩ := h
  rw [Vals.ref1 r]
  obtain ⟨its, rv, pl, hz⟩ := I.list hq
  refine set_of_list ns (I.ok.hd hc) pl.isList (by simpa using rv.ints) room fun h' tk c R hcn kp => ?_
  exact ⟨.ref _, _, I.laid (t' := tk) kp (Nat.le_refl _) (setO_new R), rfl, q _ c (I.hok.fresh (Nat.le_refl _)) hcn⟩
end
end FWS
/-! ### sorted of pairs of numbers -/
namespace FWS
open PySem PySem.Spec PyProof.Rows L2
def intOf : Value → Int
  | .int i _ => i
  | _ => 0
def pairOf (o : Obj) : Int × Int := match o.data with
  | .seq its _ => (intOf (its.getD 0 .none), intOf (its.getD 1 .none))
  | _ => (0, 0)
/-- the pair that stands at a value -/
def pairAt (h : Heap) (v : Value) : Int × Int := match v with
  | .ref a => ((h.get? a).map pairOf).getD (0, 0)
  | _ => (0, 0)
theorem pairAt_is {h : Heap} {v : Value} {x y : Int} (p : Srt.IsPair h v x y) : pairAt h v = (x, y) := by
  obtain ⟨a, o, t, u, n, rfl, ho, _, hd⟩ := p
  show ((h.get? a).map pairOf).getD (0, 0) = (x, y)
  rw [ho]
  show pairOf o = (x, y)
  unfold pairOf
  rw [hd]
  rfl
theorem refs_are : ∀ {ts : List (Addr × Int × Int)} {us : List Value}, Vals (ts.map fun t => V.ref t.1) us → us = ts.map fun t => Value.ref t.1
  | [], _, .nil => rfl
  | _ :: _, _, .cons r q => by
    cases r
    rw [refs_are q]
    rfl
theorem refs_vals : ∀ ts : List (Addr × Int × Int), Vals (ts.map fun t => V.ref t.1) (ts.map fun t => Value.ref t.1)
  | [] => .nil
  | t :: ts => .cons rfl (refs_vals ts)
/-- p stands not behind q -/
abbrev leP (p q : Int × Int) : Prop := SrtO.lexB q p = false
def rSrtP (K : PySem.W.Frag) : List V → Hp → VK → Prop := fun vs H Q => ∃ (a : Addr) (ts : List (Addr × Int × Int)), vs = [V.ref a] ∧ SqL K H a (ts.map fun t => V.ref t.1) ∧
  (∀ t ∈ ts, SqT K H t.1 [.int t.2.1, .int t.2.2]) ∧ ∀ (us : List (Addr × Int × Int)) p, us.Perm ts → (us.map (·.2)).Pairwise leP → H p = none → Q (.ref p) (upd H p (.lst (us.map fun t => V.ref t.1)))
section
variable {X : Cx}
theorem cr_srtP : CallR X (.builtin "sorted") (rSrtP X.K) := by
  intro pins s σ H vs us Q I r h
  obtain ⟨a, ts, rfl, hs, ht, q⟩ := h
  obtain ⟨its, rv, hl, hz⟩ := I.list hs
  rw [Vals.ref1 r]
  have e := refs_are rv
  subst e
  have isp : ∀ t ∈ ts, Srt.IsPair s.heap (.ref t.1) t.2.1 t.2.2 := fun t hm => by
    obtain ⟨js, rj, ⟨o, ho, hc, n, hd⟩, _⟩ := I.tuple (ht t hm)
    obtain ⟨u1, u2, rfl, r1, r2⟩ := vals2 rj
    obtain ⟨k1, rfl⟩ := r1
    obtain ⟨k2, rfl⟩ := r2
    exact ⟨t.1, o, k1, k2, n, rfl, ho, hc, hd⟩
  refine SrtO.sorted_pairsO (k := pairAt s.heap) hl.isList (by rw [← rv.length]; exact hz) (fun v hv => ?_) fun h' d out h1 h2 kp hd hn => ?_
  · obtain ⟨t, hm, rfl⟩ := List.mem_map.mp hv
    have := isp t hm
    rw [pairAt_is this]
    exact this
  · let f : Value → Addr × Int × Int := fun v => ((match v with | .ref b => b | _ => 0), pairAt s.heap v)
    have back : ∀ t ∈ ts, f (.ref t.1) = t := fun t hm => by
      show (t.1, pairAt s.heap (.ref t.1)) = t
      rw [pairAt_is (isp t hm)]
    have there : ∀ v ∈ out, ∃ t ∈ ts, v = .ref t.1 := fun v hv => by
      obtain ⟨t, hm, z⟩ := List.mem_map.mp (h2.perm.mem_iff.mp hv)
      exact ⟨t, hm, z.symm⟩
    have p1 : (out.map f).Perm ts := by
      have y := h2.perm.map f
      rw [List.map_map] at y
      have z : ts.map (f ∘ fun t => Value.ref t.1) = ts := by
        conv => rhs; rw [← List.map_id ts]
        exact List.map_congr_left fun t hm => back t hm
      rwa [z] at y
    have p2 : (out.map f).map (fun t => Value.ref t.1) = out := by
      rw [List.map_map]
      conv => rhs; rw [← List.map_id out]
      refine List.map_congr_left fun v hv => ?_
      obtain ⟨t, _, rfl⟩ := there v hv
      rfl
    have p3 : ((out.map f).map (·.2)).Pairwise leP := by
      rw [List.map_map]
      exact List.pairwise_map.mpr (h1.imp fun {x y} z => z)
    obtain ⟨n, hn⟩ := hn
    have vv := refs_vals (out.map f)
    rw [p2] at vv
    have small : ((out.map f).map fun t => V.ref t.1).length ≤ sizeLine := by
      rw [List.length_map, p1.length_eq]
      rw [List.length_map] at hz
      exact hz
    exact ⟨.ref d, upd H d (.lst ((out.map f).map fun t => V.ref t.1)), I.laid (t' := s.toks) kp hd ⟨small, out, n, vv, hn⟩, rfl, q _ d p1 p3 (I.hok.fresh hd)⟩
end
end FWS
/-! ### over data: sorted({e for a in p for b in q}), all of them numbers -/
namespace FW
open PySem PySem.Spec PyProof.Rows L2 FWS
def scIn (g : D → (Sg → Prop) → Prop) (we : W) (K : List Int → Prop) : List D → List Int → Prop
  | [], acc => K acc
  | d :: ds, acc => g d fun e => we e fun y => ∃ k : Int, y = .int k ∧ scIn g we K ds (acc ++ [k])
def scOut (g : D → (Sg → Prop) → Prop) (inn : Sg → List Int → (List Int → Prop) → Prop) (R : List Int → Prop) : List D → List Int → Prop
  | [], acc => R acc
  | d :: ds, acc => g d fun e => inn e acc fun acc' => scOut g inn R ds acc'
def scTurn (wi1 : WA) (wg1 : WG) (we : W) (vs1 : List Nat) : Sg → List Int → (List Int → Prop) → Prop := fun e acc K =>
  wi1 e fun ds => ds.length ≤ 50 ∧ scIn (fun d k => wg1 d (wipeS e vs1) k) we K ds acc
@[simp] def nSrtSet (wi : WA) (wg : WG) (wi1 : WA) (wg1 : WG) (we : W) (vs vs1 : List Nat) : WA := fun e R =>
  wi e fun ds => ds.length ≤ 50 ∧ scOut (fun d k => wg d (wipeS e vs) k) (scTurn wi1 wg1 we vs1)
    (fun acc => ∀ ns : List Int, ns.Pairwise (· < ·) → (∀ k, k ∈ ns ↔ k ∈ acc) → R (ns.map .int)) ds []
section
variable {c : Amb} {H F H' F' H1 F1 H2 F2 H0 : Hp} {σ : L2.St} {e : Sg} {D0 : Addr}
/-- as Ext, but the object at D0 may change -/
structure ExtD (D0 : Addr) (c : Amb) (H F H' F' : Hp) : Prop where
  grow : Same F F'
  keep : ∀ b o, H b = some o → b ≠ c.r → b ∉ c.Ps → b ≠ D0 → H' b = some o
  new : ∀ b, F b = none → F' b ≠ none → H b = none
theorem ExtD.then (a : ExtD D0 c H F H1 F1) (W1 : H1 D0 ≠ none) (x : Ext c H1 F1 H2 F2) (back : ∀ b, H1 b = none → H b = none) : ExtD D0 c H F H2 F2 where
  grow := a.grow.trans x.grow
  keep := fun b o h hr hp hd => x.keep b o (a.keep b o h hr hp hd) hr hp
  new := fun b h h' => by
    by_cases q : F1 b = none
    · exact back b (x.new b q h')
    · exact a.new b h q
theorem RepS.extD (S : RepS c H0 σ H F e) (W : Wok c H F) (nl : ∀ vs, H D0 ≠ some (.lst vs)) (x : ExtD D0 c H F H' F') : RepS c H0 σ H' F' e where
  exc := S.exc
  fix := fix_grow S.fix x.grow
  len := S.len
  val := fun i d h => by
    obtain ⟨v, h1, h2⟩ := S.val i d h
    exact ⟨v, h1, h2.grow x.grow⟩
  ownO := fun i o ds h => by
    obtain ⟨a, vs, h1, h2, h3, h4, h5, h6⟩ := S.ownO i o ds h
    refine ⟨a, vs, h1, x.keep a _ h2 h5 (W.noP h2) (fun z => nl vs (by rw [← z]; exact h2)), ?_, h4, h5, dpAll_same (cutO_grow o x.grow) _ _ h6⟩
    cases q : F' a with
    | none => rfl
    | some u =>
      have := x.new a h3 (by rw [q]; simp)
      rw [h2] at this; cases this
  distO := S.distO
theorem set_noP {φ : Heap → Prop} (W : Wok c H F) {a : Addr} (h : H a = some (.ext φ)) : a ∉ c.Ps := fun hp => by
  obtain ⟨⟨ps, q, _⟩, _⟩ := W.tab a hp
  rw [h] at q; cases q
theorem set_still {φ : Heap → Prop} (W : Wok c H F) (x : Ext c H F H' F') (h : H D0 = some (.ext φ)) (hF : F D0 = none) (nr : D0 ≠ c.r) : H' D0 = some (.ext φ) ∧ F' D0 = none := by
  refine ⟨x.keep D0 _ h nr (set_noP W h), ?_⟩
  cases q : F' D0 with
  | none => rfl
  | some u =>
    have := x.new D0 hF (by rw [q]; simp)
    rw [h] at this; cases this
/-- a set that is new is changed -/
theorem Ext.mutS (x : Ext c H F H' F') {φ ψ : Heap → Prop} (h0 : H D0 = none) (h2 : H' D0 = some (.ext φ)) (n2 : F' D0 = none) (nr : D0 ≠ c.r) : Ext c H F (upd H' D0 (.ext ψ)) F' := by
  have np : D0 ∉ c.Ps := set_noP x.ok h2
  refine ⟨⟨fun b o eb => ?_, ?_, x.ok.rF, fun P hP => ⟨?_, (x.ok.tab P hP).2⟩⟩, x.grow, fun b o eb hr hp => ?_, x.new, x.pre⟩
  · rw [upd_ne (fun z => by rw [z, n2] at eb; cases eb)]; exact x.ok.sub b o eb
  · obtain ⟨i, y, n, h1, h3, h4, h5, h6⟩ := x.ok.row
    refine ⟨i, y, n, by rw [upd_ne (fun z => nr z.symm)]; exact h1, h3, h4, h5, ?_⟩
    rcases h6 with (h6 | ⟨o, h6⟩) | h6
    · exact .inl (.inl (by rw [upd_ne (fun z => by rw [z, h2] at h6; cases h6)]; exact h6))
    · exact .inl (.inr ⟨o, by rw [upd_ne (fun z => by rw [z, h2] at h6; cases h6)]; exact h6⟩)
    · exact .inr h6
  · obtain ⟨ps, e1, t1⟩ := (x.ok.tab P hP).1
    exact ⟨ps, by rw [upd_ne (fun (z : P = D0) => np (z ▸ hP))]; exact e1, t1⟩
  · rw [upd_ne (fun z => by rw [z, h0] at eb; cases eb)]
    exact x.keep b o eb hr hp
theorem stores_two {i j : Nat} (h : i ≠ j) : Stores (gName i) [i, j] := fun v σ H Q z => by
  refine ⟨?_, z⟩
  show ((((σ.set j none).set i none).set i (some v)).set j none).set i none = (σ.set j none).set i none
  rw [List.set_set, List.set_comm _ _ h, List.set_set, List.set_set]
theorem xn_srt {w : World} {wi wi1 : WA} {wg wg1 : WG} {we : W} {g g1 : TG} {vs vs1 : List Nat} (hg : gD c wg g) (hs : Stores g vs) (hg1 : gD c wg1 g1) (hs1 : Stores g1 vs1) :
    ∀ σ H Q, tN c (nSrtSet wi wg wi1 wg1 we vs vs1) σ H Q → tCB (rSrtS w) (tCons (tSc w (tI c wi) g (tI c wi1) g1 (tD c we) vs vs1) tNil) σ H Q := fun σ H Q ⟨e, F, H0, R, W, S, q, P⟩ =>
  ⟨e, F, H0, _, W, S, q, fun ds J H1 F1 ⟨hlen, i0⟩ x1 Y => fun D hD => by
    have n0 : F1 D = none := x1.ok.newF hD
    have nr : D ≠ c.r := x1.ok.newR hD
    have h0 : H D = none := x1.free hD
    refine ⟨fun i m H2 => m = ds.length - i ∧ i ≤ ds.length ∧ ∃ F2 acc S2 n, Ext c H F H2 F2 ∧ Same F1 F2 ∧ H2 D = some (SetO w D S2 n) ∧ F2 D = none ∧ (∀ k, S2 k = true ↔ k ∈ acc) ∧ n ≤ 50 * i ∧
        scOut (fun d k => wg d (wipeS e vs) k) (scTurn wi1 wg1 we vs1) (fun acc => ∀ ns : List Int, ns.Pairwise (· < ·) → (∀ k, k ∈ ns ↔ k ∈ acc) → R (ns.map .int)) (ds.drop i) acc,
      ⟨_, rfl, Nat.zero_le _, F1, [], _, 0, x1.trans (Ext.loose x1.ok _ hD), fun _ _ h => h, upd_same, n0, fun k => by simp, Nat.le_refl _, i0⟩, ?_⟩
    rintro i m H2 ⟨rfl, hi, F2, acc, S2, n, x2, s2, hD2, n2, mem, hn, run⟩
    by_cases hlt : i < ds.length
    · refine .inr ⟨Y.go i H2 F2 hlt x2.ok s2, fun H3 => ∃ F3 acc S3 n, Ext c H F H3 F3 ∧ Same F1 F3 ∧ H3 D = some (SetO w D S3 n) ∧ F3 D = none ∧ (∀ k, S3 k = true ↔ k ∈ acc) ∧ n ≤ 50 * (i + 1) ∧
        scOut (fun d k => wg d (wipeS e vs) k) (scTurn wi1 wg1 we vs1) (fun acc => ∀ ns : List Int, ns.Pairwise (· < ·) → (∀ k, k ∈ ns ↔ k ∈ acc) → R (ns.map .int)) (ds.drop (i + 1)) acc,
        fun H3 z => ⟨ds.length - (i + 1), by omega, rfl, hlt, z⟩, fun v H3 y => ?_⟩
      have hd : ds[i]? = some ds[i] := List.getElem?_eq_getElem hlt
      rw [drop_at hlt] at run
      obtain ⟨F3, x3, rv⟩ := Y.yld i _ H2 F2 v H3 hd x2.ok s2 y
      obtain ⟨d3, m3⟩ := set_still x2.ok x3 hD2 n2 nr
      refine hs v σ H3 _ (hg v _ _ H3 F3 H0 _ _ _ x3.ok ((S.wipe vs).ext W (x2.trans x3)) rv run fun σ4 e4 r4 S4 => ?_)
      refine ⟨e4, F3, H0, _, x3.ok, S4, r4, fun ds1 J1 H4 F4 ⟨hl1, run1⟩ x4 Y1 => ?_⟩
      obtain ⟨d4, m4⟩ := set_still x3.ok x4 d3 m3 nr
      have x24 := (x2.trans x3).trans x4
      refine ⟨fun j k H5 => k = ds1.length - j ∧ j ≤ ds1.length ∧ ∃ F5 acc5 S5 n5, Ext c H F H5 F5 ∧ ExtD D c H3 F3 H5 F5 ∧ (∀ b, H5 b = none → H3 b = none) ∧ Same F4 F5 ∧ H5 D = some (SetO w D S5 n5) ∧ F5 D = none ∧ (∀ k, S5 k = true ↔ k ∈ acc5) ∧ n5 ≤ 50 * i + j ∧
          scIn (fun d k => wg1 d (wipeS e4 vs1) k) we (fun acc' => scOut (fun d k => wg d (wipeS e vs) k) (scTurn wi1 wg1 we vs1) (fun acc => ∀ ns : List Int, ns.Pairwise (· < ·) → (∀ k, k ∈ ns ↔ k ∈ acc) → R (ns.map .int)) (ds.drop (i + 1)) acc') (ds1.drop j) acc5,
        ⟨_, rfl, Nat.zero_le _, F4, acc, S2, n, x24, ⟨x4.grow, fun b o h hr hp _ => x4.keep b o h hr hp, x4.new⟩, fun b h => x4.free h, fun _ _ h => h, d4, m4, mem, by omega, run1⟩, ?_⟩
      rintro j k H5 ⟨rfl, hj, F5, acc5, S5, n5, x5, y5, back5, s5, hD5, m5, mem5, hn5, run5⟩
      by_cases hlt1 : j < ds1.length
      · refine .inr ⟨Y1.go j H5 F5 hlt1 x5.ok s5, fun H6 => ∃ F6 acc6 S6 n6, Ext c H F H6 F6 ∧ ExtD D c H3 F3 H6 F6 ∧ (∀ b, H6 b = none → H3 b = none) ∧ Same F4 F6 ∧ H6 D = some (SetO w D S6 n6) ∧ F6 D = none ∧ (∀ k, S6 k = true ↔ k ∈ acc6) ∧ n6 ≤ 50 * i + (j + 1) ∧
            scIn (fun d k => wg1 d (wipeS e4 vs1) k) we (fun acc' => scOut (fun d k => wg d (wipeS e vs) k) (scTurn wi1 wg1 we vs1) (fun acc => ∀ ns : List Int, ns.Pairwise (· < ·) → (∀ k, k ∈ ns ↔ k ∈ acc) → R (ns.map .int)) (ds.drop (i + 1)) acc') (ds1.drop (j + 1)) acc6,
          fun H6 z => ⟨ds1.length - (j + 1), by omega, rfl, hlt1, z⟩, fun v1 H6 z1 => ?_⟩
        have hd1 : ds1[j]? = some ds1[j] := List.getElem?_eq_getElem hlt1
        rw [drop_at hlt1] at run5
        obtain ⟨F6, x6, rv1⟩ := Y1.yld j _ H5 F5 v1 H6 hd1 x5.ok s5 z1
        obtain ⟨d6, m6⟩ := set_still x5.ok x6 hD5 m5 nr
        have y6 : ExtD D c H3 F3 H6 F6 := y5.then (by rw [hD5]; simp) x6 back5
        have back6 : ∀ b, H6 b = none → H3 b = none := fun b h => back5 b (x6.free h)
        refine hs1 v1 σ4 H6 _ (hg1 v1 _ _ H6 F6 H0 _ _ _ x6.ok ((S4.wipe vs1).extD x3.ok (fun vs z => by rw [d3] at z; cases z) y6) rv1 run5 fun σ7 e7 r7 S7 => ?_)
        refine ⟨e7, F6, H0, _, x6.ok, S7, r7, fun y v8 H8 F8 ⟨k8, ey, run8⟩ x8 rv8 => ?_⟩
        subst ey
        obtain ⟨d8, m8⟩ := set_still x6.ok x8 d6 m6 nr
        have y8 : ExtD D c H3 F3 H8 F8 := y6.then (by rw [d6]; simp) x8 back6
        refine ⟨k8, S5, n5, rv8.int_inv, d8, ?_, F8, acc5 ++ [k8], more S5 k8, _, ((x5.trans x6).trans x8).mutS h0 d8 m8 nr, ⟨y8.grow, fun b o h hr hp hd => by rw [upd_ne hd]; exact y8.keep b o h hr hp hd, y8.new⟩, fun b h => ?_, (s5.trans x6.grow).trans x8.grow, upd_same, m8, fun k => ?_, ?_, run8⟩
        · have : scanBound = 4096 := rfl
          omega
        · by_cases z : b = D
          · rw [z, upd_same] at h; cases h
          · rw [upd_ne z] at h; exact back6 b (x8.free h)
        · simp [mem5]
        · split <;> omega
      · have he : j = ds1.length := by omega
        subst he
        rw [List.drop_length] at run5
        exact .inl ⟨Y1.stop H5 F5 x5.ok s5, F5, acc5, S5, n5, x5, (s2.trans x3.grow).trans y5.grow, hD5, m5, mem5, by omega, run5⟩
    · have he : i = ds.length := by omega
      subst he
      rw [List.drop_length] at run
      refine .inl ⟨Y.stop H2 F2 x2.ok s2, D, S2, n, rfl, hD2, fun ns p hsort hmem _ hp => ?_⟩
      exact P (ns.map .int) p (ns.map V.int) (upd H2 p (.lst (ns.map V.int))) F2 (run ns hsort fun k => by rw [hmem, mem]) (x2.trans (Ext.loose x2.ok _ hp)) (x2.free hp) upd_same (x2.ok.newF hp) (x2.ok.newR hp) (rpAll_ints ns)⟩
end
theorem scIn_det {g : D → (Sg → Prop) → Prop} {we : W} {K : List Int → Prop} (h : D → Int) : ∀ (ds : List D) (acc : List Int),
    (∀ d ∈ ds, ∀ K' : Int → Prop, K' (h d) → g d fun e => we e fun y => ∃ k : Int, y = .int k ∧ K' k) → K (acc ++ ds.map h) → scIn g we K ds acc
  | [], acc, _, r => by simpa [scIn] using r
  | d :: ds, acc, t, r => by
    unfold scIn
    exact t d List.mem_cons_self (fun k => scIn g we K ds (acc ++ [k])) (scIn_det h ds _ (fun d' hd => t d' (List.mem_cons_of_mem _ hd)) (by simpa using r))
theorem scOut_det {g : D → (Sg → Prop) → Prop} {inn : Sg → List Int → (List Int → Prop) → Prop} {R : List Int → Prop} (h : D → List Int) : ∀ (ds : List D) (acc : List Int),
    (∀ d ∈ ds, ∀ (acc : List Int) (K : List Int → Prop), K (acc ++ h d) → g d fun e => inn e acc K) → R (acc ++ ds.flatMap h) → scOut g inn R ds acc
  | [], acc, _, r => by simpa [scOut] using r
  | d :: ds, acc, t, r => by
    unfold scOut
    exact t d List.mem_cons_self acc (fun acc' => scOut g inn R ds acc') (scOut_det h ds _ (fun d' hd => t d' (List.mem_cons_of_mem _ hd)) (by simpa using r))
/-- rising lists of the same members are the same -/
theorem rise_uniq : ∀ {l m : List Int}, l.Pairwise (· < ·) → m.Pairwise (· < ·) → (∀ k, k ∈ l ↔ k ∈ m) → l = m
  | [], [], _, _, _ => rfl
  | [], b :: m, _, _, h => by have := (h b).mpr List.mem_cons_self; cases this
  | a :: l, [], _, _, h => by have := (h a).mp List.mem_cons_self; cases this
  | a :: l, b :: m, hl, hm, h => by
    obtain ⟨l1, l2⟩ := List.pairwise_cons.mp hl
    obtain ⟨m1, m2⟩ := List.pairwise_cons.mp hm
    have e : a = b := by
      rcases List.mem_cons.mp ((h a).mp List.mem_cons_self) with z | z
      · exact z
      · rcases List.mem_cons.mp ((h b).mpr List.mem_cons_self) with y | y
        · exact y.symm
        · have := m1 a z
          have := l1 b y
          omega
    subst e
    rw [rise_uniq l2 m2 fun k => ?_]
    constructor
    · intro hk
      rcases List.mem_cons.mp ((h k).mp (List.mem_cons_of_mem _ hk)) with z | z
      · have := l1 k hk
        omega
      · exact z
    · intro hk
      rcases List.mem_cons.mp ((h k).mpr (List.mem_cons_of_mem _ hk)) with z | z
      · have := m1 k hk
        omega
      · exact z
end FW
/-! ### over data: sorted(set(l)), sorted of pairs -/
namespace FW
open PySem PySem.Spec PyProof.Rows L2 FWS
@[simp] def rdSrtSet : List D → (D → Prop) → Prop := fun ds R => ∃ ns : List Int, ds = [.list (ns.map .int)] ∧ ns.length ≤ 4000 ∧
  ∀ ns' : List Int, ns'.Pairwise (· < ·) → (∀ k, k ∈ ns' ↔ k ∈ ns) → R (.list (ns'.map .int))
abbrev prD (p : Int × Int) : D := .tuple [.int p.1, .int p.2]
def rdSrtP : List D → (D → Prop) → Prop := fun ds R => ∃ ps : List (Int × Int), ds = [.list (ps.map prD)] ∧ ∀ qs : List (Int × Int), qs.Perm ps → qs.Pairwise leP → R (.list (qs.map prD))
section
variable {c : Amb} {H F H' F' H1 F1 H2 F2 H0 : Hp} {σ : L2.St} {e : Sg} {D0 : Addr}
theorem xd_srtSet {w0 : World} {w : WA} : ∀ σ H Q, tD c (dCall rdSrtSet w) σ H Q → tCB (rSrtS w0) (tCons (tCB (rSetI c.K w0) (tA c w)) tNil) σ H Q := fun σ H Q ⟨e, F, H0, R, W, S, q, P⟩ =>
  ⟨e, F, H0, _, W, S, q, fun ds vs H1 F1 ⟨ns, hd, hl, r⟩ x1 rv => by
    subst hd
    obtain ⟨v, rfl, q1⟩ := reps1 rv
    obtain ⟨a, ws, rfl, h1, h2⟩ := q1.list_inv
    have z := rpAll_ints_inv h2
    subst z
    have room : scanBound = 4096 := rfl
    refine ⟨a, ns, rfl, SqL.of (x1.ok.sub _ _ h1), by omega, fun p n hp hn => ⟨p, _, n, rfl, upd_same, fun ns' p' hs hm _ hp' => ?_⟩⟩
    have x2 := Ext.loose x1.ok (SetO w0 p (fun j => decide (j ∈ ns)) n) hp
    exact (P.ext (x1.trans x2)).newLst x2.ok (rpAll_ints ns') (r ns' hs fun k => by rw [hm]; simp) p' hp'⟩
theorem rp_pairs {K : PySem.W.Frag} : ∀ {ws : List V} {ps : List (Int × Int)}, RpAll K F ws (ps.map prD) → ∃ ts : List (Addr × Int × Int), ws = ts.map (fun t => V.ref t.1) ∧ ps = ts.map (·.2) ∧ ∀ t ∈ ts, SqT K F t.1 [.int t.2.1, .int t.2.2]
  | [], [], _ => ⟨[], rfl, rfl, fun t h => nomatch h⟩
  | [], _ :: _, h => nomatch h
  | _ :: _, [], h => nomatch h
  | w :: ws, p :: ps, h => by
    cases h with
    | cons h1 h2 =>
      obtain ⟨ts, e1, e2, e3⟩ := rp_pairs h2
      cases h1 with
      | tup g1 g2 =>
        cases g2 with
        | cons k1 k2 => cases k2 with
          | cons k2 k3 =>
            cases k3
            cases k1
            cases k2
            exact ⟨(_, p) :: ts, by rw [e1]; rfl, by rw [e2]; rfl, fun t ht => by
              rcases List.mem_cons.mp ht with z | z
              · rw [z]; exact g1
              · exact e3 t z⟩
theorem pairs_rp {K : PySem.W.Frag} : ∀ (ts : List (Addr × Int × Int)), (∀ t ∈ ts, SqT K F t.1 [.int t.2.1, .int t.2.2]) → RpAll K F (ts.map fun t => V.ref t.1) ((ts.map (·.2)).map prD)
  | [], _ => .nil
  | t :: ts, h => .cons (.tup (h t List.mem_cons_self) (.cons (.int _) (.cons (.int _) .nil))) (pairs_rp ts fun t' ht => h t' (List.mem_cons_of_mem _ ht))
theorem cd_srtP : CallD c (rSrtP c.K) rdSrtP := by
  rintro H F vs ds R Q W rv ⟨ps, rfl, r⟩ P
  obtain ⟨v, rfl, q⟩ := reps1 rv
  obtain ⟨a, ws, rfl, h1, h2⟩ := q.list_inv
  obtain ⟨ts, rfl, rfl, h3⟩ := rp_pairs h2
  refine ⟨a, ts, rfl, SqL.of (W.sub _ _ h1), fun t ht => same_t W.sub (h3 t ht), fun us p hp hs hn => ?_⟩
  exact P.newLst W (pairs_rp us fun t ht => h3 t (hp.mem_iff.mp ht)) (r _ (hp.map _) hs) p hn
end
end FW
/-! ### x = [f(..), g(..)], both new lists of numbers -/
namespace FW
open PySem PySem.Spec PyProof.Rows L2 FWS
section
variable {c : Amb} {E : XK} {H F H' F' H1 F1 H2 F2 H0 : Hp} {σ : L2.St} {e : Sg} {X : Cx}
@[simp] def dAsgL2 (i k : Nat) (f g : Fn) (wf wg : WA) : WS := fun De e => ∃ Fb d0, e[k]? = some (.fix false Fb d0) ∧
  wf e fun ds => f ds fun l1 => ∃ a : List Int, l1 = a.map .int ∧ wg e fun es => g es fun l2 => ∃ b : List Int, l2 = b.map .int ∧ De.nx (e.set i (.fix true Fb (.list [intsL a, intsL b])))
theorem xs_asgL2 {i k : Nat} {f g : Fn} {wf wg : WA} : ∀ Dn σ H, sD c E (dAsgL2 i k f g wf wg) Dn σ H → tAsg (tLst (tCons (tN c (nCall f wf)) (tCons (tN c (nCall g wg)) tNil))) (gName i) Dn σ H := fun Dn σ H ⟨e, F, H0, F0, De, x, S, ⟨Fb, d0, hk, q⟩, K⟩ => by
  have sb := (S.fix k false Fb d0 hk).1
  have nFb : ∀ {b : Addr} {F' : Hp}, Same F F' → F' b = none → Fb b = none := fun {b F'} s z => by
    cases y : Fb b with
    | none => rfl
    | some o => rw [s b o (sb b o y)] at z; cases z
  refine ⟨e, F, H0, _, x.ok, S, q, fun l1 p1 vs1 H1 F1 ⟨a, ea, q1⟩ x1 h1 h2 h3 h4 h5 => ?_⟩
  have X1 := x1.frz h2 h3 h1 h4
  have g1 : Same F (upd F1 p1 (.lst vs1)) := X1.grow
  refine ⟨e, upd F1 p1 (.lst vs1), H0, _, X1.ok, S.ext x.ok X1, q1, fun l2 p2 vs2 H2 F2 ⟨b, eb, q2⟩ x2 k1 k2 k3 k4 k5 => ?_⟩
  have X2 := x2.frz k2 k3 k1 k4
  refine ⟨by show 2 ≤ sizeLine; rw [sizeLine_eq]; decide, fun p hp => ?_⟩
  have X3 := Ext.laid X2.ok (.lst [.ref p1, .ref p2]) hp
  have XT := (X1.trans X2).trans X3
  have hF2 : upd F2 p2 (.lst vs2) p = none := X2.ok.newF hp
  have a1 : upd (upd F2 p2 (.lst vs2)) p (.lst [.ref p1, .ref p2]) p1 = some (.lst vs1) := X3.grow _ _ (X2.grow _ _ upd_same)
  have a2 : upd (upd F2 p2 (.lst vs2)) p (.lst [.ref p1, .ref p2]) p2 = some (.lst vs2) := X3.grow _ _ upd_same
  subst ea eb
  have e1 := rpAll_ints_inv h5
  have e2 := rpAll_ints_inv k5
  subst e1 e2
  have n1 : Fb p1 = none := nFb x1.grow h3
  have n2 : Fb p2 = none := nFb (X1.grow.trans x2.grow) k3
  have n3 : Fb p = none := nFb (X1.grow.trans X2.grow) hF2
  exact K.nx _ _ _ _ q2 (x.trans XT) ((S.ext x.ok XT).set_fixT i (sb.trans XT.grow) (.inl (.lst (cutF_some upd_same fun _ => n3)
    (.cons (.lst (cutF_some a1 fun _ => n1) (rpAll_ints a)) (.cons (.lst (cutF_some a2 fun _ => n2) (rpAll_ints b)) .nil)))))
end
end FW
/-! FWY: for x in permutations(range(n), k). -/
namespace FWY
open PySem PySem.Spec PyProof.Rows L2 PySem.Builtin.Itertools
/-! ### the rows: which they are -/
/-- of these, so many in any order, the first ones first -/
def permsOf : List Nat → Nat → List (List Nat)
  | _, 0 => [[]]
  | l, k + 1 => l.flatMap fun x => (permsOf (l.erase x) k).map (x :: ·)
/-- one step of the machine: from its indices and cycles to the next ones -/
def stepQ (n : Nat) : Nat → List Nat → List Nat → Option (List Nat × List Nat)
  | 0, _, _ => none
  | i + 1, ix, cy =>
    if (cy.getD i 0 - 1 == 0) = true then stepQ n i (ix.take i ++ ix.drop (i + 1) ++ [ix.getD i 0]) (cy.set i (n - i))
    else some ((ix.set i (ix.getD (n - (cy.getD i 0 - 1)) 0)).set (n - (cy.getD i 0 - 1)) (ix.getD i 0), cy.set i (cy.getD i 0 - 1))
/-- the machine at work hands out these, then ends -/
def runs (n k : Nat) : List (List Nat) → List Nat → List Nat → Bool
  | [], ix, cy => decide (ix.length = n) && decide (cy.length = k) && (stepQ n k ix cy).isNone
  | o :: os, ix, cy => decide (ix.length = n) && decide (cy.length = k) && (match stepQ n k ix cy with
    | some (ix', cy') => decide (ix'.take k = o) && runs n k os ix' cy'
    | none => false)
def firstIx (n : Nat) : List Nat := List.range n
def firstCy (n k : Nat) : List Nat := (List.range k).map fun i => n - i
/-- from the start -/
def runs0 (n k : Nat) : Bool := match permsOf (List.range n) k with
  | [] => decide (n < k)
  | o :: os => decide (k ≤ n) && decide ((firstIx n).take k = o) && runs n k os (firstIx n) (firstCy n k)
theorem runs_all : ∀ n, n ≤ 6 → ∀ k, k ≤ 6 → runs0 n k = true := by
  have h : (List.range 7).all (fun n => (List.range 7).all fun k => runs0 n k) = true := by decide +kernel
  intro n hn k hk
  have h1 := List.all_eq_true.mp h n (List.mem_range.mpr (by omega))
  exact List.all_eq_true.mp h1 k (List.mem_range.mpr (by omega))
/-! ### the type -/
theorem mro_p : mroOf (.type "itertools.permutations") = pure [.type "itertools.permutations", .type "object"] := by
  rw [mroOf_type]
  kernel_rfl
theorem new_p : typeLookup (.type "itertools.permutations") "__new__" = pure (some (.builtin "itertools.permutations.__new__")) := by
  rw [typeLookup_type, builtinLookup_eq_fast]
  kernel_rfl
theorem sub_p : isSubtype (.type "itertools.permutations") (.type "itertools.permutations") = pure true := by
  rw [isSubtype_type]
  kernel_rfl
theorem init_p : Slot "itertools.permutations" "__init__" "object.__init__" := by
  refine .of (owner := "object") (n := "__init__") ?_ (by decide +kernel) (by decide +kernel) (by decide +kernel) ?_ ?_
  · rw [typeLookup_type, builtinLookup_eq_fast]
    kernel_rfl
  · first | exact .inl (by decide +kernel) | exact .inr (by decide +kernel)
  · rw [isSubtype_type]
    kernel_rfl
theorem called_p : TypeCalled "itertools.permutations" "itertools.permutations.__new__" "object.__init__" :=
  ⟨by decide +kernel, by decide +kernel, ⟨_, _, mro_p⟩, madeBy_type mro_p new_p (by decide +kernel), by decide +kernel, sub_p, init_p⟩
theorem tcall_p (a b : Value) : checkTypeCall "itertools.permutations" ⟨[a, b], []⟩ = pure () := by kernel_rfl
theorem ncall_p (a b : Value) : checkBuiltinCall "itertools.permutations.__new__" ⟨[.type "itertools.permutations", a, b], []⟩ = pure () := by kernel_rfl
theorem ennew_p : entryFor table "itertools.permutations.__new__" = some Builtin.«itertools.permutations.__new__» := entryFor_of_tree (by kernel_rfl)
theorem iter_p : Slot "itertools.permutations" "__iter__" "itertools.permutations.__iter__" := by
  refine .of (owner := "itertools.permutations") (n := "__iter__") ?_ (by decide +kernel) (by decide +kernel) (by decide +kernel) ?_ sub_p
  · rw [typeLookup_type, builtinLookup_eq_fast]
    kernel_rfl
  · first | exact .inl (by decide +kernel) | exact .inr (by decide +kernel)
theorem next_p : Slot "itertools.permutations" "__next__" "itertools.permutations.__next__" := by
  refine .of (owner := "itertools.permutations") (n := "__next__") ?_ (by decide +kernel) (by decide +kernel) (by decide +kernel) ?_ sub_p
  · rw [typeLookup_type, builtinLookup_eq_fast]
    kernel_rfl
  · first | exact .inl (by decide +kernel) | exact .inr (by decide +kernel)
theorem eniter_p : entryFor table "itertools.permutations.__iter__" = some Builtin.«dict_keyiterator.__iter__» :=
  entryFor_alias (id' := "dict_keyiterator.__iter__") (by kernel_rfl) (by first | rfl | decide +kernel) (by decide +kernel) (by kernel_rfl)
theorem ennext_p : entryFor table "itertools.permutations.__next__" = some Builtin.«itertools.permutations.__next__» := entryFor_of_tree (by kernel_rfl)
theorem aiter_p (a : Value) : argsOk "itertools.permutations.__iter__" ⟨[a], []⟩ := by
  unfold argsOk
  kernel_rfl
theorem anext_p (a : Value) : argsOk "itertools.permutations.__next__" ⟨[a], []⟩ := by
  unfold argsOk
  kernel_rfl
theorem nodict_p : typeHasDict (.type "itertools.permutations") = false := by decide +kernel
/-! ### next -/
/-- the object: what it goes over, its state, how many it takes, what it gave last, its numbers -/
abbrev obP (T0 : Addr) (st : Int) (k : Nat) (last : Value) (nums : List Nat) : Obj :=
  { cls := .type "itertools.permutations", dict := none, data := .fields (Value.ref T0 :: rawInt st :: rawInt (k : Int) :: last :: nums.map fun (n : Nat) => rawInt (n : Int)).toArray }
theorem ob_state {T0 : Addr} {st st' : Int} {k : Nat} {last : Value} {nums : List Nat} : Obj.mapFields (fun x => x.setIfInBounds 1 (rawInt st')) (obP T0 st k last nums) = obP T0 st' k last nums := by
  simp [Obj.mapFields, obP]
theorem ob_last {T0 : Addr} {st : Int} {k : Nat} {last v : Value} {nums : List Nat} : Obj.mapFields (fun x => x.setIfInBounds 3 v) (obP T0 st k last nums) = obP T0 st k v nums := by
  simp [Obj.mapFields, obP]
theorem ob_nums {T0 : Addr} {st : Int} {k : Nat} {last : Value} {nums nums' : List Nat} : Obj.mapFields (fun fs => fs.extract 0 4 ++ (nums'.map fun (n : Nat) => rawInt n).toArray) (obP T0 st k last nums) = obP T0 st k last nums' := by
  simp [Obj.mapFields, obP]
theorem nums_back {f : Value → Nat} (hf : ∀ n : Nat, f (rawInt (n : Int)) = n) (nums : List Nat) : (nums.map fun (n : Nat) => rawInt (n : Int)).map f = nums := by
  rw [List.map_map]
  conv => rhs; rw [← List.map_id nums]
  exact List.map_congr_left fun n _ => hf n
section
variable {P : Program} {w : World} {A : Around} {E : Value → Shared → Prop} {s : Shared} {it T0 : Addr} {st : Int} {k : Nat} {last : Value} {nums : List Nat}
theorem state_at {Q : Int → Shared → Prop} (hit : s.heap.get? it = some (obP T0 st k last nums)) (h : Q st s) : wpAny (model P w) A (itIntField (.ref it) 1) Q E s := by
  unfold itIntField
  exact wpAny_bind (wpAny_field hit rfl (x := rawInt st) rfl (wpAny_pure h))
theorem many_at {Q : Int → Shared → Prop} (hit : s.heap.get? it = some (obP T0 st k last nums)) (h : Q (k : Int) s) : wpAny (model P w) A (itIntField (.ref it) 2) Q E s := by
  unfold itIntField
  exact wpAny_bind (wpAny_field hit rfl (x := rawInt (k : Int)) rfl (wpAny_pure h))
theorem nums_at {Q : List Nat → Shared → Prop} (hit : s.heap.get? it = some (obP T0 st k last nums)) (h : Q nums s) : wpAny (model P w) A (itNumbersFrom (.ref it) 4) Q E s := by
  unfold itNumbersFrom
  refine wpAny_bind (wpAny_load hit ?_)
  refine wpAny_pure ?_
  exact (congrArg (fun z => Q z s) (nums_back (fun n => rfl) nums)).mpr h
theorem set_state {st' : Int} {Q : Unit → Shared → Prop} (hit : s.heap.get? it = some (obP T0 st k last nums))
    (h : ∀ h', h'.get? it = some (obP T0 st' k last nums) → (∀ b o, b ≠ it → s.heap.get? b = some o → h'.get? b = some o) → h'.objs.size = s.heap.objs.size → Q () { s with heap := h' }) : wpAny (model P w) A (setField (.ref it) 1 (rawInt st')) Q E s := by
  refine wpAny_setField hit rfl (by simp) (h _ ?_ (fun b o hb e => (Heap.get?_update_ne _ _ _ _ hb).trans e) (Heap.size_update ..))
  rw [← ob_state (st := st)]
  exact Heap.get?_update_self _ hit rfl
theorem set_last {v : Value} {Q : Unit → Shared → Prop} (hit : s.heap.get? it = some (obP T0 st k last nums))
    (h : ∀ h', h'.get? it = some (obP T0 st k v nums) → (∀ b o, b ≠ it → s.heap.get? b = some o → h'.get? b = some o) → Q () { s with heap := h' }) : wpAny (model P w) A (setField (.ref it) 3 v) Q E s := by
  refine wpAny_setField hit rfl (by simp) (h _ ?_ (fun b o hb e => (Heap.get?_update_ne _ _ _ _ hb).trans e))
  rw [← ob_last (last := last)]
  exact Heap.get?_update_self _ hit rfl
theorem set_nums {nums' : List Nat} {Q : Unit → Shared → Prop} (hit : s.heap.get? it = some (obP T0 st k last nums)) (hz : nums'.length ≤ 1000)
    (h : ∀ h', h'.get? it = some (obP T0 st k last nums') → (∀ b o, b ≠ it → s.heap.get? b = some o → h'.get? b = some o) → h'.objs.size = s.heap.objs.size → Q () { s with heap := h' }) : wpAny (model P w) A (itSetNumbersFrom (.ref it) 4 nums') Q E s := by
  unfold itSetNumbersFrom
  refine wpAny_updateFields hit rfl (h _ ?_ (fun b o hb e => (Heap.get?_update_ne _ _ _ _ hb).trans e) (Heap.size_update ..)) ?_
  · rw [← ob_nums (nums := nums)]
    exact Heap.get?_update_self _ hit rfl
  · rw [sizeLine_eq]
    simp
    omega
theorem next_start {items : Array Value} {oT : Obj} {c : Nat} {Q : Option Value → Shared → Prop} (hit : s.heap.get? it = some (obP T0 0 k last nums))
    (hT : s.heap.get? T0 = some oT) (hd : oT.data = .seq items c) (hk : k ≤ 1000)
    (hQ : ∀ h', h'.get? it = some (obP T0 1 k (.ref s.heap.objs.size) nums) → h'.get? s.heap.objs.size = some { cls := .type "tuple", data := .seq ((nums.take k).map fun i => items.getD i .none).toArray } →
      (∀ b o, b ≠ it → s.heap.get? b = some o → h'.get? b = some o) → Q (some (.ref s.heap.objs.size)) { s with heap := h' }) :
    wpAny (model P w) A (pyNext (.ref it)) Q E s := by
  have hTy : s.TypeIs (.ref it) "itertools.permutations" := ⟨_, hit, rfl⟩
  have lt : it < s.heap.objs.size := Heap.lt_size hit
  unfold pyNext
  refine wpAny_bind (wpAny_attempt (wpAny_callSpecial?_slot (name := Str.ofString "__next__") hTy next_p
    (wpAny_call_entry next_p hTy ennext_p ?_ (anext_p _))))
  unfold Builtin.«itertools.permutations.__next__»
  refine wpAny_bind (m := slotArgs "__next__" 0 _) (wpAny_pure ?_)
  refine wpAny_bind (wpAny_field hit rfl (x := .ref T0) rfl ?_)
  refine wpAny_bind (m := itPoolItems _) ?_
  unfold itPoolItems
  refine wpAny_bind (wpAny_seqItems hT hd (wpAny_pure ?_))
  refine wpAny_bind (many_at hit ?_)
  refine wpAny_bind (nums_at hit ?_)
  refine wpAny_bind (state_at hit ?_)
  dsimp only
  refine wpAny_bind (set_state (st' := 1) hit fun h1 g1 k1 z1 => ?_)
  refine wpAny_bind (wpAny_newTuple ?_ ?_)
  · show wpAny _ _ _ _ _ _
    rw [z1]
    have g2 : (h1.push { cls := .type "tuple", data := .seq ((nums.take k).map fun i => items.getD i .none).toArray }).get? it = some (obP T0 1 k last nums) := Heap.get?_push_of_some _ g1
    refine wpAny_bind (wpAny_field g2 rfl (x := last) rfl ?_)
    refine wpAny_bind (set_last g2 fun h3 g3 k3 => ?_)
    refine wpAny_bind (wpAny_letGo ?_)
    refine wpAny_pure ⟨_, rfl, wpAny_pure (hQ _ g3 ?_ fun b o hb e => ?_)⟩
    · refine k3 _ _ (Nat.ne_of_gt lt) ?_
      rw [← z1]
      exact Heap.get?_push_size _ rfl
    · exact k3 b o hb (Heap.get?_push_of_some _ (k1 b o hb e))
  · rw [sizeLine_eq]
    simp
    omega
theorem step_from {f : Nat → Nat → List Nat → List Nat → Option (List Nat × List Nat)} {n i : Nat} {ix cy : List Nat} {o : Option (List Nat × List Nat)} (e : f n i ix cy = o)
    (h0 : ∀ n ix cy, f n 0 ix cy = none) (h1 : ∀ n i ix cy, f n (i + 1) ix cy = if (cy.getD i 0 - 1 == 0) = true then f n i (ix.take i ++ ix.drop (i + 1) ++ [ix.getD i 0]) (cy.set i (n - i))
      else some ((ix.set i (ix.getD (n - (cy.getD i 0 - 1)) 0)).set (n - (cy.getD i 0 - 1)) (ix.getD i 0), cy.set i (cy.getD i 0 - 1))) : stepQ n i ix cy = o := by
  rw [← e]
  clear e
  induction i generalizing ix cy with
  | zero => exact (h0 n ix cy).symm
  | succ i ih =>
    rw [h1, stepQ]
    split
    · exact ih
    · rfl
theorem next_step {items : Array Value} {oT : Obj} {c : Nat} {ix cy ix' cy' : List Nat} {Q : Option Value → Shared → Prop} (hit : s.heap.get? it = some (obP T0 1 k last (ix ++ cy)))
    (hT : s.heap.get? T0 = some oT) (hd : oT.data = .seq items c) (hix : ix.length = items.size) (hst : stepQ items.size k ix cy = some (ix', cy')) (hk : k ≤ 1000) (hz : (ix' ++ cy').length ≤ 1000)
    (hQ : ∀ h', h'.get? it = some (obP T0 1 k (.ref s.heap.objs.size) (ix' ++ cy')) → h'.get? s.heap.objs.size = some { cls := .type "tuple", data := .seq ((ix'.take k).map fun i => items.getD i .none).toArray } →
      (∀ b o, b ≠ it → s.heap.get? b = some o → h'.get? b = some o) → Q (some (.ref s.heap.objs.size)) { s with heap := h' }) :
    wpAny (model P w) A (pyNext (.ref it)) Q E s := by
  have hTy : s.TypeIs (.ref it) "itertools.permutations" := ⟨_, hit, rfl⟩
  have lt : it < s.heap.objs.size := Heap.lt_size hit
  unfold pyNext
  refine wpAny_bind (wpAny_attempt (wpAny_callSpecial?_slot (name := Str.ofString "__next__") hTy next_p
    (wpAny_call_entry next_p hTy ennext_p ?_ (anext_p _))))
  unfold Builtin.«itertools.permutations.__next__»
  refine wpAny_bind (m := slotArgs "__next__" 0 _) (wpAny_pure ?_)
  refine wpAny_bind (wpAny_field hit rfl (x := .ref T0) rfl ?_)
  refine wpAny_bind (m := itPoolItems _) ?_
  unfold itPoolItems
  refine wpAny_bind (wpAny_seqItems hT hd (wpAny_pure ?_))
  refine wpAny_bind (many_at hit ?_)
  refine wpAny_bind (nums_at hit ?_)
  refine wpAny_bind (state_at hit ?_)
  dsimp only
  have e1 : (ix ++ cy).take items.size = ix := by rw [← hix]; simp
  have e2 : (ix ++ cy).drop items.size = cy := by rw [← hix]; simp
  rw [e1, e2]
  split
  · rename_i h
    cases h
  · split
    · rename_i a b heq
      have q := step_from heq (fun _ _ _ => rfl) (fun _ _ _ _ => rfl)
      have hk' : ((k : Int)).toNat = k := rfl
      rw [hk'] at q ⊢
      rw [hst] at q
      cases q
      refine wpAny_bind (set_nums hit hz fun h1 g1 k1 z1 => ?_)
      refine wpAny_bind (wpAny_newTuple ?_ ?_)
      · show wpAny _ _ _ _ _ _
        rw [z1]
        have g2 : (h1.push { cls := .type "tuple", data := .seq ((ix'.take k).map fun i => items.getD i .none).toArray }).get? it = some (obP T0 1 k last (ix' ++ cy')) := Heap.get?_push_of_some _ g1
        refine wpAny_bind (wpAny_field g2 rfl (x := last) rfl ?_)
        refine wpAny_bind (set_last g2 fun h3 g3 k3 => ?_)
        refine wpAny_bind (wpAny_letGo ?_)
        refine wpAny_pure ⟨_, rfl, wpAny_pure (hQ _ g3 ?_ fun b o hb e => ?_)⟩
        · refine k3 _ _ (Nat.ne_of_gt lt) ?_
          rw [← z1]
          exact Heap.get?_push_size _ rfl
        · exact k3 b o hb (Heap.get?_push_of_some _ (k1 b o hb e))
      · rw [sizeLine_eq]
        simp
        omega
    · rename_i heq
      have q := step_from heq (fun _ _ _ => rfl) (fun _ _ _ _ => rfl)
      have hk' : ((k : Int)).toNat = k := rfl
      rw [hk', hst] at q
      cases q
  · rename_i h0 h1
    exact absurd rfl h1
/-- no more: the last one has been given, or there was none -/
theorem next_over {items : Array Value} {oT : Obj} {c : Nat} {ix cy : List Nat} {Q : Option Value → Shared → Prop} (hit : s.heap.get? it = some (obP T0 1 k last (ix ++ cy)))
    (hT : s.heap.get? T0 = some oT) (hd : oT.data = .seq items c) (hix : ix.length = items.size) (hst : stepQ items.size k ix cy = none) (hh : A.handled = none)
    (hQ : ∀ h', Heap.ExtBut it s.heap h' → Q none { s with heap := h' }) : wpAny (model P w) A (pyNext (.ref it)) Q E s := by
  have hTy : s.TypeIs (.ref it) "itertools.permutations" := ⟨_, hit, rfl⟩
  unfold pyNext
  refine wpAny_bind (wpAny_attempt (wpAny_callSpecial?_slot (name := Str.ofString "__next__") hTy next_p
    (wpAny_call_entry next_p hTy ennext_p ?_ (anext_p _))))
  unfold Builtin.«itertools.permutations.__next__»
  refine wpAny_bind (m := slotArgs "__next__" 0 _) (wpAny_pure ?_)
  refine wpAny_bind (wpAny_field hit rfl (x := .ref T0) rfl ?_)
  refine wpAny_bind (m := itPoolItems _) ?_
  unfold itPoolItems
  refine wpAny_bind (wpAny_seqItems hT hd (wpAny_pure ?_))
  refine wpAny_bind (many_at hit ?_)
  refine wpAny_bind (nums_at hit ?_)
  refine wpAny_bind (state_at hit ?_)
  dsimp only
  have e1 : (ix ++ cy).take items.size = ix := by rw [← hix]; simp
  have e2 : (ix ++ cy).drop items.size = cy := by rw [← hix]; simp
  rw [e1, e2]
  split
  · rename_i h
    cases h
  · split
    · rename_i a b heq
      have q := step_from heq (fun _ _ _ => rfl) (fun _ _ _ _ => rfl)
      have hk' : ((k : Int)).toNat = k := rfl
      rw [hk', hst] at q
      cases q
    · refine wpAny_bind (set_state (st' := 2) hit fun h1 g1 k1 z1 => ?_)
      unfold itStop
      refine wpAny_mono (stop_at (s := s) (it := it) (Q := Q) (E := E) hh k1 hQ) (fun _ _ z => z.elim) fun e s' z => z
  · rename_i h0 h1
    exact absurd rfl h1
theorem next_none {items : Array Value} {oT : Obj} {c : Nat} {Q : Option Value → Shared → Prop} {vs : List Value} (hit : s.heap.get? it = some { cls := .type "itertools.permutations", dict := none, data := .fields (Value.ref T0 :: rawInt 2 :: rawInt (k : Int) :: last :: vs).toArray })
    (hT : s.heap.get? T0 = some oT) (hd : oT.data = .seq items c) (hh : A.handled = none)
    (hQ : ∀ h', Heap.ExtBut it s.heap h' → Q none { s with heap := h' }) : wpAny (model P w) A (pyNext (.ref it)) Q E s := by
  have hTy : s.TypeIs (.ref it) "itertools.permutations" := ⟨_, hit, rfl⟩
  unfold pyNext
  refine wpAny_bind (wpAny_attempt (wpAny_callSpecial?_slot (name := Str.ofString "__next__") hTy next_p
    (wpAny_call_entry next_p hTy ennext_p ?_ (anext_p _))))
  unfold Builtin.«itertools.permutations.__next__»
  refine wpAny_bind (m := slotArgs "__next__" 0 _) (wpAny_pure ?_)
  refine wpAny_bind (wpAny_field hit rfl (x := .ref T0) rfl ?_)
  refine wpAny_bind (m := itPoolItems _) ?_
  unfold itPoolItems
  refine wpAny_bind (wpAny_seqItems hT hd (wpAny_pure ?_))
  refine wpAny_bind (m := itIntField _ 2) ?_
  unfold itIntField
  refine wpAny_bind (wpAny_field hit rfl (x := rawInt (k : Int)) rfl (wpAny_pure ?_))
  refine wpAny_bind (m := itNumbersFrom _ 4) ?_
  unfold itNumbersFrom
  refine wpAny_bind (wpAny_load hit (wpAny_pure ?_))
  refine wpAny_bind (m := itIntField _ 1) ?_
  unfold itIntField
  refine wpAny_bind (wpAny_field hit rfl (x := rawInt 2) rfl (wpAny_pure ?_))
  dsimp only
  refine wpAny_bind (wpAny_rule ?_)
  unfold itStop
  exact wpAny_mono (stop_at (s := s) (it := it) (Q := Q) (E := E) hh (fun b o _ e => e) hQ) (fun _ _ z => z.elim) fun e s' z => z
end
/-! ### made -/
/-- what stands there when it is made -/
def Made (n k : Nat) (T0 it : Addr) (h : Heap) : Prop := ∃ items : Array Value, h.get? T0 = some { cls := .type "tuple", data := .seq items } ∧ ItemsOf (fun i v => ∃ t, v = .int ((0 : Int) + i * 1) t) items n ∧ T0 ≠ it ∧
  ((k ≤ n ∧ h.get? it = some (obP T0 0 k .none (firstIx n ++ firstCy n k))) ∨ (n < k ∧ ∃ vs, h.get? it = some { cls := .type "itertools.permutations", dict := none, data := .fields (Value.ref T0 :: rawInt 2 :: rawInt (k : Int) :: Value.none :: vs).toArray }))
theorem made_fields {n k : Nat} (h : k ≤ n) {v : Value} : ([v, rawInt 0, rawInt (k : Int), Value.none] ++ (List.range n).map (fun (i : Nat) => rawInt (i : Int)) ++ (List.range k).map fun (i : Nat) => rawInt ((n : Int) - (i : Int))) =
    v :: rawInt 0 :: rawInt (k : Int) :: Value.none :: (firstIx n ++ firstCy n k).map fun (i : Nat) => rawInt (i : Int) := by
  unfold firstIx firstCy
  rw [List.map_append, List.map_map]
  have e : (List.range k).map (fun (i : Nat) => rawInt ((n : Int) - (i : Int))) = (List.range k).map ((fun (i : Nat) => rawInt (i : Int)) ∘ fun i => n - i) := by
    refine List.map_congr_left fun i hi => ?_
    have := List.mem_range.mp hi
    show rawInt ((n : Int) - (i : Int)) = rawInt ((n - i : Nat) : Int)
    congr 1
    omega
  rw [e]
  rfl
theorem meets_p (r : Addr) (n k : Nat) (t t1 t2 t3 : Tok) : Meets (Builtin.«itertools.permutations.__new__» ⟨[.type "itertools.permutations", .ref r, .int k t], []⟩)
    (fun A R s => A.handled = none ∧ IsRange s.heap r 0 n 1 t1 t2 t3 ∧ n ≤ 6 ∧ k ≤ 6 ∧ ∀ (h1 h' : Heap) (tk : Nat) (T0 it : Addr), (∀ b o, s.heap.get? b = some o → h1.get? b = some o) → h1.objs.size ≤ T0 → h1.objs.size ≤ it → Made n k T0 it h' → (∀ b o, h1.get? b = some o → h'.get? b = some o) → R (.ok (.ret (.ref it))) { s with heap := h', toks := tk }) :=
  .of_wp fun prog w A R s ⟨hh, hr, hn, hk, h⟩ => by
    obtain ⟨hp, g, dd, tk, os⟩ := s
    have hsub := sub_p
    have hd := nodict_p
    unfold Builtin.«itertools.permutations.__new__»
    repeat (first
      | wp_step
      | simp only [List.head?_cons, Option.some_or, List.getElem?_cons_succ, List.getElem?_cons_zero, List.length_cons, List.length_nil, List.forIn_nil])
    have hs : ("itertools." ++ "permutations") = "itertools.permutations" := by decide +kernel
    rw [hs]
    refine wpAny_of_eq hsub ?_
    generalize hC : collect = C
    repeat (first
      | wp_step
      | simp only [List.head?_cons, Option.some_or, List.getElem?_cons_succ, List.getElem?_cons_zero, List.length_cons, List.length_nil, List.forIn_nil])
    subst hC
    refine collect_range (n := n) (by simpa using hh) hr (small_one (by omega) (by omega) (by omega) (by omega)) ?_ (by omega) fun h1 tk1 acc k1 hi => ?_
    · have := rangeSize_nat 0 (n : Int)
      simpa using this
    · have hl : acc.toList.length = n := by rw [Array.length_toList]; exact hi.1
      have r1 : ¬ ((decide ((k : Int) < -2 ^ 63) || decide ((k : Int) ≥ 2 ^ 63)) = true) := by
        have a1 : decide ((k : Int) < -2 ^ 63) = false := decide_eq_false (by omega)
        have a2 : decide ((k : Int) ≥ 2 ^ 63) = false := decide_eq_false (by omega)
        rw [a1, a2]
        decide
      have r2 : ¬ ((k : Int) < 0) := by omega
      have r3 : ¬ (itTooMany (k : Int) = true) := by
        unfold itTooMany
        simp
        omega
      show wpAny _ _ (holding acc.toList _ >>= _) _ _ _
      refine wpAny_bind (wpAny_holding ?_)
      refine wpAny_bind (wpAny_of_eq (a := some (k : Int)) (by rfl) ?_)
      dsimp only
      rw [if_neg r1]
      refine wpAny_pure ?_
      rw [if_neg r2, if_neg r3]
      refine wpAny_bind (wpAny_newTuple ?_ (by rw [hl, sizeLine_eq]; omega))
      refine wpAny_bind (m := itNewRecord _ _) ?_
      unfold itNewRecord
      rw [hd]
      refine wp_if_pos rfl ?_
      have hk' : ((k : Int)).toNat = k := rfl
      have sz : ∀ o : Obj, (h1.push o).objs.size = h1.objs.size + 1 := fun o => Heap.size_push ..
      refine wpAny_newObj_type ?_ ?_
      · refine wpAny_pure ⟨_, rfl, ?_⟩
        rw [hl, hk']
        refine h h1 _ tk1 h1.objs.size _ k1 (Nat.le_refl _) (by rw [sz]; exact Nat.le_succ _) ⟨acc.toList.toArray, Heap.get?_push_of_some _ (Heap.get?_push_size _ rfl), by rw [Array.toArray_toList]; exact hi, by rw [sz]; exact Nat.ne_of_lt (Nat.lt_succ_self _), ?_⟩ fun b o e => Heap.get?_push_of_some _ (Heap.get?_push_of_some _ e)
        rcases Nat.lt_or_ge n k with z | z
        · refine .inr ⟨z, (List.range n).map (fun (i : Nat) => rawInt (i : Int)) ++ (List.range k).map fun (i : Nat) => rawInt ((n : Int) - (i : Int)), ?_⟩
          rw [if_pos z]
          exact Heap.get?_push_size _ rfl
        · refine .inl ⟨z, ?_⟩
          rw [if_neg (Nat.not_lt.mpr z), made_fields z]
          exact Heap.get?_push_size _ rfl
      · show (List.toArray _).size ≤ sizeLine + 2
        rw [hl, hk', sizeLine_eq]
        simp
        omega
section
variable {P : Program} {w : World} {A : Around} {E : Value → Shared → Prop} {s : Shared}
theorem call_p {r : Addr} {n k : Nat} {t t1 t2 t3 : Tok} {Q : Value → Shared → Prop} (hh : A.handled = none) (hr : IsRange s.heap r 0 n 1 t1 t2 t3) (hn : n ≤ 6) (hk : k ≤ 6)
    (h : ∀ (h1 h' : Heap) (tk : Nat) (T0 it : Addr), (∀ b o, s.heap.get? b = some o → h1.get? b = some o) → h1.objs.size ≤ T0 → h1.objs.size ≤ it → Made n k T0 it h' → (∀ b o, h1.get? b = some o → h'.get? b = some o) → Q (.ref it) { s with heap := h', toks := tk }) :
    wpAny (model P w) A (call (.type "itertools.permutations") [.ref r, .int k t]) Q E s := by
  refine callType_new called_p (by decide +kernel) (tcall_p _ _) (ncall_p _ _) (fun obj => F.args_object_init_3 obj _ _) ennew_p (meets_p r n k t t1 t2 t3) ?_
  refine ⟨by simpa using hh, hr, hn, hk, fun h1 h' tk T0 it a1 a2 a3 a4 a5 => ?_⟩
  refine ⟨?_, h h1 h' tk T0 it a1 a2 a3 a4 a5⟩
  obtain ⟨items, g1, g2, g3, g4⟩ := a4
  rcases g4 with ⟨_, g⟩ | ⟨_, vs, g⟩
  · exact ⟨_, g, rfl⟩
  · exact ⟨_, g, rfl⟩
theorem self_p {it : Addr} {Q : Value → Shared → Prop} (hT : s.TypeIs (.ref it) "itertools.permutations") (h : Q (.ref it) s) : wpAny (model P w) A (pyIter (.ref it)) Q E s := by
  refine wpAny_pyIter_slot hT iter_p (wpAny_call_entry iter_p hT eniter_p ?_ (aiter_p _))
  show wpAny _ _ (ret (.ref it)) _ _ s
  exact wpAny_pure ⟨_, rfl, "itertools.permutations", _, hT, next_p.lookup, h⟩
end
/-! ### as something that is walked -/
abbrev rowsP (n k : Nat) : List (List Nat) := permsOf (List.range n) k
/-- i rows have been given -/
def AtP (n k : Nat) (T0 it : Addr) (i : Nat) (h : Heap) : Prop := ∃ items : Array Value, h.get? T0 = some { cls := .type "tuple", data := .seq items } ∧ ItemsOf (fun i v => ∃ t, v = .int ((0 : Int) + i * 1) t) items n ∧
  ((i = 0 ∧ k ≤ n ∧ h.get? it = some (obP T0 0 k .none (firstIx n ++ firstCy n k))) ∨
   (n < k ∧ ∃ vs, h.get? it = some { cls := .type "itertools.permutations", dict := none, data := .fields (Value.ref T0 :: rawInt 2 :: rawInt (k : Int) :: Value.none :: vs).toArray }) ∨
   (0 < i ∧ i ≤ (rowsP n k).length ∧ ∃ last ix cy, runs n k ((rowsP n k).drop i) ix cy = true ∧ h.get? it = some (obP T0 1 k last (ix ++ cy))))
theorem AtP.type {n k : Nat} {T0 it : Addr} {i : Nat} {s : Shared} (a : AtP n k T0 it i s.heap) : s.TypeIs (.ref it) "itertools.permutations" := by
  obtain ⟨items, _, _, g⟩ := a
  rcases g with ⟨_, _, g⟩ | ⟨_, _, g⟩ | ⟨_, _, _, _, _, _, g⟩
  · exact ⟨_, g, rfl⟩
  · exact ⟨_, g, rfl⟩
  · exact ⟨_, g, rfl⟩
/-- the rows as values -/
def rowV (o : List Nat) : List V := o.map fun (j : Nat) => V.int (j : Int)
def Itp (n k : Nat) : It :=
  ⟨fun i _ => i < (rowsP n k).length, fun i H x H' => ∃ p o, H p = none ∧ (rowsP n k)[i]? = some o ∧ x = .ref p ∧ H' = upd H p (.tup (rowV o)), fun i _ => (rowsP n k).length ≤ i⟩
theorem perms_len : ∀ {k : Nat} {l : List Nat} {o : List Nat}, o ∈ permsOf l k → o.length = k
  | 0, l, o, h => by
    unfold permsOf at h
    rw [List.mem_singleton.mp h]
    rfl
  | k + 1, l, o, h => by
    unfold permsOf at h
    obtain ⟨x, hx, h⟩ := List.mem_flatMap.mp h
    obtain ⟨o', h', rfl⟩ := List.mem_map.mp h
    rw [List.length_cons, perms_len h']
theorem perms_mem : ∀ {k : Nat} {l : List Nat} {o : List Nat}, o ∈ permsOf l k → ∀ x ∈ o, x ∈ l
  | 0, l, o, h, x, hx => by
    unfold permsOf at h
    rw [List.mem_singleton.mp h] at hx
    cases hx
  | k + 1, l, o, h, x, hx => by
    unfold permsOf at h
    obtain ⟨y, hy, h⟩ := List.mem_flatMap.mp h
    obtain ⟨o', h', rfl⟩ := List.mem_map.mp h
    rcases List.mem_cons.mp hx with z | z
    · rw [z]; exact hy
    · exact List.mem_of_mem_erase (perms_mem h' x z)
theorem rows_none {n k : Nat} (hn : n ≤ 6) (hk : k ≤ 6) (h : n < k) : rowsP n k = [] := by
  have q := runs_all n hn k hk
  unfold runs0 at q
  cases e : permsOf (List.range n) k with
  | nil => exact e
  | cons o os =>
    rw [e] at q
    simp at q
    omega
theorem runs_at {n k : Nat} {os : List (List Nat)} {ix cy : List Nat} (h : runs n k os ix cy = true) : ix.length = n ∧ cy.length = k := by
  cases os with
  | nil => unfold runs at h; simp at h; exact h.1
  | cons o os => unfold runs at h; simp at h; exact h.1
theorem runs_next {n k : Nat} {o : List Nat} {os : List (List Nat)} {ix cy : List Nat} (h : runs n k (o :: os) ix cy = true) : ∃ ix' cy', stepQ n k ix cy = some (ix', cy') ∧ ix'.take k = o ∧ runs n k os ix' cy' = true := by
  unfold runs at h
  cases e : stepQ n k ix cy with
  | none => rw [e] at h; simp at h
  | some q =>
    obtain ⟨ix', cy'⟩ := q
    rw [e] at h
    simp at h
    exact ⟨ix', cy', rfl, h.2.1, h.2.2⟩
theorem runs_end {n k : Nat} {ix cy : List Nat} (h : runs n k [] ix cy = true) : stepQ n k ix cy = none := by
  unfold runs at h
  simp at h
  exact h.2
theorem row_vals {n : Nat} {items : Array Value} (hi : ItemsOf (fun i v => ∃ t, v = .int ((0 : Int) + i * 1) t) items n) : ∀ {o : List Nat}, (∀ x ∈ o, x < n) → Vals (rowV o) (o.map fun i => items.getD i .none)
  | [], _ => .nil
  | x :: o, h => by
    have hx := h x List.mem_cons_self
    have hs : x < items.size := by rw [hi.1]; exact hx
    obtain ⟨t, e⟩ := hi.2 x items[x] (Array.getElem?_eq_getElem hs)
    refine .cons ⟨t, ?_⟩ (row_vals hi fun y hy => h y (List.mem_cons_of_mem _ hy))
    show items.getD x .none = .int (x : Int) t
    have e2 : items.getD x .none = items[x] := by simp [Array.getD, hs]
    rw [e2, e]
    congr 1
    omega
theorem turn_p {P : Program} {w : World} {K : PySem.W.Frag} {tg : Expr} {n k : Nat} (hn : n ≤ 6) (hk : k ≤ 6) (T0 it : Addr) (hne : T0 ≠ it) : Turn P w K tg (Itp n k) [it, T0] it (AtP n k T0 it) where
  mem := by simp
  obj := fun i h a b hb => by
    obtain ⟨items, g1, _, g⟩ := a
    rcases List.mem_cons.mp hb with z | z
    · rw [z]
      rcases g with ⟨_, _, g⟩ | ⟨_, _, g⟩ | ⟨_, _, _, _, _, _, g⟩ <;> exact ⟨_, g, fun v z => nomatch z⟩
    · rw [List.mem_singleton.mp z]
      exact ⟨_, g1, fun v z => nomatch z⟩
  keep := fun i h h' ⟨items, g1, g2, g⟩ kp => ⟨items, kp T0 (by simp) _ g1, g2, by
    rcases g with ⟨a, b, g⟩ | ⟨a, vs, g⟩ | ⟨a, b, l, ix, cy, r, g⟩
    · exact .inl ⟨a, b, kp it (by simp) _ g⟩
    · exact .inr (.inl ⟨a, vs, kp it (by simp) _ g⟩)
    · exact .inr (.inr ⟨a, b, l, ix, cy, r, kp it (by simp) _ g⟩)⟩
  self := fun A i s Q E a h => self_p a.type h
  item := by
    intro X hP hw hK hc i pins s σ H E I hf ⟨items, g1, g2, g⟩ hi
    subst hP hw hK
    have hi : i < (rowsP n k).length := hi
    have hmem : (rowsP n k)[i] ∈ rowsP n k := List.getElem_mem hi
    have hlt : ∀ x ∈ (rowsP n k)[i], x < n := fun x hx => List.mem_range.mp (perms_mem hmem x hx)
    have lenr : (rowV (rowsP n k)[i]).length ≤ sizeLine := by
      unfold rowV
      rw [List.length_map, perms_len hmem, sizeLine_eq]
      omega
    have fin : ∀ h' : Heap, (∀ b o, b ≠ it → s.heap.get? b = some o → h'.get? b = some o) → h'.get? s.heap.objs.size = some { cls := .type "tuple", data := .seq ((rowsP n k)[i].map fun i => items.getD i .none).toArray } →
        (∃ last ix cy, runs n k ((rowsP n k).drop (i + 1)) ix cy = true ∧ h'.get? it = some (obP T0 1 k last (ix ++ cy))) →
        ∃ u, some (Value.ref s.heap.objs.size) = some u ∧ wpAny (model X.prog X.w) X.A (letOwnedTupleGo tg (.ref it) u) (fun _ s2 => ∃ x H', Inv X pins σ H' s2 ∧ RelV x u ∧ (Itp n k).yld i H x H' ∧ AtP n k T0 it (i + 1) s2.heap ∧ ∀ b ∈ [it, T0], H' b = none) E { s with heap := h' } := fun h' kp ht ⟨last, ix, cy, r, go⟩ => by
      have new : Inv X pins σ (upd H s.heap.objs.size (.tup (rowV (rowsP n k)[i]))) { s with heap := h' } :=
        I.turnedNew (t' := s.toks) (ch := [it]) (fun b o hb e => kp b o (by simpa using hb) e) (fun b hb => by rw [List.mem_singleton.mp hb]; exact hf it (by simp)) (Nat.le_refl _) ⟨lenr, _, row_vals g2 hlt, ⟨_, ht, rfl, 0, rfl⟩⟩
      have fresh : H s.heap.objs.size = none := I.hok.fresh (Nat.le_refl _)
      refine ⟨_, rfl, go_of (s := { s with heap := h' }) (n := "itertools.permutations") go rfl rfl (by decide) ⟨.ref s.heap.objs.size, _, new, rfl, ⟨_, _, fresh, List.getElem?_eq_getElem hi, rfl, rfl⟩, ⟨items, kp T0 _ hne g1, g2, .inr (.inr ⟨Nat.succ_pos _, hi, last, ix, cy, r, go⟩)⟩, fun b hb => ?_⟩⟩
      have hb0 := (hf b hb).1
      have lt : b < s.heap.objs.size := by
        rcases List.mem_cons.mp hb with z | z
        · rw [z]
          rcases g with ⟨_, _, g⟩ | ⟨_, _, g⟩ | ⟨_, _, _, _, _, _, g⟩ <;> exact Heap.lt_size g
        · rw [List.mem_singleton.mp z]; exact Heap.lt_size g1
      rw [upd_ne (Nat.ne_of_lt lt)]
      exact hb0
    rcases g with ⟨rfl, hkn, g⟩ | ⟨hkn, _, g⟩ | ⟨a, b, last, ix, cy, r, g⟩
    · have q := runs_all n hn k hk
      unfold runs0 at q
      refine next_start g g1 rfl (by omega) fun h' go ht kp => ?_
      cases e : permsOf (List.range n) k with
      | nil =>
        rw [show rowsP n k = [] from e] at hi
        cases hi
      | cons o os =>
        rw [e] at q
        simp only [Bool.and_eq_true, decide_eq_true_eq] at q
        obtain ⟨⟨q1, q2⟩, q3⟩ := q
        have er : rowsP n k = o :: os := e
        have e0 : (rowsP n k)[0] = o := by simp [er]
        have e1 : (firstIx n ++ firstCy n k).take k = o := by
          rw [List.take_append_of_le_length (by unfold firstIx; rw [List.length_range]; exact hkn)]
          exact q2
        rw [e1] at ht
        refine fin h' kp (by rw [e0]; exact ht) ⟨_, firstIx n, firstCy n k, ?_, go⟩
        rw [er]
        exact q3
    · rw [rows_none hn hk hkn] at hi
      cases hi
    · rw [List.drop_eq_getElem_cons hi] at r
      obtain ⟨h1, h2⟩ := runs_at r
      obtain ⟨ix', cy', h3, h4, h5⟩ := runs_next r
      obtain ⟨h6, h7⟩ := runs_at h5
      have sz : items.size = n := g2.1
      refine next_step g g1 rfl (by rw [sz]; exact h1) (by rw [sz]; exact h3) (by omega) (by rw [List.length_append]; omega) fun h' go ht kp => ?_
      rw [h4] at ht
      exact fin h' kp ht ⟨_, ix', cy', h5, go⟩
  done := by
    intro X hP hw hK hc i pins s σ H E I hf ⟨items, g1, g2, g⟩ hi
    subst hP hw hK
    have hi : (rowsP n k).length ≤ i := hi
    have sz : items.size = n := g2.1
    obtain ⟨f0, f1, f2, f3, f4, f5⟩ := hf it (by simp)
    have over : ∀ h' : Heap, Heap.ExtBut it s.heap h' → (none : Option Value) = none ∧ Inv X pins σ H { s with heap := h' } := fun h' eb => ⟨rfl, I.turned (t' := s.toks) (fun b o hb e => eb b o hb e) f0 f1 f3 f4 f5⟩
    rcases g with ⟨rfl, hkn, g⟩ | ⟨hkn, _, g⟩ | ⟨a, b, last, ix, cy, r, g⟩
    · have q := runs_all n hn k hk
      unfold runs0 at q
      cases e : permsOf (List.range n) k with
      | nil => rw [e] at q; simp at q; omega
      | cons o os =>
        rw [show rowsP n k = o :: os from e] at hi
        simp at hi
    · exact next_none g g1 rfl (I.ok.hd hc) over
    · rw [List.drop_eq_nil_of_le hi] at r
      obtain ⟨h1, h2⟩ := runs_at r
      exact next_over g g1 rfl (by rw [sz]; exact h1) (by rw [sz]; exact runs_end r) (I.ok.hd hc) over
end FWY
/-! FWZ: permutations over data; sorted of tuples. -/
namespace FWY
open PySem PySem.Spec PyProof.Rows L2
section
variable {X : Cx} {tg : Expr}
def rRng1 : List V → Hp → VK → Prop := fun vs H Q => ∃ j, vs = [V.int j] ∧ ∀ p, H p = none → Q (.ref p) (upd H p (.rng 0 j))
theorem cr_rng1 : CallR X (.type "range") rRng1 := by
  intro pins s σ H vs us Q I r h
  obtain ⟨j, rfl, q⟩ := h
  obtain ⟨u, rfl, ru⟩ := vals1 r
  obtain ⟨t, rfl⟩ := ru
  refine call_range_1 ⟨.ref s.heap.objs.size, upd H s.heap.objs.size (.rng 0 j), I.laid (t' := s.toks + 1 + 1) (fun b o e => Heap.get?_push_of_some _ e) (Nat.le_refl _) ?_, rfl, q _ (I.hok.fresh (Nat.le_refl _))⟩
  exact ⟨s.toks, t, s.toks + 1, Heap.get?_push_size _ rfl⟩
def iPrm (ta : TA) : TI := fun σ H R => ta σ H fun vs H1 => ∃ (p : Addr) (n k : Nat), vs = [.ref p, .int k] ∧ H1 p = some (.rng 0 n) ∧ n ≤ 6 ∧ k ≤ 6 ∧ R (Itp n k) H1
theorem pi_prm {a b : Expr} {ta : TA} {x : Str} {p pos : Pos} (hc : X.calm = true) (hg : Gl X x) (hm : X.mg x = some (.type "itertools.permutations")) (ha : PA X [a, b] ta) (hd : (x == ("__debug__" : Str)) = false := by decide)
    (he : starEach [a, b] X.env = (false, eval a X.env) :: starEach [b] X.env := by rfl) (hpl : (backTo pos (starEach [b] X.env)).any (·.1) = false := by rfl) : PI X tg (.Call (.Name x p) [a, b] [] pos) (iPrm ta) := by
  refine ⟨fun pins s σ H R I h => ?_⟩
  refine wpAny_Call_Name_kw (ld_glob I hg hm ?_ hd)
  refine PyProof.Rows.callWith_type1 (thn (ha.run pos pins s σ H _ I h) fun us s1 ⟨vs, H1, I1, r1, q1⟩ => ?_) he hpl
  obtain ⟨q, n, k, rfl, hr, hn, hk, q1⟩ := q1
  obtain ⟨u1, u2, rfl, ru1, ru2⟩ := vals2 r1
  obtain rfl : u1 = .ref q := ru1
  obtain ⟨t, rfl⟩ := ru2
  obtain ⟨t1, t2, t3, ho⟩ := I1.hok q _ hr
  refine call_p (I1.ok.hd hc) ho hn hk fun h1 h' tk T0 it a1 a2 a3 a4 a5 => ?_
  have I2 : Inv X pins σ H1 { s1 with heap := h1 } := I1.kept (t' := s1.toks) a1
  have I3 : Inv X pins σ H1 { s1 with heap := h', toks := tk } := I1.kept fun b o e => a5 b o (a1 b o e)
  obtain ⟨items, g1, g2, hne, g⟩ := a4
  have at0 : AtP n k T0 it 0 h' := ⟨items, g1, g2, by
    rcases g with ⟨z, g⟩ | ⟨z, vs, g⟩
    · exact .inl ⟨rfl, z, g⟩
    · exact .inr (.inl ⟨z, vs, g⟩)⟩
  refine self_p at0.type ⟨it, [it, T0], AtP n k T0 it, Itp n k, H1, rfl, I3, turn_p hn hk T0 it hne, at0, fun b hb => ?_, q1⟩
  rcases List.mem_cons.mp hb with z | z
  · rw [z]; exact I2.fpOk a3 (I2.hok.fresh a3)
  · rw [List.mem_singleton.mp z]; exact I2.fpOk a2 (I2.hok.fresh a2)
end
end FWY
namespace FW
open PySem PySem.Spec PyProof.Rows L2 FWY
def prmD (o : List Nat) : D := .tuple (o.map fun (j : Nat) => .int (j : Int))
@[simp] def iPrmW (wn wk : W) : WA := fun e R => wn e fun d => ∃ n : Nat, d = .int n ∧ n ≤ 6 ∧ wk e fun d' => ∃ k : Nat, d' = .int k ∧ k ≤ 6 ∧ R ((rowsP n k).map prmD)
section
variable {c : Amb} {H F H' F' H1 F1 H2 F2 H0 : Hp} {σ : L2.St} {e : Sg}
theorem row_rp {K : PySem.W.Frag} : ∀ o : List Nat, RpAll K F (rowV o) (o.map fun (j : Nat) => .int (j : Int))
  | [] => .nil
  | j :: o => .cons (.int _) (row_rp o)
theorem yields_prm {n k : Nat} : Yields c (Itp n k) F1 ((rowsP n k).map prmD) where
  go := fun i H F hi W s => by
    rw [List.length_map] at hi
    exact hi
  yld := fun i d H F x H' hd W s ⟨p, o, h1, h2, h3, h4⟩ => by
    rw [List.getElem?_map, h2] at hd
    cases hd
    subst h3 h4
    refine ⟨_, Ext.laid W (.tup (rowV o)) h1, .inl (.tup (.inl (.inl upd_same)) (row_rp o))⟩
  stop := fun H F W s => by
    show (rowsP n k).length ≤ _
    rw [List.length_map]
    exact Nat.le_refl _
theorem xi_prm {wn wk : W} : ∀ σ H R, tI c (iPrmW wn wk) σ H R → iPrm (tCons (tCB rRng1 (tA c (aCons wn aNil))) (tCons (tD c wk) tNil)) σ H R := fun σ H R ⟨e, F, H0, Rd, W, S, q, P⟩ =>
  ⟨e, F, H0, fun ds => match ds with
    | [d] => ∃ n : Nat, d = .int n ∧ n ≤ 6 ∧ wk e fun d' => ∃ k : Nat, d' = .int k ∧ k ≤ 6 ∧ Rd ((rowsP n k).map prmD)
    | _ => False, W, S, q, fun ds vs H1 F1 r x1 rv => by
    match ds, r, rv with
    | [d], ⟨n, hd, hn, r⟩, rv =>
      subst hd
      obtain ⟨v, rfl, rv1⟩ := reps1 rv
      have ev := rv1.int_inv
      subst ev
      refine ⟨(n : Int), rfl, fun p hp => ?_⟩
      have xl := Ext.loose x1.ok (.rng 0 (n : Int)) hp
      have np : p ∉ c.Ps := fun z => by
        obtain ⟨⟨ps, y, _⟩, _⟩ := xl.ok.tab p z
        rw [upd_same] at y
        cases y
      refine ⟨e, F1, H0, _, xl.ok, S.ext W (x1.trans xl), r, fun d' v' H2 F2 ⟨k, hd', hk, r2⟩ x2 rv2 => ?_⟩
      subst hd'
      refine ⟨p, n, k, ?_, x2.keep p _ upd_same (x1.ok.newR hp) np, hn, hk, ?_⟩
      · rw [rv2.int_inv]
      · exact P _ _ _ _ r2 ((x1.trans xl).trans x2) yields_prm⟩
end
end FW
/-! ### sorted of tuples of numbers, all of one length -/
namespace FWY
open PySem PySem.Spec PyProof.Rows L2
def lexI : List Int → List Int → Bool
  | [], [] => false
  | [], _ :: _ => true
  | _ :: _, [] => false
  | x :: xs, y :: ys => if x = y then lexI xs ys else decide (x < y)
theorem lexI_anti : ∀ {a b : List Int}, lexI a b = true → lexI b a = false
  | [], [], h => by cases h
  | [], _ :: _, _ => rfl
  | _ :: _, [], h => by cases h
  | x :: xs, y :: ys, h => by
    unfold lexI at h ⊢
    by_cases e : x = y
    · rw [if_pos e] at h
      rw [if_pos e.symm]
      exact lexI_anti h
    · rw [if_neg e] at h
      rw [if_neg (fun z => e z.symm)]
      have := of_decide_eq_true h
      exact decide_eq_false (by omega)
theorem lexI_trans : ∀ {a b c : List Int}, lexI b a = false → lexI c b = false → lexI c a = false
  | [], [], [], _, _ => rfl
  | [], [], _ :: _, _, h => by cases h; rfl
  | [], _ :: _, [], _, h => by cases h
  | [], _ :: _, _ :: _, _, _ => rfl
  | _ :: _, [], _, h, _ => by cases h
  | _ :: _, _ :: _, [], _, h => by cases h
  | x :: xs, y :: ys, z :: zs, h1, h2 => by
    unfold lexI at h1 h2 ⊢
    by_cases e1 : y = x
    · rw [if_pos e1] at h1
      by_cases e2 : z = y
      · rw [if_pos e2] at h2
        rw [if_pos (e2.trans e1)]
        exact lexI_trans h1 h2
      · rw [if_neg e2] at h2
        have := of_decide_eq_false h2
        rw [if_neg (fun q => e2 (q.trans e1.symm))]
        exact decide_eq_false (by omega)
    · rw [if_neg e1] at h1
      have a := of_decide_eq_false h1
      by_cases e2 : z = y
      · rw [if_neg (fun q => e1 (e2.symm.trans q))]
        exact decide_eq_false (by omega)
      · rw [if_neg e2] at h2
        have b := of_decide_eq_false h2
        rw [if_neg (fun q => by omega)]
        exact decide_eq_false (by omega)
theorem lexI_eq : ∀ {a b : List Int}, lexI a b = false → lexI b a = false → a = b
  | [], [], _, _ => rfl
  | [], _ :: _, h, _ => by cases h
  | _ :: _, [], _, h => by cases h
  | x :: xs, y :: ys, h1, h2 => by
    unfold lexI at h1 h2
    by_cases e : x = y
    · rw [if_pos e] at h1
      rw [if_pos e.symm] at h2
      rw [e, lexI_eq h1 h2]
    · rw [if_neg e] at h1
      rw [if_neg (fun z => e z.symm)] at h2
      have a := of_decide_eq_false h1
      have b := of_decide_eq_false h2
      omega
/-- p stands not behind q -/
abbrev leL (p q : List Int) : Prop := lexI q p = false
def IsTI (h : Heap) (v : Value) (ns : List Int) : Prop := ∃ a o xs n, v = .ref a ∧ h.get? a = some o ∧ o.cls = .type "tuple" ∧ o.data = .seq xs n ∧ IntsAre xs.toList ns
def tupOf (o : Obj) : List Int := match o.data with
  | .seq its _ => its.toList.map SrtO.iv
  | _ => []
def tupAt (h : Heap) (v : Value) : List Int := match v with
  | .ref a => ((h.get? a).map tupOf).getD []
  | _ => []
theorem tupAt_is {h : Heap} {v : Value} {ns : List Int} (p : IsTI h v ns) : tupAt h v = ns := by
  obtain ⟨a, o, xs, n, rfl, ho, _, hd, hi⟩ := p
  show ((h.get? a).map tupOf).getD [] = ns
  rw [ho]
  show tupOf o = ns
  unfold tupOf
  rw [hd]
  exact SrtO.iv_ints hi
section
variable {prog : Program} {w : World} {A : Around} {E : Value → Shared → Prop} {s : Shared}
theorem kat_ints {Q : Bool → Shared → Prop} : ∀ {us vs : List Value} {xs ys : List Int}, IntsAre us xs → IntsAre vs ys → xs.length = ys.length → ∀ i, Q (lexI xs ys) s → PySem.W.KatLex prog w A true false Q (us.zip vs) i s
  | _, _, _, _, .nil, .nil, _, i, h => PySem.W.kat_nil h
  | _, _, _, _, .nil, .cons _ _ _, e, _, _ => nomatch e
  | _, _, _, _, .cons _ _ _, .nil, e, _, _ => nomatch e
  | _, _, _, _, .cons x t r, .cons y u q, e, i, h => by
    refine PySem.W.kat_cons (SeqAt.EqAt.int_int x t y u prog w _ _ ?_)
    refine PySem.W.kat_go (fun e1 => ?_) (fun e1 => ?_)
    · have ex : x = y := by simpa using e1
      refine PySem.W.kat_yes (kat_ints r q (by simpa using e) _ ?_)
      unfold lexI at h
      rw [if_pos ex] at h
      exact h
    · have ex : ¬ x = y := by simpa using e1
      unfold lexI at h
      rw [if_neg ex] at h
      exact PySem.W.kat_no (TS.oneLt_ints _ h)
theorem tups_firsts {h : Heap} {d : Nat} (hd : 1 ≤ d) : ∀ {vs : List Value}, (∀ v ∈ vs, ∃ ns, IsTI h v ns ∧ ns.length = d) → ∃ fs : List Value, PySem.W.KatTups h vs fs ∧ fs.length = vs.length ∧ ∀ f ∈ fs, ∃ x t, f = Value.int x t
  | [], _ => ⟨[], PySem.W.KatTups.nil, rfl, fun _ hm => by simp at hm⟩
  | v :: vs, hp => by
    obtain ⟨fs, h1, h2, h3⟩ := tups_firsts hd (vs := vs) fun v' hm => hp v' (List.mem_cons_of_mem _ hm)
    obtain ⟨ns, ⟨a, o, xs, n, rfl, ho, hc, hdt, hi⟩, hl⟩ := hp v List.mem_cons_self
    obtain ⟨y, ys, e⟩ : ∃ y ys, xs.toList = y :: ys := by
      cases q : xs.toList with
      | nil =>
        rw [q] at hi
        have := hi.length
        simp at this
        omega
      | cons y ys => exact ⟨y, ys, rfl⟩
    obtain ⟨m, t, hy⟩ := SrtO.ints_mem hi y (by rw [e]; exact List.mem_cons_self)
    refine ⟨y :: fs, PySem.W.KatTups.cons ho hc hdt ?_ h1, by simp [h2], fun f hm => ?_⟩
    · rw [← Array.getElem?_toList, e]
      rfl
    · rcases List.mem_cons.mp hm with z | z
      · rw [z]; exact ⟨m, t, hy⟩
      · exact h3 f z
theorem tup_cmp {vs : List Value} {k : Value → List Int} {d : Nat} (hp : ∀ v ∈ vs, IsTI s.heap v (k v) ∧ (k v).length = d) : SrtO.Cmp prog w A s (tuples' true) (fun p => p.1 ∈ vs) (SrtO.lt2 fun v u => lexI (k v) (k u)) := by
  intro p q hm hm'
  obtain ⟨h1, l1⟩ := hp _ hm
  obtain ⟨h2, l2⟩ := hp _ hm'
  show wpAny (model prog w) A (keyLt' (tuples' true) p.1 q.1) (fun r s' => s' = s ∧ r = lexI (k p.1) (k q.1)) (fun _ _ => False) s
  generalize k p.1 = x at h1 l1 ⊢
  generalize k q.1 = y at h2 l2 ⊢
  obtain ⟨a, o, xs, n, e, ho, hc, hd, hi⟩ := h1
  obtain ⟨a', o', xs', n', e', ho', hc', hd', hi'⟩ := h2
  rw [e, e']
  refine PySem.W.kat_lt ho hd ho' hd' ?_
  have z1 : xs.size = d := by rw [← Array.length_toList, hi.length, l1]
  have z2 : xs'.size = d := by rw [← Array.length_toList, hi'.length, l2]
  have fin : decide (xs.size < xs'.size) = false := decide_eq_false (by omega)
  rw [fin]
  exact kat_ints hi hi' (by rw [l1, l2]) 0 ⟨rfl, rfl⟩
theorem IsTI.keeps {h h' : Heap} {v : Value} {ns : List Int} (p : IsTI h v ns) (k : ∀ b o, h.get? b = some o → o.cls = .type "tuple" → h'.get? b = some o) : IsTI h' v ns := by
  obtain ⟨a, o, xs, n, e, ho, hc, r⟩ := p
  exact ⟨a, o, xs, n, e, k _ _ ho hc, hc, r⟩
theorem tups_sortable {a : Addr} {vs : List Value} {k : Value → List Int} {d : Nat} (h0 : 0 < vs.length) (hd : 1 ≤ d) (hp : ∀ v ∈ vs, IsTI s.heap v (k v) ∧ (k v).length = d) (ha : ∀ o, s.heap.get? a = some o → o.cls ≠ .type "tuple") :
    SrtO.SortableO prog w A s a vs fun v u => lexI (k v) (k u) := by
  intro h' keep
  have hp' : ∀ v ∈ vs, IsTI h' v (k v) ∧ (k v).length = d := fun v hm => ⟨(hp v hm).1.keeps fun b o e c => keep b o (fun z => by subst z; exact ha o e c) e, (hp v hm).2⟩
  obtain ⟨fs, h1, h2, h3⟩ := tups_firsts hd fun v hm => ⟨_, hp' v hm⟩
  refine ⟨tuples' true, fun Q E hq => ?_, tup_cmp hp'⟩
  refine PySem.W.kat_kind (T := .type "int") h1 (by omega) (fun f hm => ?_) (by rfl) ?_
  · obtain ⟨x, t, rfl⟩ := h3 f hm
    exact PySem.W.Looks.now
  · have e : (Value.type "int" != Value.type "tuple") = true := by first | decide +kernel | rfl | decide
    rw [e]
    exact hq
theorem swo_lexI (k : Value → List Int) : SrtO.Swo fun v u => lexI (k v) (k u) := ⟨fun x y h => lexI_anti h, fun x y z h1 h2 => lexI_trans h1 h2⟩
end
theorem refs_are' : ∀ {ts : List (Addr × List Int)} {us : List Value}, Vals (ts.map fun t => V.ref t.1) us → us = ts.map fun t => Value.ref t.1
  | [], _, .nil => rfl
  | _ :: _, _, .cons r q => by
    cases r
    rw [refs_are' q]
    rfl
theorem refs_vals' : ∀ ts : List (Addr × List Int), Vals (ts.map fun t => V.ref t.1) (ts.map fun t => Value.ref t.1)
  | [] => .nil
  | t :: ts => .cons rfl (refs_vals' ts)
def rSrtT (K : PySem.W.Frag) : List V → Hp → VK → Prop := fun vs H Q => ∃ (a : Addr) (ts : List (Addr × List Int)) (d : Nat), vs = [V.ref a] ∧ SqL K H a (ts.map fun t => V.ref t.1) ∧ 1 ≤ d ∧
  (∀ t ∈ ts, t.2.length = d ∧ SqT K H t.1 (t.2.map V.int)) ∧ ∀ (us : List (Addr × List Int)) p, us.Perm ts → (us.map (·.2)).Pairwise leL → H p = none → Q (.ref p) (upd H p (.lst (us.map fun t => V.ref t.1)))
section
variable {X : Cx}
theorem cr_srtT : CallR X (.builtin "sorted") (rSrtT X.K) := by
  intro pins s σ H vs us Q I r h
  obtain ⟨a, ts, d, rfl, hs, hd1, ht, q⟩ := h
  obtain ⟨its, rv, hl, hz⟩ := I.list hs
  rw [Vals.ref1 r]
  have e := refs_are' rv
  subst e
  have isp : ∀ t ∈ ts, IsTI s.heap (.ref t.1) t.2 := fun t hm => by
    obtain ⟨js, rj, ⟨o, ho, hc, n, hd⟩, _⟩ := I.tuple (ht t hm).2
    exact ⟨t.1, o, _, n, rfl, ho, hc, hd, by simpa using rj.ints⟩
  have hk : ∀ v ∈ ts.map (fun t => Value.ref t.1), IsTI s.heap v (tupAt s.heap v) ∧ (tupAt s.heap v).length = d := fun v hv => by
    obtain ⟨t, hm, rfl⟩ := List.mem_map.mp hv
    have := isp t hm
    rw [tupAt_is this]
    exact ⟨this, (ht t hm).1⟩
  refine SrtO.sorted_ord (swo_lexI (tupAt s.heap)) hl.isList (by rw [← rv.length]; exact hz) (fun h2 h₁ a' ha kk => tups_sortable (by omega) hd1 (fun v hv => ⟨(hk v hv).1.keeps fun b o e _ => (kk b o e).2, (hk v hv).2⟩) fun o z => ?_) fun out h1 h2 => ?_
  · have e' := z.symm.trans ha
    cases e'
    intro c
    exact absurd (Value.type.inj c) (by decide)
  · let f : Value → Addr × List Int := fun v => ((match v with | .ref b => b | _ => 0), tupAt s.heap v)
    have back : ∀ t ∈ ts, f (.ref t.1) = t := fun t hm => by
      show (t.1, tupAt s.heap (.ref t.1)) = t
      rw [tupAt_is (isp t hm)]
    have there : ∀ v ∈ out, ∃ t ∈ ts, v = .ref t.1 := fun v hv => by
      obtain ⟨t, hm, z⟩ := List.mem_map.mp (h2.perm.mem_iff.mp hv)
      exact ⟨t, hm, z.symm⟩
    have p1 : (out.map f).Perm ts := by
      have y := h2.perm.map f
      rw [List.map_map] at y
      have z : ts.map (f ∘ fun t => Value.ref t.1) = ts := by
        conv => rhs; rw [← List.map_id ts]
        exact List.map_congr_left fun t hm => back t hm
      rwa [z] at y
    have p2 : (out.map f).map (fun t => Value.ref t.1) = out := by
      rw [List.map_map]
      conv => rhs; rw [← List.map_id out]
      refine List.map_congr_left fun v hv => ?_
      obtain ⟨t, _, rfl⟩ := there v hv
      rfl
    have p3 : ((out.map f).map (·.2)).Pairwise leL := by
      rw [List.map_map]
      exact List.pairwise_map.mpr (h1.imp fun {x y} z => z)
    obtain ⟨ep, he'⟩ := PyProof.Rows.sortedAll_at s.heap (ts.map fun t => Value.ref t.1) out.toArray
    have vv := refs_vals' (out.map f)
    rw [p2] at vv
    have small : ((out.map f).map fun t => V.ref t.1).length ≤ sizeLine := by
      rw [List.length_map, p1.length_eq]
      rw [List.length_map] at hz
      exact hz
    exact ⟨.ref _, upd H (s.heap.objs.size + 1) (.lst ((out.map f).map fun t => V.ref t.1)), I.laid (t' := s.toks) (fun _ _ => PyProof.Rows.sortedAll_old) (Nat.le_succ _) ⟨small, out, ep, vv, he'⟩, rfl, q _ _ p1 p3 (I.hok.fresh (Nat.le_succ _))⟩
end
end FWY
namespace FW
open PySem PySem.Spec PyProof.Rows L2 FWY
abbrev tupD (l : List Int) : D := .tuple (l.map .int)
@[simp] def nSrtT (w : WA) : WA := fun e R => w e fun ds => ∃ (ps : List (List Int)) (d : Nat), ds = [.list (ps.map tupD)] ∧ 1 ≤ d ∧ (∀ p ∈ ps, p.length = d) ∧ ∀ qs : List (List Int), qs.Perm ps → qs.Pairwise leL → R (qs.map tupD)
section
variable {c : Amb} {H F H' F' H1 F1 H2 F2 H0 : Hp} {σ : L2.St} {e : Sg}
theorem rp_tups {K : PySem.W.Frag} : ∀ {ws : List V} {ps : List (List Int)}, RpAll K F ws (ps.map tupD) → ∃ ts : List (Addr × List Int), ws = ts.map (fun t => V.ref t.1) ∧ ps = ts.map (·.2) ∧ ∀ t ∈ ts, SqT K F t.1 (t.2.map V.int)
  | [], [], _ => ⟨[], rfl, rfl, fun t h => nomatch h⟩
  | [], _ :: _, h => nomatch h
  | _ :: _, [], h => nomatch h
  | w :: ws, p :: ps, h => by
    cases h with
    | cons h1 h2 =>
      obtain ⟨ts, e1, e2, e3⟩ := rp_tups h2
      cases h1 with
      | tup g1 g2 =>
        have := rpAll_ints_inv g2
        subst this
        exact ⟨(_, p) :: ts, by rw [e1]; rfl, by rw [e2]; rfl, fun t ht => by
          rcases List.mem_cons.mp ht with z | z
          · rw [z]; exact g1
          · exact e3 t z⟩
theorem tups_rp {K : PySem.W.Frag} : ∀ (ts : List (Addr × List Int)), (∀ t ∈ ts, SqT K F t.1 (t.2.map V.int)) → RpAll K F (ts.map fun t => V.ref t.1) ((ts.map (·.2)).map tupD)
  | [], _ => .nil
  | t :: ts, h => .cons (.tup (h t List.mem_cons_self) (rpAll_ints _)) (tups_rp ts fun t' ht => h t' (List.mem_cons_of_mem _ ht))
theorem xn_srtT {w : WA} : ∀ σ H Q, tN c (nSrtT w) σ H Q → tCB (rSrtT c.K) (tA c w) σ H Q := fun σ H Q ⟨e, F, H0, R, W, S, q, P⟩ =>
  ⟨e, F, H0, _, W, S, q, fun ds vs H1 F1 ⟨ps, d, hd, d1, hp, r⟩ x1 rv => by
    subst hd
    obtain ⟨v, rfl, q1⟩ := reps1 rv
    obtain ⟨a, ws, rfl, h1, h2⟩ := q1.list_inv
    obtain ⟨ts, rfl, rfl, h3⟩ := rp_tups h2
    refine ⟨a, ts, d, rfl, SqL.of (x1.ok.sub _ _ h1), d1, fun t ht => ⟨hp t.2 (List.mem_map.mpr ⟨t, ht, rfl⟩), same_t x1.ok.sub (h3 t ht)⟩, fun us p hpm hs hn => ?_⟩
    have x2 := Ext.loose x1.ok (.lst (us.map fun t => V.ref t.1)) hn
    exact P ((us.map (·.2)).map tupD) p _ _ _ (r _ (hpm.map _) hs) (x1.trans x2) (x1.free hn) upd_same (x1.ok.newF hn) (x1.ok.newR hn) (tups_rp us fun t ht => h3 t (hpm.mem_iff.mp ht))⟩
end
end FW
/-! FWJ: all(test of x, y for x, y in zip(a, b)), a and b tuples of numbers. -/
namespace FWJ
open PySem PySem.Spec PyProof.Rows L2 RZ
/-- the objects of a zip of two tuples, i pairs given -/
structure StZ (z TI TO i1 i2 l1 l2 : Addr) (xs ys : Array Value) (k : Nat) (h : Heap) : Prop where
  qz : IsZip h z TI TO .none
  qti : IsPair h TI (.ref i1) (.ref i2)
  qto : ∃ a b, IsPair h TO a b
  qa : h.IsTupleIter i1 l1 k
  qb : h.IsTupleIter i2 l2 k
  qla : h.IsTuple l1 xs
  qlb : h.IsTuple l2 ys
structure MidZ (z TI TO i1 i2 l1 l2 : Addr) (xs ys : Array Value) (k : Nat) (T : Addr) (h : Heap) : Prop where
  qz : IsZip h z TI TO (rawInt T)
  qti : IsPair h TI (.ref i1) (.ref i2)
  qto : ∃ a b, IsPair h TO a b
  qa : h.IsTupleIter i1 l1 (k + 1)
  qb : h.IsTupleIter i2 l2 (k + 1)
  qla : h.IsTuple l1 xs
  qlb : h.IsTuple l2 ys
  n1 : T ≠ z
  n2 : T ≠ TO
  n3 : T ≠ i1
  n4 : T ≠ i2
section
variable {P : Program} {w : World} {A : Around}
theorem zip_walk (hh : A.handled = none) (z TI TO i1 i2 l1 l2 : Addr) (D : ZipApart z TI TO i1 i2 l1 l2) (xs ys : Array Value) :
    WalksT P w A z [z, TI, TO, i1, i2, l1, l2] [z, TO, i1, i2] (min xs.size ys.size) (fun i vals => ∃ x y, xs[i]? = some x ∧ ys[i]? = some y ∧ vals = #[x, y])
      (StZ z TI TO i1 i2 l1 l2 xs ys) (MidZ z TI TO i1 i2 l1 l2 xs ys) where
  sub := fun c hc => by
    simp at hc ⊢
    rcases hc with q | q | q | q <;> simp [q]
  frame := fun i h h' st hk => by
    obtain ⟨a, b, q⟩ := st.qto
    exact ⟨hk z (by simp) _ st.qz, hk TI (by simp) _ st.qti, ⟨a, b, hk TO (by simp) _ q⟩, st.qa.at fun o e => hk i1 (by simp) o e, st.qb.at fun o e => hk i2 (by simp) o e,
      st.qla.at fun o e => hk l1 (by simp) o e, st.qlb.at fun o e => hk l2 (by simp) o e⟩
  item := fun i s Q E hi st hQ => by
    obtain ⟨a, b, q⟩ := st.qto
    have hx : i < xs.size := by omega
    have hy : i < ys.size := by omega
    refine pyNext_zipT_item D st.qz st.qti q st.qa st.qb st.qla st.qlb (Array.getElem?_eq_getElem hx) (Array.getElem?_eq_getElem hy) fun h' a1 a2 a3 a4 a5 a6 hk => ?_
    have lt : ∀ {c o}, s.heap.get? c = some o → s.heap.objs.size ≠ c := fun e => Nat.ne_of_gt (Heap.lt_size e)
    have k4 : ∀ c o, c ≠ z → c ≠ TO → c ≠ i1 → c ≠ i2 → s.heap.get? c = some o → h'.get? c = some o := hk
    refine hQ s.heap.objs.size #[xs[i], ys[i]] h' s.toks ⟨_, _, Array.getElem?_eq_getElem hx, Array.getElem?_eq_getElem hy, rfl⟩ (Nat.le_refl _) ⟨_, a5, rfl, _, rfl⟩ ?_ fun c o hc e => ?_
    · exact ⟨a1, k4 _ _ D.TIz D.TITO D.TIi1 D.TIi2 st.qti, ⟨_, _, a2⟩, a3, a4, st.qla.at fun o e => k4 _ o D.l1z D.l1TO D.l1i1 D.l1i2 e, st.qlb.at fun o e => k4 _ o D.l2z D.l2TO D.l2i1 D.l2i2 e,
        lt st.qz, lt q, (by obtain ⟨_, e, _⟩ := st.qa; exact lt e), (by obtain ⟨_, e, _⟩ := st.qb; exact lt e)⟩
    · exact k4 c o (fun x => hc (by simp [x])) (fun x => hc (by simp [x])) (fun x => hc (by simp [x])) (fun x => hc (by simp [x])) e
  go := fun elts k pos i T s Q E m hQ => by
    obtain ⟨a, b, q⟩ := m.qto
    refine wpAny_letOwnedTupleGo_zip m.qz fun h' hz' sb => hQ h' ?_ fun c o hc e => sb.extBut _ _ (fun x => hc (by simp [x])) e
    exact ⟨hz', sb.extBut _ _ D.TIz m.qti, ⟨a, b, sb.extBut _ _ D.TOz q⟩, m.qa.at fun o e => sb.extBut _ _ D.i1z e, m.qb.at fun o e => sb.extBut _ _ D.i2z e,
      m.qla.at fun o e => sb.extBut _ _ D.l1z e, m.qlb.at fun o e => sb.extBut _ _ D.l2z e⟩
  apart := fun i T h m hT => by
    simp at hT
    rcases hT with q | q | q | q
    · exact m.n1 q
    · exact m.n2 q
    · exact m.n3 q
    · exact m.n4 q
  done := fun s Q E st hQ => by
    obtain ⟨a, b, q⟩ := st.qto
    have over : xs[min xs.size ys.size]? = none ∨ ys[min xs.size ys.size]? = none := by
      rcases Nat.le_total xs.size ys.size with h | h
      · exact .inl (Array.getElem?_eq_none (by omega))
      · exact .inr (Array.getElem?_eq_none (by omega))
    exact pyNext_zipT_end hh D st.qz st.qti q st.qa st.qb st.qla st.qlb over fun h' hk => hQ h' s.toks fun c o hc e =>
      hk c o (fun x => hc (by simp [x])) (fun x => hc (by simp [x])) (fun x => hc (by simp [x])) (fun x => hc (by simp [x])) e
  self := fun i s Q E st hQ => wpAny_pyIter_zip st.qz hQ
end
/-- the element as a test of two numbers -/
def ElP (X : Cx) (scope : Scope) (xa xb : Str) (elt : Expr) (pb : Int → Int → Bool) : Prop :=
  ∀ (cenv : PySem.Env) (A' : Around) (E' : Value → Shared → Prop) (m n : Int) (t u : Tok) (s2 : Shared) (m2 : Str → Option Value), cenv.scope = scope → s2.heap.Ns cenv.locals m2 → m2 xa = some (.int m t) → m2 xb = some (.int n u) →
    wpAny (model X.prog X.w) A' (eval elt cenv) (fun y s3 => y = .bool (pb m n) ∧ Keeps s2 s3) E' s2
def atP (pb : Int → Int → Bool) (ns ms : List Int) (i : Nat) : Bool := match ns[i]?, ms[i]? with
  | some a, some b => pb a b
  | _, _ => false
theorem all_atP (pb : Int → Int → Bool) : ∀ ns ms : List Int, (List.range (min ns.length ms.length)).all (atP pb ns ms) = (ns.zip ms).all fun q => pb q.1 q.2 := fun ns ms => by
  rw [Bool.eq_iff_iff, List.all_eq_true, List.all_eq_true]
  constructor
  · rintro h ⟨a, b⟩ hq
    obtain ⟨j, hj⟩ := List.mem_iff_getElem?.mp hq
    rw [List.getElem?_zip_eq_some] at hj
    have h1 := (List.getElem?_eq_some_iff.mp hj.1).1
    have h2 := (List.getElem?_eq_some_iff.mp hj.2).1
    have := h j (List.mem_range.mpr (by omega))
    unfold atP at this
    rw [hj.1, hj.2] at this
    exact this
  · intro h j hj
    have hj := List.mem_range.mp hj
    have h1 : ns[j]? = some ns[j] := List.getElem?_eq_getElem (by omega)
    have h2 : ms[j]? = some ms[j] := List.getElem?_eq_getElem (by omega)
    unfold atP
    rw [h1, h2]
    exact h (ns[j], ms[j]) (List.mem_iff_getElem?.mpr ⟨j, by rw [List.getElem?_zip_eq_some]; exact ⟨h1, h2⟩⟩)
/-- a generator at g over the tests, to be walked from s5 on -/
def Gen2 (X : Cx) (pins : List (Addr × Obj)) (σ : L2.St) (H1 : Hp) (P : Addr) (ns ms : List Int) (pb : Int → Int → Bool) (g : Addr) (s5 : Shared) : Prop :=
  ∃ (fp wr : List Addr) (G : Array GenState → Array GenState → Prop) (Fv : Nat → Value → Prop) (St : Nat → Shared → Prop), WalksS X.prog X.w X.A.in1 g fp wr G (min ns.length ms.length) Fv St ∧ St 0 s5 ∧
    TruthOf X.prog X.w X.A.in1 Fv (atP pb ns ms) ∧ ∀ s', Moved wr G s5 s' → ∃ H2, GxR.Tabbed P H1 H2 ∧ Inv X pins σ H2 s'
section
variable {X : Cx} {pins : List (Addr × Obj)} {σ : L2.St} {H1 : Hp} {s0 : Shared} {hz : Heap}
theorem gen_two {c P z TI TO i1 i2 l1 l2 : Addr} {elt : Expr} {xa xb : Str} {gpos : Pos} {scope : Scope} {pb : Int → Int → Bool} {k : Nat} {ns ms : List Int} {xs ys : List Value} {ps : Array Value} {Q' : Value → Shared → Prop}
    (hr : Room k X.A) (TB : GxR.TabB X.base X.mg c P) (hcode : X.env.code = .ref c) (I0 : Inv X pins σ H1 s0) (kz : ∀ b o, s0.heap.get? b = some o → hz.get? b = some o) (D : ZipApart z TI TO i1 i2 l1 l2) (st : StZ z TI TO i1 i2 l1 l2 xs.toArray ys.toArray 0 hz)
    (ra : Vals (ns.map V.int) xs) (rb : Vals (ms.map V.int) ys) (hel : ElP X scope xa xb elt pb) (hP : H1 P = some (.tbl ps)) (ht : TriplesOk ps.toList)
    (hf : ∀ b ∈ [z, TI, TO, i1, i2, l1, l2], b ≠ P ∧ b < hz.objs.size) (hw : ∀ b ∈ [z, TO, i1, i2], s0.heap.objs.size ≤ b) (hQ : ∀ g s5, Gen2 X pins σ H1 P ns ms pb g s5 → Q' (.ref g) s5) :
    wpAny (model X.prog X.w) X.A (genexprCode X.env gpos (X.env.qual ++ "<genexpr>") scope) (fun code s3 => wpAny (model X.prog X.w) X.A (builtinsFor X.env.globals X.env.builtins) (fun bi s4 =>
      ∃ Ia fp wr n₀ Pt St₀ Mid pz F, Value.ref z = .ref Ia ∧ (∀ A' : Around, A'.handled = none → WalksU X.prog X.w A' Ia fp wr n₀ Pt St₀ Mid) ∧ (∀ i vals, Pt i vals → ∃ va vb, vals = #[va, vb]) ∧ St₀ 0 s4.heap ∧ (∀ b ∈ fp, b < s4.heap.objs.size) ∧ s4.heap.NoLimit ∧ cStatics ∉ wr ∧
        (∀ href : Heap, (∀ b o, s4.heap.get? b = some o → href.get? b = some o) →
          QuietGenT X.prog X.w (genEnv scope (cloFrom X.env.cells scope.names []) s4.heap.objs.size code bi X.env) xa xb [] elt (List.range s4.heap.objs.size) wr Pt pz F href) ∧
        (∀ a h5 tk gs, gs.bare = true → s4.heap.objs.size < a → h5.objs.size = a + 1 → (∀ b o, s4.heap.get? b = some o → h5.get? b = some o) →
          WalksS X.prog X.w X.A.in4 a (a :: s4.heap.objs.size :: List.range s4.heap.objs.size) (s4.heap.objs.size :: wr) (GenOnlyQ s4.gens.size) (passing pz n₀ 0).length (fun j y => ∃ i, (passing pz n₀ 0)[j]? = some i ∧ F i y)
            (GenAt X.prog X.w X.A.in4 a s4.gens.size s4.heap.objs.size (List.range s4.heap.objs.size) wr pz n₀ F) →
          GenAt X.prog X.w X.A.in4 a s4.gens.size s4.heap.objs.size (List.range s4.heap.objs.size) wr pz n₀ F 0 { s4 with gens := s4.gens.push gs, toks := tk, heap := h5 } →
          Q' (.ref a) { s4 with gens := s4.gens.push gs, toks := tk, heap := h5 })) X.xe s3) X.xe { s0 with heap := hz } := by
  have I1 : Inv X pins σ H1 { s0 with heap := hz } := I0.kept (t' := s0.toks) kz
  have hPs : hz.get? P = some { cls := .none, data := .fields ps } := I1.hok P _ hP
  have ltP : P < hz.objs.size := Heap.lt_size hPs
  refine FWG.gen_code hcode (TB.code.keeps fun b u e => I1.bk b u e) hPs ht fun code h3 tk more hx hge hP3 ht3 => ?_
  have k3 : ∀ b u, b ≠ P → hz.get? b = some u → h3.get? b = some u := fun b u hb e => hx b u hb e
  have st3 : StZ z TI TO i1 i2 l1 l2 xs.toArray ys.toArray 0 h3 := (zip_walk (P := X.prog) (w := X.w) (A := X.A) hr.hd z TI TO i1 i2 l1 l2 D xs.toArray ys.toArray).frame 0 _ _ st fun b hb o e => k3 b o (hf b hb).1 e
  obtain ⟨bm, ob, e1, e2, e3, e4, e5, e6, e7, e8⟩ := TB.bm
  have hcP : cStatics ≠ P := fun e => by
    obtain ⟨_, ⟨o', es, ep, ho, hd, _⟩, _⟩ := I1.nolimit
    rw [e, hPs] at ho
    cases ho
    cases hd
  have hcs : cStatics ∉ [z, TO, i1, i2] := fun hm => by
    have h1 := hw _ hm
    have h2 : cStatics < s0.heap.objs.size := let ⟨_, hns, _⟩ := I0.nolimit; hns.lt
    exact absurd (Nat.lt_of_lt_of_le h2 h1) (Nat.lt_irrefl _)
  have lim3 : h3.NoLimit := I1.nolimit.extBut hx hcP
  refine wpAny_builtinsFor (m := X.mg) (by rw [I1.ok.glob]; exact (I1.mod.glob.keeps I1.bk).extBut hx TB.gP) e1 e2 (k3 _ _ e4 (I1.bk _ _ e5)) e6 e7 e8 ?_
  have la := ra.length
  have lb := rb.length
  rw [List.length_map] at la lb
  have nn : min xs.toArray.size ys.toArray.size = min ns.length ms.length := by
    rw [List.size_toArray, List.size_toArray, ← la, ← lb]
  refine ⟨z, [z, TI, TO, i1, i2, l1, l2], [z, TO, i1, i2], _, _, _, _, fun _ => true, fun i y => ∃ a b, ns[i]? = some a ∧ ms[i]? = some b ∧ y = .bool (pb a b), rfl,
    fun A' hA => (zip_walk hA z TI TO i1 i2 l1 l2 D xs.toArray ys.toArray).toU, fun i vals ⟨x, y, _, _, e⟩ => ⟨x, y, e⟩, st3, fun b hb => Nat.lt_of_lt_of_le (hf b hb).2 hge, lim3, hcs, ?_, ?_⟩
  · intro href hhref
    refine ⟨fun A' E' i va vb s2 m2 _ _ _ _ _ _ => ?_, fun A' E' i va vb s2 m2 hA hv _ hn hm hm' hk => ?_⟩
    · rw [List.forIn_nil]
      exact wpAny_pure ⟨rfl, GxR.keeps_refl _⟩
    · obtain ⟨x, y, h1, h2, e⟩ := hv
      have ex : va = x ∧ vb = y := by simpa using e
      obtain ⟨rfl, rfl⟩ := ex
      have h1' : xs[i]? = some va := by simpa using h1
      have h2' : ys[i]? = some vb := by simpa using h2
      have g1 := (List.getElem?_eq_some_iff.mp h1').1
      have g2 := (List.getElem?_eq_some_iff.mp h2').1
      have b1 : (ns.map V.int)[i]? = some (V.int (ns[i]'(by omega))) := by rw [List.getElem?_map, List.getElem?_eq_getElem (by omega)]; rfl
      have b2 : (ms.map V.int)[i]? = some (V.int (ms[i]'(by omega))) := by rw [List.getElem?_map, List.getElem?_eq_getElem (by omega)]; rfl
      obtain ⟨u, hu, t, rfl⟩ := ra.get b1
      obtain ⟨u', hu', t', rfl⟩ := rb.get b2
      rw [h1'] at hu
      rw [h2'] at hu'
      cases hu
      cases hu'
      exact wpAny_mono (hel _ A' E' _ _ t t' s2 m2 rfl hn hm hm') (fun y s3 r => ⟨⟨_, _, List.getElem?_eq_getElem (by omega), List.getElem?_eq_getElem (by omega), r.1⟩, r.2⟩) fun _ _ e => e
  · intro g h5 tk5 gs hgb hlt hsz5 hk5 W5 hat
    simp only [GxR.passing_true, List.length_range] at W5
    rw [nn] at W5 hat
    refine hQ g _ ⟨_, _, _, _, _, W5.in4_1, hat, ?_, fun s' hm => ?_⟩
    · rintro j y sj Qj Ej ⟨i, hij, a, b, ha, hb, rfl⟩ hq
      obtain ⟨_, ej⟩ := List.getElem?_eq_some_iff.mp hij
      rw [List.getElem_range] at ej
      subst ej
      have e9 : atP pb ns ms j = pb a b := by unfold atP; rw [ha, hb]
      rw [e9] at hq
      exact wpAny_truthy_bool hq
    · have out : ∀ b u, s0.heap.get? b = some u → b ∉ h3.objs.size :: [z, TO, i1, i2] := fun b u e hm => by
        have hl := Heap.lt_size e
        rcases List.mem_cons.mp hm with q | q
        · have h2 : b < hz.objs.size := Heap.lt_size (kz b u e)
          rw [q] at h2
          exact absurd (Nat.lt_of_lt_of_le h2 hge) (Nat.lt_irrefl _)
        · exact absurd (Nat.lt_of_lt_of_le hl (hw b q)) (Nat.lt_irrefl _)
      have hP0 : s0.heap.get? P = some { cls := .none, data := .fields ps } := I0.hok P _ hP
      have J := GxR.inv_tab (more := more) (h' := s'.heap) (g' := s'.gens) (d' := s'.drawn) (t' := s'.toks) I0 hP (fun b u hb e => hm.heap b u (out b u e) (hk5 b u (k3 b u hb (kz b u e)))) (hm.heap P _ (out P _ hP0) (hk5 P _ hP3)) (AllBare.movedS (I0.bare.push hgb) hm)
      rw [GxR.sh_eta s0 s' hm.os] at J
      exact ⟨_, ⟨⟨ps ++ more, upd_same, ht3⟩, fun b hb => upd_ne hb⟩, J⟩
end
end FWJ
namespace FWJ
open PySem PySem.Spec PyProof.Rows L2 RZ
structure Scp (env : PySem.Env) (scope : Scope) (xa xb : Str) : Prop where
  kind : scope.kind = .function
  co : scope.isCoroutine = false
  cell : ∀ y ∈ scope.names, y.2 ≠ .cell
  dot : scope.names.lookup (".0" : Str) = some NameKind.local
  la : scope.names.lookup xa = some .local
  lb : scope.names.lookup xb = some .local
  ne : xa ≠ xb
  free : ∀ y ∈ scope.names, y.2 = .free → ∃ c, env.cells.lookup y.1 = some c
section
variable {X : Cx} {pins : List (Addr × Obj)} {σ : L2.St} {H : Hp} {s : Shared}
def tAllZ (K : PySem.W.Frag) (P : Addr) (pb : Int → Int → Bool) (ta : TA) : TE := fun σ H Q => ta σ H fun vs H1 => ∃ (a b : Addr) (ns ms : List Int), vs = [.ref a, .ref b] ∧ SqT K H1 a (ns.map V.int) ∧ SqT K H1 b (ms.map V.int) ∧ GxR.TabG H1 P ∧
  ∀ H2, GxR.Tabbed P H1 H2 → Q (.bl ((ns.zip ms).all fun q => pb q.1 q.2)) H2
theorem gen_zip {c P : Addr} {elt e1 e2 : Expr} {xa xb : Str} {pa pb' pt pz posz gpos : Pos} {kt : Nat} {scope : Scope} {pb : Int → Int → Bool} {ta : TA} {k : Nat} {Q' : Value → Shared → Prop} {R : List Int → List Int → Hp → Prop}
    (hr : Room k X.A) (hgz : Gl X "zip") (hmz : X.mg "zip" = none) (TB : GxR.TabB X.base X.mg c P) (hcode : X.env.code = .ref c) (S : Scp X.env scope xa xb) (ha : PA X [e1, e2] ta)
    (hel : ElP X scope xa xb elt pb) (hs : ∀ v, genFold (.Call (.Name "zip" pz) [e1, e2] [] posz) X.env v = pure v)
    (hz1 : starEach [e1, e2] X.env = (false, eval e1 X.env) :: starEach [e2] X.env) (hz2 : (backTo posz (starEach [e2] X.env)).any (·.1) = false) (I : Inv X pins σ H s)
    (h : ta σ H fun vs H1 => ∃ (a b : Addr) (ns ms : List Int), vs = [.ref a, .ref b] ∧ SqT X.K H1 a (ns.map V.int) ∧ SqT X.K H1 b (ms.map V.int) ∧ GxR.TabG H1 P ∧ R ns ms H1)
    (hQ : ∀ ns ms H1 g s5, R ns ms H1 → Gen2 X pins σ H1 P ns ms pb g s5 → Q' (.ref g) s5) :
    wpAny (model X.prog X.w) X.A (eval (.GeneratorExp elt [⟨.Tuple [.Name xa pa, .Name xb pb'] kt pt, .Call (.Name "zip" pz) [e1, e2] [] posz, [], 0⟩] scope gpos) X.env) Q' X.xe s := by
  refine wpAny_GeneratorExp_walksQT hr.hd S.co (closure_ok S.free) S.cell S.dot S.la S.lb S.ne S.kind (Nat.lt_of_le_of_lt (Nat.le_trans (Nat.le_add_right _ _) (Nat.le_add_right _ 5)) hr.dp) ?_ hs
  refine Call_ (ld_blt I hgz hmz PyProof.Rows.boot_zip (PyProof.Rows.callWith_type1 (thn (ha.run posz pins s σ H _ I h) fun us s1 ⟨vs, H1, I1, r1, q1⟩ => ?_) hz1 hz2))
  obtain ⟨a, b, ns, ms, rfl, hsa, hsb, ⟨ps, hP, ht⟩, q⟩ := q1
  obtain ⟨u1, u2, rfl, ru1, ru2⟩ := vals2 r1
  obtain rfl : u1 = .ref a := ru1
  obtain rfl : u2 = .ref b := ru2
  obtain ⟨xs, ra, p1, _⟩ := I1.tuple hsa
  obtain ⟨ys, rb, p2, _⟩ := I1.tuple hsb
  have tP : ∀ {d : Addr} {l : Array Value}, IsTup s1.heap d l → d ≠ P := fun {d l} t z => by
    obtain ⟨oo, e, hc1, _⟩ := t
    rw [z, show s1.heap.get? P = _ from I1.hok P _ hP] at e
    cases e
    cases hc1
  have hPs := I1.hok P _ hP
  have ltP : P < s1.heap.objs.size := Heap.lt_size (show s1.heap.get? P = some _ from hPs)
  refine call_zipT p1 p2 fun h' hz hTI hTO h1 h2 hsz hk => wpAny_pyIter_zip hz ⟨I1.nolimit.keeps hk, ?_⟩
  have far : ∀ j : Nat, s1.heap.objs.size + j ≠ P := fun j z => by
    rw [← z] at ltP
    exact absurd (Nat.lt_of_le_of_lt (Nat.le_add_right _ _) ltP) (Nat.lt_irrefl _)
  refine gen_two hr TB hcode I1 hk (PySem.W.ktu_apart s1.heap.objs.size a b p1.lt p2.lt) ⟨hz, hTI, ⟨_, _, hTO⟩, h1, h2, (show s1.heap.IsTuple a xs.toArray from p1).at fun o e => hk _ o e, (show s1.heap.IsTuple b ys.toArray from p2).at fun o e => hk _ o e⟩ ra rb hel hP ht (fun d hd => ?_) (fun d hd => ?_) fun g s5 G => hQ ns ms H1 g s5 q G
  · have l1 := p1.lt
    have l2 := p2.lt
    rw [hsz]
    have e' : d = s1.heap.objs.size + 4 ∨ d = s1.heap.objs.size + 2 ∨ d = s1.heap.objs.size + 3 ∨ d = s1.heap.objs.size ∨ d = s1.heap.objs.size + 1 ∨ d = a ∨ d = b := by simpa using hd
    rcases e' with z | z | z | z | z | z | z
    · rw [z]; exact ⟨far 4, Nat.add_lt_add_left (by decide) _⟩
    · rw [z]; exact ⟨far 2, Nat.add_lt_add_left (by decide) _⟩
    · rw [z]; exact ⟨far 3, Nat.add_lt_add_left (by decide) _⟩
    · rw [z]; exact ⟨far 0, Nat.lt_add_of_pos_right (by decide)⟩
    · rw [z]; exact ⟨far 1, Nat.add_lt_add_left (by decide) _⟩
    · rw [z]; exact ⟨tP p1, Nat.lt_of_lt_of_le l1 (Nat.le_add_right _ _)⟩
    · rw [z]; exact ⟨tP p2, Nat.lt_of_lt_of_le l2 (Nat.le_add_right _ _)⟩
  · have e' : d = s1.heap.objs.size + 4 ∨ d = s1.heap.objs.size + 3 ∨ d = s1.heap.objs.size ∨ d = s1.heap.objs.size + 1 := by simpa using hd
    rcases e' with z | z | z | z
    · rw [z]; exact Nat.le_add_right _ _
    · rw [z]; exact Nat.le_add_right _ _
    · rw [z]; exact Nat.le_refl _
    · rw [z]; exact Nat.le_add_right _ _
theorem pe_allZ {c P : Addr} {elt e1 e2 : Expr} {xa xb : Str} {pa pb' pt p pz posz pos gpos : Pos} {kt : Nat} {scope : Scope} {pb : Int → Int → Bool} {ta : TA} {k : Nat}
    (hr : Room k X.A) (hg : Gl X "all") (hm : X.mg "all" = none) (hb : bootBuiltins "all" = some (.builtin "all")) (hgz : Gl X "zip") (hmz : X.mg "zip" = none) (TB : GxR.TabB X.base X.mg c P) (hcode : X.env.code = .ref c) (S : Scp X.env scope xa xb) (ha : PA X [e1, e2] ta)
    (hel : ElP X scope xa xb elt pb) (hs : ∀ v, genFold (.Call (.Name "zip" pz) [e1, e2] [] posz) X.env v = pure v)
    (hz1 : starEach [e1, e2] X.env = (false, eval e1 X.env) :: starEach [e2] X.env := by rfl) (hz2 : (backTo posz (starEach [e2] X.env)).any (·.1) = false := by rfl)
    (he : starEach [.GeneratorExp elt [⟨.Tuple [.Name xa pa, .Name xb pb'] kt pt, .Call (.Name "zip" pz) [e1, e2] [] posz, [], 0⟩] scope gpos] X.env = (false, eval (.GeneratorExp elt [⟨.Tuple [.Name xa pa, .Name xb pb'] kt pt, .Call (.Name "zip" pz) [e1, e2] [] posz, [], 0⟩] scope gpos) X.env) :: starEach [] X.env := by rfl) :
    PE X (.Call (.Name "all" p) [.GeneratorExp elt [⟨.Tuple [.Name xa pa, .Name xb pb'] kt pt, .Call (.Name "zip" pz) [e1, e2] [] posz, [], 0⟩] scope gpos] [] pos) (tAllZ X.K P pb ta) := by
  refine ⟨fun pins s σ H Q I h => ?_⟩
  refine wpAny_Call_Name_kw (ld_blt I hg hm hb ?_)
  refine PyProof.Rows.callWith_builtin1 ?_ he (by rfl)
  rw [he]
  show wpAny _ _ (spliced ((false, eval _ X.env) :: backTo pos (starEach [] X.env))) _ _ s
  refine Calls.spliced_cons (gen_zip (R := fun ns ms H1 => ∀ H2, GxR.Tabbed P H1 H2 → Q (.bl ((ns.zip ms).all fun q => pb q.1 q.2)) H2) hr hgz hmz TB hcode S ha hel hs hz1 hz2 I h fun ns ms H1 g s5 q hG => Calls.spliced_nil ?_)
  obtain ⟨fp, wr, G, Fv, St, W, hst, htr, hI⟩ := hG
  refine call_all_walkS (W.self 0 _ _ _ hst ⟨g, fp, wr, G, _, Fv, St, _, rfl, W, hst, htr, fun s' hmv => ?_⟩)
  obtain ⟨H2, hT, J⟩ := hI s' hmv
  exact ⟨.bl _, H2, J, rfl, by rw [all_atP pb ns ms]; exact q H2 hT⟩
end
/-- low < high -/
theorem el_less {X : Cx} {scope : Scope} {xa xb : Str} {p1 p2 p3 : Pos} (hk : scope.kind = .function) (ha : scope.names.lookup xa = some .local) (hb : scope.names.lookup xb = some .local) (da : (xa == ("__debug__" : Str)) = false) (db : (xb == ("__debug__" : Str)) = false) :
    ElP X scope xa xb (.Compare (.Name xa p1) [.Lt] [.Name xb p2] p3) fun m n => decide (m < n) := by
  intro cenv A' E' m n t u s2 m2 hs hn h1 h2
  have kk : cenv.scope.kind = .function := by rw [hs]; exact hk
  refine wpAny_Compare1 (wpAny_Name (wpAny_loadName_local kk (show cenv.scope.names.lookup xa = _ by rw [hs]; exact ha) hn h1 ?_) da)
  refine wpAny_Name (wpAny_loadName_local kk (show cenv.scope.names.lookup xb = _ by rw [hs]; exact hb) hn h2 ?_) db
  exact PyProof.Rows.lt_int ⟨rfl, GxR.keeps_refl _⟩
end FWJ
namespace FW
open PySem PySem.Spec PyProof.Rows L2 FWJ
@[simp] def dAllZ (w : WA) : W := fun e R => w e fun ds => ∃ ns ms : List Int, ds = [.tuple (ns.map .int), .tuple (ms.map .int)] ∧ R (.bool ((ns.zip ms).all fun q => decide (q.1 < q.2)))
section
variable {c : Amb} {H F H2 : Hp}
theorem xd_allZ {w : WA} {P : Addr} (hP : P ∈ c.Ps) : ∀ σ H Q, tD c (dAllZ w) σ H Q → tAllZ c.K P (fun m n => decide (m < n)) (tA c w) σ H Q := fun σ H Q ⟨e, F, H0, R, W, S, q, P'⟩ =>
  ⟨e, F, H0, _, W, S, q, fun ds vs H1 F1 ⟨ns, ms, hd, r⟩ x1 rv => by
    subst hd
    obtain ⟨v, u, rfl, q1, q2⟩ := reps2 rv
    obtain ⟨a, ws, rfl, h1, h2⟩ := q1.tup_inv
    obtain ⟨b, zs, rfl, h3, h4⟩ := q2.tup_inv
    have e1 := rpAll_ints_inv h2
    have e2 := rpAll_ints_inv h4
    subst e1 e2
    exact ⟨a, b, ns, ms, rfl, same_t x1.ok.sub h1, same_t x1.ok.sub h3, (x1.ok.tab P hP).1, fun H2 T => P' _ _ H2 F1 r (x1.trans (Ext.tabbed x1.ok hP T)) .bl⟩⟩
end
end FW
namespace FW
open PySem PySem.Spec PyProof.Rows L2
/-- a def whose last parameter has a number as its default -/
abbrev FunQ (K : PySem.W.Frag) (x : Str) (st : Stmt) (i : Int) (f : Addr) (fd : FuncData) : Prop := FunD K x x (defArgs st) (defBody st) (defScope st) [V.int i] [] f fd
section
variable {P : Program} {w : World} {g : Glb} {mg : Str → Option Value} {base : Heap} {x : Str} {st : Stmt} {f : Addr} {fd : FuncData} {N ps : List Str} {k : Nat} {wb : WS} {i : Int}
theorem calDd {f0 : Fd} (Fn : FunQ g.K x st i f fd) (mgf : mg x = some (.ref f)) (b : ∃ ds, Vals ([V.int i].drop 0) ds ∧ Binds g.K fd ps ds) (S : FnScope N ps (defScope st)) (hlen : ∀ ds R, f0 ds R → ds.length = ps.length)
    (hb : ∀ (cdv : Value) (A : Around) (outer : List PySem.Env) (s : Shared) (H : Hp) (E : XK) (r a : Addr) (ns : List Int), Room k (A.deeper (envOfC x (defScope st) s.heap.objs.size f cdv)) →
      PSs (cxOf CX0 P w g.K mg base N x (defScope st) f cdv A outer s H E).nox (defBody st) (sD ⟨g, r, a, ns⟩ E wb))
    (hp : ∀ ds R, f0 ds R → wb { nx := fun _ => R .none, rt := R } (startD N ds)) : C8.Cal P w g.K mg base (k + 1) x (spD g f0) [V.int i] := by
  obtain ⟨its, hv, hbn⟩ := b
  refine ⟨f, fd, ps, its, Fn.ok S (fun vs H Q E h => ?_) (fun cdv A outer s H vs Q E hr h => ?_), mgf, Fn.kp, hbn, hv⟩
  · obtain ⟨c, F, ds, R, _, _, rv, h, _⟩ := h
    rw [rv.length]; exact hlen ds R h
  · obtain ⟨⟨g', r, a, ns⟩, F, ds, R, hg, W, rv, h, P'⟩ := h
    have hg' : g' = g := hg
    subst hg'
    refine ⟨_, (hb cdv A outer s H E r a ns hr).nox, startD N ds, F, H, F, _, Ext.refl W, rep_start rv, hp ds R h, ?_⟩
    exact ⟨fun e σ H' F' q x S' => P' _ _ H' F' q x .non, fun d v H' F' q x rv => P' d v H' F' q x rv, fun _ _ _ _ _ z => z.elim, fun _ _ _ _ z => z.elim, fun _ _ _ _ z => z.elim, fun _ _ _ z => z.elim, fun _ z => z.elim, fun _ _ _ _ z => z.elim, fun z => nomatch z⟩
end
section
variable {c : Amb}
@[simp] def withI (f : Fd) (i : Int) : Fd := fun ds R => f (ds ++ [.int i]) R
theorem reps_app {F : Hp} : ∀ {vs us : List V} {ds es : List D}, RepVs c F vs ds → RepVs c F us es → RepVs c F (vs ++ us) (ds ++ es)
  | _, _, _, _, .nil, h => h
  | _, _, _, _, .cons a b, h => .cons a (reps_app b h)
theorem xd_callI {f : Fd} {w : WA} {i : Int} : ∀ σ H Q, tD c (dCall (withI f i) w) σ H Q → tCall (spD c.g f) [V.int i] E0 (tA c w) σ H Q := fun σ H Q ⟨e, F, H0, R, W, S, q, P⟩ =>
  ⟨e, F, H0, _, W, S, q, fun ds vs H1 F1 q1 x1 r1 => ⟨c, F1, _, R, rfl, x1.ok, reps_app r1 (.cons .int .nil), q1, P.ext x1⟩⟩
end
end FW
/-! FWK: x in a list of int tuples. -/
namespace FWK
open PySem PySem.Spec PyProof.Rows L2
section
variable {X : Cx}
def rInD (K : PySem.W.Frag) (neg : Bool) : R2 := fun x y H Q => ∃ d ds, Dp K H x d ∧ Dp K H y (.list ds) ∧ SeqAt.shaped d = true ∧ SeqAt.shaped (.list ds) = true ∧ Q (.bl (if neg = true then !(ds.any fun z => PyData.eqv z d) else ds.any fun z => PyData.eqv z d)) H
theorem op_inD (hu : X.A.units + 65 < cLine) : OpR X (compareOp .In) (rInD X.K false) := by
  intro pins s σ H x y v u Q I rx ry h
  obtain ⟨d, ds, hd, he, sd, se, q⟩ := h
  obtain ⟨as, r1⟩ := Dp.reads I d x v hd rx
  obtain ⟨bs, r2⟩ := Dp.reads I _ y u he ry
  exact SeqAt.in_list_reads r2 r1 (SeqAt.canLay_of_shaped se) (SeqAt.canLay_of_shaped sd) (room_in_shaped sd hu) ⟨.bl _, H, I, rfl, q⟩
theorem op_notInD (hu : X.A.units + 65 < cLine) : OpR X (compareOp .NotIn) (rInD X.K true) := by
  intro pins s σ H x y v u Q I rx ry h
  obtain ⟨d, ds, hd, he, sd, se, q⟩ := h
  obtain ⟨as, r1⟩ := Dp.reads I d x v hd rx
  obtain ⟨bs, r2⟩ := Dp.reads I _ y u he ry
  exact SeqAt.notIn_list_reads r2 r1 (SeqAt.canLay_of_shaped se) (SeqAt.canLay_of_shaped sd) (room_in_shaped sd hu) ⟨.bl _, H, I, rfl, q⟩
theorem room65 {k : Nat} {A : Around} (hr : Room k A) : A.units + 65 < cLine := by
  have := hr.un
  omega
end
end FWK
namespace FW
open PySem PySem.Spec PyProof.Rows L2
section
variable {c : Amb}
@[simp] def rdInT (neg : Bool) : D → D → (D → Prop) → Prop := fun x y R => ∃ (p : List Int) (ps : List (List Int)), x = tupD p ∧ y = .list (ps.map tupD) ∧ R (.bool (if neg = true then !decide (p ∈ ps) else decide (p ∈ ps)))
theorem eqvAll_intsT : ∀ {a b : List Int}, PyData.eqvAll (a.map .int) (b.map .int) = decide (a = b)
  | [], [] => by simp [PyData.eqvAll]
  | [], _ :: _ => by simp [PyData.eqvAll]
  | _ :: _, [] => by simp [PyData.eqvAll]
  | x :: a, y :: b => by
    simp only [List.map_cons, PyData.eqvAll, PyData.eqv, eqvAll_intsT (a := a) (b := b)]
    by_cases h : x = y <;> simp [h]
theorem eqv_tups {a b : List Int} : PyData.eqv (tupD a) (tupD b) = decide (a = b) := by
  simp only [tupD, PyData.eqv, eqvAll_intsT]
theorem eqvAll_tups : ∀ {a b : List (List Int)}, PyData.eqvAll (a.map tupD) (b.map tupD) = decide (a = b)
  | [], [] => by simp [PyData.eqvAll]
  | [], _ :: _ => by simp [PyData.eqvAll]
  | _ :: _, [] => by simp [PyData.eqvAll]
  | x :: a, y :: b => by
    rw [List.map_cons, List.map_cons, PyData.eqvAll, eqv_tups, eqvAll_tups (a := a) (b := b)]
    by_cases h : x = y <;> simp [h]
theorem eqv_tupsL {a b : List (List Int)} : PyData.eqv (.list (a.map tupD)) (.list (b.map tupD)) = decide (a = b) := by
  rw [PyData.eqv, eqvAll_tups]
theorem any_tups {p : List Int} (ps : List (List Int)) : ((ps.map tupD).any fun z => PyData.eqv z (tupD p)) = decide (p ∈ ps) := by
  rw [Bool.eq_iff_iff, decide_eq_true_eq, List.any_eq_true]
  constructor
  · rintro ⟨z, hz, e⟩
    obtain ⟨q, hq, rfl⟩ := List.mem_map.mp hz
    rw [eqv_tups] at e
    exact of_decide_eq_true e ▸ hq
  · intro h
    exact ⟨_, List.mem_map_of_mem h, by rw [eqv_tups]; simp⟩
theorem shaped_tupD {p : List Int} : SeqAt.shaped (tupD p) = true := (Sh.tup (n := 0) Sh.ints).ok
theorem shaped_tupsL {ps : List (List Int)} : SeqAt.shaped (.list (ps.map tupD)) = true := (Sh.lst (n := 1) fun x hx => by
  obtain ⟨q, _, rfl⟩ := List.mem_map.mp hx
  exact Sh.tup Sh.ints).ok
theorem od_inT {neg : Bool} : OpD c (FWK.rInD c.K neg) (rdInT neg) := by
  rintro H F x y d e R Q W rx ry ⟨p, ps, rfl, rfl, r⟩ P
  refine ⟨_, _, rp_dp _ _ (SeqAt.canLay_of_shaped shaped_tupD) (dp_same W.sub _ _ (rx.dp (by simp))), rp_dp _ _ (SeqAt.canLay_of_shaped shaped_tupsL) (dp_same W.sub _ _ (ry.dp (by simp))), shaped_tupD, shaped_tupsL, ?_⟩
  rw [any_tups]
  exact P.here W r .bl
end
end FW
/-! FWH: while; a list's item taken out and put behind another's; a new list of a range. -/
namespace FW
open PySem PySem.Spec PyProof.Rows L2
section
variable {c : Amb} {H F H0 H1 F1 H' F' : Hp} {σ : L2.St} {e : Sg} {X : Cx} {E : XK}
def dWhile (wt : WT) (wb : WS) : WS := fun De e => ∃ I : Nat → Sg → Prop, (∃ m, I m e) ∧ ∀ m e, I m e → wt e fun b => if b = true then wb { De with nx := fun e2 => ∃ m', m' < m ∧ I m' e2, ct := fun e2 => ∃ m', m' < m ∧ I m' e2, bk := De.nx } e else De.nx e
theorem xs_while {wt : WT} {wb : WS} : ∀ Dn σ H, sD c E (dWhile wt wb) Dn σ H → tWhile (tT c wt) (sD c E wb) Dn σ H := fun Dn σ H ⟨e, F, H0, F0, De, x, S, ⟨I, ⟨m0, i0⟩, turn⟩, K⟩ => by
  refine ⟨fun m σ H => ∃ e F, Ext c H0 F0 H F ∧ RepS c H0 σ H F e ∧ I m e, ⟨m0, e, F, x, S, i0⟩, fun m σ' H' ⟨e', F', x', S', i'⟩ => ?_⟩
  refine ⟨e', F', H0, _, x'.ok, S', turn m e' i', fun b H1 F1 r x1 => ?_⟩
  cases b with
  | true =>
    refine ⟨fun σ2 H2 => ∃ m', m' < m ∧ ∃ e F, Ext c H0 F0 H2 F ∧ RepS c H0 σ2 H2 F e ∧ I m' e, fun _ _ h => h, ?_⟩
    exact ⟨e', F1, H0, F0, _, x'.trans x1, S'.ext x'.ok x1, r, fun e4 σ4 H4 F4 ⟨m', hm, i4⟩ z S4 => ⟨m', hm, e4, F4, z, S4, i4⟩, K.rt, K.rn, K.nx, fun e4 σ4 H4 F4 ⟨m', hm, i4⟩ z S4 => ⟨m', hm, e4, F4, z, S4, i4⟩, K.ex, K.base, K.rf, K.pin⟩
  | false => exact K.nx e' σ' H1 F1 r (x'.trans x1) (S'.ext x'.ok x1)
theorem dpAll_erase {K : PySem.W.Frag} : ∀ {vs : List V} {ds : List D} (k : Nat), RpAll K F vs ds → RpAll K F (vs.eraseIdx k) (ds.eraseIdx k)
  | _, _, _, .nil => .nil
  | _, _, 0, .cons _ t => t
  | _, _, k + 1, .cons h t => .cons h (dpAll_erase k t)
/-- x.append(y.pop(e)) -/
@[simp] def dAppPop (i j : Nat) (w : W) : WS := fun De e => ∃ ds es, i ≠ j ∧ e[i]? = some (.own ds) ∧ e[j]? = some (.own es) ∧ ds.length < 1000000 ∧ es.length ≤ 1000000 ∧ w e fun k => ∃ (n : Nat) (d : D), k = .int n ∧ es[n]? = some d ∧ De.nx ((e.set j (.own (es.eraseIdx n))).set i (.own (ds ++ [d])))
theorem xs_appPop {i j : Nat} {w : W} : ∀ Dn σ H, sD c E (dAppPop i j w) Dn σ H → tDrop (tBM c.K "list" rAppend (tVar i) (tCons (tBM c.K "list" rPopAt (tVar j) (tCons (tD c w) tNil)) tNil)) Dn σ H := fun Dn σ H ⟨e, F, H0, F0, De, x, S, ⟨ds, es, hij, h, hj, hl, hle, q⟩, K⟩ => by
  obtain ⟨a, vs, h1, h2, h3, h4, h5, h6⟩ := S.own i ds h
  obtain ⟨b, us, g1, g2, g3, g4, g5, g6⟩ := S.own j es hj
  refine ⟨.ref a, h1, .inl ⟨rfl, vs, SqL.of h2⟩, .ref b, g1, .inl ⟨rfl, us, SqL.of g2⟩, e, F, H0, _, x.ok, S, q, fun d v H1 F1 ⟨n, d', hd, hn, r⟩ x1 rv => ?_⟩
  subst hd
  have S1 := S.ext x.ok x1
  obtain ⟨b', us', k1, k2, k3, k4, k5, k6⟩ := S1.own j es hj
  rw [g1] at k1
  cases k1
  obtain ⟨y, hy, ry⟩ := dpAll_at k6 hn
  have lu := dpAll_length k6
  have ln := (List.getElem?_eq_some_iff.mp hn).1
  refine ⟨b, us', n, n, y, rfl, by rw [rv.int_inv], k2, by omega, ?_, ?_, hy, ?_⟩
  · have : (n : Int) < 1000000 := by omega
    omega
  · unfold seqIndex?
    have h1 : ¬ ((n : Int) < 0) := by omega
    have h2 : ((0 : Int) ≤ (n : Int)) := by omega
    have h3 : (n : Int) < (us'.length : Int) := by omega
    simp [h1, h2, h3]
  · have x2 := (x.trans x1).mut g4 k2 k3 g5 (us'.eraseIdx n)
    have S2 := S1.mut hj g1 k3 g4 g5 (dpAll_erase n k6)
    have hi2 : (e.set j (.own (es.eraseIdx n)))[i]? = some (.own ds) := by rw [List.getElem?_set_ne (fun z => hij z.symm)]; exact h
    obtain ⟨a', vs', m1, m2, m3, m4, m5, m6⟩ := S2.own i ds hi2
    rw [h1] at m1
    cases m1
    refine ⟨a, vs', y, rfl, rfl, m2, len_lt (by rw [dpAll_length m6]; exact hl), ?_⟩
    exact K.nx _ _ _ _ r (x2.mut h4 m2 m3 h5 _) (S2.mut hi2 h1 m3 h4 h5 (dpAll_app m6 (.cons ry .nil)))
@[simp] def nLstRg (w : Sg → (Int → Int → Prop) → Prop) : WA := fun e R => w e fun a b => RgOk a b ∧ R (rngD a (b - a).toNat)
theorem xn_lstRg {w : Sg → (Int → Int → Prop) → Prop} : ∀ σ H Q, tN c (nLstRg w) σ H Q → tLstRg (tRgD c w) σ H Q := fun σ H Q ⟨e, F, H0, R, W, S, q, P⟩ =>
  ⟨e, F, H0, _, W, S, q, fun a b H1 F1 ⟨h, r⟩ x1 => ⟨h, fun p hp => by
    have x2 := Ext.loose x1.ok (.lst (rgV a b)) hp
    exact P _ p _ _ _ r (x1.trans x2) (x1.free hp) upd_same (x1.ok.newF hp) (x1.ok.newR hp) (rgV_dp a b)⟩⟩
end
end FW
/-! FWD: texts; dicts of texts and numbers. -/
namespace FWD
open PySem PySem.Spec PyProof.Rows L2
section
variable {X : Cx}
def rGetD : R2 := fun x y H Q => ∃ a kvs k v, x = .ref a ∧ H a = some (.dK kvs) ∧ y = kV k ∧ valV kvs k = some v ∧ Q v H
theorem ix_dict : IxR X rGetD := by
  intro value slice pins s σ H x y v u Q I rx ry h hs
  obtain ⟨a, kvs, k, w, rfl, e, ey, l, q⟩ := h
  cases rx
  subst ey
  obtain ⟨z, hd, vs, rel, dd⟩ := dk_rd I.hok (.inl e)
  obtain ⟨w', hw, rw'⟩ := RelO.some_of (v := w) (o := valueAt vs k) (by rw [← l]; exact rel.val k)
  exact tail_any dd.mapOf.typeIs F.slot_dict_getitem.lookup (wpAny_getItem_of (kV_is ry) dd.mapOf hw ⟨w, H, I.tok _, rw', q⟩) hs
def rNotInDc : R2 := fun x y H Q => ∃ a o, y = .ref a ∧ DGet H a x o ∧ Q (.bl (!o.isSome)) H
theorem op_notInDc (hu : X.A.units + 1 < cLine) : OpR X (compareOp .NotIn) rNotInDc := by
  intro pins s σ H x y v u Q I rx ry h
  obtain ⟨a, o, rfl, g, q⟩ := h
  cases ry
  exact d_notIn hu I g rx fun s' I' => ⟨.bl _, H, I', rfl, q⟩
end
end FWD
namespace FW
open PySem PySem.Spec PyProof.Rows L2
section
variable {c : Amb} {E : XK} {H F H0 F0 H1 F1 H' F' : Hp} {σ : L2.St} {X : Cx}
/-! ### x = {..}, the name of the def's own: it is stored ahead of the block's end -/
theorem sw_dct {a b : Expr} {gs : List Comprehension} {sc : Scope} {q r : Pos} {z : Str} {m : Nat} {v : PySem.Env} (h1 : v.scope.kind = .function) (h2 : v.scope.names.lookup z = some .local) (h3 : (r.line == q.line) = true)
    (h4 : (sc.names.any fun (t, k) => t == z && (k == .local || k == .cell)) = false) : swapsWith (.DictComp a b gs sc q) (some (.Name z r)) m v = pure true := by
  have e1 : v.kindOf z = some .local := h2
  have e2 : v.blockKind = .function := by
    unfold Env.blockKind
    rw [h1]
    rfl
  unfold swapsWith
  simp only [e2, e1, h4, Expr.pos, h3]
  rfl
theorem ps_setDc {i : Nat} {z : Str} {pz pos q : Pos} {kx vx tg iter : Expr} {sc : Scope} {own : List (Str × Nat)} {wi : TI} {g : TG} {tk tv : TE} (hc : X.calm = true) (nd : X.N.Nodup) (hz : X.N[i]? = some z) (loc : X.env.scope.names.lookup z = some .local)
    (sw : swapsWith (.DictComp kx vx [⟨tg, iter, [], 0⟩] sc pos) (some (.Name z pz)) q.line X.env = pure true) (hi : PI X tg iter wi) (ok : BlkOk X.N X.env.scope sc own)
    (hg : ∀ (t : Shared) (G : Hp) (C : Addr) (l : List (Str × Addr)) (fp : List Addr), PG (X.blk t G sc (compEnvC sc l C X.env) fp) tg g)
    (hk : ∀ (t : Shared) (G : Hp) (C : Addr) (l : List (Str × Addr)) (fp : List Addr), PE (X.blk t G sc (compEnvC sc l C X.env) fp) kx tk)
    (hv : ∀ (t : Shared) (G : Hp) (C : Addr) (l : List (Str × Addr)) (fp : List Addr), PE (X.blk t G sc (compEnvC sc l C X.env) fp) vx tv) (fs : ∀ y, foldedSetIterable iter X.env y = pure y := by intro _; rfl) :
    PS X (.Assign [.Name z pz] (.DictComp kx vx [⟨tg, iter, [], 0⟩] sc pos) q) (tAsg (tDc wi g tYes tk tv (own.map (·.2))) (gName i)) := by
  constructor
  intro pins s σ H Dn I run
  rw [exec_Assign_Name_used _ _ _ _ sw]
  apply wpAny_bind; apply wpAny_standAt; apply wpAny_bind
  show wpAny _ X.A (do
    let _ ← comprehension (.DictComp kx vx [⟨tg, iter, [], 0⟩] sc pos) sc X.env (firstIterPos [⟨tg, iter, [], 0⟩] pos) newDict false (eval iter X.env) (some (assign (.Name z pz) X.env))) _ _ s
  have run : tDc wi g tYes tk tv (own.map (·.2)) σ H fun x G => gName i x σ G Dn.nx := run
  refine wpAny_bind (thn (dc_core (Qf := fun _ t => SP X pins Dn .next t) hc nd I hi ok hg (fun _ _ _ _ _ => pts_nil) hk hv fs run fun M C t m G J qq hn fp => ?_) fun _ t hq => wpAny_pure (wpAny_pure hq))
  show wpAny _ _ (assign (.Name z pz) X.env (.ref M)) _ _ _
  obtain ⟨p0, p1, p2, p3, p4, p5⟩ := fp
  refine wpAny_assign_Name (store_ok2 (v := V.ref M) J nd hz (.inl loc) rfl (fun t2 J2 ⟨b, sb, hb⟩ => ?_) (.inr loc))
  have far : C ≠ b := by
    rcases hb with y | y
    · rw [y]
      exact p1
    · intro w
      exact p4 z b y w.symm
  exact ⟨m, hn.sameBut sb far, fun h3 sb3 => ⟨_, G, J2.turned (t' := t2.toks) (fun u o hu eu => (sb3.2 u hu).trans eu) p0 p1 p3 p4 p5, qq⟩⟩
/-! ### texts -/
theorem Rep.str {x : Str} : RepV c F (.str x) (.str x) := .inl (.str x)
@[simp] def rdAddS : D → D → (D → Prop) → Prop := fun x y R => ∃ i j : Str, x = .str i ∧ y = .str j ∧ i.length + j.length ≤ 1000000 ∧ R (.str (i ++ j))
theorem od_addS : OpD c (fun x y H Q => ∃ i j : Str, x = .str i ∧ y = .str j ∧ i.length + j.length ≤ sizeLine ∧ Q (.str (i ++ j)) H) rdAddS := by
  rintro H F x y d e R Q W rx ry ⟨i, j, rfl, rfl, hl, r⟩ P
  exact ⟨i, j, rx.str_inv, ry.str_inv, len_le hl, P.here W r Rep.str⟩
@[simp] def rdIxS : D → D → (D → Prop) → Prop := fun x y R => ∃ (z : Str) (i : Int) (k : Nat), x = .str z ∧ y = .int i ∧ z.length ≤ 1000000 ∧ atI z.cps.toList i = some k ∧ R (.str ⟨#[k]⟩)
theorem od_ixS : OpD c rIxS rdIxS := by
  rintro H F x y d e R Q W rx ry ⟨z, i, k, rfl, rfl, hl, hk, r⟩ P
  exact ⟨z, i, k, rx.str_inv, ry.int_inv, len_le hl, hk, P.here W r Rep.str⟩
@[simp] def rdStrI : List D → (D → Prop) → Prop := fun ds R => ∃ i : Int, ds = [.int i] ∧ -1000000 ≤ i ∧ i ≤ 1000000 ∧ R (.str (toString i))
theorem cd_strI : CallD c (fun xs H Q => ∃ i : Int, xs = [.int i] ∧ i.natAbs.log2 < 1920 ∧ Q (.str (toString i)) H) rdStrI := by
  rintro H F vs ds R Q W rv ⟨i, rfl, h1, h2, r⟩ P
  obtain ⟨v, rfl, q⟩ := reps1 rv
  have : i.natAbs.log2 < 1920 := by
    by_cases z : i.natAbs = 0
    · rw [z]; decide
    · have h3 : (2 : Nat) ^ 21 = 2097152 := by decide
      have h4 : i.natAbs.log2 < 21 := (Nat.log2_lt z).mpr (by omega)
      exact Nat.lt_trans h4 (by decide)
  exact ⟨i, by rw [q.int_inv], this, P.here W r Rep.str⟩
@[simp] def rdLenS : List D → (D → Prop) → Prop := fun ds R => ∃ z : Str, ds = [.str z] ∧ z.length ≤ 1000000 ∧ R (.int z.length)
theorem cd_lenS : CallD c (fun xs H Q => ∃ z : Str, xs = [.str z] ∧ z.length ≤ sizeLine ∧ Q (.int z.length) H) rdLenS := by
  rintro H F vs ds R Q W rv ⟨z, rfl, h1, r⟩ P
  obtain ⟨v, rfl, q⟩ := reps1 rv
  exact ⟨z, by rw [q.str_inv], len_le h1, P.here W r .int⟩
@[simp] def dSlS (w : W) (lo hi : WO) : W := fun e R => w e fun d => lo e fun l => hi e fun h => ∃ z : Str, d = .str z ∧ z.length ≤ 1000000 ∧ R (.str (cutS z l h))
theorem xd_slS {w : W} {lo hi : WO} : ∀ σ H Q, tD c (dSlS w lo hi) σ H Q → tSl rSlS (tD c w) (tO c lo) (tO c hi) σ H Q := fun σ H Q ⟨e, F, H0, R, W, S, q, P⟩ =>
  ⟨e, F, H0, _, W, S, q, fun d v H1 F1 q1 x1 r1 => ⟨e, F1, H0, _, x1.ok, S.ext W x1, q1, fun l H2 F2 q2 x2 => ⟨e, F2, H0, _, x2.ok, (S.ext W x1).ext x1.ok x2, q2, fun h H3 F3 ⟨z, hd, hl, q3⟩ x3 => by
    subst hd
    exact ⟨z, r1.str_inv, len_le hl, P _ _ _ _ q3 ((x1.trans x2).trans x3) Rep.str⟩⟩⟩⟩
/-- a text's method -/
def MethS (c : Amb) (r : V → List V → Hp → VK → Prop) (rd : Str → List D → (D → Prop) → Prop) : Prop := ∀ (H F : Hp) (z : Str) (vs : List V) (ds : List D) (R : D → Prop) (Q : VK), Wok c H F → RepVs c F vs ds → rd z ds R → Post c H F R Q → r (.str z) vs H Q
@[simp] def dMethS (rd : Str → List D → (D → Prop) → Prop) (w : W) (wa : WA) : W := fun e R => w e fun d => ∃ z, d = .str z ∧ wa e fun ds => rd z ds R
theorem xd_methS {r : V → List V → Hp → VK → Prop} {rd : Str → List D → (D → Prop) → Prop} (hm : MethS c r rd) {w : W} {wa : WA} : ∀ σ H Q, tD c (dMethS rd w wa) σ H Q → tBM c.K "str" r (tD c w) (tA c wa) σ H Q := fun σ H Q ⟨e, F, H0, R, W, S, q, P⟩ =>
  ⟨e, F, H0, _, W, S, q, fun d v H1 F1 ⟨z, hd, q1⟩ x1 r1 => by
    subst hd
    refine ⟨?_, e, F1, H0, _, x1.ok, S.ext W x1, q1, fun ds vs H2 F2 q2 x2 r2 => ?_⟩
    · rw [r1.str_inv]
      rfl
    · rw [r1.str_inv]
      exact hm H2 F2 z vs ds R Q x2.ok r2 q2 (P.ext (x1.trans x2))⟩
theorem rp_strs {K : PySem.W.Frag} : ∀ ys : List Str, RpAll K F (ys.map V.str) (ys.map PyData.str)
  | [] => .nil
  | y :: ys => .cons (.str y) (rp_strs ys)
theorem strs_inv {K : PySem.W.Frag} : ∀ (ys : List Str) (vs : List V), RpAll K F vs (ys.map PyData.str) → vs = ys.map V.str
  | [], _, h => by cases h; rfl
  | y :: ys, _, h => by
    cases h with
    | cons h1 h2 =>
      cases h1
      rw [strs_inv ys _ h2]
      rfl
@[simp] def rdSplit : Str → List D → (D → Prop) → Prop := fun z ds R => ∃ b : Str, ds = [.str b] ∧ (b.length == 0) = false ∧ z.length ≤ 100000 ∧ R (.list ((Txt.split z b).map .str))
theorem md_split : MethS c (fun x xs H Q => ∃ a b, x = .str a ∧ xs = [.str b] ∧ (b.length == 0) = false ∧ a.length + 2 ≤ sizeLine ∧ rNewStrs (Txt.split a b) H Q) rdSplit := by
  rintro H F z vs ds R Q W rv ⟨b, rfl, h0, hl, r⟩ P
  obtain ⟨v, rfl, q⟩ := reps1 rv
  exact ⟨z, b, rfl, by rw [q.str_inv], h0, len_le (by omega), P.newLst W (rp_strs _) r⟩
@[simp] def rdJoin : Str → List D → (D → Prop) → Prop := fun z ds R => ∃ ys : List Str, ds = [.list (ys.map .str)] ∧ (ys.map (·.length)).sum + ys.length * z.length ≤ 16777216 ∧ R (.str (Txt.join z ys))
theorem md_join : MethS c (fun x xs H Q => ∃ a p, ∃ ys : List Str, x = .str a ∧ xs = [.ref p] ∧ (SqL c.K H p (ys.map V.str) ∨ SqT c.K H p (ys.map V.str)) ∧ (ys.map (·.length)).sum + ys.length * a.length ≤ 16777216 ∧ Q (.str (Txt.join a ys)) H) rdJoin := by
  rintro H F z vs ds R Q W rv ⟨ys, rfl, hl, r⟩ P
  obtain ⟨v, rfl, q⟩ := reps1 rv
  obtain ⟨a, us, rfl, h1, h2⟩ := q.list_inv
  have e := strs_inv ys us h2
  subst e
  exact ⟨z, a, ys, rfl, rfl, .inl (SqL.of (W.sub _ _ h1)), hl, P.here W r Rep.str⟩
/-! ### x in a list of data -/
@[simp] def rdInG (neg : Bool) : D → D → (D → Prop) → Prop := fun x y R => ∃ ds, y = .list ds ∧ SeqAt.shaped x = true ∧ SeqAt.shaped (.list ds) = true ∧ x ≠ .dict [] ∧ R (.bool (if neg = true then !(ds.any fun z => PyData.eqv z x) else ds.any fun z => PyData.eqv z x))
theorem od_inG {neg : Bool} : OpD c (FWK.rInD c.K neg) (rdInG neg) := by
  rintro H F x y d e R Q W rx ry ⟨ds, rfl, s1, s2, n, r⟩ P
  exact ⟨_, _, rp_dp _ _ (SeqAt.canLay_of_shaped s1) (dp_same W.sub _ _ (rx.dp n)), rp_dp _ _ (SeqAt.canLay_of_shaped s2) (dp_same W.sub _ _ (ry.dp (by simp))), s1, s2, P.here W r .bl⟩
/-! ### dicts -/
def getM (m : List (Str × Int)) (k : Str) : Option Int := (m.find? fun p => decide (p.1 = k)).map (·.2)
def putM (m : List (Str × Int)) (k : Str) (v : Int) : List (Str × Int) := if (m.any fun p => decide (p.1 = k)) = true then m.map (fun p => if p.1 = k then (p.1, v) else p) else m ++ [(k, v)]
theorem inr_dec {a b : Str} : decide ((Sum.inr a : Key) = Sum.inr b) = decide (a = b) := key_rr a b
theorem getM_val (m : List (Str × Int)) (k : Str) : valV (dicV m) (Sum.inr k) = (getM m k).map V.int := by
  unfold valV getM dicV
  rw [List.find?_map, Option.map_map, Option.map_map]
  have e : ((fun kv : Key × V => decide (kv.1 = Sum.inr k)) ∘ fun p : Str × Int => ((Sum.inr p.1 : Key), V.int p.2)) = fun p => decide (p.1 = k) := by
    funext p
    exact inr_dec
  rw [e]
  rfl
theorem putM_val (m : List (Str × Int)) (k : Str) (v : Int) : putK (dicV m) (Sum.inr k) (V.int v) = dicV (putM m k v) := by
  unfold putK putM dicV
  rw [List.any_map]
  have e : ((fun kv : Key × V => decide (kv.1 = Sum.inr k)) ∘ fun p : Str × Int => ((Sum.inr p.1 : Key), V.int p.2)) = fun p => decide (p.1 = k) := by
    funext p
    exact inr_dec
  rw [e]
  by_cases h : (m.any fun p => decide (p.1 = k)) = true
  · rw [if_pos h, if_pos h, List.map_map, List.map_map]
    refine List.map_congr_left fun p _ => ?_
    show (if (Sum.inr p.1 : Key) = Sum.inr k then ((Sum.inr p.1 : Key), V.int v) else _) = _
    by_cases z : p.1 = k
    · rw [if_pos (by rw [z]), Function.comp_apply, if_pos z]
    · rw [if_neg (fun y => z (Sum.inr.inj y)), Function.comp_apply, if_neg z]
  · rw [if_neg h, if_neg h, List.map_append]
    rfl
theorem dicD_inj {m m' : List (Str × Int)} (h : dicD m = dicD m') : m = m' := (List.map_inj_right (fun a b e => by
  simp only [Prod.mk.injEq, PyData.str.injEq, PyData.int.injEq] at e
  exact Prod.ext e.1 e.2)).mp h
theorem RepV.dic_inv {v : V} {m : List (Str × Int)} (n : m ≠ []) (h : RepV c F v (.dict (dicD m))) : ∃ a, v = .ref a ∧ F a = some (.dK (dicV m)) := by
  have h := h.dp (by
    intro z
    simp only [PyData.dict.injEq] at z
    exact n (List.map_eq_nil_iff.mp z))
  cases h with
  | dic h0 h1 h2 =>
    have := dicD_inj h1
    subst this
    exact ⟨_, rfl, h2⟩
@[simp] def rdGetM : D → D → (D → Prop) → Prop := fun x y R => ∃ (m : List (Str × Int)) (k : Str) (v : Int), x = .dict (dicD m) ∧ m ≠ [] ∧ y = .str k ∧ getM m k = some v ∧ R (.int v)
theorem od_getM : OpD c FWD.rGetD rdGetM := by
  rintro H F x y d e R Q W rx ry ⟨m, k, v, rfl, n, rfl, hg, r⟩ P
  obtain ⟨a, rfl, h⟩ := rx.dic_inv n
  exact ⟨a, dicV m, Sum.inr k, .int v, rfl, W.sub _ _ h, ry.str_inv, by rw [getM_val, hg]; rfl, P.here W r .int⟩
@[simp] def rdNotInM : D → D → (D → Prop) → Prop := fun x y R => ∃ (m : List (Str × Int)) (k : Str), y = .dict (dicD m) ∧ m ≠ [] ∧ x = .str k ∧ R (.bool (!(getM m k).isSome))
theorem od_notInM : OpD c FWD.rNotInDc rdNotInM := by
  rintro H F x y d e R Q W rx ry ⟨m, k, rfl, n, rfl, r⟩ P
  obtain ⟨a, rfl, h⟩ := ry.dic_inv n
  refine ⟨a, (getM m k).map V.int, rfl, ?_, ?_⟩
  · rw [rx.str_inv]
    have := DGet.k (k := Sum.inr k) (W.sub _ _ h)
    rw [getM_val] at this
    exact this
  · rw [Option.isSome_map]
    exact P.here W r .bl
/-! ### a dict by a comprehension, one more item set -/
theorem dct_noP {kvs : List (Key × V)} (W : Wok c H F) {a : Addr} (h : H a = some (.dK kvs)) : a ∉ c.Ps := fun hp => by
  obtain ⟨⟨ps, q, _⟩, _⟩ := W.tab a hp
  rw [h] at q; cases q
theorem dct_still {D0 : Addr} {kvs : List (Key × V)} (W : Wok c H F) (x : Ext c H F H' F') (h : H D0 = some (.dK kvs)) (hF : F D0 = none) (nr : D0 ≠ c.r) : H' D0 = some (.dK kvs) ∧ F' D0 = none := by
  refine ⟨x.keep D0 _ h nr (dct_noP W h), ?_⟩
  cases q : F' D0 with
  | none => rfl
  | some u =>
    have := x.new D0 hF (by rw [q]; simp)
    rw [h] at this; cases this
theorem Ext.mutD {D0 : Addr} (x : Ext c H F H' F') {kvs kvs' : List (Key × V)} (h0 : H D0 = none) (h2 : H' D0 = some (.dK kvs)) (n2 : F' D0 = none) (nr : D0 ≠ c.r) : Ext c H F (upd H' D0 (.dK kvs')) F' := by
  have np : D0 ∉ c.Ps := dct_noP x.ok h2
  refine ⟨⟨fun b o eb => ?_, ?_, x.ok.rF, fun P hP => ⟨?_, (x.ok.tab P hP).2⟩⟩, x.grow, fun b o eb hr hp => ?_, x.new, x.pre⟩
  · rw [upd_ne (fun z => by rw [z, n2] at eb; cases eb)]; exact x.ok.sub b o eb
  · obtain ⟨i, y, n, h1, h3, h4, h5, h6⟩ := x.ok.row
    refine ⟨i, y, n, by rw [upd_ne (fun z => nr z.symm)]; exact h1, h3, h4, h5, ?_⟩
    rcases h6 with (h6 | ⟨o, h6⟩) | h6
    · exact .inl (.inl (by rw [upd_ne (fun z => by rw [z, h2] at h6; cases h6)]; exact h6))
    · exact .inl (.inr ⟨o, by rw [upd_ne (fun z => by rw [z, h2] at h6; cases h6)]; exact h6⟩)
    · exact .inr h6
  · obtain ⟨ps, e1, t1⟩ := (x.ok.tab P hP).1
    exact ⟨ps, by rw [upd_ne (fun (z : P = D0) => np (z ▸ hP))]; exact e1, t1⟩
  · rw [upd_ne (fun z => by rw [z, h0] at eb; cases eb)]
    exact x.keep b o eb hr hp
/-- the turns: key and value of each -/
def dcRun (g : D → (Sg → Prop) → Prop) (wk wv : W) (R : List (Str × Int) → Prop) : List D → List (Str × Int) → Prop
  | [], m => R m
  | d :: ds, m => g d fun e => wk e fun y => wv e fun z => ∃ (k : Str) (v : Int), y = .str k ∧ z = .int v ∧ dcRun g wk wv R ds (putM m k v)
theorem putM_len (m : List (Str × Int)) (k : Str) (v : Int) : (putM m k v).length ≤ m.length + 1 := by
  unfold putM
  split
  · rw [List.length_map]; omega
  · rw [List.length_append]; exact Nat.le_refl _
theorem putM_ne (m : List (Str × Int)) (k : Str) (v : Int) : putM m k v ≠ [] := by
  unfold putM
  split
  · rename_i h
    intro z
    rw [List.map_eq_nil_iff.mp z] at h
    cases h
  · intro z
    have := congrArg List.length z
    rw [List.length_append] at this
    cases this
@[simp] def dDict (i : Nat) (wi : WA) (wg : WG) (wk wv : W) (vs : List Nat) (key : Str) (val : Int) : WS := fun De e => i < e.length ∧ wi e fun ds => ds.length ≤ 1000 ∧ dcRun (fun d k => wg d (wipeS e vs) k) wk wv (fun m => De.nx (e.set i (.val (.dict (dicD (putM m key val)))))) ds []
theorem tDc_run {wi : WA} {wg : WG} {wk wv : W} {g : TG} {vs : List Nat} (hg : gD c wg g) (hs : Stores g vs) {e : Sg} {R : List (Str × Int) → Prop} {Q : VK} (W : Wok c H F) (S : RepS c H0 σ H F e)
    (q : wi e fun ds => ds.length ≤ 1000 ∧ dcRun (fun d k => wg d (wipeS e vs) k) wk wv R ds [])
    (P : ∀ (m : List (Str × Int)) (D : Addr) (H2 F2 : Hp), R m → m.length ≤ 1000 → Ext c H F H2 F2 → H2 D = some (.dK (dicV m)) → F2 D = none → D ≠ c.r → H D = none → Q (.ref D) H2) :
    tDc (tI c wi) g tYes (tD c wk) (tD c wv) vs σ H Q :=
  ⟨e, F, H0, _, W, S, q, fun ds J H1 F1 ⟨hlen, i0⟩ x1 Y => fun D hD => by
    have n0 : F1 D = none := x1.ok.newF hD
    have nr : D ≠ c.r := x1.ok.newR hD
    have h0 : H D = none := x1.free hD
    refine ⟨fun i m H2 => m = ds.length - i ∧ i ≤ ds.length ∧ ∃ F2 acc, Ext c H F H2 F2 ∧ Same F1 F2 ∧ H2 D = some (.dK (dicV acc)) ∧ F2 D = none ∧ acc.length ≤ i ∧
        dcRun (fun d k => wg d (wipeS e vs) k) wk wv R (ds.drop i) acc,
      ⟨_, rfl, Nat.zero_le _, F1, [], x1.trans (Ext.loose x1.ok _ hD), fun _ _ h => h, upd_same, n0, Nat.le_refl _, i0⟩, ?_⟩
    rintro i m H2 ⟨rfl, hi, F2, acc, x2, s2, hD2, n2, hn, run⟩
    by_cases hlt : i < ds.length
    · refine .inr ⟨Y.go i H2 F2 hlt x2.ok s2, fun H3 => ∃ F3 acc, Ext c H F H3 F3 ∧ Same F1 F3 ∧ H3 D = some (.dK (dicV acc)) ∧ F3 D = none ∧ acc.length ≤ i + 1 ∧
        dcRun (fun d k => wg d (wipeS e vs) k) wk wv R (ds.drop (i + 1)) acc,
        fun H3 z => ⟨ds.length - (i + 1), by omega, rfl, hlt, z⟩, fun v H3 y => ?_⟩
      have hd : ds[i]? = some ds[i] := List.getElem?_eq_getElem hlt
      rw [drop_at hlt] at run
      obtain ⟨F3, x3, rv⟩ := Y.yld i _ H2 F2 v H3 hd x2.ok s2 y
      obtain ⟨d3, m3⟩ := dct_still x2.ok x3 hD2 n2 nr
      refine hs v σ H3 _ (hg v _ _ H3 F3 H0 _ _ _ x3.ok ((S.wipe vs).ext W (x2.trans x3)) rv run fun σ4 e4 r4 S4 => ?_)
      refine ⟨e4, F3, H0, _, x3.ok, S4, r4, fun y v4 H4 F4 q4 x4 rv4 => ⟨e4, F4, H0, _, x4.ok, S4.ext x3.ok x4, q4, fun z v5 H5 F5 ⟨k, w, hy, hz, r5⟩ x5 rv5 => ?_⟩⟩
      subst hy hz
      obtain ⟨d4, m4⟩ := dct_still x3.ok x4 d3 m3 nr
      obtain ⟨d5, m5⟩ := dct_still x4.ok x5 d4 m4 nr
      have len : scanBound = 4096 := rfl
      refine ⟨dicV acc, Sum.inr k, (rv4.str_inv), d5, ?_, F5, putM acc k w, (((x2.trans x3).trans x4).trans x5).mutD h0 d5 m5 nr, ((s2.trans x3.grow).trans x4.grow).trans x5.grow, ?_, m5, ?_, r5⟩
      · unfold dicV
        rw [List.length_map]
        exact len_lt (by omega)
      · rw [rv5.int_inv, putM_val]
        exact upd_same
      · have := putM_len acc k w
        omega
    · have he : i = ds.length := by omega
      subst he
      rw [List.drop_length] at run
      exact .inl ⟨Y.stop H2 F2 x2.ok s2, P acc D H2 F2 run (by omega) x2 hD2 n2 nr h0⟩⟩
theorem xs_dict {i : Nat} {wi : WA} {wg : WG} {wk wv : W} {vs : List Nat} {key : Str} {val : Int} {g : TG} {wr : WS} (hg : gD c wg g) (hs : Stores g vs) :
    ∀ Dn σ H, sD c E (dSeq (dDict i wi wg wk wv vs key val) wr) Dn σ H → tSeq (tAsg (tDc (tI c wi) g tYes (tD c wk) (tD c wv) vs) (gName i)) (tSeq (tAsg (tC (.int val)) (gSub (tVar i) (tC (.str key)) rSetD)) (sD c E wr)) Dn σ H :=
  fun Dn σ H ⟨e, F, H0, F0, De, x, S, ⟨hi, q⟩, K⟩ => by
    show tDc (tI c wi) g tYes (tD c wk) (tD c wv) vs σ H fun x H1 => gName i x σ H1 ((tSeq (tAsg (tC (.int val)) (gSub (tVar i) (tC (.str key)) rSetD)) (sD c E wr)) Dn)
    refine tDc_run hg hs x.ok S q fun m D H2 F2 r hm x2 hD hF nr h0 => ?_
    refine ⟨.ref D, by rw [List.getElem?_set_self (by rw [S.len]; exact hi)], D, _, rfl, DPut.k (k := Sum.inr key) hD (by
      unfold dicV
      rw [List.length_map]
      exact len_lt (by omega)), ?_⟩
    rw [putM_val]
    have x3 : Ext c H F (upd H2 D (.dK (dicV (putM m key val)))) F2 := x2.mutD h0 hD hF nr
    have x4 : Ext c H F (upd H2 D (.dK (dicV (putM m key val)))) (upd F2 D (.dK (dicV (putM m key val)))) := by
      refine ⟨x3.ok.freeze upd_same nr (fun ps z => by cases z), fun b o e => upd_keep hF b o (x3.grow b o e), x3.keep, fun b hb hb' => ?_, x3.pre⟩
      by_cases hp : b = D
      · rw [hp]; exact h0
      · rw [upd_ne hp] at hb'
        exact x3.new b hb hb'
    refine ⟨e.set i (.val (.dict (dicD (putM m key val)))), _, H0, F0, De, x.trans x4, (S.ext x.ok x4).set_val i (.inl (.dic (putM_ne _ _ _) rfl upd_same)), r, K⟩
theorem pe_gstr {x z : Str} {pos : Pos} (hg : Gl X x) (h : ∃ t, X.mg x = some (.str z t)) (hd : (x == ("__debug__" : Str)) = false := by decide) : PE X (.Name x pos) (tC (.str z)) := by
  obtain ⟨t, h⟩ := h
  exact pe_glob hg h ⟨t, rfl⟩ hd
/-! ### try: return f(..) except .. -/
@[simp] def dTryRet (i : Nat) (names : List Str) (wb : WXp) (ws : Addr → Str → WS) : WS := fun De e =>
  wb (fun x => x.1 ∈ names ∧ x.2 = none ∧ ∀ a, ws a x.1 (suiteEnds i De) (e.set i (.exc a))) e fun d => De.rt d
theorem xs_tryRet {i : Nat} {names : List Str} {wb : WXp} {ws : Addr → Str → WS} {cv : Value} {Wout : WX} (hm : ∀ n ∈ names, PySem.W.exmOne c.K (.ref (c.g.cls n)) cv = some true) : ∀ Dn σ H, sD c E (dTryRet i names wb ws) Dn σ H →
    tRet (tDX c (WE (wAs c.K cv i (tsD c E names ws) Wout Dn)) wb) Dn σ H := fun Dn σ H ⟨e, F, H0, F0, De, x, S, q, K⟩ => by
  refine ⟨e, F, H0, _, _, x.ok, S, q, fun d v H' F' r x' rv => K.rt d v H' F' r (x.trans x') rv, ?_⟩
  rintro ⟨n, k⟩ H' F' ⟨hn, hk, r⟩ x'
  have hk : k = none := hk
  subst hk
  refine ⟨true, hm n hn, fun _ a _ => ⟨n, hn, rfl, rfl, e.set i (.exc a), F', H0, F0, _, x.trans x', (S.ext x.ok x').set_exc i a, r a, ?_⟩, fun z => nomatch z⟩
  exact ⟨fun e2 σ2 H2 F2 q2 x2 S2 => K.nx _ _ _ _ q2 x2 (S2.set_un i none), fun d v H2 F2 q2 x2 rv => K.rt d v H2 F2 q2 x2 rv, fun ds p vs H2 F2 q2 x2 h0 h1 h2 h3 kk => K.rn ds p vs H2 F2 q2 x2 h0 h1 h2 h3 kk,
    fun e2 σ2 H2 F2 q2 x2 S2 => K.bk _ _ _ _ q2 x2 (S2.set_un i none), fun e2 σ2 H2 F2 q2 x2 S2 => K.ct _ _ _ _ q2 x2 (S2.set_un i none), fun _ _ _ z => z.elim, fun _ z => z.elim, fun _ _ _ _ z => z.elim, fun z => nomatch z⟩
end
end FW
namespace FWD
open PySem PySem.Spec PyProof.Rows L2
theorem room1 {k : Nat} {A : Around} (hr : Room k A) : A.units + 1 < cLine := by
  have := hr.un
  omega
end FWD
/-! FWO: sorted(xs, key=f), f a def of the program. -/
namespace FWO
open PySem PySem.Spec PyProof.Rows L2
section
variable {X : Cx} {k : Nat} {f : Addr} {fd : FuncData} {ps : List Str} {sp : Sp}
/-- f's call within two built-ins -/
theorem call_in2 (F : FnOk X.prog X.w X.K X.mg X.base C8.CX0 k f fd ps sp) (hr : Room (k + 2) X.A) (hb : Binds X.K fd ps []) {pins : List (Addr × Obj)} {s : Shared} {σ : L2.St} {H : Hp} {Q : VK} {us : List Value} {vs : List V}
    (I : Inv X pins σ H s) (r : Vals vs us) (h : sp vs H Q C8.E0) : wpAny (model X.prog X.w) X.A.in1.in1 (call (.ref f) us) (EP X pins σ Q) (fun _ _ => False) s := by
  have hl : us.length = ps.length := by rw [← r.length]; exact F.len _ _ _ _ h
  have b := hb s us I.kIn (by simpa using hl)
  rw [List.append_nil] at b
  refine wpAny_call (codeAny_mono (F.run X.A.in1.in1 X.stack s H ⟨us, []⟩ us vs Q C8.E0 hr.in1.in1 I.env0.in1.in1 b r h) fun z t hq => ?_)
  cases z with
  | error e => exact hq
  | ok fl =>
    cases fl with
    | ret u => exact I.after hq
    | next => exact hq.elim
    | brk => exact hq.elim
    | cont => exact hq.elim
/-- the heap without the object at b -/
def hole (h : Heap) (b : Addr) : Heap := { h with objs := h.objs.setIfInBounds b ⟨.none, none, .freed, #[]⟩ }
theorem hole_none (h : Heap) (b : Addr) : (hole h b).get? b = none := by
  unfold hole Heap.get?
  by_cases z : b < h.objs.size
  · rw [Array.getElem?_setIfInBounds_self_of_lt z]
  · rw [Array.getElem?_eq_none (by rw [Array.size_setIfInBounds]; exact Nat.le_of_not_lt z)]
theorem hole_ne (h : Heap) {b c : Addr} (hc : c ≠ b) : (hole h b).get? c = h.get? c := by
  unfold hole Heap.get?
  rw [Array.getElem?_setIfInBounds_ne hc.symm]
/-- what is asked of a raw object beside the tracked ones -/
def Far (X : Cx) (pins : List (Addr × Obj)) (b : Addr) : Prop := b ≠ X.env.locals ∧ b ∉ X.fs ∧ (b ∈ X.ex ∨ X.s_0.heap.objs.size ≤ b) ∧ (∀ x c, X.env.cells.lookup x = some c → c ≠ b) ∧ ∀ p ∈ X.pn ++ pins, p.1 ≠ b
theorem Far.more {pins : List (Addr × Obj)} {b a : Addr} {o : Obj} (h : Far X pins b) (n : a ≠ b) : Far X ((a, o) :: pins) b := by
  refine ⟨h.1, h.2.1, h.2.2.1, h.2.2.2.1, fun p hp => ?_⟩
  rcases List.mem_append.mp hp with q | q
  · exact h.2.2.2.2 p (List.mem_append_left _ q)
  · rcases List.mem_cons.mp q with e | q
    · rw [e]; exact n
    · exact h.2.2.2.2 p (List.mem_append_right _ q)
theorem list_pin {xs : Array Value} {n : Nat} (v : Option Value) : (seqObj "list" xs n).data ≠ .cell v := by intro z; cases z
theorem in_pins {pins : List (Addr × Obj)} {s : Shared} {σ : L2.St} {H : Hp} (I : Inv X pins σ H s) {b : Addr} {xs : Array Value} {n : Nat} (hb : s.heap.get? b = some (seqObj "list" xs n)) (hn : H b = none) (hf : Far X pins b) :
    Inv X ((b, seqObj "list" xs n) :: pins) σ H s := I.pins_of fun p hp => by
  rcases List.mem_cons.mp hp with e | hp
  · rw [e]
    exact ⟨hb, hn, hf.1, hf.2.1, fun v => list_pin v⟩
  · exact I.pin p (List.mem_append_right _ hp)
theorem out_pins {pins : List (Addr × Obj)} {s : Shared} {σ : L2.St} {H : Hp} {q : Addr × Obj} (I : Inv X (q :: pins) σ H s) : Inv X pins σ H s := I.pins_of fun p hp => I.pin p (List.mem_append_right _ (List.mem_cons_of_mem _ hp))
theorem pin_at {pins : List (Addr × Obj)} {s : Shared} {σ : L2.St} {H : Hp} {b : Addr} {o : Obj} (I : Inv X ((b, o) :: pins) σ H s) : s.heap.get? b = some o ∧ H b = none := by
  have := I.pin (b, o) (List.mem_append_right _ (List.mem_cons_self ..))
  exact ⟨this.1, this.2.1⟩
/-- a raw object becomes a tracked list, another one goes -/
theorem track {pins : List (Addr × Obj)} {s : Shared} {σ : L2.St} {H : Hp} {a b : Addr} {h' : Heap} {tk n : Nat} {xs : List V} {its : List Value} (I : Inv X pins σ H s) (ha : Far X pins a) (hb : Far X pins b) (na : H a = none) (nb : H b = none)
    (keep : ∀ c o, c ≠ a → c ≠ b → s.heap.get? c = some o → h'.get? c = some o) (at_ : h'.get? a = some (seqObj "list" its.toArray n)) (r : Vals xs its) (hz : xs.length ≤ sizeLine) :
    Inv X pins σ (upd H a (.lst xs)) { s with heap := h', toks := tk } := by
  have off : ∀ c o, H c = some o → c ≠ a ∧ c ≠ b := fun c o e => ⟨fun z => (by rw [z, na] at e; cases e), fun z => (by rw [z, nb] at e; cases e)⟩
  have ch : ∀ c, c ∉ [a, b] → c ≠ a ∧ c ≠ b := fun c hc => ⟨fun z => hc (by simp [z]), fun z => hc (by simp [z])⟩
  refine I.step (g' := s.gens) (d' := s.drawn) (ch := [a, b]) (fun c hc => ?_) (fun c o _ _ hc e _ => keep c o (ch c hc).1 (ch c hc).2 e) (fun c o _ _ hc e _ => ⟨o.slots, keep c o (ch c hc).1 (ch c hc).2 e⟩)
    (fun c o hc _ n => by rw [upd_ne (ch c hc).1]; exact n) (fun c o hc e => ⟨o, keep c o (ch c hc).1 (ch c hc).2 e⟩) (fun c ys e => by rw [upd_ne (off c _ e).1]; exact e) (fun c o u e => by rw [upd_ne (off c _ e).1]; exact e)
    (fun c tt e => ⟨#[], by rw [upd_ne (off c _ e).1, e]; simp⟩) (fun m hm => ?_) (fun c u e => ?_) I.bare
  · have : c = a ∨ c = b := by simpa using hc
    rcases this with rfl | rfl
    · exact ⟨ha.2.2.1, ha.1, ha.2.2.2.1, ha.2.2.2.2⟩
    · exact ⟨hb.2.2.1, hb.1, hb.2.2.2.1, hb.2.2.2.2⟩
  · obtain ⟨o, es, ep, ho, q⟩ := hm
    exact ⟨o, es, ep, keep _ o ha.1.symm hb.1.symm ho, q⟩
  · by_cases z : c = a
    · subst z
      rw [upd_same] at e
      cases e
      exact ⟨hz, its, n, r, at_⟩
    · rw [upd_ne z] at e
      refine (I.hok c u e).stay (fun d v hd q => ?_) (fun d q => by rw [upd_ne (off d _ q).1]; exact q) fun d ys q => by rw [upd_ne (off d _ q).1]; exact q
      rcases hd with y | y
      · rw [y] at q ⊢
        exact keep c v (off c _ e).1 (off c _ e).2 q
      · exact keep d v (off d _ y).1 (off d _ y).2 q
theorem each_reads {h : Heap} : ∀ {vs : List Value} {ds : List PyData} {as : List Addr}, ReadsAll h vs ds as → W.EachIs (fun v d => ∃ as, Reads h v d as) vs ds
  | _, _, _, .nil => .nil
  | _, _, _, .cons r t => .cons ⟨_, r⟩ (each_reads t)
theorem each_zip : ∀ {xs : List V} {us : List Value} {kz : List PyData}, Vals xs us → kz.length = xs.length → W.EachIs (fun v (b : V × PyData) => RelV b.1 v) us (xs.zip kz)
  | _, _, _, .nil, _ => .nil
  | _, _, [], .cons _ _, h => by simp at h
  | _, _, d :: kz, .cons r t, h => .cons r (each_zip t (by simpa using h))
theorem vals_each : ∀ {us : List Value} {bs : List (V × PyData)}, W.EachIs (fun v (b : V × PyData) => RelV b.1 v) us bs → Vals (bs.map Prod.fst) us
  | _, _, .nil => .nil
  | _, _, .cons r t => .cons r (vals_each t)
theorem sort_key (F : FnOk X.prog X.w X.K X.mg X.base C8.CX0 k f fd ps sp) (hr : Room (k + 2) X.A) (hb : Binds X.K fd ps []) {pins : List (Addr × Obj)} {s : Shared} {σ : L2.St} {H : Hp} {l : Addr} {items : List V} {kz : List PyData}
    {Wk : Nat → List V → Hp → Prop} {Q : VK} (I : Inv X pins σ H s) (hs : SqL X.K H l items) (hz : items.length ≤ 1000000) (hkz : kz.length = items.length) (hal : W.AllAlike kz) (hso : W.Sortable kz) (hd : ∀ d ∈ kz, d.depth ≤ 64)
    (w0 : Wk 0 [] H) (turn : ∀ i x ys H', items[i]? = some x → Wk i ys H' → sp [x] H' (fun y H2 => Wk (i + 1) (ys ++ [y]) H2) C8.E0)
    (fin : ∀ ys H', Wk items.length ys H' → DpAll X.K H' ys kz ∧ ∀ p, H' p = none → Q (.ref p) (upd H' p (.lst (((items.zip kz).mergeSort (W.dataLe false Prod.snd)).map Prod.fst)))) :
    wpAny (model X.prog X.w) X.A (call (.builtin "sorted") [.ref l] [(Str.ofString "key", .ref f)]) (EP X pins σ Q) X.xe s := by
  obtain ⟨its, rv, hl, _⟩ := I.list hs
  have len : items.length = its.length := rv.length
  have hL : its.length ≤ sizeLine := by rw [← len]; exact FW.len_le hz
  refine W.sorted_of_sort hl.isList hL (PyProof.Rows.ksk_s1 _ _) (fun _ => PyProof.Rows.ksk_l1 _ _) fun E' => ?_
  rw [PyProof.Rows.ksk_t1]
  have na : H (s.heap.objs.size + 1) = none := I.hok.fresh (Nat.le_succ _)
  have fa : Far X pins (s.heap.objs.size + 1) := (I.fpOk (H' := H) (Nat.le_succ _) na).2
  have I1 : Inv X pins σ H { s with heap := W.copyHeap s.heap its } := I.kept (t' := s.toks) fun b u e => W.copyHeap_old e
  have at1 := W.copyHeap_at s.heap its
  generalize s.heap.objs.size + 1 = a at na fa at1 ⊢
  generalize W.copyHeap s.heap its = h1 at I1 at1 ⊢
  unfold PyProof.Rows.ksk_tree
  refine wpAny_bind (listItems_at at1 rfl ?_)
  obtain ⟨e1, at2⟩ : ∃ e1, (h1.update a (Obj.mapSeq fun _ => (#[] : Array Value))).get? a = some (seqObj "list" #[] e1) := ⟨_, get?_update_seq at1 fun _ => #[]⟩
  have sb := Heap.SameBut.update h1 a (Obj.mapSeq fun _ => (#[] : Array Value))
  refine wpAny_bind (listUpdate_at at1 rfl ?_ (by rw [List.size_toArray]; exact hL) (Nat.zero_le _))
  refine wpAny_bind (seqEpoch_at at2 rfl ?_)
  have I2 : Inv X pins σ H { s with heap := h1.update a (Obj.mapSeq fun _ => (#[] : Array Value)) } := Inv.turnedL (s := { s with heap := h1 }) (t' := s.toks) (ch := [a]) I1 (fun b o hb e => (sb.2 b fun z => hb (by simp [z])).trans e) fun b hb => by
    rw [List.mem_singleton.mp hb]
    exact ⟨na, fa⟩
  generalize h1.update a (Obj.mapSeq fun _ => (#[] : Array Value)) = h2 at at2 I2 ⊢
  refine wpAny_bind (wpAny_newTuple ?_ (by exact hL))
  refine wpAny_bind (wpAny_newList ?_ (Nat.zero_le _))
  refine wpAny_holding ?_
  generalize ht : ({ cls := Value.type "tuple", data := Data.seq its.toArray.toList.toArray } : Obj) = oT
  show wpAny _ _ (PyProof.Rows.ksk_rest a (.ref f) false its.toArray e1 (.ref (h2.push oT).objs.size)) _ _ { s with heap := (h2.push oT).push (seqObj "list" #[] 0) }
  have la : a < h2.objs.size := Heap.lt_size at2
  have sz : (h2.push oT).objs.size = h2.objs.size + 1 := size_push' ..
  have nk : H (h2.push oT).objs.size = none := I2.hok.fresh (by rw [sz]; exact Nat.le_succ _)
  have fk : Far X pins (h2.push oT).objs.size := (I2.fpOk (H' := H) (by rw [sz]; exact Nat.le_succ _) nk).2
  have nak : a ≠ (h2.push oT).objs.size := by rw [sz]; exact Nat.ne_of_lt (Nat.lt_succ_of_lt la)
  have I3 : Inv X pins σ H { s with heap := (h2.push oT).push (seqObj "list" #[] 0) } := Inv.kept (s := { s with heap := h2 }) (t' := s.toks) I2 fun b u e => Heap.get?_push_of_some _ (Heap.get?_push_of_some _ e)
  have at3 : ((h2.push oT).push (seqObj "list" #[] 0)).get? a = some (seqObj "list" #[] e1) := Heap.get?_push_of_some _ (Heap.get?_push_of_some _ at2)
  have atk : ((h2.push oT).push (seqObj "list" #[] 0)).get? (h2.push oT).objs.size = some (seqObj "list" #[] 0) := Heap.get?_push_size _ rfl
  generalize (h2.push oT).objs.size = q at nk fk nak atk ⊢
  generalize (h2.push oT).push (seqObj "list" #[] 0) = h3 at I3 at3 atk ⊢
  have I4 := in_pins (in_pins I3 atk nk fk) at3 na (fa.more nak.symm)
  unfold PyProof.Rows.ksk_rest
  refine wpAny_bind (wpAny_rule ?_)
  first
    | rw [List.forIn_toArray]
    | (rw [← Array.forIn_toList]; simp only [List.toList_toArray])
  refine wpAny_bind (PyProof.Rows.ksk_fold (fun i t => ∃ H' ys kA e, Inv X ((a, seqObj "list" #[] e1) :: (q, seqObj "list" kA e) :: pins) σ H' t ∧ Vals ys kA.toList ∧ ys.length = i ∧ Wk i ys H') its 0 _ ⟨H, [], #[], 0, I4, .nil, rfl, w0⟩ ?step ?done)
  case step =>
    rintro j x t hx ⟨H', ys, kA, e, J, vy, ly, wk⟩
    simp only [Nat.zero_add] at ly wk ⊢
    have hj : j < its.length := (List.getElem?_eq_some_iff.mp hx).1
    have hxv : items[j]? = some (items[j]'(by omega)) := List.getElem?_eq_getElem (by omega)
    obtain ⟨u, hu, ru⟩ := rv.get hxv
    rw [hx] at hu
    cases hu
    have ks : kA.size = j := by rw [← Array.length_toList, ← vy.length, ly]
    refine wpAny_bind (wpAny_attempt (wpAny_mono (call_in2 F hr hb J (.cons ru .nil) (turn j _ ys H' hxv wk)) (fun v t2 he => ?_) fun _ _ hF => hF.elim))
    obtain ⟨y, H2, J2, ry, w2⟩ := he
    have J3 := out_pins J2
    obtain ⟨gk, hk⟩ := pin_at J3
    obtain ⟨ga, ha⟩ := pin_at J2
    have sb2 := Heap.SameBut.update t2.heap q (Obj.mapSeq (·.push v))
    obtain ⟨c2, hc2⟩ : ∃ c2, (t2.heap.update q (Obj.mapSeq (·.push v))).get? q = some (seqObj "list" (kA.push v) c2) := ⟨_, get?_update_seq gk (·.push v)⟩
    refine wpAny_bind (listUpdate_at gk rfl ?_ (by rw [ks]; omega) (by rw [Array.size_push, ks]; omega))
    have J4 : Inv X pins σ H2 { t2 with heap := t2.heap.update q (Obj.mapSeq (·.push v)) } := Inv.turnedL (s := t2) (t' := t2.toks) (ch := [q]) (out_pins J3) (fun b o hb e => (sb2.2 b fun z => hb (by simp [z])).trans e) fun b hb => by
      rw [List.mem_singleton.mp hb]
      exact ⟨hk, fk⟩
    refine wpAny_pure ⟨rfl, H2, ys ++ [y], kA.push v, c2, in_pins (in_pins J4 hc2 hk fk) ((sb2.2 a nak).trans ga) ha (fa.more nak.symm), ?_, by rw [List.length_append, ly]; rfl, w2⟩
    rw [Array.toList_push]
    exact vy.append (.cons ry .nil)
  case done =>
    rintro t ⟨H', ys, kA, e, J, vy, ly, wk⟩
    simp only [Nat.zero_add] at ly wk
    obtain ⟨dk, hQ⟩ := fin ys H' (by rw [len]; exact wk)
    obtain ⟨gk, hk⟩ := pin_at (out_pins J)
    obtain ⟨ga, ha⟩ := pin_at J
    have J0 := out_pins (out_pins J)
    obtain ⟨as, ra⟩ := Dp.readsAll J0 kz ys kA.toList dk vy
    have each := each_reads ra
    have ks : kA.size = its.length := by rw [← Array.length_toList, ← vy.length, ly]
    refine wpAny_bind (listItems_at gk rfl ?_)
    refine W.keyH_end (κ := W.dataKind t.heap kz) (h₁ := hole t.heap q) (vs := its) (fun b o _ e => ?_) (hole_none _ _) gk ga nak.symm (W.SortsAt.data each hal hso fun d hm => ?_) ks hL fun h' tk c kp hat => ⟨rfl, ?_⟩
    · by_cases z : b = q
      · rw [z, hole_none] at e
        cases e
      · rw [hole_ne _ z] at e
        exact e
    · have := hd d hm
      have := hr.un
      show X.A.units + 1 + 1 + d.depth < cLine
      omega
    · have hp : (items.zip kz).map Prod.snd = kz := List.map_snd_zip (by omega)
      have ko : W.KeyedOut false ((items.zip kz).map Prod.snd) its (W.sortVals (W.dataKind t.heap kz) false kA.toList its) := by
        rw [hp]
        exact ⟨t.heap, kA.toList, hal, rfl, each⟩
      have ev := vals_each (W.keyedOut_each (R := fun v (b : V × PyData) => RelV b.1 v) Prod.snd ko (each_zip rv (by omega)))
      refine ⟨.ref a, _, track (tk := tk) J0 fa fk ha hk (fun c o h1 h2 e => kp c o h1 (by rw [hole_ne _ h2]; exact e)) hat ev ?_, rfl, hQ a ha⟩
      rw [List.length_map, List.length_mergeSort, List.length_zip]
      exact FW.len_le (by omega)
end
end FWO
namespace FWO
open PySem PySem.Spec PyProof.Rows L2
def rSrtKey (K : PySem.W.Frag) (sp : Sp) (vs : List V) (H1 : Hp) (Q : VK) : Prop := ∃ (l : Addr) (items : List V) (kz : List PyData) (Wk : Nat → List V → Hp → Prop), vs = [V.ref l] ∧ SqL K H1 l items ∧ items.length ≤ 1000000 ∧ kz.length = items.length ∧
  W.AllAlike kz ∧ W.Sortable kz ∧ (∀ d ∈ kz, d.depth ≤ 64) ∧ Wk 0 [] H1 ∧ (∀ i x ys H', items[i]? = some x → Wk i ys H' → sp [x] H' (fun y H2 => Wk (i + 1) (ys ++ [y]) H2) C8.E0) ∧
  ∀ ys H', Wk items.length ys H' → DpAll K H' ys kz ∧ ∀ p, H' p = none → Q (.ref p) (upd H' p (.lst (((items.zip kz).mergeSort (W.dataLe false Prod.snd)).map Prod.fst)))
def tSrtKey (K : PySem.W.Frag) (sp : Sp) (t : TA) : TE := fun σ H Q => t σ H fun vs H1 => rSrtKey K sp vs H1 Q
section
variable {X : Cx} {k j : Nat} {x : Str} {sp : Sp} {e : Expr} {t : TA}
theorem cr_srtKey {f : Addr} {fd : FuncData} {ps : List Str} (F : FnOk X.prog X.w X.K X.mg X.base C8.CX0 k f fd ps sp) (hr : Room (k + 2) X.A) (hb : Binds X.K fd ps []) : CallRK X (.builtin "sorted") [Str.ofString "key"] (fun vs zs H Q => zs = [V.ref f] ∧ rSrtKey X.K sp vs H Q) := by
  intro pins s σ H vs zs us ws Q I r rz h
  obtain ⟨rfl, l, items, kz, Wk, rfl, hs, hz, hkz, hal, hso, hd, w0, turn, fin⟩ := h
  obtain rfl := Vals.ref1 r
  obtain rfl := Vals.ref1 rz
  exact sort_key F hr hb I hs hz hkz hal hso hd w0 turn fin
theorem pe_srtKey {p p2 p3 pos : Pos} (C : C8.Cal X.prog X.w X.K X.mg X.base k x sp []) (hr : Room j X.A) (hk : k + 2 ≤ j) (hg : Gl X x) (hgs : Gl X "sorted") (hms : X.mg "sorted" = none) (ha : PA X [e] t) (hd : (x == ("__debug__" : Str)) = false := by decide)
    (he : backTo pos (starEach [e] X.env) = (false, eval e X.env) :: backTo pos (starEach [] X.env) := by rfl) (hpl : (backTo pos (starEach [e] X.env)).any (·.1) = false := by rfl)
    (hall : (backToKw pos (keywordEach [⟨some (Str.ofString "key"), .Name x p2, p3⟩] X.env)).all (·.1.isSome) = true := by rfl) (hnone : (backToKw pos (keywordEach [⟨some (Str.ofString "key"), .Name x p2, p3⟩] X.env)).any (·.1.isNone) = false := by rfl)
    (hks : (backToKw pos (keywordEach [⟨some (Str.ofString "key"), .Name x p2, p3⟩] X.env)).filterMap (·.1) = [Str.ofString "key"] := by rfl) :
    PE X (.Call (.Name "sorted" p) [e] [⟨some (Str.ofString "key"), .Name x p2, p3⟩] pos) (tSrtKey X.K sp t) := by
  obtain ⟨f, fd, ps, ds, F, hm, kp, b, d⟩ := C.ex
  cases d
  have h := pe_callBK (p := p) (pos := pos) (cr_srtKey F (hr.mono hk) b) hgs hms (by decide +kernel) ha (pk_cons (pe_glob (v := .ref f) hg hm rfl hd) pk_nil) (by decide) (by decide) he hpl hall hnone hks
  have eq : tCKw (fun vs zs H Q => zs = [V.ref f] ∧ rSrtKey X.K sp vs H Q) t (tCons (tC (.ref f)) tNil) = tSrtKey X.K sp t := by
    funext σ H Q
    show t σ H _ = t σ H _
    exact congrArg (t σ H) (funext fun vs => funext fun H1 => propext ⟨fun h => h.2, fun h => ⟨rfl, h⟩⟩)
  rw [← eq]
  exact h
end
end FWO
namespace FW
open PySem PySem.Spec PyProof.Rows L2
section
variable {c : Amb} {H F H0 : Hp} {σ : L2.St} {e : Sg}
theorem rpAll_pairs {K : PySem.W.Frag} : ∀ {ps : List (V × D)}, (∀ p ∈ ps, Rp K F p.1 p.2) → RpAll K F (ps.map Prod.fst) (ps.map Prod.snd)
  | [], _ => .nil
  | p :: ps, h => .cons (h p (List.mem_cons_self ..)) (rpAll_pairs fun q hq => h q (List.mem_cons_of_mem _ hq))
theorem zip_rp {K : PySem.W.Frag} : ∀ {vs : List V} {ds : List D}, RpAll K F vs ds → ∀ p ∈ vs.zip ds, Rp K F p.1 p.2
  | _, _, .nil, p, hp => by cases hp
  | _, _, .cons h t, p, hp => by
    rw [List.zip_cons_cons] at hp
    rcases List.mem_cons.mp hp with e | hp
    · rw [e]; exact h
    · exact zip_rp t p hp
theorem lay_all {key : D → D} : ∀ xs : List D, (∀ x ∈ xs, SeqAt.shaped (key x) = true) → PyData.canLayAll0 (xs.map key) = true
  | [], _ => rfl
  | x :: xs, h => by
    rw [List.map_cons, PyData.canLayAll0, Bool.and_eq_true]
    exact ⟨SeqAt.canLay_of_shaped (h x (List.mem_cons_self ..)), lay_all xs fun y hy => h y (List.mem_cons_of_mem _ hy)⟩
theorem le_trans' {α : Type} {k : α → D} (a b c : α) (h : W.dataLe false k a b = true) (h' : W.dataLe false k b c = true) : W.dataLe false k a c = true := (W.sortLe_total (listOrd itemOrd) false fun b => W.keyToks (k b)).trans a b c h h'
theorem le_total' {α : Type} {k : α → D} (a b : α) : (W.dataLe false k a b || W.dataLe false k b a) = true := by
  rw [Bool.or_eq_true]
  exact (W.sortLe_total (listOrd itemOrd) false fun b => W.keyToks (k b)).total a b
/-- sorted(.., key=f): the keys are data; any list of the same items that stands by the keys' order -/
@[simp] def nSrtKey (f0 : Fd) (key : D → D) (w : WA) : WA := fun e R => w e fun ds => ∃ xs : List D, ds = [.list xs] ∧ xs.length ≤ 1000000 ∧ W.AllAlike (xs.map key) ∧ W.Sortable (xs.map key) ∧ (∀ x ∈ xs, SeqAt.shaped (key x) = true ∧ x ≠ .dict []) ∧
  (∀ x ∈ xs, ∀ K : D → Prop, K (key x) → f0 [x] K) ∧ ∀ ys : List D, ys.Perm xs → ys.Pairwise (fun a b => W.dataLe false key a b = true) → R ys
theorem xn_srtKey {f0 : Fd} {key : D → D} {w : WA} : ∀ σ H Q, tN c (nSrtKey f0 key w) σ H Q → FWO.tSrtKey c.K (spD c.g f0) (tA c w) σ H Q := fun σ H Q ⟨e, F, H0, R, Wo, S, q, P⟩ =>
  ⟨e, F, H0, _, Wo, S, q, fun ds vs H1 F1 ⟨xs, hd, hl, hal, hso, hsh, hf, r⟩ x1 rv => by
    subst hd
    obtain ⟨v, rfl, q1⟩ := reps1 rv
    obtain ⟨l, items, rfl, h1, h2⟩ := q1.list_inv
    have li := dpAll_length h2
    have lay := lay_all xs fun x hx => (hsh x hx).1
    refine ⟨l, items, xs.map key, fun i ys H' => i ≤ xs.length ∧ ∃ F', Ext c H F H' F' ∧ Same F1 F' ∧ RpAll c.K F' ys ((xs.take i).map key), rfl, SqL.of (x1.ok.sub _ _ h1), by omega, by rw [List.length_map]; omega, hal, hso, fun d hd => ?_, ⟨Nat.zero_le _, F1, x1, fun _ _ h => h, .nil⟩, ?_, ?_⟩
    · obtain ⟨x, hx, rfl⟩ := List.mem_map.mp hd
      have := (hsh x hx).1
      unfold SeqAt.shaped at this
      rw [Bool.and_eq_true, decide_eq_true_eq] at this
      exact this.2
    · rintro i v ys H' hv ⟨hi, F', x', s', hy⟩
      obtain ⟨d, hd, rd⟩ := dpAll_get h2 hv
      have hm := List.mem_of_getElem? hd
      have hlt := (List.getElem?_eq_some_iff.mp hd).1
      refine ⟨c, F', [d], _, rfl, x'.ok, .cons (.inl (dp_same s' _ _ rd)) .nil, hf d hm _ rfl, ?_⟩
      intro d2 v2 H2 F2 hd2 x2 rv2
      subst hd2
      refine ⟨hlt, F2, x'.trans x2, s'.trans x2.grow, ?_⟩
      rw [List.take_add_one, hd, List.map_append]
      refine dpAll_app (dpAll_same x2.grow _ _ hy) (.cons (rv2.dp fun z => ?_) .nil)
      have := SeqAt.canLay_of_shaped (hsh d hm).1
      rw [z] at this
      cases this
    · rintro ys H' ⟨_, F', x', s', hy⟩
      rw [li, List.take_length] at hy
      refine ⟨rpAll_dp _ _ lay (dpAll_same x'.ok.sub _ _ hy), fun p hp => ?_⟩
      have ez : items.zip (xs.map key) = (items.zip xs).map (Prod.map id key) := List.zip_map_right
      have em : ((items.zip xs).mergeSort fun a b => W.dataLe false key a.2 b.2).map (Prod.map id key) = ((items.zip xs).map (Prod.map id key)).mergeSort (W.dataLe false Prod.snd) := List.map_mergeSort fun a _ b _ => rfl
      rw [ez, ← em, List.map_map]
      have pm := List.mergeSort_perm (items.zip xs) fun a b => W.dataLe false key a.2 b.2
      have so : (((items.zip xs).mergeSort fun a b => W.dataLe false key a.2 b.2)).Pairwise fun a b => W.dataLe false key a.2 b.2 = true :=
        List.pairwise_mergeSort (le := fun a b : V × D => W.dataLe false key a.2 b.2) (fun a b c h h' => le_trans' (k := key) a.2 b.2 c.2 h h') (fun a b => le_total' (k := key) a.2 b.2) _
      generalize ((items.zip xs).mergeSort fun a b => W.dataLe false key a.2 b.2) = T at pm so
      have rT : RpAll c.K F' (T.map Prod.fst) (T.map Prod.snd) := rpAll_pairs fun q hq => dp_same s' _ _ (zip_rp h2 q (pm.mem_iff.mp hq))
      have r2 := r (T.map Prod.snd) (by
        have := pm.map Prod.snd
        rw [List.map_snd_zip (by omega)] at this
        exact this) (List.pairwise_map.mpr so)
      exact P _ p _ _ F' r2 (x'.trans (Ext.loose x'.ok _ hp)) (x'.free hp) upd_same (x'.ok.newF hp) (x'.ok.newR hp) rT⟩
end
end FW
namespace FWO
open PySem PySem.Spec PyProof.Rows L2
/-! ### sorted of data -/
def rSrtD (K : PySem.W.Frag) : List V → Hp → VK → Prop := fun vs H Q => ∃ (l : Addr) (items : List V) (ds : List PyData), vs = [V.ref l] ∧ SqL K H l items ∧ DpAll K H items ds ∧ ds.length = items.length ∧ items.length ≤ 1000000 ∧ W.AllAlike ds ∧ W.Sortable ds ∧ (∀ d ∈ ds, d.depth ≤ 60) ∧
  ∀ p, H p = none → Q (.ref p) (upd H p (.lst (((items.zip ds).mergeSort (W.dataLe false Prod.snd)).map Prod.fst)))
theorem each_zip2 {P : Value → PyData → Prop} : ∀ {xs : List V} {us : List Value} {kz : List PyData}, W.EachIs P us kz → kz.length = xs.length → W.EachIs (fun v (b : V × PyData) => P v b.2) us (xs.zip kz)
  | [], _, _, .nil, _ => .nil
  | _ :: _, _, _, .nil, h => by simp at h
  | [], _, _, .cons _ _, h => by simp at h
  | x :: xs, _, _, .cons r t, h => .cons r (each_zip2 t (by simpa using h))
section
variable {X : Cx}
theorem cr_srtD (hu : X.A.units + 64 < cLine) : CallR X (.builtin "sorted") (rSrtD X.K) := by
  intro pins s σ H vs us Q I r h
  obtain ⟨l, items, ds, rfl, hs, hd, hl, hz, hal, hso, hdp, q⟩ := h
  obtain rfl := Vals.ref1 r
  obtain ⟨its, rv, pl, _⟩ := I.list hs
  obtain ⟨as, ra⟩ := Dp.readsAll I ds items its hd rv
  have hp : (items.zip ds).map Prod.snd = ds := List.map_snd_zip (by omega)
  refine W.sorted_data (bs := items.zip ds) (enc := Prod.snd) (R := fun v (b : V × PyData) => RelV b.1 v) pl.isList (each_zip rv hl) (each_zip2 (each_reads ra) hl) (by rw [hp]; exact hal) (by rw [hp]; exact hso) ?_ (fun b hb => ?_) fun out ho eo => ?_
  · rw [List.length_zip]
    exact FW.len_le (by omega)
  · have := hdp b.2 (by rw [← hp]; exact List.mem_map.mpr ⟨b, hb, rfl⟩)
    omega
  · obtain ⟨n, at_⟩ := PyProof.Rows.sortedAll_at s.heap its out.toArray
    have ev := vals_each eo
    have lo : (((items.zip ds).mergeSort (W.dataLe false Prod.snd)).map Prod.fst).length ≤ sizeLine := by
      rw [List.length_map, List.length_mergeSort, List.length_zip]
      exact FW.len_le (by omega)
    have J : Inv X pins σ (upd H (s.heap.objs.size + 1) (.lst (((items.zip ds).mergeSort (W.dataLe false Prod.snd)).map Prod.fst))) { s with heap := sortedAll s.heap its out.toArray } :=
      I.laid (t' := s.toks) (fun _ _ => PyProof.Rows.sortedAll_old) (Nat.le_succ _) ⟨lo, out, n, ev, at_⟩
    exact ⟨.ref _, _, J, rfl, q _ (I.hok.fresh (Nat.le_succ _))⟩
end
end FWO
namespace FW
open PySem PySem.Spec PyProof.Rows L2
section
variable {c : Amb} {H F H0 : Hp} {σ : L2.St} {e : Sg}
@[simp] def nSrtD (w : WA) : WA := fun e R => w e fun ds => ∃ xs : List D, ds = [.list xs] ∧ xs.length ≤ 1000000 ∧ W.AllAlike xs ∧ W.Sortable xs ∧ (∀ x ∈ xs, PyData.canLay0 x = true ∧ x.depth ≤ 60) ∧
  ∀ ys : List D, ys.Perm xs → ys.Pairwise (fun a b => W.dataLe false id a b = true) → R ys
theorem xn_srtD {w : WA} : ∀ σ H Q, tN c (nSrtD w) σ H Q → tCB (FWO.rSrtD c.K) (tA c w) σ H Q := fun σ H Q ⟨e, F, H0, R, Wo, S, q, P⟩ =>
  ⟨e, F, H0, _, Wo, S, q, fun ds vs H1 F1 ⟨xs, hd, hl, hal, hso, hsh, r⟩ x1 rv => by
    subst hd
    obtain ⟨v, rfl, q1⟩ := reps1 rv
    obtain ⟨l, items, rfl, h1, h2⟩ := q1.list_inv
    have li := dpAll_length h2
    have lay : PyData.canLayAll0 xs = true := by
      have : ∀ xs : List D, (∀ x ∈ xs, PyData.canLay0 x = true) → PyData.canLayAll0 xs = true := fun xs => by
        induction xs with
        | nil => intro _; rfl
        | cons x xs ih =>
          intro h
          rw [PyData.canLayAll0, Bool.and_eq_true]
          exact ⟨h x (List.mem_cons_self ..), ih fun y hy => h y (List.mem_cons_of_mem _ hy)⟩
      exact this xs fun x hx => (hsh x hx).1
    refine ⟨l, items, xs, rfl, SqL.of (x1.ok.sub _ _ h1), rpAll_dp _ _ lay (dpAll_same x1.ok.sub _ _ h2), by omega, by omega, hal, hso, fun d hd => (hsh d hd).2, fun p hp => ?_⟩
    have pm := List.mergeSort_perm (items.zip xs) (W.dataLe false Prod.snd)
    have so : ((items.zip xs).mergeSort (W.dataLe false Prod.snd)).Pairwise fun a b => W.dataLe false (fun p : V × D => p.2) a b = true :=
      List.pairwise_mergeSort (le := fun a b : V × D => W.dataLe false Prod.snd a b) (fun a b c h h' => le_trans' a b c h h') (fun a b => le_total' a b) _
    generalize (items.zip xs).mergeSort (W.dataLe false Prod.snd) = T at pm so
    have rT : RpAll c.K F1 (T.map Prod.fst) (T.map Prod.snd) := rpAll_pairs fun q hq => zip_rp h2 q (pm.mem_iff.mp hq)
    have r2 := r (T.map Prod.snd) (by
      have := pm.map Prod.snd
      rw [List.map_snd_zip (by omega)] at this
      exact this) (List.pairwise_map.mpr so)
    exact P _ p _ _ F1 r2 (x1.trans (Ext.loose x1.ok _ hp)) (x1.free hp) upd_same (x1.ok.newF hp) (x1.ok.newR hp) rT⟩
end
end FW
/-! FWA: comprehensions of two clauses; enumerate over a list; what was told is changed at its second place, twice. -/
namespace FWO
open PySem PySem.Spec PyProof.Rows L2
theorem room64 {k : Nat} {A : Around} (hr : Room k A) : A.units + 64 < cLine := by
  have := hr.un
  omega
end FWO
namespace FW
open PySem PySem.Spec PyProof.Rows L2
/-! ### [e for .. in .. for .. in ..] -/
def lcOut (g : D → (Sg → Prop) → Prop) (wt : WT) (inn : Sg → List D → (List D → Prop) → Prop) (R : List D → Prop) : List D → List D → Prop
  | [], acc => R acc
  | d :: ds, acc => g d fun e => wt e fun b => if b = true then inn e acc fun acc' => lcOut g wt inn R ds acc' else lcOut g wt inn R ds acc
def lcTurn (wi1 : WA) (wg1 : WG) (wt1 : WT) (we : W) (vs1 : List Nat) : Sg → List D → (List D → Prop) → Prop := fun e acc K =>
  wi1 e fun ds => ds.length ≤ 1000 ∧ lcRun (fun d k => wg1 d (wipeS e vs1) k) wt1 we K ds acc
@[simp] def dLc2 (wi : WA) (wg : WG) (wt : WT) (wi1 : WA) (wg1 : WG) (wt1 : WT) (we : W) (vs vs1 : List Nat) : WA := fun e R =>
  wi e fun ds => ds.length ≤ 1000 ∧ lcOut (fun d k => wg d (wipeS e vs) k) wt (lcTurn wi1 wg1 wt1 we vs1) R ds []
section
variable {c : Amb} {E : XK} {H F H' F' H1 F1 H2 F2 H0 F0 : Hp} {σ : L2.St} {e : Sg} {D0 : Addr}
/-- own lists stand elsewhere than at p -/
theorem RepS.above (S : RepS c H0 σ H F e) {p : Addr} (o : HO) (hp : H p = none) : RepS c (upd H0 p o) σ H F e where
  exc := S.exc
  fix := S.fix
  len := S.len
  val := S.val
  ownO := fun i o' ds h => by
    obtain ⟨a, vs, h1, h2, h3, h4, h5, h6⟩ := S.ownO i o' ds h
    exact ⟨a, vs, h1, h2, h3, by rw [upd_ne (fun z => by rw [z, hp] at h2; cases h2)]; exact h4, h5, h6⟩
  distO := S.distO
theorem RepS.extL (S : RepS c H0 σ H F e) (W : Wok c H F) (nl : H0 D0 ≠ none) (x : ExtD D0 c H F H' F') : RepS c H0 σ H' F' e where
  exc := S.exc
  fix := fix_grow S.fix x.grow
  len := S.len
  val := fun i d h => by
    obtain ⟨v, h1, h2⟩ := S.val i d h
    exact ⟨v, h1, h2.grow x.grow⟩
  ownO := fun i o ds h => by
    obtain ⟨a, vs, h1, h2, h3, h4, h5, h6⟩ := S.ownO i o ds h
    refine ⟨a, vs, h1, x.keep a _ h2 h5 (W.noP h2) (fun z => nl (by rw [← z]; exact h4)), ?_, h4, h5, dpAll_same (cutO_grow o x.grow) _ _ h6⟩
    cases q : F' a with
    | none => rfl
    | some u =>
      have := x.new a h3 (by rw [q]; simp)
      rw [h2] at this; cases this
  distO := S.distO
theorem lst_still {ws : List V} (W : Wok c H F) (x : Ext c H F H' F') (h : H D0 = some (.lst ws)) (hF : F D0 = none) (nr : D0 ≠ c.r) : H' D0 = some (.lst ws) ∧ F' D0 = none := by
  refine ⟨x.keep D0 _ h nr (W.noP h), ?_⟩
  cases q : F' D0 with
  | none => rfl
  | some u =>
    have := x.new D0 hF (by rw [q]; simp)
    rw [h] at this; cases this
theorem xn_lc2 {wi wi1 : WA} {wg wg1 : WG} {wt wt1 : WT} {we : W} {g g1 : TG} {vs vs1 : List Nat} (hg : gD c wg g) (hs : Stores g vs) (hg1 : gD c wg1 g1) (hs1 : Stores g1 vs1) :
    ∀ σ H Q, tN c (dLc2 wi wg wt wi1 wg1 wt1 we vs vs1) σ H Q → tLc2 (tI c wi) g (tT c wt) (tI c wi1) g1 (tT c wt1) (tD c we) vs vs1 σ H Q := fun σ H Q ⟨e, F, H0, R, W, S, q, P⟩ =>
  ⟨e, F, H0, _, W, S, q, fun ds J H1 F1 ⟨hlen, i0⟩ x1 Y => fun L hL => by
    have n0 : F1 L = none := x1.ok.newF hL
    have nr : L ≠ c.r := x1.ok.newR hL
    have h0 : H L = none := x1.free hL
    have SL : RepS c (upd H0 L (.lst [])) σ H F e := S.above _ h0
    have nL : (upd H0 L (.lst [])) L ≠ none := by rw [upd_same]; simp
    refine ⟨fun i m H2 => m = ds.length - i ∧ i ≤ ds.length ∧ ∃ F2 ws acc, Ext c H F H2 F2 ∧ Same F1 F2 ∧ H2 L = some (.lst ws) ∧ F2 L = none ∧ RpAll c.K F2 ws acc ∧ acc.length ≤ 1000 * i ∧
        lcOut (fun d k => wg d (wipeS e vs) k) wt (lcTurn wi1 wg1 wt1 we vs1) R (ds.drop i) acc,
      ⟨_, rfl, Nat.zero_le _, F1, [], [], x1.trans (Ext.loose x1.ok _ hL), fun _ _ h => h, upd_same, n0, .nil, Nat.zero_le _, i0⟩, ?_⟩
    rintro i m H2 ⟨rfl, hi, F2, ws, acc, x2, s2, hL2, n2, k2, ha, hI⟩
    by_cases hlt : i < ds.length
    · refine .inr ⟨Y.go i H2 F2 hlt x2.ok s2, fun H3 => ∃ F3 ws acc, Ext c H F H3 F3 ∧ Same F1 F3 ∧ H3 L = some (.lst ws) ∧ F3 L = none ∧ RpAll c.K F3 ws acc ∧ acc.length ≤ 1000 * (i + 1) ∧
          lcOut (fun d k => wg d (wipeS e vs) k) wt (lcTurn wi1 wg1 wt1 we vs1) R (ds.drop (i + 1)) acc,
        fun H3 z => ⟨ds.length - (i + 1), by omega, rfl, hlt, z⟩, fun v H3 y => ?_⟩
      have hd : ds[i]? = some ds[i] := List.getElem?_eq_getElem hlt
      rw [drop_at hlt] at hI
      obtain ⟨F3, x3, rv⟩ := Y.yld i _ H2 F2 v H3 hd x2.ok s2 y
      obtain ⟨d3, m3⟩ := lst_still x2.ok x3 hL2 n2 nr
      refine hs v σ H3 _ (hg v _ _ H3 F3 _ _ _ _ x3.ok ((SL.wipe vs).ext W (x2.trans x3)) rv hI fun σ4 e4 r4 S4 => ?_)
      refine ⟨e4, F3, _, _, x3.ok, S4, r4, fun b H4 F4 r x4 => ?_⟩
      obtain ⟨d4, m4⟩ := lst_still x3.ok x4 d3 m3 nr
      have x34 := x3.trans x4
      cases b with
      | false =>
        exact ⟨F4, ws, acc, x2.trans x34, s2.trans x34.grow, d4, m4, dpAll_same x34.grow _ _ k2, by omega, by simpa using r⟩
      | true =>
        have r0 : lcTurn wi1 wg1 wt1 we vs1 e4 acc (fun acc' => lcOut (fun d k => wg d (wipeS e vs) k) wt (lcTurn wi1 wg1 wt1 we vs1) R (ds.drop (i + 1)) acc') := by simpa using r
        have r' : wi1 e4 fun ds1 => ds1.length ≤ 1000 ∧ lcRun (fun d k => wg1 d (wipeS e4 vs1) k) wt1 we (fun acc' => lcOut (fun d k => wg d (wipeS e vs) k) wt (lcTurn wi1 wg1 wt1 we vs1) R (ds.drop (i + 1)) acc') ds1 acc := r0
        refine ⟨e4, F4, _, _, x4.ok, S4.ext x3.ok x4, r', fun ds1 J1 H5 F5 ⟨hl1, run1⟩ x5 Y1 => ?_⟩
        obtain ⟨d5, m5⟩ := lst_still x4.ok x5 d4 m4 nr
        have S5 := (S4.ext x3.ok x4).ext x4.ok x5
        have x25 := (x2.trans x34).trans x5
        refine ⟨fun j k H6 => k = ds1.length - j ∧ j ≤ ds1.length ∧ ∃ F6 ws6 acc6, Ext c H F H6 F6 ∧ ExtD L c H5 F5 H6 F6 ∧ (∀ b, H6 b = none → H5 b = none) ∧ H6 L = some (.lst ws6) ∧ F6 L = none ∧ RpAll c.K F6 ws6 acc6 ∧ acc6.length ≤ 1000 * i + j ∧
            lcRun (fun d k => wg1 d (wipeS e4 vs1) k) wt1 we (fun acc' => lcOut (fun d k => wg d (wipeS e vs) k) wt (lcTurn wi1 wg1 wt1 we vs1) R (ds.drop (i + 1)) acc') (ds1.drop j) acc6,
          ⟨_, rfl, Nat.zero_le _, F5, ws, acc, x25, ⟨fun _ _ h => h, fun _ _ h _ _ _ => h, fun _ h h' => absurd h h'⟩, fun _ h => h, d5, m5, dpAll_same (x34.trans x5).grow _ _ k2, by omega, run1⟩, ?_⟩
        rintro j k H6 ⟨rfl, hj, F6, ws6, acc6, x6, y6, back6, hD6, n6, k6, hn6, run6⟩
        by_cases hlt1 : j < ds1.length
        · refine .inr ⟨Y1.go j H6 F6 hlt1 x6.ok y6.grow, fun H7 => ∃ F7 ws7 acc7, Ext c H F H7 F7 ∧ ExtD L c H5 F5 H7 F7 ∧ (∀ b, H7 b = none → H5 b = none) ∧ H7 L = some (.lst ws7) ∧ F7 L = none ∧ RpAll c.K F7 ws7 acc7 ∧ acc7.length ≤ 1000 * i + (j + 1) ∧
              lcRun (fun d k => wg1 d (wipeS e4 vs1) k) wt1 we (fun acc' => lcOut (fun d k => wg d (wipeS e vs) k) wt (lcTurn wi1 wg1 wt1 we vs1) R (ds.drop (i + 1)) acc') (ds1.drop (j + 1)) acc7,
            fun H7 z => ⟨ds1.length - (j + 1), by omega, rfl, hlt1, z⟩, fun v1 H7 z1 => ?_⟩
          have hd1 : ds1[j]? = some ds1[j] := List.getElem?_eq_getElem hlt1
          rw [drop_at hlt1] at run6
          obtain ⟨F7, x7, rv1⟩ := Y1.yld j _ H6 F6 v1 H7 hd1 x6.ok y6.grow z1
          obtain ⟨d7, n7⟩ := lst_still x6.ok x7 hD6 n6 nr
          have y7 : ExtD L c H5 F5 H7 F7 := y6.then (by rw [hD6]; simp) x7 back6
          have back7 : ∀ b, H7 b = none → H5 b = none := fun b h => back6 b (x7.free h)
          refine hs1 v1 σ4 H7 _ (hg1 v1 _ _ H7 F7 _ _ _ _ x7.ok ((S5.wipe vs1).extL x5.ok nL y7) rv1 run6 fun σ8 e8 r8 S8 => ?_)
          refine ⟨e8, F7, _, _, x7.ok, S8, r8, fun b H8 F8 r9 x8 => ?_⟩
          obtain ⟨d8, n8⟩ := lst_still x7.ok x8 d7 n7 nr
          have x78 := x7.trans x8
          have y8 : ExtD L c H5 F5 H8 F8 := y7.then (by rw [d7]; simp) x8 back7
          have back8 : ∀ b, H8 b = none → H5 b = none := fun b h => back7 b (x8.free h)
          cases b with
          | false =>
            exact ⟨F8, ws6, acc6, x6.trans x78, y8, back8, d8, n8, dpAll_same x78.grow _ _ k6, by omega, by simpa using r9⟩
          | true =>
            refine ⟨e8, F8, _, fun y => y ≠ .dict [] ∧ lcRun (fun d k => wg1 d (wipeS e4 vs1) k) wt1 we (fun acc' => lcOut (fun d k => wg d (wipeS e vs) k) wt (lcTurn wi1 wg1 wt1 we vs1) R (ds.drop (i + 1)) acc') (ds1.drop (j + 1)) (acc6 ++ [y]), x8.ok, S8.ext x7.ok x8, (by simpa using r9), fun y v9 H9 F9 ⟨hy, r10⟩ x9 rv9 => ?_⟩
            obtain ⟨d9, n9⟩ := lst_still x8.ok x9 d8 n8 nr
            have x79 := x78.trans x9
            have y9 : ExtD L c H5 F5 H9 F9 := y8.then (by rw [d8]; simp) x9 back8
            have hz : ws6.length = acc6.length := dpAll_length k6
            refine ⟨ws6, d9, len_lt (by omega), F9, ws6 ++ [v9], acc6 ++ [y], (x6.trans x79).mut h0 d9 n9 nr _, ⟨y9.grow, fun b o h hr hp hd => by rw [upd_ne hd]; exact y9.keep b o h hr hp hd, y9.new⟩, fun b h => ?_, upd_same, n9, dpAll_app (dpAll_same x79.grow _ _ k6) (.cons (rv9.dp hy) .nil), by simp; omega, r10⟩
            by_cases z : b = L
            · rw [z, upd_same] at h; cases h
            · rw [upd_ne z] at h
              exact back8 b (x9.free h)
        · have he : j = ds1.length := by omega
          subst he
          rw [List.drop_length] at run6
          exact .inl ⟨Y1.stop H6 F6 x6.ok y6.grow, F6, ws6, acc6, x6, ((s2.trans x34.grow).trans x5.grow).trans y6.grow, hD6, n6, k6, by omega, run6⟩
    · have he : i = ds.length := by omega
      subst he
      rw [List.drop_length] at hI
      exact .inl ⟨Y.stop H2 F2 x2.ok s2, P acc L ws H2 F2 hI x2 h0 hL2 n2 nr k2⟩⟩
theorem xs_asgLc2 {i : Nat} {wi wi1 : WA} {wg wg1 : WG} {wt wt1 : WT} {we : W} {g g1 : TG} {vs vs1 : List Nat} (hg : gD c wg g) (hs : Stores g vs) (hg1 : gD c wg1 g1) (hs1 : Stores g1 vs1) :
    ∀ Dn σ H, sD c E (dAsg i (dN (dLc2 wi wg wt wi1 wg1 wt1 we vs vs1))) Dn σ H → tAsg (tLc2 (tI c wi) g (tT c wt) (tI c wi1) g1 (tT c wt1) (tD c we) vs vs1) (gName i) Dn σ H := fun Dn σ H z => xn_lc2 hg hs hg1 hs1 σ H _ (xd_N σ H _ (xs_asg Dn σ H z))
end
theorem lcOut_map {α : Type} {g : D → (Sg → Prop) → Prop} {wt : WT} {inn : Sg → List D → (List D → Prop) → Prop} {R : List D → Prop} {φ : α → D} (h : α → List D) : ∀ (l : List α) (acc : List D),
    (∀ a ∈ l, ∀ (acc : List D) (K0 : Prop) (K : List D → Prop), K (acc ++ h a) → g (φ a) fun e => wt e fun b => if b = true then inn e acc K else K0) → R (acc ++ l.flatMap h) → lcOut g wt inn R (l.map φ) acc
  | [], acc, _, r => by simpa [lcOut] using r
  | a :: l, acc, t, r => by
    rw [List.map_cons]
    unfold lcOut
    exact t a (List.mem_cons_self ..) acc _ (fun acc' => lcOut g wt inn R (l.map φ) acc') (lcOut_map h l _ (fun b hb => t b (List.mem_cons_of_mem _ hb)) (by simpa using r))
section
variable {P : Program} {w : World} {g : Glb} {mg : Str → Option Value} {base : Heap} {x : Str} {st : Stmt} {f : Addr} {fd : FuncData} {N ps : List Str} {k : Nat} {wb : WS} {i : Int}
/-- .. called with all its arguments -/
theorem calDa {f0 : Fd} (Fn : FunQ g.K x st i f fd) (mgf : mg x = some (.ref f)) (b : ∃ ds, Vals ([V.int i].drop 1) ds ∧ Binds g.K fd ps ds) (S : FnScope N ps (defScope st)) (hlen : ∀ ds R, f0 ds R → ds.length = ps.length)
    (hb : ∀ (cdv : Value) (A : Around) (outer : List PySem.Env) (s : Shared) (H : Hp) (E : XK) (r a : Addr) (ns : List Int), Room k (A.deeper (envOfC x (defScope st) s.heap.objs.size f cdv)) →
      PSs (cxOf CX0 P w g.K mg base N x (defScope st) f cdv A outer s H E).nox (defBody st) (sD ⟨g, r, a, ns⟩ E wb))
    (hp : ∀ ds R, f0 ds R → wb { nx := fun _ => R .none, rt := R } (startD N ds)) : C8.Cal P w g.K mg base (k + 1) x (spD g f0) [] := by
  obtain ⟨its, hv, hbn⟩ := b
  refine ⟨f, fd, ps, its, Fn.ok S (fun vs H Q E h => ?_) (fun cdv A outer s H vs Q E hr h => ?_), mgf, Fn.kp, hbn, hv⟩
  · obtain ⟨c, F, ds, R, _, _, rv, h, _⟩ := h
    rw [rv.length]; exact hlen ds R h
  · obtain ⟨⟨g', r, a, ns⟩, F, ds, R, hg, W, rv, h, P'⟩ := h
    have hg' : g' = g := hg
    subst hg'
    refine ⟨_, (hb cdv A outer s H E r a ns hr).nox, startD N ds, F, H, F, _, Ext.refl W, rep_start rv, hp ds R h, ?_⟩
    exact ⟨fun e σ H' F' q x S' => P' _ _ H' F' q x .non, fun d v H' F' q x rv => P' d v H' F' q x rv, fun _ _ _ _ _ z => z.elim, fun _ _ _ _ z => z.elim, fun _ _ _ _ z => z.elim, fun _ _ _ z => z.elim, fun _ z => z.elim, fun _ _ _ _ z => z.elim, fun z => nomatch z⟩
end
/-! ### enumerate over a list -/
section
variable {c : Amb} {H F : Hp} {σ : L2.St}
theorem yields_enumL {a : Addr} {vs : List V} {xs : List D} (h : F a = some (.lst vs)) (k : RpAll c.K F vs xs) : Yields c (Ite c.K a) F (enumD xs) where
  go := fun i H G hi W s => by
    rw [enumD_length, ← dpAll_length k] at hi
    exact ⟨vs, vs[i], SqL.of (W.sub _ _ (s _ _ h)), List.getElem?_eq_getElem hi⟩
  yld := fun i d H G x H' hd W s ⟨T, y, ex, hT, eH, z⟩ => by
    subst ex
    subst eH
    obtain ⟨u, hu, rfl⟩ := enumD_get hd
    obtain ⟨d', h1, h2⟩ := dpAll_get k (z vs (SqL.of (W.sub _ _ (s _ _ h))))
    rw [hu] at h1
    cases h1
    exact ⟨_, Ext.laid W _ hT, repTup upd_same (dpAll_same (upd_keep (W.newF hT)) _ _ (.cons (.int _) (.cons (dp_same s _ _ h2) .nil)))⟩
  stop := fun H G W s => ⟨vs, SqL.of (W.sub _ _ (s _ _ h)), by rw [enumD_length]; exact Nat.le_of_eq (dpAll_length k)⟩
@[simp] def iEnmL (w : WA) : WA := fun e R => w e fun ds => ∃ xs, ds = [.list xs] ∧ R (enumD xs)
theorem xi_enumL {w : WA} : ∀ σ H R, tI c (iEnmL w) σ H R → iEnum c.K (tA c w) σ H R := fun σ H R ⟨e, F, H0, Rd, W, S, q, P⟩ =>
  ⟨e, F, H0, _, W, S, q, fun ds vs H' F' ⟨xs, hd, r⟩ x rv => by
    subst hd
    obtain ⟨v, rfl, r1⟩ := reps1 rv
    obtain ⟨a, us, rfl, h1, h2⟩ := r1.list_inv
    exact ⟨a, us, rfl, SqL.of (x.ok.sub _ _ h1), P _ _ H' F' r x (yields_enumL h1 h2)⟩⟩
end
/-! ### told[1].append(e); told[1].reverse() -/
section
variable {c : Amb} {E : XK} {H F H0 F0 : Hp} {σ : L2.St}
theorem sqT_upd {K : PySem.W.Frag} {a p : Addr} {xs us ws : List V} (h : SqT K H a xs) (hp : H p = some (.lst us)) : SqT K (upd H p (.lst ws)) a xs := by
  rcases h with (h | ⟨o, h⟩) | h
  · exact .inl (.inl (by rw [upd_ne (fun z => by rw [z, hp] at h; cases h)]; exact h))
  · exact .inl (.inr ⟨o, by rw [upd_ne (fun z => by rw [z, hp] at h; cases h)]; exact h⟩)
  · exact .inr h
@[simp] def dSmash1R (i : Nat) (w : W) (wr : WS) : WS := fun De e => ∃ Fb d0 ds, e[i]? = some (.fix true Fb (.tuple [d0, .list ds])) ∧ De.base Fb ∧ allPin Fb e ∧ ds.length < 1000000 ∧ w e fun d => d ≠ .dict [] ∧ wr De (unpin e)
theorem xs_smash1R {i : Nat} {w : W} {wr : WS} : ∀ Dn σ H, sD c E (dSmash1R i w wr) Dn σ H → tSeq (tDrop (tBM c.K "list" rAppend (tOp (fun x y H Q => rIxL c.K x y H Q ∨ rIxT c.K x y H Q) (tVar i) (tC (.int 1))) (tCons (tD c w) tNil)))
    (tSeq (tDrop (tBM0 c.K "list" rReverse (tOp (fun x y H Q => rIxL c.K x y H Q ∨ rIxT c.K x y H Q) (tVar i) (tC (.int 1))))) (sD c E wr)) Dn σ H := fun Dn σ H ⟨e, F, H0, F0, De, x, S, ⟨Fb, d0, ds, hi, hb, hp, hl, q⟩, K⟩ => by
  obtain ⟨sb, v, h1, h2⟩ := S.fix i true Fb _ hi
  obtain ⟨a, vs, rfl, h3, h4⟩ := h2.tup_inv
  obtain ⟨v0, v1, rfl, g0, g1⟩ : ∃ v0 v1, vs = [v0, v1] ∧ Rp c.K (cutF F Fb) v0 d0 ∧ Rp c.K (cutF F Fb) v1 (.list ds) := by
    cases h4 with
    | cons a1 a2 => cases a2 with
      | cons b1 b2 => cases b2; exact ⟨_, _, rfl, a1, b1⟩
  obtain ⟨p, us, rfl, g2, g3⟩ := (show RepV c (cutF F Fb) v1 (.list ds) from .inl g1).list_inv
  obtain ⟨g4, g5⟩ := cutF_new g2
  have hH := x.ok.sub _ _ g4
  refine ⟨.ref a, h1, .inr ⟨a, _, 1, .ref p, rfl, rfl, same_t (Same.trans cutF_sub x.ok.sub) h3, atI_1, ?_⟩⟩
  refine .inl ⟨rfl, us, SqL.of hH⟩ |> fun z => ⟨z, e, F, H0, _, x.ok, S, q, fun d v H1 F1 ⟨hd, r⟩ x1 rv => ?_⟩
  have k1 := x1.grow _ _ g4
  have k2 := x1.ok.sub _ _ k1
  refine ⟨p, us, v, rfl, rfl, k2, len_lt (by rw [dpAll_length g3]; exact hl), ?_⟩
  refine ⟨.ref a, h1, .inr ⟨a, _, 1, .ref p, rfl, rfl, sqT_upd (same_t (Same.trans (Same.trans cutF_sub x1.grow) x1.ok.sub) h3) k2, atI_1, .inl ⟨rfl, _, SqL.of upd_same⟩, p, _, rfl, rfl, upd_same, ?_⟩⟩
  refine ⟨unpin e, Fb, H0, F0, De, Ext.smash (x.trans x1) (sb.trans x1.grow) (K.base Fb hb) fun b o h => ?_, (S.ext x.ok x1).unpin hp _, r, K⟩
  by_cases z : b = p
  · subst z
    exact .inr ⟨⟨_, k1⟩, g5⟩
  · exact .inl (by rw [upd_ne z, upd_ne z]; exact h)
end
end FW
/-! FWC: expressions whose lists are new; a told list of lists that is changed, its items too. -/
namespace FW
open PySem PySem.Spec PyProof.Rows L2
section
variable (c : Amb)
/-- a datum whose lists are outside what was frozen ahead -/
def tF (w : W) : TE := fun σ H Q => ∃ e F H0 R, Wok c H F ∧ RepS c H0 σ H F e ∧ w e R ∧ ∀ d v H' F', R d → Ext c H F H' F' → RepV c (cutF F' F) v d → Q v H'
def tAF (w : WA) : TA := fun σ H Q => ∃ e F H0 R, Wok c H F ∧ RepS c H0 σ H F e ∧ w e R ∧ ∀ ds vs H' F', R ds → Ext c H F H' F' → RepVs c (cutF F' F) vs ds → Q vs H'
end
section
variable {c : Amb} {E : XK} {H F H' F' H1 F1 H2 F2 H0 F0 : Hp} {σ : L2.St} {e : Sg}
theorem cut_up (s : Same F F1) : Same (cutF F2 F1) (cutF F2 F) := cutF_grow (fun _ _ h => h) fun b h _ => by
  cases q : F b with
  | none => rfl
  | some o => rw [s b o q] at h; cases h
theorem cut_on (s : Same F1 F2) : Same (cutF F1 F) (cutF F2 F) := cutF_grow s fun _ h _ => h
@[simp] def dFlat (w : W) : W := fun e R => w e fun d => noListD d = true ∧ R d
theorem xf_flat {w : W} : ∀ σ H Q, tF c (dFlat w) σ H Q → tD c w σ H Q := fun σ H Q ⟨e, F, H0, R, W, S, q, P⟩ =>
  ⟨e, F, H0, _, W, S, q, fun d v H1 F1 ⟨nd, r⟩ x rv => P d v H1 F1 r x (.inl (rp_cut d v nd (rv.dp fun z => by rw [z] at nd; simp [noListD] at nd)))⟩
@[simp] def dFN (w : WA) : W := fun e R => w e fun ds => noListA ds = true ∧ R (.list ds)
theorem xf_N {w : WA} : ∀ σ H Q, tF c (dFN w) σ H Q → tN c w σ H Q := fun σ H Q ⟨e, F, H0, R, W, S, q, P⟩ =>
  ⟨e, F, H0, _, W, S, q, fun ds p vs H1 F1 ⟨nl, r⟩ x h0 h1 hF hr k => by
    have xf : Ext c H F H1 (upd F1 p (.lst vs)) := ⟨x.ok.freeze h1 hr (fun ps z => by cases z), fun b o e => upd_keep hF b o (x.grow b o e), x.keep, fun b hb hb' => by
      by_cases hp : b = p
      · rw [hp]; exact h0
      · rw [upd_ne hp] at hb'; exact x.new b hb hb', x.pre⟩
    refine P _ _ H1 _ r xf (.inl (.lst (cutF_some upd_same fun _ => W.newF h0) (rp_cutA ds vs nl (dpAll_same (upd_keep hF) _ _ k))))⟩
theorem xf_call {f : Fd} {w : WA} : ∀ σ H Q, tF c (dCall f w) σ H Q → tCall (spF c.g f) [] E0 (tA c w) σ H Q := fun σ H Q ⟨e, F, H0, R, W, S, q, P⟩ =>
  ⟨e, F, H0, _, W, S, q, fun ds vs H1 F1 q1 x1 r1 => ⟨c, F1, ds, R, rfl, x1.ok, by rw [List.append_nil]; exact r1, q1, fun d v H' F' r x rv => P d v H' F' r (x1.trans x) (rv.grow (cut_up x1.grow))⟩⟩
theorem xaf_nil : ∀ σ H Q, tAF c aNil σ H Q → tNil σ H Q := fun σ H Q ⟨e, F, H0, R, W, S, q, P⟩ => P [] [] H F q (Ext.refl W) .nil
theorem xaf_cons {w : W} {r : WA} : ∀ σ H Q, tAF c (aCons w r) σ H Q → tCons (tF c w) (tAF c r) σ H Q := fun σ H Q ⟨e, F, H0, R, W, S, q, P⟩ =>
  ⟨e, F, H0, _, W, S, q, fun d v H1 F1 q1 x1 r1 => ⟨e, F1, H0, _, x1.ok, S.ext W x1, q1, fun ds vs H2 F2 q2 x2 r2 => P _ _ H2 F2 q2 (x1.trans x2) (.cons (r1.grow (cut_on x2.grow)) (repVs_grow r2 (cut_up x1.grow)))⟩⟩
theorem xf_lst {w : WA} : ∀ σ H Q, tF c (dLst w) σ H Q → tLst (tAF c w) σ H Q := fun σ H Q ⟨e, F, H0, R, W, S, q, P⟩ =>
  ⟨e, F, H0, _, W, S, q, fun ds vs H1 F1 ⟨hl, hn, q1⟩ x1 r1 => ⟨by rw [r1.length]; exact len_le hl, fun p hp =>
    P _ _ _ _ q1 (x1.trans (Ext.laid x1.ok _ hp)) (.inl (.lst (cutF_some upd_same fun _ => W.newF (x1.free hp)) (repVs_dp (repVs_grow r1 (cut_on (upd_keep (x1.ok.newF hp)))) hn)))⟩⟩
theorem xf_tup {w : WA} : ∀ σ H Q, tF c (dTup w) σ H Q → tTup (tAF c w) σ H Q := fun σ H Q ⟨e, F, H0, R, W, S, q, P⟩ =>
  ⟨e, F, H0, _, W, S, q, fun ds vs H1 F1 ⟨hl, hn, q1⟩ x1 r1 => ⟨by rw [r1.length]; exact len_le hl, fun p hp =>
    P _ _ _ _ q1 (x1.trans (Ext.laid x1.ok _ hp)) (.inl (.tup (SqT.of (cutF_some upd_same fun ⟨_, z⟩ => by cases z)) (repVs_dp (repVs_grow r1 (cut_on (upd_keep (x1.ok.newF hp)))) hn)))⟩⟩
/-- x or y -/
@[simp] def dOrF (a b : W) : W := fun e R => a e fun d => (∀ x, d ≠ .str x) ∧ d ≠ .dict [] ∧ if tru d = true then R d else b e R
theorem tru_v {K : PySem.W.Frag} (s : Same F H) {v : V} {d : D} (h : Rp K F v d) (n1 : ∀ x, d ≠ .str x) : TruV K v H (tru d) := by
  cases h with
  | non => exact rfl
  | bl b => exact rfl
  | int i => exact rfl
  | str x => exact absurd rfl (n1 x)
  | lst hs ha => exact .inl ⟨_, SqL.of (s _ _ hs), by show (!_) = (!_); rw [isEmpty_len (dpAll_length ha)]⟩
  | tup hs ha => exact .inr (.inl ⟨_, same_t s hs, by show (!_) = (!_); rw [isEmpty_len (dpAll_length ha)]⟩)
  | dic h0 h1 h2 => exact .inr (.inr ⟨_, s _ _ h2, (dicV_ne h0).symm⟩)
theorem xf_or {a b : W} : ∀ σ H Q, tF c (dOrF a b) σ H Q → tOrT c.K (tF c a) (tF c b) σ H Q := fun σ H Q ⟨e, F, H0, R, W, S, q, P⟩ =>
  ⟨e, F, H0, _, W, S, q, fun d v H1 F1 ⟨n1, n2, r⟩ x rv => ⟨tru d, tru_v (Same.trans cutF_sub x.ok.sub) (rv.dp n2) n1, by
    cases z : tru d with
    | true =>
      rw [z] at r
      exact P d v H1 F1 (by simpa using r) x rv
    | false =>
      rw [z] at r
      have r : b e R := by simpa using r
      exact ⟨e, F1, H0, R, x.ok, S.ext W x, r, fun d2 v2 H2 F2 r2 x2 rv2 => P d2 v2 H2 F2 r2 (x.trans x2) (rv2.grow (cut_up x.grow))⟩⟩⟩
/-- list(x) -/
@[simp] def dListF (w : W) : W := fun e R => w e fun d => ∃ xs, IsSeq d xs ∧ R (.list xs)
theorem xf_list {w : W} : ∀ σ H Q, tF c (dListF w) σ H Q → tCB (fun xs H Q => ∃ p ys, xs = [.ref p] ∧ (SqL c.K H p ys ∨ SqT c.K H p ys) ∧ ∀ l, H l = none → Q (.ref l) (upd H l (.lst ys))) (tCons (tF c w) tNil) σ H Q := fun σ H Q ⟨e, F, H0, R, W, S, q, P⟩ =>
  ⟨e, F, H0, _, W, S, q, fun d v H1 F1 ⟨xs, hs, r⟩ x rv => by
    obtain ⟨a, ws, rfl, h1, h2⟩ := seq_inv hs rv (Same.trans cutF_sub x.ok.sub)
    exact ⟨a, ws, rfl, h1, fun l hl => P _ _ _ _ r (x.trans (Ext.laid x.ok _ hl)) (.inl (.lst (cutF_some upd_same fun _ => W.newF (x.free hl)) (dpAll_same (cut_on (upd_keep (x.ok.newF hl))) _ _ h2)))⟩⟩
/-- return of such a datum -/
@[simp] def dRetF (w : W) : WS := fun De e => w e De.rf
theorem xs_retF {w : W} : ∀ Dn σ H, sD c E (dRetF w) Dn σ H → tRet (tF c w) Dn σ H := fun Dn σ H ⟨e, F, H0, F0, De, x, S, q, K⟩ =>
  ⟨e, F, H0, _, x.ok, S, q, fun d v H' F' r x' rv => K.rf d v H' F' r (x.trans x') (rv.grow (cut_up x.grow))⟩
end
/-! ### for one in told: if isinstance(one, list): one.append(i); one.reverse() .. told.append(i); told.reverse() -/
/-- no list is a tuple of the module -/
def NoMix (K : PySem.W.Frag) (H : Hp) : Prop := ∀ a vs xs, H a = some (.lst vs) → SqT K H a xs → False
theorem pss_mix {X : Cx} {sts : List Stmt} {t : TS} (h : PSs X sts t) : PSs X sts (fun D σ H => NoMix X.K H → t D σ H) := ⟨fun pins s σ H D I q => h.run pins s σ H D I (q fun a vs xs h1 h2 => by
  obtain ⟨its, r, ⟨o, n, ho, hc, _⟩, _⟩ := I.list (SqL.of h1)
  obtain ⟨its', r', ⟨o', ho', hc', _⟩, _⟩ := I.tuple h2
  rw [ho] at ho'
  cases ho'
  rw [hc] at hc'
  exact absurd (Value.type.inj hc') (by decide))⟩
section
variable {c : Amb} {E : XK} {H F H0 F0 : Hp} {σ : L2.St} {e : Sg}
/-- without the new lists -/
def oldF (F Fb : Hp) : Hp := fun b => match F b with
  | some (.lst vs) => (match Fb b with
    | none => none
    | some _ => some (.lst vs))
  | o => o
theorem oldF_some {F Fb : Hp} {b : Addr} {o : HO} (h : F b = some o) (k : (∃ vs, o = .lst vs) → Fb b ≠ none) : oldF F Fb b = some o := by
  unfold oldF
  rw [h]
  cases o with
  | lst vs =>
    show (match Fb b with | none => none | some _ => some (HO.lst vs)) = _
    cases q : Fb b with
    | none => exact absurd q (k ⟨vs, rfl⟩)
    | some _ => rfl
  | _ => rfl
theorem oldF_sub {F Fb : Hp} : Same (oldF F Fb) F := fun b o h => by
  unfold oldF at h
  split at h
  · rename_i vs e
    split at h
    · cases h
    · rw [e]; exact h
  · exact h
theorem oldF_not {F Fb : Hp} {b : Addr} {us : List V} (h : F b = some (.lst us)) (k : Fb b = none) : oldF F Fb b = none := by
  unfold oldF
  rw [h]
  show (match Fb b with | none => none | some _ => some (HO.lst us)) = _
  rw [k]
mutual
theorem rp_old {K : PySem.W.Frag} {F Fb : Hp} : ∀ (d : D) (v : V), noListD d = true → Rp K (cutF F Fb) v d → Rp K (oldF F Fb) v d
  | .none, _, _, h => by cases h; exact .non
  | .bool b, _, _, h => by cases h; exact .bl b
  | .int i, _, _, h => by cases h; exact .int i
  | .str x, _, _, h => by cases h; exact .str x
  | .list ds, _, n, _ => by simp [noListD] at n
  | .dict ds, _, n, _ => by simp [noListD] at n
  | .tuple ds, _, n, h => by
    cases h with
    | tup hs ha =>
      have n : noListA ds = true := by simpa [noListD] using n
      refine .tup ?_ (rp_oldA ds _ n ha)
      rcases hs with (hs | ⟨o, hs⟩) | hs
      · exact .inl (.inl (oldF_some (cutF_sub _ _ hs) fun ⟨vs, e⟩ => by cases e))
      · exact .inl (.inr ⟨o, oldF_some (cutF_sub _ _ hs) fun ⟨vs, e⟩ => by cases e⟩)
      · exact .inr hs
theorem rp_oldA {K : PySem.W.Frag} {F Fb : Hp} : ∀ (ds : List D) (vs : List V), noListA ds = true → RpAll K (cutF F Fb) vs ds → RpAll K (oldF F Fb) vs ds
  | [], _, _, h => by cases h; exact .nil
  | d :: ds, _, n, h => by
    cases h with
    | cons h1 h2 =>
      have n : (noListD d && noListA ds) = true := n
      rw [Bool.and_eq_true] at n
      exact .cons (rp_old d _ n.1 h1) (rp_oldA ds _ n.2 h2)
end
theorem noList_get : ∀ {ds : List D} {i : Nat} {d : D}, noListA ds = true → ds[i]? = some d → noListD d = true
  | [], _, _, _, h => by simp at h
  | x :: xs, 0, d, n, h => by
    have n : (noListD x && noListA xs) = true := n
    rw [Bool.and_eq_true] at n
    simp at h
    rw [← h]; exact n.1
  | x :: xs, i + 1, d, n, h => by
    have n : (noListD x && noListA xs) = true := n
    rw [Bool.and_eq_true] at n
    exact noList_get n.2 (by simpa using h)
/-- flat, or a list of what is flat -/
def TwoD (d : D) : Prop := noListD d = true ∨ ∃ es, d = .list es ∧ noListA es = true ∧ es.length ≤ 1000
@[simp] def dSmashAll (i j : Nat) (wr : WS) : WS := fun De e => ∃ Fb ds, e[i]? = some (.fix true Fb (.list ds)) ∧ i ≠ j ∧ De.base Fb ∧ allPin Fb (e.set j .un) ∧ ds.length ≤ 1000 ∧ (∀ d ∈ ds, TwoD d) ∧ j < e.length ∧ wr De (unpin (e.set j .un))
theorem xs_smashAll {i j : Nat} {n1 n2 : Int} {wr : WS} : ∀ Dn σ H, sD c E (dSmashAll i j wr) Dn σ H → NoMix c.K H →
    tSeq (tFor (iList c.K (tVar i)) (gName j) (tIfS (fun σ H Q => tCB (rIsi c.K) (tCons (tVar j) (tCons (tC (.ty "list")) tNil)) σ H fun x H' => ∃ k, TruV c.K x H' k ∧ Q k H')
        (tSeq (tDrop (tBM c.K "list" rAppend (tVar j) (tCons (tC (.int n1)) tNil))) (tDrop (tBM0 c.K "list" rReverse (tVar j)))) tNext))
      (tSeq (tDrop (tBM c.K "list" rAppend (tVar i) (tCons (tC (.int n2)) tNil))) (tSeq (tDrop (tBM0 c.K "list" rReverse (tVar i))) (sD c E wr))) Dn σ H := fun Dn σ H ⟨e, F, H0, F0, De, x, S, ⟨Fb, ds, hi, hij, hb, hp, hl, ht, hj, q⟩, K⟩ mix => by
  obtain ⟨sb, v, h1, h2⟩ := S.fix i true Fb _ hi
  obtain ⟨a, vs, rfl, h3, h4⟩ := h2.list_inv
  obtain ⟨g4, g5⟩ := cutF_new h3
  have hH := x.ok.sub _ _ g4
  have lv := dpAll_length h4
  have hjσ : j < σ.length := by rw [S.len]; exact hj
  -- what stands while the items are changed
  refine ⟨.ref a, h1, a, rfl, ⟨vs, SqL.of hH⟩, fun k m σ' H' => m = ds.length - k ∧ k ≤ ds.length ∧ (∃ o, σ' = σ.set j o) ∧ ∀ b o, H b = some o → H' b = some o ∨ ((∃ us ws, F b = some (.lst us) ∧ H' b = some (.lst ws) ∧ ws.length ≤ us.length + k) ∧ Fb b = none ∧ b ≠ a ∧ ∃ us, F b = some (.lst us) ∧ us.length ≤ 1000), ⟨_, rfl, Nat.zero_le _, ?_, fun b o h => .inl h⟩, ?_⟩
  · cases z : σ[j]? with
    | none => rw [List.getElem?_eq_none_iff] at z; omega
    | some o =>
      obtain ⟨hlt, e1⟩ := List.getElem?_eq_some_iff.mp z
      exact ⟨o, by rw [← e1]; exact (List.set_getElem_self hlt).symm⟩
  rintro k m σ' H' ⟨rfl, hk, ⟨o, rfl⟩, kp⟩
  have ha' : H' a = some (.lst vs) := by
    rcases kp a _ hH with z | ⟨_, _, z, _⟩
    · exact z
    · exact absurd rfl z
  have hi' : (σ.set j o)[i]? = some (some (.ref a)) := by rw [List.getElem?_set_ne (fun z => hij z.symm)]; exact h1
  by_cases hlt : k < ds.length
  · refine .inr ⟨⟨vs, vs[k]'(by omega), SqL.of ha', List.getElem?_eq_getElem _⟩, fun σ2 H2 => (∃ o, σ2 = σ.set j o) ∧ ∀ b o, H b = some o → H2 b = some o ∨ ((∃ us ws, F b = some (.lst us) ∧ H2 b = some (.lst ws) ∧ ws.length ≤ us.length + (k + 1)) ∧ Fb b = none ∧ b ≠ a ∧ ∃ us, F b = some (.lst us) ∧ us.length ≤ 1000), fun σ2 H2 z => ⟨ds.length - (k + 1), by omega, rfl, hlt, z⟩, ?_⟩
    rintro w H2 ⟨e2, y⟩
    subst e2
    have hw := y vs (SqL.of ha')
    obtain ⟨d, hd, rd⟩ := dpAll_get h4 hw
    have hdm := List.mem_of_getElem? hd
    have e3 : (σ.set j o).set j (some w) = σ.set j (some w) := List.set_set ..
    unfold gName
    rw [e3]
    have hjw : (σ.set j (some w))[j]? = some (some w) := List.getElem?_set_self hjσ
    have stay : ∀ b o, H b = some o → H2 b = some o ∨ ((∃ us ws, F b = some (.lst us) ∧ H2 b = some (.lst ws) ∧ ws.length ≤ us.length + (k + 1)) ∧ Fb b = none ∧ b ≠ a ∧ ∃ us, F b = some (.lst us) ∧ us.length ≤ 1000) := fun b o h => by
      rcases kp b o h with z | ⟨⟨us, ws, z1, z2, z3⟩, z4⟩
      · exact .inl z
      · exact .inr ⟨⟨us, ws, z1, z2, by omega⟩, z4⟩
    rcases ht d hdm with nd | ⟨es, rfl, nes, les⟩
    · -- flat: no list
      have ty : TyX c.K H2 w (.type (tyN d)) := by
        refine (ty_rp (F := oldF F Fb) (fun b u hu => ?_) (rp_old d w nd rd)).1
        have hFu := oldF_sub _ _ hu
        rcases kp b u (x.ok.sub _ _ hFu) with z | ⟨⟨us, ws, z1, z2, z3⟩, z4, _⟩
        · exact z
        · rw [oldF_not z1 z4] at hu; cases hu
      refine ⟨w, hjw, w, .ty "list", _, _, _, rfl, .ty "list", ty, kit_d trivial (by decide), false, ?_, ?_⟩
      · have : isN (tyN d) "list" = false := by
          cases d <;> first | rfl | (simp [noListD] at nd)
        rw [this]; exact rfl
      · exact ⟨⟨_, rfl⟩, stay⟩
    · -- a list that is new
      obtain ⟨p, us, rfl, g6, g7⟩ := (show RepV c (cutF F Fb) w (.list es) from .inl rd).list_inv
      obtain ⟨g8, g9⟩ := cutF_new g6
      have lu := dpAll_length g7
      have pa : p ≠ a := fun z => by
        subst z
        have eu : us = vs := by
          have := g8.symm.trans g4
          cases this
          rfl
        subst eu
        obtain ⟨d', hd', rd'⟩ := dpAll_get g7 hw
        have nd' := noList_get nes hd'
        cases rd' with
        | lst _ _ => simp [noListD] at nd'
        | dic _ _ _ => simp [noListD] at nd'
        | tup hs _ => exact mix _ _ _ hH (same_t (Same.trans cutF_sub x.ok.sub) hs)
      obtain ⟨ws, hws, lws⟩ : ∃ ws, H2 p = some (.lst ws) ∧ ws.length ≤ us.length + k := by
        rcases kp p _ (x.ok.sub _ _ g8) with z | ⟨⟨us', ws, z1, z2, z3⟩, _⟩
        · exact ⟨us, z, by omega⟩
        · rw [g8] at z1
          cases z1
          exact ⟨ws, z2, z3⟩
      refine ⟨.ref p, hjw, .ref p, .ty "list", _, _, _, rfl, .ty "list", .base (.lst hws), kit_d (d := .list es) trivial (by decide), true, rfl, ?_⟩
      refine ⟨.ref p, hjw, .inl ⟨rfl, ws, SqL.of hws⟩, p, ws, .int n1, rfl, rfl, hws, len_lt (by omega), ?_⟩
      refine ⟨.ref p, hjw, .inl ⟨rfl, _, SqL.of upd_same⟩, p, _, rfl, rfl, upd_same, ⟨_, rfl⟩, fun b u h => ?_⟩
      by_cases z : b = p
      · subst z
        exact .inr ⟨⟨us, _, g8, upd_same, by simp; omega⟩, g9, pa, us, g8, by omega⟩
      · rw [upd_ne z, upd_ne z]
        exact stay b u h
  · have he : k = ds.length := by omega
    subst he
    refine .inl ⟨⟨vs, SqL.of ha', by omega⟩, ?_⟩
    refine ⟨.ref a, hi', .inl ⟨rfl, vs, SqL.of ha'⟩, a, vs, .int n2, rfl, rfl, ha', len_lt (by omega), ?_⟩
    refine ⟨.ref a, hi', .inl ⟨rfl, _, SqL.of upd_same⟩, a, _, rfl, rfl, upd_same, ?_⟩
    refine ⟨unpin (e.set j .un), Fb, H0, F0, De, Ext.smash x sb (K.base Fb hb) fun b u h => ?_, (S.set_un j o).unpin hp _, q, K⟩
    by_cases z : b = a
    · subst z
      exact .inr ⟨⟨_, g4⟩, g5⟩
    · rw [upd_ne z, upd_ne z]
      rcases kp b u h with y | ⟨⟨us, ws, z1, z2, z3⟩, z4, _⟩
      · exact .inl y
      · exact .inr ⟨⟨us, z1⟩, z4⟩
end
end FW
namespace FW
open PySem PySem.Spec PyProof.Rows L2
def top (i : Nat) : Stmt := PySem.Challenge.pw_fretways_k14_asked_again.main.body.getD i (.Pass ⟨0, 0, 0, 0⟩)
abbrev s_all_within : Stmt := top 19
abbrev s_rises : Stmt := top 20
abbrev s_is_place : Stmt := top 21
abbrev s_check_neck : Stmt := top 22
abbrev s_check_shape : Stmt := top 23
abbrev s_check_hand : Stmt := top 24
abbrev s_check_reach : Stmt := top 25
abbrev s_check_chord : Stmt := top 26
abbrev s_check_chords : Stmt := top 27
abbrev s_check_tune : Stmt := top 28
abbrev s_notes : Stmt := top 30
abbrev s_missing : Stmt := top 31
abbrev s_places : Stmt := top 32
abbrev s_written : Stmt := top 35
abbrev s_read : Stmt := top 36
abbrev s_meanings : Stmt := top 37
abbrev s_ways : Stmt := top 39
abbrev s_sounded : Stmt := top 40
abbrev s_slid : Stmt := top 41
abbrev s_placed : Stmt := top 42
abbrev s_is_pressed : Stmt := top 43
abbrev s_fits : Stmt := top 44
abbrev s_moved : Stmt := top 45
abbrev s_played : Stmt := top 48
abbrev s_table : Stmt := top 49
abbrev s_movement : Stmt := top 50
abbrev s_positions : Stmt := top 51
abbrev s_place_from : Stmt := top 52
abbrev s_next_row : Stmt := top 53
abbrev s_arrival : Stmt := top 54
abbrev s_walk : Stmt := top 55
abbrev s_retuned : Stmt := top 59
abbrev s_check_retunable : Stmt := top 60
abbrev s_retunings : Stmt := top 61
abbrev s_rank : Stmt := top 62
abbrev s_tuned : Stmt := top 63
abbrev s_first_without_way : Stmt := top 64
abbrev s_law_taken : Stmt := top 66
abbrev s_law_alike : Stmt := top 67
abbrev s_law_neck : Stmt := top 68
abbrev s_law_places : Stmt := top 69
abbrev s_law_shape : Stmt := top 70
abbrev s_law_hand : Stmt := top 71
abbrev s_law_sounds : Stmt := top 72
abbrev s_law_laid : Stmt := top 73
abbrev s_law_ways : Stmt := top 74
abbrev s_law_chord : Stmt := top 75
abbrev s_law_positions : Stmt := top 76
abbrev s_law_plays : Stmt := top 77
abbrev s_law_can : Stmt := top 78
abbrev s_law_tune : Stmt := top 79
abbrev s_law_asked : Stmt := top 80
abbrev s_law_copied : Stmt := top 81
abbrev s_law : Stmt := top 82
structure Txt (mg : Str → Option Value) : Prop where
  m_all : mg "all" = none
  m_len : mg "len" = none
  m_range : mg "range" = none
  m_sorted : mg "sorted" = none
  m_set : mg "set" = none
  m_tuple : mg "tuple" = none
  m_list : mg "list" = none
  m_zip : mg "zip" = none
  m_enumerate : mg "enumerate" = none
  m_min : mg "min" = none
  m_max : mg "max" = none
  m_isinstance : mg "isinstance" = none
  m_int : mg "int" = none
  m_str : mg "str" = none
  m_bool : mg "bool" = none
  m_sum : mg "sum" = none
  m_abs : mg "abs" = none
  m_reversed : mg "reversed" = none
  m_ValueError : mg "ValueError" = none
  c_SILENT : ∃ t, mg "SILENT" = some (.int (-1) t)
  c_MOST_STRINGS : ∃ t, mg "MOST_STRINGS" = some (.int (6) t)
  c_HIGHEST_TUNING : ∃ t, mg "HIGHEST_TUNING" = some (.int (60) t)
  c_MOST_FRETS : ∃ t, mg "MOST_FRETS" = some (.int (20) t)
  c_MOST_OF_HAND : ∃ t, mg "MOST_OF_HAND" = some (.int (6) t)
  c_MOST_NOTES : ∃ t, mg "MOST_NOTES" = some (.int (6) t)
  c_HIGHEST_NOTE : ∃ t, mg "HIGHEST_NOTE" = some (.int (80) t)
  c_MOST_CHORDS : ∃ t, mg "MOST_CHORDS" = some (.int (6) t)
  c_LONGEST_TUNE : ∃ t, mg "LONGEST_TUNE" = some (.int (30) t)
  c_CANNOT : ∃ t, mg "CANNOT" = some (.int (-1) t)
  c_MOST_RETUNED : ∃ t, mg "MOST_RETUNED" = some (.int (4) t)
  c_FARTHEST : ∃ t, mg "FARTHEST" = some (.int (2) t)
  c_SILENT_WORD : ∃ t, mg "SILENT_WORD" = some (.str "x" t)
  ok_ : True
/-! ### the data of the program -/
def intsD (l : List Int) : D := .tuple (l.map PyData.int)
def neckD (t : List Int) (f c : Int) : D := .tuple [intsD t, .int f, .int c]
structure OkNeck (t : List Int) (f c : Int) : Prop where
  l1 : 1 ≤ t.length
  l2 : t.length ≤ 6
  n : ∀ x ∈ t, 0 ≤ x ∧ x ≤ 60
  f0 : 0 ≤ f
  f1 : f ≤ 20
  c0 : 0 ≤ c
  c1 : c ≤ f
structure OkShape (t : List Int) (f c : Int) (s : List Int) : Prop where
  len : s.length = t.length
  at_ : ∀ p ∈ s, p = -1 ∨ (c ≤ p ∧ p ≤ f)
@[simp] theorem shaped_intsD {l : List Int} : SeqAt.shaped (intsD l) = true := shaped_ints
@[simp] theorem eqv_intsD {l m : List Int} : PyData.eqv (intsD l) (intsD m) = decide (l = m) := eqv_ints
@[simp] theorem eqv_none_intsD {l : List Int} : PyData.eqv .none (intsD l) = false := rfl
@[simp] theorem eqv_intsD_none {l : List Int} : PyData.eqv (intsD l) .none = false := rfl
@[simp] theorem intsD_ne {l : List Int} : intsD l ≠ .dict [] := fun z => by cases z
@[simp] theorem intsD_str {l : List Int} {x : Str} : intsD l ≠ .str x := fun z => by cases z
@[simp] theorem seq_intsD {l : List Int} {xs : List D} : IsSeq (intsD l) xs ↔ xs = l.map PyData.int := isSeq_tup
@[simp] theorem intsD_inj {l m : List Int} : intsD l = intsD m ↔ l = m := by simp [intsD]
@[simp] theorem intsD_tup {l : List Int} {xs : List D} : intsD l = .tuple xs ↔ xs = l.map PyData.int := by
  constructor
  · intro h; cases h; rfl
  · intro h; rw [h]; rfl
@[simp] theorem neckD_inj {t t' : List Int} {f f' c c' : Int} : neckD t f c = neckD t' f' c' ↔ t = t' ∧ f = f' ∧ c = c' := by simp [neckD]
@[simp] theorem neckD_ne {t : List Int} {f c : Int} : neckD t f c ≠ .dict [] := fun z => by cases z
@[simp] theorem neck_1 {t : List Int} {f c : Int} {R : D → Prop} : rdIx (neckD t f c) (.int 1) R ↔ R (.int f) := by simp [neckD]
@[simp] theorem neck_2 {t : List Int} {f c : Int} {R : D → Prop} : rdIx (neckD t f c) (.int 2) R ↔ R (.int c) := by simp [neckD]
@[simp] theorem neck_0 {t : List Int} {f c : Int} {R : D → Prop} : rdIx (neckD t f c) (.int 0) R ↔ R (intsD t) := by simp [neckD]
@[simp] theorem seq_neckD {t : List Int} {f c : Int} {xs : List D} : IsSeq (neckD t f c) xs ↔ xs = [intsD t, .int f, .int c] := isSeq_tup
@[simp] theorem isNone_intsD {l : List Int} : isNone (intsD l) = false := rfl

/-! ### all_within -/
def allIn (lo hi : Int) (ns : List Int) : Bool := ns.all fun n => decide (lo ≤ n) && decide (n ≤ hi)
def f_all_within : Fd := fun ds R => ∃ d ns lo hi, ds = [d, .int lo, .int hi] ∧ IsSeq d (ns.map PyData.int) ∧ R (.bool (allIn lo hi ns))
theorem len_all_within : ∀ ds R, f_all_within ds R → ds.length = 3 := by
  rintro ds R ⟨d, ns, lo, hi, rfl, _⟩
  exact rfl
def W_all_within : WS := dRet (dAllW 1 2 (dVar 0))
theorem pure_all_within : ∀ ds R, f_all_within ds R → W_all_within { nx := fun _ => R .none, rt := R } (startD ["numbers", "least", "greatest"] ds) := by
  rintro ds R ⟨d, ns, lo, hi, rfl, hs, h⟩
  exact ⟨lo, hi, rfl, rfl, _, rfl, ns, hs, h⟩
theorem sc_all_within : FnScope ["numbers", "least", "greatest"] ["numbers", "least", "greatest"] (defScope s_all_within) := ⟨rfl, rfl, rfl, by decide +kernel, rfl, by decide +kernel, by decide +kernel⟩
/-- the scope of the generator expression -/
def genScope (s : Stmt) : Scope := match defBody s with
  | [.Return (some (.Call _ [.GeneratorExp _ _ sc _] _ _)) _] => sc
  | _ => { kind := .function, names := [], isGenerator := false, isCoroutine := false }
theorem clo_within (cells : List (Str × Addr)) : cloFrom cells (genScope s_all_within).names [] = ([("least", (cells.lookup ("least" : Str)).getD 0), ("greatest", (cells.lookup ("greatest" : Str)).getD 0)] : List (Str × Addr)) := rfl
section
variable {P : Program} {w : World} {g : Glb} {mg : Str → Option Value} {base : Heap}
theorem ok_all_within {fd : FuncData} (F : FunP g.K "all_within" s_all_within (He.fAd g.K ("all_within", none)) fd) (mgf : mg "all_within" = some (.ref (He.fAd g.K ("all_within", none)))) (T : Txt mg)
    (TB : GxR.TabB base mg (He.codeOf g.K ("all_within", none)) (He.tabOf g.K (He.codeOf g.K ("all_within", none)))) (hP : He.tabOf g.K (He.codeOf g.K ("all_within", none)) ∈ g.Ps) : C8.Cal P w g.K mg base 1 "all_within" (spD g f_all_within) [] := by
  refine calDc (N := ["numbers", "least", "greatest"]) (ps := ["numbers", "least", "greatest"]) (k := 0) (wb := W_all_within) F mgf (F.bindsN fun _ _ _ _ _ _ us hl => match us, hl with | [_, _, _], _ => rfl) sc_all_within len_all_within (fun cdv A outer s H E r a ns hcd hr => ?_) pure_all_within
  have key : ∀ y : Str, (defScope s_all_within).names.lookup y = some .cell → ∃ c, (cellsFrom (s.heap.objs.size + 1) (defScope s_all_within).names []).lookup y = some c := fun y h => cell_has h
  refine pssd_one (ps_w (ps_ret (pe_w (FWG.pe_all (Pre := fun σ => ∃ lo hi : Int, σ[1]? = some (some (V.int lo)) ∧ σ[2]? = some (some (V.int hi))) hr (by rfl) T.m_all (by decide +kernel) TB hcd ⟨rfl, rfl, by decide +kernel, rfl, rfl, fun y hy hf => ?_⟩ (pe_w (pv 0) xd_var) (fun pins σ H1 s1 hpre I1 => ?_) (fun _ => rfl)) (xd_allW hP))) xs_ret)
  · have all : ∀ y ∈ (genScope s_all_within).names, y.2 = NameKind.free → (defScope s_all_within).names.lookup y.1 = some .cell := by decide +kernel
    exact key _ (all y hy hf)
  · obtain ⟨lo, hi, h1, h2⟩ := hpre
    obtain ⟨m, hn, hl⟩ := I1.loc
    obtain ⟨u1, ⟨t1, r1⟩, l1⟩ := hl 1 "least" (.int lo) rfl h1 (.inr (.inl rfl))
    obtain ⟨u2, ⟨t2, r2⟩, l2⟩ := hl 2 "greatest" (.int hi) rfl h2 (.inr (.inl rfl))
    rcases l1 with ⟨z, _⟩ | ⟨_, c1, hc1, v1⟩
    · exact nomatch (show (some NameKind.cell : Option NameKind) = some .local from z)
    rcases l2 with ⟨z, _⟩ | ⟨_, c2, hc2, v2⟩
    · exact nomatch (show (some NameKind.cell : Option NameKind) = some .local from z)
    rw [r1] at v1
    rw [r2] at v2
    have ep : pbT 1 2 σ = fun n => decide (lo ≤ n) && decide (n ≤ hi) := by
      funext n
      unfold pbT
      rw [h1, h2]
    rw [ep]
    refine FWG.el_between (cl := c1) (ch := c2) rfl rfl rfl rfl ?_ ?_ v1 v2 (by decide) (by decide) (by decide) (by decide) (by decide)
    · show List.lookup _ (cloFrom _ (genScope s_all_within).names []) = _
      rw [clo_within, hc1]
      rfl
    · show List.lookup _ (cloFrom _ (genScope s_all_within).names []) = _
      rw [clo_within, hc2]
      rfl
end

/-! ### rises -/
def risesB (l : List Int) : Bool := (l.zip l.tail).all fun q => decide (q.1 < q.2)
def f_rises : Fd := fun ds R => ∃ l : List Int, ds = [intsD l] ∧ 1 ≤ l.length ∧ R (.bool (risesB l))
theorem len_rises : ∀ ds R, f_rises ds R → ds.length = 1 := by
  rintro ds R ⟨l, rfl, _⟩
  exact rfl
def W_rises : WS := dRet (dAllZ (aCons (dVar 0) (aCons (dSl (dVar 0) (oSome (dC (.int 1))) oNone .tuple) aNil)))
theorem pure_rises : ∀ ds R, f_rises ds R → W_rises { nx := fun _ => R .none, rt := R } (startD ["numbers"] ds) := by
  rintro ds R ⟨l, rfl, h1, h⟩
  have e : cutD (l.map PyData.int) (some 1) none = l.tail.map .int := by
    have := cut_from l (n := 0) h1
    simpa using this
  simp [W_rises, intsD, e]
  exact ⟨l, l.tail, ⟨rfl, by simp⟩, h⟩
theorem sc_rises : FnScope ["numbers"] ["numbers"] (defScope s_rises) := ⟨rfl, rfl, rfl, by decide +kernel, rfl, by decide +kernel, by decide +kernel⟩
section
variable {P : Program} {w : World} {g : Glb} {mg : Str → Option Value} {base : Heap}
theorem ok_rises {fd : FuncData} (F : FunP g.K "rises" s_rises (He.fAd g.K ("rises", none)) fd) (mgf : mg "rises" = some (.ref (He.fAd g.K ("rises", none)))) (T : Txt mg)
    (TB : GxR.TabB base mg (He.codeOf g.K ("rises", none)) (He.tabOf g.K (He.codeOf g.K ("rises", none)))) (hP : He.tabOf g.K (He.codeOf g.K ("rises", none)) ∈ g.Ps) : C8.Cal P w g.K mg base 1 "rises" (spD g f_rises) [] := by
  refine calDc (N := ["numbers"]) (ps := ["numbers"]) (k := 0) (wb := W_rises) F mgf (F.bindsN fun _ _ _ _ _ _ us hl => match us, hl with | [_], _ => rfl) sc_rises len_rises (fun cdv A outer s H E r a ns hcd hr => ?_) pure_rises
  have key : ∀ y : Str, (defScope s_rises).names.lookup y = some .cell → ∃ c, (cellsFrom (s.heap.objs.size + 1) (defScope s_rises).names []).lookup y = some c := fun y h => cell_has h
  refine pssd_one (ps_w (ps_ret (pe_w (FWJ.pe_allZ hr (by rfl) T.m_all (by decide +kernel) (by rfl) T.m_zip TB hcd ⟨rfl, rfl, by decide +kernel, rfl, rfl, rfl, by decide, fun y hy hf => ?_⟩
    (pa_w (pa_cons (pe_w (pv 0) xd_var) (pa_w (pa_cons (pe_w (pe_slice sl_tupA (pe_w (pv 0) xd_var) (po_w (po_some (pe_w pe_int (xd_c fun _ => .int))) xo_some) (po_w po_none xo_none)) xd_slT) (pa_w pa_nil xa_nil)) xa_cons)) xa_cons) (FWJ.el_less rfl rfl rfl (by decide) (by decide)) (fun _ => rfl)) (xd_allZ hP))) xs_ret)
  have all : ∀ y ∈ (genScope s_rises).names, y.2 = NameKind.free → (defScope s_rises).names.lookup y.1 = some .cell := by decide +kernel
  exact key _ (all y hy hf)
end

/-! ### is_place -/
def isPlace (f c p : Int) : Bool := decide (c ≤ p) && decide (p ≤ f)
def f_is_place : Fd := fun ds R => ∃ t f c p, ds = [neckD t f c, .int p] ∧ R (.bool (isPlace f c p))
theorem len_is_place : ∀ ds R, f_is_place ds R → ds.length = 2 := by
  rintro ds R ⟨t, f, c, p, rfl, _⟩; rfl
def W_is_place : WS := (dSeq (dUnp [2, 3, 4] (dVar 0)) (dRet (dChain rdLe rdLe (dVar 4) (dVar 1) (dVar 3))))
def N_is_place : List Str := ["neck", "fret", "_", "frets", "capo"]
theorem sc_is_place : FnScope ["neck", "fret", "_", "frets", "capo"] ["neck", "fret"] (defScope s_is_place) := ⟨rfl, rfl, rfl, by decide +kernel, rfl, by decide +kernel, by decide +kernel⟩
theorem pure_is_place : ∀ ds R, f_is_place ds R → W_is_place { nx := fun _ => R .none, rt := R } (startD ["neck", "fret", "_", "frets", "capo"] ds) := by
  rintro ds R ⟨t, f, c, p, rfl, h⟩
  refine ⟨_, rfl, _, rfl, rfl, ?_⟩
  refine ⟨_, rfl, _, rfl, _, _, rfl, rfl, _, rfl, ?_⟩
  unfold isPlace at h
  by_cases q : c ≤ p
  · rw [if_pos (decide_eq_true q)]
    refine ⟨_, rfl, _, _, rfl, rfl, ?_⟩
    simpa [q] using h
  · rw [if_neg (by simpa using q)]
    simpa [q] using h
section
variable {P : Program} {w : World} {g : Glb} {mg : Str → Option Value} {base : Heap}
theorem ok_is_place {f : Addr} {fd : FuncData} (F : FunP g.K "is_place" s_is_place f fd) (mgf : mg "is_place" = some (.ref f)) (T : Txt mg)  : C8.Cal P w g.K mg base 1 "is_place" (spD g f_is_place) [] :=
  calD (N := ["neck", "fret", "_", "frets", "capo"]) (ps := ["neck", "fret"]) (k := 0) (wb := W_is_place) F mgf (F.bindsN fun _ _ _ _ _ _ us hl => match us, hl with | [_, _], _ => rfl) sc_is_place len_is_place (fun cdv A outer s H E r a ns hr =>
    (pssd_cons (ps_w (ps_asg (pe_w (pv 0) xd_var) (pg_tup rfl (pgs_cons (pg_name (i := 2) sc_is_place.nd rfl (.inl rfl)) (pgs_cons (pg_name (i := 3) sc_is_place.nd rfl (.inl rfl)) (pgs_cons (pg_name (i := 4) sc_is_place.nd rfl (.inl rfl)) pgs_nil))))) (xs_unp (is := [2, 3, 4]) rfl)) (pssd_one (ps_w (ps_ret (pe_w (pe_chain op_le op_le (pe_w (pv 4) xd_var) (pe_w (pv 1) xd_var) (pe_w (pv 3) xd_var)) (xd_chain od_le od_le))) xs_ret)))) pure_is_place
end

/-! ### check_neck -/
def f_check_neck : Fd := fun ds R => ∃ t f c, ds = [neckD t f c] ∧ OkNeck t f c ∧ R .none
theorem len_check_neck : ∀ ds R, f_check_neck ds R → ds.length = 1 := by
  rintro ds R ⟨t, f, c, rfl, _⟩; rfl
theorem allIn_ok {lo hi : Int} {l : List Int} (h : ∀ x ∈ l, lo ≤ x ∧ x ≤ hi) : allIn lo hi l = true := by
  unfold allIn
  rw [List.all_eq_true]
  intro x hx
  simp [h x hx]
def W_check_neck : WS := (dSeq (dUnp [1, 2, 3] (dVar 0)) (dSeq (dIfS (bNot (bB (dChain rdLe rdLe (dC (.int 1)) (dCall rdLen (aCons (dVar 1) aNil)) (dC (.int 6))))) dNever dNext) (dSeq (dIfS (bNot (bTru (dCall f_all_within (aCons (dVar 1) (aCons (dC (.int 0)) (aCons (dC (.int 60)) aNil)))))) dNever dNext) (dSeq (dIfS (bNot (bB (dChain rdLe rdLe (dC (.int 0)) (dVar 2) (dC (.int 20))))) dNever dNext) (dIfS (bNot (bB (dChain rdLe rdLe (dC (.int 0)) (dVar 3) (dVar 2)))) dNever dNext)))))
def N_check_neck : List Str := ["neck", "tuning", "frets", "capo"]
theorem sc_check_neck : FnScope ["neck", "tuning", "frets", "capo"] ["neck"] (defScope s_check_neck) := ⟨rfl, rfl, rfl, by decide +kernel, rfl, by decide +kernel, by decide +kernel⟩
theorem pure_check_neck : ∀ ds R, f_check_neck ds R → W_check_neck { nx := fun _ => R .none, rt := R } (startD ["neck", "tuning", "frets", "capo"] ds) := by
  rintro ds R ⟨t, f, c, rfl, ok, h⟩
  have l1 : (1 : Int) ≤ t.length := by have := ok.l1; omega
  have l2 : (t.length : Int) ≤ 6 := by have := ok.l2; omega
  have a := allIn_ok ok.n
  simp [W_check_neck, neckD, intsD, l1, l2, ok.f0, ok.f1, ok.c0, ok.c1, f_all_within, h]
  exact ⟨_, t, 0, 60, ⟨rfl, rfl, rfl⟩, by simp, a⟩
section
variable {P : Program} {w : World} {g : Glb} {mg : Str → Option Value} {base : Heap}
theorem ok_check_neck {f : Addr} {fd : FuncData} (F : FunP g.K "check_neck" s_check_neck f fd) (mgf : mg "check_neck" = some (.ref f)) (T : Txt mg) (C_all_within : C8.Cal P w g.K mg base 1 "all_within" (spD g f_all_within) []) : C8.Cal P w g.K mg base 2 "check_neck" (spD g f_check_neck) [] :=
  calD (N := ["neck", "tuning", "frets", "capo"]) (ps := ["neck"]) (k := 1) (wb := W_check_neck) F mgf (F.bindsN fun _ _ _ _ _ _ us hl => match us, hl with | [_], _ => rfl) sc_check_neck len_check_neck (fun cdv A outer s H E r a ns hr =>
    (pssd_cons (ps_w (ps_asg (pe_w (pv 0) xd_var) (pg_tup rfl (pgs_cons (pg_name (i := 1) sc_check_neck.nd rfl (.inl rfl)) (pgs_cons (pg_name (i := 2) sc_check_neck.nd rfl (.inl rfl)) (pgs_cons (pg_name (i := 3) sc_check_neck.nd rfl (.inl rfl)) pgs_nil))))) (xs_unp (is := [1, 2, 3]) rfl)) (pssd_cons (ps_w (ps_if (pt_w (pt_not (pt_w (pt_chain op_le op_le (pe_w pe_int (xd_c fun _ => .int)) (pe_w (pe_callB call_len_seq (by rfl) T.m_len PySem.boot_len (pa_w (pa_cons (pe_w (pv 1) xd_var) (pa_w pa_nil xa_nil)) xa_cons)) (xd_cb cd_len)) (pe_w (pe_gint (by rfl) T.c_MOST_STRINGS) (xd_c fun _ => .int))) (xt_chain od_le od_le))) xt_not) (pssd_one (ps_w ps_never xs_never)) pssd_nil) xs_if) (pssd_cons (ps_w (ps_if (pt_w (pt_not (pt_w (pt_truth (pe_w (C8.pe_c C_all_within hr (by decide) (by rfl) (pa_w (pa_cons (pe_w (pv 1) xd_var) (pa_w (pa_cons (pe_w pe_int (xd_c fun _ => .int)) (pa_w (pa_cons (pe_w (pe_gint (by rfl) T.c_HIGHEST_TUNING) (xd_c fun _ => .int)) (pa_w pa_nil xa_nil)) xa_cons)) xa_cons)) xa_cons)) xd_call) (by intro _; rfl)) xt_tru)) xt_not) (pssd_one (ps_w ps_never xs_never)) pssd_nil) xs_if) (pssd_cons (ps_w (ps_if (pt_w (pt_not (pt_w (pt_chain op_le op_le (pe_w pe_int (xd_c fun _ => .int)) (pe_w (pv 2) xd_var) (pe_w (pe_gint (by rfl) T.c_MOST_FRETS) (xd_c fun _ => .int))) (xt_chain od_le od_le))) xt_not) (pssd_one (ps_w ps_never xs_never)) pssd_nil) xs_if) (pssd_one (ps_w (ps_if (pt_w (pt_not (pt_w (pt_chain op_le op_le (pe_w pe_int (xd_c fun _ => .int)) (pe_w (pv 3) xd_var) (pe_w (pv 2) xd_var)) (xt_chain od_le od_le))) xt_not) (pssd_one (ps_w ps_never xs_never)) pssd_nil) xs_if))))))) pure_check_neck
end

/-! ### check_shape -/
def f_check_shape : Fd := fun ds R => ∃ t f c s, ds = [neckD t f c, intsD s] ∧ OkShape t f c s ∧ R .none
theorem len_check_shape : ∀ ds R, f_check_shape ds R → ds.length = 2 := by
  rintro ds R ⟨t, f, c, s, rfl, _⟩; rfl
theorem isPlace_ok {f c p : Int} (h : c ≤ p ∧ p ≤ f) : isPlace f c p = true := by simp [isPlace, h]
def W_check_shape : WS := (dSeq (dUnp [2, 3, 3] (dVar 0)) (dSeq (dIfS (bB (dOp rdNe (dCall rdLen (aCons (dVar 1) aNil)) (dCall rdLen (aCons (dVar 2) aNil)))) dNever dNext) (dFor (iTpl (dVar 1)) (tgN 4) (dIfS (bAnd (bB (dOp rdNe (dVar 4) (dC (.int (-1))))) (bNot (bTru (dCall f_is_place (aCons (dVar 0) (aCons (dVar 4) aNil)))))) dNever dNext))))
def N_check_shape : List Str := ["neck", "shape", "tuning", "_", "fret"]
theorem sc_check_shape : FnScope ["neck", "shape", "tuning", "_", "fret"] ["neck", "shape"] (defScope s_check_shape) := ⟨rfl, rfl, rfl, by decide +kernel, rfl, by decide +kernel, by decide +kernel⟩
theorem pure_check_shape : ∀ ds R, f_check_shape ds R → W_check_shape { nx := fun _ => R .none, rt := R } (startD ["neck", "shape", "tuning", "_", "fret"] ds) := by
  rintro ds R ⟨t, f, c, s, rfl, ok, h⟩
  simp [W_check_shape, neckD, intsD, ok.len]
  refine forRun_inv (fun ds e => ∃ l x, ds = l.map PyData.int ∧ (∀ p ∈ l, p = -1 ∨ (c ≤ p ∧ p ≤ f)) ∧ e = [Sl.val (neckD t f c), .val (intsD s), .val (intsD t), .val (.int c), x]) ?_ (fun _ _ => h) _ _ ⟨s, .un, rfl, ok.at_, rfl⟩
  rintro d ds e ⟨l, x, hl, hp, rfl⟩ k
  cases l with
  | nil => simp at hl
  | cons p l =>
    simp at hl
    obtain ⟨rfl, rfl⟩ := hl
    have k' := k _ ⟨l, .val (.int p), rfl, fun q hq => hp q (List.mem_cons_of_mem _ hq), rfl⟩
    by_cases q : p = -1
    · subst q; simpa using k'
    · have := isPlace_ok ((hp p List.mem_cons_self).resolve_left q)
      simp [q, f_is_place]
      exact ⟨t, f, c, p, by simp, by simpa [this] using k'⟩
section
variable {P : Program} {w : World} {g : Glb} {mg : Str → Option Value} {base : Heap}
theorem ok_check_shape {f : Addr} {fd : FuncData} (F : FunP g.K "check_shape" s_check_shape f fd) (mgf : mg "check_shape" = some (.ref f)) (T : Txt mg) (C_is_place : C8.Cal P w g.K mg base 1 "is_place" (spD g f_is_place) []) : C8.Cal P w g.K mg base 2 "check_shape" (spD g f_check_shape) [] :=
  calD (N := ["neck", "shape", "tuning", "_", "fret"]) (ps := ["neck", "shape"]) (k := 1) (wb := W_check_shape) F mgf (F.bindsN fun _ _ _ _ _ _ us hl => match us, hl with | [_, _], _ => rfl) sc_check_shape len_check_shape (fun cdv A outer s H E r a ns hr =>
    (pssd_cons (ps_w (ps_asg (pe_w (pv 0) xd_var) (pg_tup rfl (pgs_cons (pg_name (i := 2) sc_check_shape.nd rfl (.inl rfl)) (pgs_cons (pg_name (i := 3) sc_check_shape.nd rfl (.inl rfl)) (pgs_cons (pg_name (i := 3) sc_check_shape.nd rfl (.inl rfl)) pgs_nil))))) (xs_unp (is := [2, 3, 3]) rfl)) (pssd_cons (ps_w (ps_if (pt_w (pt_cmpR (op_neD hr.units) (pe_w (pe_callB call_len_seq (by rfl) T.m_len PySem.boot_len (pa_w (pa_cons (pe_w (pv 1) xd_var) (pa_w pa_nil xa_nil)) xa_cons)) (xd_cb cd_len)) (pe_w (pe_callB call_len_seq (by rfl) T.m_len PySem.boot_len (pa_w (pa_cons (pe_w (pv 2) xd_var) (pa_w pa_nil xa_nil)) xa_cons)) (xd_cb cd_len)) (nomark _)) (xt_cmp od_ne)) (pssd_one (ps_w ps_never xs_never)) pssd_nil) xs_if) (pssd_one (ps_w (ps_for (g := gName 4) PassesOwn.never rfl (pi_w (pi_tup (pe_w (pv 1) xd_var)) xi_tup) (pg_name (i := 4) sc_check_shape.nd rfl (.inl rfl)) (pssd_one (ps_w (ps_if (PW.pt (pw_w (pw_and (pt_w (pt_cmpR (op_neD hr.units) (pe_w (pv 4) xd_var) (pe_w (pe_gint (by rfl) T.c_SILENT) (xd_c fun _ => .int)) (nomark _)) (xt_cmp od_ne)) (pw_and1 (pt_w (pt_not (pt_w (pt_truth (pe_w (C8.pe_c C_is_place hr (by decide) (by rfl) (pa_w (pa_cons (pe_w (pv 0) xd_var) (pa_w (pa_cons (pe_w (pv 4) xd_var) (pa_w pa_nil xa_nil)) xa_cons)) xa_cons)) xd_call) (by intro _; rfl)) xt_tru)) xt_not))) xt_and)) (pssd_one (ps_w ps_never xs_never)) pssd_nil) xs_if))) (xs_for gd_name)))))) pure_check_shape
end

/-! ### check_hand -/
structure OkHand (h : List Int) : Prop where
  len : h.length = 2
  at_ : ∀ x ∈ h, 0 ≤ x ∧ x ≤ 6
def f_check_hand : Fd := fun ds R => ∃ h : List Int, ds = [intsD h] ∧ OkHand h ∧ R .none
theorem len_check_hand : ∀ ds R, f_check_hand ds R → ds.length = 1 := by
  rintro ds R ⟨h, rfl, _⟩; rfl
@[simp] theorem check_hand_iff {h : List Int} {R : D → Prop} : f_check_hand [intsD h] R ↔ OkHand h ∧ R .none := by
  constructor
  · rintro ⟨h', e, k⟩; simp at e; subst e; exact k
  · intro k; exact ⟨_, rfl, k⟩
def W_check_hand : WS := (dSeq (dIfS (bB (dOp rdNe (dCall rdLen (aCons (dVar 0) aNil)) (dC (.int 2)))) dNever dNext) (dIfS (bNot (bTru (dCall f_all_within (aCons (dVar 0) (aCons (dC (.int 0)) (aCons (dC (.int 6)) aNil)))))) dNever dNext))
def N_check_hand : List Str := ["hand"]
theorem sc_check_hand : FnScope ["hand"] ["hand"] (defScope s_check_hand) := ⟨rfl, rfl, rfl, by decide +kernel, rfl, by decide +kernel, by decide +kernel⟩
theorem pure_check_hand : ∀ ds R, f_check_hand ds R → W_check_hand { nx := fun _ => R .none, rt := R } (startD N_check_hand ds) := by
  rintro ds R ⟨h, rfl, ok, k⟩
  simp [W_check_hand, N_check_hand]
  have q' : (h.length : Int) = 2 := by have := ok.len; omega
  simp [q']
  exact ⟨intsD h, h, 0, 6, rfl, by simp, by simpa [allIn_ok ok.at_] using k⟩
section
variable {P : Program} {w : World} {g : Glb} {mg : Str → Option Value} {base : Heap}
theorem ok_check_hand {f : Addr} {fd : FuncData} (F : FunP g.K "check_hand" s_check_hand f fd) (mgf : mg "check_hand" = some (.ref f)) (T : Txt mg) (C_all_within : C8.Cal P w g.K mg base 1 "all_within" (spD g f_all_within) []) : C8.Cal P w g.K mg base 2 "check_hand" (spD g f_check_hand) [] :=
  calD (N := ["hand"]) (ps := ["hand"]) (k := 1) (wb := W_check_hand) F mgf (F.bindsN fun _ _ _ _ _ _ us hl => match us, hl with | [_], _ => rfl) sc_check_hand len_check_hand (fun cdv A outer s H E r a ns hr =>
    (pssd_cons (ps_w (ps_if (pt_w (pt_cmpR (op_neD hr.units) (pe_w (pe_callB call_len_seq (by rfl) T.m_len PySem.boot_len (pa_w (pa_cons (pe_w (pv 0) xd_var) (pa_w pa_nil xa_nil)) xa_cons)) (xd_cb cd_len)) (pe_w pe_int (xd_c fun _ => .int)) (nomark _)) (xt_cmp od_ne)) (pssd_one (ps_w ps_never xs_never)) pssd_nil) xs_if) (pssd_one (ps_w (ps_if (pt_w (pt_not (pt_w (pt_truth (pe_w (C8.pe_c C_all_within hr (by decide) (by rfl) (pa_w (pa_cons (pe_w (pv 0) xd_var) (pa_w (pa_cons (pe_w pe_int (xd_c fun _ => .int)) (pa_w (pa_cons (pe_w (pe_gint (by rfl) T.c_MOST_OF_HAND) (xd_c fun _ => .int)) (pa_w pa_nil xa_nil)) xa_cons)) xa_cons)) xa_cons)) xd_call) (by intro _; rfl)) xt_tru)) xt_not) (pssd_one (ps_w ps_never xs_never)) pssd_nil) xs_if)))) pure_check_hand
end

/-! ### check_chord -/
structure OkChord (l : List Int) : Prop where
  l1 : 1 ≤ l.length
  l2 : l.length ≤ 6
  n : ∀ x ∈ l, 0 ≤ x ∧ x ≤ 80
  up : risesB l = true
def f_check_chord : Fd := fun ds R => ∃ (l : List Int) (n : Int), ds = [intsD l, .int n] ∧ OkChord l ∧ R .none
theorem len_check_chord : ∀ ds R, f_check_chord ds R → ds.length = 2 := by
  rintro ds R ⟨l, n, rfl, _⟩; rfl
@[simp] theorem check_chord_iff {l : List Int} {n : Int} {R : D → Prop} : f_check_chord [intsD l, .int n] R ↔ OkChord l ∧ R .none := by
  constructor
  · rintro ⟨l', n', e, h⟩; simp at e; obtain ⟨rfl, rfl⟩ := e; exact h
  · intro h; exact ⟨_, _, rfl, h⟩
def W_check_chord : WS := (dSeq (dIfS (bNot (bB (dChain rdLe rdLe (dC (.int 1)) (dCall rdLen (aCons (dVar 0) aNil)) (dC (.int 6))))) dNever dNext) (dSeq (dIfS (bNot (bTru (dCall f_all_within (aCons (dVar 0) (aCons (dC (.int 0)) (aCons (dC (.int 80)) aNil)))))) dNever dNext) (dIfS (bNot (bTru (dCall f_rises (aCons (dVar 0) aNil)))) dNever dNext)))
def N_check_chord : List Str := ["chord", "number"]
theorem sc_check_chord : FnScope ["chord", "number"] ["chord", "number"] (defScope s_check_chord) := ⟨rfl, rfl, rfl, by decide +kernel, rfl, by decide +kernel, by decide +kernel⟩
theorem pure_check_chord : ∀ ds R, f_check_chord ds R → W_check_chord { nx := fun _ => R .none, rt := R } (startD N_check_chord ds) := by
  rintro ds R ⟨l, n, rfl, ok, h⟩
  have l1 := ok.l1
  have l2 := ok.l2
  simp [W_check_chord, N_check_chord, intsD]
  refine ⟨by omega, by omega, intsD l, l, 0, 80, rfl, by simp, ?_⟩
  simp [allIn_ok ok.n]
  exact ⟨l, rfl, by omega, by simpa [ok.up] using h⟩
section
variable {P : Program} {w : World} {g : Glb} {mg : Str → Option Value} {base : Heap}
theorem ok_check_chord_all {f : Addr} {fd : FuncData} (F : FunQ g.K "check_chord" s_check_chord 0 f fd) (mgf : mg "check_chord" = some (.ref f)) (T : Txt mg) (C_all_within : C8.Cal P w g.K mg base 1 "all_within" (spD g f_all_within) []) (C_rises : C8.Cal P w g.K mg base 1 "rises" (spD g f_rises) []) : C8.Cal P w g.K mg base 2 "check_chord" (spD g f_check_chord) [] :=
  calDa (N := ["chord", "number"]) (ps := ["chord", "number"]) (k := 1) (wb := W_check_chord) F mgf (F.binds1 2 1 (by simp) (by decide) fun T kV doc pm an cdv ct us its h1 h2 => match us, its, h1, h2 with | [_, _], [_], _, _ => ⟨_, rfl, rfl⟩) sc_check_chord len_check_chord (fun cdv A outer s H E r a ns hr =>
    (pssd_cons (ps_w (ps_if (pt_w (pt_not (pt_w (pt_chain op_le op_le (pe_w pe_int (xd_c fun _ => .int)) (pe_w (pe_callB call_len_seq (by rfl) T.m_len PySem.boot_len (pa_w (pa_cons (pe_w (pv 0) xd_var) (pa_w pa_nil xa_nil)) xa_cons)) (xd_cb cd_len)) (pe_w (pe_gint (by rfl) T.c_MOST_NOTES) (xd_c fun _ => .int))) (xt_chain od_le od_le))) xt_not) (pssd_one (ps_w ps_never xs_never)) pssd_nil) xs_if) (pssd_cons (ps_w (ps_if (pt_w (pt_not (pt_w (pt_truth (pe_w (C8.pe_c C_all_within hr (by decide) (by rfl) (pa_w (pa_cons (pe_w (pv 0) xd_var) (pa_w (pa_cons (pe_w pe_int (xd_c fun _ => .int)) (pa_w (pa_cons (pe_w (pe_gint (by rfl) T.c_HIGHEST_NOTE) (xd_c fun _ => .int)) (pa_w pa_nil xa_nil)) xa_cons)) xa_cons)) xa_cons)) xd_call) (by intro _; rfl)) xt_tru)) xt_not) (pssd_one (ps_w ps_never xs_never)) pssd_nil) xs_if) (pssd_one (ps_w (ps_if (pt_w (pt_not (pt_w (pt_truth (pe_w (C8.pe_c C_rises hr (by decide) (by rfl) (pa_w (pa_cons (pe_w (pv 0) xd_var) (pa_w pa_nil xa_nil)) xa_cons)) xd_call) (by intro _; rfl)) xt_tru)) xt_not) (pssd_one (ps_w ps_never xs_never)) pssd_nil) xs_if))))) pure_check_chord
theorem ok_check_chord {f : Addr} {fd : FuncData} (F : FunQ g.K "check_chord" s_check_chord 0 f fd) (mgf : mg "check_chord" = some (.ref f)) (T : Txt mg) (C_all_within : C8.Cal P w g.K mg base 1 "all_within" (spD g f_all_within) []) (C_rises : C8.Cal P w g.K mg base 1 "rises" (spD g f_rises) []) : C8.Cal P w g.K mg base 2 "check_chord" (spD g f_check_chord) [V.int 0] :=
  calDd (N := ["chord", "number"]) (ps := ["chord", "number"]) (k := 1) (wb := W_check_chord) F mgf (F.binds1 1 0 (by simp) (by decide) fun T kV doc pm an cdv ct us its h1 h2 => match us, its, h1, h2 with | [_], [_], _, _ => ⟨_, rfl, rfl⟩) sc_check_chord len_check_chord (fun cdv A outer s H E r a ns hr =>
    (pssd_cons (ps_w (ps_if (pt_w (pt_not (pt_w (pt_chain op_le op_le (pe_w pe_int (xd_c fun _ => .int)) (pe_w (pe_callB call_len_seq (by rfl) T.m_len PySem.boot_len (pa_w (pa_cons (pe_w (pv 0) xd_var) (pa_w pa_nil xa_nil)) xa_cons)) (xd_cb cd_len)) (pe_w (pe_gint (by rfl) T.c_MOST_NOTES) (xd_c fun _ => .int))) (xt_chain od_le od_le))) xt_not) (pssd_one (ps_w ps_never xs_never)) pssd_nil) xs_if) (pssd_cons (ps_w (ps_if (pt_w (pt_not (pt_w (pt_truth (pe_w (C8.pe_c C_all_within hr (by decide) (by rfl) (pa_w (pa_cons (pe_w (pv 0) xd_var) (pa_w (pa_cons (pe_w pe_int (xd_c fun _ => .int)) (pa_w (pa_cons (pe_w (pe_gint (by rfl) T.c_HIGHEST_NOTE) (xd_c fun _ => .int)) (pa_w pa_nil xa_nil)) xa_cons)) xa_cons)) xa_cons)) xd_call) (by intro _; rfl)) xt_tru)) xt_not) (pssd_one (ps_w ps_never xs_never)) pssd_nil) xs_if) (pssd_one (ps_w (ps_if (pt_w (pt_not (pt_w (pt_truth (pe_w (C8.pe_c C_rises hr (by decide) (by rfl) (pa_w (pa_cons (pe_w (pv 0) xd_var) (pa_w pa_nil xa_nil)) xa_cons)) xd_call) (by intro _; rfl)) xt_tru)) xt_not) (pssd_one (ps_w ps_never xs_never)) pssd_nil) xs_if))))) pure_check_chord
end

/-! ### _is_pressed -/
def isPressed (f c p : Int) : Bool := (!decide (p = c)) && isPlace f c p
def f_is_pressed : Fd := fun ds R => ∃ t f c p, ds = [neckD t f c, .int p] ∧ R (.bool (isPressed f c p))
theorem len_is_pressed : ∀ ds R, f_is_pressed ds R → ds.length = 2 := by
  rintro ds R ⟨t, f, c, p, rfl, _⟩; rfl
def W_is_pressed : WS := (dSeq (dUnp [2, 2, 3] (dVar 0)) (dRet (dAnd (dOp rdNe (dVar 1) (dVar 3)) (dCall f_is_place (aCons (dVar 0) (aCons (dVar 1) aNil))))))
def N_is_pressed : List Str := ["neck", "fret", "_", "capo"]
theorem sc_is_pressed : FnScope ["neck", "fret", "_", "capo"] ["neck", "fret"] (defScope s_is_pressed) := ⟨rfl, rfl, rfl, by decide +kernel, rfl, by decide +kernel, by decide +kernel⟩
theorem pure_is_pressed : ∀ ds R, f_is_pressed ds R → W_is_pressed { nx := fun _ => R .none, rt := R } (startD ["neck", "fret", "_", "capo"] ds) := by
  rintro ds R ⟨t, f, c, p, rfl, h⟩
  simp [W_is_pressed, neckD, intsD]
  unfold isPressed at h
  by_cases q : p = c
  · simpa [q] using h
  · simp [q] at h ⊢
    exact ⟨t, f, c, p, rfl, h⟩
section
variable {P : Program} {w : World} {g : Glb} {mg : Str → Option Value} {base : Heap}
theorem ok_is_pressed {f : Addr} {fd : FuncData} (F : FunP g.K "_is_pressed" s_is_pressed f fd) (mgf : mg "_is_pressed" = some (.ref f)) (T : Txt mg) (C_is_place : C8.Cal P w g.K mg base 1 "is_place" (spD g f_is_place) []) : C8.Cal P w g.K mg base 2 "_is_pressed" (spD g f_is_pressed) [] :=
  calD (N := ["neck", "fret", "_", "capo"]) (ps := ["neck", "fret"]) (k := 1) (wb := W_is_pressed) F mgf (F.bindsN fun _ _ _ _ _ _ us hl => match us, hl with | [_, _], _ => rfl) sc_is_pressed len_is_pressed (fun cdv A outer s H E r a ns hr =>
    (pssd_cons (ps_w (ps_asg (pe_w (pv 0) xd_var) (pg_tup rfl (pgs_cons (pg_name (i := 2) sc_is_pressed.nd rfl (.inl rfl)) (pgs_cons (pg_name (i := 2) sc_is_pressed.nd rfl (.inl rfl)) (pgs_cons (pg_name (i := 3) sc_is_pressed.nd rfl (.inl rfl)) pgs_nil))))) (xs_unp (is := [2, 2, 3]) rfl)) (pssd_one (ps_w (ps_ret (pe_w (pe_and (pe_w (pe_cmpR (op_neD hr.units) (pe_w (pv 1) xd_var) (pe_w (pv 3) xd_var) (nomark _)) (xd_op od_ne)) (pe_one (pe_w (C8.pe_c C_is_place hr (by decide) (by rfl) (pa_w (pa_cons (pe_w (pv 0) xd_var) (pa_w (pa_cons (pe_w (pv 1) xd_var) (pa_w pa_nil xa_nil)) xa_cons)) xa_cons)) xd_call))) xd_and)) xs_ret)))) pure_is_pressed
end

/-! ### _fits -/
def pressL (f c : Int) (s : List Int) : List Int := s.filter (isPressed f c)
def fitsL (l : List Int) (r g : Int) : Bool := l.isEmpty || (decide ((l.length : Int) ≤ g) && l.all fun x => l.all fun y => decide (x - y ≤ r))
def f_fits : Fd := fun ds R => ∃ t f c s r g, ds = [neckD t f c, intsD s, intsD [r, g]] ∧ s.length ≤ 1000 ∧ R (.bool (fitsL (pressL f c s) r g))
theorem len_fits : ∀ ds R, f_fits ds R → ds.length = 3 := by
  rintro ds R ⟨t, f, c, s, r, g, rfl, _⟩; rfl
theorem fits_max {l : List Int} {M m r : Int} (hM : M ∈ l) (hM2 : ∀ y ∈ l, y ≤ M) (hm : m ∈ l) (hm2 : ∀ y ∈ l, m ≤ y) : (l.all fun x => l.all fun y => decide (x - y ≤ r)) = decide (M - m ≤ r) := by
  rw [Bool.eq_iff_iff, List.all_eq_true, decide_eq_true_eq]
  constructor
  · intro h
    have := List.all_eq_true.mp (h M hM) m hm
    simpa using this
  · intro h x hx
    rw [List.all_eq_true]
    intro y hy
    have := hM2 x hx
    have := hm2 y hy
    simp
    omega
def W_fits : WS := (dSeq (dUnp [3, 4] (dVar 2)) (dSeq (dAsg 5 (dN (dLcW (iTpl (dVar 1)) (tgN 6) (bTru (dCall f_is_pressed (aCons (dVar 0) (aCons (dVar 6) aNil)))) (dVar 6) [6]))) (dSeq (dIfS (bNot (bTru (dVar 5))) (dRet (dC (.bool true))) dNext) (dRet (dAnd (dOp rdLe (dCall rdLen (aCons (dVar 5) aNil)) (dVar 4)) (dOp rdLe (dOp rdSub (dCall rdMaxL (aCons (dVar 5) aNil)) (dCall rdMinL (aCons (dVar 5) aNil))) (dVar 3)))))))
def N_fits : List Str := ["neck", "shape", "hand", "reach", "fingers", "pressed", "fret"]
theorem sc_fits : FnScope ["neck", "shape", "hand", "reach", "fingers", "pressed", "fret"] ["neck", "shape", "hand"] (defScope s_fits) := ⟨rfl, rfl, rfl, by decide +kernel, rfl, by decide +kernel, by decide +kernel⟩
theorem pure_fits : ∀ ds R, f_fits ds R → W_fits { nx := fun _ => R .none, rt := R } (startD N_fits ds) := by
  rintro ds R ⟨t, f, c, s, r, g, rfl, hl, h⟩
  simp [W_fits, N_fits, intsD]
  refine ⟨by omega, lcRun_ints (isPressed f c) (fun p => .int p) s (fun p _ K k => ?_) ?_⟩
  · simp
    refine ⟨t, f, c, p, by simp, ?_⟩
    cases z : isPressed f c p with
    | true => simpa [z] using k
    | false => simpa [z] using k
  · have e : ((s.filter (isPressed f c)).map fun p => PyData.int p) = (pressL f c s).map .int := rfl
    rw [e]
    generalize pressL f c s = l at h
    cases l with
    | nil => simpa [fitsL] using h
    | cons a l =>
      simp
      unfold fitsL at h
      by_cases z : (l.length : Int) + 1 ≤ g
      · refine .inr ⟨z, ?_⟩
        have e : (PyData.int a :: l.map PyData.int) = (a :: l).map .int := rfl
        rw [e]
        refine rdMaxL_iff.mpr ⟨by simp, fun M hM hM2 => rdMinL_iff.mpr ⟨by simp, fun m hm hm2 => ⟨M, rfl, m, rfl, ?_⟩⟩⟩
        rw [fits_max hM hM2 hm hm2] at h
        have z' : (((a :: l).length : Nat) : Int) ≤ g := by simpa using z
        rw [decide_eq_true z', Bool.true_and] at h
        simpa using h
      · refine .inl ⟨by omega, ?_⟩
        have z' : ¬ (((a :: l).length : Nat) : Int) ≤ g := by simpa using z
        rw [decide_eq_false z', Bool.false_and] at h
        simpa using h
section
variable {P : Program} {w : World} {g : Glb} {mg : Str → Option Value} {base : Heap}
theorem ok_fits {f : Addr} {fd : FuncData} (F : FunP g.K "_fits" s_fits f fd) (mgf : mg "_fits" = some (.ref f)) (T : Txt mg) (C_is_pressed : C8.Cal P w g.K mg base 2 "_is_pressed" (spD g f_is_pressed) []) : C8.Cal P w g.K mg base 3 "_fits" (spD g f_fits) [] :=
  calD (N := ["neck", "shape", "hand", "reach", "fingers", "pressed", "fret"]) (ps := ["neck", "shape", "hand"]) (k := 2) (wb := W_fits) F mgf (F.bindsN fun _ _ _ _ _ _ us hl => match us, hl with | [_, _, _], _ => rfl) sc_fits len_fits (fun cdv A outer s H E r a ns hr =>
    (pssd_cons (ps_w (ps_asg (pe_w (pv 2) xd_var) (pg_tup rfl (pgs_cons (pg_name (i := 3) sc_fits.nd rfl (.inl rfl)) (pgs_cons (pg_name (i := 4) sc_fits.nd rfl (.inl rfl)) pgs_nil)))) (xs_unp (is := [3, 4]) rfl)) (pssd_cons (ps_w (ps_setLc (i := 5) (own := [("fret", 6)]) (g := gName 6) rfl sc_fits.nd rfl rfl (sw_true rfl rfl rfl (by decide +kernel)) (pi_w (pi_tup (pe_w (pv 1) xd_var)) xi_tup) (blkOk_by (own := [("fret", 6)]) (N := ["neck", "shape", "hand", "reach", "fingers", "pressed", "fret"]) (sc := (defScope s_fits)) (by decide +kernel)) (fun _ _ _ _ _ => (pg_name (i := 6) sc_fits.nd rfl (.inl rfl))) (fun _ _ _ _ _ => (pts_one (pt_w (pt_truth (pe_w (C8.pe_c C_is_pressed hr (by decide) (by rfl) (pa_w (pa_cons (pe_w (pv 0) xd_var) (pa_w (pa_cons (pe_w (pv 6) xd_var) (pa_w pa_nil xa_nil)) xa_cons)) xa_cons)) xd_call) (by intro _; rfl)) xt_tru))) (fun _ _ _ _ _ => (pe_w (pv 6) xd_var))) (xs_asgLc gd_name stores_name)) (pssd_cons (ps_w (ps_if (pt_w (pt_not (pt_w (pt_truth (pe_w (pv 5) xd_var) (by intro _; rfl)) xt_tru)) xt_not) (pssd_one (ps_w (ps_ret (pe_w pe_bl (xd_c fun _ => .bl))) xs_ret)) pssd_nil) xs_if) (pssd_one (ps_w (ps_ret (pe_w (pe_and (pe_w (pe_cmpR op_le (pe_w (pe_callB call_len_seq (by rfl) T.m_len PySem.boot_len (pa_w (pa_cons (pe_w (pv 5) xd_var) (pa_w pa_nil xa_nil)) xa_cons)) (xd_cb cd_len)) (pe_w (pv 4) xd_var) (nomark _)) (xd_op od_le)) (pe_one (pe_w (pe_cmpR op_le (pe_w (pe_op op_sub (pe_w (pe_callB (cr_max (by rfl)) (by rfl) T.m_max (by decide +kernel) (pa_w (pa_cons (pe_w (pv 5) xd_var) (pa_w pa_nil xa_nil)) xa_cons)) (xd_cb cd_maxL)) (pe_w (pe_callB (cr_min (by rfl)) (by rfl) T.m_min (by decide +kernel) (pa_w (pa_cons (pe_w (pv 5) xd_var) (pa_w pa_nil xa_nil)) xa_cons)) (xd_cb cd_minL))) (xd_op od_sub)) (pe_w (pv 3) xd_var) (nomark _)) (xd_op od_le)))) xd_and)) xs_ret)))))) pure_fits
end

/-! ### _moved -/
def stepOk (f c far p : Int) : Bool := decide (p = -1) || (isPressed f c p && isPressed f c (p + far))
def step1 (far p : Int) : Int := if p = -1 then p else p + far
def slidD (f c : Int) (s : List Int) (far : Int) : D := if s.all (stepOk f c far) = true then intsD (s.map (step1 far)) else .none
def f_moved : Fd := fun ds R => ∃ t f c s far, ds = [neckD t f c, intsD s, .int far] ∧ s.length ≤ 1000 ∧ R (slidD f c s far)
theorem len_moved : ∀ ds R, f_moved ds R → ds.length = 3 := by
  rintro ds R ⟨t, f, c, s, far, rfl, _⟩; rfl
def W_moved : WS := (dSeq (dFor (iTpl (dVar 1)) (tgN 3) (dIfS (bAnd (bB (dOp rdNe (dVar 3) (dC (.int (-1))))) (bNot (bAnd (bTru (dCall f_is_pressed (aCons (dVar 0) (aCons (dVar 3) aNil)))) (bTru (dCall f_is_pressed (aCons (dVar 0) (aCons (dOp rdAdd (dVar 3) (dVar 2)) aNil))))))) (dRet (dC .none)) dNext)) (dRet (dCall rdTuple (aCons (dN (dLcW (iTpl (dVar 1)) (tgN 3) (fun _ R => R true) (dIf (bB (dOp rdEq (dVar 3) (dC (.int (-1))))) (dVar 3) (dOp rdAdd (dVar 3) (dVar 2))) [3])) aNil))))
def N_moved : List Str := ["neck", "shape", "far", "fret"]
theorem sc_moved : FnScope ["neck", "shape", "far", "fret"] ["neck", "shape", "far"] (defScope s_moved) := ⟨rfl, rfl, rfl, by decide +kernel, rfl, by decide +kernel, by decide +kernel⟩
theorem moved_loop {t f c s far} {De : EndsD} : ∀ (l : List Int) (x : Sl), (l.all (stepOk f c far) = true → ∀ y, De.nx [Sl.val (neckD t f c), .val (intsD s), .val (.int far), y]) → (l.all (stepOk f c far) = false → De.rt .none) →
    forRun (tgN 3) (dIfS (bAnd (bB (dOp rdNe (dVar 3) (dC (.int (-1))))) (bNot (bAnd (bTru (dCall f_is_pressed (aCons (dVar 0) (aCons (dVar 3) aNil)))) (bTru (dCall f_is_pressed (aCons (dVar 0) (aCons (dOp rdAdd (dVar 3) (dVar 2)) aNil))))))) (dRet (dC .none)) dNext) De (l.map PyData.int) [Sl.val (neckD t f c), .val (intsD s), .val (.int far), x]
  | [], x, h1, _ => h1 rfl x
  | p :: l, x, h1, h2 => by
    have ih := moved_loop (De := De) (t := t) (f := f) (c := c) (s := s) (far := far) l (.val (.int p))
    rw [List.all_cons] at h1 h2
    simp only [List.map_cons, forRun]
    by_cases q : p = -1
    · subst q
      have e : stepOk f c far (-1) = true := rfl
      rw [e, Bool.true_and] at h1 h2
      simpa using ih h1 h2
    · simp [q]
      refine ⟨t, f, c, p, by simp, ?_⟩
      by_cases q1 : isPressed f c p = true
      · simp [q1]
        refine ⟨t, f, c, p + far, by simp, ?_⟩
        by_cases q2 : isPressed f c (p + far) = true
        · have e : stepOk f c far p = true := by simp [stepOk, q1, q2]
          rw [e, Bool.true_and] at h1 h2
          simpa [q2] using ih h1 h2
        · have e : stepOk f c far p = false := by simp [stepOk, q, q2]
          rw [e, Bool.false_and] at h2
          simpa [q2] using h2 rfl
      · have e : stepOk f c far p = false := by simp [stepOk, q, q1]
        rw [e, Bool.false_and] at h2
        simpa [q1] using h2 rfl
theorem pure_moved : ∀ ds R, f_moved ds R → W_moved { nx := fun _ => R .none, rt := R } (startD ["neck", "shape", "far", "fret"] ds) := by
  rintro ds R ⟨t, f, c, s, far, rfl, hl, h⟩
  simp [W_moved, intsD]
  refine moved_loop (t := t) (f := f) (c := c) (s := s) (far := far) s .un (fun hs y => ?_) (fun hs => by unfold slidD at h; rw [hs] at h; exact h)
  simp [intsD, neckD]
  refine ⟨by omega, ?_⟩
  refine lcRun_ints (fun _ => true) (fun p => .int (step1 far p)) s (fun p hp K k => ?_) ?_
  · by_cases q : p = -1
    · simpa [q, step1] using k
    · simpa [q, step1] using k
  · have e : s.map (fun p => PyData.int (step1 far p)) = (s.map (step1 far)).map PyData.int := by rw [List.map_map]; rfl
    unfold slidD at h
    rw [hs] at h
    rw [List.filter_eq_self.mpr (by simp), e]
    exact h
section
variable {P : Program} {w : World} {g : Glb} {mg : Str → Option Value} {base : Heap}
theorem ok_moved {f : Addr} {fd : FuncData} (F : FunP g.K "_moved" s_moved f fd) (mgf : mg "_moved" = some (.ref f)) (T : Txt mg) (C_is_pressed : C8.Cal P w g.K mg base 2 "_is_pressed" (spD g f_is_pressed) []) : C8.Cal P w g.K mg base 3 "_moved" (spD g f_moved) [] :=
  calD (N := ["neck", "shape", "far", "fret"]) (ps := ["neck", "shape", "far"]) (k := 2) (wb := W_moved) F mgf (F.bindsN fun _ _ _ _ _ _ us hl => match us, hl with | [_, _, _], _ => rfl) sc_moved len_moved (fun cdv A outer s H E r a ns hr =>
    (pssd_cons (ps_w (ps_for (g := gName 3) PassesOwn.never rfl (pi_w (pi_tup (pe_w (pv 1) xd_var)) xi_tup) (pg_name (i := 3) sc_moved.nd rfl (.inl rfl)) (pssd_one (ps_w (ps_if (PW.pt (pw_w (pw_and (pt_w (pt_cmpR (op_neD hr.units) (pe_w (pv 3) xd_var) (pe_w (pe_gint (by rfl) T.c_SILENT) (xd_c fun _ => .int)) (nomark _)) (xt_cmp od_ne)) (pw_and1 (pt_w (pt_not (PW.pt (pw_w (pw_and (pt_w (pt_truth (pe_w (C8.pe_c C_is_pressed hr (by decide) (by rfl) (pa_w (pa_cons (pe_w (pv 0) xd_var) (pa_w (pa_cons (pe_w (pv 3) xd_var) (pa_w pa_nil xa_nil)) xa_cons)) xa_cons)) xd_call) (by intro _; rfl)) xt_tru) (pw_and1 (pt_w (pt_truth (pe_w (C8.pe_c C_is_pressed hr (by decide) (by rfl) (pa_w (pa_cons (pe_w (pv 0) xd_var) (pa_w (pa_cons (pe_w (pe_op op_add (pe_w (pv 3) xd_var) (pe_w (pv 2) xd_var)) (xd_op od_add)) (pa_w pa_nil xa_nil)) xa_cons)) xa_cons)) xd_call) (by intro _; rfl)) xt_tru))) xt_and))) xt_not))) xt_and)) (pssd_one (ps_w (ps_ret (pe_w pe_non (xd_c fun _ => .non))) xs_ret)) pssd_nil) xs_if))) (xs_for gd_name)) (pssd_one (ps_w (ps_ret (pe_w (pe_callTy call_tuple_of (by rfl) T.m_tuple (by decide +kernel) (pa_w (pa_cons (pe_w (pe_w (pe_lc (own := [("fret", 3)]) (g := gName 3) rfl sc_moved.nd (pi_w (pi_tup (pe_w (pv 1) xd_var)) xi_tup) (blkOk_by (own := [("fret", 3)]) (N := ["neck", "shape", "far", "fret"]) (sc := (defScope s_moved)) (by decide +kernel)) (fun _ _ _ _ _ => (pg_name (i := 3) sc_moved.nd rfl (.inl rfl))) (fun _ _ _ _ _ => (pts_w pts_nil xt_yes)) (fun _ _ _ _ _ => (pe_w (pe_ifExp (pt_w (pt_cmpR (op_eqD hr.units) (pe_w (pv 3) xd_var) (pe_w (pe_gint (by rfl) T.c_SILENT) (xd_c fun _ => .int)) (nomark _)) (xt_cmp od_eq)) (pe_w (pv 3) xd_var) (pe_w (pe_op op_add (pe_w (pv 3) xd_var) (pe_w (pv 2) xd_var)) (xd_op od_add))) xd_if))) (xn_lc gd_name stores_name)) xd_N) (pa_w pa_nil xa_nil)) xa_cons)) (xd_cb cd_tuple))) xs_ret)))) pure_moved
end

/-! ### _placed -/
def placeL (t : List Int) (f c : Int) : List (Int × Nat) → List Int → Option (List Int)
  | [], s => some s
  | (x, j) :: r, s => if isPlace f c (x - t.getD j 0) = true then placeL t f c r (s.set j (x - t.getD j 0)) else none
def placeD (t : List Int) (f c : Int) (l : List Int) (o : List Nat) : D := match placeL t f c (l.zip o) (List.replicate t.length (-1)) with
  | some s => intsD s
  | none => .none
def f_placed : Fd := fun ds R => ∃ t f c l o, ds = [neckD t f c, intsD l, prmD o] ∧ (∀ j ∈ o, j < t.length) ∧ t.length ≤ 1000 ∧ R (placeD t f c l o)
theorem len_placed : ∀ ds R, f_placed ds R → ds.length = 3 := by
  rintro ds R ⟨t, f, c, l, o, rfl, _⟩; rfl
@[simp] theorem placed_iff {t l : List Int} {f c : Int} {o : List Nat} {R : D → Prop} : f_placed [neckD t f c, intsD l, prmD o] R ↔ (∀ j ∈ o, j < t.length) ∧ t.length ≤ 1000 ∧ R (placeD t f c l o) := by
  constructor
  · rintro ⟨t', f', c', l', o', e, h⟩
    simp only [List.cons.injEq, neckD_inj, intsD_inj, and_true] at e
    obtain ⟨⟨rfl, rfl, rfl⟩, rfl, e⟩ := e
    have : o = o' := by
      simp only [prmD, PyData.tuple.injEq] at e
      exact List.map_inj_right (fun a b h => by have := PyData.int.inj h; omega) |>.mp e
    subst this
    exact h
  · intro h; exact ⟨_, _, _, _, _, rfl, h⟩
theorem ixN_of {n k : Nat} (h : k < n) : ixN n (k : Int) = some k := by
  unfold ixN
  have h1 : ¬ ((k : Int) < 0) := by omega
  simp [h1]
  omega
def W_placed : WS := (dSeq (dUnp [3, 4, 4] (dVar 0)) (dSeq (dOwn 5 (nRep (aCons (dC (.int (-1))) aNil) (dCall rdLen (aCons (dVar 3) aNil)))) (dSeq (dFor (iZip (aCons (dVar 1) (aCons (dVar 2) aNil))) (tgT [6, 7]) (dSeq (dAsg 8 (dOp rdSub (dVar 6) (dOp rdIx (dVar 3) (dVar 7)))) (dSeq (dIfS (bNot (bTru (dCall f_is_place (aCons (dVar 0) (aCons (dVar 8) aNil))))) (dRet (dC .none)) dNext) (dSetI 5 (dVar 8) (dVar 7))))) (dFrz 5 (dRet (dCall rdTuple (aCons (dVar 5) aNil)))))))
def N_placed : List Str := ["neck", "chord", "strings", "tuning", "_", "shape", "note", "string", "fret"]
theorem sc_placed : FnScope ["neck", "chord", "strings", "tuning", "_", "shape", "note", "string", "fret"] ["neck", "chord", "strings"] (defScope s_placed) := ⟨rfl, rfl, rfl, by decide +kernel, rfl, by decide +kernel, by decide +kernel⟩
theorem placed_loop {t : List Int} {f c : Int} {x1 x2 x4 : Sl} {De : EndsD} : ∀ (l : List Int) (o : List Nat) (s : List Int) (u v y : Sl), (∀ j ∈ o, j < t.length) → s.length = t.length →
    (∀ s' : List Int, s'.length = t.length → placeL t f c (l.zip o) s = some s' → ∀ u' v' y', De.nx [Sl.val (neckD t f c), x1, x2, .val (intsD t), x4, .own (s'.map .int), u', v', y']) → (placeL t f c (l.zip o) s = none → De.rt .none) →
    forRun (tgT [6, 7]) (dSeq (dAsg 8 (dOp rdSub (dVar 6) (dOp rdIx (dVar 3) (dVar 7)))) (dSeq (dIfS (bNot (bTru (dCall f_is_place (aCons (dVar 0) (aCons (dVar 8) aNil))))) (dRet (dC .none)) dNext) (dSetI 5 (dVar 8) (dVar 7)))) De
      (((l.map PyData.int).zip (o.map fun (j : Nat) => PyData.int (j : Int))).map fun p => .tuple [p.1, p.2]) [Sl.val (neckD t f c), x1, x2, .val (intsD t), x4, .own (s.map .int), u, v, y]
  | [], _, s, u, v, y, _, hs, h, _ => h s hs rfl u v y
  | _ :: _, [], s, u, v, y, _, hs, h, _ => h s hs rfl u v y
  | p :: l, j :: o, s, u, v, y, ho, hs, h, hn => by
    have hj := ho j (List.mem_cons_self ..)
    have et : atI (t.map PyData.int) (j : Int) = some (.int (t.getD j 0)) := atI_map (by rw [List.getD_eq_getElem?_getD, List.getElem?_eq_getElem hj]; rfl)
    simp only [List.map_cons, List.zip_cons_cons, forRun]
    rw [List.zip_cons_cons] at h hn
    simp only [placeL] at h hn
    generalize t.getD j 0 = b at et h hn
    simp
    refine ⟨_, et, _, rfl, t, f, c, p - b, by simp, ?_⟩
    by_cases q : isPlace f c (p - b) = true
    · rw [if_pos q] at h hn
      have ih := placed_loop (De := De) (t := t) (f := f) (c := c) (x1 := x1) (x2 := x2) (x4 := x4) l o (s.set j (p - b)) (.val (.int p)) (.val (.int j)) (.val (.int (p - b))) (fun i hi => ho i (List.mem_cons_of_mem _ hi)) (by simpa using hs) h hn
      simp [q]
      refine ⟨j, ixN_of (by omega), ?_⟩
      rw [List.map_set] at ih
      exact ih
    · rw [if_neg q] at h hn
      have q' : isPlace f c (p - b) = false := by simpa using q
      simpa [q'] using hn rfl
theorem pure_placed : ∀ ds R, f_placed ds R → W_placed { nx := fun _ => R .none, rt := R } (startD N_placed ds) := by
  rintro ds R ⟨t, f, c, l, o, rfl, ho, lt, h⟩
  simp [W_placed, N_placed, neckD, prmD, intsD]
  refine ⟨by omega, ?_⟩
  have e : List.replicate t.length (PyData.int (-1)) = (List.replicate t.length (-1 : Int)).map PyData.int := by simp
  rw [e]
  refine placed_loop (t := t) (f := f) (c := c) l o (List.replicate t.length (-1)) _ _ _ ho (by rw [List.length_replicate]) (fun s hs e u v y => ?_) fun e => ?_
  · simp
    unfold placeD at h
    rw [e] at h
    exact h
  · unfold placeD at h
    rw [e] at h
    exact h
section
variable {P : Program} {w : World} {g : Glb} {mg : Str → Option Value} {base : Heap}
theorem ok_placed {f : Addr} {fd : FuncData} (F : FunP g.K "_placed" s_placed f fd) (mgf : mg "_placed" = some (.ref f)) (T : Txt mg) (C_is_place : C8.Cal P w g.K mg base 1 "is_place" (spD g f_is_place) []) : C8.Cal P w g.K mg base 2 "_placed" (spD g f_placed) [] :=
  calD (N := ["neck", "chord", "strings", "tuning", "_", "shape", "note", "string", "fret"]) (ps := ["neck", "chord", "strings"]) (k := 1) (wb := W_placed) F mgf (F.bindsN fun _ _ _ _ _ _ us hl => match us, hl with | [_, _, _], _ => rfl) sc_placed len_placed (fun cdv A outer s H E r a ns hr =>
    (pssd_cons (ps_w (ps_asg (pe_w (pv 0) xd_var) (pg_tup rfl (pgs_cons (pg_name (i := 3) sc_placed.nd rfl (.inl rfl)) (pgs_cons (pg_name (i := 4) sc_placed.nd rfl (.inl rfl)) (pgs_cons (pg_name (i := 4) sc_placed.nd rfl (.inl rfl)) pgs_nil))))) (xs_unp (is := [3, 4, 4]) rfl)) (pssd_cons (ps_w (ps_set (i := 5) sc_placed.nd rfl (.inl rfl) (pe_w (pe_op op_rep (pe_lst (pa_w (pa_cons (pe_w (pe_gint (by rfl) T.c_SILENT) (xd_c fun _ => .int)) (pa_w pa_nil xa_nil)) xa_cons)) (pe_w (pe_callB call_len_seq (by rfl) T.m_len PySem.boot_len (pa_w (pa_cons (pe_w (pv 3) xd_var) (pa_w pa_nil xa_nil)) xa_cons)) (xd_cb cd_len))) xn_rep)) xs_own) (pssd_cons (ps_w (ps_for (g := gTup _ 2 (gNames [6, 7])) PassesOwn.never rfl (pi_w (RZ.pi_zipA (by rfl) T.m_zip (pa_w (pa_cons (pe_w (pv 1) xd_var) (pa_w (pa_cons (pe_w (pv 2) xd_var) (pa_w pa_nil xa_nil)) xa_cons)) xa_cons)) xi_zip) (pg_tup rfl (pgs_cons (pg_name (i := 6) sc_placed.nd rfl (.inl rfl)) (pgs_cons (pg_name (i := 7) sc_placed.nd rfl (.inl rfl)) pgs_nil))) (pssd_cons (ps_w (ps_set (i := 8) sc_placed.nd rfl (.inl rfl) (pe_w (pe_op op_sub (pe_w (pv 6) xd_var) (pe_w (pe_ix ix_lt (pe_w (pv 3) xd_var) (pe_w (pv 7) xd_var) (fun _ _ => rfl)) (xd_op od_ixL))) (xd_op od_sub))) xs_asg) (pssd_cons (ps_w (ps_if (pt_w (pt_not (pt_w (pt_truth (pe_w (C8.pe_c C_is_place hr (by decide) (by rfl) (pa_w (pa_cons (pe_w (pv 0) xd_var) (pa_w (pa_cons (pe_w (pv 8) xd_var) (pa_w pa_nil xa_nil)) xa_cons)) xa_cons)) xd_call) (by intro _; rfl)) xt_tru)) xt_not) (pssd_one (ps_w (ps_ret (pe_w pe_non (xd_c fun _ => .non))) xs_ret)) pssd_nil) xs_if) (pssd_one (ps_w (ps_asg (pe_w (pv 8) xd_var) (pg_sub (pv 5) (pe_w (pv 7) xd_var) set_list)) xs_setI))))) (xs_for (gd_tup (is := [6, 7]) rfl))) (pss_w (pssd_one (ps_w (ps_ret (pe_w (pe_callTy call_tuple_of (by rfl) T.m_tuple (by decide +kernel) (pa_w (pa_cons (pe_w (pv 5) xd_var) (pa_w pa_nil xa_nil)) xa_cons)) (xd_cb cd_tuple))) xs_ret)) xs_frz))))) pure_placed
end

/-! ### sounded -/
def soundL (t s : List Int) : List Int := ((t.zip s).filter fun q => decide (q.2 ≠ -1)).map fun q => q.1 + q.2
def f_sounded : Fn := fun ds R => ∃ t f c s, ds = [neckD t f c, intsD s] ∧ OkNeck t f c ∧ OkShape t f c s ∧ R ((soundL t s).map .int)
theorem len_sounded : ∀ ds R, f_sounded ds R → ds.length = 2 := by
  rintro ds R ⟨t, f, c, s, rfl, _⟩; rfl
@[simp] theorem sounded_iff {t s : List Int} {f c : Int} {R : List D → Prop} : f_sounded [neckD t f c, intsD s] R ↔ OkNeck t f c ∧ OkShape t f c s ∧ R ((soundL t s).map .int) := by
  constructor
  · rintro ⟨t', f', c', s', e, h⟩; simp at e; obtain ⟨⟨rfl, rfl, rfl⟩, rfl⟩ := e; exact h
  · intro h; exact ⟨_, _, _, _, rfl, h⟩
theorem zip_intsT (ps row : List Int) : ((ps.map PyData.int).zip (row.map PyData.int)).map (fun p => PyData.tuple [p.1, p.2]) = (ps.zip row).map fun q => PyData.tuple [.int q.1, .int q.2] := by
  rw [List.zip_map, List.map_map]
  rfl
def W_sounded : WS := (dSeq (dDrop (dCall f_check_neck (aCons (dVar 0) aNil))) (dSeq (dDrop (dCall f_check_shape (aCons (dVar 0) (aCons (dVar 1) aNil)))) (dSeq (dUnp [2, 3, 3] (dVar 0)) (dRetL (dLcW (iZip (aCons (dVar 2) (aCons (dVar 1) aNil))) (tgT [4, 5]) (bB (dOp rdNe (dVar 5) (dC (.int (-1))))) (dOp rdAdd (dVar 4) (dVar 5)) [4, 5])))))
def N_sounded : List Str := ["neck", "shape", "tuning", "_", "start", "fret"]
theorem sc_sounded : FnScope ["neck", "shape", "tuning", "_", "start", "fret"] ["neck", "shape"] (defScope s_sounded) := ⟨rfl, rfl, rfl, by decide +kernel, rfl, by decide +kernel, by decide +kernel⟩
theorem pure_sounded : ∀ ds R, f_sounded ds R → W_sounded { nx := fun _ => False, rt := fun _ => False, rn := R } (startD N_sounded ds) := by
  rintro ds R ⟨t, f, c, s, rfl, ok, os, h⟩
  have l2 := ok.l2
  simp [W_sounded, N_sounded]
  refine ⟨t, f, c, by simp, ok, t, f, c, s, by simp, os, ?_⟩
  simp [intsD, neckD]
  rw [zip_intsT]
  refine ⟨by have := Nat.min_le_left t.length s.length; omega, lcRun_map (fun q : Int × Int => decide (q.2 ≠ -1)) (fun q => .int (q.1 + q.2)) _ [] (fun q _ K k => ?_) ?_⟩
  · by_cases z : q.2 = -1
    · simpa [z] using k
    · simpa [z] using k
  · have e : (((t.zip s).filter fun q : Int × Int => decide (q.2 ≠ -1)).map fun q => PyData.int (q.1 + q.2)) = (soundL t s).map .int := by
      unfold soundL
      rw [List.map_map]
      rfl
    rw [List.nil_append, e]
    exact h
section
variable {P : Program} {w : World} {g : Glb} {mg : Str → Option Value} {base : Heap}
theorem ok_sounded {f : Addr} {fd : FuncData} (F : FunP g.K "sounded" s_sounded f fd) (mgf : mg "sounded" = some (.ref f)) (T : Txt mg) (C_check_neck : C8.Cal P w g.K mg base 2 "check_neck" (spD g f_check_neck) []) (C_check_shape : C8.Cal P w g.K mg base 2 "check_shape" (spD g f_check_shape) []) : C8.Cal P w g.K mg base 3 "sounded" (spN g f_sounded) [] :=
  calN (N := ["neck", "shape", "tuning", "_", "start", "fret"]) (ps := ["neck", "shape"]) (k := 2) (wb := W_sounded) F mgf (F.bindsN fun _ _ _ _ _ _ us hl => match us, hl with | [_, _], _ => rfl) sc_sounded len_sounded (fun cdv A outer s H E r a ns hr =>
    (pssd_cons (ps_w (ps_expr (pe_w (C8.pe_c C_check_neck hr (by decide) (by rfl) (pa_w (pa_cons (pe_w (pv 0) xd_var) (pa_w pa_nil xa_nil)) xa_cons)) xd_call)) xs_drop) (pssd_cons (ps_w (ps_expr (pe_w (C8.pe_c C_check_shape hr (by decide) (by rfl) (pa_w (pa_cons (pe_w (pv 0) xd_var) (pa_w (pa_cons (pe_w (pv 1) xd_var) (pa_w pa_nil xa_nil)) xa_cons)) xa_cons)) xd_call)) xs_drop) (pssd_cons (ps_w (ps_asg (pe_w (pv 0) xd_var) (pg_tup rfl (pgs_cons (pg_name (i := 2) sc_sounded.nd rfl (.inl rfl)) (pgs_cons (pg_name (i := 3) sc_sounded.nd rfl (.inl rfl)) (pgs_cons (pg_name (i := 3) sc_sounded.nd rfl (.inl rfl)) pgs_nil))))) (xs_unp (is := [2, 3, 3]) rfl)) (pssd_one (ps_w (ps_ret (pe_w (pe_lc (own := [("start", 4), ("fret", 5)]) (g := gTup _ 2 (gNames [4, 5])) rfl sc_sounded.nd (pi_w (RZ.pi_zipA (by rfl) T.m_zip (pa_w (pa_cons (pe_w (pv 2) xd_var) (pa_w (pa_cons (pe_w (pv 1) xd_var) (pa_w pa_nil xa_nil)) xa_cons)) xa_cons)) xi_zip) (blkOk_by (own := [("start", 4), ("fret", 5)]) (N := ["neck", "shape", "tuning", "_", "start", "fret"]) (sc := (defScope s_sounded)) (by decide +kernel)) (fun _ _ _ _ _ => (pg_tup rfl (pgs_cons (pg_name (i := 4) sc_sounded.nd rfl (.inl rfl)) (pgs_cons (pg_name (i := 5) sc_sounded.nd rfl (.inl rfl)) pgs_nil)))) (fun _ _ _ _ _ => (pts_one (pt_w (pt_cmpR (op_neD hr.units) (pe_w (pv 5) xd_var) (pe_w (pe_gint (by rfl) T.c_SILENT) (xd_c fun _ => .int)) (nomark _)) (xt_cmp od_ne)))) (fun _ _ _ _ _ => (pe_w (pe_op op_add (pe_w (pv 4) xd_var) (pe_w (pv 5) xd_var)) (xd_op od_add)))) (xn_lc (gd_tup (is := [4, 5]) rfl) (stores_names [4, 5])))) xs_retL)))))) pure_sounded
end

/-! ### ways: which shapes they are -/
section
theorem perms_nd : ∀ {k : Nat} {l o : List Nat}, l.Nodup → o ∈ FWY.permsOf l k → o.Nodup
  | 0, l, o, _, h => by
    unfold FWY.permsOf at h
    rw [List.mem_singleton.mp h]
    exact List.Pairwise.nil
  | k + 1, l, o, nd, h => by
    unfold FWY.permsOf at h
    obtain ⟨x, hx, h⟩ := List.mem_flatMap.mp h
    obtain ⟨o', h', rfl⟩ := List.mem_map.mp h
    refine List.nodup_cons.mpr ⟨fun hm => ?_, perms_nd (nd.erase x) h'⟩
    exact nd.not_mem_erase (FWY.perms_mem h' x hm)
theorem perms_all : ∀ {k : Nat} {l o : List Nat}, o.length = k → o.Nodup → (∀ x ∈ o, x ∈ l) → o ∈ FWY.permsOf l k
  | 0, l, o, h, _, _ => by
    unfold FWY.permsOf
    rw [List.length_eq_zero_iff.mp h]
    exact List.mem_singleton.mpr rfl
  | k + 1, l, [], h, _, _ => by cases h
  | k + 1, l, x :: o, h, nd, hm => by
    obtain ⟨n1, n2⟩ := List.nodup_cons.mp nd
    unfold FWY.permsOf
    refine List.mem_flatMap.mpr ⟨x, hm x (List.mem_cons_self ..), List.mem_map.mpr ⟨o, perms_all (by simpa using h) n2 fun y hy => ?_, rfl⟩⟩
    exact (List.mem_erase_of_ne (fun e => n1 (by rw [← e]; exact hy))).mpr (hm y (List.mem_cons_of_mem _ hy))
theorem perms_nodup : ∀ {k : Nat} {l : List Nat}, l.Nodup → (FWY.permsOf l k).Nodup
  | 0, l, _ => by
    unfold FWY.permsOf
    exact List.pairwise_singleton ..
  | k + 1, l, nd => by
    unfold FWY.permsOf
    refine List.pairwise_flatMap.mpr ⟨fun x _ => List.pairwise_map.mpr ((perms_nodup (nd.erase x)).imp fun h e => h (List.cons.inj e).2), nd.imp fun {a b} h x hx y hy e => ?_⟩
    obtain ⟨x', _, rfl⟩ := List.mem_map.mp hx
    obtain ⟨y', _, rfl⟩ := List.mem_map.mp hy
    exact h (List.cons.inj e).1
theorem place_keep {t : List Int} {f c : Int} : ∀ {ps : List (Int × Nat)} {s0 s : List Int}, placeL t f c ps s0 = some s → s.length = s0.length ∧ ∀ j, j ∉ ps.map (·.2) → s[j]? = s0[j]?
  | [], s0, s, h => by
    cases h
    exact ⟨rfl, fun _ _ => rfl⟩
  | (x, j) :: ps, s0, s, h => by
    rw [placeL] at h
    split at h
    · obtain ⟨h1, h2⟩ := place_keep h
      refine ⟨by rw [h1, List.length_set], fun i hi => ?_⟩
      rw [List.map_cons, List.mem_cons] at hi
      rw [h2 i (fun z => hi (.inr z)), List.getElem?_set, if_neg fun e => hi (.inl e.symm)]
    · cases h
theorem place_at {t : List Int} {f c : Int} : ∀ {ps : List (Int × Nat)} {s0 s : List Int}, placeL t f c ps s0 = some s → (ps.map (·.2)).Nodup → ∀ q ∈ ps, q.2 < s0.length → isPlace f c (q.1 - t.getD q.2 0) = true ∧ s[q.2]? = some (q.1 - t.getD q.2 0)
  | [], _, _, _, _, q, hq, _ => by cases hq
  | (x, j) :: ps, s0, s, h, nd, q, hq, hl => by
    rw [placeL] at h
    rw [List.map_cons] at nd
    obtain ⟨n1, n2⟩ := List.nodup_cons.mp nd
    split at h
    · rename_i hp
      rcases List.mem_cons.mp hq with rfl | hq
      · refine ⟨hp, ?_⟩
        rw [(place_keep h).2 j n1, List.getElem?_set, if_pos rfl, if_pos hl]
      · exact place_at h n2 q hq (by rw [List.length_set]; exact hl)
    · cases h
theorem place_some {t : List Int} {f c : Int} : ∀ {ps : List (Int × Nat)} {s0 : List Int}, (∀ q ∈ ps, isPlace f c (q.1 - t.getD q.2 0) = true) → ∃ s, placeL t f c ps s0 = some s
  | [], s0, _ => ⟨s0, rfl⟩
  | (x, j) :: ps, s0, h => by
    rw [placeL, if_pos (h (x, j) (List.mem_cons_self ..))]
    exact place_some fun q hq => h q (List.mem_cons_of_mem _ hq)
/-- the strings that sound -/
def idxL (s : List Int) : List Nat := (List.range s.length).filter fun i => decide (s.getD i 0 ≠ -1)
def phiL (t s : List Int) (i : Nat) : Int := t.getD i 0 + s.getD i 0
theorem idx_nd (s : List Int) : (idxL s).Nodup := List.Pairwise.filter _ List.nodup_range
theorem sound_idx {t s : List Int} (h : s.length = t.length) : soundL t s = (idxL s).map (phiL t s) := by
  have e : t.zip s = (List.range s.length).map fun i => (t.getD i 0, s.getD i 0) := by
    refine List.ext_getElem (by simp [h]) fun i h1 h2 => ?_
    have a : i < s.length := by simpa using h2
    have b : i < t.length := by omega
    simp [List.getD_eq_getElem?_getD, List.getElem?_eq_getElem a, List.getElem?_eq_getElem b]
  unfold soundL idxL
  rw [e, List.filter_map, List.map_map]
  rfl
theorem perm_lift {α β : Type} {φ : α → β} : ∀ {M l : List β}, M.Perm l → ∀ {L : List α}, L.map φ = M → ∃ o : List α, o.Perm L ∧ o.map φ = l := by
  intro M l p
  induction p with
  | nil => intro L e; exact ⟨[], by rw [List.map_eq_nil_iff.mp e], rfl⟩
  | cons x _ ih =>
    intro L e
    cases L with
    | nil => cases e
    | cons a L =>
      injection e with e1 e2
      obtain ⟨o, h1, h2⟩ := ih e2
      exact ⟨a :: o, h1.cons a, by rw [List.map_cons, h2, e1]⟩
  | swap x y l =>
    intro L e
    match L, e with
    | a :: b :: L, e =>
      simp only [List.map_cons, List.cons.injEq] at e
      obtain ⟨rfl, rfl, rfl⟩ := e
      exact ⟨b :: a :: L, List.Perm.swap .., rfl⟩
  | trans _ _ ih1 ih2 =>
    intro L e
    obtain ⟨o, h1, h2⟩ := ih1 e
    obtain ⟨o', h3, h4⟩ := ih2 h2
    exact ⟨o', h3.trans h1, h4⟩
theorem rises_pw : ∀ {l : List Int}, risesB l = true → l.Pairwise (· < ·)
  | [], _ => List.Pairwise.nil
  | [_], _ => List.pairwise_singleton ..
  | a :: b :: l, h => by
    unfold risesB at h
    simp only [List.tail_cons, List.zip_cons_cons, List.all_cons, Bool.and_eq_true, decide_eq_true_eq] at h
    have ih := rises_pw (l := b :: l) (by unfold risesB; exact h.2)
    refine List.pairwise_cons.mpr ⟨fun x hx => ?_, ih⟩
    rcases List.mem_cons.mp hx with rfl | hx
    · exact h.1
    · exact Int.lt_trans h.1 ((List.pairwise_cons.mp ih).1 x hx)
theorem pw_rises : ∀ {l : List Int}, l.Pairwise (· < ·) → risesB l = true
  | [], _ => rfl
  | [_], _ => rfl
  | a :: b :: l, h => by
    obtain ⟨h1, h2⟩ := List.pairwise_cons.mp h
    have ih := pw_rises h2
    unfold risesB at ih ⊢
    simp only [List.tail_cons, List.zip_cons_cons, List.all_cons, Bool.and_eq_true, decide_eq_true_eq] at ih ⊢
    exact ⟨h1 b (List.mem_cons_self ..), ih⟩
theorem pw_nodup {l : List Int} (h : l.Pairwise (· < ·)) : l.Nodup := h.imp fun h e => by omega
/-- a placing: which shape, and which strings sound -/
theorem placed_is {t : List Int} {f c : Int} {l : List Int} {o : List Nat} {s : List Int} (c0 : 0 ≤ c) (hl : o.length = l.length) (nd : o.Nodup) (ho : ∀ j ∈ o, j < t.length)
    (h : placeL t f c (l.zip o) (List.replicate t.length (-1)) = some s) : OkShape t f c s ∧ (idxL s).Perm o ∧ o.map (phiL t s) = l := by
  have e2 : (l.zip o).map (·.2) = o := List.map_snd_zip (by omega)
  obtain ⟨k1, k2⟩ := place_keep h
  rw [List.length_replicate] at k1
  have at_ := place_at h (by rw [e2]; exact nd)
  rw [e2] at k2
  have atI : ∀ i (h1 : i < l.length) (h2 : i < o.length), isPlace f c (l[i] - t.getD o[i] 0) = true ∧ s[o[i]]? = some (l[i] - t.getD o[i] 0) := fun i h1 h2 =>
    at_ (l[i], o[i]) (List.mem_iff_getElem.mpr ⟨i, by rw [List.length_zip]; omega, by rw [List.getElem_zip]⟩) (by rw [List.length_replicate]; exact ho _ (List.getElem_mem ..))
  have inO : ∀ j ∈ o, ∃ x, isPlace f c x = true ∧ s[j]? = some x := fun j hj => by
    obtain ⟨i, hi, rfl⟩ := List.mem_iff_getElem.mp hj
    exact ⟨_, atI i (by omega) hi⟩
  have outO : ∀ j, j < t.length → j ∉ o → s[j]? = some (-1) := fun j hj hn => by
    rw [k2 j hn, List.getElem?_replicate, if_pos hj]
  refine ⟨⟨k1, fun p hp => ?_⟩, ?_, ?_⟩
  · obtain ⟨j, hj, rfl⟩ := List.mem_iff_getElem.mp hp
    by_cases z : j ∈ o
    · obtain ⟨x, h1, h2⟩ := inO j z
      rw [List.getElem?_eq_getElem hj] at h2
      injection h2 with h2
      rw [h2]
      unfold isPlace at h1
      simp at h1
      exact .inr h1
    · have := outO j (by omega) z
      rw [List.getElem?_eq_getElem hj] at this
      injection this with this
      exact .inl this
  · refine (List.perm_ext_iff_of_nodup (idx_nd s) nd).mpr fun j => ?_
    unfold idxL
    rw [List.mem_filter, List.mem_range, decide_eq_true_eq]
    constructor
    · rintro ⟨h1, h2⟩
      by_cases z : j ∈ o
      · exact z
      · exfalso
        have := outO j (by omega) z
        rw [List.getD_eq_getElem?_getD, this] at h2
        exact h2 rfl
    · intro hj
      obtain ⟨x, h1, h2⟩ := inO j hj
      refine ⟨by rw [k1]; exact ho j hj, ?_⟩
      rw [List.getD_eq_getElem?_getD, h2]
      unfold isPlace at h1
      simp at h1
      show x ≠ -1
      omega
  · refine List.ext_getElem (by rw [List.length_map]; exact hl) fun i h1 h2 => ?_
    have hi : i < o.length := by simpa using h1
    rw [List.getElem_map]
    have := (atI i h2 hi).2
    unfold phiL
    rw [List.getD_eq_getElem?_getD (l := s), this]
    simp only [Option.getD_some]
    omega
/-- these strings, in this order, make the shape -/
theorem placed_of {t : List Int} {f c : Int} {l : List Int} {o : List Nat} {s : List Int} (ok : OkShape t f c s) (p : o.Perm (idxL s)) (e : o.map (phiL t s) = l) :
    placeL t f c (l.zip o) (List.replicate t.length (-1)) = some s := by
  have hl : o.length = l.length := by rw [← e, List.length_map]
  have nd : o.Nodup := (List.Perm.nodup_iff p).mpr (idx_nd s)
  have hin : ∀ j, j ∈ o ↔ j < s.length ∧ s.getD j 0 ≠ -1 := fun j => by
    rw [p.mem_iff]
    unfold idxL
    rw [List.mem_filter, List.mem_range, decide_eq_true_eq]
  have hz : ∀ q ∈ l.zip o, q.2 ∈ o ∧ q.1 = phiL t s q.2 := fun q hq => by
    obtain ⟨i, hi, rfl⟩ := List.mem_iff_getElem.mp hq
    rw [List.length_zip] at hi
    rw [List.getElem_zip]
    refine ⟨List.getElem_mem .., ?_⟩
    subst e
    simp
  obtain ⟨s', h⟩ := place_some (t := t) (f := f) (c := c) (ps := l.zip o) (s0 := List.replicate t.length (-1)) fun q hq => by
    obtain ⟨h1, h2⟩ := hz q hq
    obtain ⟨h3, h4⟩ := (hin q.2).mp h1
    rw [h2]
    have h5 : phiL t s q.2 - t.getD q.2 0 = s.getD q.2 0 := by unfold phiL; omega
    rw [h5]
    have := ok.at_ (s.getD q.2 0) (by rw [List.getD_eq_getElem?_getD, List.getElem?_eq_getElem h3]; exact List.getElem_mem ..)
    unfold isPlace
    rcases this with z | z
    · exact absurd z h4
    · simpa using z
  rw [h]
  have e2 : (l.zip o).map (·.2) = o := List.map_snd_zip (by omega)
  obtain ⟨k1, k2⟩ := place_keep h
  rw [List.length_replicate] at k1
  rw [e2] at k2
  have at_ := place_at h (by rw [e2]; exact nd)
  refine congrArg some (List.ext_getElem? fun j => ?_)
  by_cases hj : j < t.length
  · have hs : j < s.length := by rw [ok.len]; exact hj
    have g : s[j]? = some (s.getD j 0) := by rw [List.getD_eq_getElem?_getD, List.getElem?_eq_getElem hs]; rfl
    by_cases z : j ∈ o
    · obtain ⟨i, hi, rfl⟩ := List.mem_iff_getElem.mp z
      have hm : (l[i]'(by omega), o[i]) ∈ l.zip o := List.mem_iff_getElem.mpr ⟨i, by rw [List.length_zip]; omega, by rw [List.getElem_zip]⟩
      have := (at_ _ hm (by rw [List.length_replicate]; exact hj)).2
      have h2 := (hz _ hm).2
      simp only at this h2
      rw [this, h2, g]
      unfold phiL
      exact congrArg some (by omega)
    · rw [k2 j z, List.getElem?_replicate, if_pos hj, g]
      have : ¬ (j < s.length ∧ s.getD j 0 ≠ -1) := fun w => z ((hin j).mpr w)
      have : s.getD j 0 = -1 := Classical.byContradiction fun w => this ⟨hs, w⟩
      rw [this]
  · rw [List.getElem?_eq_none (by omega), List.getElem?_eq_none (by have := ok.len; omega)]
theorem nodup_at {l : List Int} {φ : Nat → Int} {o1 o2 : List Nat} (nd : l.Nodup) (h1 : o1.map φ = l) (h2 : o2.map φ = l) (hm : ∀ x ∈ o2, x ∈ o1) : o1 = o2 := by
  have l1 : o1.length = l.length := by rw [← h1, List.length_map]
  have l2 : o2.length = l.length := by rw [← h2, List.length_map]
  refine List.ext_getElem (by omega) fun i a b => ?_
  obtain ⟨j, hj, e⟩ := List.mem_iff_getElem.mp (hm o2[i] (List.getElem_mem ..))
  have e1 : l[j]'(by omega) = φ o1[j] := by subst h1; simp
  have e2 : l[i]'(by omega) = φ o2[i] := by
    have : ∀ (m : List Int) (hm : o2.map φ = m) (hi : i < m.length), m[i] = φ o2[i] := fun m hm hi => by subst hm; simp
    exact this l h2 (by omega)
  have : l[j]'(by omega) = l[i]'(by omega) := by rw [e1, e2, e]
  have : j = i := (List.getElem_inj nd).mp this
  subst this
  exact e
end
structure IsWay (t : List Int) (f c : Int) (l : List Int) (r g : Int) (s : List Int) : Prop where
  ok : OkShape t f c s
  pm : (soundL t s).Perm l
  ft : fitsL (pressL f c s) r g = true
def wayOf (t : List Int) (f c : Int) (l : List Int) (r g : Int) (o : List Nat) : Option (List Int) := match placeL t f c (l.zip o) (List.replicate t.length (-1)) with
  | some s => if fitsL (pressL f c s) r g = true then some s else none
  | none => none
theorem wayOf_some {t : List Int} {f c : Int} {l : List Int} {r g : Int} {o : List Nat} {s : List Int} : wayOf t f c l r g o = some s ↔ placeL t f c (l.zip o) (List.replicate t.length (-1)) = some s ∧ fitsL (pressL f c s) r g = true := by
  unfold wayOf
  cases h : placeL t f c (l.zip o) (List.replicate t.length (-1)) with
  | none => simp
  | some s' =>
    simp only [Option.some.injEq]
    by_cases q : fitsL (pressL f c s') r g = true
    · rw [if_pos q]
      constructor
      · intro e; cases e; exact ⟨rfl, q⟩
      · rintro ⟨rfl, _⟩; rfl
    · rw [if_neg q]
      constructor
      · intro e; cases e
      · rintro ⟨rfl, z⟩; exact absurd z q
section
variable {t : List Int} {f c : Int} {l : List Int} {r g : Int}
theorem rows_lt {n k : Nat} {o : List Nat} (h : o ∈ FWY.rowsP n k) : ∀ j ∈ o, j < n := fun j hj => List.mem_range.mp (FWY.perms_mem h j hj)
theorem way_mem (c0 : 0 ≤ c) {s : List Int} : s ∈ (FWY.rowsP t.length l.length).filterMap (wayOf t f c l r g) ↔ IsWay t f c l r g s := by
  rw [List.mem_filterMap]
  constructor
  · rintro ⟨o, ho, e⟩
    obtain ⟨h1, h2⟩ := wayOf_some.mp e
    obtain ⟨h3, h4, h5⟩ := placed_is c0 (FWY.perms_len ho) (perms_nd List.nodup_range ho) (rows_lt ho) h1
    refine ⟨h3, ?_, h2⟩
    rw [sound_idx h3.len, ← h5]
    exact h4.map _
  · intro w
    have p := w.pm
    rw [sound_idx w.ok.len] at p
    obtain ⟨o, h1, h2⟩ := perm_lift p rfl
    refine ⟨o, perms_all (by rw [← h2, List.length_map]) ((List.Perm.nodup_iff h1).mpr (idx_nd s)) (fun j hj => List.mem_range.mpr ?_), wayOf_some.mpr ⟨placed_of w.ok h1 h2, w.ft⟩⟩
    have := h1.mem_iff.mp hj
    unfold idxL at this
    rw [List.mem_filter, List.mem_range, w.ok.len] at this
    exact this.1
theorem way_nd (c0 : 0 ≤ c) (nd : l.Nodup) : ((FWY.rowsP t.length l.length).filterMap (wayOf t f c l r g)).Nodup := by
  have key : (FWY.rowsP t.length l.length).Pairwise fun a b => a ∈ FWY.rowsP t.length l.length ∧ b ∈ FWY.rowsP t.length l.length ∧ a ≠ b :=
    List.Pairwise.imp_of_mem (fun ha hb h => ⟨ha, hb, h⟩) (perms_nodup List.nodup_range)
  refine List.Pairwise.filterMap _ (fun a b ⟨ha, hb, hn⟩ s es s' es' e => ?_) key
  subst e
  obtain ⟨h1, _⟩ := wayOf_some.mp es
  obtain ⟨g1, _⟩ := wayOf_some.mp es'
  obtain ⟨_, h4, h5⟩ := placed_is c0 (FWY.perms_len ha) (perms_nd List.nodup_range ha) (rows_lt ha) h1
  obtain ⟨_, g4, g5⟩ := placed_is c0 (FWY.perms_len hb) (perms_nd List.nodup_range hb) (rows_lt hb) g1
  exact hn (nodup_at nd h5 g5 fun x hx => h4.mem_iff.mp (g4.mem_iff.mpr hx))
end

/-! ### ways -/
def f_ways : Fn := fun ds R => ∃ t f c l r g, ds = [neckD t f c, intsD l, intsD [r, g]] ∧ OkNeck t f c ∧ OkChord l ∧ OkHand [r, g] ∧
  ∀ ss : List (List Int), (∀ s, s ∈ ss ↔ IsWay t f c l r g s) → ss.Nodup → ss.Pairwise FWY.leL → ss.length ≤ 1000 → R (ss.map tupD)
theorem len_ways : ∀ ds R, f_ways ds R → ds.length = 3 := by
  rintro ds R ⟨t, f, c, l, r, g, rfl, _⟩; rfl
@[simp] theorem ways_iff {t l : List Int} {f c r g : Int} {R : List D → Prop} : f_ways [neckD t f c, intsD l, intsD [r, g]] R ↔ OkNeck t f c ∧ OkChord l ∧ OkHand [r, g] ∧ ∀ ss : List (List Int), (∀ s, s ∈ ss ↔ IsWay t f c l r g s) → ss.Nodup → ss.Pairwise FWY.leL → ss.length ≤ 1000 → R (ss.map tupD) := by
  constructor
  · rintro ⟨t', f', c', l', r', g', e, h⟩; simp at e; obtain ⟨⟨rfl, rfl, rfl⟩, rfl, rfl, rfl⟩ := e; exact h
  · intro h; exact ⟨_, _, _, _, _, _, rfl, h⟩
theorem rows_count : ∀ n, n ≤ 6 → ∀ k, k ≤ 6 → (FWY.rowsP n k).length ≤ 720 := by
  have h : ((List.range 7).all fun n => (List.range 7).all fun k => decide ((FWY.rowsP n k).length ≤ 720)) = true := by decide +kernel
  intro n hn k hk
  exact of_decide_eq_true (List.all_eq_true.mp (List.all_eq_true.mp h n (List.mem_range.mpr (by omega))) k (List.mem_range.mpr (by omega)))
def W_ways : WS := (dSeq (dDrop (dCall f_check_neck (aCons (dVar 0) aNil))) (dSeq (dDrop (dCall (withI f_check_chord 0) (aCons (dVar 1) aNil))) (dSeq (dDrop (dCall f_check_hand (aCons (dVar 2) aNil))) (dSeq (dUnp [3, 4, 4] (dVar 0)) (dSeq (dOwn 5 (nLst aNil)) (dSeq (dFor (iPrmW (dCall rdLen (aCons (dVar 3) aNil)) (dCall rdLen (aCons (dVar 1) aNil))) (tgN 6) (dSeq (dAsg 7 (dCall f_placed (aCons (dVar 0) (aCons (dVar 1) (aCons (dVar 6) aNil))))) (dIfS (bAnd (bB (dNotN (dVar 7))) (bTru (dCall f_fits (aCons (dVar 0) (aCons (dVar 7) (aCons (dVar 2) aNil)))))) (dApp 5 (dVar 7)) dNext))) (dFrz 5 (dRetL (nSrtT (aCons (dVar 5) aNil))))))))))
def N_ways : List Str := ["neck", "chord", "hand", "tuning", "_", "found", "strings", "shape"]
theorem sc_ways : FnScope ["neck", "chord", "hand", "tuning", "_", "found", "strings", "shape"] ["neck", "chord", "hand"] (defScope s_ways) := ⟨rfl, rfl, rfl, by decide +kernel, rfl, by decide +kernel, by decide +kernel⟩
theorem ways_loop {t : List Int} {f c : Int} {l : List Int} {r g : Int} {x3 x4 : Sl} {De : EndsD} (lt : t.length ≤ 1000) : ∀ (os : List (List Nat)) (acc : List (List Int)) (u v : Sl), (∀ o ∈ os, ∀ j ∈ o, j < t.length) → acc.length + os.length ≤ 1000 →
    (∀ u' v', De.nx [Sl.val (neckD t f c), .val (intsD l), .val (intsD [r, g]), x3, x4, .own ((acc ++ os.filterMap (wayOf t f c l r g)).map tupD), u', v']) →
    forRun (tgN 6) (dSeq (dAsg 7 (dCall f_placed (aCons (dVar 0) (aCons (dVar 1) (aCons (dVar 6) aNil))))) (dIfS (bAnd (bB (dNotN (dVar 7))) (bTru (dCall f_fits (aCons (dVar 0) (aCons (dVar 7) (aCons (dVar 2) aNil)))))) (dApp 5 (dVar 7)) dNext)) De
      (os.map prmD) [Sl.val (neckD t f c), .val (intsD l), .val (intsD [r, g]), x3, x4, .own (acc.map tupD), u, v]
  | [], acc, u, v, _, _, h => by
    simp only [List.map_nil, forRun]
    simpa using h u v
  | o :: os, acc, u, v, ho, hn, h => by
    rw [List.length_cons] at hn
    simp only [List.map_cons, forRun]
    simp
    refine ⟨ho o (List.mem_cons_self ..), lt, ?_⟩
    have ho' := fun o' h' => ho o' (List.mem_cons_of_mem _ h')
    unfold placeD
    cases e : placeL t f c (l.zip o) (List.replicate t.length (-1)) with
    | none =>
      have w : wayOf t f c l r g o = none := by unfold wayOf; rw [e]
      rw [List.filterMap_cons_none w] at h
      simpa using ways_loop lt os acc _ _ ho' (by omega) h
    | some s =>
      simp
      have ls : s.length = t.length := by
        have := (place_keep e).1
        rwa [List.length_replicate] at this
      refine ⟨t, f, c, s, r, g, by simp, by omega, ?_⟩
      by_cases q : fitsL (pressL f c s) r g = true
      · have w : wayOf t f c l r g o = some s := wayOf_some.mpr ⟨e, q⟩
        rw [List.filterMap_cons_some w] at h
        have := ways_loop lt os (acc ++ [s]) (.val (prmD o)) (.val (intsD s)) ho' (by rw [List.length_append]; simp; omega) (by simpa using h)
        rw [List.map_append] at this
        simp [q]
        exact ⟨by omega, this⟩
      · have w : wayOf t f c l r g o = none := by
          cases z : wayOf t f c l r g o with
          | none => rfl
          | some s' =>
            obtain ⟨h1, h2⟩ := wayOf_some.mp z
            rw [e] at h1
            cases h1
            exact absurd h2 q
        rw [List.filterMap_cons_none w] at h
        have q' : fitsL (pressL f c s) r g = false := by simpa using q
        simpa [q'] using ways_loop lt os acc _ _ ho' (by omega) h
theorem pure_ways : ∀ ds R, f_ways ds R → W_ways { nx := fun _ => False, rt := fun _ => False, rn := R } (startD N_ways ds) := by
  rintro ds R ⟨t, f, c, l, r, g, rfl, ok, oc, oh, h⟩
  have l1 := ok.l1
  have l2 := ok.l2
  have c1 := oc.l1
  have c2 := oc.l2
  simp [W_ways, N_ways]
  refine ⟨t, f, c, rfl, ok, oc, oh, ?_⟩
  simp [neckD]
  refine ⟨t.length, by simp [intsD], l2, l.length, by simp [intsD], c2, ?_⟩
  refine ways_loop (t := t) (f := f) (c := c) (l := l) (r := r) (g := g) (by omega) _ [] .un .un (fun o ho => rows_lt ho) (by have := rows_count _ l2 _ c2; simp; omega) fun u v => ?_
  rw [List.nil_append]
  have nd := way_nd (t := t) (f := f) (c := c) (r := r) (g := g) ok.c0 (pw_nodup (rises_pw oc.up))
  have mm := fun s => way_mem (t := t) (f := f) (l := l) (r := r) (g := g) (s := s) ok.c0
  have wl : ((FWY.rowsP t.length l.length).filterMap (wayOf t f c l r g)).length ≤ 1000 := Nat.le_trans (List.length_filterMap_le ..) (Nat.le_trans (rows_count _ l2 _ c2) (by decide))
  generalize (FWY.rowsP t.length l.length).filterMap (wayOf t f c l r g) = ws at nd mm wl
  simp
  refine ⟨ws, rfl, t.length, l1, fun p hp => ((mm p).mp hp).ok.len, fun qs hq hs => h qs (fun s => by rw [hq.mem_iff]; exact mm s) ((List.Perm.nodup_iff hq).mpr nd) hs (by rw [hq.length_eq]; exact wl)⟩
section
variable {P : Program} {w : World} {g : Glb} {mg : Str → Option Value} {base : Heap}
theorem ok_ways {f : Addr} {fd : FuncData} (F : FunP g.K "ways" s_ways f fd) (mgf : mg "ways" = some (.ref f)) (T : Txt mg) (C_check_neck : C8.Cal P w g.K mg base 2 "check_neck" (spD g f_check_neck) []) (C_check_chord : C8.Cal P w g.K mg base 2 "check_chord" (spD g f_check_chord) [V.int 0]) (C_check_hand : C8.Cal P w g.K mg base 2 "check_hand" (spD g f_check_hand) []) (C_placed : C8.Cal P w g.K mg base 2 "_placed" (spD g f_placed) []) (C_fits : C8.Cal P w g.K mg base 3 "_fits" (spD g f_fits) []) (PRM : mg "permutations" = some (.type "itertools.permutations")) : C8.Cal P w g.K mg base 4 "ways" (spN g f_ways) [] :=
  calN (N := ["neck", "chord", "hand", "tuning", "_", "found", "strings", "shape"]) (ps := ["neck", "chord", "hand"]) (k := 3) (wb := W_ways) F mgf (F.bindsN fun _ _ _ _ _ _ us hl => match us, hl with | [_, _, _], _ => rfl) sc_ways len_ways (fun cdv A outer s H E r a ns hr =>
    (pssd_cons (ps_w (ps_expr (pe_w (C8.pe_c C_check_neck hr (by decide) (by rfl) (pa_w (pa_cons (pe_w (pv 0) xd_var) (pa_w pa_nil xa_nil)) xa_cons)) xd_call)) xs_drop) (pssd_cons (ps_w (ps_expr (pe_w (C8.pe_c C_check_chord hr (by decide) (by rfl) (pa_w (pa_cons (pe_w (pv 1) xd_var) (pa_w pa_nil xa_nil)) xa_cons)) xd_callI)) xs_drop) (pssd_cons (ps_w (ps_expr (pe_w (C8.pe_c C_check_hand hr (by decide) (by rfl) (pa_w (pa_cons (pe_w (pv 2) xd_var) (pa_w pa_nil xa_nil)) xa_cons)) xd_call)) xs_drop) (pssd_cons (ps_w (ps_asg (pe_w (pv 0) xd_var) (pg_tup rfl (pgs_cons (pg_name (i := 3) sc_ways.nd rfl (.inl rfl)) (pgs_cons (pg_name (i := 4) sc_ways.nd rfl (.inl rfl)) (pgs_cons (pg_name (i := 4) sc_ways.nd rfl (.inl rfl)) pgs_nil))))) (xs_unp (is := [3, 4, 4]) rfl)) (pssd_cons (ps_w (ps_set (i := 5) sc_ways.nd rfl (.inl rfl) (pe_w (pe_lst (pa_w pa_nil xa_nil)) xn_lst)) xs_own) (pssd_cons (ps_w (ps_for (g := gName 6) PassesOwn.never rfl (pi_w (FWY.pi_prm rfl (by rfl) PRM (pa_cons (pe_callTy FWY.cr_rng1 (by rfl) T.m_range (by decide +kernel) (pa_w (pa_cons (pe_w (pe_callB call_len_seq (by rfl) T.m_len PySem.boot_len (pa_w (pa_cons (pe_w (pv 3) xd_var) (pa_w pa_nil xa_nil)) xa_cons)) (xd_cb cd_len)) (pa_w pa_nil xa_nil)) xa_cons)) (pa_cons (pe_w (pe_callB call_len_seq (by rfl) T.m_len PySem.boot_len (pa_w (pa_cons (pe_w (pv 1) xd_var) (pa_w pa_nil xa_nil)) xa_cons)) (xd_cb cd_len)) pa_nil))) xi_prm) (pg_name (i := 6) sc_ways.nd rfl (.inl rfl)) (pssd_cons (ps_w (ps_set (i := 7) sc_ways.nd rfl (.inl rfl) (pe_w (C8.pe_c C_placed hr (by decide) (by rfl) (pa_w (pa_cons (pe_w (pv 0) xd_var) (pa_w (pa_cons (pe_w (pv 1) xd_var) (pa_w (pa_cons (pe_w (pv 6) xd_var) (pa_w pa_nil xa_nil)) xa_cons)) xa_cons)) xa_cons)) xd_call)) xs_asg) (pssd_one (ps_w (ps_if (PW.pt (pw_w (pw_and (pt_w (pt_cmp (pc_notN (pe_w (pv 7) xd_var))) xt_notN) (pw_and1 (pt_w (pt_truth (pe_w (C8.pe_c C_fits hr (by decide) (by rfl) (pa_w (pa_cons (pe_w (pv 0) xd_var) (pa_w (pa_cons (pe_w (pv 7) xd_var) (pa_w (pa_cons (pe_w (pv 2) xd_var) (pa_w pa_nil xa_nil)) xa_cons)) xa_cons)) xa_cons)) xd_call) (by intro _; rfl)) xt_tru))) xt_and)) (pssd_one (ps_w (ps_expr (pe_bm PySem.F.plainAttrs_list PySem.F.slot_list_append PySem.F.type_list_append mt_append (pv 5) (pa_cons (pe_w (pv 7) xd_var) pa_nil))) xs_app)) pssd_nil) xs_if)))) (xs_for gd_name)) (pss_w (pssd_one (ps_w (ps_ret (pe_w (pe_callB FWY.cr_srtT (by rfl) T.m_sorted (by decide +kernel) (pa_w (pa_cons (pe_w (pv 5) xd_var) (pa_w pa_nil xa_nil)) xa_cons)) xn_srtT)) xs_retL)) xs_frz)))))))) pure_ways
end

/-! ### slid -/
def f_slid : Fd := fun ds R => ∃ t f c s far, ds = [neckD t f c, intsD s, .int far] ∧ OkNeck t f c ∧ OkShape t f c s ∧ R (slidD f c s far)
theorem len_slid : ∀ ds R, f_slid ds R → ds.length = 3 := by
  rintro ds R ⟨t, f, c, s, far, rfl, _⟩; rfl
@[simp] theorem slid_iff {t s : List Int} {f c far : Int} {R : D → Prop} : f_slid [neckD t f c, intsD s, .int far] R ↔ OkNeck t f c ∧ OkShape t f c s ∧ R (slidD f c s far) := by
  constructor
  · rintro ⟨t', f', c', s', far', e, h⟩; simp at e; obtain ⟨⟨rfl, rfl, rfl⟩, rfl, rfl⟩ := e; simpa [and_assoc] using h
  · intro h; exact ⟨_, _, _, _, _, rfl, by simpa [and_assoc] using h⟩
def W_slid : WS := (dSeq (dDrop (dCall f_check_neck (aCons (dVar 0) aNil))) (dSeq (dDrop (dCall f_check_shape (aCons (dVar 0) (aCons (dVar 1) aNil)))) (dRet (dCall f_moved (aCons (dVar 0) (aCons (dVar 1) (aCons (dVar 2) aNil)))))))
def N_slid : List Str := ["neck", "shape", "far"]
theorem sc_slid : FnScope ["neck", "shape", "far"] ["neck", "shape", "far"] (defScope s_slid) := ⟨rfl, rfl, rfl, by decide +kernel, rfl, by decide +kernel, by decide +kernel⟩
theorem pure_slid : ∀ ds R, f_slid ds R → W_slid { nx := fun _ => R .none, rt := R } (startD ["neck", "shape", "far"] ds) := by
  rintro ds R ⟨t, f, c, s, far, rfl, ok, os, h⟩
  simp [W_slid]
  have := ok.l2
  have := os.len
  exact ⟨t, f, c, rfl, ok, t, f, c, s, rfl, os, t, f, c, s, far, rfl, by omega, h⟩
section
variable {P : Program} {w : World} {g : Glb} {mg : Str → Option Value} {base : Heap}
theorem ok_slid {f : Addr} {fd : FuncData} (F : FunP g.K "slid" s_slid f fd) (mgf : mg "slid" = some (.ref f)) (T : Txt mg) (C_check_neck : C8.Cal P w g.K mg base 2 "check_neck" (spD g f_check_neck) []) (C_check_shape : C8.Cal P w g.K mg base 2 "check_shape" (spD g f_check_shape) []) (C_moved : C8.Cal P w g.K mg base 3 "_moved" (spD g f_moved) []) : C8.Cal P w g.K mg base 4 "slid" (spD g f_slid) [] :=
  calD (N := ["neck", "shape", "far"]) (ps := ["neck", "shape", "far"]) (k := 3) (wb := W_slid) F mgf (F.bindsN fun _ _ _ _ _ _ us hl => match us, hl with | [_, _, _], _ => rfl) sc_slid len_slid (fun cdv A outer s H E r a ns hr =>
    (pssd_cons (ps_w (ps_expr (pe_w (C8.pe_c C_check_neck hr (by decide) (by rfl) (pa_w (pa_cons (pe_w (pv 0) xd_var) (pa_w pa_nil xa_nil)) xa_cons)) xd_call)) xs_drop) (pssd_cons (ps_w (ps_expr (pe_w (C8.pe_c C_check_shape hr (by decide) (by rfl) (pa_w (pa_cons (pe_w (pv 0) xd_var) (pa_w (pa_cons (pe_w (pv 1) xd_var) (pa_w pa_nil xa_nil)) xa_cons)) xa_cons)) xd_call)) xs_drop) (pssd_one (ps_w (ps_ret (pe_w (C8.pe_c C_moved hr (by decide) (by rfl) (pa_w (pa_cons (pe_w (pv 0) xd_var) (pa_w (pa_cons (pe_w (pv 1) xd_var) (pa_w (pa_cons (pe_w (pv 2) xd_var) (pa_w pa_nil xa_nil)) xa_cons)) xa_cons)) xa_cons)) xd_call)) xs_ret))))) pure_slid
end

/-! ### notes: what it promises -/
/-- a note that the neck has -/
def sounds (t : List Int) (f c n : Int) : Bool := t.any fun x => decide (c ≤ n - x) && decide (n - x ≤ f)
/-- all of them, rising -/
def notesL (t : List Int) (f c : Int) : List Int := ((List.range 81).map fun (k : Nat) => (k : Int)).filter (sounds t f c)
def f_notes : Fn := fun ds R => ∃ t f c, ds = [neckD t f c] ∧ OkNeck t f c ∧ R ((notesL t f c).map PyData.int)
theorem len_notes : ∀ ds R, f_notes ds R → ds.length = 1 := by
  rintro ds R ⟨t, f, c, rfl, _⟩; rfl
@[simp] theorem notes_iff {t : List Int} {f c : Int} {R : List D → Prop} : f_notes [neckD t f c] R ↔ OkNeck t f c ∧ R ((notesL t f c).map PyData.int) := by
  constructor
  · rintro ⟨t', f', c', e, h⟩; simp at e; obtain ⟨rfl, rfl, rfl⟩ := e; exact h
  · intro h; exact ⟨_, _, _, rfl, h⟩
theorem notes_ne {t : List Int} {f c : Int} (ok : OkNeck t f c) : notesL t f c ≠ [] := by
  cases t with
  | nil => have := ok.l1; simp at this
  | cons x r =>
    have hx := ok.n x List.mem_cons_self
    have c0 := ok.c0
    have c1 := ok.c1
    have f1 := ok.f1
    intro z
    have : (x + c) ∈ notesL (x :: r) f c := by
      unfold notesL
      refine List.mem_filter.mpr ⟨List.mem_map.mpr ⟨(x + c).toNat, List.mem_range.mpr (by omega), by omega⟩, ?_⟩
      unfold sounds
      rw [List.any_cons]
      simp
      left
      omega
    rw [z] at this
    cases this
theorem notes_len {t : List Int} {f c : Int} : (notesL t f c).length ≤ 81 := by
  unfold notesL
  refine Nat.le_trans (List.length_filter_le _ _) (by simp)
theorem notes_at {t : List Int} {f c n : Int} (h : n ∈ notesL t f c) : 0 ≤ n ∧ n ≤ 80 := by
  obtain ⟨h1, _⟩ := List.mem_filter.mp h
  obtain ⟨k, hk, rfl⟩ := List.mem_map.mp h1
  have := List.mem_range.mp hk
  omega
theorem notes_mem {t : List Int} {f c : Int} (ok : OkNeck t f c) {k : Int} : k ∈ notesL t f c ↔ ∃ x ∈ t, c ≤ k - x ∧ k - x ≤ f := by
  unfold notesL sounds
  rw [List.mem_filter, List.any_eq_true]
  constructor
  · rintro ⟨_, x, h1, h2⟩
    exact ⟨x, h1, by simpa using h2⟩
  · rintro ⟨x, h1, h2⟩
    have := ok.n x h1
    have := ok.c0
    have := ok.f1
    exact ⟨List.mem_map.mpr ⟨k.toNat, List.mem_range.mpr (by omega), by omega⟩, x, h1, by simpa using h2⟩
theorem notes_rise {t : List Int} {f c : Int} : (notesL t f c).Pairwise (· < ·) := by
  unfold notesL
  refine List.Pairwise.filter _ (List.pairwise_map.mpr (List.Pairwise.imp (fun h => ?_) List.pairwise_lt_range))
  omega
def rowOf (f c x : Int) : List Int := (List.range (f + 1 - c).toNat).map fun (j : Nat) => x + (c + (j : Int))
def W_notes : WS := (dSeq (dDrop (dCall f_check_neck (aCons (dVar 0) aNil))) (dSeq (dUnp [1, 2, 3] (dVar 0)) (dRetL (nSrtSet (iTpl (dVar 1)) (tgN 4) (iR2 (aCons (dVar 3) (aCons (dOp rdAdd (dVar 2) (dC (.int 1))) aNil))) (tgN 5) (dOp rdAdd (dVar 4) (dVar 5)) [4, 5] [5]))))
def N_notes : List Str := ["neck", "tuning", "frets", "capo", "start", "fret"]
theorem sc_notes : FnScope ["neck", "tuning", "frets", "capo", "start", "fret"] ["neck"] (defScope s_notes) := ⟨rfl, rfl, rfl, by decide +kernel, rfl, by decide +kernel, by decide +kernel⟩
theorem pure_notes : ∀ ds R, f_notes ds R → W_notes { nx := fun _ => False, rt := fun _ => False, rn := R } (startD N_notes ds) := by
  rintro ds R ⟨t, f, c, rfl, ok, h⟩
  simp [N_notes, W_notes]
  refine ⟨t, f, c, rfl, ok, ?_⟩
  have l2 := ok.l2
  have c0 := ok.c0
  have c1 := ok.c1
  have f1 := ok.f1
  simp [neckD]
  refine ⟨by omega, ?_⟩
  refine scOut_det (fun d => match d with | .int x => rowOf f c x | _ => []) _ _ (fun d hd acc K k => ?_) fun ns h1 h2 => ?_
  · obtain ⟨x, hx, rfl⟩ := List.mem_map.mp hd
    simp [scTurn]
    refine ⟨c, f + 1, ⟨rfl, rfl⟩, ⟨by omega, by omega, by omega, by omega⟩, by omega, ?_⟩
    refine scIn_det (fun d => match d with | .int y => x + y | _ => 0) _ _ (fun d hd K' k' => ?_) ?_
    · unfold rngD at hd
      obtain ⟨j, _, rfl⟩ := List.mem_map.mp hd
      simp
      exact k'
    · have e : (rngD c (f + 1 - c).toNat).map (fun d => match d with | .int y => x + y | _ => 0) = rowOf f c x := by
        unfold rngD rowOf
        rw [List.map_map]
        rfl
      rw [e]
      exact k
  · have e : ns = notesL t f c := rise_uniq h1 notes_rise fun k => by
      rw [h2, notes_mem ok, List.nil_append, List.mem_flatMap]
      constructor
      · rintro ⟨d, hd, hk⟩
        obtain ⟨x, hx, rfl⟩ := List.mem_map.mp hd
        obtain ⟨j, hj, rfl⟩ := List.mem_map.mp (show k ∈ rowOf f c x from hk)
        have := List.mem_range.mp hj
        exact ⟨x, hx, by omega, by omega⟩
      · rintro ⟨x, hx, k1, k2⟩
        refine ⟨.int x, List.mem_map.mpr ⟨x, hx, rfl⟩, ?_⟩
        show k ∈ rowOf f c x
        exact List.mem_map.mpr ⟨(k - x - c).toNat, List.mem_range.mpr (by omega), by omega⟩
    rw [e]
    exact h
section
variable {P : Program} {w : World} {g : Glb} {mg : Str → Option Value} {base : Heap}
theorem ok_notes {f : Addr} {fd : FuncData} (F : FunP g.K "notes" s_notes f fd) (mgf : mg "notes" = some (.ref f)) (T : Txt mg) (C_check_neck : C8.Cal P w g.K mg base 2 "check_neck" (spD g f_check_neck) []) : C8.Cal P w g.K mg base 3 "notes" (spN g f_notes) [] :=
  calN (N := ["neck", "tuning", "frets", "capo", "start", "fret"]) (ps := ["neck"]) (k := 2) (wb := W_notes) F mgf (F.bindsN fun _ _ _ _ _ _ us hl => match us, hl with | [_], _ => rfl) sc_notes len_notes (fun cdv A outer s H E r a ns hr =>
    (pssd_cons (ps_w (ps_expr (pe_w (C8.pe_c C_check_neck hr (by decide) (by rfl) (pa_w (pa_cons (pe_w (pv 0) xd_var) (pa_w pa_nil xa_nil)) xa_cons)) xd_call)) xs_drop) (pssd_cons (ps_w (ps_asg (pe_w (pv 0) xd_var) (pg_tup rfl (pgs_cons (pg_name (i := 1) sc_notes.nd rfl (.inl rfl)) (pgs_cons (pg_name (i := 2) sc_notes.nd rfl (.inr rfl)) (pgs_cons (pg_name (i := 3) sc_notes.nd rfl (.inr rfl)) pgs_nil))))) (xs_unp (is := [1, 2, 3]) rfl)) (pssd_one (ps_w (ps_ret (pe_w (pe_callB (FWS.cr_srtS rfl) (by rfl) T.m_sorted (by decide +kernel) (pa_cons (FWS.pe_sc (own := [("start", 4), ("fret", 5)]) (vs1 := [5]) (g := gName 4) (g1 := gName 5) rfl sc_notes.nd (pi_w (pi_tup (pe_w (pv 1) xd_var)) xi_tup) (blkOk_by (own := [("start", 4), ("fret", 5)]) (N := ["neck", "tuning", "frets", "capo", "start", "fret"]) (sc := (defScope s_notes)) (by decide +kernel)) (by decide) (fun _ _ _ _ _ => (pg_name (i := 4) sc_notes.nd rfl (.inl rfl))) (fun _ _ _ _ _ => (pi_w (pi_range2 (by rfl) T.m_range (pa_w (pa_cons (pe_w (pv 3) xd_var) (pa_w (pa_cons (pe_w (pe_op op_add (pe_w (pv 2) xd_var) (pe_w pe_int (xd_c fun _ => .int))) (xd_op od_add)) (pa_w pa_nil xa_nil)) xa_cons)) xa_cons)) xi_rng2)) (fun _ _ _ _ _ => (pg_name (i := 5) sc_notes.nd rfl (.inl rfl))) (fun _ _ _ _ _ => (pe_w (pe_op op_add (pe_w (pv 4) xd_var) (pe_w (pv 5) xd_var)) (xd_op od_add)))) pa_nil)) (xn_srt gd_name (stores_two (by decide)) gd_name stores_name))) xs_retL))))) pure_notes
end

/-! ### missing -/
def missL (l : List Int) : List Int := ((List.range ((l.getLastD 0) - (l.headD 0)).toNat).map fun (k : Nat) => l.headD 0 + (k : Int)).filter fun n => !l.contains n
def f_missing : Fn := fun ds R => ∃ t f c, ds = [neckD t f c] ∧ OkNeck t f c ∧ R ((missL (notesL t f c)).map PyData.int)
theorem len_missing : ∀ ds R, f_missing ds R → ds.length = 1 := by
  rintro ds R ⟨t, f, c, rfl, _⟩; rfl
@[simp] theorem missing_iff {t : List Int} {f c : Int} {R : List D → Prop} : f_missing [neckD t f c] R ↔ OkNeck t f c ∧ R ((missL (notesL t f c)).map PyData.int) := by
  constructor
  · rintro ⟨t', f', c', e, h⟩; simp at e; obtain ⟨rfl, rfl, rfl⟩ := e; exact h
  · intro h; exact ⟨_, _, _, rfl, h⟩
def W_missing : WS := (dSeq (dAsg 1 (dN (nCall f_notes (aCons (dVar 0) aNil)))) (dRetL (dLcW (iR2 (aCons (dOp rdIx (dVar 1) (dC (.int 0))) (aCons (dOp rdIx (dVar 1) (dNeg (dC (.int 1)))) aNil))) (tgN 2) (bB (dOp (rdInI true) (dVar 2) (dVar 1))) (dVar 2) [2])))
def N_missing : List Str := ["neck", "heard", "note"]
theorem sc_missing : FnScope ["neck", "heard", "note"] ["neck"] (defScope s_missing) := ⟨rfl, rfl, rfl, by decide +kernel, rfl, by decide +kernel, by decide +kernel⟩
theorem pure_missing : ∀ ds R, f_missing ds R → W_missing { nx := fun _ => False, rt := fun _ => False, rn := R } (startD N_missing ds) := by
  rintro ds R ⟨t, f, c, rfl, ok, h⟩
  simp [N_missing, W_missing]
  refine ⟨ok, ?_⟩
  have ne := notes_ne ok
  have ha := fun n => @notes_at t f c n
  generalize notesL t f c = l at ne h ha ⊢
  have g0 : atI (l.map PyData.int) 0 = some (PyData.int (l.headD 0)) := by
    cases l with
    | nil => exact absurd rfl ne
    | cons a r => exact atI_nat (j := 0) rfl
  have g1 : atI (l.map PyData.int) (-1) = some (PyData.int (l.getLastD 0)) := by
    have e : l = l.dropLast ++ [l.getLast ne] := (List.dropLast_concat_getLast ne).symm
    have e2 : l.getLastD 0 = l.getLast ne := by rw [List.getLastD_eq_getLast?, List.getLast?_eq_some_getLast ne]; rfl
    rw [e2]
    conv => lhs; rw [e]
    rw [List.map_append]
    exact atI_last _ _
  have b0 : 0 ≤ l.headD 0 ∧ l.headD 0 ≤ 80 := by
    cases l with
    | nil => exact absurd rfl ne
    | cons a r => exact ha a List.mem_cons_self
  have b1 : 0 ≤ l.getLastD 0 ∧ l.getLastD 0 ≤ 80 := by
    have e2 : l.getLastD 0 = l.getLast ne := by rw [List.getLastD_eq_getLast?, List.getLast?_eq_some_getLast ne]; rfl
    rw [e2]
    exact ha _ (List.getLast_mem ne)
  unfold missL at h
  generalize l.headD 0 = lo at g0 b0 h
  generalize l.getLastD 0 = hi at g1 b1 h
  refine ⟨_, g0, _, g1, _, _, ⟨rfl, rfl⟩, ⟨by omega, by omega, by omega, by omega⟩, by omega, ?_⟩
  unfold rngD
  refine lcRun_map (φ := fun k : Nat => PyData.int (lo + (k : Int))) (fun k => !l.contains (lo + (k : Int))) (fun k => PyData.int (lo + (k : Int))) _ [] (fun k _ K kk => ?_) ?_
  · simp [rdInI]
    by_cases q : lo + (k : Int) ∈ l
    · have q2 : l.contains (lo + (k : Int)) = true := by simpa using q
      rw [q2] at kk
      exact .inl ⟨q, kk⟩
    · have q2 : l.contains (lo + (k : Int)) = false := by simpa using q
      rw [q2] at kk
      exact .inr ⟨q, kk⟩
  · rw [List.nil_append]
    rw [List.filter_map, List.map_map] at h
    exact h
section
variable {P : Program} {w : World} {g : Glb} {mg : Str → Option Value} {base : Heap}
theorem ok_missing {f : Addr} {fd : FuncData} (F : FunP g.K "missing" s_missing f fd) (mgf : mg "missing" = some (.ref f)) (T : Txt mg) (C_notes : C8.Cal P w g.K mg base 3 "notes" (spN g f_notes) []) : C8.Cal P w g.K mg base 4 "missing" (spN g f_missing) [] :=
  calN (N := ["neck", "heard", "note"]) (ps := ["neck"]) (k := 3) (wb := W_missing) F mgf (F.bindsN fun _ _ _ _ _ _ us hl => match us, hl with | [_], _ => rfl) sc_missing len_missing (fun cdv A outer s H E r a ns hr =>
    (pssd_cons (ps_w (ps_set (i := 1) sc_missing.nd rfl (.inr rfl) (pe_w (pe_w (C8.pe_c C_notes hr (by decide) (by rfl) (pa_w (pa_cons (pe_w (pv 0) xd_var) (pa_w pa_nil xa_nil)) xa_cons)) xn_call) xd_N)) xs_asg) (pssd_one (ps_w (ps_ret (pe_w (pe_lc (own := [("note", 2)]) (g := gName 2) rfl sc_missing.nd (pi_w (pi_range2 (by rfl) T.m_range (pa_w (pa_cons (pe_w (pe_ix ix_lt (pe_w (pv 1) xd_var) (pe_w pe_int (xd_c fun _ => .int)) (fun _ _ => rfl)) (xd_op od_ixL)) (pa_w (pa_cons (pe_w (pe_ix ix_lt (pe_w (pv 1) xd_var) (pe_w (pe_un un_neg (pe_w pe_int (xd_c fun _ => .int))) xd_neg) (fun _ _ => rfl)) (xd_op od_ixL)) (pa_w pa_nil xa_nil)) xa_cons)) xa_cons)) xi_rng2) (blkOk_by (own := [("note", 2)]) (N := ["neck", "heard", "note"]) (sc := (defScope s_missing)) (by decide +kernel)) (fun _ _ _ _ _ => (pg_name (i := 2) sc_missing.nd rfl (.inl rfl))) (fun _ _ _ _ _ => (pts_one (pt_w (pt_cmpR op_notIn_seq (pe_w (pv 2) xd_var) (pe_w (pv 1) xd_var) (by rfl)) (xt_cmp od_inI)))) (fun _ _ _ _ _ => (pe_w (pv 2) xd_var))) (xn_lc gd_name stores_name))) xs_retL)))) pure_missing
end

/-! ### texts: words, and what they mean -/
section
def numS (p : Int) : Str := Str.ofString (toString p)
def xS : Str := "x"
def blS : Str := " "
theorem numS_all : ∀ p : Fin 21, (numS ((p : Nat) : Int)).cps.toList.all (fun k => decide (48 ≤ k) && decide (k ≤ 57)) = true ∧ (numS ((p : Nat) : Int)).cps.size ≤ 2 ∧ numS ((p : Nat) : Int) ≠ xS := by decide +kernel
theorem numS_inj0 : ∀ p q : Fin 21, numS ((p : Nat) : Int) = numS ((q : Nat) : Int) → p = q := by decide +kernel
theorem fin21 {p : Int} (h0 : 0 ≤ p) (h1 : p ≤ 20) : ∃ k : Fin 21, p = ((k : Nat) : Int) := ⟨⟨p.toNat, by omega⟩, by show p = ((p.toNat : Nat) : Int); omega⟩
theorem numS_at {p : Int} (h0 : 0 ≤ p) (h1 : p ≤ 20) : (∀ k ∈ TL.tl (numS p), 48 ≤ k ∧ k ≤ 57) ∧ (numS p).length ≤ 2 ∧ numS p ≠ xS := by
  obtain ⟨k, rfl⟩ := fin21 h0 h1
  obtain ⟨a, b, c⟩ := numS_all k
  exact ⟨fun j hj => by simpa using List.all_eq_true.mp a j hj, b, c⟩
theorem numS_inj {p q : Int} (h0 : 0 ≤ p) (h1 : p ≤ 20) (g0 : 0 ≤ q) (g1 : q ≤ 20) (e : numS p = numS q) : p = q := by
  obtain ⟨k, rfl⟩ := fin21 h0 h1
  obtain ⟨j, rfl⟩ := fin21 g0 g1
  rw [numS_inj0 k j e]
theorem xS_tl : TL.tl xS = [120] := by decide +kernel
theorem blS_tl : TL.tl blS = [32] := by decide +kernel
/-- no sign beyond the last one -/
def GoodS (z : Str) : Prop := ∀ k ∈ TL.tl z, k < 1114112
theorem GoodS.shaped {z : Str} (h : GoodS z) : SeqAt.shaped (.str z) = true := by
  have e : PyData.strOk z = true := by
    unfold PyData.strOk
    rw [← Array.all_toList, List.all_eq_true]
    intro k hk
    exact decide_eq_true (h k hk)
  simp [SeqAt.shaped, PyData.canLay0, PyData.depth, e]
theorem numS_good {p : Int} (h0 : 0 ≤ p) (h1 : p ≤ 20) : GoodS (numS p) := fun k hk => by
  have := (numS_at h0 h1).1 k hk
  omega
theorem xS_good : GoodS xS := fun k hk => by
  rw [xS_tl] at hk
  have := List.mem_singleton.mp hk
  omega
theorem eqv_strs {a b : Str} : PyData.eqv (.str a) (.str b) = decide (a = b) := by
  show (a == b) = _
  by_cases h : a = b <;> simp [h]
theorem joinL_mem {S : List Nat} : ∀ {parts : List (List Nat)} {p : List Nat}, p ∈ parts → ∀ k ∈ p, k ∈ TL.joinL S parts
  | [q], p, hp, k, hk => by
    rw [List.mem_singleton.mp hp] at hk
    exact hk
  | a :: b :: r, p, hp, k, hk => by
    show k ∈ a ++ (S ++ TL.joinL S (b :: r))
    rcases List.mem_cons.mp hp with e | hp
    · rw [e] at hk; exact List.mem_append_left _ hk
    · exact List.mem_append_right _ (List.mem_append_right _ (joinL_mem hp k hk))
theorem joinL_of {S : List Nat} : ∀ {parts : List (List Nat)} {k : Nat}, k ∈ TL.joinL S parts → k ∈ S ∨ ∃ p ∈ parts, k ∈ p
  | [], k, h => by cases h
  | [q], k, h => .inr ⟨q, List.mem_singleton.mpr rfl, h⟩
  | a :: b :: r, k, h => by
    have h : k ∈ a ++ (S ++ TL.joinL S (b :: r)) := h
    rcases List.mem_append.mp h with h | h
    · exact .inr ⟨a, List.mem_cons_self .., h⟩
    · rcases List.mem_append.mp h with h | h
      · exact .inl h
      · rcases joinL_of h with h | ⟨p, h1, h2⟩
        · exact .inl h
        · exact .inr ⟨p, List.mem_cons_of_mem _ h1, h2⟩
theorem joinL_len {S : List Nat} (hS : S.length = 1) : ∀ parts : List (List Nat), (parts.map (·.length)).sum + parts.length ≤ (TL.joinL S parts).length + 1 ∧ (TL.joinL S parts).length ≤ (parts.map (·.length)).sum + parts.length
  | [] => by simp [TL.joinL]
  | [q] => by simp [TL.joinL]
  | a :: b :: r => by
    have ih := joinL_len hS (b :: r)
    have e : TL.joinL S (a :: b :: r) = a ++ (S ++ TL.joinL S (b :: r)) := rfl
    rw [e, List.length_append, List.length_append, hS]
    simp only [List.map_cons, List.sum_cons, List.length_cons] at ih ⊢
    omega
theorem split_tl (z : Str) : TL.tl z = TL.joinL [32] ((Txt.split z blS).map TL.tl) := by
  have := congrArg TL.tl (PySem.StrLaws.join_split z blS)
  rw [TL.tl_join, blS_tl] at this
  exact this.symm
theorem split_good {z : Str} (h : GoodS z) : ∀ w ∈ Txt.split z blS, GoodS w := fun w hw k hk => h k (by
  rw [split_tl]
  exact joinL_mem (List.mem_map.mpr ⟨w, hw, rfl⟩) k hk)
theorem len_map_tl (ws : List Str) : (ws.map TL.tl).map (·.length) = ws.map (·.length) := by
  rw [List.map_map]
  exact List.map_congr_left fun w _ => (TL.len_tl w).symm
theorem split_len (z : Str) : ((Txt.split z blS).map (·.length)).sum + (Txt.split z blS).length ≤ z.length + 1 := by
  have h := (joinL_len (S := [32]) rfl ((Txt.split z blS).map TL.tl)).1
  rw [← split_tl, len_map_tl, List.length_map, ← TL.len_tl] at h
  exact h
theorem join_tl (ws : List Str) : TL.tl (Txt.join blS ws) = TL.joinL [32] (ws.map TL.tl) := by rw [TL.join_eq, TL.tl_join, blS_tl]
theorem join_good {ws : List Str} (h : ∀ w ∈ ws, GoodS w) : GoodS (Txt.join blS ws) := fun k hk => by
  rw [join_tl] at hk
  rcases joinL_of hk with h1 | ⟨p, h1, h2⟩
  · have := List.mem_singleton.mp h1
    omega
  · obtain ⟨w, hw, rfl⟩ := List.mem_map.mp h1
    exact h w hw k h2
theorem join_len (ws : List Str) : (Txt.join blS ws).length ≤ (ws.map (·.length)).sum + ws.length := by
  have h := (joinL_len (S := [32]) rfl (ws.map TL.tl)).2
  rw [len_map_tl, List.length_map] at h
  rw [TL.len_tl, join_tl]
  exact h
/-! meanings -/
theorem getM_put (m : List (Str × Int)) (k : Str) (v : Int) (w : Str) : getM (putM m k v) w = if w = k then some v else getM m w := by
  unfold putM
  by_cases h : (m.any fun p => decide (p.1 = k)) = true
  · rw [if_pos h]
    induction m with
    | nil => cases h
    | cons p m ih =>
      unfold getM at ih ⊢
      rw [List.map_cons, List.find?_cons, List.find?_cons]
      by_cases z : p.1 = k
      · rw [if_pos z]
        by_cases y : w = k
        · rw [if_pos y, show decide (p.1 = w) = true from decide_eq_true (by rw [y, z])]
          rfl
        · rw [if_neg y, show decide (p.1 = w) = false from decide_eq_false (fun e => y (by rw [← e, z]))]
          by_cases a : (m.any fun p => decide (p.1 = k)) = true
          · have := ih a
            rw [if_neg y] at this
            exact this
          · have e : m.map (fun p => if p.1 = k then (p.1, v) else p) = m := by
              refine (List.map_congr_left fun q hq => ?_).trans (List.map_id _)
              have : ¬ q.1 = k := fun e => a (List.any_eq_true.mpr ⟨q, hq, decide_eq_true e⟩)
              rw [if_neg this]
              rfl
            rw [e]
      · rw [if_neg z]
        by_cases y : p.1 = w
        · rw [show decide (p.1 = w) = true from decide_eq_true y, if_neg (fun e => z (by rw [y, e]))]
        · rw [show decide (p.1 = w) = false from decide_eq_false y]
          refine ih ?_
          rw [List.any_cons, Bool.or_eq_true] at h
          rcases h with h | h
          · exact absurd (of_decide_eq_true h) z
          · exact h
  · rw [if_neg h]
    unfold getM
    rw [List.find?_append]
    by_cases y : w = k
    · rw [if_pos y]
      have e : m.find? (fun p => decide (p.1 = w)) = none := List.find?_eq_none.mpr fun p hp e => h (List.any_eq_true.mpr ⟨p, hp, by rw [← y]; exact e⟩)
      rw [e]
      simp [y]
    · rw [if_neg y]
      cases e : m.find? (fun p => decide (p.1 = w)) with
      | some q => rfl
      | none =>
        have : ¬ k = w := fun e => y e.symm
        simp [List.find?_cons, this]
def placesI (f c : Int) : List Int := (List.range (f + 1 - c).toNat).map fun (k : Nat) => c + (k : Int)
theorem placesI_mem {f c p : Int} : p ∈ placesI f c ↔ c ≤ p ∧ p ≤ f := by
  unfold placesI
  rw [List.mem_map]
  constructor
  · rintro ⟨k, hk, rfl⟩
    have := List.mem_range.mp hk
    omega
  · intro h
    exact ⟨(p - c).toNat, List.mem_range.mpr (by omega), by omega⟩
def meanF (l : List Int) (m : List (Str × Int)) : List (Str × Int) := l.foldl (fun m p => putM m (numS p) p) m
def meanM (f c : Int) : List (Str × Int) := putM (meanF (placesI f c) []) xS (-1)
theorem meanF_get : ∀ (l : List Int) (m : List (Str × Int)) (w : Str), (∀ p ∈ l, 0 ≤ p ∧ p ≤ 20) → (∀ q : Int, getM (meanF l m) w = some q ↔ (q ∈ l ∧ w = numS q) ∨ ((∀ p ∈ l, w ≠ numS p) ∧ getM m w = some q))
  | [], m, w, _, q => by simp [meanF]
  | a :: l, m, w, h, q => by
    have ih := meanF_get l (putM m (numS a) a) w (fun p hp => h p (List.mem_cons_of_mem _ hp)) q
    have ha := h a (List.mem_cons_self ..)
    show getM (meanF l (putM m (numS a) a)) w = some q ↔ _
    rw [ih, getM_put]
    constructor
    · rintro (⟨h1, h2⟩ | ⟨h1, h2⟩)
      · exact .inl ⟨List.mem_cons_of_mem _ h1, h2⟩
      · by_cases y : w = numS a
        · rw [if_pos y] at h2
          injection h2 with h2
          subst h2
          exact .inl ⟨List.mem_cons_self .., y⟩
        · rw [if_neg y] at h2
          refine .inr ⟨fun p hp => ?_, h2⟩
          rcases List.mem_cons.mp hp with e | hp
          · rw [e]; exact y
          · exact h1 p hp
    · rintro (⟨h1, h2⟩ | ⟨h1, h2⟩)
      · by_cases y : ∃ p ∈ l, w = numS p
        · obtain ⟨p, hp, e⟩ := y
          have hq := h q h1
          have hpp := h p (List.mem_cons_of_mem _ hp)
          have : q = p := numS_inj hq.1 hq.2 hpp.1 hpp.2 (by rw [← h2, e])
          subst this
          exact .inl ⟨hp, h2⟩
        · rcases List.mem_cons.mp h1 with e | e
          · subst e
            exact .inr ⟨fun p hp e => y ⟨p, hp, e⟩, by rw [if_pos h2]⟩
          · exact absurd ⟨q, e, h2⟩ y
      · exact .inr ⟨fun p hp => h1 p (List.mem_cons_of_mem _ hp), by rw [if_neg (h1 a (List.mem_cons_self ..))]; exact h2⟩
theorem mean_iff {f c : Int} (c0 : 0 ≤ c) (f1 : f ≤ 20) {w : Str} {q : Int} : getM (meanM f c) w = some q ↔ (w = xS ∧ q = -1) ∨ (c ≤ q ∧ q ≤ f ∧ w = numS q) := by
  have hp : ∀ p ∈ placesI f c, 0 ≤ p ∧ p ≤ 20 := fun p hp => by
    have := placesI_mem.mp hp
    omega
  unfold meanM
  rw [getM_put]
  by_cases y : w = xS
  · rw [if_pos y]
    constructor
    · intro e
      injection e with e
      exact .inl ⟨y, e.symm⟩
    · rintro (⟨_, e⟩ | ⟨h1, h2, h3⟩)
      · rw [e]
      · exact absurd (by rw [← h3, y]) (numS_at (p := q) (by omega) (by omega)).2.2
  · rw [if_neg y, meanF_get _ _ _ hp]
    constructor
    · rintro (⟨h1, h2⟩ | ⟨_, h2⟩)
      · have := placesI_mem.mp h1
        exact .inr ⟨this.1, this.2, h2⟩
      · cases h2
    · rintro (⟨e, _⟩ | ⟨h1, h2, h3⟩)
      · exact absurd e y
      · exact .inl ⟨placesI_mem.mpr ⟨h1, h2⟩, h3⟩
theorem mean_ne (f c : Int) : meanM f c ≠ [] := putM_ne _ _ _
/-! reading -/
def readWords (mm : Str → Option Int) : List Str → Option (List Int)
  | [] => some []
  | w :: ws => match mm w, readWords mm ws with
    | some p, some s => some (p :: s)
    | _, _ => none
theorem readWords_iff {mm : Str → Option Int} : ∀ {ws : List Str} {s : List Int}, readWords mm ws = some s ↔ ws.map mm = s.map some
  | [], s => by
    cases s with
    | nil => simp [readWords]
    | cons a s => simp [readWords]
  | w :: ws, s => by
    rw [readWords]
    cases hw : mm w with
    | none =>
      cases s with
      | nil => simp
      | cons a s => simp [hw]
    | some p =>
      cases hr : readWords mm ws with
      | none =>
        cases s with
        | nil => simp
        | cons a s =>
          simp [hw]
          intro _ e
          rw [readWords_iff.mpr e] at hr
          cases hr
      | some u =>
        have hu := readWords_iff.mp hr
        cases s with
        | nil => simp
        | cons a s =>
          simp [hw, hu]
          intro _
          constructor
          · intro e; rw [e]
          · intro e; exact List.map_inj_right (fun a b h => Option.some.inj h) |>.mp e
def readL (t : List Int) (f c : Int) (z : Str) : Option (List Int) := if (Txt.split z blS).length = t.length then readWords (getM (meanM f c)) (Txt.split z blS).reverse else none
def optD (o : Option (List Int)) : D := match o with
  | some s => intsD s
  | none => .none
theorem read_len {t : List Int} {f c : Int} {z : Str} {s : List Int} (h : readL t f c z = some s) : s.length = t.length := by
  unfold readL at h
  split at h
  · rename_i e
    have := congrArg List.length (readWords_iff.mp h)
    simp at this
    omega
  · cases h
/-! written -/
def wordI (p : Int) : Str := if p = -1 then xS else numS p
def textL (s : List Int) : Str := Txt.join blS (s.reverse.map wordI)
theorem wordI_at {t : List Int} {f c : Int} (ok : OkNeck t f c) {s : List Int} (os : OkShape t f c s) : ∀ p ∈ s, (32 ∉ TL.tl (wordI p)) ∧ (wordI p).length ≤ 2 ∧ GoodS (wordI p) ∧ getM (meanM f c) (wordI p) = some p := fun p hp => by
  have c0 := ok.c0
  have f1 := ok.f1
  unfold wordI
  rcases os.at_ p hp with z | ⟨z1, z2⟩
  · rw [if_pos z]
    refine ⟨?_, ?_, xS_good, (mean_iff c0 f1).mpr (.inl ⟨rfl, z⟩)⟩
    · rw [xS_tl]
      decide
    · decide +kernel
  · rw [if_neg (by omega)]
    have h := numS_at (p := p) (by omega) (by omega)
    refine ⟨fun h32 => ?_, h.2.1, numS_good (by omega) (by omega), (mean_iff c0 f1).mpr (.inr ⟨z1, z2, rfl⟩)⟩
    have := h.1 32 h32
    omega
theorem read_text {t : List Int} {f c : Int} (ok : OkNeck t f c) {s : List Int} (os : OkShape t f c s) : readL t f c (textL s) = some s := by
  have wa := wordI_at ok os
  have l1 := ok.l1
  have ls := os.len
  have e : Txt.split (textL s) blS = s.reverse.map wordI := by
    unfold textL
    refine TL.split_join blS_tl (by decide +kernel) (fun z => ?_) fun w hw => ?_
    · have := congrArg List.length z
      simp at this
      rw [this] at ls
      simp at ls
      omega
    · obtain ⟨p, hp, rfl⟩ := List.mem_map.mp hw
      exact (wa p (List.mem_reverse.mp hp)).1
  unfold readL
  rw [e, List.length_map, List.length_reverse, if_pos ls, ← List.map_reverse, List.reverse_reverse]
  refine readWords_iff.mpr ?_
  rw [List.map_map]
  exact List.map_congr_left fun p hp => (wa p hp).2.2.2
theorem text_good {t : List Int} {f c : Int} (ok : OkNeck t f c) {s : List Int} (os : OkShape t f c s) : GoodS (textL s) ∧ (textL s).length ≤ 18 ∧ ((s.reverse.map wordI).map (·.length)).sum ≤ 12 := by
  have wa := wordI_at ok os
  have l2 := ok.l2
  have ls := os.len
  have sum : ∀ l : List Int, (∀ p ∈ l, p ∈ s) → ((l.map wordI).map (·.length)).sum ≤ 2 * l.length := by
    intro l
    induction l with
    | nil => intro _; simp
    | cons a l ih =>
      intro h
      have h1 := ih fun p hp => h p (List.mem_cons_of_mem _ hp)
      have h2 := (wa a (h a (List.mem_cons_self ..))).2.1
      simp only [List.map_cons, List.sum_cons, List.length_cons]
      omega
  have h1 := sum s.reverse fun p hp => List.mem_reverse.mp hp
  rw [List.length_reverse] at h1
  refine ⟨join_good fun w hw => ?_, ?_, by omega⟩
  · obtain ⟨p, hp, rfl⟩ := List.mem_map.mp hw
    exact (wa p (List.mem_reverse.mp hp)).2.2.1
  · have := join_len (s.reverse.map wordI)
    rw [List.length_map, List.length_reverse] at this
    unfold textL
    omega
end

/-! ### what the words mean -/
def f_meanings : Fd := fun ds R => ∃ t f c, ds = [neckD t f c] ∧ 0 ≤ c ∧ c ≤ f ∧ f ≤ 20 ∧ R (.dict (dicD (meanM f c)))
theorem len_meanings : ∀ ds R, f_meanings ds R → ds.length = 1 := by
  rintro ds R ⟨t, f, c, rfl, _⟩; rfl
@[simp] theorem meanings_iff {t : List Int} {f c : Int} {R : D → Prop} : f_meanings [neckD t f c] R ↔ 0 ≤ c ∧ c ≤ f ∧ f ≤ 20 ∧ R (.dict (dicD (meanM f c))) := by
  constructor
  · rintro ⟨t', f', c', e, h⟩; simp at e; obtain ⟨rfl, rfl, rfl⟩ := e; exact h
  · intro h; exact ⟨_, _, _, rfl, h⟩
theorem dcRun_ints {g : D → (Sg → Prop) → Prop} {wk wv : W} {R : List (Str × Int) → Prop} (ks : Int → Str) : ∀ (l : List Int) (m : List (Str × Int)),
    (∀ p ∈ l, ∀ K : Str → Int → Prop, K (ks p) p → g (.int p) fun e => wk e fun y => wv e fun z => ∃ (k : Str) (v : Int), y = .str k ∧ z = .int v ∧ K k v) → R (l.foldl (fun m p => putM m (ks p) p) m) → dcRun g wk wv R (l.map .int) m
  | [], m, _, r => r
  | p :: l, m, t, r => t p (List.mem_cons_self ..) (fun k v => dcRun g wk wv R (l.map .int) (putM m k v)) (dcRun_ints ks l _ (fun q hq => t q (List.mem_cons_of_mem _ hq)) r)
def W_meanings : WS := (dSeq (dUnp [1, 2, 3] (dVar 0)) (dSeq (dDict 4 (iR2 (aCons (dVar 3) (aCons (dOp rdAdd (dVar 2) (dC (.int 1))) aNil))) (tgN 5) (dCall rdStrI (aCons (dVar 5) aNil)) (dVar 5) [5] "x" (-1)) (dRet (dVar 4))))
def N_meanings : List Str := ["neck", "_", "frets", "capo", "meanings", "fret"]
theorem sc_meanings : FnScope ["neck", "_", "frets", "capo", "meanings", "fret"] ["neck"] (defScope s_meanings) := ⟨rfl, rfl, rfl, by decide +kernel, rfl, by decide +kernel, by decide +kernel⟩
theorem pure_meanings : ∀ ds R, f_meanings ds R → W_meanings { nx := fun _ => R .none, rt := R } (startD N_meanings ds) := by
  rintro ds R ⟨t, f, c, rfl, c0, c1, f1, h⟩
  simp [W_meanings, N_meanings, neckD]
  refine ⟨c, f + 1, ⟨rfl, rfl⟩, ⟨by omega, by omega, by omega, by omega⟩, by omega, ?_⟩
  have e : rngD c (f + 1 - c).toNat = (placesI f c).map .int := by unfold rngD placesI; rw [List.map_map]; rfl
  rw [e]
  refine dcRun_ints numS (placesI f c) [] (fun p hp K k => ?_) h
  have := placesI_mem.mp hp
  simp
  exact ⟨by omega, by omega, k⟩
section
variable {P : Program} {w : World} {g : Glb} {mg : Str → Option Value} {base : Heap}
theorem ok_meanings {f : Addr} {fd : FuncData} (F : FunP g.K "_meanings" s_meanings f fd) (mgf : mg "_meanings" = some (.ref f)) (T : Txt mg)  : C8.Cal P w g.K mg base 1 "_meanings" (spD g f_meanings) [] :=
  calD (N := ["neck", "_", "frets", "capo", "meanings", "fret"]) (ps := ["neck"]) (k := 0) (wb := W_meanings) F mgf (F.bindsN fun _ _ _ _ _ _ us hl => match us, hl with | [_], _ => rfl) sc_meanings len_meanings (fun cdv A outer s H E r a ns hr =>
    (pssd_cons (ps_w (ps_asg (pe_w (pv 0) xd_var) (pg_tup rfl (pgs_cons (pg_name (i := 1) sc_meanings.nd rfl (.inl rfl)) (pgs_cons (pg_name (i := 2) sc_meanings.nd rfl (.inl rfl)) (pgs_cons (pg_name (i := 3) sc_meanings.nd rfl (.inl rfl)) pgs_nil))))) (xs_unp (is := [1, 2, 3]) rfl)) (pss_w (pss_cons (ps_setDc (i := 4) (own := [("fret", 5)]) (g := gName 5) rfl sc_meanings.nd rfl rfl (sw_dct rfl rfl rfl (by decide +kernel)) (pi_w (pi_range2 (by rfl) T.m_range (pa_w (pa_cons (pe_w (pv 3) xd_var) (pa_w (pa_cons (pe_w (pe_op op_add (pe_w (pv 2) xd_var) (pe_w pe_int (xd_c fun _ => .int))) (xd_op od_add)) (pa_w pa_nil xa_nil)) xa_cons)) xa_cons)) xi_rng2) (blkOk_by (own := [("fret", 5)]) (N := ["neck", "_", "frets", "capo", "meanings", "fret"]) (sc := (defScope s_meanings)) (by decide +kernel)) (fun _ _ _ _ _ => (pg_name (i := 5) sc_meanings.nd rfl (.inl rfl))) (fun _ _ _ _ _ => (pe_w (pe_callTy call_str_int (by rfl) T.m_str (by decide +kernel) (pa_w (pa_cons (pe_w (pv 5) xd_var) (pa_w pa_nil xa_nil)) xa_cons)) (xd_cb cd_strI))) (fun _ _ _ _ _ => (pe_w (pv 5) xd_var))) (pss_cons (ps_asg (pe_gint (by rfl) T.c_SILENT) (pg_sub (pv 4) (pe_gstr (by rfl) T.c_SILENT_WORD) (set_dict (FWD.room1 hr)))) (pssd_one (ps_w (ps_ret (pe_w (pv 4) xd_var)) xs_ret)))) (xs_dict gd_name stores_name)))) pure_meanings
end

/-! ### written -/
def f_written : Fd := fun ds R => ∃ t f c s, ds = [neckD t f c, intsD s] ∧ OkNeck t f c ∧ OkShape t f c s ∧ R (.str (textL s))
theorem len_written : ∀ ds R, f_written ds R → ds.length = 2 := by
  rintro ds R ⟨t, f, c, s, rfl, _⟩; rfl
@[simp] theorem written_iff {t s : List Int} {f c : Int} {R : D → Prop} : f_written [neckD t f c, intsD s] R ↔ OkNeck t f c ∧ OkShape t f c s ∧ R (.str (textL s)) := by
  constructor
  · rintro ⟨t', f', c', s', e, h⟩; simp at e; obtain ⟨⟨rfl, rfl, rfl⟩, rfl⟩ := e; exact h
  · intro h; exact ⟨_, _, _, _, rfl, h⟩
def W_written : WS := (dSeq (dDrop (dCall f_check_neck (aCons (dVar 0) aNil))) (dSeq (dDrop (dCall f_check_shape (aCons (dVar 0) (aCons (dVar 1) aNil)))) (dRet (dMethS rdJoin (dC (.str " ")) (aCons (dN (dLcW (iRev (dVar 1)) (tgN 2) (fun _ R => R true) (dIf (bB (dOp rdEq (dVar 2) (dC (.int (-1))))) (dC (.str "x")) (dCall rdStrI (aCons (dVar 2) aNil))) [2])) aNil)))))
def N_written : List Str := ["neck", "shape", "fret"]
theorem sc_written : FnScope ["neck", "shape", "fret"] ["neck", "shape"] (defScope s_written) := ⟨rfl, rfl, rfl, by decide +kernel, rfl, by decide +kernel, by decide +kernel⟩
theorem pure_written : ∀ ds R, f_written ds R → W_written { nx := fun _ => R .none, rt := R } (startD N_written ds) := by
  rintro ds R ⟨t, f, c, s, rfl, ok, os, h⟩
  have l2 := ok.l2
  have ls := os.len
  have c0 := ok.c0
  have f1 := ok.f1
  have tg := text_good ok os
  simp [W_written, N_written]
  refine ⟨t, f, c, rfl, ok, t, f, c, s, rfl, os, ?_⟩
  show s.length ≤ 1000000 ∧ _
  refine ⟨by omega, ?_⟩
  rw [← List.map_reverse]
  refine lcRun_ints (fun _ => true) (fun p => .str (wordI p)) s.reverse (fun p hp K k => ?_) ?_
  · have hp := os.at_ p (List.mem_reverse.mp hp)
    unfold wordI at k
    simp at k ⊢
    by_cases z : p = -1
    · simpa [z, xS] using k
    · rw [if_neg z] at k
      simp [z]
      exact ⟨by omega, by omega, k⟩
  · rw [List.filter_eq_self.mpr (by simp)]
    refine ⟨s.reverse.map wordI, by rw [List.map_map]; rfl, ?_, h⟩
    have : (Str.ofString " ").length = 1 := by decide +kernel
    rw [this, List.length_map, List.length_reverse]
    have := tg.2.2
    omega
section
variable {P : Program} {w : World} {g : Glb} {mg : Str → Option Value} {base : Heap}
theorem ok_written {f : Addr} {fd : FuncData} (F : FunP g.K "written" s_written f fd) (mgf : mg "written" = some (.ref f)) (T : Txt mg) (C_check_neck : C8.Cal P w g.K mg base 2 "check_neck" (spD g f_check_neck) []) (C_check_shape : C8.Cal P w g.K mg base 2 "check_shape" (spD g f_check_shape) []) : C8.Cal P w g.K mg base 3 "written" (spD g f_written) [] :=
  calD (N := ["neck", "shape", "fret"]) (ps := ["neck", "shape"]) (k := 2) (wb := W_written) F mgf (F.bindsN fun _ _ _ _ _ _ us hl => match us, hl with | [_, _], _ => rfl) sc_written len_written (fun cdv A outer s H E r a ns hr =>
    (pssd_cons (ps_w (ps_expr (pe_w (C8.pe_c C_check_neck hr (by decide) (by rfl) (pa_w (pa_cons (pe_w (pv 0) xd_var) (pa_w pa_nil xa_nil)) xa_cons)) xd_call)) xs_drop) (pssd_cons (ps_w (ps_expr (pe_w (C8.pe_c C_check_shape hr (by decide) (by rfl) (pa_w (pa_cons (pe_w (pv 0) xd_var) (pa_w (pa_cons (pe_w (pv 1) xd_var) (pa_w pa_nil xa_nil)) xa_cons)) xa_cons)) xd_call)) xs_drop) (pssd_one (ps_w (ps_ret (pe_w (pe_bm PySem.F.plainAttrs_str PySem.F.slot_str_join PySem.F.type_str_join mt_join (pe_w pe_str (xd_c fun _ => .str)) (pa_w (pa_cons (pe_w (pe_w (pe_lc (own := [("fret", 2)]) (g := gName 2) rfl sc_written.nd (pi_w (RT.pi_revA (by rfl) T.m_reversed (pe_w (pv 1) xd_var)) xi_rev) (blkOk_by (own := [("fret", 2)]) (N := ["neck", "shape", "fret"]) (sc := (defScope s_written)) (by decide +kernel)) (fun _ _ _ _ _ => (pg_name (i := 2) sc_written.nd rfl (.inl rfl))) (fun _ _ _ _ _ => (pts_w pts_nil xt_yes)) (fun _ _ _ _ _ => (pe_w (pe_ifExp (pt_w (pt_cmpR (op_eqD hr.units) (pe_w (pv 2) xd_var) (pe_w (pe_gint (by rfl) T.c_SILENT) (xd_c fun _ => .int)) (nomark _)) (xt_cmp od_eq)) (pe_w (pe_gstr (by rfl) T.c_SILENT_WORD) (xd_c fun _ => .str)) (pe_w (pe_callTy call_str_int (by rfl) T.m_str (by decide +kernel) (pa_w (pa_cons (pe_w (pv 2) xd_var) (pa_w pa_nil xa_nil)) xa_cons)) (xd_cb cd_strI))) xd_if))) (xn_lc gd_name stores_name)) xd_N) (pa_w pa_nil xa_nil)) xa_cons)) (xd_methS md_join))) xs_ret))))) pure_written
end

/-! ### read -/
def f_read : Fd := fun ds R => ∃ t f c s, ds = [neckD t f c, .str (textL s)] ∧ OkNeck t f c ∧ OkShape t f c s ∧ R (intsD s)
theorem len_read : ∀ ds R, f_read ds R → ds.length = 2 := by
  rintro ds R ⟨t, f, c, s, rfl, _⟩; rfl
def W_read : WS := (dSeq (dDrop (dCall f_check_neck (aCons (dVar 0) aNil))) (dSeq (dUnp [2, 3, 3] (dVar 0)) (dSeq (dAsg 4 (dMethS rdSplit (dVar 1) (aCons (dC (.str " ")) aNil))) (dSeq (dIfS (bB (dOp rdNe (dCall rdLen (aCons (dVar 4) aNil)) (dCall rdLen (aCons (dVar 2) aNil)))) dNever dNext) (dSeq (dAsg 5 (dCall f_meanings (aCons (dVar 0) aNil))) (dSeq (dOwn 6 (nLst aNil)) (dSeq (dFor (iRev (dVar 4)) (tgN 7) (dSeq (dIfS (bB (dOp rdNotInM (dVar 7) (dVar 5))) dNever dNext) (dApp 6 (dOp rdGetM (dVar 5) (dVar 7))))) (dFrz 6 (dRet (dCall rdTuple (aCons (dVar 6) aNil)))))))))))
def N_read : List Str := ["neck", "text", "tuning", "_", "words", "meanings", "shape", "word"]
theorem sc_read : FnScope ["neck", "text", "tuning", "_", "words", "meanings", "shape", "word"] ["neck", "text"] (defScope s_read) := ⟨rfl, rfl, rfl, by decide +kernel, rfl, by decide +kernel, by decide +kernel⟩
theorem read_loop {x0 x1 x2 x3 x4 : Sl} {m : List (Str × Int)} (hm : m ≠ []) {De : EndsD} : ∀ (ws : List Str) (s acc : List Int) (u : Sl), acc.length + ws.length ≤ 1000 → readWords (getM m) ws = some s →
    (∀ u', De.nx [x0, x1, x2, x3, x4, .val (.dict (dicD m)), .own ((acc ++ s).map .int), u']) →
    forRun (tgN 7) (dSeq (dIfS (bB (dOp rdNotInM (dVar 7) (dVar 5))) dNever dNext) (dApp 6 (dOp rdGetM (dVar 5) (dVar 7)))) De (ws.map .str) [x0, x1, x2, x3, x4, .val (.dict (dicD m)), .own (acc.map .int), u]
  | [], s, acc, u, _, e, h => by
    cases e
    simp only [List.map_nil, forRun]
    simpa using h u
  | w :: ws, s, acc, u, hl, e, h => by
    rw [List.length_cons] at hl
    simp only [List.map_cons, forRun]
    rw [readWords] at e
    simp
    refine ⟨m, rfl, hm, ?_⟩
    cases hw : getM m w with
    | none =>
      rw [hw] at e
      cases e
    | some p =>
      rw [hw] at e
      cases hr : readWords (getM m) ws with
      | none =>
        rw [hr] at e
        cases e
      | some s' =>
        rw [hr] at e
        cases e
        simp
        refine ⟨m, rfl, hm, p, hw, by omega, ?_⟩
        have ih := read_loop (x0 := x0) (x1 := x1) (x2 := x2) (x3 := x3) (x4 := x4) hm (De := De) ws s' (acc ++ [p]) (.val (.str w)) (by rw [List.length_append]; simp; omega) hr (fun u' => by simpa using h u')
        rw [List.map_append] at ih
        exact ih
theorem pure_read : ∀ ds R, f_read ds R → W_read { nx := fun _ => R .none, rt := R } (startD N_read ds) := by
  rintro ds R ⟨t, f, c, s, rfl, ok, os, h⟩
  have hz := (text_good ok os).2.1
  have hs := read_text ok os
  generalize textL s = z at hz hs
  have l2 := ok.l2
  have c0 := ok.c0
  have c1 := ok.c1
  have f1 := ok.f1
  simp [W_read, N_read]
  refine ⟨t, f, c, rfl, ok, [intsD t, .int f, .int c], rfl, rfl, ?_⟩
  have bl : (Str.ofString " ").length = 1 := by decide +kernel
  simp [bl, c0, c1, f1]
  refine ⟨by omega, ?_⟩
  have key : readL t f c z = if (Txt.split z (Str.ofString " ")).length = t.length then readWords (getM (meanM f c)) (Txt.split z (Str.ofString " ")).reverse else none := rfl
  by_cases e : (Txt.split z (Str.ofString " ")).length = t.length
  · rw [if_pos e] at key
    rw [key] at hs
    refine ⟨by omega, ?_⟩
    rw [← List.map_reverse]
    refine read_loop (mean_ne f c) _ s [] .un (by simp; omega) hs (fun u => ?_)
    simp
    exact h
  · rw [if_neg e] at key
    rw [key] at hs
    cases hs
section
variable {P : Program} {w : World} {g : Glb} {mg : Str → Option Value} {base : Heap}
theorem ok_read {f : Addr} {fd : FuncData} (F : FunP g.K "read" s_read f fd) (mgf : mg "read" = some (.ref f)) (T : Txt mg) (C_check_neck : C8.Cal P w g.K mg base 2 "check_neck" (spD g f_check_neck) []) (C_meanings : C8.Cal P w g.K mg base 1 "_meanings" (spD g f_meanings) []) : C8.Cal P w g.K mg base 3 "read" (spD g f_read) [] :=
  calD (N := ["neck", "text", "tuning", "_", "words", "meanings", "shape", "word"]) (ps := ["neck", "text"]) (k := 2) (wb := W_read) F mgf (F.bindsN fun _ _ _ _ _ _ us hl => match us, hl with | [_, _], _ => rfl) sc_read len_read (fun cdv A outer s H E r a ns hr =>
    (pssd_cons (ps_w (ps_expr (pe_w (C8.pe_c C_check_neck hr (by decide) (by rfl) (pa_w (pa_cons (pe_w (pv 0) xd_var) (pa_w pa_nil xa_nil)) xa_cons)) xd_call)) xs_drop) (pssd_cons (ps_w (ps_asg (pe_w (pv 0) xd_var) (pg_tup rfl (pgs_cons (pg_name (i := 2) sc_read.nd rfl (.inl rfl)) (pgs_cons (pg_name (i := 3) sc_read.nd rfl (.inl rfl)) (pgs_cons (pg_name (i := 3) sc_read.nd rfl (.inl rfl)) pgs_nil))))) (xs_unp (is := [2, 3, 3]) rfl)) (pssd_cons (ps_w (ps_set (i := 4) sc_read.nd rfl (.inl rfl) (pe_w (pe_bm PySem.F.plainAttrs_str PySem.F.slot_str_split PySem.F.type_str_split mt_split (pe_w (pv 1) xd_var) (pa_w (pa_cons (pe_w pe_str (xd_c fun _ => .str)) (pa_w pa_nil xa_nil)) xa_cons)) (xd_methS md_split))) xs_asg) (pssd_cons (ps_w (ps_if (pt_w (pt_cmpR (op_neD hr.units) (pe_w (pe_callB call_len_seq (by rfl) T.m_len PySem.boot_len (pa_w (pa_cons (pe_w (pv 4) xd_var) (pa_w pa_nil xa_nil)) xa_cons)) (xd_cb cd_len)) (pe_w (pe_callB call_len_seq (by rfl) T.m_len PySem.boot_len (pa_w (pa_cons (pe_w (pv 2) xd_var) (pa_w pa_nil xa_nil)) xa_cons)) (xd_cb cd_len)) (nomark _)) (xt_cmp od_ne)) (pssd_one (ps_w ps_never xs_never)) pssd_nil) xs_if) (pssd_cons (ps_w (ps_set (i := 5) sc_read.nd rfl (.inl rfl) (pe_w (C8.pe_c C_meanings hr (by decide) (by rfl) (pa_w (pa_cons (pe_w (pv 0) xd_var) (pa_w pa_nil xa_nil)) xa_cons)) xd_call)) xs_asg) (pssd_cons (ps_w (ps_set (i := 6) sc_read.nd rfl (.inl rfl) (pe_w (pe_lst (pa_w pa_nil xa_nil)) xn_lst)) xs_own) (pssd_cons (ps_w (ps_for (g := gName 7) PassesOwn.never rfl (pi_w (RT.pi_revA (by rfl) T.m_reversed (pe_w (pv 4) xd_var)) xi_rev) (pg_name (i := 7) sc_read.nd rfl (.inl rfl)) (pssd_cons (ps_w (ps_if (pt_w (pt_cmpR (FWD.op_notInDc (FWD.room1 hr)) (pe_w (pv 7) xd_var) (pe_w (pv 5) xd_var) (by rfl)) (xt_cmp od_notInM)) (pssd_one (ps_w ps_never xs_never)) pssd_nil) xs_if) (pssd_one (ps_w (ps_expr (pe_bm PySem.F.plainAttrs_list PySem.F.slot_list_append PySem.F.type_list_append mt_append (pv 6) (pa_cons (pe_w (pe_ix FWD.ix_dict (pe_w (pv 5) xd_var) (pe_w (pv 7) xd_var) (fun _ _ => rfl)) (xd_op od_getM)) pa_nil))) xs_app)))) (xs_for gd_name)) (pss_w (pssd_one (ps_w (ps_ret (pe_w (pe_callTy call_tuple_of (by rfl) T.m_tuple (by decide +kernel) (pa_w (pa_cons (pe_w (pv 6) xd_var) (pa_w pa_nil xa_nil)) xa_cons)) (xd_cb cd_tuple))) xs_ret)) xs_frz))))))))) pure_read
end

/-! ### check_chords -/
def f_check_chords : Fd := fun ds R => ∃ ls : List (List Int), ds = [.list (ls.map intsD)] ∧ ls.length ≤ 6 ∧ (∀ l ∈ ls, OkChord l) ∧ R .none
theorem len_check_chords : ∀ ds R, f_check_chords ds R → ds.length = 1 := by
  rintro ds R ⟨ls, rfl, _⟩; rfl
theorem intsD_injL : ∀ {a b : List (List Int)}, a.map intsD = b.map intsD → a = b
  | [], [], _ => rfl
  | [], _ :: _, h => by simp at h
  | _ :: _, [], h => by simp at h
  | x :: a, y :: b, h => by
    simp only [List.map_cons, List.cons.injEq, intsD_inj] at h
    rw [h.1, intsD_injL h.2]
@[simp] theorem intsD_mapInj {a b : List (List Int)} : a.map intsD = b.map intsD ↔ a = b := ⟨intsD_injL, fun h => by rw [h]⟩
@[simp] theorem check_chords_iff {ls : List (List Int)} {R : D → Prop} : f_check_chords [.list (ls.map intsD)] R ↔ ls.length ≤ 6 ∧ (∀ l ∈ ls, OkChord l) ∧ R .none := by
  constructor
  · rintro ⟨ls', e, h⟩; simp at e; obtain rfl := e; exact h
  · intro h; exact ⟨_, rfl, h⟩
/-- a for over what is told by a list -/
theorem forRun_map {α : Type} {φ : α → D} {wg : WG} {wb : WS} {De : EndsD} (I : List α → List α → Sg → Prop) (l0 : List α) (ht : ∀ (done : List α) (a : α) (l : List α) (e : Sg) (N : Sg → Prop), l0 = done ++ a :: l → I done (a :: l) e → (∀ e2, I (done ++ [a]) l e2 → N e2) → wg (φ a) e fun e' => wb { De with nx := N, ct := N, bk := De.nx, base := fun _ => False, pin := false } e')
    (he : ∀ e, I l0 [] e → De.nx e) (e : Sg) (h : I [] l0 e) : forRun wg wb De (l0.map φ) e := by
  refine forRun_go (fun ds e => ∃ done l, ds = l.map φ ∧ l0 = done ++ l ∧ I done l e) ?_ ?_ _ _ ⟨[], l0, rfl, rfl, h⟩
  · rintro d ds e N ⟨done, l, hd, hl, hI⟩ k
    cases l with
    | nil => simp at hd
    | cons a l =>
      simp only [List.map_cons, List.cons.injEq] at hd
      obtain ⟨rfl, rfl⟩ := hd
      exact ht done a l e N hl hI fun e2 h2 => k e2 ⟨done ++ [a], l, rfl, by rw [hl]; simp, h2⟩
  · rintro e ⟨done, l, hd, hl, hI⟩
    cases l with
    | nil =>
      rw [List.append_nil] at hl
      subst hl
      exact he e hI
    | cons a l => simp at hd
def W_check_chords : WS := (dSeq (dIfS (bB (dOp rdGt (dCall rdLen (aCons (dVar 0) aNil)) (dC (.int 6)))) dNever dNext) (dFor (iEnmL (aCons (dVar 0) aNil)) (tgT [1, 2]) (dDrop (dCall f_check_chord (aCons (dVar 2) (aCons (dVar 1) aNil))))))
def N_check_chords : List Str := ["chords", "number", "chord"]
theorem sc_check_chords : FnScope ["chords", "number", "chord"] ["chords"] (defScope s_check_chords) := ⟨rfl, rfl, rfl, by decide +kernel, rfl, by decide +kernel, by decide +kernel⟩
theorem pure_check_chords : ∀ ds R, f_check_chords ds R → W_check_chords { nx := fun _ => R .none, rt := R } (startD N_check_chords ds) := by
  rintro ds R ⟨ls, rfl, h6, ok, h⟩
  simp [W_check_chords, N_check_chords]
  refine ⟨by omega, ?_⟩
  rw [enumD_map]
  refine forRun_map (fun _ l e => (∀ p ∈ l, OkChord p.1) ∧ ∃ x1 x2, e = [.val (.list (ls.map intsD)), x1, x2]) _ ?_ ?_ _ ⟨fun p hp => ok _ ?_, _, _, rfl⟩
  · rintro done p l e N _ ⟨hl, x1, x2, rfl⟩ k
    simp
    exact ⟨hl p (List.mem_cons_self ..), k _ ⟨fun q hq => hl q (List.mem_cons_of_mem _ hq), _, _, rfl⟩⟩
  · rintro e ⟨_, x1, x2, rfl⟩
    exact h
  · obtain ⟨i, hi, e⟩ := List.getElem_of_mem hp
    rw [List.getElem_zipIdx] at e
    subst e
    exact List.getElem_mem ..
section
variable {P : Program} {w : World} {g : Glb} {mg : Str → Option Value} {base : Heap}
theorem ok_check_chords {f : Addr} {fd : FuncData} (F : FunP g.K "check_chords" s_check_chords f fd) (mgf : mg "check_chords" = some (.ref f)) (T : Txt mg) (C_check_chord_all : C8.Cal P w g.K mg base 2 "check_chord" (spD g f_check_chord) []) : C8.Cal P w g.K mg base 3 "check_chords" (spD g f_check_chords) [] :=
  calD (N := ["chords", "number", "chord"]) (ps := ["chords"]) (k := 2) (wb := W_check_chords) F mgf (F.bindsN fun _ _ _ _ _ _ us hl => match us, hl with | [_], _ => rfl) sc_check_chords len_check_chords (fun cdv A outer s H E r a ns hr =>
    (pssd_cons (ps_w (ps_if (pt_w (pt_cmpR op_gt (pe_w (pe_callB call_len_seq (by rfl) T.m_len PySem.boot_len (pa_w (pa_cons (pe_w (pv 0) xd_var) (pa_w pa_nil xa_nil)) xa_cons)) (xd_cb cd_len)) (pe_w (pe_gint (by rfl) T.c_MOST_CHORDS) (xd_c fun _ => .int)) (nomark _)) (xt_cmp od_gt)) (pssd_one (ps_w ps_never xs_never)) pssd_nil) xs_if) (pssd_one (ps_w (ps_for (g := gTup _ 2 (gNames [1, 2])) PassesOwn.never rfl (pi_w (pi_enum (by rfl) T.m_enumerate (pa_w (pa_cons (pe_w (pv 0) xd_var) (pa_w pa_nil xa_nil)) xa_cons)) xi_enumL) (pg_tup rfl (pgs_cons (pg_name (i := 1) sc_check_chords.nd rfl (.inl rfl)) (pgs_cons (pg_name (i := 2) sc_check_chords.nd rfl (.inl rfl)) pgs_nil))) (pssd_one (ps_w (ps_expr (pe_w (C8.pe_c C_check_chord_all hr (by decide) (by rfl) (pa_w (pa_cons (pe_w (pv 2) xd_var) (pa_w (pa_cons (pe_w (pv 1) xd_var) (pa_w pa_nil xa_nil)) xa_cons)) xa_cons)) xd_call)) xs_drop))) (xs_for (gd_tup (is := [1, 2]) rfl)))))) pure_check_chords
end

/-! ### retunings -/
section
theorem flat_lenR {α β : Type} {k : Nat} {g : α → List β} (h : ∀ a, (g a).length ≤ k) : ∀ l : List α, (l.flatMap g).length ≤ k * l.length
  | [] => Nat.le_refl _
  | a :: l => by
    have h1 := flat_lenR h l
    have h2 := h a
    rw [List.flatMap_cons, List.length_append, List.length_cons, Nat.mul_succ]
    omega
theorem zip_intsR (ps row : List Int) : ((ps.map PyData.int).zip (row.map PyData.int)).map (fun p => PyData.tuple [p.1, p.2]) = (ps.zip row).map fun q => PyData.tuple [.int q.1, .int q.2] := by
  rw [List.zip_map, List.map_map]
  rfl
def absS (r : List Int) : Int := (r.map absI).sum
def rankD (r : List Int) : D := .tuple [.int (absS r), tupD r]
def unI : D → Int
  | .int i => i
  | _ => 0
def unT : D → List Int
  | .tuple xs => xs.map unI
  | _ => []
theorem unT_tup (r : List Int) : unT (tupD r) = r := by
  show (r.map PyData.int).map unI = r
  rw [List.map_map]
  exact List.map_id r
def key_rank (d : D) : D := rankD (unT d)
theorem key_tup (r : List Int) : key_rank (tupD r) = rankD r := by unfold key_rank; rw [unT_tup]
theorem sh_rank {r : List Int} : Sh 2 (rankD r) := Sh.tup fun x hx => by
  rcases List.mem_cons.mp hx with rfl | hx
  · exact Sh.int
  · rw [List.mem_singleton.mp hx]
    exact Sh.tup Sh.ints
theorem alike_ints : ∀ a b : List Int, PySem.W.alikeAll (a.map PyData.int) (b.map .int) = true
  | [], _ => by simp [PySem.W.alikeAll]
  | _ :: _, [] => by simp [PySem.W.alikeAll]
  | _ :: a, _ :: b => by
    simp only [List.map_cons, PySem.W.alikeAll, PySem.W.alike, alike_ints a b, Bool.true_and]
theorem alike_rank (a b : List Int) : PySem.W.alike (rankD a) (rankD b) = true := by
  simp only [rankD, tupD, PySem.W.alike, PySem.W.alikeAll, alike_ints, Bool.true_and]
theorem toks_ints : ∀ a b : List Int, PySem.W.keyToksAll (a.map PyData.int) = PySem.W.keyToksAll (b.map .int) → a = b
  | [], [], _ => rfl
  | [], _ :: _, h => by simp [PySem.W.keyToksAll] at h
  | _ :: _, [], h => by simp [PySem.W.keyToksAll] at h
  | x :: a, y :: b, h => by
    simp only [List.map_cons, PySem.W.keyToksAll, PySem.W.keyToks, List.cons_append, List.nil_append, List.cons.injEq, Sum.inl.injEq, true_and] at h
    rw [h.1, toks_ints a b h.2]
/-- the order of retunings -/
def leR (a b : List Int) : Bool := PySem.W.dataLe false rankD a b
theorem leR_anti {a b : List Int} (h : leR a b = true) (h' : leR b a = true) : a = b := by
  have e : PySem.W.keyToks (rankD a) = PySem.W.keyToks (rankD b) := by
    refine PyProof.Rows.lex_total (O := PyProof.Rows.itemOrd) _ _ ?_ ?_
    · simpa [leR, PySem.W.dataLe, PySem.W.sortLe] using h'
    · simpa [leR, PySem.W.dataLe, PySem.W.sortLe] using h
  simp only [rankD, tupD, PySem.W.keyToks, PySem.W.keyToksAll, List.cons_append, List.nil_append, List.cons.injEq, true_and] at e
  exact toks_ints a b (List.append_cancel_right e.2)
theorem leR_trans (a b c : List Int) (h : leR a b = true) (h' : leR b c = true) : leR a c = true := le_trans' (k := rankD) a b c h h'
theorem leR_total (a b : List Int) : (leR a b || leR b a) = true := le_total' (k := rankD) a b
def stepsL (n : Int) : List Int := ([-2, -1, 0, 1, 2] : List Int).filter fun k => decide (0 ≤ n + k) && decide (n + k ≤ 60)
/-- all retunings of the strings so far, the last string ahead -/
def rtW : List Int → List (List Int)
  | [] => [[]]
  | a :: done => (rtW done).flatMap fun r => (stepsL a).map fun k => r ++ [k]
def rtS (t : List Int) : List (List Int) := (rtW t.reverse).mergeSort leR
theorem rtS_of {t : List Int} {ys : List (List Int)} (p : ys.Perm (rtW t.reverse)) (so : ys.Pairwise fun a b => leR a b = true) : ys = rtS t := by
  have p2 : (rtS t).Perm (rtW t.reverse) := List.mergeSort_perm _ _
  have s2 : (rtS t).Pairwise fun a b => leR a b = true := List.pairwise_mergeSort leR_trans leR_total _
  exact List.Perm.eq_of_pairwise (fun a b _ _ h h' => leR_anti h h') so s2 (p.trans p2.symm)
theorem steps_len (n : Int) : (stepsL n).length ≤ 5 := List.length_filter_le ..
theorem rtW_len : ∀ done : List Int, (rtW done).length ≤ 5 ^ done.length
  | [] => Nat.le_refl _
  | a :: done => by
    have h := rtW_len done
    have h2 : (rtW (a :: done)).length ≤ 5 * (rtW done).length := flat_lenR (fun r => by rw [List.length_map]; exact steps_len a) _
    rw [List.length_cons, Nat.pow_succ]
    omega
/-- a retuning of the strings -/
theorem rtW_is : ∀ {done : List Int} {r : List Int}, r ∈ rtW done → r.length = done.length ∧ ∀ p ∈ done.reverse.zip r, 0 ≤ p.1 + p.2 ∧ p.1 + p.2 ≤ 60
  | [], r, h => by
    rw [List.mem_singleton.mp h]
    exact ⟨rfl, fun p hp => by simp at hp⟩
  | a :: done, r, h => by
    obtain ⟨r', h1, h2⟩ := List.mem_flatMap.mp h
    obtain ⟨k, hk, rfl⟩ := List.mem_map.mp h2
    obtain ⟨l1, l2⟩ := rtW_is h1
    refine ⟨by simp [l1], fun p hp => ?_⟩
    rw [List.reverse_cons, List.zip_append (by simp [l1])] at hp
    rcases List.mem_append.mp hp with hp | hp
    · exact l2 p hp
    · simp at hp
      subst hp
      have := (List.mem_filter.mp hk).2
      simpa using this
theorem rtS_mem {t r : List Int} : r ∈ rtS t ↔ r ∈ rtW t.reverse := (List.mergeSort_perm _ _).mem_iff
theorem rtS_is {t r : List Int} (h : r ∈ rtS t) : r.length = t.length ∧ ∀ p ∈ t.zip r, 0 ≤ p.1 + p.2 ∧ p.1 + p.2 ≤ 60 := by
  have := rtW_is (rtS_mem.mp h)
  simpa using this
theorem rtS_len {t : List Int} (h : t.length ≤ 4) : (rtS t).length ≤ 625 := by
  have h1 := rtW_len t.reverse
  have h2 : 5 ^ t.reverse.length ≤ 5 ^ 4 := Nat.pow_le_pow_right (by decide) (by simpa using h)
  have h3 : (5 : Nat) ^ 4 = 625 := by decide
  unfold rtS
  rw [List.length_mergeSort]
  omega
def tunedL (t r : List Int) : List Int := (t.zip r).map fun p => p.1 + p.2
theorem tuned_ok {t : List Int} {f c : Int} {r : List Int} (ok : OkNeck t f c) (h : r ∈ rtS t) : OkNeck (tunedL t r) f c := by
  obtain ⟨l, a⟩ := rtS_is h
  refine ⟨?_, ?_, fun x hx => ?_, ok.f0, ok.f1, ok.c0, ok.c1⟩
  · have := ok.l1
    unfold tunedL
    rw [List.length_map, List.length_zip]
    omega
  · have := ok.l2
    unfold tunedL
    rw [List.length_map, List.length_zip]
    omega
  · obtain ⟨p, hp, rfl⟩ := List.mem_map.mp hx
    exact a p hp
open Classical in
/-- whether the chord has a way on the neck -/
noncomputable def hasW (t : List Int) (f c : Int) (l : List Int) (r g : Int) : Bool := decide (∃ s, IsWay t f c l r g s)
open Classical in
theorem hasW_of {t : List Int} {f c : Int} {l : List Int} {r g : Int} {ss : List (List Int)} (h : ∀ s, s ∈ ss ↔ IsWay t f c l r g s) : hasW t f c l r g = !ss.isEmpty := by
  unfold hasW
  cases ss with
  | nil =>
    show decide _ = false
    refine decide_eq_false fun ⟨s, hs⟩ => ?_
    have := (h s).mpr hs
    cases this
  | cons s ss => exact decide_eq_true ⟨s, (h s).mp (List.mem_cons_self ..)⟩
/-- the numbers of the chords that have none -/
noncomputable def lackW (t : List Int) (f c : Int) (ls : List (List Int)) (r g : Int) : List Nat := (List.range ls.length).filter fun i => !hasW t f c (ls.getD i []) r g
def pairR (p : List Int × Nat) : D := .tuple [tupD p.1, .int (p.2 : Nat)]
noncomputable def dueR (t : List Int) (f c : Int) (ls : List (List Int)) (r g : Int) : List (List Int) → List (List Int × Nat) → D
  | [], _ => .none
  | u :: us, acc => match (lackW (tunedL t u) f c ls r g).head? with
    | none => .tuple [tupD u, .list (acc.map pairR)]
    | some k => dueR t f c ls r g us (acc ++ [(u, k)])
noncomputable def dueW (t : List Int) (f c : Int) (ls : List (List Int)) (r g : Int) : D := dueR t f c ls r g (rtS t) []
end

/-! ### _check_retunable -/
def f_check_retunable : Fd := fun ds R => ∃ t f c, ds = [neckD t f c] ∧ OkNeck t f c ∧ t.length ≤ 4 ∧ R .none
theorem len_check_retunable : ∀ ds R, f_check_retunable ds R → ds.length = 1 := by
  rintro ds R ⟨t, f, c, rfl, _⟩; rfl
@[simp] theorem check_retunable_iff {t : List Int} {f c : Int} {R : D → Prop} : f_check_retunable [neckD t f c] R ↔ OkNeck t f c ∧ t.length ≤ 4 ∧ R .none := by
  constructor
  · rintro ⟨t', f', c', e, h⟩; simp at e; obtain ⟨rfl, rfl, rfl⟩ := e; exact h
  · intro h; exact ⟨_, _, _, rfl, h⟩
def W_check_retunable : WS := (dSeq (dDrop (dCall f_check_neck (aCons (dVar 0) aNil))) (dSeq (dUnp [1, 2, 2] (dVar 0)) (dIfS (bB (dOp rdGt (dCall rdLen (aCons (dVar 1) aNil)) (dC (.int 4)))) dNever dNext)))
def N_check_retunable : List Str := ["neck", "tuning", "_"]
theorem sc_check_retunable : FnScope ["neck", "tuning", "_"] ["neck"] (defScope s_check_retunable) := ⟨rfl, rfl, rfl, by decide +kernel, rfl, by decide +kernel, by decide +kernel⟩
theorem pure_check_retunable : ∀ ds R, f_check_retunable ds R → W_check_retunable { nx := fun _ => R .none, rt := R } (startD N_check_retunable ds) := by
  rintro ds R ⟨t, f, c, rfl, ok, h4, h⟩
  simp [W_check_retunable, N_check_retunable]
  refine ⟨t, f, c, rfl, ok, ?_⟩
  simp [neckD]
  exact ⟨by omega, h⟩
section
variable {P : Program} {w : World} {g : Glb} {mg : Str → Option Value} {base : Heap}
theorem ok_check_retunable {f : Addr} {fd : FuncData} (F : FunP g.K "_check_retunable" s_check_retunable f fd) (mgf : mg "_check_retunable" = some (.ref f)) (T : Txt mg) (C_check_neck : C8.Cal P w g.K mg base 2 "check_neck" (spD g f_check_neck) []) : C8.Cal P w g.K mg base 3 "_check_retunable" (spD g f_check_retunable) [] :=
  calD (N := ["neck", "tuning", "_"]) (ps := ["neck"]) (k := 2) (wb := W_check_retunable) F mgf (F.bindsN fun _ _ _ _ _ _ us hl => match us, hl with | [_], _ => rfl) sc_check_retunable len_check_retunable (fun cdv A outer s H E r a ns hr =>
    (pssd_cons (ps_w (ps_expr (pe_w (C8.pe_c C_check_neck hr (by decide) (by rfl) (pa_w (pa_cons (pe_w (pv 0) xd_var) (pa_w pa_nil xa_nil)) xa_cons)) xd_call)) xs_drop) (pssd_cons (ps_w (ps_asg (pe_w (pv 0) xd_var) (pg_tup rfl (pgs_cons (pg_name (i := 1) sc_check_retunable.nd rfl (.inl rfl)) (pgs_cons (pg_name (i := 2) sc_check_retunable.nd rfl (.inl rfl)) (pgs_cons (pg_name (i := 2) sc_check_retunable.nd rfl (.inl rfl)) pgs_nil))))) (xs_unp (is := [1, 2, 2]) rfl)) (pssd_one (ps_w (ps_if (pt_w (pt_cmpR op_gt (pe_w (pe_callB call_len_seq (by rfl) T.m_len PySem.boot_len (pa_w (pa_cons (pe_w (pv 1) xd_var) (pa_w pa_nil xa_nil)) xa_cons)) (xd_cb cd_len)) (pe_w (pe_gint (by rfl) T.c_MOST_RETUNED) (xd_c fun _ => .int)) (nomark _)) (xt_cmp od_gt)) (pssd_one (ps_w ps_never xs_never)) pssd_nil) xs_if))))) pure_check_retunable
end

/-! ### _rank -/
def f_rank : Fd := fun ds R => ∃ r : List Int, ds = [tupD r] ∧ r.length ≤ 1000 ∧ R (rankD r)
theorem len_rank : ∀ ds R, f_rank ds R → ds.length = 1 := by
  rintro ds R ⟨r, rfl, _⟩; rfl
def W_rank : WS := (dRet (dTup (aCons (dCall rdSum (aCons (dN (dLcW (iTpl (dVar 0)) (tgN 1) (fun _ R => R true) (dCall rdAbs (aCons (dVar 1) aNil)) [1])) aNil)) (aCons (dVar 0) aNil))))
def N_rank : List Str := ["retuning", "step"]
theorem sc_rank : FnScope ["retuning", "step"] ["retuning"] (defScope s_rank) := ⟨rfl, rfl, rfl, by decide +kernel, rfl, by decide +kernel, by decide +kernel⟩
theorem pure_rank : ∀ ds R, f_rank ds R → W_rank { nx := fun _ => R .none, rt := R } (startD N_rank ds) := by
  rintro ds R ⟨r, rfl, hl, h⟩
  simp [W_rank, N_rank]
  refine ⟨by omega, lcRun_ints (fun _ => true) (fun x => .int (absI x)) r (fun x _ K kk => ?_) ?_⟩
  · simpa using kk
  · rw [List.filter_eq_self.mpr (by simp)]
    have e : r.map (fun x => PyData.int (absI x)) = (r.map absI).map .int := by rw [List.map_map]; rfl
    rw [e]
    refine rdSum_iff.mpr ?_
    simpa [rankD, absS, tupD] using h
section
variable {P : Program} {w : World} {g : Glb} {mg : Str → Option Value} {base : Heap}
theorem ok_rank {f : Addr} {fd : FuncData} (F : FunP g.K "_rank" s_rank f fd) (mgf : mg "_rank" = some (.ref f)) (T : Txt mg)  : C8.Cal P w g.K mg base 1 "_rank" (spD g f_rank) [] :=
  calD (N := ["retuning", "step"]) (ps := ["retuning"]) (k := 0) (wb := W_rank) F mgf (F.bindsN fun _ _ _ _ _ _ us hl => match us, hl with | [_], _ => rfl) sc_rank len_rank (fun cdv A outer s H E r a ns hr =>
    (pssd_one (ps_w (ps_ret (pe_w (pe_tup (pa_w (pa_cons (pe_w (pe_callB (cr_sum (by rfl)) (by rfl) T.m_sum (by decide +kernel) (pa_w (pa_cons (pe_w (pe_w (pe_lc (own := [("step", 1)]) (g := gName 1) rfl sc_rank.nd (pi_w (pi_tup (pe_w (pv 0) xd_var)) xi_tup) (blkOk_by (own := [("step", 1)]) (N := ["retuning", "step"]) (sc := (defScope s_rank)) (by decide +kernel)) (fun _ _ _ _ _ => (pg_name (i := 1) sc_rank.nd rfl (.inl rfl))) (fun _ _ _ _ _ => (pts_w pts_nil xt_yes)) (fun _ _ _ _ _ => (pe_w (pe_callB call_abs (by rfl) T.m_abs (by decide +kernel) (pa_w (pa_cons (pe_w (pv 1) xd_var) (pa_w pa_nil xa_nil)) xa_cons)) (xd_cb cd_abs)))) (xn_lc gd_name stores_name)) xd_N) (pa_w pa_nil xa_nil)) xa_cons)) (xd_cb cd_sum)) (pa_w (pa_cons (pe_w (pv 0) xd_var) (pa_w pa_nil xa_nil)) xa_cons)) xa_cons)) xd_tup)) xs_ret))) pure_rank
end

/-! ### _tuned -/
def f_tuned : Fd := fun ds R => ∃ t f c r, ds = [neckD t f c, tupD r] ∧ t.length ≤ 1000 ∧ R (neckD (tunedL t r) f c)
theorem len_tuned : ∀ ds R, f_tuned ds R → ds.length = 2 := by
  rintro ds R ⟨t, f, c, r, rfl, _⟩; rfl
@[simp] theorem tuned_iff {t r : List Int} {f c : Int} {R : D → Prop} : f_tuned [neckD t f c, tupD r] R ↔ t.length ≤ 1000 ∧ R (neckD (tunedL t r) f c) := by
  constructor
  · rintro ⟨t', f', c', r', e, h⟩
    have e1 := List.cons.inj e
    have e2 := List.cons.inj e1.2
    have e3 := neckD_inj.mp e1.1
    obtain ⟨rfl, rfl, rfl⟩ := e3
    have e4 : r = r' := intsD_inj.mp e2.1
    subst e4
    exact h
  · intro h; exact ⟨_, _, _, _, rfl, h⟩
def W_tuned : WS := (dSeq (dUnp [2, 3, 4] (dVar 0)) (dRet (dTup (aCons (dCall rdTuple (aCons (dN (dLcW (iZip (aCons (dVar 2) (aCons (dVar 1) aNil))) (tgT [5, 6]) (fun _ R => R true) (dOp rdAdd (dVar 5) (dVar 6)) [5, 6])) aNil)) (aCons (dVar 3) (aCons (dVar 4) aNil))))))
def N_tuned : List Str := ["neck", "retuning", "tuning", "frets", "capo", "note", "step"]
theorem sc_tuned : FnScope ["neck", "retuning", "tuning", "frets", "capo", "note", "step"] ["neck", "retuning"] (defScope s_tuned) := ⟨rfl, rfl, rfl, by decide +kernel, rfl, by decide +kernel, by decide +kernel⟩
theorem pure_tuned : ∀ ds R, f_tuned ds R → W_tuned { nx := fun _ => R .none, rt := R } (startD N_tuned ds) := by
  rintro ds R ⟨t, f, c, r, rfl, hl, h⟩
  simp [W_tuned, N_tuned]
  simp [neckD, intsD]
  rw [zip_intsR]
  refine ⟨by omega, lcRun_map (fun _ => true) (fun q : Int × Int => .int (q.1 + q.2)) _ [] (fun q _ K kk => ?_) ?_⟩
  · simpa using kk
  · rw [List.nil_append, List.filter_eq_self.mpr (by simp)]
    have e : (t.zip r).map (fun q : Int × Int => PyData.int (q.1 + q.2)) = (tunedL t r).map .int := by unfold tunedL; rw [List.map_map]; rfl
    rw [e]
    simpa [neckD, intsD] using h
section
variable {P : Program} {w : World} {g : Glb} {mg : Str → Option Value} {base : Heap}
theorem ok_tuned {f : Addr} {fd : FuncData} (F : FunP g.K "_tuned" s_tuned f fd) (mgf : mg "_tuned" = some (.ref f)) (T : Txt mg)  : C8.Cal P w g.K mg base 1 "_tuned" (spD g f_tuned) [] :=
  calD (N := ["neck", "retuning", "tuning", "frets", "capo", "note", "step"]) (ps := ["neck", "retuning"]) (k := 0) (wb := W_tuned) F mgf (F.bindsN fun _ _ _ _ _ _ us hl => match us, hl with | [_, _], _ => rfl) sc_tuned len_tuned (fun cdv A outer s H E r a ns hr =>
    (pssd_cons (ps_w (ps_asg (pe_w (pv 0) xd_var) (pg_tup rfl (pgs_cons (pg_name (i := 2) sc_tuned.nd rfl (.inl rfl)) (pgs_cons (pg_name (i := 3) sc_tuned.nd rfl (.inl rfl)) (pgs_cons (pg_name (i := 4) sc_tuned.nd rfl (.inl rfl)) pgs_nil))))) (xs_unp (is := [2, 3, 4]) rfl)) (pssd_one (ps_w (ps_ret (pe_w (pe_tup (pa_w (pa_cons (pe_w (pe_callTy call_tuple_of (by rfl) T.m_tuple (by decide +kernel) (pa_w (pa_cons (pe_w (pe_w (pe_lc (own := [("note", 5), ("step", 6)]) (g := gTup _ 2 (gNames [5, 6])) rfl sc_tuned.nd (pi_w (RZ.pi_zipA (by rfl) T.m_zip (pa_w (pa_cons (pe_w (pv 2) xd_var) (pa_w (pa_cons (pe_w (pv 1) xd_var) (pa_w pa_nil xa_nil)) xa_cons)) xa_cons)) xi_zip) (blkOk_by (own := [("note", 5), ("step", 6)]) (N := ["neck", "retuning", "tuning", "frets", "capo", "note", "step"]) (sc := (defScope s_tuned)) (by decide +kernel)) (fun _ _ _ _ _ => (pg_tup rfl (pgs_cons (pg_name (i := 5) sc_tuned.nd rfl (.inl rfl)) (pgs_cons (pg_name (i := 6) sc_tuned.nd rfl (.inl rfl)) pgs_nil)))) (fun _ _ _ _ _ => (pts_w pts_nil xt_yes)) (fun _ _ _ _ _ => (pe_w (pe_op op_add (pe_w (pv 5) xd_var) (pe_w (pv 6) xd_var)) (xd_op od_add)))) (xn_lc (gd_tup (is := [5, 6]) rfl) (stores_names [5, 6]))) xd_N) (pa_w pa_nil xa_nil)) xa_cons)) (xd_cb cd_tuple)) (pa_w (pa_cons (pe_w (pv 3) xd_var) (pa_w (pa_cons (pe_w (pv 4) xd_var) (pa_w pa_nil xa_nil)) xa_cons)) xa_cons)) xa_cons)) xd_tup)) xs_ret)))) pure_tuned
end

/-! ### _retunings -/
def f_retunings : Fn := fun ds R => ∃ t f c, ds = [neckD t f c] ∧ OkNeck t f c ∧ t.length ≤ 4 ∧ R ((rtS t).map tupD)
theorem len_retunings : ∀ ds R, f_retunings ds R → ds.length = 1 := by
  rintro ds R ⟨t, f, c, rfl, _⟩; rfl
@[simp] theorem retunings_iff {t : List Int} {f c : Int} {R : List D → Prop} : f_retunings [neckD t f c] R ↔ OkNeck t f c ∧ t.length ≤ 4 ∧ R ((rtS t).map tupD) := by
  constructor
  · rintro ⟨t', f', c', e, h⟩; simp at e; obtain ⟨rfl, rfl, rfl⟩ := e; exact h
  · intro h; exact ⟨_, _, _, rfl, h⟩
def rngI (lo : Int) (n : Nat) : List Int := (List.range n).map fun k => lo + (k : Nat)
theorem rngD_ints (lo : Int) (n : Nat) : rngD lo n = (rngI lo n).map .int := by
  unfold rngD rngI
  rw [List.map_map]; rfl
theorem steps_rng {n : Int} (h0 : 0 ≤ n) (h6 : n ≤ 60) : rngI (if n < 2 then -n else -2) ((if 60 - n < 2 then 60 - n else 2) + 1 - (if n < 2 then -n else -2)).toNat = stepsL n := by
  have h : ((List.range 61).all fun n => decide (rngI (if (n : Int) < 2 then -(n : Int) else -2) ((if 60 - (n : Int) < 2 then 60 - (n : Int) else 2) + 1 - (if (n : Int) < 2 then -(n : Int) else -2)).toNat = stepsL n)) = true := by decide +kernel
  have := of_decide_eq_true (List.all_eq_true.mp h n.toNat (List.mem_range.mpr (by omega)))
  have e : ((n.toNat : Nat) : Int) = n := by omega
  rw [e] at this
  exact this
theorem rt_perm {t : List Int} {ys : List D} (p : ys.Perm ((rtW t.reverse).map tupD)) (so : ys.Pairwise fun a b => PySem.W.dataLe false key_rank a b = true) : ys = (rtS t).map tupD := by
  obtain ⟨o, h1, h2⟩ := perm_lift p.symm rfl
  subst h2
  rw [rtS_of h1 ?_]
  refine (List.pairwise_map.mp so).imp fun {a b} h => ?_
  have h : PySem.W.dataLe false key_rank (tupD a) (tupD b) = true := h
  unfold PySem.W.dataLe PySem.W.sortLe at h
  simp only [key_tup] at h
  exact h
def W_retunings : WS := (dSeq (dUnp [1, 2, 2] (dVar 0)) (dSeq (dAsg 3 (dLst (aCons (dTup aNil) aNil))) (dSeq (dFor (iTpl (dVar 1)) (tgN 4) (dSeq (dAsg 5 (dCall rdMax2 (aCons (dNeg (dC (.int 2))) (aCons (dNeg (dVar 4)) aNil)))) (dSeq (dAsg 6 (dCall rdMin2 (aCons (dC (.int 2)) (aCons (dOp rdSub (dC (.int 60)) (dVar 4)) aNil)))) (dAsg 3 (dN (dLc2 (iLst (dVar 3)) (tgN 7) (fun _ R => R true) (iR2 (aCons (dVar 5) (aCons (dOp rdAdd (dVar 6) (dC (.int 1))) aNil))) (tgN 8) (fun _ R => R true) (dOp rdCatT (dVar 7) (dTup (aCons (dVar 8) aNil))) [7, 8] [8])))))) (dRetL (nSrtKey f_rank key_rank (aCons (dVar 3) aNil))))))
def N_retunings : List Str := ["neck", "tuning", "_", "found", "note", "least", "greatest", "ahead", "step"]
theorem sc_retunings : FnScope ["neck", "tuning", "_", "found", "note", "least", "greatest", "ahead", "step"] ["neck"] (defScope s_retunings) := ⟨rfl, rfl, rfl, by decide +kernel, rfl, by decide +kernel, by decide +kernel⟩
theorem pure_retunings : ∀ ds R, f_retunings ds R → W_retunings { nx := fun _ => False, rt := fun _ => False, rn := R } (startD N_retunings ds) := by
  rintro ds R ⟨t, f, c, rfl, ok, h4, h⟩
  have l1 := ok.l1
  simp [W_retunings, N_retunings]
  simp [neckD]
  have ei : intsD t = .tuple (t.map .int) := rfl
  simp [ei]
  refine forRun_map (φ := PyData.int) (fun done _ e => ∃ x2 x4 x5 x6 x7 x8, e = [.val (neckD t f c), .val (intsD t), x2, .val (.list ((rtW done.reverse).map tupD)), x4, x5, x6, x7, x8]) t ?_ ?_ _ ⟨_, _, _, _, _, _, rfl⟩
  · rintro done a l e N hl ⟨x2, x4, x5, x6, x7, x8, rfl⟩ k
    have ha := ok.n a (by rw [hl]; simp)
    have hdl : done.reverse.length ≤ 3 := by
      have e1 := congrArg List.length hl
      simp at e1 ⊢
      omega
    have hw := rtW_len done.reverse
    have hw2 : 5 ^ done.reverse.length ≤ 5 ^ 3 := Nat.pow_le_pow_right (by decide) hdl
    have h53 : (5 : Nat) ^ 3 = 125 := by decide
    simp
    refine ⟨by omega, lcOut_map (φ := tupD) (fun r => (stepsL a).map fun k => tupD (r ++ [k])) _ [] (fun r hr acc K0 K kk => ?_) ?_⟩
    · have hrl := (rtW_is hr).1
      simp [lcTurn]
      refine ⟨_, _, ⟨rfl, rfl⟩, ?_, ?_, ?_⟩
      · constructor
        · split <;> omega
        · constructor
          · split <;> omega
          · constructor <;> split <;> omega
      · split <;> split <;> omega
      · rw [rngD_ints, steps_rng ha.1 ha.2]
        refine lcRun_map (φ := PyData.int) (fun _ => true) (fun k => tupD (r ++ [k])) _ _ (fun x hx K' kk' => ?_) ?_
        · simp
          exact ⟨by omega, by simpa [tupD] using kk'⟩
        · rw [List.filter_eq_self.mpr (by simp)]
          exact kk
    · rw [List.nil_append]
      have e : (rtW done.reverse).flatMap (fun r => (stepsL a).map fun k => tupD (r ++ [k])) = (rtW (done ++ [a]).reverse).map tupD := by
        rw [List.reverse_append, List.reverse_singleton, List.singleton_append, rtW, List.map_flatMap]
        simp [List.map_map, Function.comp_def]
      rw [e]
      simpa using k _ ⟨_, _, _, _, _, _, rfl⟩
  · rintro e ⟨x2, x4, x5, x6, x7, x8, rfl⟩
    have hw := rtW_len t.reverse
    have hw2 : 5 ^ t.reverse.length ≤ 5 ^ 4 := Nat.pow_le_pow_right (by decide) (by simpa using h4)
    have h54 : (5 : Nat) ^ 4 = 625 := by decide
    simp
    refine ⟨by omega, ?_, ?_, fun r hr => ?_, fun r hr K kk => ?_, fun ys p so => ?_⟩
    · intro d hd d' hd'
      obtain ⟨a, _, rfl⟩ := List.mem_map.mp hd
      obtain ⟨b, _, rfl⟩ := List.mem_map.mp hd'
      show PySem.W.alike (key_rank (tupD a)) (key_rank (tupD b)) = true
      rw [key_tup, key_tup]
      exact alike_rank a b
    · refine .inl fun d hd => ?_
      obtain ⟨a, _, rfl⟩ := List.mem_map.mp hd
      show ∃ x r, key_rank (tupD a) = .tuple (x :: r)
      rw [key_tup]
      exact ⟨_, _, rfl⟩
    · rw [key_tup]
      exact sh_rank.ok
    · have hrl := (rtW_is hr).1
      rw [key_tup] at kk
      exact ⟨r, rfl, by rw [hrl]; simp; omega, kk⟩
    · rw [rt_perm p so]
      exact h
section
variable {P : Program} {w : World} {g : Glb} {mg : Str → Option Value} {base : Heap}
theorem ok_retunings {f : Addr} {fd : FuncData} (F : FunP g.K "_retunings" s_retunings f fd) (mgf : mg "_retunings" = some (.ref f)) (T : Txt mg) (C_rank : C8.Cal P w g.K mg base 1 "_rank" (spD g f_rank) []) : C8.Cal P w g.K mg base 4 "_retunings" (spN g f_retunings) [] :=
  calN (N := ["neck", "tuning", "_", "found", "note", "least", "greatest", "ahead", "step"]) (ps := ["neck"]) (k := 3) (wb := W_retunings) F mgf (F.bindsN fun _ _ _ _ _ _ us hl => match us, hl with | [_], _ => rfl) sc_retunings len_retunings (fun cdv A outer s H E r a ns hr =>
    (pssd_cons (ps_w (ps_asg (pe_w (pv 0) xd_var) (pg_tup rfl (pgs_cons (pg_name (i := 1) sc_retunings.nd rfl (.inl rfl)) (pgs_cons (pg_name (i := 2) sc_retunings.nd rfl (.inl rfl)) (pgs_cons (pg_name (i := 2) sc_retunings.nd rfl (.inl rfl)) pgs_nil))))) (xs_unp (is := [1, 2, 2]) rfl)) (pssd_cons (ps_w (ps_set (i := 3) sc_retunings.nd rfl (.inl rfl) (pe_w (pe_lst (pa_w (pa_cons (pe_w (pe_tup (pa_w pa_nil xa_nil)) xd_tup) (pa_w pa_nil xa_nil)) xa_cons)) xd_lst)) xs_asg) (pssd_cons (ps_w (ps_for (g := gName 4) PassesOwn.never rfl (pi_w (pi_tup (pe_w (pv 1) xd_var)) xi_tup) (pg_name (i := 4) sc_retunings.nd rfl (.inl rfl)) (pssd_cons (ps_w (ps_set (i := 5) sc_retunings.nd rfl (.inr rfl) (pe_w (pe_callB (call_max2 (by rfl)) (by rfl) T.m_max (by decide +kernel) (pa_w (pa_cons (pe_w (pe_un un_neg (pe_w (pe_gint (by rfl) T.c_FARTHEST) (xd_c fun _ => .int))) xd_neg) (pa_w (pa_cons (pe_w (pe_un un_neg (pe_w (pv 4) xd_var)) xd_neg) (pa_w pa_nil xa_nil)) xa_cons)) xa_cons)) (xd_cb cd_max2))) xs_asg) (pssd_cons (ps_w (ps_set (i := 6) sc_retunings.nd rfl (.inr rfl) (pe_w (pe_callB (call_min2 (by rfl)) (by rfl) T.m_min (by decide +kernel) (pa_w (pa_cons (pe_w (pe_gint (by rfl) T.c_FARTHEST) (xd_c fun _ => .int)) (pa_w (pa_cons (pe_w (pe_op op_sub (pe_w (pe_gint (by rfl) T.c_HIGHEST_TUNING) (xd_c fun _ => .int)) (pe_w (pv 4) xd_var)) (xd_op od_sub)) (pa_w pa_nil xa_nil)) xa_cons)) xa_cons)) (xd_cb cd_min2))) xs_asg) (pssd_one (ps_w (ps_setLc2 (i := 3) (own := [("ahead", 7), ("step", 8)]) (vs1 := [8]) (g := gName 7) (g1 := gName 8) rfl sc_retunings.nd rfl rfl (sw_true rfl rfl rfl (by decide +kernel)) (pi_w (pi_list (pe_w (pv 3) xd_var)) xi_list) (blkOk_by (own := [("ahead", 7), ("step", 8)]) (N := ["neck", "tuning", "_", "found", "note", "least", "greatest", "ahead", "step"]) (sc := (defScope s_retunings)) (by decide +kernel)) (by decide) (fun _ _ _ _ _ => (pg_name (i := 7) sc_retunings.nd rfl (.inl rfl))) (fun _ _ _ _ _ => (pts_w pts_nil xt_yes)) (fun _ _ _ _ _ => (pi_w (pi_range2 (by rfl) T.m_range (pa_w (pa_cons (pe_w (pv 5) xd_var) (pa_w (pa_cons (pe_w (pe_op op_add (pe_w (pv 6) xd_var) (pe_w pe_int (xd_c fun _ => .int))) (xd_op od_add)) (pa_w pa_nil xa_nil)) xa_cons)) xa_cons)) xi_rng2)) (fun _ _ _ _ _ => (pg_name (i := 8) sc_retunings.nd rfl (.inl rfl))) (fun _ _ _ _ _ => (pts_w pts_nil xt_yes)) (fun _ _ _ _ _ => (pe_w (pe_op op_catA (pe_w (pv 7) xd_var) (pe_w (pe_tup (pa_w (pa_cons (pe_w (pv 8) xd_var) (pa_w pa_nil xa_nil)) xa_cons)) xd_tup)) (xd_op od_catT)))) (xs_asgLc2 gd_name (stores_two (by decide)) gd_name stores_name)))))) (xs_for gd_name)) (pssd_one (ps_w (ps_ret (pe_w (FWO.pe_srtKey C_rank hr (by decide) (by rfl) (by rfl) T.m_sorted (pa_w (pa_cons (pe_w (pv 3) xd_var) (pa_w pa_nil xa_nil)) xa_cons)) xn_srtKey)) xs_retL)))))) pure_retunings
end

/-! ### _first_without_way -/
noncomputable def firstD (o : Option Nat) : D := match o with
  | none => .none
  | some k => .int (k : Nat)
def f_first_without_way : Fd := fun ds R => ∃ t f c ls r g, ds = [neckD t f c, .list (ls.map intsD), intsD [r, g]] ∧ OkNeck t f c ∧ (∀ l ∈ ls, OkChord l) ∧ OkHand [r, g] ∧ R (firstD (lackW t f c ls r g).head?)
theorem len_first_without_way : ∀ ds R, f_first_without_way ds R → ds.length = 3 := by
  rintro ds R ⟨t, f, c, ls, r, g, rfl, _⟩; rfl
@[simp] theorem first_without_way_iff {t : List Int} {f c : Int} {ls : List (List Int)} {r g : Int} {R : D → Prop} : f_first_without_way [neckD t f c, .list (ls.map intsD), intsD [r, g]] R ↔ OkNeck t f c ∧ (∀ l ∈ ls, OkChord l) ∧ OkHand [r, g] ∧ R (firstD (lackW t f c ls r g).head?) := by
  constructor
  · rintro ⟨t', f', c', ls', r', g', e, h⟩; simp at e; obtain ⟨⟨rfl, rfl, rfl⟩, rfl, rfl, rfl⟩ := e; exact h
  · intro h; exact ⟨_, _, _, _, _, _, rfl, h⟩
theorem lackW_none {t : List Int} {f c : Int} {ls : List (List Int)} {r g : Int} (h : ∀ l ∈ ls, hasW t f c l r g = true) : lackW t f c ls r g = [] := by
  unfold lackW
  refine List.filter_eq_nil_iff.mpr fun i hi => ?_
  have hi := List.mem_range.mp hi
  rw [List.getD_eq_getElem?_getD, List.getElem?_eq_getElem hi]
  simp only [Option.getD_some]
  rw [h _ (List.getElem_mem ..)]
  simp
theorem lackW_some {t : List Int} {f c : Int} {done : List (List Int)} {l : List Int} {ls : List (List Int)} {r g : Int} (h : ∀ l ∈ done, hasW t f c l r g = true) (hl : hasW t f c l r g = false) : (lackW t f c (done ++ l :: ls) r g).head? = some done.length := by
  unfold lackW
  have e : (done ++ l :: ls).length = done.length + (1 + ls.length) := by simp; omega
  rw [e, List.range_add, List.filter_append]
  have z : (List.range done.length).filter (fun i => !hasW t f c ((done ++ l :: ls).getD i []) r g) = [] := by
    refine List.filter_eq_nil_iff.mpr fun i hi => ?_
    have hi := List.mem_range.mp hi
    rw [List.getD_eq_getElem?_getD, List.getElem?_append_left hi, List.getElem?_eq_getElem hi]
    simp only [Option.getD_some]
    rw [h _ (List.getElem_mem ..)]
    simp
  rw [z, List.nil_append, Nat.add_comm 1, List.range_succ_eq_map, List.map_cons, List.filter_cons]
  have y : (done ++ l :: ls).getD (done.length + 0) [] = l := by
    rw [List.getD_eq_getElem?_getD, Nat.add_zero, List.getElem?_append_right (Nat.le_refl _)]
    simp
  rw [y, hl]
  simp
theorem zipIdx_split {α : Type} {ls : List α} {done l : List (α × Nat)} {p : α × Nat} (h : ls.zipIdx = done ++ p :: l) : ls = done.map (·.1) ++ p.1 :: l.map (·.1) ∧ p.2 = (done.map (·.1)).length := by
  have e := congrArg (List.map (·.1)) h
  rw [List.zipIdx_map_fst] at e
  refine ⟨by simpa using e, ?_⟩
  have e2 : ls.zipIdx[done.length]? = some p := by rw [h]; simp
  rw [List.getElem?_zipIdx] at e2
  cases q : ls[done.length]? with
  | none => rw [q] at e2; cases e2
  | some x =>
    rw [q] at e2
    simp at e2
    rw [← e2]
    simp
def W_first_without_way : WS := (dSeq (dFor (iEnmL (aCons (dVar 1) aNil)) (tgT [3, 4]) (dIfS (bNot (bTru (dN (nCall f_ways (aCons (dVar 0) (aCons (dVar 4) (aCons (dVar 2) aNil))))))) (dRet (dVar 3)) dNext)) (dRet (dC .none)))
def N_first_without_way : List Str := ["neck", "chords", "hand", "number", "chord"]
theorem sc_first_without_way : FnScope ["neck", "chords", "hand", "number", "chord"] ["neck", "chords", "hand"] (defScope s_first_without_way) := ⟨rfl, rfl, rfl, by decide +kernel, rfl, by decide +kernel, by decide +kernel⟩
theorem pure_first_without_way : ∀ ds R, f_first_without_way ds R → W_first_without_way { nx := fun _ => R .none, rt := R } (startD N_first_without_way ds) := by
  rintro ds R ⟨t, f, c, ls, r, g, rfl, ok, oc, oh, h⟩
  simp [W_first_without_way, N_first_without_way]
  rw [enumD_map]
  refine forRun_map (fun done l e => (∀ p ∈ done, hasW t f c p.1 r g = true) ∧ ∃ x3 x4, e = [.val (neckD t f c), .val (.list (ls.map intsD)), .val (intsD [r, g]), x3, x4]) _ ?_ ?_ _ ⟨fun p hp => (by cases hp), _, _, rfl⟩
  · rintro done p l e N hl ⟨hd, x3, x4, rfl⟩ k
    obtain ⟨h1, h2⟩ := zipIdx_split hl
    simp
    refine ⟨ok, oc _ (by rw [h1]; simp), oh, fun ss hs _ _ _ => ?_⟩
    have hw := hasW_of hs
    cases hss : ss with
    | nil =>
      subst hss
      have hw : hasW t f c p.1 r g = false := hw
      simp
      rw [h1, lackW_some (fun l hl => ?_) hw] at h
      · rw [h2]
        simpa [firstD] using h
      · obtain ⟨q, hq, rfl⟩ := List.mem_map.mp hl
        exact hd q hq
    | cons s ss' =>
      subst hss
      have hw : hasW t f c p.1 r g = true := hw
      simp
      refine k _ ⟨fun q hq => ?_, _, _, rfl⟩
      rcases List.mem_append.mp hq with hq | hq
      · exact hd q hq
      · rw [List.mem_singleton.mp hq]
        exact hw
  · rintro e ⟨hd, x3, x4, rfl⟩
    rw [lackW_none (fun l hl => ?_)] at h
    · simpa [firstD] using h
    · obtain ⟨i, hi, rfl⟩ := List.getElem_of_mem hl
      exact hd (ls[i], i) (List.mem_iff_getElem.mpr ⟨i, by simpa using hi, by simp⟩)
section
variable {P : Program} {w : World} {g : Glb} {mg : Str → Option Value} {base : Heap}
theorem ok_first_without_way {f : Addr} {fd : FuncData} (F : FunP g.K "_first_without_way" s_first_without_way f fd) (mgf : mg "_first_without_way" = some (.ref f)) (T : Txt mg) (C_ways : C8.Cal P w g.K mg base 4 "ways" (spN g f_ways) []) : C8.Cal P w g.K mg base 5 "_first_without_way" (spD g f_first_without_way) [] :=
  calD (N := ["neck", "chords", "hand", "number", "chord"]) (ps := ["neck", "chords", "hand"]) (k := 4) (wb := W_first_without_way) F mgf (F.bindsN fun _ _ _ _ _ _ us hl => match us, hl with | [_, _, _], _ => rfl) sc_first_without_way len_first_without_way (fun cdv A outer s H E r a ns hr =>
    (pssd_cons (ps_w (ps_for (g := gTup _ 2 (gNames [3, 4])) PassesOwn.never rfl (pi_w (pi_enum (by rfl) T.m_enumerate (pa_w (pa_cons (pe_w (pv 1) xd_var) (pa_w pa_nil xa_nil)) xa_cons)) xi_enumL) (pg_tup rfl (pgs_cons (pg_name (i := 3) sc_first_without_way.nd rfl (.inl rfl)) (pgs_cons (pg_name (i := 4) sc_first_without_way.nd rfl (.inl rfl)) pgs_nil))) (pssd_one (ps_w (ps_if (pt_w (pt_not (pt_w (pt_truth (pe_w (pe_w (C8.pe_c C_ways hr (by decide) (by rfl) (pa_w (pa_cons (pe_w (pv 0) xd_var) (pa_w (pa_cons (pe_w (pv 4) xd_var) (pa_w (pa_cons (pe_w (pv 2) xd_var) (pa_w pa_nil xa_nil)) xa_cons)) xa_cons)) xa_cons)) xn_call) xd_N) (by intro _; rfl)) xt_tru)) xt_not) (pssd_one (ps_w (ps_ret (pe_w (pv 3) xd_var)) xs_ret)) pssd_nil) xs_if))) (xs_for (gd_tup (is := [3, 4]) rfl))) (pssd_one (ps_w (ps_ret (pe_w pe_non (xd_c fun _ => .non))) xs_ret)))) pure_first_without_way
end

/-! ### retuned -/
def f_retuned : Fd := fun ds R => ∃ t f c ls r g, ds = [neckD t f c, .list (ls.map intsD), intsD [r, g]] ∧ OkNeck t f c ∧ t.length ≤ 4 ∧ ls.length ≤ 6 ∧ (∀ l ∈ ls, OkChord l) ∧ OkHand [r, g] ∧ R (dueW t f c ls r g)
theorem len_retuned : ∀ ds R, f_retuned ds R → ds.length = 3 := by
  rintro ds R ⟨t, f, c, ls, r, g, rfl, _⟩; rfl
@[simp] theorem retuned_iff {t : List Int} {f c : Int} {ls : List (List Int)} {r g : Int} {R : D → Prop} : f_retuned [neckD t f c, .list (ls.map intsD), intsD [r, g]] R ↔ OkNeck t f c ∧ t.length ≤ 4 ∧ ls.length ≤ 6 ∧ (∀ l ∈ ls, OkChord l) ∧ OkHand [r, g] ∧ R (dueW t f c ls r g) := by
  constructor
  · rintro ⟨t', f', c', ls', r', g', e, h⟩; simp at e; obtain ⟨⟨rfl, rfl, rfl⟩, rfl, rfl, rfl⟩ := e; exact h
  · intro h; exact ⟨_, _, _, _, _, _, rfl, h⟩
theorem noList_intsR : ∀ l : List Int, noListA (l.map PyData.int) = true
  | [] => rfl
  | _ :: l => by
    show (noListD _ && noListA (l.map PyData.int)) = true
    rw [noList_intsR l]
    rfl
theorem noList_tupD {l : List Int} : noListD (tupD l) = true := by
  show noListA _ = true
  exact noList_intsR l
theorem noList_pairs : ∀ acc : List (List Int × Nat), noListA (acc.map pairR) = true
  | [] => rfl
  | p :: acc => by
    show (noListD (pairR p) && noListA (acc.map pairR)) = true
    rw [noList_pairs acc]
    show ((noListD (tupD p.1) && (noListD (.int _) && true)) && true) = true
    rw [noList_tupD]
    rfl
def W_retuned : WS := (dSeq (dDrop (dCall f_check_retunable (aCons (dVar 0) aNil))) (dSeq (dDrop (dCall f_check_chords (aCons (dVar 1) aNil))) (dSeq (dDrop (dCall f_check_hand (aCons (dVar 2) aNil))) (dSeq (dOwn 3 (nLst aNil)) (dSeq (dFor (iLst (dN (nCall f_retunings (aCons (dVar 0) aNil)))) (tgN 4) (dSeq (dAsg 5 (dCall f_first_without_way (aCons (dCall f_tuned (aCons (dVar 0) (aCons (dVar 4) aNil))) (aCons (dVar 1) (aCons (dVar 2) aNil))))) (dSeq (dIfS (bB (dIsN (dVar 5))) (dRetFz 3 (dVar 4)) dNext) (dApp 3 (dTup (aCons (dVar 4) (aCons (dVar 5) aNil))))))) (dRet (dC .none)))))))
def N_retuned : List Str := ["neck", "chords", "hand", "reasons", "retuning", "number"]
theorem sc_retuned : FnScope ["neck", "chords", "hand", "reasons", "retuning", "number"] ["neck", "chords", "hand"] (defScope s_retuned) := ⟨rfl, rfl, rfl, by decide +kernel, rfl, by decide +kernel, by decide +kernel⟩
theorem pure_retuned : ∀ ds R, f_retuned ds R → W_retuned { nx := fun _ => R .none, rt := fun d => noListD d = true ∧ R d, rf := R } (startD N_retuned ds) := by
  rintro ds R ⟨t, f, c, ls, r, g, rfl, ok, h4, l6, oc, oh, h⟩
  simp [W_retuned, N_retuned]
  refine ⟨ok, h4, l6, oc, oh, ok, h4, ?_⟩
  refine forRun_map (φ := tupD) (fun done rest e => ∃ (acc : List (List Int × Nat)) (x4 x5 : Sl), dueW t f c ls r g = dueR t f c ls r g rest acc ∧ acc.length + rest.length ≤ 625 ∧ e = [.val (neckD t f c), .val (.list (ls.map intsD)), .val (intsD [r, g]), .own (acc.map pairR), x4, x5]) _ ?_ ?_ _ ⟨[], _, _, rfl, by have := rtS_len h4; simp; omega, rfl⟩
  · rintro done u l e N hl ⟨acc, x4, x5, ha, hn, rfl⟩ k
    have hu : u ∈ rtS t := by rw [hl]; simp
    have oku := tuned_ok ok hu
    have l2 := ok.l2
    simp at hn
    simp [oku, oh, l2]
    refine ⟨by omega, oc, ?_⟩
    cases hk : (lackW (tunedL t u) f c ls r g).head? with
    | none =>
      rw [ha, dueR, hk] at h
      simpa [firstD, isNone, noList_tupD, noList_pairs] using h
    | some i =>
      simp [firstD, isNone]
      refine ⟨by omega, ?_⟩
      have := k _ ⟨acc ++ [(u, i)], .val (tupD u), .val (.int (i : Nat)), by rw [ha, dueR, hk], by simp; omega, rfl⟩
      simpa [pairR] using this
  · rintro e ⟨acc, x4, x5, ha, hn, rfl⟩
    rw [ha] at h
    simpa [dueR, noListD] using h
section
variable {P : Program} {w : World} {g : Glb} {mg : Str → Option Value} {base : Heap}
theorem ok_retuned {f : Addr} {fd : FuncData} (F : FunP g.K "retuned" s_retuned f fd) (mgf : mg "retuned" = some (.ref f)) (T : Txt mg) (C_check_retunable : C8.Cal P w g.K mg base 3 "_check_retunable" (spD g f_check_retunable) []) (C_check_chords : C8.Cal P w g.K mg base 3 "check_chords" (spD g f_check_chords) []) (C_check_hand : C8.Cal P w g.K mg base 2 "check_hand" (spD g f_check_hand) []) (C_retunings : C8.Cal P w g.K mg base 4 "_retunings" (spN g f_retunings) []) (C_first_without_way : C8.Cal P w g.K mg base 5 "_first_without_way" (spD g f_first_without_way) []) (C_tuned : C8.Cal P w g.K mg base 1 "_tuned" (spD g f_tuned) []) : C8.Cal P w g.K mg base 6 "retuned" (spF g f_retuned) [] :=
  calF (N := ["neck", "chords", "hand", "reasons", "retuning", "number"]) (ps := ["neck", "chords", "hand"]) (k := 5) (wb := W_retuned) F mgf (F.bindsN fun _ _ _ _ _ _ us hl => match us, hl with | [_, _, _], _ => rfl) sc_retuned len_retuned (fun cdv A outer s H E r a ns hr =>
    (pssd_cons (ps_w (ps_expr (pe_w (C8.pe_c C_check_retunable hr (by decide) (by rfl) (pa_w (pa_cons (pe_w (pv 0) xd_var) (pa_w pa_nil xa_nil)) xa_cons)) xd_call)) xs_drop) (pssd_cons (ps_w (ps_expr (pe_w (C8.pe_c C_check_chords hr (by decide) (by rfl) (pa_w (pa_cons (pe_w (pv 1) xd_var) (pa_w pa_nil xa_nil)) xa_cons)) xd_call)) xs_drop) (pssd_cons (ps_w (ps_expr (pe_w (C8.pe_c C_check_hand hr (by decide) (by rfl) (pa_w (pa_cons (pe_w (pv 2) xd_var) (pa_w pa_nil xa_nil)) xa_cons)) xd_call)) xs_drop) (pssd_cons (ps_w (ps_set (i := 3) sc_retuned.nd rfl (.inl rfl) (pe_w (pe_lst (pa_w pa_nil xa_nil)) xn_lst)) xs_own) (pssd_cons (ps_w (ps_for (g := gName 4) PassesOwn.never rfl (pi_w (pi_list (pe_w (pe_w (C8.pe_c C_retunings hr (by decide) (by rfl) (pa_w (pa_cons (pe_w (pv 0) xd_var) (pa_w pa_nil xa_nil)) xa_cons)) xn_call) xd_N)) xi_list) (pg_name (i := 4) sc_retuned.nd rfl (.inl rfl)) (pssd_cons (ps_w (ps_set (i := 5) sc_retuned.nd rfl (.inl rfl) (pe_w (C8.pe_c C_first_without_way hr (by decide) (by rfl) (pa_w (pa_cons (pe_w (C8.pe_c C_tuned hr (by decide) (by rfl) (pa_w (pa_cons (pe_w (pv 0) xd_var) (pa_w (pa_cons (pe_w (pv 4) xd_var) (pa_w pa_nil xa_nil)) xa_cons)) xa_cons)) xd_call) (pa_w (pa_cons (pe_w (pv 1) xd_var) (pa_w (pa_cons (pe_w (pv 2) xd_var) (pa_w pa_nil xa_nil)) xa_cons)) xa_cons)) xa_cons)) xd_call)) xs_asg) (pssd_cons (ps_w (ps_if (pt_w (pt_cmp (pc_isN (pe_w (pv 5) xd_var))) xt_isN) (pssd_one (ps_w (ps_ret (pe_tup (pa_cons (pe_w (pv 4) xd_var) (pa_cons (pv 3) pa_nil)))) xs_retFz)) pssd_nil) xs_if) (pssd_one (ps_w (ps_expr (pe_bm PySem.F.plainAttrs_list PySem.F.slot_list_append PySem.F.type_list_append mt_append (pv 3) (pa_cons (pe_w (pe_tup (pa_w (pa_cons (pe_w (pv 4) xd_var) (pa_w (pa_cons (pe_w (pv 5) xd_var) (pa_w pa_nil xa_nil)) xa_cons)) xa_cons)) xd_tup) pa_nil))) xs_app))))) (xs_for gd_name)) (pssd_one (ps_w (ps_ret (pe_w pe_non (xd_c fun _ => .non))) xs_ret)))))))) pure_retuned
end

/-! ### moves of the hand -/
theorem absI_nonneg (i : Int) : 0 ≤ absI i := by unfold absI; split <;> omega
theorem absI_zero : absI 0 = 0 := rfl
theorem absI_sub (a b : Int) : absI (a - b) = absI (b - a) := by unfold absI; split <;> split <;> omega
def leastI : List Int → Int
  | [] => 0
  | [a] => a
  | a :: b :: l => if a ≤ leastI (b :: l) then a else leastI (b :: l)
theorem leastI_spec : ∀ l : List Int, l ≠ [] → leastI l ∈ l ∧ ∀ y ∈ l, leastI l ≤ y
  | [], h => absurd rfl h
  | [a], _ => ⟨List.mem_cons_self, fun y hy => by rw [List.mem_singleton.mp hy]; exact Int.le_refl _⟩
  | a :: b :: l, _ => by
    obtain ⟨h1, h2⟩ := leastI_spec (b :: l) (by simp)
    unfold leastI
    by_cases q : a ≤ leastI (b :: l)
    · rw [if_pos q]
      refine ⟨List.mem_cons_self, fun y hy => ?_⟩
      rcases List.mem_cons.mp hy with z | z
      · rw [z]; exact Int.le_refl _
      · exact Int.le_trans q (h2 y z)
    · rw [if_neg q]
      refine ⟨List.mem_cons_of_mem _ h1, fun y hy => ?_⟩
      rcases List.mem_cons.mp hy with z | z
      · rw [z]; omega
      · exact h2 y z
theorem leastI_eq {l : List Int} {m : Int} (h : m ∈ l) (k : ∀ y ∈ l, m ≤ y) : m = leastI l := by
  have ne : l ≠ [] := fun z => by rw [z] at h; cases h
  obtain ⟨h1, h2⟩ := leastI_spec l ne
  have a := k _ h1
  have b := h2 _ h
  omega
theorem leastI_nonneg {l : List Int} (h : ∀ y ∈ l, 0 ≤ y) : 0 ≤ leastI l := by
  cases l with
  | nil => exact Int.le_refl 0
  | cons a l => exact h _ (leastI_spec (a :: l) (by simp)).1
def moveL : List Int → Int
  | a :: b :: l => absI (b - a) + moveL (b :: l)
  | _ => 0
theorem moveL_nonneg : ∀ l : List Int, 0 ≤ moveL l
  | [] => Int.le_refl 0
  | [_] => Int.le_refl 0
  | a :: b :: l => by
    have := moveL_nonneg (b :: l)
    have := absI_nonneg (b - a)
    show 0 ≤ absI (b - a) + moveL (b :: l)
    omega
theorem moveL_app (a b : Int) : ∀ l : List Int, moveL (l ++ [a, b]) = moveL (l ++ [a]) + absI (b - a)
  | [] => by show absI (b - a) + 0 = 0 + absI (b - a); omega
  | [x] => by show absI (a - x) + (absI (b - a) + 0) = absI (a - x) + 0 + absI (b - a); omega
  | x :: y :: l => by
    have := moveL_app a b (y :: l)
    show absI (y - x) + moveL (y :: l ++ [a, b]) = absI (y - x) + moveL (y :: l ++ [a]) + absI (b - a)
    omega
theorem moveL_rev : ∀ l : List Int, moveL l.reverse = moveL l
  | [] => rfl
  | [a] => rfl
  | a :: b :: l => by
    have ih := moveL_rev (b :: l)
    rw [List.reverse_cons] at ih
    rw [List.reverse_cons, List.reverse_cons, List.append_assoc]
    show moveL (l.reverse ++ [b, a]) = absI (b - a) + moveL (b :: l)
    rw [moveL_app, ih, absI_sub]
    omega
theorem moveL_cut : ∀ (l r : List Int), moveL l + moveL r ≤ moveL (l ++ r)
  | [], r => by show 0 + moveL r ≤ moveL r; omega
  | [a], [] => by show (0 : Int) + 0 ≤ 0; decide
  | [a], b :: r => by
    have := absI_nonneg (b - a)
    show 0 + moveL (b :: r) ≤ absI (b - a) + moveL (b :: r)
    omega
  | a :: b :: l, r => by
    have := moveL_cut (b :: l) r
    show absI (b - a) + moveL (b :: l) + moveL r ≤ absI (b - a) + moveL (b :: l ++ r)
    omega
theorem moveL_shift (d : Int) : ∀ l : List Int, moveL (l.map (· + d)) = moveL l
  | [] => rfl
  | [a] => rfl
  | a :: b :: l => by
    have := moveL_shift d (b :: l)
    show absI (b + d - (a + d)) + moveL ((b :: l).map (· + d)) = absI (b - a) + moveL (b :: l)
    rw [this]
    have e : b + d - (a + d) = b - a := by omega
    rw [e]
theorem moveL_zip (l : List Int) : ((l.zip l.tail).map fun p => absI (p.2 - p.1)).sum = moveL l := by
  match l with
  | [] => rfl
  | [a] => rfl
  | a :: b :: l =>
    have ih := moveL_zip (b :: l)
    show (absI (b - a) :: (((b :: l).zip l).map fun p => absI (p.2 - p.1))).sum = absI (b - a) + moveL (b :: l)
    rw [List.sum_cons, ← ih]
    rfl
/-! ### positions, what can be played -/
def posTop (f c : Int) : Int := if c + 1 > f then c + 1 else f
def posN (f c : Int) : Nat := (posTop f c + 1 - (c + 1)).toNat
def posL (f c : Int) : List Int := (List.range (posN f c)).map fun (k : Nat) => c + 1 + (k : Int)
theorem posL_rng (f c : Int) : rngD (c + 1) (posN f c) = (posL f c).map PyData.int := by
  unfold rngD posL
  rw [List.map_map]
  rfl
theorem posL_mem {f c p : Int} : p ∈ posL f c ↔ c + 1 ≤ p ∧ p ≤ posTop f c := by
  unfold posL posN
  rw [List.mem_map]
  constructor
  · rintro ⟨k, hk, rfl⟩
    have := List.mem_range.mp hk
    omega
  · rintro ⟨h1, h2⟩
    exact ⟨(p - (c + 1)).toNat, List.mem_range.mpr (by omega), by omega⟩
theorem posN_pos (f c : Int) : 0 < posN f c := by unfold posN posTop; split <;> omega
theorem posL_ne (f c : Int) : posL f c ≠ [] := fun z => by
  have h1 := congrArg List.length z
  have := posN_pos f c
  simp [posL] at h1
  omega
theorem posL_len (f c : Int) : (posL f c).length = posN f c := by simp [posL]
theorem posN_le {f c : Int} (h : f ≤ 20) (h0 : 0 ≤ c) : posN f c ≤ 20 := by unfold posN posTop; split <;> omega
/-- by a string tuned to x -/
def hitB (f c n r p x : Int) : Bool := isPlace f c (n - x) && (decide (n - x = c) || (decide (p ≤ n - x) && decide (n - x ≤ p + r)))
def canB (t : List Int) (f c n r p : Int) : Bool := t.any (hitB f c n r p)
def playB (t : List Int) (f c r n : Int) : Bool := (posL f c).any fun p => canB t f c n r p
def Hit (t : List Int) (f c n r p : Int) (s : Nat) (y : Int) : Prop := ∃ x, t[s]? = some x ∧ y = n - x ∧ hitB f c n r p x = true
theorem Hit.can {t : List Int} {f c n r p : Int} {s : Nat} {y : Int} (h : Hit t f c n r p s y) : canB t f c n r p = true := by
  obtain ⟨x, h1, _, h3⟩ := h
  exact List.any_eq_true.mpr ⟨x, List.mem_of_getElem? h1, h3⟩
/-- rows of positions in which the notes can be played -/
structure Val (t : List Int) (f c r : Int) (ns qs : List Int) : Prop where
  len : qs.length = ns.length
  ok : ∀ (i : Nat) (n q : Int), ns[i]? = some n → qs[i]? = some q → q ∈ posL f c ∧ canB t f c n r q = true
structure IsLeast (t : List Int) (f c r : Int) (ns : List Int) (m : Int) : Prop where
  ex : ∃ qs, Val t f c r ns qs ∧ moveL qs = m
  le : ∀ qs, Val t f c r ns qs → m ≤ moveL qs
section
variable {t : List Int} {f c r : Int}
theorem Val.cons {n q : Int} {ns qs : List Int} : Val t f c r (n :: ns) (q :: qs) ↔ (q ∈ posL f c ∧ canB t f c n r q = true) ∧ Val t f c r ns qs := by
  constructor
  · intro h
    exact ⟨h.ok 0 n q rfl rfl, by simpa using h.len, fun i n' q' a b => h.ok (i + 1) n' q' (by simpa using a) (by simpa using b)⟩
  · rintro ⟨h1, h2⟩
    refine ⟨by simp [h2.len], fun i n' q' a b => ?_⟩
    cases i with
    | zero =>
      simp at a b
      subst a b
      exact h1
    | succ i => exact h2.ok i n' q' (by simpa using a) (by simpa using b)
theorem Val.nil : Val t f c r [] [] := ⟨rfl, fun i n q a => by simp at a⟩
theorem Val.rev {ns qs : List Int} (h : Val t f c r ns qs) : Val t f c r ns.reverse qs.reverse := by
  refine ⟨by simp [h.len], fun i n q a b => ?_⟩
  have h1 : i < ns.reverse.length := (List.getElem?_eq_some_iff.mp a).1
  rw [List.length_reverse] at h1
  rw [List.getElem?_reverse h1] at a
  rw [List.getElem?_reverse (by rw [h.len]; exact h1), h.len] at b
  exact h.ok _ n q a b
theorem Val.unrev {ns qs : List Int} (h : Val t f c r ns.reverse qs) : Val t f c r ns qs.reverse := by
  have := h.rev
  rwa [List.reverse_reverse] at this
theorem IsLeast.rev {ns : List Int} {m : Int} (h : IsLeast t f c r ns m) : IsLeast t f c r ns.reverse m := by
  obtain ⟨qs, h1, h2⟩ := h.ex
  exact ⟨⟨qs.reverse, h1.rev, by rw [moveL_rev]; exact h2⟩, fun qs hq => by
    have := h.le _ hq.unrev
    rwa [moveL_rev] at this⟩
theorem IsLeast.uniq {t' : List Int} {f' c' r' : Int} {ns ms : List Int} {m m' : Int} (h : IsLeast t f c r ns m) (h' : IsLeast t' f' c' r' ms m') (k : ∀ qs, Val t f c r ns qs → ∃ ps, Val t' f' c' r' ms ps ∧ moveL ps = moveL qs) (k' : ∀ qs, Val t' f' c' r' ms qs → ∃ ps, Val t f c r ns ps ∧ moveL ps = moveL qs) : m = m' := by
  obtain ⟨qs, h1, rfl⟩ := h.ex
  obtain ⟨ps, h2, rfl⟩ := h'.ex
  obtain ⟨a, a1, a2⟩ := k qs h1
  obtain ⟨b, b1, b2⟩ := k' ps h2
  have := h'.le a a1
  have := h.le b b1
  omega
theorem IsLeast.one {ns : List Int} {m m' : Int} (h : IsLeast t f c r ns m) (h' : IsLeast t f c r ns m') : m = m' := h.uniq h' (fun qs hq => ⟨qs, hq, rfl⟩) (fun qs hq => ⟨qs, hq, rfl⟩)
end
theorem val_some {t : List Int} {f c r : Int} : ∀ ns : List Int, (∀ n ∈ ns, playB t f c r n = true) → ∃ qs, Val t f c r ns qs
  | [], _ => ⟨[], Val.nil⟩
  | n :: ns, h => by
    obtain ⟨qs, hq⟩ := val_some ns fun m hm => h m (List.mem_cons_of_mem _ hm)
    obtain ⟨p, h1, h2⟩ := List.any_eq_true.mp (h n List.mem_cons_self)
    exact ⟨p :: qs, Val.cons.mpr ⟨⟨h1, h2⟩, hq⟩⟩
theorem val_play {t : List Int} {f c r : Int} {ns qs : List Int} (h : Val t f c r ns qs) : ∀ n ∈ ns, playB t f c r n = true := by
  intro n hn
  obtain ⟨i, hi, rfl⟩ := List.getElem_of_mem hn
  obtain ⟨h1, h2⟩ := h.ok i _ _ (List.getElem?_eq_getElem hi) (List.getElem?_eq_getElem (by rw [h.len]; exact hi))
  exact List.any_eq_true.mpr ⟨_, h1, h2⟩
/-! ### the table -/
def cand (ps row : List Int) : List (Int × Int) := (ps.zip row).filter fun q => decide (q.2 ≠ -1)
def arrL (ps row : List Int) (p : Int) : List Int := (cand ps row).map fun q => q.2 + absI (p - q.1)
def arrV (ps row : List Int) (p : Int) : Int := leastI (arrL ps row p)
def nextR (t : List Int) (f c r n : Int) (row : List Int) : List Int := (posL f c).map fun p => if canB t f c n r p = true then arrV (posL f c) row p else -1
/-- the row of the last of these notes, the last one first -/
def rowAt (t : List Int) (f c r : Int) : List Int → List Int
  | [] => (posL f c).map fun _ => 0
  | n :: ns => nextR t f c r n (rowAt t f c r ns)
def rowsRev (t : List Int) (f c r : Int) : List Int → List (List Int)
  | [] => []
  | n :: ns => rowAt t f c r (n :: ns) :: rowsRev t f c r ns
theorem zip_map_self (g : Int → Int) : ∀ ps : List Int, ps.zip (ps.map g) = ps.map fun p => (p, g p)
  | [] => rfl
  | p :: ps => by rw [List.map_cons, List.zip_cons_cons, zip_map_self g ps, List.map_cons]
theorem cand_map {g : Int → Int} {ps : List Int} {q v : Int} : (q, v) ∈ cand ps (ps.map g) ↔ q ∈ ps ∧ v = g q ∧ v ≠ -1 := by
  unfold cand
  rw [zip_map_self, List.mem_filter, List.mem_map]
  constructor
  · rintro ⟨⟨p, hp, e⟩, h⟩
    cases e
    exact ⟨hp, rfl, by simpa using h⟩
  · rintro ⟨h1, rfl, h2⟩
    exact ⟨⟨q, h1, rfl⟩, by simpa using h2⟩
section
variable {t : List Int} {f c r : Int}
theorem arr_nonneg {ps row : List Int} (h : ∀ q v, (q, v) ∈ cand ps row → 0 ≤ v) (p : Int) : 0 ≤ arrV ps row p := by
  refine leastI_nonneg fun y hy => ?_
  obtain ⟨⟨q, v⟩, hq, rfl⟩ := List.mem_map.mp hy
  have := h q v hq
  have := absI_nonneg (p - q)
  show 0 ≤ v + absI (p - q)
  omega
theorem arr_le {ps row : List Int} {p q v : Int} (h : (q, v) ∈ cand ps row) : arrV ps row p ≤ v + absI (p - q) := by
  have hm : v + absI (p - q) ∈ arrL ps row p := List.mem_map.mpr ⟨(q, v), h, rfl⟩
  exact (leastI_spec _ (fun z => by rw [z] at hm; cases hm)).2 _ hm
theorem rowAt_nonneg : ∀ ns : List Int, ∀ q v, (q, v) ∈ cand (posL f c) (rowAt t f c r ns) → 0 ≤ v
  | [], q, v, h => by
    have := (cand_map (g := fun _ => 0)).mp h
    omega
  | n :: ns, q, v, h => by
    obtain ⟨_, h2, h3⟩ := cand_map.mp h
    split at h2
    · rw [h2]; exact arr_nonneg (rowAt_nonneg ns) q
    · exact absurd h2 h3
theorem cand_next {n : Int} {ns : List Int} {q v : Int} : (q, v) ∈ cand (posL f c) (rowAt t f c r (n :: ns)) ↔ q ∈ posL f c ∧ canB t f c n r q = true ∧ v = arrV (posL f c) (rowAt t f c r ns) q := by
  have hn := arr_nonneg (rowAt_nonneg (t := t) (f := f) (c := c) (r := r) ns) q
  constructor
  · intro h
    obtain ⟨h1, h2, h3⟩ := cand_map.mp h
    split at h2
    · exact ⟨h1, ‹_›, h2⟩
    · exact absurd h2 h3
  · rintro ⟨h1, h2, h3⟩
    refine cand_map.mpr ⟨h1, ?_, by omega⟩
    rw [if_pos h2]
    exact h3
theorem arr_first {q : Int} (hq : q ∈ posL f c) : arrV (posL f c) (rowAt t f c r []) q = 0 := by
  have h0 : (q, (0 : Int)) ∈ cand (posL f c) (rowAt t f c r []) := (cand_map (g := fun _ => 0)).mpr ⟨hq, rfl, by decide⟩
  have h1 := arr_le (p := q) h0
  have h2 := arr_nonneg (rowAt_nonneg (t := t) (f := f) (c := c) (r := r) []) q
  rw [Int.sub_self, absI_zero] at h1
  omega
/-- no row of positions does with less -/
theorem low_bound : ∀ (n : Int) (ns : List Int) (q : Int) (qs : List Int), Val t f c r (n :: ns) (q :: qs) → ∃ v, (q, v) ∈ cand (posL f c) (rowAt t f c r (n :: ns)) ∧ v ≤ moveL (q :: qs)
  | n, [], q, qs, h => by
    obtain ⟨⟨h1, h2⟩, h3⟩ := Val.cons.mp h
    have := h3.len
    cases qs with
    | nil => exact ⟨0, cand_next.mpr ⟨h1, h2, (arr_first h1).symm⟩, Int.le_refl 0⟩
    | cons => simp at this
  | n, n' :: ns, q, qs, h => by
    obtain ⟨⟨h1, h2⟩, h3⟩ := Val.cons.mp h
    cases qs with
    | nil => have := h3.len; simp at this
    | cons q' qs =>
      obtain ⟨v', k1, k2⟩ := low_bound n' ns q' qs h3
      refine ⟨_, cand_next.mpr ⟨h1, h2, rfl⟩, ?_⟩
      have := arr_le (p := q) k1
      show arrV _ _ q ≤ absI (q' - q) + moveL (q' :: qs)
      rw [absI_sub] at this
      omega
/-- a way back along the rows -/
def WalkR (ps : List Int) : Int → List (List Int) → List Int → Prop
  | _, [], [] => True
  | q, row :: rows, h :: hs => (∃ v, (h, v) ∈ cand ps row ∧ v + absI (q - h) = arrV ps row q) ∧ WalkR ps h rows hs
  | _, _, _ => False
theorem walk_sum : ∀ (n : Int) (ns : List Int) (q v : Int) (hs : List Int), (q, v) ∈ cand (posL f c) (rowAt t f c r (n :: ns)) → WalkR (posL f c) q (rowsRev t f c r ns) hs → Val t f c r (n :: ns) (q :: hs) ∧ moveL (q :: hs) = v
  | n, [], q, v, hs, h, w => by
    obtain ⟨h1, h2, h3⟩ := cand_next.mp h
    cases hs with
    | nil =>
      rw [arr_first h1] at h3
      exact ⟨Val.cons.mpr ⟨⟨h1, h2⟩, Val.nil⟩, h3.symm⟩
    | cons => exact (show False from w).elim
  | n, n' :: ns, q, v, hs, h, w => by
    obtain ⟨h1, h2, h3⟩ := cand_next.mp h
    cases hs with
    | nil => exact (show False from w).elim
    | cons p hs =>
      obtain ⟨⟨v', k1, k2⟩, w'⟩ := (show (∃ v, (p, v) ∈ cand (posL f c) (rowAt t f c r (n' :: ns)) ∧ v + absI (q - p) = arrV (posL f c) (rowAt t f c r (n' :: ns)) q) ∧ WalkR (posL f c) p (rowsRev t f c r ns) hs from w)
      obtain ⟨a1, a2⟩ := walk_sum n' ns p v' hs k1 w'
      refine ⟨Val.cons.mpr ⟨⟨h1, h2⟩, a1⟩, ?_⟩
      show absI (p - q) + moveL (p :: hs) = v
      rw [a2, h3, ← k2, absI_sub]
      omega
/-- .. of the least one of the last row: it is the least movement -/
theorem walk_least {n : Int} {ns : List Int} {q v : Int} {hs : List Int} (h : (q, v) ∈ cand (posL f c) (rowAt t f c r (n :: ns))) (hb : ∀ q' v', (q', v') ∈ cand (posL f c) (rowAt t f c r (n :: ns)) → v ≤ v') (w : WalkR (posL f c) q (rowsRev t f c r ns) hs) :
    IsLeast t f c r (n :: ns).reverse v := by
  obtain ⟨a1, a2⟩ := walk_sum n ns q v hs h w
  have k : IsLeast t f c r (n :: ns) v := by
    refine ⟨⟨_, a1, a2⟩, fun qs hq => ?_⟩
    cases qs with
    | nil => have := hq.len; simp at this
    | cons p qs =>
      obtain ⟨v', k1, k2⟩ := low_bound n ns p qs hq
      have := hb p v' k1
      omega
  exact k.rev
theorem rowsRev_len : ∀ ns : List Int, (rowsRev t f c r ns).length = ns.length
  | [] => rfl
  | n :: ns => congrArg (· + 1) (rowsRev_len ns)
theorem cand_ne {n : Int} {ns : List Int} (h : playB t f c r n = true) : cand (posL f c) (rowAt t f c r (n :: ns)) ≠ [] := fun z => by
  obtain ⟨p, h1, h2⟩ := List.any_eq_true.mp h
  have := cand_next (t := t) (f := f) (c := c) (r := r) (ns := ns).mpr ⟨h1, h2, rfl⟩
  rw [z] at this
  cases this
theorem cand_ne0 : cand (posL f c) (rowAt t f c r []) ≠ [] := fun z => by
  obtain ⟨p, hp⟩ := List.exists_mem_of_ne_nil _ (posL_ne f c)
  have h0 : (p, (0 : Int)) ∈ cand (posL f c) (rowAt t f c r []) := (cand_map (g := fun _ => 0)).mpr ⟨hp, rfl, by decide⟩
  rw [z] at h0
  cases h0
theorem rowAt_len : ∀ ns : List Int, (rowAt t f c r ns).length = posN f c
  | [] => by simp [rowAt, posL]
  | n :: ns => by simp [rowAt, nextR, posL]
end
structure OkTune (ns : List Int) : Prop where
  l1 : 1 ≤ ns.length
  l2 : ns.length ≤ 30
  n : ∀ x ∈ ns, 0 ≤ x ∧ x ≤ 80

/-! ### check_tune -/
def f_check_tune : Fd := fun ds R => ∃ ns : List Int, ds = [.list (ns.map .int)] ∧ OkTune ns ∧ R .none
theorem len_check_tune : ∀ ds R, f_check_tune ds R → ds.length = 1 := by
  rintro ds R ⟨ns, rfl, _⟩; rfl
@[simp] theorem check_tune_iff {ns : List Int} {R : D → Prop} : f_check_tune [.list (ns.map .int)] R ↔ OkTune ns ∧ R .none := by
  constructor
  · rintro ⟨a, e, h⟩; simp at e; rw [e]; exact h
  · intro h; exact ⟨ns, rfl, h⟩
def W_check_tune : WS := (dSeq (dIfS (bNot (bB (dChain rdLe rdLe (dC (.int 1)) (dCall rdLen (aCons (dVar 0) aNil)) (dC (.int 30))))) dNever dNext) (dIfS (bNot (bTru (dCall f_all_within (aCons (dVar 0) (aCons (dC (.int 0)) (aCons (dC (.int 80)) aNil)))))) dNever dNext))
def N_check_tune : List Str := ["tune"]
theorem sc_check_tune : FnScope ["tune"] ["tune"] (defScope s_check_tune) := ⟨rfl, rfl, rfl, by decide +kernel, rfl, by decide +kernel, by decide +kernel⟩
theorem pure_check_tune : ∀ ds R, f_check_tune ds R → W_check_tune { nx := fun _ => R .none, rt := R } (startD N_check_tune ds) := by
  rintro ds R ⟨ns, rfl, ok, h⟩
  have l1 : (1 : Int) ≤ ns.length := by have := ok.l1; omega
  have l2 : (ns.length : Int) ≤ 30 := by have := ok.l2; omega
  have a := allIn_ok ok.n
  simp [W_check_tune, N_check_tune, l1, l2, f_all_within, h]
  exact ⟨_, ns, 0, 80, ⟨rfl, rfl, rfl⟩, by simp, a⟩
section
variable {P : Program} {w : World} {g : Glb} {mg : Str → Option Value} {base : Heap}
theorem ok_check_tune {f : Addr} {fd : FuncData} (F : FunP g.K "check_tune" s_check_tune f fd) (mgf : mg "check_tune" = some (.ref f)) (T : Txt mg) (C_all_within : C8.Cal P w g.K mg base 1 "all_within" (spD g f_all_within) []) : C8.Cal P w g.K mg base 2 "check_tune" (spD g f_check_tune) [] :=
  calD (N := ["tune"]) (ps := ["tune"]) (k := 1) (wb := W_check_tune) F mgf (F.bindsN fun _ _ _ _ _ _ us hl => match us, hl with | [_], _ => rfl) sc_check_tune len_check_tune (fun cdv A outer s H E r a ns hr =>
    (pssd_cons (ps_w (ps_if (pt_w (pt_not (pt_w (pt_chain op_le op_le (pe_w pe_int (xd_c fun _ => .int)) (pe_w (pe_callB call_len_seq (by rfl) T.m_len PySem.boot_len (pa_w (pa_cons (pe_w (pv 0) xd_var) (pa_w pa_nil xa_nil)) xa_cons)) (xd_cb cd_len)) (pe_w (pe_gint (by rfl) T.c_LONGEST_TUNE) (xd_c fun _ => .int))) (xt_chain od_le od_le))) xt_not) (pssd_one (ps_w ps_never xs_never)) pssd_nil) xs_if) (pssd_one (ps_w (ps_if (pt_w (pt_not (pt_w (pt_truth (pe_w (C8.pe_c C_all_within hr (by decide) (by rfl) (pa_w (pa_cons (pe_w (pv 0) xd_var) (pa_w (pa_cons (pe_w pe_int (xd_c fun _ => .int)) (pa_w (pa_cons (pe_w (pe_gint (by rfl) T.c_HIGHEST_NOTE) (xd_c fun _ => .int)) (pa_w pa_nil xa_nil)) xa_cons)) xa_cons)) xa_cons)) xd_call) (by intro _; rfl)) xt_tru)) xt_not) (pssd_one (ps_w ps_never xs_never)) pssd_nil) xs_if)))) pure_check_tune
end

/-! ### check_reach -/
def f_check_reach : Fd := fun ds R => ∃ r : Int, ds = [.int r] ∧ 0 ≤ r ∧ r ≤ 6 ∧ R .none
theorem len_check_reach : ∀ ds R, f_check_reach ds R → ds.length = 1 := by
  rintro ds R ⟨r, rfl, _⟩; rfl
@[simp] theorem check_reach_iff {r : Int} {R : D → Prop} : f_check_reach [.int r] R ↔ 0 ≤ r ∧ r ≤ 6 ∧ R .none := by
  constructor
  · rintro ⟨a, e, h⟩; simp at e; rw [e]; exact h
  · intro h; exact ⟨r, rfl, h⟩
def W_check_reach : WS := (dIfS (bNot (bB (dChain rdLe rdLe (dC (.int 0)) (dVar 0) (dC (.int 6))))) dNever dNext)
def N_check_reach : List Str := ["reach"]
theorem sc_check_reach : FnScope ["reach"] ["reach"] (defScope s_check_reach) := ⟨rfl, rfl, rfl, by decide +kernel, rfl, by decide +kernel, by decide +kernel⟩
theorem pure_check_reach : ∀ ds R, f_check_reach ds R → W_check_reach { nx := fun _ => R .none, rt := R } (startD N_check_reach ds) := by
  rintro ds R ⟨r, rfl, h1, h2, h⟩
  simp [W_check_reach, N_check_reach, h1, h2, h]
section
variable {P : Program} {w : World} {g : Glb} {mg : Str → Option Value} {base : Heap}
theorem ok_check_reach {f : Addr} {fd : FuncData} (F : FunP g.K "check_reach" s_check_reach f fd) (mgf : mg "check_reach" = some (.ref f)) (T : Txt mg)  : C8.Cal P w g.K mg base 1 "check_reach" (spD g f_check_reach) [] :=
  calD (N := ["reach"]) (ps := ["reach"]) (k := 0) (wb := W_check_reach) F mgf (F.bindsN fun _ _ _ _ _ _ us hl => match us, hl with | [_], _ => rfl) sc_check_reach len_check_reach (fun cdv A outer s H E r a ns hr =>
    (pssd_one (ps_w (ps_if (pt_w (pt_not (pt_w (pt_chain op_le op_le (pe_w pe_int (xd_c fun _ => .int)) (pe_w (pv 0) xd_var) (pe_w (pe_gint (by rfl) T.c_MOST_OF_HAND) (xd_c fun _ => .int))) (xt_chain od_le od_le))) xt_not) (pssd_one (ps_w ps_never xs_never)) pssd_nil) xs_if))) pure_check_reach
end

/-! ### places -/
def placesL (t : List Int) (f c n : Int) : List D := (t.zipIdx.filter fun p => isPlace f c (n - p.1)).map fun p => .tuple [.int (p.2 : Nat), .int (n - p.1)]
def f_places : Fn := fun ds R => ∃ t f c n, ds = [neckD t f c, .int n] ∧ OkNeck t f c ∧ R (placesL t f c n)
theorem len_places : ∀ ds R, f_places ds R → ds.length = 2 := by
  rintro ds R ⟨t, f, c, n, rfl, _⟩; rfl
@[simp] theorem neckD_tup {t : List Int} {f c : Int} {xs : List D} : neckD t f c = .tuple xs ↔ xs = [intsD t, .int f, .int c] := by
  constructor
  · intro h; cases h; rfl
  · intro h; rw [h]; rfl
@[simp] theorem places_iff {t : List Int} {f c n : Int} {R : List D → Prop} : f_places [neckD t f c, .int n] R ↔ OkNeck t f c ∧ R (placesL t f c n) := by
  constructor
  · rintro ⟨t', f', c', n', e, h⟩; simp at e; obtain ⟨⟨rfl, rfl, rfl⟩, rfl⟩ := e; exact h
  · intro h; exact ⟨_, _, _, _, rfl, h⟩
@[simp] theorem check_neck_iff {t : List Int} {f c : Int} {R : D → Prop} : f_check_neck [neckD t f c] R ↔ OkNeck t f c ∧ R .none := by
  constructor
  · rintro ⟨t', f', c', e, h⟩; simp at e; obtain ⟨rfl, rfl, rfl⟩ := e; exact h
  · intro h; exact ⟨_, _, _, rfl, h⟩
def W_places : WS := (dSeq (dDrop (dCall f_check_neck (aCons (dVar 0) aNil))) (dSeq (dUnp [2, 3, 3] (dVar 0)) (dRetL (dLcW (iEnm (aCons (dVar 2) aNil)) (tgT [4, 5]) (bTru (dCall f_is_place (aCons (dVar 0) (aCons (dOp rdSub (dVar 1) (dVar 5)) aNil)))) (dTup (aCons (dVar 4) (aCons (dOp rdSub (dVar 1) (dVar 5)) aNil))) [4, 5]))))
def N_places : List Str := ["neck", "note", "tuning", "_", "string", "start"]
theorem sc_places : FnScope ["neck", "note", "tuning", "_", "string", "start"] ["neck", "note"] (defScope s_places) := ⟨rfl, rfl, rfl, by decide +kernel, rfl, by decide +kernel, by decide +kernel⟩
theorem pure_places : ∀ ds R, f_places ds R → W_places { nx := fun _ => False, rt := fun _ => False, rn := R } (startD N_places ds) := by
  rintro ds R ⟨t, f, c, n, rfl, ok, h⟩
  refine ⟨_, rfl, t, f, c, rfl, ok, ?_⟩
  have l2 := ok.l2
  simp [N_places, neckD, intsD]
  rw [enumD_map]
  refine ⟨by omega, lcRun_map (fun p : Int × Nat => isPlace f c (n - p.1)) (fun p => .tuple [.int (p.2 : Nat), .int (n - p.1)]) _ [] (fun p _ K k => ?_) h⟩
  simp [f_is_place]
  refine ⟨t, f, c, n - p.1, ⟨rfl, rfl⟩, ?_⟩
  cases q : isPlace f c (n - p.1) with
  | true => simpa [q] using k
  | false => simpa [q] using k
section
variable {P : Program} {w : World} {g : Glb} {mg : Str → Option Value} {base : Heap}
theorem ok_places {f : Addr} {fd : FuncData} (F : FunP g.K "places" s_places f fd) (mgf : mg "places" = some (.ref f)) (T : Txt mg) (C_check_neck : C8.Cal P w g.K mg base 2 "check_neck" (spD g f_check_neck) []) (C_is_place : C8.Cal P w g.K mg base 1 "is_place" (spD g f_is_place) []) : C8.Cal P w g.K mg base 3 "places" (spN g f_places) [] :=
  calN (N := ["neck", "note", "tuning", "_", "string", "start"]) (ps := ["neck", "note"]) (k := 2) (wb := W_places) F mgf (F.bindsN fun _ _ _ _ _ _ us hl => match us, hl with | [_, _], _ => rfl) sc_places len_places (fun cdv A outer s H E r a ns hr =>
    (pssd_cons (ps_w (ps_expr (pe_w (C8.pe_c C_check_neck hr (by decide) (by rfl) (pa_w (pa_cons (pe_w (pv 0) xd_var) (pa_w pa_nil xa_nil)) xa_cons)) xd_call)) xs_drop) (pssd_cons (ps_w (ps_asg (pe_w (pv 0) xd_var) (pg_tup rfl (pgs_cons (pg_name (i := 2) sc_places.nd rfl (.inl rfl)) (pgs_cons (pg_name (i := 3) sc_places.nd rfl (.inl rfl)) (pgs_cons (pg_name (i := 3) sc_places.nd rfl (.inl rfl)) pgs_nil))))) (xs_unp (is := [2, 3, 3]) rfl)) (pssd_one (ps_w (ps_ret (pe_w (pe_lc (own := [("string", 4), ("start", 5)]) (g := gTup _ 2 (gNames [4, 5])) rfl sc_places.nd (pi_w (FWN.pi_enumT (by rfl) T.m_enumerate (pa_w (pa_cons (pe_w (pv 2) xd_var) (pa_w pa_nil xa_nil)) xa_cons)) xi_enum) (blkOk_by (own := [("string", 4), ("start", 5)]) (N := ["neck", "note", "tuning", "_", "string", "start"]) (sc := (defScope s_places)) (by decide +kernel)) (fun _ _ _ _ _ => (pg_tup rfl (pgs_cons (pg_name (i := 4) sc_places.nd rfl (.inl rfl)) (pgs_cons (pg_name (i := 5) sc_places.nd rfl (.inl rfl)) pgs_nil)))) (fun _ _ _ _ _ => (pts_one (pt_w (pt_truth (pe_w (C8.pe_c C_is_place hr (by decide) (by rfl) (pa_w (pa_cons (pe_w (pv 0) xd_var) (pa_w (pa_cons (pe_w (pe_op op_sub (pe_w (pv 1) xd_var) (pe_w (pv 5) xd_var)) (xd_op od_sub)) (pa_w pa_nil xa_nil)) xa_cons)) xa_cons)) xd_call) (by intro _; rfl)) xt_tru))) (fun _ _ _ _ _ => (pe_w (pe_tup (pa_w (pa_cons (pe_w (pv 4) xd_var) (pa_w (pa_cons (pe_w (pe_op op_sub (pe_w (pv 1) xd_var) (pe_w (pv 5) xd_var)) (xd_op od_sub)) (pa_w pa_nil xa_nil)) xa_cons)) xa_cons)) xd_tup))) (xn_lc (gd_tup (is := [4, 5]) rfl) (stores_names [4, 5])))) xs_retL))))) pure_places
end

/-! ### _positions -/
def f_positions : Fd := fun ds R => ∃ t f c, ds = [neckD t f c] ∧ 0 ≤ c ∧ f ≤ 20 ∧ c ≤ f ∧ R (.list ((posL f c).map .int))
theorem len_positions : ∀ ds R, f_positions ds R → ds.length = 1 := by
  rintro ds R ⟨t, f, c, rfl, _⟩; rfl
@[simp] theorem positions_iff {t : List Int} {f c : Int} {R : D → Prop} : f_positions [neckD t f c] R ↔ 0 ≤ c ∧ f ≤ 20 ∧ c ≤ f ∧ R (.list ((posL f c).map .int)) := by
  constructor
  · rintro ⟨t', f', c', e, h⟩; simp at e; obtain ⟨rfl, rfl, rfl⟩ := e; exact h
  · intro h; exact ⟨_, _, _, rfl, h⟩
theorem rg_pos {f c : Int} (h1 : 0 ≤ c) (h2 : f ≤ 20) (h3 : c ≤ f) : RgOk (c + 1) ((if c + 1 > f then c + 1 else f) + 1) := by
  refine ⟨?_, ?_, ?_, ?_⟩ <;> first | omega | (split <;> omega)
def W_positions : WS := (dSeq (dUnp [1, 2, 3] (dVar 0)) (dRet (dLstRg (gRg2 (dOp rdAdd (dVar 3) (dC (.int 1))) (dOp rdAdd (dCall rdMax2 (aCons (dVar 2) (aCons (dOp rdAdd (dVar 3) (dC (.int 1))) aNil))) (dC (.int 1)))))))
def N_positions : List Str := ["neck", "_", "frets", "capo"]
theorem sc_positions : FnScope ["neck", "_", "frets", "capo"] ["neck"] (defScope s_positions) := ⟨rfl, rfl, rfl, by decide +kernel, rfl, by decide +kernel, by decide +kernel⟩
theorem pure_positions : ∀ ds R, f_positions ds R → W_positions { nx := fun _ => R .none, rt := R } (startD N_positions ds) := by
  rintro ds R ⟨t, f, c, rfl, h1, h2, h3, h⟩
  refine ⟨_, rfl, _, rfl, rfl, ?_⟩
  simp only [dRet, dLstRg, gRg2, dOp, rdI, dCall, aCons, aNil, dVar, dC, rdMax2_iff]
  refine ⟨_, rfl, _, _, rfl, rfl, ?_⟩
  refine ⟨_, rfl, _, rfl, _, _, rfl, rfl, rdMax2_iff.mpr ⟨_, _, rfl, rfl, _, _, rfl, rfl, rg_pos h1 h2 h3, ?_⟩⟩
  rw [← posL_rng] at h
  exact h
section
variable {P : Program} {w : World} {g : Glb} {mg : Str → Option Value} {base : Heap}
theorem ok_positions {f : Addr} {fd : FuncData} (F : FunP g.K "_positions" s_positions f fd) (mgf : mg "_positions" = some (.ref f)) (T : Txt mg)  : C8.Cal P w g.K mg base 1 "_positions" (spD g f_positions) [] :=
  calD (N := ["neck", "_", "frets", "capo"]) (ps := ["neck"]) (k := 0) (wb := W_positions) F mgf (F.bindsN fun _ _ _ _ _ _ us hl => match us, hl with | [_], _ => rfl) sc_positions len_positions (fun cdv A outer s H E r a ns hr =>
    (pssd_cons (ps_w (ps_asg (pe_w (pv 0) xd_var) (pg_tup rfl (pgs_cons (pg_name (i := 1) sc_positions.nd rfl (.inl rfl)) (pgs_cons (pg_name (i := 2) sc_positions.nd rfl (.inl rfl)) (pgs_cons (pg_name (i := 3) sc_positions.nd rfl (.inl rfl)) pgs_nil))))) (xs_unp (is := [1, 2, 3]) rfl)) (pssd_one (ps_w (ps_ret (pe_w (pe_listRg (by rfl) (by rfl) T.m_list (prg_w (prg_2 (by rfl) T.m_range (pe_w (pe_op op_add (pe_w (pv 3) xd_var) (pe_w pe_int (xd_c fun _ => .int))) (xd_op od_add)) (pe_w (pe_op op_add (pe_w (pe_callB (call_max2 (by rfl)) (by rfl) T.m_max (by decide +kernel) (pa_w (pa_cons (pe_w (pv 2) xd_var) (pa_w (pa_cons (pe_w (pe_op op_add (pe_w (pv 3) xd_var) (pe_w pe_int (xd_c fun _ => .int))) (xd_op od_add)) (pa_w pa_nil xa_nil)) xa_cons)) xa_cons)) (xd_cb cd_max2)) (pe_w pe_int (xd_c fun _ => .int))) (xd_op od_add))) xg_rg2)) xd_lstRg)) xs_ret)))) pure_positions
end

/-! ### the first one, the least one: what the program's choices are -/
section
open Classical in
noncomputable def minP (l : List (Int × Int)) : Int × Int := if h : ∃ m ∈ l, ∀ y ∈ l, ltP2 y m = false then h.choose else (0, 0)
theorem ltP2_anti {a b : Int × Int} (h : ltP2 a b = false) (h' : ltP2 b a = false) : a = b := by
  unfold ltP2 at h h'
  obtain ⟨a1, a2⟩ := a
  obtain ⟨b1, b2⟩ := b
  simp only at h h'
  by_cases e : a1 = b1
  · rw [if_pos e] at h
    rw [if_pos e.symm] at h'
    simp at h h'
    have : a2 = b2 := by omega
    rw [e, this]
  · rw [if_neg e] at h
    rw [if_neg (fun z => e z.symm)] at h'
    simp at h h'
    omega
theorem ltP2_step {y a m : Int × Int} (h : ltP2 y m = false) (h' : ltP2 a m = true) : ltP2 y a = false := by
  unfold ltP2 at h h' ⊢
  obtain ⟨a1, a2⟩ := a
  obtain ⟨y1, y2⟩ := y
  obtain ⟨m1, m2⟩ := m
  simp only at h h' ⊢
  by_cases e : y1 = a1
  · rw [if_pos e]
    subst e
    by_cases e2 : y1 = m1
    · rw [if_pos e2] at h h'
      simp at h h' ⊢
      omega
    · rw [if_neg e2] at h h'
      rw [h] at h'
      cases h'
  · rw [if_neg e]
    by_cases e2 : y1 = m1
    · rw [if_pos e2] at h
      rw [if_neg (fun z => e (e2.trans z.symm))] at h'
      simp at h h' ⊢
      omega
    · rw [if_neg e2] at h
      by_cases e3 : a1 = m1
      · rw [if_pos e3] at h'
        simp at h h' ⊢
        omega
      · rw [if_neg e3] at h'
        simp at h h' ⊢
        omega
theorem minP_ex : ∀ l : List (Int × Int), l ≠ [] → ∃ m ∈ l, ∀ y ∈ l, ltP2 y m = false
  | [], h => absurd rfl h
  | [a], _ => ⟨a, List.mem_cons_self, fun y hy => by
    rw [List.mem_singleton.mp hy]
    unfold ltP2
    simp⟩
  | a :: b :: l, _ => by
    obtain ⟨m, h1, h2⟩ := minP_ex (b :: l) (by simp)
    cases q : ltP2 a m with
    | true =>
      refine ⟨a, List.mem_cons_self, fun y hy => ?_⟩
      rcases List.mem_cons.mp hy with rfl | hy
      · unfold ltP2; simp
      · exact ltP2_step (h2 y hy) q
    | false =>
      refine ⟨m, List.mem_cons_of_mem _ h1, fun y hy => ?_⟩
      rcases List.mem_cons.mp hy with rfl | hy
      · exact q
      · exact h2 y hy
theorem minP_is {l : List (Int × Int)} (h : l ≠ []) : minP l ∈ l ∧ ∀ y ∈ l, ltP2 y (minP l) = false := by
  unfold minP
  rw [dif_pos (minP_ex l h)]
  exact (minP_ex l h).choose_spec
theorem minP_eq {l : List (Int × Int)} {m : Int × Int} (h : m ∈ l) (k : ∀ y ∈ l, ltP2 y m = false) : m = minP l := by
  obtain ⟨h1, h2⟩ := minP_is (l := l) (fun z => by rw [z] at h; cases h)
  exact ltP2_anti (h2 m h) (k _ h1)
def nearB (c n r p x : Int) : Bool := decide (n - x = c) || (decide (p ≤ n - x) && decide (n - x ≤ p + r))
def placeF (t : List Int) (f c n r p : Int) : Option (Nat × Int) := ((t.zipIdx.filter fun q => isPlace f c (n - q.1)).find? fun q => nearB c n r p q.1).map fun q => (q.2, n - q.1)
def placeO : Option (Nat × Int) → D
  | none => .none
  | some (s, y) => .tuple [.int (s : Nat), .int y]
theorem placeF_hit {t : List Int} {f c n r p : Int} {s : Nat} {y : Int} (h : placeF t f c n r p = some (s, y)) : Hit t f c n r p s y := by
  unfold placeF at h
  cases q : ((t.zipIdx.filter fun q => isPlace f c (n - q.1)).find? fun q => nearB c n r p q.1) with
  | none => rw [q] at h; cases h
  | some z =>
    rw [q] at h
    simp at h
    obtain ⟨rfl, rfl⟩ := h
    have h1 := List.find?_some q
    have h2 := List.mem_of_find?_eq_some q
    obtain ⟨h3, h4⟩ := List.mem_filter.mp h2
    have h5 : t[z.2]? = some z.1 := List.mem_zipIdx_iff_getElem?.mp h3
    refine ⟨z.1, h5, rfl, ?_⟩
    unfold hitB
    unfold nearB at h1
    rw [h4]
    exact h1
theorem placeF_can {t : List Int} {f c n r p : Int} (h : canB t f c n r p = true) : ∃ s y, placeF t f c n r p = some (s, y) := by
  cases q : placeF t f c n r p with
  | some z => exact ⟨z.1, z.2, rfl⟩
  | none =>
    exfalso
    unfold placeF at q
    rw [Option.map_eq_none_iff, List.find?_eq_none] at q
    obtain ⟨x, hx, hh⟩ := List.any_eq_true.mp h
    obtain ⟨i, hi, e⟩ := List.getElem_of_mem hx
    unfold hitB at hh
    rw [Bool.and_eq_true] at hh
    have hm : (x, i) ∈ t.zipIdx := List.mem_zipIdx_iff_getElem?.mpr (by show t[i]? = some x; rw [List.getElem?_eq_getElem hi, e])
    refine q (x, i) (List.mem_filter.mpr ⟨hm, hh.1⟩) ?_
    unfold nearB
    exact hh.2
theorem placeF_none {t : List Int} {f c n r p : Int} : isNone (placeO (placeF t f c n r p)) = !canB t f c n r p := by
  cases q : placeF t f c n r p with
  | none =>
    cases z : canB t f c n r p with
    | false => rfl
    | true =>
      obtain ⟨s, y, e⟩ := placeF_can z
      rw [q] at e; cases e
  | some z =>
    rw [(placeF_hit (s := z.1) (y := z.2) q).can]
    rfl
/-- from where one comes to the position -/
noncomputable def arrH (ps row : List Int) (p : Int) : Int := (minP ((cand ps row).map fun q => (q.2 + absI (p - q.1), q.1))).2
theorem arrH_is {ps row : List Int} (h : cand ps row ≠ []) (p : Int) : ∃ v, (arrH ps row p, v) ∈ cand ps row ∧ v + absI (p - arrH ps row p) = arrV ps row p := by
  obtain ⟨h1, h2⟩ := minP_is (l := (cand ps row).map fun q => (q.2 + absI (p - q.1), q.1)) (by simpa using h)
  obtain ⟨⟨a, v⟩, hq, e⟩ := List.mem_map.mp h1
  have ea : arrH ps row p = a := by
    unfold arrH
    rw [← e]
  rw [ea]
  refine ⟨v, hq, leastI_eq (List.mem_map.mpr ⟨(a, v), hq, rfl⟩) fun y hy => ?_⟩
  obtain ⟨⟨a', v'⟩, hq', rfl⟩ := List.mem_map.mp hy
  have := h2 _ (List.mem_map.mpr ⟨(a', v'), hq', rfl⟩)
  rw [← e] at this
  unfold ltP2 at this
  split at this
  · simp only at *
    omega
  · simpa using this
noncomputable def walkH (ps : List Int) : Int → List (List Int) → List Int
  | _, [] => []
  | cur, row :: rows => arrH ps row cur :: walkH ps (arrH ps row cur) rows
theorem walkH_is {ps : List Int} : ∀ {rows : List (List Int)} {cur : Int}, (∀ row ∈ rows, cand ps row ≠ []) → WalkR ps cur rows (walkH ps cur rows)
  | [], _, _ => trivial
  | row :: rows, cur, h => ⟨arrH_is (h row List.mem_cons_self) cur, walkH_is fun r hr => h r (List.mem_cons_of_mem _ hr)⟩
noncomputable def endP (ps row : List Int) : Int := (minP ((cand ps row).map fun q => (q.2, q.1))).2
theorem endP_is {ps row : List Int} (h : cand ps row ≠ []) : ∃ v, (endP ps row, v) ∈ cand ps row ∧ ∀ q' v', (q', v') ∈ cand ps row → v ≤ v' := by
  obtain ⟨h1, h2⟩ := minP_is (l := (cand ps row).map fun q => (q.2, q.1)) (by simpa using h)
  obtain ⟨⟨a, v⟩, hq, e⟩ := List.mem_map.mp h1
  have ea : endP ps row = a := by
    unfold endP
    rw [← e]
  rw [ea]
  refine ⟨v, hq, fun q' v' hq' => ?_⟩
  have := h2 _ (List.mem_map.mpr ⟨(q', v'), hq', rfl⟩)
  rw [← e] at this
  unfold ltP2 at this
  split at this
  · simp only at *
    omega
  · simpa using this
noncomputable def walkL (ps : List Int) : List (List Int) → List Int
  | [] => []
  | row :: rows => endP ps row :: walkH ps (endP ps row) rows
end

/-! ### _place_from -/
def f_place_from : Fd := fun ds R => ∃ t f c n r p, ds = [neckD t f c, .int n, .int r, .int p] ∧ OkNeck t f c ∧ R (placeO (placeF t f c n r p))
theorem len_place_from : ∀ ds R, f_place_from ds R → ds.length = 4 := by
  rintro ds R ⟨t, f, c, n, r, p, rfl, _⟩; rfl
@[simp] theorem place_from_iff {t : List Int} {f c n r p : Int} {R : D → Prop} : f_place_from [neckD t f c, .int n, .int r, .int p] R ↔ OkNeck t f c ∧ R (placeO (placeF t f c n r p)) := by
  constructor
  · rintro ⟨t', f', c', n', r', p', e, h⟩; simp at e; obtain ⟨⟨rfl, rfl, rfl⟩, rfl, rfl, rfl⟩ := e; exact h
  · intro h; exact ⟨_, _, _, _, _, _, rfl, h⟩
def W_place_from : WS := (dSeq (dUnp [4, 4, 5] (dVar 0)) (dSeq (dFor (iLst (dN (nCall f_places (aCons (dVar 0) (aCons (dVar 1) aNil))))) (tgT [6, 7]) (dIfS (bOr (bB (dOp rdEq (dVar 7) (dVar 5))) (bB (dChain rdLe rdLe (dVar 3) (dVar 7) (dOp rdAdd (dVar 3) (dVar 2))))) (dRet (dTup (aCons (dVar 6) (aCons (dVar 7) aNil)))) dNext)) (dRet (dC .none))))
def N_place_from : List Str := ["neck", "note", "reach", "position", "_", "capo", "string", "fret"]
theorem sc_place_from : FnScope ["neck", "note", "reach", "position", "_", "capo", "string", "fret"] ["neck", "note", "reach", "position"] (defScope s_place_from) := ⟨rfl, rfl, rfl, by decide +kernel, rfl, by decide +kernel, by decide +kernel⟩
theorem pure_place_from : ∀ ds R, f_place_from ds R → W_place_from { nx := fun _ => R .none, rt := R } (startD N_place_from ds) := by
  rintro ds R ⟨t, f, c, n, r, p, rfl, ok, h⟩
  simp [W_place_from, N_place_from]
  refine ⟨ok, ?_⟩
  unfold placesL
  unfold placeF at h
  generalize (t.zipIdx.filter fun q => isPlace f c (n - q.1)) = l at h
  refine forRun_map (φ := fun q : Int × Nat => PyData.tuple [.int (q.2 : Nat), .int (n - q.1)]) (fun done _ e => (∀ q ∈ done, nearB c n r p q.1 = false) ∧ ∃ x y : Sl, e = [.val (neckD t f c), .val (.int n), .val (.int r), .val (.int p), .val (.int f), .val (.int c), x, y]) l ?_ ?_ _ ⟨fun q hq => (by cases hq), _, _, rfl⟩
  · rintro done q rest e N hl ⟨hd, x, y, rfl⟩ k
    have go : nearB c n r p q.1 = false → ∀ x y : Sl, N [.val (neckD t f c), .val (.int n), .val (.int r), .val (.int p), .val (.int f), .val (.int c), x, y] := fun z x y => k _ ⟨fun q' hq => by
      rcases List.mem_append.mp hq with hq | hq
      · exact hd q' hq
      · rw [List.mem_singleton.mp hq]; exact z, _, _, rfl⟩
    have hit : nearB c n r p q.1 = true → R (.tuple [.int (q.2 : Nat), .int (n - q.1)]) := fun z => by
      rw [hl, List.find?_append, List.find?_eq_none.mpr (fun q' hq => by rw [hd q' hq]; simp), List.find?_cons, z] at h
      exact h
    unfold nearB at hit go
    simp
    by_cases z1 : n - q.1 = c
    · simp [z1] at hit ⊢
      exact hit
    · by_cases z2 : p ≤ n - q.1
      · by_cases z3 : n - q.1 ≤ p + r
        · simp [z1, z2, z3] at hit ⊢
          exact .inr (.inr hit)
        · simp [z1, z2, z3] at go ⊢
          exact .inr ⟨by omega, go _ _⟩
      · simp [z1, z2] at go ⊢
        exact ⟨by omega, go _ _⟩
  · rintro e ⟨hd, x, y, rfl⟩
    rw [List.find?_eq_none.mpr (fun q' hq => by rw [hd q' hq]; simp)] at h
    exact h
section
variable {P : Program} {w : World} {g : Glb} {mg : Str → Option Value} {base : Heap}
theorem ok_place_from {f : Addr} {fd : FuncData} (F : FunP g.K "_place_from" s_place_from f fd) (mgf : mg "_place_from" = some (.ref f)) (T : Txt mg) (C_places : C8.Cal P w g.K mg base 3 "places" (spN g f_places) []) : C8.Cal P w g.K mg base 4 "_place_from" (spD g f_place_from) [] :=
  calD (N := ["neck", "note", "reach", "position", "_", "capo", "string", "fret"]) (ps := ["neck", "note", "reach", "position"]) (k := 3) (wb := W_place_from) F mgf (F.bindsN fun _ _ _ _ _ _ us hl => match us, hl with | [_, _, _, _], _ => rfl) sc_place_from len_place_from (fun cdv A outer s H E r a ns hr =>
    (pssd_cons (ps_w (ps_asg (pe_w (pv 0) xd_var) (pg_tup rfl (pgs_cons (pg_name (i := 4) sc_place_from.nd rfl (.inl rfl)) (pgs_cons (pg_name (i := 4) sc_place_from.nd rfl (.inl rfl)) (pgs_cons (pg_name (i := 5) sc_place_from.nd rfl (.inl rfl)) pgs_nil))))) (xs_unp (is := [4, 4, 5]) rfl)) (pssd_cons (ps_w (ps_for (g := gTup _ 2 (gNames [6, 7])) PassesOwn.never rfl (pi_w (pi_list (pe_w (pe_w (C8.pe_c C_places hr (by decide) (by rfl) (pa_w (pa_cons (pe_w (pv 0) xd_var) (pa_w (pa_cons (pe_w (pv 1) xd_var) (pa_w pa_nil xa_nil)) xa_cons)) xa_cons)) xn_call) xd_N)) xi_list) (pg_tup rfl (pgs_cons (pg_name (i := 6) sc_place_from.nd rfl (.inl rfl)) (pgs_cons (pg_name (i := 7) sc_place_from.nd rfl (.inl rfl)) pgs_nil))) (pssd_one (ps_w (ps_if (PW.pt (pw_w (pw_or (pt_w (pt_cmpR (op_eqD hr.units) (pe_w (pv 7) xd_var) (pe_w (pv 5) xd_var) (nomark _)) (xt_cmp od_eq)) (pw_or1 (pt_w (pt_chain op_le op_le (pe_w (pv 3) xd_var) (pe_w (pv 7) xd_var) (pe_w (pe_op op_add (pe_w (pv 3) xd_var) (pe_w (pv 2) xd_var)) (xd_op od_add))) (xt_chain od_le od_le)))) xt_or)) (pssd_one (ps_w (ps_ret (pe_w (pe_tup (pa_w (pa_cons (pe_w (pv 6) xd_var) (pa_w (pa_cons (pe_w (pv 7) xd_var) (pa_w pa_nil xa_nil)) xa_cons)) xa_cons)) xd_tup)) xs_ret)) pssd_nil) xs_if))) (xs_for (gd_tup (is := [6, 7]) rfl))) (pssd_one (ps_w (ps_ret (pe_w pe_non (xd_c fun _ => .non))) xs_ret))))) pure_place_from
end

/-! ### _arrival -/
def f_arrival : Fd := fun ds R => ∃ (ps row : List Int) (p : Int), ds = [.list (ps.map .int), .list (row.map .int), .int p] ∧ ps.length ≤ 1000 ∧ cand ps row ≠ [] ∧ R (.tuple [.int (arrV ps row p), .int (arrH ps row p)])
theorem len_arrival : ∀ ds R, f_arrival ds R → ds.length = 3 := by
  rintro ds R ⟨ps, row, p, rfl, _⟩; rfl
@[simp] theorem arrival_iff {ps row : List Int} {p : Int} {R : D → Prop} : f_arrival [.list (ps.map .int), .list (row.map .int), .int p] R ↔ ps.length ≤ 1000 ∧ cand ps row ≠ [] ∧ R (.tuple [.int (arrV ps row p), .int (arrH ps row p)]) := by
  constructor
  · rintro ⟨a, b, q, e, h⟩; simp at e; obtain ⟨rfl, rfl, rfl⟩ := e; exact h
  · intro h; exact ⟨_, _, _, rfl, h⟩
theorem zip_ints (ps row : List Int) : ((ps.map PyData.int).zip (row.map PyData.int)).map (fun p => PyData.tuple [p.1, p.2]) = (ps.zip row).map fun q => PyData.tuple [.int q.1, .int q.2] := by
  rw [List.zip_map, List.map_map]
  rfl
theorem ltP2_le {p q : Int × Int} (h : ltP2 p q = false) : q.1 ≤ p.1 := by
  unfold ltP2 at h
  split at h
  · omega
  · simpa using h
def W_arrival : WS := (dRet (dCall rdMinP (aCons (dN (dLcW (iZipL (aCons (dVar 0) (aCons (dVar 1) aNil))) (tgT [3, 4]) (bB (dOp rdNe (dVar 4) (dC (.int (-1))))) (dTup (aCons (dOp rdAdd (dVar 4) (dCall rdAbs (aCons (dOp rdSub (dVar 2) (dVar 3)) aNil))) (aCons (dVar 3) aNil))) [3, 4])) aNil)))
def N_arrival : List Str := ["positions", "row", "position", "here", "moved"]
theorem sc_arrival : FnScope ["positions", "row", "position", "here", "moved"] ["positions", "row", "position"] (defScope s_arrival) := ⟨rfl, rfl, rfl, by decide +kernel, rfl, by decide +kernel, by decide +kernel⟩
theorem pure_arrival : ∀ ds R, f_arrival ds R → W_arrival { nx := fun _ => R .none, rt := R } (startD N_arrival ds) := by
  rintro ds R ⟨ps, row, p, rfl, hl, hne, h⟩
  simp [W_arrival, N_arrival]
  rw [zip_ints]
  refine ⟨by omega, lcRun_map (fun q : Int × Int => decide (q.2 ≠ -1)) (fun q => PyData.tuple [.int (q.2 + absI (p - q.1)), .int q.1]) _ [] (fun q _ K k => ?_) ?_⟩
  · simp [N_arrival]
    by_cases z : q.2 = -1
    · simpa [z] using k
    · simpa [z] using k
  · rw [List.nil_append]
    have e : ((ps.zip row).filter fun q : Int × Int => decide (q.2 ≠ -1)).map (fun q => PyData.tuple [.int (q.2 + absI (p - q.1)), .int q.1]) = pairsD ((cand ps row).map fun q => (q.2 + absI (p - q.1), q.1)) := by
      unfold pairsD cand
      rw [List.map_map]
      rfl
    rw [e]
    refine ⟨_, rfl, by simpa using hne, fun m hm hb => ?_⟩
    obtain ⟨⟨a, v⟩, hq, rfl⟩ := List.mem_map.mp hm
    have hv : v + absI (p - a) = arrV ps row p := leastI_eq (List.mem_map.mpr ⟨(a, v), hq, rfl⟩) fun y hy => by
      obtain ⟨⟨a', v'⟩, hq', rfl⟩ := List.mem_map.mp hy
      exact ltP2_le (hb (v' + absI (p - a'), a') (List.mem_map.mpr ⟨(a', v'), hq', rfl⟩))
    have ha : a = arrH ps row p := by
      have := minP_eq (List.mem_map.mpr ⟨(a, v), hq, rfl⟩) hb
      unfold arrH
      rw [← this]
    rw [← hv, ← ha] at h
    exact h
section
variable {P : Program} {w : World} {g : Glb} {mg : Str → Option Value} {base : Heap}
theorem ok_arrival {f : Addr} {fd : FuncData} (F : FunP g.K "_arrival" s_arrival f fd) (mgf : mg "_arrival" = some (.ref f)) (T : Txt mg)  : C8.Cal P w g.K mg base 1 "_arrival" (spD g f_arrival) [] :=
  calD (N := ["positions", "row", "position", "here", "moved"]) (ps := ["positions", "row", "position"]) (k := 0) (wb := W_arrival) F mgf (F.bindsN fun _ _ _ _ _ _ us hl => match us, hl with | [_, _, _], _ => rfl) sc_arrival len_arrival (fun cdv A outer s H E r a ns hr =>
    (pssd_one (ps_w (ps_ret (pe_w (pe_callB (cr_minP (by rfl) hr.units) (by rfl) T.m_min (by decide +kernel) (pa_w (pa_cons (pe_w (pe_w (pe_lc (own := [("here", 3), ("moved", 4)]) (g := gTup _ 2 (gNames [3, 4])) rfl sc_arrival.nd (pi_w (RZ.pi_zipA (by rfl) T.m_zip (pa_w (pa_cons (pe_w (pv 0) xd_var) (pa_w (pa_cons (pe_w (pv 1) xd_var) (pa_w pa_nil xa_nil)) xa_cons)) xa_cons)) xi_zipL) (blkOk_by (own := [("here", 3), ("moved", 4)]) (N := ["positions", "row", "position", "here", "moved"]) (sc := (defScope s_arrival)) (by decide +kernel)) (fun _ _ _ _ _ => (pg_tup rfl (pgs_cons (pg_name (i := 3) sc_arrival.nd rfl (.inl rfl)) (pgs_cons (pg_name (i := 4) sc_arrival.nd rfl (.inl rfl)) pgs_nil)))) (fun _ _ _ _ _ => (pts_one (pt_w (pt_cmpR (op_neD hr.units) (pe_w (pv 4) xd_var) (pe_w (pe_gint (by rfl) T.c_CANNOT) (xd_c fun _ => .int)) (nomark _)) (xt_cmp od_ne)))) (fun _ _ _ _ _ => (pe_w (pe_tup (pa_w (pa_cons (pe_w (pe_op op_add (pe_w (pv 4) xd_var) (pe_w (pe_callB call_abs (by rfl) T.m_abs (by decide +kernel) (pa_w (pa_cons (pe_w (pe_op op_sub (pe_w (pv 2) xd_var) (pe_w (pv 3) xd_var)) (xd_op od_sub)) (pa_w pa_nil xa_nil)) xa_cons)) (xd_cb cd_abs))) (xd_op od_add)) (pa_w (pa_cons (pe_w (pv 3) xd_var) (pa_w pa_nil xa_nil)) xa_cons)) xa_cons)) xd_tup))) (xn_lc (gd_tup (is := [3, 4]) rfl) (stores_names [3, 4]))) xd_N) (pa_w pa_nil xa_nil)) xa_cons)) (xd_cb cd_minP))) xs_ret))) pure_arrival
end

/-! ### _next_row -/
def f_next_row : Fn := fun ds R => ∃ t f c n r row, ds = [neckD t f c, .int n, .int r, .list (row.map PyData.int)] ∧ OkNeck t f c ∧ cand (posL f c) row ≠ [] ∧ R ((nextR t f c r n row).map .int)
theorem len_next_row : ∀ ds R, f_next_row ds R → ds.length = 4 := by
  rintro ds R ⟨t, f, c, n, r, row, rfl, _⟩; rfl
@[simp] theorem next_row_iff {t row : List Int} {f c n r : Int} {R : List D → Prop} : f_next_row [neckD t f c, .int n, .int r, .list (row.map .int)] R ↔ OkNeck t f c ∧ cand (posL f c) row ≠ [] ∧ R ((nextR t f c r n row).map .int) := by
  constructor
  · rintro ⟨t', f', c', n', r', w', e, h⟩; simp at e; obtain ⟨⟨rfl, rfl, rfl⟩, rfl, rfl, rfl⟩ := e; exact h
  · intro h; exact ⟨_, _, _, _, _, _, rfl, h⟩
theorem cand_some {ps row : List Int} (h : cand ps row ≠ []) (p : Int) : ∃ a v, (a, v) ∈ cand ps row ∧ v + absI (p - a) = arrV ps row p := by
  have hm := (leastI_spec (arrL ps row p) (by unfold arrL; simpa using h)).1
  obtain ⟨⟨a, v⟩, h1, h2⟩ := List.mem_map.mp hm
  exact ⟨a, v, h1, h2⟩
def W_next_row : WS := (dSeq (dAsg 4 (dCall f_positions (aCons (dVar 0) aNil))) (dRetL (dLcW (iLst (dVar 4)) (tgN 5) (fun _ R => R true) (dIf (bB (dIsN (dCall f_place_from (aCons (dVar 0) (aCons (dVar 1) (aCons (dVar 2) (aCons (dVar 5) aNil))))))) (dC (.int (-1))) (dOp rdIx (dCall f_arrival (aCons (dVar 4) (aCons (dVar 3) (aCons (dVar 5) aNil)))) (dC (.int 0)))) [5])))
def N_next_row : List Str := ["neck", "note", "reach", "row", "positions", "position"]
theorem sc_next_row : FnScope ["neck", "note", "reach", "row", "positions", "position"] ["neck", "note", "reach", "row"] (defScope s_next_row) := ⟨rfl, rfl, rfl, by decide +kernel, rfl, by decide +kernel, by decide +kernel⟩
theorem pure_next_row : ∀ ds R, f_next_row ds R → W_next_row { nx := fun _ => False, rt := fun _ => False, rn := R } (startD N_next_row ds) := by
  rintro ds R ⟨t, f, c, n, r, row, rfl, ok, hne, h⟩
  have c0 := ok.c0
  have c1 := ok.c1
  have f1 := ok.f1
  have hp := posN_le f1 c0
  simp [W_next_row, N_next_row, c0, c1, f1, posL_len]
  refine ⟨by omega, lcRun_ints (fun _ => true) (fun p => .int (if canB t f c n r p = true then arrV (posL f c) row p else -1)) _ (fun p hq K k => ?_) ?_⟩
  · simp [ok]
    have hp' : posN f c ≤ 1000 := by omega
    rw [placeF_none]
    cases z : canB t f c n r p with
    | false => simpa [z] using k
    | true =>
      simp [z] at k ⊢
      exact ⟨by rw [posL_len]; exact hp', hne, k⟩
  · rw [List.filter_eq_self.mpr (by simp)]
    have e : (posL f c).map (fun p => PyData.int (if canB t f c n r p = true then arrV (posL f c) row p else -1)) = (nextR t f c r n row).map .int := by
      unfold nextR
      rw [List.map_map]
      rfl
    rw [e]
    exact h
section
variable {P : Program} {w : World} {g : Glb} {mg : Str → Option Value} {base : Heap}
theorem ok_next_row {f : Addr} {fd : FuncData} (F : FunP g.K "_next_row" s_next_row f fd) (mgf : mg "_next_row" = some (.ref f)) (T : Txt mg) (C_positions : C8.Cal P w g.K mg base 1 "_positions" (spD g f_positions) []) (C_place_from : C8.Cal P w g.K mg base 4 "_place_from" (spD g f_place_from) []) (C_arrival : C8.Cal P w g.K mg base 1 "_arrival" (spD g f_arrival) []) : C8.Cal P w g.K mg base 5 "_next_row" (spN g f_next_row) [] :=
  calN (N := ["neck", "note", "reach", "row", "positions", "position"]) (ps := ["neck", "note", "reach", "row"]) (k := 4) (wb := W_next_row) F mgf (F.bindsN fun _ _ _ _ _ _ us hl => match us, hl with | [_, _, _, _], _ => rfl) sc_next_row len_next_row (fun cdv A outer s H E r a ns hr =>
    (pssd_cons (ps_w (ps_set (i := 4) sc_next_row.nd rfl (.inr rfl) (pe_w (C8.pe_c C_positions hr (by decide) (by rfl) (pa_w (pa_cons (pe_w (pv 0) xd_var) (pa_w pa_nil xa_nil)) xa_cons)) xd_call)) xs_asg) (pssd_one (ps_w (ps_ret (pe_w (pe_lc (own := [("position", 5)]) (g := gName 5) rfl sc_next_row.nd (pi_w (pi_list (pe_w (pv 4) xd_var)) xi_list) (blkOk_by (own := [("position", 5)]) (N := ["neck", "note", "reach", "row", "positions", "position"]) (sc := (defScope s_next_row)) (by decide +kernel)) (fun _ _ _ _ _ => (pg_name (i := 5) sc_next_row.nd rfl (.inl rfl))) (fun _ _ _ _ _ => (pts_w pts_nil xt_yes)) (fun _ _ _ _ _ => (pe_w (pe_ifExp (pt_w (pt_cmp (pc_isN (pe_w (C8.pe_c C_place_from hr (by decide) (by rfl) (pa_w (pa_cons (pe_w (pv 0) xd_var) (pa_w (pa_cons (pe_w (pv 1) xd_var) (pa_w (pa_cons (pe_w (pv 2) xd_var) (pa_w (pa_cons (pe_w (pv 5) xd_var) (pa_w pa_nil xa_nil)) xa_cons)) xa_cons)) xa_cons)) xa_cons)) xd_call))) xt_isN) (pe_w (pe_gint (by rfl) T.c_CANNOT) (xd_c fun _ => .int)) (pe_w (pe_ix ix_lt (pe_w (C8.pe_c C_arrival hr (by decide) (by rfl) (pa_w (pa_cons (pe_w (pv 4) xd_var) (pa_w (pa_cons (pe_w (pv 3) xd_var) (pa_w (pa_cons (pe_w (pv 5) xd_var) (pa_w pa_nil xa_nil)) xa_cons)) xa_cons)) xa_cons)) xd_call) (pe_w pe_int (xd_c fun _ => .int)) (fun _ _ => rfl)) (xd_op od_ixL))) xd_if))) (xn_lc gd_name stores_name))) xs_retL)))) pure_next_row
end

/-! ### table -/
def rowD (l : List Int) : D := .list (l.map .int)
def rowsD (t : List Int) (f c r : Int) (ns : List Int) : List D := (rowsRev t f c r ns.reverse).reverse.map rowD
def f_table : Fd := fun ds R => ∃ t f c ns r, ds = [neckD t f c, .list (ns.map PyData.int), .int r] ∧ OkNeck t f c ∧ OkTune ns ∧ (0 ≤ r ∧ r ≤ 6) ∧ ((∃ n ∈ ns, playB t f c r n = false) → R .none) ∧ ((∀ n ∈ ns, playB t f c r n = true) → R (.list (rowsD t f c r ns)))
theorem len_table : ∀ ds R, f_table ds R → ds.length = 3 := by
  rintro ds R ⟨t, f, c, ns, r, rfl, _⟩; rfl
@[simp] theorem table_iff {t ns : List Int} {f c r : Int} {R : D → Prop} : f_table [neckD t f c, .list (ns.map .int), .int r] R ↔ OkNeck t f c ∧ OkTune ns ∧ (0 ≤ r ∧ r ≤ 6) ∧ ((∃ n ∈ ns, playB t f c r n = false) → R .none) ∧ ((∀ n ∈ ns, playB t f c r n = true) → R (.list (rowsD t f c r ns))) := by
  constructor
  · rintro ⟨t', f', c', n', r', e, h⟩; simp at e; obtain ⟨⟨rfl, rfl, rfl⟩, rfl, rfl⟩ := e; exact h
  · intro h; exact ⟨_, _, _, _, _, rfl, h⟩
theorem play_some {t : List Int} {f c r n : Int} {ns : List Int} (h : playB t f c r n = true) : ∃ v ∈ rowAt t f c r (n :: ns), 0 ≤ v := by
  obtain ⟨p, h1, h2⟩ := List.any_eq_true.mp h
  refine ⟨_, List.mem_map.mpr ⟨p, h1, rfl⟩, ?_⟩
  rw [if_pos h2]
  exact arr_nonneg (rowAt_nonneg ns) p
theorem play_none {t : List Int} {f c r n : Int} {ns : List Int} (h : playB t f c r n = false) : ∀ v ∈ rowAt t f c r (n :: ns), v = -1 := by
  intro v hv
  obtain ⟨p, h1, rfl⟩ := List.mem_map.mp hv
  have := List.any_eq_false.mp h p h1
  rw [if_neg this]
def W_table : WS := (dPin [0] (dSeq (dDrop (dCall f_check_neck (aCons (dVar 0) aNil))) (dSeq (dDrop (dCall f_check_tune (aCons (dVar 1) aNil))) (dSeq (dDrop (dCall f_check_reach (aCons (dVar 2) aNil))) (dSeq (dAsg 3 (dN (nRep (aCons (dC (.int 0)) aNil) (dCall rdLen (aCons (dCall f_positions (aCons (dVar 0) aNil)) aNil))))) (dSeq (dOwnF 4 0 (nLst aNil)) (dSeq (dFor (iLst (dVar 1)) (tgN 5) (dSeq (dOwn 3 (nCall f_next_row (aCons (dVar 0) (aCons (dVar 5) (aCons (dVar 2) (aCons (dVar 3) aNil)))))) (dSeq (dIfS (bPeek 3 (bB (dOp rdEq (dCall rdMaxL (aCons (dVar 3) aNil)) (dC (.int (-1)))))) (dRet (dC .none)) dNext) (dAppMv 4 3 0)))) (dRetFO 4))))))))
def N_table : List Str := ["neck", "tune", "reach", "row", "rows", "note"]
theorem sc_table : FnScope ["neck", "tune", "reach", "row", "rows", "note"] ["neck", "tune", "reach"] (defScope s_table) := ⟨rfl, rfl, rfl, by decide +kernel, rfl, by decide +kernel, by decide +kernel⟩
theorem noList_ints : ∀ l : List Int, noListA (l.map PyData.int) = true
  | [] => rfl
  | _ :: l => by rw [List.map_cons]; unfold noListA; rw [noList_ints l]; rfl
theorem pure_table : ∀ ds R, f_table ds R → ∀ B : Hp → Prop, W_table { nx := fun _ => R .none, rt := fun d => noListD d = true ∧ R d, rf := R, base := B, pin := true } (startD N_table ds) := by
  rintro ds R ⟨t, f, c, ns, r, rfl, ok, okt, ⟨r0, r6⟩, h0, h1⟩ B
  have c0 := ok.c0
  have c1 := ok.c1
  have f1 := ok.f1
  have hp := posN_le f1 c0
  simp [W_table, N_table]
  intro Fb hB
  simp [ok, okt, r0, r6, c0, c1, f1, posL_len]
  refine ⟨by omega, ?_⟩
  have e0 : List.replicate (posN f c) (PyData.int 0) = (rowAt t f c r []).map .int := by
    unfold rowAt
    rw [List.map_map]
    refine (List.eq_replicate_iff.mpr ⟨by rw [List.length_map, posL_len], fun b hb => ?_⟩).symm
    obtain ⟨_, _, rfl⟩ := List.mem_map.mp hb
    rfl
  refine forRun_inv (fun ds e => ∃ (l done : List Int) (x : Sl), ds = l.map .int ∧ ns = done.reverse ++ l ∧ (∀ n ∈ done, playB t f c r n = true) ∧
    e = [.fix false Fb (neckD t f c), .val (.list (ns.map .int)), .val (.int r), .val (.list ((rowAt t f c r done).map .int)), .ownO (some Fb) ((rowsRev t f c r done).reverse.map rowD), x]) ?_ ?_ _ _ ⟨ns, [], .un, rfl, rfl, fun n hn => (by cases hn), by rw [e0]; rfl⟩
  · rintro d ds e ⟨l, done, x, hd, hns, hpl, rfl⟩ k
    cases l with
    | nil => simp at hd
    | cons n l =>
      simp only [List.map_cons, List.cons.injEq] at hd
      obtain ⟨rfl, rfl⟩ := hd
      have hc : cand (posL f c) (rowAt t f c r done) ≠ [] := by
        cases done with
        | nil => exact cand_ne0
        | cons n' d => exact cand_ne (hpl n' List.mem_cons_self)
      have hlen : done.length ≤ 30 := by
        have e1 := congrArg List.length hns
        have e2 := okt.l2
        simp at e1
        omega
      simp [ok, hc]
      have en : nextR t f c r n (rowAt t f c r done) = rowAt t f c r (n :: done) := rfl
      rw [en]
      refine ⟨by rw [rowAt_len]; exact posN_pos f c, fun m hm hle => ?_⟩
      cases q : playB t f c r n with
      | true =>
        obtain ⟨v, hv, hv0⟩ := play_some (ns := done) q
        have := hle v hv
        have hm1 : m ≠ -1 := by omega
        simp [hm1]
        refine ⟨noList_ints _, by rw [rowsRev_len]; omega, ?_⟩
        have := k _ ⟨l, n :: done, .val (.int n), rfl, by rw [hns]; simp, fun n' hn' => by
          rcases List.mem_cons.mp hn' with z | z
          · rw [z]; exact q
          · exact hpl n' z, rfl⟩
        simpa [rowsRev, rowD] using this
      | false =>
        have hm1 : m = -1 := play_none q m hm
        simp [hm1]
        exact ⟨rfl, h0 ⟨n, by rw [hns]; simp, q⟩⟩
  · rintro e ⟨l, done, x, hd, hns, hpl, rfl⟩
    cases l with
    | nil =>
      have hns : ns = done.reverse := by simpa using hns
      have := h1 fun n hn => hpl n (by rw [hns] at hn; simpa using hn)
      unfold rowsD at this
      rw [hns, List.reverse_reverse] at this
      simp at this ⊢
      exact ⟨_, _, ⟨rfl, rfl⟩, hB, this⟩
    | cons q l => simp at hd
section
variable {P : Program} {w : World} {g : Glb} {mg : Str → Option Value} {base : Heap}
theorem ok_table {f : Addr} {fd : FuncData} (F : FunP g.K "table" s_table f fd) (mgf : mg "table" = some (.ref f)) (T : Txt mg) (C_check_neck : C8.Cal P w g.K mg base 2 "check_neck" (spD g f_check_neck) []) (C_check_tune : C8.Cal P w g.K mg base 2 "check_tune" (spD g f_check_tune) []) (C_check_reach : C8.Cal P w g.K mg base 1 "check_reach" (spD g f_check_reach) []) (C_next_row : C8.Cal P w g.K mg base 5 "_next_row" (spN g f_next_row) []) (C_positions : C8.Cal P w g.K mg base 1 "_positions" (spD g f_positions) []) : C8.Cal P w g.K mg base 6 "table" (spF g f_table) [] :=
  calFB (N := ["neck", "tune", "reach", "row", "rows", "note"]) (ps := ["neck", "tune", "reach"]) (k := 5) (wb := W_table) F mgf (F.bindsN fun _ _ _ _ _ _ us hl => match us, hl with | [_, _, _], _ => rfl) sc_table len_table (fun cdv A outer s H E r a ns hr =>
    (pss_w (pssd_cons (ps_w (ps_expr (pe_w (C8.pe_c C_check_neck hr (by decide) (by rfl) (pa_w (pa_cons (pe_w (pv 0) xd_var) (pa_w pa_nil xa_nil)) xa_cons)) xd_call)) xs_drop) (pssd_cons (ps_w (ps_expr (pe_w (C8.pe_c C_check_tune hr (by decide) (by rfl) (pa_w (pa_cons (pe_w (pv 1) xd_var) (pa_w pa_nil xa_nil)) xa_cons)) xd_call)) xs_drop) (pssd_cons (ps_w (ps_expr (pe_w (C8.pe_c C_check_reach hr (by decide) (by rfl) (pa_w (pa_cons (pe_w (pv 2) xd_var) (pa_w pa_nil xa_nil)) xa_cons)) xd_call)) xs_drop) (pssd_cons (ps_w (ps_set (i := 3) sc_table.nd rfl (.inl rfl) (pe_w (pe_w (pe_op op_rep (pe_lst (pa_w (pa_cons (pe_w pe_int (xd_c fun _ => .int)) (pa_w pa_nil xa_nil)) xa_cons)) (pe_w (pe_callB call_len_seq (by rfl) T.m_len PySem.boot_len (pa_w (pa_cons (pe_w (C8.pe_c C_positions hr (by decide) (by rfl) (pa_w (pa_cons (pe_w (pv 0) xd_var) (pa_w pa_nil xa_nil)) xa_cons)) xd_call) (pa_w pa_nil xa_nil)) xa_cons)) (xd_cb cd_len))) xn_rep) xd_N)) xs_asg) (pssd_cons (ps_w (ps_set (i := 4) sc_table.nd rfl (.inl rfl) (pe_w (pe_lst (pa_w pa_nil xa_nil)) xn_lst)) xs_ownF) (pssd_cons (ps_w (ps_for (g := gName 5) PassesOwn.never rfl (pi_w (pi_list (pe_w (pv 1) xd_var)) xi_list) (pg_name (i := 5) sc_table.nd rfl (.inl rfl)) (pssd_cons (ps_w (ps_set (i := 3) sc_table.nd rfl (.inl rfl) (pe_w (C8.pe_c C_next_row hr (by decide) (by rfl) (pa_w (pa_cons (pe_w (pv 0) xd_var) (pa_w (pa_cons (pe_w (pv 5) xd_var) (pa_w (pa_cons (pe_w (pv 2) xd_var) (pa_w (pa_cons (pe_w (pv 3) xd_var) (pa_w pa_nil xa_nil)) xa_cons)) xa_cons)) xa_cons)) xa_cons)) xn_call)) xs_own) (pssd_cons (ps_w (ps_if (pt_w (pt_w (pt_cmpR (op_eqD hr.units) (pe_w (pe_callB (cr_max (by rfl)) (by rfl) T.m_max (by decide +kernel) (pa_w (pa_cons (pe_w (pv 3) xd_var) (pa_w pa_nil xa_nil)) xa_cons)) (xd_cb cd_maxL)) (pe_w (pe_gint (by rfl) T.c_CANNOT) (xd_c fun _ => .int)) (nomark _)) (xt_cmp od_eq)) xt_peek) (pssd_one (ps_w (ps_ret (pe_w pe_non (xd_c fun _ => .non))) xs_ret)) pssd_nil) xs_if) (pssd_one (ps_w (ps_expr (pe_bm PySem.F.plainAttrs_list PySem.F.slot_list_append PySem.F.type_list_append mt_append (pv 4) (pa_cons (pv 3) pa_nil))) xs_appMv))))) (xs_for gd_name)) (pssd_one (ps_w (ps_ret (pv 4)) xs_retFO)))))))) xs_pin)) pure_table
end

/-! ### _walk -/
def f_walk : Fd := fun ds R => ∃ t f c r n ns, ds = [.list ((posL f c).map PyData.int), .list ((rowsRev t f c r (n :: ns)).reverse.map rowD)] ∧ 0 ≤ c ∧ f ≤ 20 ∧ ns.length ≤ 1000 ∧ (∀ m ∈ n :: ns, playB t f c r m = true) ∧ R (.list ((walkL (posL f c) (rowsRev t f c r (n :: ns))).reverse.map .int))
theorem len_walk : ∀ ds R, f_walk ds R → ds.length = 2 := by
  rintro ds R ⟨t, f, c, r, n, ns, rfl, _⟩; rfl
theorem rows_cand {t : List Int} {f c r : Int} : ∀ (ns : List Int), (∀ m ∈ ns, playB t f c r m = true) → ∀ row ∈ rowsRev t f c r ns, cand (posL f c) row ≠ []
  | [], _, row, h => by cases h
  | n :: ns, hp, row, h => by
    rcases List.mem_cons.mp h with z | z
    · rw [z]; exact cand_ne (hp n List.mem_cons_self)
    · exact rows_cand ns (fun m hm => hp m (List.mem_cons_of_mem _ hm)) row z
theorem cut_init (l : List D) (x : D) : cutD (l ++ [x]) none (some (-1)) = l := by
  have e : HT.sIx (l ++ [x]).length (l ++ [x]).length (some (-1)) = l.length := by
    simp [HT.sIx]
    try omega
  unfold cutD
  rw [e]
  have e0 : HT.sIx (l ++ [x]).length 0 none = 0 := rfl
  rw [e0]
  simp
def W_walk : WS := (dSeq (dUnp [2, 3] (dCall rdMinP (aCons (dN (dLcW (iZipL (aCons (dVar 0) (aCons (dOp rdIx (dVar 1) (dNeg (dC (.int 1)))) aNil))) (tgT [6, 7]) (bB (dOp rdNe (dVar 7) (dC (.int (-1))))) (dTup (aCons (dVar 7) (aCons (dVar 6) aNil))) [6, 7])) aNil))) (dSeq (dOwn 4 (nLst (aCons (dVar 3) aNil))) (dSeq (dFor (iRev (dSl (dVar 1) oNone (oSome (dNeg (dC (.int 1)))) .list)) (tgN 5) (dSeq (dUnp [2, 3] (dCall f_arrival (aCons (dVar 0) (aCons (dVar 5) (aCons (dVar 3) aNil))))) (dApp 4 (dVar 3)))) (dFrz 4 (dRet (dRevL (dVar 4)))))))
def N_walk : List Str := ["positions", "rows", "_", "position", "walk", "row", "there", "moved"]
theorem sc_walk : FnScope ["positions", "rows", "_", "position", "walk", "row", "there", "moved"] ["positions", "rows"] (defScope s_walk) := ⟨rfl, rfl, rfl, by decide +kernel, rfl, by decide +kernel, by decide +kernel⟩
theorem pure_walk : ∀ ds R, f_walk ds R → W_walk { nx := fun _ => R .none, rt := R } (startD N_walk ds) := by
  rintro ds R ⟨t, f, c, r, n, ns, rfl, c0, f1, hl, hp, h⟩
  have hpn := posN_le f1 c0
  have erows : (rowsRev t f c r (n :: ns)).reverse.map rowD = (rowsRev t f c r ns).reverse.map rowD ++ [rowD (rowAt t f c r (n :: ns))] := by simp [rowsRev]
  rw [erows]
  simp [W_walk, N_walk]
  refine ⟨_, atI_last _ _, ?_⟩
  simp [rowD]
  rw [zip_ints]
  refine ⟨by rw [posL_len]; omega, lcRun_map (fun q : Int × Int => decide (q.2 ≠ -1)) (fun q => PyData.tuple [.int q.2, .int q.1]) _ [] (fun q _ K k => ?_) ?_⟩
  · by_cases z : q.2 = -1
    · simpa [z] using k
    · simpa [z] using k
  · rw [List.nil_append]
    have e : (((posL f c).zip (rowAt t f c r (n :: ns))).filter fun q : Int × Int => decide (q.2 ≠ -1)).map (fun q => PyData.tuple [.int q.2, .int q.1]) = pairsD ((cand (posL f c) (rowAt t f c r (n :: ns))).map fun q => (q.2, q.1)) := by
      unfold pairsD cand
      rw [List.map_map]
      rfl
    rw [e]
    have hne := cand_ne (ns := ns) (hp n List.mem_cons_self)
    refine ⟨_, rfl, by simpa using hne, fun m hm hb => ?_⟩
    obtain ⟨⟨q0, v0⟩, hq0, rfl⟩ := List.mem_map.mp hm
    have he : q0 = endP (posL f c) (rowAt t f c r (n :: ns)) := by
      have := minP_eq (List.mem_map.mpr ⟨(q0, v0), hq0, rfl⟩) hb
      unfold endP
      rw [← this]
    have eR : walkL (posL f c) (rowsRev t f c r (n :: ns)) = q0 :: walkH (posL f c) q0 (rowsRev t f c r ns) := by
      rw [he]
      rfl
    rw [eR] at h
    simp
    have ecut := cut_init ((rowsRev t f c r ns).map rowD).reverse (rowD (rowAt t f c r (n :: ns)))
    simp only [rowD] at ecut
    rw [ecut, List.reverse_reverse]
    refine forRun_inv (fun ds e => ∃ (rs : List (List Int)) (hsd : List Int) (cur : Int) (x2 x5 x6 x7 : Sl), ds = rs.map rowD ∧ (∀ row ∈ rs, cand (posL f c) row ≠ []) ∧ rs.length + hsd.length = ns.length ∧ walkH (posL f c) q0 (rowsRev t f c r ns) = hsd ++ walkH (posL f c) cur rs ∧
      e = [.val (.list ((posL f c).map .int)), .val (.list (((rowsRev t f c r ns).map rowD).reverse ++ [.list ((rowAt t f c r (n :: ns)).map .int)])), x2, .val (.int cur), .own ((q0 :: hsd).map .int), x5, x6, x7]) ?_ ?_ _ _ ⟨rowsRev t f c r ns, [], q0, .val (.int v0), .un, .un, .un, rfl, rows_cand ns fun m hm => hp m (List.mem_cons_of_mem _ hm), by rw [rowsRev_len]; rfl, rfl, rfl⟩
    · rintro d ds e ⟨rs, hsd, cur, x2, x5, x6, x7, hd, hc, hlen, hw, rfl⟩ k
      cases rs with
      | nil => simp at hd
      | cons row rs =>
        simp only [List.map_cons, List.cons.injEq] at hd
        obtain ⟨rfl, rfl⟩ := hd
        have hlen2 : rs.length + 1 + hsd.length = ns.length := by simpa using hlen
        simp [rowD]
        refine ⟨by rw [posL_len]; omega, hc row List.mem_cons_self, by omega, ?_⟩
        have := k _ ⟨rs, hsd ++ [arrH (posL f c) row cur], arrH (posL f c) row cur, .val (.int (arrV (posL f c) row cur)), .val (rowD row), x6, x7, rfl, fun row' hr => hc row' (List.mem_cons_of_mem _ hr), by simp; omega, by rw [hw]; simp [walkH], rfl⟩
        simpa [rowD] using this
    · rintro e ⟨rs, hsd, cur, x2, x5, x6, x7, hd, hc, hlen, hw, rfl⟩
      cases rs with
      | nil =>
        rw [hw] at h
        simpa [walkH] using h
      | cons q l => simp at hd
section
variable {P : Program} {w : World} {g : Glb} {mg : Str → Option Value} {base : Heap}
theorem ok_walk {f : Addr} {fd : FuncData} (F : FunP g.K "_walk" s_walk f fd) (mgf : mg "_walk" = some (.ref f)) (T : Txt mg) (C_arrival : C8.Cal P w g.K mg base 1 "_arrival" (spD g f_arrival) []) : C8.Cal P w g.K mg base 2 "_walk" (spD g f_walk) [] :=
  calD (N := ["positions", "rows", "_", "position", "walk", "row", "there", "moved"]) (ps := ["positions", "rows"]) (k := 1) (wb := W_walk) F mgf (F.bindsN fun _ _ _ _ _ _ us hl => match us, hl with | [_, _], _ => rfl) sc_walk len_walk (fun cdv A outer s H E r a ns hr =>
    (pssd_cons (ps_w (ps_asg (pe_w (pe_callB (cr_minP (by rfl) hr.units) (by rfl) T.m_min (by decide +kernel) (pa_w (pa_cons (pe_w (pe_w (pe_lc (own := [("there", 6), ("moved", 7)]) (g := gTup _ 2 (gNames [6, 7])) rfl sc_walk.nd (pi_w (RZ.pi_zipA (by rfl) T.m_zip (pa_w (pa_cons (pe_w (pv 0) xd_var) (pa_w (pa_cons (pe_w (pe_ix ix_lt (pe_w (pv 1) xd_var) (pe_w (pe_un un_neg (pe_w pe_int (xd_c fun _ => .int))) xd_neg) (fun _ _ => rfl)) (xd_op od_ixL)) (pa_w pa_nil xa_nil)) xa_cons)) xa_cons)) xi_zipL) (blkOk_by (own := [("there", 6), ("moved", 7)]) (N := ["positions", "rows", "_", "position", "walk", "row", "there", "moved"]) (sc := (defScope s_walk)) (by decide +kernel)) (fun _ _ _ _ _ => (pg_tup rfl (pgs_cons (pg_name (i := 6) sc_walk.nd rfl (.inl rfl)) (pgs_cons (pg_name (i := 7) sc_walk.nd rfl (.inl rfl)) pgs_nil)))) (fun _ _ _ _ _ => (pts_one (pt_w (pt_cmpR (op_neD hr.units) (pe_w (pv 7) xd_var) (pe_w (pe_gint (by rfl) T.c_CANNOT) (xd_c fun _ => .int)) (nomark _)) (xt_cmp od_ne)))) (fun _ _ _ _ _ => (pe_w (pe_tup (pa_w (pa_cons (pe_w (pv 7) xd_var) (pa_w (pa_cons (pe_w (pv 6) xd_var) (pa_w pa_nil xa_nil)) xa_cons)) xa_cons)) xd_tup))) (xn_lc (gd_tup (is := [6, 7]) rfl) (stores_names [6, 7]))) xd_N) (pa_w pa_nil xa_nil)) xa_cons)) (xd_cb cd_minP)) (pg_tup rfl (pgs_cons (pg_name (i := 2) sc_walk.nd rfl (.inl rfl)) (pgs_cons (pg_name (i := 3) sc_walk.nd rfl (.inl rfl)) pgs_nil)))) (xs_unp (is := [2, 3]) rfl)) (pssd_cons (ps_w (ps_set (i := 4) sc_walk.nd rfl (.inl rfl) (pe_w (pe_lst (pa_w (pa_cons (pe_w (pv 3) xd_var) (pa_w pa_nil xa_nil)) xa_cons)) xn_lst)) xs_own) (pssd_cons (ps_w (ps_for (g := gName 5) PassesOwn.never rfl (pi_w (RT.pi_revA (by rfl) T.m_reversed (pe_w (pe_slice sl_list (pe_w (pv 1) xd_var) (po_w po_none xo_none) (po_w (po_some (pe_w (pe_un un_neg (pe_w pe_int (xd_c fun _ => .int))) xd_neg)) xo_some)) xd_slL)) xi_rev) (pg_name (i := 5) sc_walk.nd rfl (.inl rfl)) (pssd_cons (ps_w (ps_asg (pe_w (C8.pe_c C_arrival hr (by decide) (by rfl) (pa_w (pa_cons (pe_w (pv 0) xd_var) (pa_w (pa_cons (pe_w (pv 5) xd_var) (pa_w (pa_cons (pe_w (pv 3) xd_var) (pa_w pa_nil xa_nil)) xa_cons)) xa_cons)) xa_cons)) xd_call) (pg_tup rfl (pgs_cons (pg_name (i := 2) sc_walk.nd rfl (.inl rfl)) (pgs_cons (pg_name (i := 3) sc_walk.nd rfl (.inl rfl)) pgs_nil)))) (xs_unp (is := [2, 3]) rfl)) (pssd_one (ps_w (ps_expr (pe_bm PySem.F.plainAttrs_list PySem.F.slot_list_append PySem.F.type_list_append mt_append (pv 4) (pa_cons (pe_w (pv 3) xd_var) pa_nil))) xs_app)))) (xs_for gd_name)) (pss_w (pssd_one (ps_w (ps_ret (pe_w (pe_revL (pe_w (pv 4) xd_var)) xd_revL)) xs_ret)) xs_frz))))) pure_walk
end

/-! ### movement -/
def trD (x : Int × Int × Int) : D := .tuple [.int x.1, .int x.2.1, .int x.2.2]
def posOf (pl : List (Int × Int × Int)) : List Int := pl.map fun x => x.2.2
def f_movement : Fd := fun ds R => ∃ pl : List (Int × Int × Int), ds = [.list (pl.map trD)] ∧ pl.length ≤ 1000 ∧ R (.int (moveL (posOf pl)))
theorem len_movement : ∀ ds R, f_movement ds R → ds.length = 1 := by
  rintro ds R ⟨pl, rfl, _⟩; rfl
theorem cut_one (l : List Int) : cutD (l.map PyData.int) (some 1) none = l.tail.map PyData.int := by
  cases l with
  | nil => rfl
  | cons a l =>
    have := cut_from (a :: l) (n := 0) (by simp)
    simpa using this
def W_movement : WS := (dSeq (dAsg 1 (dN (dLcW (iLst (dVar 0)) (tgT [2, 2, 3]) (fun _ R => R true) (dVar 3) [2, 2, 3]))) (dRet (dCall rdSum (aCons (dN (dLcW (iZipL (aCons (dVar 1) (aCons (dSl (dVar 1) (oSome (dC (.int 1))) oNone .list) aNil))) (tgT [4, 5]) (fun _ R => R true) (dCall rdAbs (aCons (dOp rdSub (dVar 5) (dVar 4)) aNil)) [4, 5])) aNil))))
def N_movement : List Str := ["playing", "positions", "_", "position", "here", "there"]
theorem sc_movement : FnScope ["playing", "positions", "_", "position", "here", "there"] ["playing"] (defScope s_movement) := ⟨rfl, rfl, rfl, by decide +kernel, rfl, by decide +kernel, by decide +kernel⟩
theorem pure_movement : ∀ ds R, f_movement ds R → W_movement { nx := fun _ => R .none, rt := R } (startD N_movement ds) := by
  rintro ds R ⟨pl, rfl, hl, h⟩
  simp [W_movement, N_movement]
  refine ⟨by omega, lcRun_map (fun _ => true) (fun x : Int × Int × Int => .int x.2.2) pl [] (fun x _ K k => ?_) ?_⟩
  · simpa [trD] using k
  · rw [List.nil_append, List.filter_eq_self.mpr (by simp)]
    have e : pl.map (fun x : Int × Int × Int => PyData.int x.2.2) = (posOf pl).map .int := by unfold posOf; rw [List.map_map]; rfl
    rw [e]
    simp
    rw [cut_one, zip_ints]
    have hl2 : (posOf pl).length ≤ 1000 := by simpa [posOf] using hl
    refine ⟨by simp; omega, lcRun_map (fun _ => true) (fun q : Int × Int => .int (absI (q.2 - q.1))) _ [] (fun x _ K k => ?_) ?_⟩
    · simpa using k
    · rw [List.nil_append, List.filter_eq_self.mpr (by simp)]
      have e2 : ((posOf pl).zip (posOf pl).tail).map (fun q : Int × Int => PyData.int (absI (q.2 - q.1))) = (((posOf pl).zip (posOf pl).tail).map fun q => absI (q.2 - q.1)).map .int := by rw [List.map_map]; rfl
      rw [e2]
      refine rdSum_iff.mpr ?_
      rw [moveL_zip]
      exact h
section
variable {P : Program} {w : World} {g : Glb} {mg : Str → Option Value} {base : Heap}
theorem ok_movement {f : Addr} {fd : FuncData} (F : FunP g.K "movement" s_movement f fd) (mgf : mg "movement" = some (.ref f)) (T : Txt mg)  : C8.Cal P w g.K mg base 1 "movement" (spD g f_movement) [] :=
  calD (N := ["playing", "positions", "_", "position", "here", "there"]) (ps := ["playing"]) (k := 0) (wb := W_movement) F mgf (F.bindsN fun _ _ _ _ _ _ us hl => match us, hl with | [_], _ => rfl) sc_movement len_movement (fun cdv A outer s H E r a ns hr =>
    (pssd_cons (ps_w (ps_setLc (i := 1) (own := [("_", 2), ("_", 2), ("position", 3)]) (g := gTup _ 3 (gNames [2, 2, 3])) rfl sc_movement.nd rfl rfl (sw_true rfl rfl rfl (by decide +kernel)) (pi_w (pi_list (pe_w (pv 0) xd_var)) xi_list) (blkOk_by (own := [("_", 2), ("_", 2), ("position", 3)]) (N := ["playing", "positions", "_", "position", "here", "there"]) (sc := (defScope s_movement)) (by decide +kernel)) (fun _ _ _ _ _ => (pg_tup rfl (pgs_cons (pg_name (i := 2) sc_movement.nd rfl (.inl rfl)) (pgs_cons (pg_name (i := 2) sc_movement.nd rfl (.inl rfl)) (pgs_cons (pg_name (i := 3) sc_movement.nd rfl (.inl rfl)) pgs_nil))))) (fun _ _ _ _ _ => (pts_w pts_nil xt_yes)) (fun _ _ _ _ _ => (pe_w (pv 3) xd_var))) (xs_asgLc (gd_tup (is := [2, 2, 3]) rfl) (stores_names [2, 2, 3]))) (pssd_one (ps_w (ps_ret (pe_w (pe_callB (cr_sum (by rfl)) (by rfl) T.m_sum (by decide +kernel) (pa_w (pa_cons (pe_w (pe_w (pe_lc (own := [("here", 4), ("there", 5)]) (g := gTup _ 2 (gNames [4, 5])) rfl sc_movement.nd (pi_w (RZ.pi_zipA (by rfl) T.m_zip (pa_w (pa_cons (pe_w (pv 1) xd_var) (pa_w (pa_cons (pe_w (pe_slice sl_list (pe_w (pv 1) xd_var) (po_w (po_some (pe_w pe_int (xd_c fun _ => .int))) xo_some) (po_w po_none xo_none)) xd_slL) (pa_w pa_nil xa_nil)) xa_cons)) xa_cons)) xi_zipL) (blkOk_by (own := [("here", 4), ("there", 5)]) (N := ["playing", "positions", "_", "position", "here", "there"]) (sc := (defScope s_movement)) (by decide +kernel)) (fun _ _ _ _ _ => (pg_tup rfl (pgs_cons (pg_name (i := 4) sc_movement.nd rfl (.inl rfl)) (pgs_cons (pg_name (i := 5) sc_movement.nd rfl (.inl rfl)) pgs_nil)))) (fun _ _ _ _ _ => (pts_w pts_nil xt_yes)) (fun _ _ _ _ _ => (pe_w (pe_callB call_abs (by rfl) T.m_abs (by decide +kernel) (pa_w (pa_cons (pe_w (pe_op op_sub (pe_w (pv 5) xd_var) (pe_w (pv 4) xd_var)) (xd_op od_sub)) (pa_w pa_nil xa_nil)) xa_cons)) (xd_cb cd_abs)))) (xn_lc (gd_tup (is := [4, 5]) rfl) (stores_names [4, 5]))) xd_N) (pa_w pa_nil xa_nil)) xa_cons)) (xd_cb cd_sum))) xs_ret)))) pure_movement
end

/-! ### played -/
noncomputable def tripF (t : List Int) (f c r n p : Int) : Int × Int × Int := match placeF t f c n r p with
  | some (s, y) => ((s : Nat), y, p)
  | none => (0, 0, p)
/-- the positions, note by note -/
noncomputable def posW (t : List Int) (f c r : Int) (ns : List Int) : List Int := (walkL (posL f c) (rowsRev t f c r ns.reverse)).reverse
noncomputable def playW (t : List Int) (f c r : Int) (ns : List Int) : List (Int × Int × Int) := (ns.zip (posW t f c r ns)).map fun z => tripF t f c r z.1 z.2
noncomputable def playD (t : List Int) (f c r : Int) (ns : List Int) : D := .tuple [.int (moveL (posOf (playW t f c r ns))), .list ((playW t f c r ns).map trD)]
def f_played : Fd := fun ds R => ∃ t f c ns r, ds = [neckD t f c, .list (ns.map PyData.int), .int r] ∧ OkNeck t f c ∧ OkTune ns ∧ (0 ≤ r ∧ r ≤ 6) ∧ ((∃ n ∈ ns, playB t f c r n = false) → R .none) ∧
  ((∀ n ∈ ns, playB t f c r n = true) → R (playD t f c r ns))
theorem len_played : ∀ ds R, f_played ds R → ds.length = 3 := by
  rintro ds R ⟨t, f, c, ns, r, rfl, _⟩; rfl
@[simp] theorem played_iff {t ns : List Int} {f c r : Int} {R : D → Prop} : f_played [neckD t f c, .list (ns.map .int), .int r] R ↔ OkNeck t f c ∧ OkTune ns ∧ (0 ≤ r ∧ r ≤ 6) ∧ ((∃ n ∈ ns, playB t f c r n = false) → R .none) ∧
    ((∀ n ∈ ns, playB t f c r n = true) → R (playD t f c r ns)) := by
  constructor
  · rintro ⟨t', f', c', n', r', e, h⟩; simp at e; obtain ⟨⟨rfl, rfl, rfl⟩, rfl, rfl⟩ := e; exact h
  · intro h; exact ⟨_, _, _, _, _, rfl, h⟩
theorem posOf_trip {t : List Int} {f c r : Int} (z : Int × Int) : (tripF t f c r z.1 z.2).2.2 = z.2 := by
  unfold tripF
  split <;> rfl
theorem noList_tr : ∀ pl : List (Int × Int × Int), noListA (pl.map trD) = true
  | [] => rfl
  | _ :: pl => by
    show (noListD (trD _) && noListA (pl.map trD)) = true
    rw [noList_tr pl]
    rfl
def W_played : WS := (dSeq (dAsg 3 (dCall f_table (aCons (dVar 0) (aCons (dVar 1) (aCons (dVar 2) aNil))))) (dSeq (dIfS (bB (dIsN (dVar 3))) (dRet (dC .none)) dNext) (dSeq (dOwn 4 (nLst aNil)) (dSeq (dFor (iZipL (aCons (dVar 1) (aCons (dCall f_walk (aCons (dCall f_positions (aCons (dVar 0) aNil)) (aCons (dVar 3) aNil))) aNil))) (tgT [5, 6]) (dSeq (dUnp [7, 8] (dCall f_place_from (aCons (dVar 0) (aCons (dVar 5) (aCons (dVar 2) (aCons (dVar 6) aNil)))))) (dApp 4 (dTup (aCons (dVar 7) (aCons (dVar 8) (aCons (dVar 6) aNil))))))) (dRetFz 4 (dCall f_movement (aCons (dVar 4) aNil)))))))
def N_played : List Str := ["neck", "tune", "reach", "rows", "playing", "note", "position", "string", "fret"]
theorem sc_played : FnScope ["neck", "tune", "reach", "rows", "playing", "note", "position", "string", "fret"] ["neck", "tune", "reach"] (defScope s_played) := ⟨rfl, rfl, rfl, by decide +kernel, rfl, by decide +kernel, by decide +kernel⟩
theorem pure_played : ∀ ds R, f_played ds R → W_played { nx := fun _ => R .none, rt := fun d => noListD d = true ∧ R d, rf := R } (startD N_played ds) := by
  rintro ds R ⟨t, f, c, ns, r, rfl, ok, okt, hr, h0, h1⟩
  have c0 := ok.c0
  have c1 := ok.c1
  have f1 := ok.f1
  simp [W_played, N_played, ok, okt, hr, noListD]
  refine ⟨fun n hn q => h0 ⟨n, hn, q⟩, fun hp => ?_⟩
  simp [c0, c1, f1]
  -- the tune from its end
  obtain ⟨n, rs, hrs⟩ : ∃ n rs, ns.reverse = n :: rs := by
    cases q : ns.reverse with
    | nil =>
      have e1 := congrArg List.length q
      have e2 := okt.l1
      simp at e1
      rw [e1] at e2
      simp at e2
    | cons n rs => exact ⟨n, rs, rfl⟩
  have hlen : rs.length ≤ 1000 := by
    have e1 := congrArg List.length hrs
    have e2 := okt.l2
    simp at e1
    omega
  have hps : ∀ m ∈ n :: rs, playB t f c r m = true := fun m hm => hp m (by rw [← hrs] at hm; simpa using hm)
  refine ⟨t, f, c, r, n, rs, by unfold rowsD; rw [hrs], c0, f1, hlen, hps, ?_⟩
  have hqs : posW t f c r ns = (walkL (posL f c) (rowsRev t f c r (n :: rs))).reverse := by unfold posW; rw [hrs]
  rw [← hqs]
  have hv : Val t f c r ns (posW t f c r ns) := by
    obtain ⟨v, hq, hb⟩ := endP_is (cand_ne (ns := rs) (hps n List.mem_cons_self))
    have hw := walkH_is (ps := posL f c) (cur := endP (posL f c) (rowAt t f c r (n :: rs))) (rows_cand rs fun m hm => hps m (List.mem_cons_of_mem _ hm))
    obtain ⟨a1, _⟩ := walk_sum n rs _ v _ hq hw
    have := a1.rev
    rw [hqs]
    have e : (n :: rs).reverse = ns := by rw [← hrs, List.reverse_reverse]
    rw [e] at this
    exact this
  have hplay := h1 hp
  unfold playD at hplay
  unfold playW at hplay
  generalize posW t f c r ns = qs at hv hplay
  simp only [rdZipL_iff, zip_ints]
  have hz : ∀ z ∈ ns.zip qs, z.2 ∈ posL f c ∧ canB t f c z.1 r z.2 = true := fun z hz => by
    obtain ⟨i, hi, e⟩ := List.getElem_of_mem hz
    have e1 := List.getElem?_eq_getElem hi
    rw [e] at e1
    obtain ⟨k1, k2⟩ := List.getElem?_zip_eq_some.mp e1
    exact hv.ok i z.1 z.2 k1 k2
  have hzl : (ns.zip qs).length ≤ 30 := by
    have := okt.l2
    rw [List.length_zip]
    omega
  refine forRun_map (φ := fun z : Int × Int => PyData.tuple [.int z.1, .int z.2]) (fun done _ e => ∃ (x5 x6 x7 x8 : Sl), e = [.val (neckD t f c), .val (.list (ns.map .int)), .val (.int r), .val (.list (rowsD t f c r ns)), .own ((done.map fun z => tripF t f c r z.1 z.2).map trD), x5, x6, x7, x8]) _ ?_ ?_ _ ⟨_, _, _, _, rfl⟩
  · rintro done z rest e N hl ⟨x5, x6, x7, x8, rfl⟩ k
    have hzm := hz z (by rw [hl]; simp)
    have dl : done.length ≤ 30 := by
      have e1 := congrArg List.length hl
      rw [List.length_append] at e1
      omega
    obtain ⟨s, y, hs⟩ := placeF_can hzm.2
    simp [ok, hs, placeO]
    refine ⟨by omega, ?_⟩
    have := k _ ⟨.val (.int z.1), .val (.int z.2), .val (.int s), .val (.int y), rfl⟩
    have et : tripF t f c r z.1 z.2 = (((s : Nat) : Int), y, z.2) := by unfold tripF; rw [hs]
    simpa [trD, et] using this
  · rintro e ⟨x5, x6, x7, x8, rfl⟩
    simp
    refine ⟨?_, _, by rw [← List.map_map], ?_⟩
    · rw [← List.map_map]
      exact noList_tr _
    · refine ⟨by rw [List.length_map]; omega, rfl, ?_⟩
      rw [List.map_map] at hplay
      exact hplay
section
variable {P : Program} {w : World} {g : Glb} {mg : Str → Option Value} {base : Heap}
theorem ok_played {f : Addr} {fd : FuncData} (F : FunP g.K "played" s_played f fd) (mgf : mg "played" = some (.ref f)) (T : Txt mg) (C_table : C8.Cal P w g.K mg base 6 "table" (spF g f_table) []) (C_walk : C8.Cal P w g.K mg base 2 "_walk" (spD g f_walk) []) (C_place_from : C8.Cal P w g.K mg base 4 "_place_from" (spD g f_place_from) []) (C_movement : C8.Cal P w g.K mg base 1 "movement" (spD g f_movement) []) (C_positions : C8.Cal P w g.K mg base 1 "_positions" (spD g f_positions) []) : C8.Cal P w g.K mg base 7 "played" (spF g f_played) [] :=
  calF (N := ["neck", "tune", "reach", "rows", "playing", "note", "position", "string", "fret"]) (ps := ["neck", "tune", "reach"]) (k := 6) (wb := W_played) F mgf (F.bindsN fun _ _ _ _ _ _ us hl => match us, hl with | [_, _, _], _ => rfl) sc_played len_played (fun cdv A outer s H E r a ns hr =>
    (pssd_cons (ps_w (ps_set (i := 3) sc_played.nd rfl (.inl rfl) (pe_w (C8.pe_c C_table hr (by decide) (by rfl) (pa_w (pa_cons (pe_w (pv 0) xd_var) (pa_w (pa_cons (pe_w (pv 1) xd_var) (pa_w (pa_cons (pe_w (pv 2) xd_var) (pa_w pa_nil xa_nil)) xa_cons)) xa_cons)) xa_cons)) xd_callF)) xs_asg) (pssd_cons (ps_w (ps_if (pt_w (pt_cmp (pc_isN (pe_w (pv 3) xd_var))) xt_isN) (pssd_one (ps_w (ps_ret (pe_w pe_non (xd_c fun _ => .non))) xs_ret)) pssd_nil) xs_if) (pssd_cons (ps_w (ps_set (i := 4) sc_played.nd rfl (.inl rfl) (pe_w (pe_lst (pa_w pa_nil xa_nil)) xn_lst)) xs_own) (pssd_cons (ps_w (ps_for (g := gTup _ 2 (gNames [5, 6])) PassesOwn.never rfl (pi_w (RZ.pi_zipA (by rfl) T.m_zip (pa_w (pa_cons (pe_w (pv 1) xd_var) (pa_w (pa_cons (pe_w (C8.pe_c C_walk hr (by decide) (by rfl) (pa_w (pa_cons (pe_w (C8.pe_c C_positions hr (by decide) (by rfl) (pa_w (pa_cons (pe_w (pv 0) xd_var) (pa_w pa_nil xa_nil)) xa_cons)) xd_call) (pa_w (pa_cons (pe_w (pv 3) xd_var) (pa_w pa_nil xa_nil)) xa_cons)) xa_cons)) xd_call) (pa_w pa_nil xa_nil)) xa_cons)) xa_cons)) xi_zipL) (pg_tup rfl (pgs_cons (pg_name (i := 5) sc_played.nd rfl (.inl rfl)) (pgs_cons (pg_name (i := 6) sc_played.nd rfl (.inl rfl)) pgs_nil))) (pssd_cons (ps_w (ps_asg (pe_w (C8.pe_c C_place_from hr (by decide) (by rfl) (pa_w (pa_cons (pe_w (pv 0) xd_var) (pa_w (pa_cons (pe_w (pv 5) xd_var) (pa_w (pa_cons (pe_w (pv 2) xd_var) (pa_w (pa_cons (pe_w (pv 6) xd_var) (pa_w pa_nil xa_nil)) xa_cons)) xa_cons)) xa_cons)) xa_cons)) xd_call) (pg_tup rfl (pgs_cons (pg_name (i := 7) sc_played.nd rfl (.inl rfl)) (pgs_cons (pg_name (i := 8) sc_played.nd rfl (.inl rfl)) pgs_nil)))) (xs_unp (is := [7, 8]) rfl)) (pssd_one (ps_w (ps_expr (pe_bm PySem.F.plainAttrs_list PySem.F.slot_list_append PySem.F.type_list_append mt_append (pv 4) (pa_cons (pe_w (pe_tup (pa_w (pa_cons (pe_w (pv 7) xd_var) (pa_w (pa_cons (pe_w (pv 8) xd_var) (pa_w (pa_cons (pe_w (pv 6) xd_var) (pa_w pa_nil xa_nil)) xa_cons)) xa_cons)) xa_cons)) xd_tup) pa_nil))) xs_app)))) (xs_for (gd_tup (is := [5, 6]) rfl))) (pssd_one (ps_w (ps_ret (pe_tup (pa_cons (pe_w (C8.pe_c C_movement hr (by decide) (by rfl) (pa_w (pa_cons (pe_w (pv 4) xd_var) (pa_w pa_nil xa_nil)) xa_cons)) xd_call) (pa_cons (pv 4) pa_nil)))) xs_retFz))))))) pure_played
end

/-! ### _law_taken: the row is read and written, so the layer's own words -/
section
variable {P : Program} {w : World} {g : Glb} {mg : Str → Option Value} {base : Heap}
theorem sc_law_taken : FnScope ["_law_row", "_law_many", "_law_found", "_law_cell"] ["_law_row", "_law_many"] (defScope s_law_taken) := ⟨rfl, rfl, rfl, by decide +kernel, rfl, by decide +kernel, by decide +kernel⟩
theorem ok_law_taken {f : Addr} {fd : FuncData} (Fn : FunP g.K "_law_taken" s_law_taken f fd) (mgf : mg "_law_taken" = some (.ref f)) (T : Txt mg) : C8.Cal P w g.K mg base 1 "_law_taken" (spD g f_law_taken) [] := by
  refine ⟨f, fd, ["_law_row", "_law_many"], [], Fn.ok (k := 0) sc_law_taken (fun vs H Q E h => ?_) (fun cdv A outer s H vs Q E hr h => ?_), mgf, Fn.kp, Fn.bindsN fun _ _ _ _ _ _ us hl => match us, hl with | [_, _], _ => rfl, .nil⟩
  · obtain ⟨c, F, ds, R, _, _, rv, h, _⟩ := h
    rw [rv.length]; exact len_law_taken ds R h
  · obtain ⟨c, F, ds, R, hg, W, rv, ⟨m, rfl, hm, hm2, hR⟩, P'⟩ := h
    subst hg
    obtain ⟨v1, v2, rfl, q1, q2⟩ := reps2 rv
    have e1 := q1.row_inv
    have e2 := q2.int_inv
    subst e1 e2
    obtain ⟨i, x, k, hrow, hi, hx, hx2, hsq⟩ := W.row
    -- what is asked of the end
    have fin : ∀ (i' x' k' v : Int) (H' : Hp), 0 ≤ i' → 0 ≤ x' → x' < 2147483647 → H' c.r = some (.lst [.ref c.a, .int i', .int x', .int k']) → (∀ b, b ≠ c.r → H' b = H b) → 0 ≤ v → v < m → Q (.int v) H' := fun i' x' k' v H' a1 a2 a3 a4 a5 a6 a7 =>
      P' _ _ H' F (hR v a6 a7) (Ext.rowed W a1 a2 a3 a4 a5) .int
    refine ⟨_, PSs.nox (pss_cons (ps_if (pt_cmpR op_gt (pe_ix ix_list (pv 0) pe_int (fun _ _ => rfl)) pe_int (nomark _))
        (pss_cons (ps_set (i := 2) sc_law_taken.nd rfl (.inl rfl) (pe_op op_modN (pe_ix ix_list (pv 0) pe_int (fun _ _ => rfl)) (pv 1)))
        (pss_cons (ps_asg (pe_op op_fdivN (pe_ix ix_list (pv 0) pe_int (fun _ _ => rfl)) (pv 1)) (pg_sub (pv 0) pe_int set_list))
        (pss_one (ps_ret (pv 2))))) pss_nil)
      (pss_cons (ps_asg (pe_op op_add (pe_ix ix_list (pv 0) pe_int (fun _ _ => rfl)) pe_int) (pg_sub (pv 0) pe_int set_list))
      (pss_cons (ps_if (pt_cmpR op_gt (pe_ix ix_list (pv 0) pe_int (fun _ _ => rfl)) (pe_callB call_len_seq (by rfl) T.m_len PySem.boot_len (pa_cons (pe_ix ix_list (pv 0) pe_int (fun _ _ => rfl)) pa_nil)) (nomark _))
        (pss_cons (ps_asg (pe_op op_modN (pe_op op_add (pe_op op_mul (pe_ix ix_list (pv 0) pe_int (fun _ _ => rfl)) pe_int) pe_int) pe_int) (pg_sub (pv 0) pe_int set_list))
        (pss_one (ps_ret (pe_op op_modN (pe_op op_fdivN (pe_ix ix_list (pv 0) pe_int (fun _ _ => rfl)) pe_int) (pv 1))))) pss_nil)
      (pss_cons (ps_set (i := 3) sc_law_taken.nd rfl (.inl rfl) (pe_ix ix_list (pe_ix ix_list (pv 0) pe_int (fun _ _ => rfl)) (pe_op op_sub (pe_ix ix_list (pv 0) pe_int (fun _ _ => rfl)) pe_int) (fun _ _ => rfl)))
      (pss_cons (ps_asg (pe_op op_modN (pe_op op_add (pe_op op_add (pe_op op_mul (pe_ix ix_list (pv 0) pe_int (fun _ _ => rfl)) pe_int) (pv 3)) pe_int) pe_int) (pg_sub (pv 0) pe_int set_list))
      (pss_cons (ps_if (pt_cmpR op_ge (pv 3) (pe_op op_pow pe_int pe_int) (nomark _))
        (pss_one (ps_asg (pe_op op_fdivN (pv 3) (pv 1)) (pg_sub (pv 0) pe_int set_list))) pss_nil)
      (pss_one (ps_ret (pe_op op_modN (pv 3) (pv 1)))))))))), ?_⟩
    have hz : m ≠ 0 := by omega
    have hd : m ≠ 0 ∧ m.natAbs < 1073741824 := ⟨hz, by omega⟩
    -- if row[3] > 0
    refine ⟨_, rfl, c.r, _, 3, .int k, rfl, rfl, SqL.of hrow, rfl, _, _, rfl, rfl, _, rfl, ?_⟩
    refine ite2 (fun _ => ?_) (fun _ => ?_)
    · refine ⟨_, rfl, c.r, _, 3, .int k, rfl, rfl, SqL.of hrow, rfl, _, rfl, _, _, rfl, rfl, hz, ?_⟩
      refine ⟨_, rfl, c.r, _, 3, .int k, rfl, rfl, SqL.of hrow, rfl, _, rfl, _, _, rfl, rfl, hd, _, rfl, c.r, _, 3, 3, rfl, rfl, hrow, rfl, _, rfl, ?_⟩
      exact fin i x _ _ _ hi hx hx2 upd_same (fun b hb => upd_ne hb) (fmod_lt hm).1 (fmod_lt hm).2
    · -- row[1] = row[1] + 1
      refine ⟨_, rfl, c.r, _, 1, .int i, rfl, rfl, SqL.of hrow, rfl, _, _, rfl, rfl, _, rfl, c.r, _, 1, 1, rfl, rfl, hrow, rfl, ?_⟩
      have row1 : upd H c.r (.lst [.ref c.a, .int (i + 1), .int x, .int k]) c.r = some (.lst [.ref c.a, .int (i + 1), .int x, .int k]) := upd_same
      have sq1 : SqL c.g.K (upd H c.r (.lst [.ref c.a, .int (i + 1), .int x, .int k])) c.a (c.ns.map V.int) := (Ext.rowed (k := k) W (show 0 ≤ i + 1 by omega) hx hx2 row1 (fun b hb => upd_ne hb)).ok.row.sq
      refine ⟨_, rfl, c.r, _, 1, .int (i + 1), rfl, rfl, SqL.of row1, rfl, _, rfl, c.r, _, 0, .ref c.a, rfl, rfl, SqL.of row1, rfl, c.a, _, rfl, .inl sq1, _, _, rfl, rfl, _, rfl, ?_⟩
      refine ite2 (fun _ => ?_) (fun hle => ?_)
      · refine ⟨_, rfl, c.r, _, 2, .int x, rfl, rfl, SqL.of row1, rfl, _, _, rfl, rfl, .inl ⟨by omega, by omega⟩, _, _, rfl, rfl, _, _, rfl, rfl, (show (2147483647 : Int) ≠ 0 by decide), _, rfl, c.r, _, 2, 2, rfl, rfl, row1, rfl, ?_⟩
        refine ⟨_, rfl, c.r, _, 2, _, rfl, rfl, SqL.of upd_same, rfl, _, _, rfl, rfl, ⟨by decide, by decide⟩, _, rfl, _, _, rfl, rfl, hz, ?_⟩
        have b := fmod_lt (a := x * 48271 + 11) (show (0 : Int) < 2147483647 by decide)
        exact fin (i + 1) _ k _ _ (by omega) b.1 b.2 upd_same (fun b hb => by rw [upd_ne hb, upd_ne hb]) (fmod_lt hm).1 (fmod_lt hm).2
      · -- the cell
        rw [List.length_map] at hle
        have hle2 : i < c.ns.length := by
          have := of_decide_eq_false (Bool.eq_false_iff.mpr hle)
          omega
        obtain ⟨n, hn⟩ : ∃ n : Nat, i = n := ⟨i.toNat, by omega⟩
        subst hn
        have hn3 : n < c.ns.length := by omega
        have at1 : atI (c.ns.map V.int) ((n : Int) + 1 - 1) = some (.int c.ns[n]) := by
          have e : ((n : Int) + 1 - 1) = (n : Int) := by omega
          rw [e]
          exact atI_nat (by rw [List.getElem?_map, List.getElem?_eq_getElem hn3]; rfl)
        refine ⟨_, rfl, c.r, _, 0, .ref c.a, rfl, rfl, SqL.of row1, rfl, _, rfl, c.r, _, 1, .int ((n : Int) + 1), rfl, rfl, SqL.of row1, rfl, _, _, rfl, rfl, c.a, _, _, _, rfl, rfl, sq1, at1, ?_⟩
        refine ⟨_, rfl, c.r, _, 2, .int x, rfl, rfl, SqL.of row1, rfl, _, _, rfl, rfl, .inl ⟨by omega, by omega⟩, _, rfl, _, _, rfl, rfl, _, _, rfl, rfl, _, _, rfl, rfl, (show (2147483647 : Int) ≠ 0 by decide), _, rfl, c.r, _, 2, 2, rfl, rfl, row1, rfl, ?_⟩
        have b := fmod_lt (a := x * 48271 + c.ns[n] + 11) (show (0 : Int) < 2147483647 by decide)
        refine ⟨_, rfl, _, _, rfl, rfl, ⟨by decide, by decide, by decide⟩, _, _, rfl, rfl, _, rfl, ?_⟩
        refine ite2 (fun _ => ?_) (fun _ => ?_)
        · refine ⟨_, rfl, _, rfl, _, _, rfl, rfl, hd, _, rfl, c.r, _, 3, 3, rfl, rfl, upd_same, rfl, ?_⟩
          refine ⟨_, rfl, _, rfl, _, _, rfl, rfl, hz, ?_⟩
          exact fin (n + 1) _ _ _ _ (by omega) b.1 b.2 upd_same (fun b hb => by rw [upd_ne hb, upd_ne hb, upd_ne hb]) (fmod_lt hm).1 (fmod_lt hm).2
        · refine ⟨_, rfl, _, rfl, _, _, rfl, rfl, hz, ?_⟩
          exact fin (n + 1) _ k _ _ (by omega) b.1 b.2 upd_same (fun b hb => by rw [upd_ne hb, upd_ne hb]) (fmod_lt hm).1 (fmod_lt hm).2
end

/-! ### _law_alike, by the depth of what is compared: of one and the same datum it is true -/
/-- data of this depth at most, of no great lists -/
inductive Al : Nat → D → Prop
  | non {n : Nat} : Al n .none
  | bool {n : Nat} (b : Bool) : Al n (.bool b)
  | int {n : Nat} (i : Int) : Al n (.int i)
  | str {n : Nat} (x : Str) : SeqAt.shaped (PyData.str x) = true → Al n (.str x)
  | lst {n : Nat} {xs : List D} : xs.length ≤ 1000000 → (∀ x ∈ xs, Al n x) → Al (n + 1) (.list xs)
  | tup {n : Nat} {xs : List D} : xs.length ≤ 1000000 → (∀ x ∈ xs, Al n x) → Al (n + 1) (.tuple xs)
def f_alike : Nat → Fd
  | 0 => fun _ _ => False
  | n + 1 => fun ds R => ∃ d, ds = [d, d] ∧ Al n d ∧ R (.bool true)
theorem len_alike (n : Nat) : ∀ ds R, f_alike n ds R → ds.length = 2 := by
  cases n with
  | zero => intro ds R h; exact h.elim
  | succ n => rintro ds R ⟨d, rfl, _⟩; rfl
def f_law_alike : Fd := f_alike 5
theorem len_law_alike : ∀ ds R, f_law_alike ds R → ds.length = 2 := len_alike 5
@[simp] theorem law_alike_iff {x y : D} {R : D → Prop} : f_law_alike [x, y] R ↔ x = y ∧ Al 4 y ∧ R (.bool true) := by
  constructor
  · rintro ⟨d, e, h⟩; simp at e; obtain ⟨rfl, rfl⟩ := e; exact ⟨rfl, h⟩
  · rintro ⟨rfl, h⟩; exact ⟨_, rfl, h⟩
theorem Al.ints {n : Nat} {l : List Int} (h : l.length ≤ 1000000) : Al (n + 1) (intsD l) := .tup (by simpa using h) fun x hx => by
  obtain ⟨i, _, rfl⟩ := List.mem_map.mp hx
  exact .int i
theorem Al.intsL {n : Nat} {l : List Int} (h : l.length ≤ 1000000) : Al (n + 1) (.list (l.map PyData.int)) := .lst (by simpa using h) fun x hx => by
  obtain ⟨i, _, rfl⟩ := List.mem_map.mp hx
  exact .int i
def W_law_alike (fa : Fd) : WS := (dSeq (dIfS (bOr (bTru (dIsi "tuple" (dVar 1))) (bTru (dIsi "list" (dVar 1)))) (dSeq (dIfS (bOr (bB (dOp rdNe (dIsi "tuple" (dVar 0)) (dIsi "tuple" (dVar 1)))) (bNot (bTru (dIsi2 "tuple" "list" (dVar 0))))) (dRet (dC (.bool false))) dNext) (dSeq (dIfS (bB (dOp rdNe (dCall rdLen (aCons (dVar 0) aNil)) (dCall rdLen (aCons (dVar 1) aNil)))) (dRet (dC (.bool false))) dNext) (dRet (dOp rdEq (dN (dLcW (iR1 (aCons (dCall rdLen (aCons (dVar 1) aNil)) aNil)) (tgN 2) (bNot (bTru (dCall fa (aCons (dOp rdIx (dVar 0) (dVar 2)) (aCons (dOp rdIx (dVar 1) (dVar 2)) aNil))))) (dVar 2) [2])) (dLst aNil))))) dNext) (dSeq (dIfS (bOr (bB (dIsN (dVar 1))) (bB (dIsN (dVar 0)))) (dRet (dAnd (dIsN (dVar 1)) (dIsN (dVar 0)))) dNext) (dSeq (dIfS (bOr (bTru (dIsi "bool" (dVar 1))) (bTru (dIsi "bool" (dVar 0)))) (dRet (dAnd (dIsi "bool" (dVar 1)) (dAnd (dIsi "bool" (dVar 0)) (dOp rdEq (dVar 0) (dVar 1))))) dNext) (dSeq (dIfS (bTru (dIsi "str" (dVar 1))) (dRet (dAnd (dIsi "str" (dVar 0)) (dOp rdEq (dVar 0) (dVar 1)))) dNext) (dRet (dAnd (dIsi "int" (dVar 0)) (dOp rdEq (dVar 0) (dVar 1))))))))
def N_law_alike : List Str := ["_law_found", "_law_due", "_law_k"]
theorem sc_law_alike : FnScope ["_law_found", "_law_due", "_law_k"] ["_law_found", "_law_due"] (defScope s_law_alike) := ⟨rfl, rfl, rfl, by decide +kernel, rfl, by decide +kernel, by decide +kernel⟩
theorem alike_items {n : Nat} (xs : List D) (hx : ∀ x ∈ xs, Al n x) {g : D → (Sg → Prop) → Prop} {wt : WT} {we : W} {R : List D → Prop} (hg : ∀ (i : Nat) x, xs[i]? = some x → ∀ K : Option D → Prop, K none → g (.int (0 + (i : Nat))) fun e' => wt e' fun b => if b = true then we e' fun y => y ≠ .dict [] ∧ K (some y) else K none) (r : R []) :
    lcRun g wt we R (rngD 0 xs.length) [] := by
  refine lcRun_det (fun _ => none) _ _ (fun d hd K k => ?_) ?_
  · unfold rngD at hd
    obtain ⟨i, hi, rfl⟩ := List.mem_map.mp hd
    have hi' := List.mem_range.mp hi
    exact hg i _ (List.getElem?_eq_getElem hi') K k
  · rw [List.nil_append, filterMap_nothing]; exact r
theorem pure_law_alike (n : Nat) : ∀ ds R, f_alike (n + 1) ds R → W_law_alike (f_alike n) { nx := fun _ => R .none, rt := R } (startD ["_law_found", "_law_due", "_law_k"] ds) := by
  rintro ds R ⟨d, rfl, hd, h⟩
  cases hd with
  | non => simp [W_law_alike, tyN, isN, isNone, h]
  | bool b => simp [W_law_alike, tyN, isN, isNone, h]
  | int i => simp [W_law_alike, tyN, isN, isNone, h]
  | str x hs =>
    have e : PyData.eqv (.str x) (.str x) = true := by
      show (x == x) = true
      simp
    simp [W_law_alike, tyN, isN, isNone, h, hs, e]
  | @lst m xs hl hx =>
    simp [W_law_alike, tyN, isN, isNone]
    refine ⟨by omega, by omega, alike_items xs hx (fun i x hi K k => ?_) (by simpa using h)⟩
    have e := atI_z hi
    simp only [Int.zero_add] at e
    simp [e]
    exact ⟨x, rfl, hx x (List.mem_of_getElem? hi), by simpa using k⟩
  | @tup m xs hl hx =>
    simp [W_law_alike, tyN, isN, isNone]
    refine ⟨by omega, by omega, alike_items xs hx (fun i x hi K k => ?_) (by simpa using h)⟩
    have e := atI_z hi
    simp only [Int.zero_add] at e
    simp [e]
    exact ⟨x, rfl, hx x (List.mem_of_getElem? hi), by simpa using k⟩
section
variable {P : Program} {w : World} {g : Glb} {mg : Str → Option Value} {base : Heap}
theorem step_law_alike {f : Addr} {fd : FuncData} {k : Nat} {fa fb : Fd} (F : FunP g.K "_law_alike" s_law_alike f fd) (mgf : mg "_law_alike" = some (.ref f)) (T : Txt mg) (hlen : ∀ ds R, fb ds R → ds.length = 2) (C_law_alike : C8.Cal P w g.K mg base k "_law_alike" (spD g fa) [])
    (pure_ : ∀ ds R, fb ds R → W_law_alike fa { nx := fun _ => R .none, rt := R } (startD ["_law_found", "_law_due", "_law_k"] ds)) : C8.Cal P w g.K mg base (k + 1) "_law_alike" (spD g fb) [] :=
  calD (N := ["_law_found", "_law_due", "_law_k"]) (ps := ["_law_found", "_law_due"]) (k := k) (wb := W_law_alike fa) F mgf (F.bindsN fun _ _ _ _ _ _ us hl => match us, hl with | [_, _], _ => rfl) sc_law_alike hlen (fun cdv A outer s H E r a ns hr =>
    (pssd_cons (ps_w (ps_if (PW.pt (pw_w (pw_or (pt_w (pt_truth (pe_w (pe_callB call_isi (by rfl) T.m_isinstance (by decide +kernel) (pa_cons (pe_w (pv 1) xd_var) (pa_cons (pe_bltn (v := .ty "tuple") (by rfl) T.m_tuple (by decide +kernel) rfl) pa_nil))) (xd_isi (by decide))) (by intro _; rfl)) xt_tru) (pw_or1 (pt_w (pt_truth (pe_w (pe_callB call_isi (by rfl) T.m_isinstance (by decide +kernel) (pa_cons (pe_w (pv 1) xd_var) (pa_cons (pe_bltn (v := .ty "list") (by rfl) T.m_list (by decide +kernel) rfl) pa_nil))) (xd_isi (by decide))) (by intro _; rfl)) xt_tru))) xt_or)) (pssd_cons (ps_w (ps_if (PW.pt (pw_w (pw_or (pt_w (pt_cmpR (op_neD hr.units) (pe_w (pe_callB call_isi (by rfl) T.m_isinstance (by decide +kernel) (pa_cons (pe_w (pv 0) xd_var) (pa_cons (pe_bltn (v := .ty "tuple") (by rfl) T.m_tuple (by decide +kernel) rfl) pa_nil))) (xd_isi (by decide))) (pe_w (pe_callB call_isi (by rfl) T.m_isinstance (by decide +kernel) (pa_cons (pe_w (pv 1) xd_var) (pa_cons (pe_bltn (v := .ty "tuple") (by rfl) T.m_tuple (by decide +kernel) rfl) pa_nil))) (xd_isi (by decide))) (nomark _)) (xt_cmp od_ne)) (pw_or1 (pt_w (pt_not (pt_w (pt_truth (pe_w (pe_callB call_isiT (by rfl) T.m_isinstance (by decide +kernel) (pa_cons (pe_w (pv 0) xd_var) (pa_cons (pe_tup (pa_cons (pe_bltn (v := .ty "tuple") (by rfl) T.m_tuple (by decide +kernel) rfl) (pa_cons (pe_bltn (v := .ty "list") (by rfl) T.m_list (by decide +kernel) rfl) pa_nil))) pa_nil))) (xd_isi2 (by decide) (by decide))) (by intro _; rfl)) xt_tru)) xt_not))) xt_or)) (pssd_one (ps_w (ps_ret (pe_w pe_bl (xd_c fun _ => .bl))) xs_ret)) pssd_nil) xs_if) (pssd_cons (ps_w (ps_if (pt_w (pt_cmpR (op_neD hr.units) (pe_w (pe_callB call_len_seq (by rfl) T.m_len PySem.boot_len (pa_w (pa_cons (pe_w (pv 0) xd_var) (pa_w pa_nil xa_nil)) xa_cons)) (xd_cb cd_len)) (pe_w (pe_callB call_len_seq (by rfl) T.m_len PySem.boot_len (pa_w (pa_cons (pe_w (pv 1) xd_var) (pa_w pa_nil xa_nil)) xa_cons)) (xd_cb cd_len)) (nomark _)) (xt_cmp od_ne)) (pssd_one (ps_w (ps_ret (pe_w pe_bl (xd_c fun _ => .bl))) xs_ret)) pssd_nil) xs_if) (pssd_one (ps_w (ps_ret (pe_w (pe_cmpR (op_eqD hr.units) (pe_w (pe_w (pe_lc (own := [("_law_k", 2)]) (g := gName 2) rfl sc_law_alike.nd (pi_w (pi_range1 (by rfl) T.m_range (pa_w (pa_cons (pe_w (pe_callB call_len_seq (by rfl) T.m_len PySem.boot_len (pa_w (pa_cons (pe_w (pv 1) xd_var) (pa_w pa_nil xa_nil)) xa_cons)) (xd_cb cd_len)) (pa_w pa_nil xa_nil)) xa_cons)) xi_rng1) (blkOk_by (own := [("_law_k", 2)]) (N := ["_law_found", "_law_due", "_law_k"]) (sc := (defScope s_law_alike)) (by decide +kernel)) (fun _ _ _ _ _ => (pg_name (i := 2) sc_law_alike.nd rfl (.inl rfl))) (fun _ _ _ _ _ => (pts_one (pt_w (pt_not (pt_w (pt_truth (pe_w (C8.pe_c C_law_alike hr (Nat.le_refl _) (by rfl) (pa_w (pa_cons (pe_w (pe_ix ix_lt (pe_w (pv 0) xd_var) (pe_w (pv 2) xd_var) (fun _ _ => rfl)) (xd_op od_ixL)) (pa_w (pa_cons (pe_w (pe_ix ix_lt (pe_w (pv 1) xd_var) (pe_w (pv 2) xd_var) (fun _ _ => rfl)) (xd_op od_ixL)) (pa_w pa_nil xa_nil)) xa_cons)) xa_cons)) xd_call) (by intro _; rfl)) xt_tru)) xt_not))) (fun _ _ _ _ _ => (pe_w (pv 2) xd_var))) (xn_lc gd_name stores_name)) xd_N) (pe_w (pe_lst (pa_w pa_nil xa_nil)) xd_lst) (nomark _)) (xd_op od_eq))) xs_ret)))) pssd_nil) xs_if) (pssd_cons (ps_w (ps_if (PW.pt (pw_w (pw_or (pt_w (pt_cmp (pc_isN (pe_w (pv 1) xd_var))) xt_isN) (pw_or1 (pt_w (pt_cmp (pc_isN (pe_w (pv 0) xd_var))) xt_isN))) xt_or)) (pssd_one (ps_w (ps_ret (pe_w (pe_and (pe_w (pe_cmp (pc_isN (pe_w (pv 1) xd_var))) xd_isN) (pe_one (pe_w (pe_cmp (pc_isN (pe_w (pv 0) xd_var))) xd_isN))) xd_and)) xs_ret)) pssd_nil) xs_if) (pssd_cons (ps_w (ps_if (PW.pt (pw_w (pw_or (pt_w (pt_truth (pe_w (pe_callB call_isi (by rfl) T.m_isinstance (by decide +kernel) (pa_cons (pe_w (pv 1) xd_var) (pa_cons (pe_bltn (v := .ty "bool") (by rfl) T.m_bool (by decide +kernel) rfl) pa_nil))) (xd_isi (by decide))) (by intro _; rfl)) xt_tru) (pw_or1 (pt_w (pt_truth (pe_w (pe_callB call_isi (by rfl) T.m_isinstance (by decide +kernel) (pa_cons (pe_w (pv 0) xd_var) (pa_cons (pe_bltn (v := .ty "bool") (by rfl) T.m_bool (by decide +kernel) rfl) pa_nil))) (xd_isi (by decide))) (by intro _; rfl)) xt_tru))) xt_or)) (pssd_one (ps_w (ps_ret (pe_w (pe_and (pe_w (pe_callB call_isi (by rfl) T.m_isinstance (by decide +kernel) (pa_cons (pe_w (pv 1) xd_var) (pa_cons (pe_bltn (v := .ty "bool") (by rfl) T.m_bool (by decide +kernel) rfl) pa_nil))) (xd_isi (by decide))) (pe_w (pe_and (pe_w (pe_callB call_isi (by rfl) T.m_isinstance (by decide +kernel) (pa_cons (pe_w (pv 0) xd_var) (pa_cons (pe_bltn (v := .ty "bool") (by rfl) T.m_bool (by decide +kernel) rfl) pa_nil))) (xd_isi (by decide))) (pe_one (pe_w (pe_cmpR (op_eqD hr.units) (pe_w (pv 0) xd_var) (pe_w (pv 1) xd_var) (nomark _)) (xd_op od_eq)))) xd_and)) xd_and)) xs_ret)) pssd_nil) xs_if) (pssd_cons (ps_w (ps_if (pt_w (pt_truth (pe_w (pe_callB call_isi (by rfl) T.m_isinstance (by decide +kernel) (pa_cons (pe_w (pv 1) xd_var) (pa_cons (pe_bltn (v := .ty "str") (by rfl) T.m_str (by decide +kernel) rfl) pa_nil))) (xd_isi (by decide))) (by intro _; rfl)) xt_tru) (pssd_one (ps_w (ps_ret (pe_w (pe_and (pe_w (pe_callB call_isi (by rfl) T.m_isinstance (by decide +kernel) (pa_cons (pe_w (pv 0) xd_var) (pa_cons (pe_bltn (v := .ty "str") (by rfl) T.m_str (by decide +kernel) rfl) pa_nil))) (xd_isi (by decide))) (pe_one (pe_w (pe_cmpR (op_eqD hr.units) (pe_w (pv 0) xd_var) (pe_w (pv 1) xd_var) (nomark _)) (xd_op od_eq)))) xd_and)) xs_ret)) pssd_nil) xs_if) (pssd_one (ps_w (ps_ret (pe_w (pe_and (pe_w (pe_callB call_isi (by rfl) T.m_isinstance (by decide +kernel) (pa_cons (pe_w (pv 0) xd_var) (pa_cons (pe_bltn (v := .ty "int") (by rfl) T.m_int (by decide +kernel) rfl) pa_nil))) (xd_isi (by decide))) (pe_one (pe_w (pe_cmpR (op_eqD hr.units) (pe_w (pv 0) xd_var) (pe_w (pv 1) xd_var) (nomark _)) (xd_op od_eq)))) xd_and)) xs_ret))))))) pure_
theorem cal_none {x : Str} {st : Stmt} {f : Addr} {fd : FuncData} {ps : List Str} (F : FunP g.K x st f fd) (mgf : mg x = some (.ref f)) (b : Binds g.K fd ps []) : C8.Cal P w g.K mg base 0 x (spD g fun _ _ => False) [] :=
  ⟨f, fd, ps, [], ⟨fun vs H Q E ⟨_, _, _, _, _, _, _, h, _⟩ => h.elim, fun A outer s H args us vs Q E _ _ _ _ ⟨_, _, _, _, _, _, _, h, _⟩ => h.elim⟩, mgf, F.kp, b, .nil⟩
theorem alike_at {f : Addr} {fd : FuncData} (F : FunP g.K "_law_alike" s_law_alike f fd) (mgf : mg "_law_alike" = some (.ref f)) (T : Txt mg) : ∀ n : Nat, C8.Cal P w g.K mg base n "_law_alike" (spD g (f_alike n)) []
  | 0 => cal_none F mgf (F.bindsN (ps := ["_law_found", "_law_due"]) fun _ _ _ _ _ _ us hl => match us, hl with | [_, _], _ => rfl)
  | n + 1 => step_law_alike F mgf T (len_alike (n + 1)) (alike_at F mgf T n) (pure_law_alike n)
theorem ok_law_alike {f : Addr} {fd : FuncData} (F : FunP g.K "_law_alike" s_law_alike f fd) (mgf : mg "_law_alike" = some (.ref f)) (T : Txt mg) : C8.Cal P w g.K mg base 5 "_law_alike" (spD g f_law_alike) [] := alike_at F mgf T 5
end

/-! ### _law_neck -/
def f_law_neck : Fd := fun ds R => ∃ most : Int, ds = [.dict [], .int most] ∧ 1 ≤ most ∧ most ≤ 6 ∧ ∀ t f c, OkNeck t f c → (t.length : Int) ≤ most → R (neckD t f c)
theorem len_law_neck : ∀ ds R, f_law_neck ds R → ds.length = 2 := by
  rintro ds R ⟨m, rfl, _⟩; rfl
@[simp] theorem law_neck_iff {most : Int} {R : D → Prop} : f_law_neck [.dict [], .int most] R ↔ 1 ≤ most ∧ most ≤ 6 ∧ ∀ t f c, OkNeck t f c → (t.length : Int) ≤ most → R (neckD t f c) := by
  constructor
  · rintro ⟨m, e, h⟩; simp at e; rw [e]; exact h
  · intro h; exact ⟨_, rfl, h⟩
def W_law_neck : WS := (dSeq (dAsg 2 (dCall f_law_taken (aCons (dVar 0) (aCons (dC (.int 40)) aNil)))) (dSeq (dOwn 3 (nLst (aCons (dVar 2) aNil))) (dSeq (dFor (iR1 (aCons (dCall f_law_taken (aCons (dVar 0) (aCons (dVar 1) aNil))) aNil)) (tgN 4) (dApp 3 (dCall rdMin2 (aCons (dC (.int 60)) (aCons (dCall rdMax2 (aCons (dC (.int 0)) (aCons (dOp rdAdd (dOwnIx 3 (dNeg (dC (.int 1)))) (dOp rdIx (dLst (aCons (dC (.int 5)) (aCons (dC (.int 4)) (aCons (dC (.int 7)) (aCons (dC (.int 0)) (aCons (dOp rdSub (dCall f_law_taken (aCons (dVar 0) (aCons (dC (.int 14)) aNil))) (dC (.int 5))) aNil)))))) (dCall f_law_taken (aCons (dVar 0) (aCons (dC (.int 5)) aNil))))) aNil))) aNil))))) (dFrz 3 (dSeq (dIfS (bB (dOp rdEq (dCall f_law_taken (aCons (dVar 0) (aCons (dC (.int 6)) aNil))) (dC (.int 5)))) (dAsg 3 (dN (dLcW (iLst (dVar 3)) (tgN 7) (fun _ R => R true) (dCall f_law_taken (aCons (dVar 0) (aCons (dC (.int 61)) aNil))) [7]))) dNext) (dSeq (dAsg 5 (dOp rdIx (dLst (aCons (dC (.int 12)) (aCons (dC (.int 5)) (aCons (dC (.int 7)) (aCons (dCall f_law_taken (aCons (dVar 0) (aCons (dC (.int 21)) aNil))) aNil))))) (dCall f_law_taken (aCons (dVar 0) (aCons (dC (.int 4)) aNil))))) (dSeq (dAsg 6 (dOp rdIx (dLst (aCons (dC (.int 0)) (aCons (dC (.int 0)) (aCons (dCall f_law_taken (aCons (dVar 0) (aCons (dOp rdAdd (dVar 5) (dC (.int 1))) aNil))) aNil)))) (dCall f_law_taken (aCons (dVar 0) (aCons (dC (.int 3)) aNil))))) (dRet (dTup (aCons (dCall rdTuple (aCons (dVar 3) aNil)) (aCons (dVar 5) (aCons (dVar 6) aNil))))))))))))
def N_law_neck : List Str := ["_law_row", "_law_most", "_law_begin", "_law_tuning", "_law_k", "_law_frets", "_law_capo", "_law_note"]
theorem sc_law_neck : FnScope ["_law_row", "_law_most", "_law_begin", "_law_tuning", "_law_k", "_law_frets", "_law_capo", "_law_note"] ["_law_row", "_law_most"] (defScope s_law_neck) := ⟨rfl, rfl, rfl, by decide +kernel, rfl, by decide +kernel, by decide +kernel⟩
theorem neck_end {R : D → Prop} {most : Int} {a b c0 d0 e0 u7 : Sl} {l : List Int} (hl : 1 ≤ l.length) (hl6 : (l.length : Int) ≤ most) (h6 : most ≤ 6) (hn : ∀ y ∈ l, 0 ≤ y ∧ y ≤ 60) (hR : ∀ t f c, OkNeck t f c → (t.length : Int) ≤ most → R (neckD t f c)) :
    dSeq (dAsg 5 (dOp rdIx (dLst (aCons (dC (.int 12)) (aCons (dC (.int 5)) (aCons (dC (.int 7)) (aCons (dCall f_law_taken (aCons (dVar 0) (aCons (dC (.int 21)) aNil))) aNil))))) (dCall f_law_taken (aCons (dVar 0) (aCons (dC (.int 4)) aNil)))))
      (dSeq (dAsg 6 (dOp rdIx (dLst (aCons (dC (.int 0)) (aCons (dC (.int 0)) (aCons (dCall f_law_taken (aCons (dVar 0) (aCons (dOp rdAdd (dVar 5) (dC (.int 1))) aNil))) aNil)))) (dCall f_law_taken (aCons (dVar 0) (aCons (dC (.int 3)) aNil)))))
        (dRet (dTup (aCons (dCall rdTuple (aCons (dVar 3) aNil)) (aCons (dVar 5) (aCons (dVar 6) aNil)))))) { nx := fun _ => R .none, rt := R } [.val (.dict []), a, b, .val (.list (l.map PyData.int)), c0, d0, e0, u7] := by
  simp
  intro f0 hf0 hf1 i hi0 hi1
  obtain ⟨d, e, hd⟩ := atI_in (l := [PyData.int 12, PyData.int 5, PyData.int 7, PyData.int f0]) hi0 (by simpa using hi1)
  obtain ⟨f, rfl, g0, g1⟩ : ∃ f : Int, d = .int f ∧ 0 ≤ f ∧ f ≤ 20 := by
    simp at hd
    rcases hd with rfl | rfl | rfl | rfl
    · exact ⟨12, rfl, by omega, by omega⟩
    · exact ⟨5, rfl, by omega, by omega⟩
    · exact ⟨7, rfl, by omega, by omega⟩
    · exact ⟨f0, rfl, by omega, by omega⟩
  refine ⟨_, e, ?_⟩
  simp
  refine ⟨by omega, by omega, ?_⟩
  intro c1 hc0 hc1 j hj0 hj1
  obtain ⟨d, e, hd⟩ := atI_in (l := [PyData.int 0, PyData.int 0, PyData.int c1]) hj0 (by simpa using hj1)
  obtain ⟨c, rfl, k0, k1⟩ : ∃ c : Int, d = .int c ∧ 0 ≤ c ∧ c ≤ f := by
    simp at hd
    rcases hd with rfl | rfl
    · exact ⟨0, rfl, by omega, by omega⟩
    · exact ⟨c1, rfl, by omega, by omega⟩
  refine ⟨_, e, ?_⟩
  simp
  exact hR l f c ⟨hl, by omega, hn, g0, g1, k0, k1⟩ hl6
theorem pure_law_neck : ∀ ds R, f_law_neck ds R → W_law_neck { nx := fun _ => R .none, rt := R } (startD ["_law_row", "_law_most", "_law_begin", "_law_tuning", "_law_k", "_law_frets", "_law_capo", "_law_note"] ds) := by
  rintro ds R ⟨most, rfl, h1, h6, hR⟩
  simp [W_law_neck]
  intro v hv0 hv1
  refine ⟨by omega, by omega, ?_⟩
  intro n hn0 hn1
  refine ⟨by omega, by omega, ?_⟩
  refine forRun_inv (fun ds e => ∃ (l : List Int) (z : Int) (x : Sl), (∀ y ∈ l ++ [z], 0 ≤ y ∧ y ≤ 60) ∧ l.length + ds.length = n.toNat ∧ e = [Sl.val (.dict []), .val (.int most), .val (.int v), .own ((l ++ [z]).map PyData.int), x, .un, .un, .un]) ?_ ?_ _ _ ⟨[], v, .un, by simp; omega, by simp, rfl⟩
  · rintro d ds e ⟨l, z, x, hz, hl, rfl⟩ k
    simp
    refine ⟨_, atI_last _ _, ?_⟩
    simp
    intro w hw0 hw1 i hi0 hi1
    obtain ⟨d5, e5, hd⟩ := atI_in (l := [PyData.int 5, PyData.int 4, PyData.int 7, PyData.int 0, PyData.int (w - 5)]) hi0 (by simpa using hi1)
    obtain ⟨s, rfl⟩ : ∃ s : Int, d5 = .int s := by
      simp at hd
      rcases hd with rfl | rfl | rfl | rfl | rfl <;> exact ⟨_, rfl⟩
    refine ⟨_, e5, ?_⟩
    simp
    refine ⟨by simp at hl; omega, ?_⟩
    have hb : ∀ q : Int, 0 ≤ (if (if q > 0 then q else 0) < 60 then (if q > 0 then q else 0) else 60) ∧ (if (if q > 0 then q else 0) < 60 then (if q > 0 then q else 0) else 60) ≤ 60 := fun q => by split <;> split <;> omega
    have := k _ ⟨l ++ [z], (if (if z + s > 0 then z + s else 0) < 60 then (if z + s > 0 then z + s else 0) else 60), .val d, fun y hy => ?_, by simp at hl ⊢; omega, rfl⟩
    · simpa using this
    · rcases List.mem_append.mp hy with h | h
      · exact hz y h
      · rw [List.mem_singleton.mp h]
        exact hb (z + s)
  · rintro e ⟨l, z, x, hz, hl, rfl⟩
    simp only [rd, dFrz, List.getElem?_cons_succ, List.getElem?_cons_zero, Option.some.injEq, Sl.ownO.injEq, true_and, exists_eq_left', List.set_cons_succ, List.set_cons_zero]
    have len1 : ((l ++ [z]).length : Int) ≤ most := by simp at hl ⊢; omega
    show dIfS _ _ _ _ _
    simp only [dIfS, bB, dOp, dCall, aCons, aNil, dVar, rd, dC, List.getElem?_cons_succ, List.getElem?_cons_zero, Option.some.injEq, Sl.val.injEq, exists_eq_left', taken_iff]
    refine ⟨by omega, by omega, fun q hq0 hq1 => ?_⟩
    refine ⟨by simp, by simp, by simp, by simp, _, rfl, ?_⟩
    rw [eqv_int]
    by_cases h5 : q = 5
    · rw [if_pos (by simpa using h5)]
      simp only [dAsg, dN, dLcW, iLst, dVar, rd, List.getElem?_cons_succ, List.getElem?_cons_zero, Option.some.injEq, Sl.val.injEq, exists_eq_left', PyData.list.injEq, List.length_map]
      refine ⟨by omega, lcRun_each (fun d => ∃ i : Int, d = .int i ∧ 0 ≤ i ∧ i ≤ 60) _ _ (fun d hd K k => ?_) fun zs hzl hzs => ?_⟩
      · simp
        intro u hu0 hu1
        exact k _ ⟨u, rfl, by omega, by omega⟩
      · obtain ⟨m, rfl, hm⟩ : ∃ m : List Int, zs = m.map PyData.int ∧ ∀ y ∈ m, 0 ≤ y ∧ y ≤ 60 := by
          clear hzl
          induction zs with
          | nil => exact ⟨[], rfl, by simp⟩
          | cons a zs ih =>
            obtain ⟨m, e, hm⟩ := ih fun z hz => hzs z (List.mem_cons_of_mem _ hz)
            obtain ⟨i, rfl, hi⟩ := hzs a List.mem_cons_self
            exact ⟨i :: m, by rw [e]; rfl, fun y hy => by
              rcases List.mem_cons.mp hy with h | h
              · rw [h]; exact hi
              · exact hm y h⟩
        rw [List.length_map] at hzl
        exact neck_end (by rw [hzl]; simp) (by rw [hzl]; simpa using len1) h6 hm hR
    · rw [if_neg (by simpa using h5)]
      exact neck_end (by simp) len1 h6 hz hR
section
variable {P : Program} {w : World} {g : Glb} {mg : Str → Option Value} {base : Heap}
theorem ok_law_neck {f : Addr} {fd : FuncData} (F : FunP g.K "_law_neck" s_law_neck f fd) (mgf : mg "_law_neck" = some (.ref f)) (T : Txt mg) (C_law_taken : C8.Cal P w g.K mg base 1 "_law_taken" (spD g f_law_taken) []) : C8.Cal P w g.K mg base 2 "_law_neck" (spD g f_law_neck) [] :=
  calD (N := ["_law_row", "_law_most", "_law_begin", "_law_tuning", "_law_k", "_law_frets", "_law_capo", "_law_note"]) (ps := ["_law_row", "_law_most"]) (k := 1) (wb := W_law_neck) F mgf (F.bindsN fun _ _ _ _ _ _ us hl => match us, hl with | [_, _], _ => rfl) sc_law_neck len_law_neck (fun cdv A outer s H E r a ns hr =>
    (pssd_cons (ps_w (ps_set (i := 2) sc_law_neck.nd rfl (.inl rfl) (pe_w (C8.pe_c C_law_taken hr (by decide) (by rfl) (pa_w (pa_cons (pe_w (pv 0) xd_var) (pa_w (pa_cons (pe_w pe_int (xd_c fun _ => .int)) (pa_w pa_nil xa_nil)) xa_cons)) xa_cons)) xd_call)) xs_asg) (pssd_cons (ps_w (ps_set (i := 3) sc_law_neck.nd rfl (.inl rfl) (pe_w (pe_lst (pa_w (pa_cons (pe_w (pv 2) xd_var) (pa_w pa_nil xa_nil)) xa_cons)) xn_lst)) xs_own) (pssd_cons (ps_w (ps_for (g := gName 4) PassesOwn.never rfl (pi_w (pi_range1 (by rfl) T.m_range (pa_w (pa_cons (pe_w (C8.pe_c C_law_taken hr (by decide) (by rfl) (pa_w (pa_cons (pe_w (pv 0) xd_var) (pa_w (pa_cons (pe_w (pv 1) xd_var) (pa_w pa_nil xa_nil)) xa_cons)) xa_cons)) xd_call) (pa_w pa_nil xa_nil)) xa_cons)) xi_rng1) (pg_name (i := 4) sc_law_neck.nd rfl (.inl rfl)) (pssd_one (ps_w (ps_expr (pe_bm PySem.F.plainAttrs_list PySem.F.slot_list_append PySem.F.type_list_append mt_append (pv 3) (pa_cons (pe_w (pe_callB (call_min2 (by rfl)) (by rfl) T.m_min (by decide +kernel) (pa_w (pa_cons (pe_w pe_int (xd_c fun _ => .int)) (pa_w (pa_cons (pe_w (pe_callB (call_max2 (by rfl)) (by rfl) T.m_max (by decide +kernel) (pa_w (pa_cons (pe_w pe_int (xd_c fun _ => .int)) (pa_w (pa_cons (pe_w (pe_op op_add (pe_w (pe_ix ix_lt (pv 3) (pe_w (pe_un un_neg (pe_w pe_int (xd_c fun _ => .int))) xd_neg) (fun _ _ => rfl)) xd_ownIx) (pe_w (pe_ix ix_lt (pe_w (pe_lst (pa_w (pa_cons (pe_w pe_int (xd_c fun _ => .int)) (pa_w (pa_cons (pe_w pe_int (xd_c fun _ => .int)) (pa_w (pa_cons (pe_w pe_int (xd_c fun _ => .int)) (pa_w (pa_cons (pe_w pe_int (xd_c fun _ => .int)) (pa_w (pa_cons (pe_w (pe_op op_sub (pe_w (C8.pe_c C_law_taken hr (by decide) (by rfl) (pa_w (pa_cons (pe_w (pv 0) xd_var) (pa_w (pa_cons (pe_w pe_int (xd_c fun _ => .int)) (pa_w pa_nil xa_nil)) xa_cons)) xa_cons)) xd_call) (pe_w pe_int (xd_c fun _ => .int))) (xd_op od_sub)) (pa_w pa_nil xa_nil)) xa_cons)) xa_cons)) xa_cons)) xa_cons)) xa_cons)) xd_lst) (pe_w (C8.pe_c C_law_taken hr (by decide) (by rfl) (pa_w (pa_cons (pe_w (pv 0) xd_var) (pa_w (pa_cons (pe_w pe_int (xd_c fun _ => .int)) (pa_w pa_nil xa_nil)) xa_cons)) xa_cons)) xd_call) (fun _ _ => rfl)) (xd_op od_ixL))) (xd_op od_add)) (pa_w pa_nil xa_nil)) xa_cons)) xa_cons)) (xd_cb cd_max2)) (pa_w pa_nil xa_nil)) xa_cons)) xa_cons)) (xd_cb cd_min2)) pa_nil))) xs_app))) (xs_for gd_name)) (pss_w (pssd_cons (ps_w (ps_if (pt_w (pt_cmpR (op_eqD hr.units) (pe_w (C8.pe_c C_law_taken hr (by decide) (by rfl) (pa_w (pa_cons (pe_w (pv 0) xd_var) (pa_w (pa_cons (pe_w pe_int (xd_c fun _ => .int)) (pa_w pa_nil xa_nil)) xa_cons)) xa_cons)) xd_call) (pe_w pe_int (xd_c fun _ => .int)) (nomark _)) (xt_cmp od_eq)) (pssd_one (ps_w (ps_setLc (i := 3) (own := [("_law_note", 7)]) (g := gName 7) rfl sc_law_neck.nd rfl rfl (sw_true rfl rfl rfl (by decide +kernel)) (pi_w (pi_list (pe_w (pv 3) xd_var)) xi_list) (blkOk_by (own := [("_law_note", 7)]) (N := ["_law_row", "_law_most", "_law_begin", "_law_tuning", "_law_k", "_law_frets", "_law_capo", "_law_note"]) (sc := (defScope s_law_neck)) (by decide +kernel)) (fun _ _ _ _ _ => (pg_name (i := 7) sc_law_neck.nd rfl (.inl rfl))) (fun _ _ _ _ _ => (pts_w pts_nil xt_yes)) (fun _ _ _ _ _ => (pe_w (C8.pe_c C_law_taken hr (by decide) (by rfl) (pa_w (pa_cons (pe_w (pv 0) xd_var) (pa_w (pa_cons (pe_w pe_int (xd_c fun _ => .int)) (pa_w pa_nil xa_nil)) xa_cons)) xa_cons)) xd_call))) (xs_asgLc gd_name stores_name))) pssd_nil) xs_if) (pssd_cons (ps_w (ps_set (i := 5) sc_law_neck.nd rfl (.inl rfl) (pe_w (pe_ix ix_lt (pe_w (pe_lst (pa_w (pa_cons (pe_w pe_int (xd_c fun _ => .int)) (pa_w (pa_cons (pe_w pe_int (xd_c fun _ => .int)) (pa_w (pa_cons (pe_w pe_int (xd_c fun _ => .int)) (pa_w (pa_cons (pe_w (C8.pe_c C_law_taken hr (by decide) (by rfl) (pa_w (pa_cons (pe_w (pv 0) xd_var) (pa_w (pa_cons (pe_w pe_int (xd_c fun _ => .int)) (pa_w pa_nil xa_nil)) xa_cons)) xa_cons)) xd_call) (pa_w pa_nil xa_nil)) xa_cons)) xa_cons)) xa_cons)) xa_cons)) xd_lst) (pe_w (C8.pe_c C_law_taken hr (by decide) (by rfl) (pa_w (pa_cons (pe_w (pv 0) xd_var) (pa_w (pa_cons (pe_w pe_int (xd_c fun _ => .int)) (pa_w pa_nil xa_nil)) xa_cons)) xa_cons)) xd_call) (fun _ _ => rfl)) (xd_op od_ixL))) xs_asg) (pssd_cons (ps_w (ps_set (i := 6) sc_law_neck.nd rfl (.inl rfl) (pe_w (pe_ix ix_lt (pe_w (pe_lst (pa_w (pa_cons (pe_w pe_int (xd_c fun _ => .int)) (pa_w (pa_cons (pe_w pe_int (xd_c fun _ => .int)) (pa_w (pa_cons (pe_w (C8.pe_c C_law_taken hr (by decide) (by rfl) (pa_w (pa_cons (pe_w (pv 0) xd_var) (pa_w (pa_cons (pe_w (pe_op op_add (pe_w (pv 5) xd_var) (pe_w pe_int (xd_c fun _ => .int))) (xd_op od_add)) (pa_w pa_nil xa_nil)) xa_cons)) xa_cons)) xd_call) (pa_w pa_nil xa_nil)) xa_cons)) xa_cons)) xa_cons)) xd_lst) (pe_w (C8.pe_c C_law_taken hr (by decide) (by rfl) (pa_w (pa_cons (pe_w (pv 0) xd_var) (pa_w (pa_cons (pe_w pe_int (xd_c fun _ => .int)) (pa_w pa_nil xa_nil)) xa_cons)) xa_cons)) xd_call) (fun _ _ => rfl)) (xd_op od_ixL))) xs_asg) (pssd_one (ps_w (ps_ret (pe_w (pe_tup (pa_w (pa_cons (pe_w (pe_callTy call_tuple_of (by rfl) T.m_tuple (by decide +kernel) (pa_w (pa_cons (pe_w (pv 3) xd_var) (pa_w pa_nil xa_nil)) xa_cons)) (xd_cb cd_tuple)) (pa_w (pa_cons (pe_w (pv 5) xd_var) (pa_w (pa_cons (pe_w (pv 6) xd_var) (pa_w pa_nil xa_nil)) xa_cons)) xa_cons)) xa_cons)) xd_tup)) xs_ret))))) xs_frz))))) pure_law_neck
end

/-! ### _law_shape -/
def f_law_shape : Fd := fun ds R => ∃ t f c, ds = [.dict [], neckD t f c] ∧ OkNeck t f c ∧ ∀ s, OkShape t f c s → R (intsD s)
theorem len_law_shape : ∀ ds R, f_law_shape ds R → ds.length = 2 := by
  rintro ds R ⟨t, f, c, rfl, _⟩; rfl
@[simp] theorem law_shape_iff {t : List Int} {f c : Int} {R : D → Prop} : f_law_shape [.dict [], neckD t f c] R ↔ OkNeck t f c ∧ ∀ s, OkShape t f c s → R (intsD s) := by
  constructor
  · rintro ⟨t', f', c', e, h⟩; simp at e; obtain ⟨rfl, rfl, rfl⟩ := e; exact h
  · intro h; exact ⟨_, _, _, rfl, h⟩
def W_law_shape : WS := (dSeq (dAsg 2 (dOp rdAdd (dOp rdIx (dVar 1) (dC (.int 2))) (dCall f_law_taken (aCons (dVar 0) (aCons (dOp rdAdd (dOp rdSub (dOp rdIx (dVar 1) (dC (.int 1))) (dOp rdIx (dVar 1) (dC (.int 2)))) (dC (.int 1))) aNil))))) (dSeq (dOwn 3 (nLst aNil)) (dSeq (dFor (iTpl (dOp rdIx (dVar 1) (dC (.int 0)))) (tgN 4) (dSeq (dAsg 5 (dCall rdMin2 (aCons (dOp rdIx (dVar 1) (dC (.int 1))) (aCons (dOp rdAdd (dVar 2) (dCall f_law_taken (aCons (dVar 0) (aCons (dC (.int 4)) aNil)))) aNil)))) (dSeq (dAsg 6 (dOp rdAdd (dOp rdIx (dVar 1) (dC (.int 2))) (dCall f_law_taken (aCons (dVar 0) (aCons (dOp rdAdd (dOp rdSub (dOp rdIx (dVar 1) (dC (.int 1))) (dOp rdIx (dVar 1) (dC (.int 2)))) (dC (.int 1))) aNil))))) (dApp 3 (dOp rdIx (dLst (aCons (dVar 5) (aCons (dVar 5) (aCons (dVar 5) (aCons (dOp rdSub (dC (.int 0)) (dC (.int 1))) (aCons (dOp rdIx (dVar 1) (dC (.int 2))) (aCons (dVar 6) aNil))))))) (dCall f_law_taken (aCons (dVar 0) (aCons (dC (.int 6)) aNil)))))))) (dFrz 3 (dRet (dCall rdTuple (aCons (dVar 3) aNil)))))))
def N_law_shape : List Str := ["_law_row", "_law_neck_here", "_law_low", "_law_found", "_law_note", "_law_near", "_law_any_place"]
theorem sc_law_shape : FnScope ["_law_row", "_law_neck_here", "_law_low", "_law_found", "_law_note", "_law_near", "_law_any_place"] ["_law_row", "_law_neck_here"] (defScope s_law_shape) := ⟨rfl, rfl, rfl, by decide +kernel, rfl, by decide +kernel, by decide +kernel⟩
theorem pure_law_shape : ∀ ds R, f_law_shape ds R → W_law_shape { nx := fun _ => R .none, rt := R } (startD ["_law_row", "_law_neck_here", "_law_low", "_law_found", "_law_note", "_law_near", "_law_any_place"] ds) := by
  rintro ds R ⟨t, f, c, rfl, ok, hR⟩
  obtain ⟨l1, l2, hn, f0, f1, c0, c1⟩ := ok
  simp [W_law_shape, neckD]
  refine ⟨by omega, by omega, fun v hv0 hv1 => ?_⟩
  refine forRun_inv (fun ds e => ∃ (l : List Int) (x y z : Sl), (∀ p ∈ l, p = -1 ∨ (c ≤ p ∧ p ≤ f)) ∧ l.length + ds.length = t.length ∧ e = [Sl.val (.dict []), .val (neckD t f c), .val (.int (c + v)), .own (l.map PyData.int), x, y, z]) ?_ ?_ _ _ ⟨[], .un, .un, .un, by simp, by simp, rfl⟩
  · rintro d ds e ⟨l, x, y, z, hl, hlen, rfl⟩ k
    simp [neckD]
    intro v1 h10 h11
    refine ⟨by omega, by omega, fun v2 h20 h21 v3 h30 h31 => ?_⟩
    generalize hnear : (if c + v + v1 < f then c + v + v1 else f) = near
    have hnear2 : c ≤ near ∧ near ≤ f := by rw [← hnear]; split <;> omega
    obtain ⟨d6, e6, hd⟩ := atI_in (l := [PyData.int near, PyData.int near, PyData.int near, PyData.int (-1), PyData.int c, PyData.int (c + v2)]) h30 (by simpa using h31)
    obtain ⟨p, rfl, hp⟩ : ∃ p : Int, d6 = .int p ∧ (p = -1 ∨ (c ≤ p ∧ p ≤ f)) := by
      simp at hd
      rcases hd with rfl | rfl | rfl | rfl
      · exact ⟨_, rfl, .inr hnear2⟩
      · exact ⟨_, rfl, .inl rfl⟩
      · exact ⟨_, rfl, .inr ⟨by omega, by omega⟩⟩
      · exact ⟨_, rfl, .inr ⟨by omega, by omega⟩⟩
    refine ⟨_, e6, ?_⟩
    simp
    refine ⟨by simp at hlen; omega, ?_⟩
    have := k _ ⟨l ++ [p], .val d, .val (.int near), .val (.int (c + v2)), fun q hq => ?_, by simp at hlen ⊢; omega, rfl⟩
    · simpa [neckD] using this
    · rcases List.mem_append.mp hq with h | h
      · exact hl q h
      · rw [List.mem_singleton.mp h]; exact hp
  · rintro e ⟨l, x, y, z, hl, hlen, rfl⟩
    simp
    exact hR l ⟨by simpa using hlen, hl⟩
section
variable {P : Program} {w : World} {g : Glb} {mg : Str → Option Value} {base : Heap}
theorem ok_law_shape {f : Addr} {fd : FuncData} (F : FunP g.K "_law_shape" s_law_shape f fd) (mgf : mg "_law_shape" = some (.ref f)) (T : Txt mg) (C_law_taken : C8.Cal P w g.K mg base 1 "_law_taken" (spD g f_law_taken) []) : C8.Cal P w g.K mg base 2 "_law_shape" (spD g f_law_shape) [] :=
  calD (N := ["_law_row", "_law_neck_here", "_law_low", "_law_found", "_law_note", "_law_near", "_law_any_place"]) (ps := ["_law_row", "_law_neck_here"]) (k := 1) (wb := W_law_shape) F mgf (F.bindsN fun _ _ _ _ _ _ us hl => match us, hl with | [_, _], _ => rfl) sc_law_shape len_law_shape (fun cdv A outer s H E r a ns hr =>
    (pssd_cons (ps_w (ps_set (i := 2) sc_law_shape.nd rfl (.inl rfl) (pe_w (pe_op op_add (pe_w (pe_ix ix_lt (pe_w (pv 1) xd_var) (pe_w pe_int (xd_c fun _ => .int)) (fun _ _ => rfl)) (xd_op od_ixL)) (pe_w (C8.pe_c C_law_taken hr (by decide) (by rfl) (pa_w (pa_cons (pe_w (pv 0) xd_var) (pa_w (pa_cons (pe_w (pe_op op_add (pe_w (pe_op op_sub (pe_w (pe_ix ix_lt (pe_w (pv 1) xd_var) (pe_w pe_int (xd_c fun _ => .int)) (fun _ _ => rfl)) (xd_op od_ixL)) (pe_w (pe_ix ix_lt (pe_w (pv 1) xd_var) (pe_w pe_int (xd_c fun _ => .int)) (fun _ _ => rfl)) (xd_op od_ixL))) (xd_op od_sub)) (pe_w pe_int (xd_c fun _ => .int))) (xd_op od_add)) (pa_w pa_nil xa_nil)) xa_cons)) xa_cons)) xd_call)) (xd_op od_add))) xs_asg) (pssd_cons (ps_w (ps_set (i := 3) sc_law_shape.nd rfl (.inl rfl) (pe_w (pe_lst (pa_w pa_nil xa_nil)) xn_lst)) xs_own) (pssd_cons (ps_w (ps_for (g := gName 4) PassesOwn.never rfl (pi_w (pi_tup (pe_w (pe_ix ix_lt (pe_w (pv 1) xd_var) (pe_w pe_int (xd_c fun _ => .int)) (fun _ _ => rfl)) (xd_op od_ixL))) xi_tup) (pg_name (i := 4) sc_law_shape.nd rfl (.inl rfl)) (pssd_cons (ps_w (ps_set (i := 5) sc_law_shape.nd rfl (.inl rfl) (pe_w (pe_callB (call_min2 (by rfl)) (by rfl) T.m_min (by decide +kernel) (pa_w (pa_cons (pe_w (pe_ix ix_lt (pe_w (pv 1) xd_var) (pe_w pe_int (xd_c fun _ => .int)) (fun _ _ => rfl)) (xd_op od_ixL)) (pa_w (pa_cons (pe_w (pe_op op_add (pe_w (pv 2) xd_var) (pe_w (C8.pe_c C_law_taken hr (by decide) (by rfl) (pa_w (pa_cons (pe_w (pv 0) xd_var) (pa_w (pa_cons (pe_w pe_int (xd_c fun _ => .int)) (pa_w pa_nil xa_nil)) xa_cons)) xa_cons)) xd_call)) (xd_op od_add)) (pa_w pa_nil xa_nil)) xa_cons)) xa_cons)) (xd_cb cd_min2))) xs_asg) (pssd_cons (ps_w (ps_set (i := 6) sc_law_shape.nd rfl (.inl rfl) (pe_w (pe_op op_add (pe_w (pe_ix ix_lt (pe_w (pv 1) xd_var) (pe_w pe_int (xd_c fun _ => .int)) (fun _ _ => rfl)) (xd_op od_ixL)) (pe_w (C8.pe_c C_law_taken hr (by decide) (by rfl) (pa_w (pa_cons (pe_w (pv 0) xd_var) (pa_w (pa_cons (pe_w (pe_op op_add (pe_w (pe_op op_sub (pe_w (pe_ix ix_lt (pe_w (pv 1) xd_var) (pe_w pe_int (xd_c fun _ => .int)) (fun _ _ => rfl)) (xd_op od_ixL)) (pe_w (pe_ix ix_lt (pe_w (pv 1) xd_var) (pe_w pe_int (xd_c fun _ => .int)) (fun _ _ => rfl)) (xd_op od_ixL))) (xd_op od_sub)) (pe_w pe_int (xd_c fun _ => .int))) (xd_op od_add)) (pa_w pa_nil xa_nil)) xa_cons)) xa_cons)) xd_call)) (xd_op od_add))) xs_asg) (pssd_one (ps_w (ps_expr (pe_bm PySem.F.plainAttrs_list PySem.F.slot_list_append PySem.F.type_list_append mt_append (pv 3) (pa_cons (pe_w (pe_ix ix_lt (pe_w (pe_lst (pa_w (pa_cons (pe_w (pv 5) xd_var) (pa_w (pa_cons (pe_w (pv 5) xd_var) (pa_w (pa_cons (pe_w (pv 5) xd_var) (pa_w (pa_cons (pe_w (pe_op op_sub (pe_w pe_int (xd_c fun _ => .int)) (pe_w pe_int (xd_c fun _ => .int))) (xd_op od_sub)) (pa_w (pa_cons (pe_w (pe_ix ix_lt (pe_w (pv 1) xd_var) (pe_w pe_int (xd_c fun _ => .int)) (fun _ _ => rfl)) (xd_op od_ixL)) (pa_w (pa_cons (pe_w (pv 6) xd_var) (pa_w pa_nil xa_nil)) xa_cons)) xa_cons)) xa_cons)) xa_cons)) xa_cons)) xa_cons)) xd_lst) (pe_w (C8.pe_c C_law_taken hr (by decide) (by rfl) (pa_w (pa_cons (pe_w (pv 0) xd_var) (pa_w (pa_cons (pe_w pe_int (xd_c fun _ => .int)) (pa_w pa_nil xa_nil)) xa_cons)) xa_cons)) xd_call) (fun _ _ => rfl)) (xd_op od_ixL)) pa_nil))) xs_app))))) (xs_for gd_name)) (pss_w (pssd_one (ps_w (ps_ret (pe_w (pe_callTy call_tuple_of (by rfl) T.m_tuple (by decide +kernel) (pa_w (pa_cons (pe_w (pv 3) xd_var) (pa_w pa_nil xa_nil)) xa_cons)) (xd_cb cd_tuple))) xs_ret)) xs_frz))))) pure_law_shape
end

/-! ### a hand -/
def f_law_hand : Fd := fun ds R => ds = [.dict []] ∧ ∀ r g : Int, 0 ≤ r → r ≤ 6 → 0 ≤ g → g ≤ 6 → R (intsD [r, g])
theorem len_law_hand : ∀ ds R, f_law_hand ds R → ds.length = 1 := by
  rintro ds R ⟨rfl, _⟩; rfl
@[simp] theorem law_hand_iff {R : D → Prop} : f_law_hand [.dict []] R ↔ ∀ r g : Int, 0 ≤ r → r ≤ 6 → 0 ≤ g → g ≤ 6 → R (intsD [r, g]) := ⟨fun h => h.2, fun h => ⟨rfl, h⟩⟩
def W_law_hand : WS := (dRet (dTup (aCons (dOp rdIx (dLst (aCons (dC (.int 3)) (aCons (dC (.int 4)) (aCons (dCall f_law_taken (aCons (dVar 0) (aCons (dC (.int 7)) aNil))) aNil)))) (dCall f_law_taken (aCons (dVar 0) (aCons (dC (.int 3)) aNil)))) (aCons (dOp rdIx (dLst (aCons (dC (.int 4)) (aCons (dC (.int 3)) (aCons (dCall f_law_taken (aCons (dVar 0) (aCons (dC (.int 7)) aNil))) aNil)))) (dCall f_law_taken (aCons (dVar 0) (aCons (dC (.int 3)) aNil)))) aNil))))
def N_law_hand : List Str := ["_law_row"]
theorem sc_law_hand : FnScope ["_law_row"] ["_law_row"] (defScope s_law_hand) := ⟨rfl, rfl, rfl, by decide +kernel, rfl, by decide +kernel, by decide +kernel⟩
theorem hand_one {a b v i : Int} {d : D} (ha : 0 ≤ a ∧ a ≤ 6) (hb : 0 ≤ b ∧ b ≤ 6) (hv : 0 ≤ v ∧ v ≤ 6) (h : d ∈ [PyData.int a, PyData.int b, PyData.int v]) : ∃ r : Int, d = .int r ∧ 0 ≤ r ∧ r ≤ 6 := by
  simp at h
  rcases h with rfl | rfl | rfl
  · exact ⟨a, rfl, ha⟩
  · exact ⟨b, rfl, hb⟩
  · exact ⟨v, rfl, hv⟩
theorem pure_law_hand : ∀ ds R, f_law_hand ds R → W_law_hand { nx := fun _ => R .none, rt := R } (startD N_law_hand ds) := by
  rintro ds R ⟨rfl, h⟩
  simp [W_law_hand, N_law_hand]
  intro v v0 v1 i i0 i1
  obtain ⟨d, e, hd⟩ := atI_in (l := [PyData.int 3, PyData.int 4, PyData.int v]) i0 (by simpa using i1)
  obtain ⟨r, rfl, r0, r6⟩ := hand_one (i := 0) (by decide) (by decide) (by omega) hd
  refine ⟨_, e, ?_⟩
  intro u u0 u1 j j0 j1
  obtain ⟨d, e, hd⟩ := atI_in (l := [PyData.int 4, PyData.int 3, PyData.int u]) j0 (by simpa using j1)
  obtain ⟨g, rfl, g0, g6⟩ := hand_one (i := 0) (by decide) (by decide) (by omega) hd
  refine ⟨_, e, ?_⟩
  simp
  exact h r g r0 r6 g0 g6
section
variable {P : Program} {w : World} {g : Glb} {mg : Str → Option Value} {base : Heap}
theorem ok_law_hand {f : Addr} {fd : FuncData} (F : FunP g.K "_law_hand" s_law_hand f fd) (mgf : mg "_law_hand" = some (.ref f)) (T : Txt mg) (C_law_taken : C8.Cal P w g.K mg base 1 "_law_taken" (spD g f_law_taken) []) : C8.Cal P w g.K mg base 2 "_law_hand" (spD g f_law_hand) [] :=
  calD (N := ["_law_row"]) (ps := ["_law_row"]) (k := 1) (wb := W_law_hand) F mgf (F.bindsN fun _ _ _ _ _ _ us hl => match us, hl with | [_], _ => rfl) sc_law_hand len_law_hand (fun cdv A outer s H E r a ns hr =>
    (pssd_one (ps_w (ps_ret (pe_w (pe_tup (pa_w (pa_cons (pe_w (pe_ix ix_lt (pe_w (pe_lst (pa_w (pa_cons (pe_w pe_int (xd_c fun _ => .int)) (pa_w (pa_cons (pe_w pe_int (xd_c fun _ => .int)) (pa_w (pa_cons (pe_w (C8.pe_c C_law_taken hr (by decide) (by rfl) (pa_w (pa_cons (pe_w (pv 0) xd_var) (pa_w (pa_cons (pe_w pe_int (xd_c fun _ => .int)) (pa_w pa_nil xa_nil)) xa_cons)) xa_cons)) xd_call) (pa_w pa_nil xa_nil)) xa_cons)) xa_cons)) xa_cons)) xd_lst) (pe_w (C8.pe_c C_law_taken hr (by decide) (by rfl) (pa_w (pa_cons (pe_w (pv 0) xd_var) (pa_w (pa_cons (pe_w pe_int (xd_c fun _ => .int)) (pa_w pa_nil xa_nil)) xa_cons)) xa_cons)) xd_call) (fun _ _ => rfl)) (xd_op od_ixL)) (pa_w (pa_cons (pe_w (pe_ix ix_lt (pe_w (pe_lst (pa_w (pa_cons (pe_w pe_int (xd_c fun _ => .int)) (pa_w (pa_cons (pe_w pe_int (xd_c fun _ => .int)) (pa_w (pa_cons (pe_w (C8.pe_c C_law_taken hr (by decide) (by rfl) (pa_w (pa_cons (pe_w (pv 0) xd_var) (pa_w (pa_cons (pe_w pe_int (xd_c fun _ => .int)) (pa_w pa_nil xa_nil)) xa_cons)) xa_cons)) xd_call) (pa_w pa_nil xa_nil)) xa_cons)) xa_cons)) xa_cons)) xd_lst) (pe_w (C8.pe_c C_law_taken hr (by decide) (by rfl) (pa_w (pa_cons (pe_w (pv 0) xd_var) (pa_w (pa_cons (pe_w pe_int (xd_c fun _ => .int)) (pa_w pa_nil xa_nil)) xa_cons)) xa_cons)) xd_call) (fun _ _ => rfl)) (xd_op od_ixL)) (pa_w pa_nil xa_nil)) xa_cons)) xa_cons)) xd_tup)) xs_ret))) pure_law_hand
end

/-! ### what a shape sounds, the law's way -/
def lawSound (t s : List Int) : List Int := ((List.range s.length).filter fun k => decide (s.getD k 0 ≥ 0)).map fun k => t.getD k 0 + s.getD k 0
def f_law_sounds : Fd := fun ds R => ∃ t f c s, ds = [neckD t f c, intsD s] ∧ s.length ≤ t.length ∧ t.length ≤ 1000 ∧ R (.list ((lawSound t s).map .int))
theorem len_law_sounds : ∀ ds R, f_law_sounds ds R → ds.length = 2 := by
  rintro ds R ⟨t, f, c, s, rfl, _⟩; rfl
@[simp] theorem law_sounds_iff {t s : List Int} {f c : Int} {R : D → Prop} : f_law_sounds [neckD t f c, intsD s] R ↔ s.length ≤ t.length ∧ t.length ≤ 1000 ∧ R (.list ((lawSound t s).map .int)) := by
  constructor
  · rintro ⟨t', f', c', s', e, h⟩; simp at e; obtain ⟨⟨rfl, rfl, rfl⟩, rfl⟩ := e; exact h
  · intro h; exact ⟨_, _, _, _, rfl, h⟩
theorem sound_eq : ∀ (t s : List Int), s.length = t.length → (∀ p ∈ s, p = -1 ∨ 0 ≤ p) → lawSound t s = ((t.zip s).filter fun q => decide (q.2 ≠ -1)).map fun q => q.1 + q.2
  | [], [], _, _ => rfl
  | [], _ :: _, h, _ => by simp at h
  | _ :: _, [], h, _ => by simp at h
  | a :: t, p :: s, h, hp => by
    have ih := sound_eq t s (by simpa using h) fun q hq => hp q (List.mem_cons_of_mem _ hq)
    unfold lawSound at ih ⊢
    rw [List.length_cons, List.range_succ_eq_map, List.filter_cons, List.filter_map, List.zip_cons_cons, List.filter_cons]
    have e1 : ((fun k => decide ((p :: s).getD k 0 ≥ 0)) ∘ Nat.succ) = fun k => decide (s.getD k 0 ≥ 0) := rfl
    rw [e1]
    rcases hp p List.mem_cons_self with z | z
    · subst z
      rw [if_neg (by simp), if_neg (by simp), List.map_map, ← ih]
      rfl
    · have z1 : p ≠ -1 := by omega
      rw [if_pos (by simpa using z), if_pos (by simpa using z1), List.map_cons, List.map_cons, List.map_map, ← ih]
      rfl
def W_law_sounds : WS := (dRet (dN (dLcW (iR1 (aCons (dCall rdLen (aCons (dVar 1) aNil)) aNil)) (tgN 2) (bB (dOp rdGe (dOp rdIx (dVar 1) (dVar 2)) (dC (.int 0)))) (dOp rdAdd (dOp rdIx (dOp rdIx (dVar 0) (dC (.int 0))) (dVar 2)) (dOp rdIx (dVar 1) (dVar 2))) [2])))
def N_law_sounds : List Str := ["_law_neck_here", "_law_shape_here", "_law_k"]
theorem sc_law_sounds : FnScope ["_law_neck_here", "_law_shape_here", "_law_k"] ["_law_neck_here", "_law_shape_here"] (defScope s_law_sounds) := ⟨rfl, rfl, rfl, by decide +kernel, rfl, by decide +kernel, by decide +kernel⟩
theorem pure_law_sounds : ∀ ds R, f_law_sounds ds R → W_law_sounds { nx := fun _ => R .none, rt := R } (startD N_law_sounds ds) := by
  rintro ds R ⟨t, f, c, s, rfl, hl, lt, h⟩
  simp [W_law_sounds, N_law_sounds]
  refine ⟨by omega, by omega, ?_⟩
  unfold rngD
  refine lcRun_map (φ := fun k : Nat => PyData.int (0 + (k : Int))) (fun k => decide (s.getD k 0 ≥ 0)) (fun k => .int (t.getD k 0 + s.getD k 0)) _ [] (fun k hk K kk => ?_) ?_
  · have hk' := List.mem_range.mp hk
    have g1 : s[k]? = some (s.getD k 0) := by rw [List.getD_eq_getElem?_getD, List.getElem?_eq_getElem hk']; rfl
    have g0 : t[k]? = some (t.getD k 0) := by rw [List.getD_eq_getElem?_getD, List.getElem?_eq_getElem (by omega)]; rfl
    have i1 := atI_map (f := PyData.int) g1
    have i0 := atI_map (f := PyData.int) g0
    simp only [Int.zero_add]
    simp [i1, i0]
    simp only [List.getD_eq_getElem?_getD] at kk
    by_cases z : 0 ≤ s[k]?.getD 0
    · have z' : s[k]?.getD 0 ≥ 0 := z
      rw [decide_eq_true z', if_pos rfl] at kk
      exact .inr ⟨z, kk⟩
    · have z' : ¬ s[k]?.getD 0 ≥ 0 := z
      rw [decide_eq_false z', if_neg (by decide)] at kk
      exact .inl ⟨by omega, kk⟩
  · rw [List.nil_append]
    have e : (((List.range s.length).filter fun k => decide (s.getD k 0 ≥ 0)).map fun k => PyData.int (t.getD k 0 + s.getD k 0)) = (lawSound t s).map .int := by
      unfold lawSound
      rw [List.map_map]
      rfl
    rw [e]
    exact h
section
variable {P : Program} {w : World} {g : Glb} {mg : Str → Option Value} {base : Heap}
theorem ok_law_sounds {f : Addr} {fd : FuncData} (F : FunP g.K "_law_sounds" s_law_sounds f fd) (mgf : mg "_law_sounds" = some (.ref f)) (T : Txt mg)  : C8.Cal P w g.K mg base 1 "_law_sounds" (spD g f_law_sounds) [] :=
  calD (N := ["_law_neck_here", "_law_shape_here", "_law_k"]) (ps := ["_law_neck_here", "_law_shape_here"]) (k := 0) (wb := W_law_sounds) F mgf (F.bindsN fun _ _ _ _ _ _ us hl => match us, hl with | [_, _], _ => rfl) sc_law_sounds len_law_sounds (fun cdv A outer s H E r a ns hr =>
    (pssd_one (ps_w (ps_ret (pe_w (pe_w (pe_lc (own := [("_law_k", 2)]) (g := gName 2) rfl sc_law_sounds.nd (pi_w (pi_range1 (by rfl) T.m_range (pa_w (pa_cons (pe_w (pe_callB call_len_seq (by rfl) T.m_len PySem.boot_len (pa_w (pa_cons (pe_w (pv 1) xd_var) (pa_w pa_nil xa_nil)) xa_cons)) (xd_cb cd_len)) (pa_w pa_nil xa_nil)) xa_cons)) xi_rng1) (blkOk_by (own := [("_law_k", 2)]) (N := ["_law_neck_here", "_law_shape_here", "_law_k"]) (sc := (defScope s_law_sounds)) (by decide +kernel)) (fun _ _ _ _ _ => (pg_name (i := 2) sc_law_sounds.nd rfl (.inl rfl))) (fun _ _ _ _ _ => (pts_one (pt_w (pt_cmpR op_ge (pe_w (pe_ix ix_lt (pe_w (pv 1) xd_var) (pe_w (pv 2) xd_var) (fun _ _ => rfl)) (xd_op od_ixL)) (pe_w pe_int (xd_c fun _ => .int)) (nomark _)) (xt_cmp od_ge)))) (fun _ _ _ _ _ => (pe_w (pe_op op_add (pe_w (pe_ix ix_lt (pe_w (pe_ix ix_lt (pe_w (pv 0) xd_var) (pe_w pe_int (xd_c fun _ => .int)) (fun _ _ => rfl)) (xd_op od_ixL)) (pe_w (pv 2) xd_var) (fun _ _ => rfl)) (xd_op od_ixL)) (pe_w (pe_ix ix_lt (pe_w (pv 1) xd_var) (pe_w (pv 2) xd_var) (fun _ _ => rfl)) (xd_op od_ixL))) (xd_op od_add)))) (xn_lc gd_name stores_name)) xd_N)) xs_ret))) pure_law_sounds
end

/-! ### a chord -/
def f_law_chord : Fd := fun ds R => ∃ t f c, ds = [.dict [], neckD t f c] ∧ OkNeck t f c ∧ ∀ l, OkChord l → R (intsD l)
theorem len_law_chord : ∀ ds R, f_law_chord ds R → ds.length = 2 := by
  rintro ds R ⟨t, f, c, rfl, _⟩; rfl
@[simp] theorem law_chord_iff {t : List Int} {f c : Int} {R : D → Prop} : f_law_chord [.dict [], neckD t f c] R ↔ OkNeck t f c ∧ ∀ l, OkChord l → R (intsD l) := by
  constructor
  · rintro ⟨t', f', c', e, h⟩; simp at e; obtain ⟨rfl, rfl, rfl⟩ := e; exact h
  · intro h; exact ⟨_, _, _, rfl, h⟩
theorem ints_all {P : Int → Prop} : ∀ {zs : List D}, (∀ z ∈ zs, ∃ i : Int, z = .int i ∧ P i) → ∃ l : List Int, zs = l.map .int ∧ ∀ i ∈ l, P i
  | [], _ => ⟨[], rfl, fun _ h => (by cases h)⟩
  | z :: zs, h => by
    obtain ⟨i, rfl, hi⟩ := h z (List.mem_cons_self ..)
    obtain ⟨l, rfl, hl⟩ := ints_all fun z hz => h z (List.mem_cons_of_mem _ hz)
    exact ⟨i :: l, rfl, fun j hj => by
      rcases List.mem_cons.mp hj with e | e
      · rw [e]; exact hi
      · exact hl j e⟩
theorem cut_n (l : List Int) (n : Nat) : cutD (l.map PyData.int) none (some (n : Int)) = (l.take n).map PyData.int := by
  unfold cutD
  rw [HT.sIx_nat, HT.sIx_none, List.length_map, List.map_take]
  by_cases h : n ≤ l.length
  · rw [Nat.min_eq_left h]
    rfl
  · rw [Nat.min_eq_right (by omega)]
    show (l.map PyData.int).take l.length = _
    rw [List.take_of_length_le (by simp), List.take_of_length_le (by rw [List.length_map]; omega)]
theorem chord_of {ns ns' : List Int} (h : ns ≠ []) (h1 : ∀ x ∈ ns, 0 ≤ x ∧ x ≤ 80) (up : ns'.Pairwise (· < ·)) (mm : ∀ k, k ∈ ns' ↔ k ∈ ns) : OkChord (ns'.take 6) := by
  refine ⟨?_, by rw [List.length_take]; omega, fun x hx => h1 x ((mm x).mp (List.mem_of_mem_take hx)), pw_rises up.take⟩
  obtain ⟨a, r, rfl⟩ := List.exists_cons_of_ne_nil h
  have := List.length_pos_of_mem ((mm a).mpr (List.mem_cons_self ..))
  rw [List.length_take]
  omega
theorem lawSound_at {t s : List Int} {f c : Int} (ok : OkNeck t f c) (os : OkShape t f c s) : ∀ x ∈ lawSound t s, 0 ≤ x ∧ x ≤ 80 := fun x hx => by
  unfold lawSound at hx
  obtain ⟨k, hk, rfl⟩ := List.mem_map.mp hx
  obtain ⟨h1, h2⟩ := List.mem_filter.mp hk
  have h1 := List.mem_range.mp h1
  have h2 := of_decide_eq_true h2
  have a := ok.n (t.getD k 0) (by rw [List.getD_eq_getElem?_getD, List.getElem?_eq_getElem (by have := os.len; omega)]; exact List.getElem_mem ..)
  have b := os.at_ (s.getD k 0) (by rw [List.getD_eq_getElem?_getD, List.getElem?_eq_getElem h1]; exact List.getElem_mem ..)
  have := ok.f1
  have := ok.c0
  omega
theorem lawSound_len {t s : List Int} : (lawSound t s).length ≤ s.length := by
  unfold lawSound
  rw [List.length_map]
  refine Nat.le_trans (List.length_filter_le ..) ?_
  rw [List.length_range]
  exact Nat.le_refl _
def W_law_chord : WS := (dSeq (dAsg 2 (dN (dLcW (iLst (dCall f_law_sounds (aCons (dVar 1) (aCons (dCall f_law_shape (aCons (dVar 0) (aCons (dVar 1) aNil))) aNil)))) (tgN 3) (bB (dOp rdLt (dVar 3) (dC (.int 81)))) (dVar 3) [3]))) (dSeq (dIfS (bOr (bB (dOp rdEq (dCall f_law_taken (aCons (dVar 0) (aCons (dC (.int 4)) aNil))) (dC (.int 3)))) (bB (dOp rdEq (dVar 2) (dLst aNil)))) (dAsg 2 (dOp rdCatL (dVar 2) (dN (dLcW (iR1 (aCons (dOp rdAdd (dC (.int 1)) (dCall f_law_taken (aCons (dVar 0) (aCons (dC (.int 3)) aNil)))) aNil)) (tgN 4) (fun _ R => R true) (dCall f_law_taken (aCons (dVar 0) (aCons (dC (.int 81)) aNil))) [4])))) dNext) (dRet (dSl (dCall rdTuple (aCons (dCall rdSrtSet (aCons (dVar 2) aNil)) aNil)) oNone (oSome (dC (.int 6))) .tuple))))
def N_law_chord : List Str := ["_law_row", "_law_neck_here", "_law_told", "_law_note", "_law_k"]
theorem sc_law_chord : FnScope ["_law_row", "_law_neck_here", "_law_told", "_law_note", "_law_k"] ["_law_row", "_law_neck_here"] (defScope s_law_chord) := ⟨rfl, rfl, rfl, by decide +kernel, rfl, by decide +kernel, by decide +kernel⟩
theorem chord_more {R : D → Prop} {l : List Int} (ll : l.length ≤ 6) (hl : ∀ x ∈ l, 0 ≤ x ∧ x ≤ 80) (h : ∀ l, OkChord l → R (intsD l)) {x1 x3 : Sl} {v : Int} (v0 : 0 ≤ v) (v3 : v < 3) :
    lcRun (fun d k => k [Sl.val (PyData.dict []), x1, .val (.list (l.map .int)), x3, .val d]) (fun x R => R true) (dCall f_law_taken (aCons (dVar 0) (aCons (dC (.int 81)) aNil)))
      (fun ds_1 => (l.map PyData.int).length + ds_1.length ≤ 1000000 ∧ ∃ ns : List Int, l.map PyData.int ++ ds_1 = ns.map .int ∧ ns.length ≤ 4000 ∧ ∀ ns' : List Int, ns'.Pairwise (fun x1 x2 => x1 < x2) → (∀ k : Int, k ∈ ns' ↔ k ∈ ns) → R (.tuple (cutD (ns'.map .int) none (some 6))))
      (rngD 0 (1 + v).toNat) [] := by
  refine lcRun_each (fun d => ∃ i : Int, d = .int i ∧ 0 ≤ i ∧ i ≤ 80) _ _ (fun d hd K kk => ?_) fun zs hz hzs => ?_
  · simp
    intro u u0 u1
    exact kk _ ⟨u, rfl, by omega⟩
  · obtain ⟨m, rfl, hm⟩ := ints_all hzs
    have lm : m.length = (1 + v).toNat := by
      rw [List.length_map] at hz
      rw [hz]
      unfold rngD
      rw [List.length_map, List.length_range]
    rw [List.nil_append, List.length_map, List.length_map]
    refine ⟨by omega, l ++ m, by rw [List.map_append], by rw [List.length_append]; omega, fun ns' up mm => ?_⟩
    rw [show cutD (ns'.map .int) none (some 6) = (ns'.take 6).map .int from cut_n ns' 6]
    refine h _ (chord_of (ns := l ++ m) (fun e => ?_) (fun x hx => ?_) up mm)
    · have := congrArg List.length e
      rw [List.length_append, lm, List.length_nil] at this
      omega
    · rcases List.mem_append.mp hx with q | q
      · exact hl x q
      · exact hm x q
theorem pure_law_chord : ∀ ds R, f_law_chord ds R → W_law_chord { nx := fun _ => R .none, rt := R } (startD N_law_chord ds) := by
  rintro ds R ⟨t, f, c, rfl, ok, h⟩
  have l2 := ok.l2
  simp [W_law_chord, N_law_chord]
  refine ⟨ok, fun s os => ?_⟩
  have ls := os.len
  have lw := lawSound_len (t := t) (s := s)
  refine ⟨by omega, by omega, by omega, lcRun_ints (fun x => decide (x < 81)) (fun x => .int x) (lawSound t s) (fun x _ K kk => ?_) ?_⟩
  · simp
    by_cases z : x < 81
    · exact .inr ⟨z, by simpa [z] using kk⟩
    · exact .inl ⟨by omega, by simpa [z] using kk⟩
  · have hl : ∀ x ∈ (lawSound t s).filter fun x => decide (x < 81), 0 ≤ x ∧ x ≤ 80 := fun x hx => lawSound_at ok os x (List.mem_filter.mp hx).1
    have ll : ((lawSound t s).filter fun x => decide (x < 81)).length ≤ 6 := Nat.le_trans (List.length_filter_le ..) (by omega)
    generalize (lawSound t s).filter (fun x => decide (x < 81)) = l at hl ll
    intro v v0 v4
    have more := fun v v0 v3 => chord_more (R := R) (x1 := .val (neckD t f c)) (x3 := .un) ll hl h (v := v) v0 v3
    by_cases z : v = 3
    · rw [if_pos z]
      intro u u0 u3
      exact ⟨by omega, by omega, by omega, more u u0 u3⟩
    · rw [if_neg z]
      refine ⟨shaped_intsL, ?_⟩
      by_cases y : l = []
      · subst y
        rw [if_pos (show List.map (fun x => PyData.int x) [] = [] from rfl)]
        intro u u0 u3
        exact ⟨by omega, by omega, by omega, more u u0 u3⟩
      · rw [if_neg (by simpa using y)]
        refine ⟨l, rfl, by omega, fun ns' up mm => ?_⟩
        rw [show cutD (ns'.map .int) none (some 6) = (ns'.take 6).map .int from cut_n ns' 6]
        exact h _ (chord_of y hl up mm)
section
variable {P : Program} {w : World} {g : Glb} {mg : Str → Option Value} {base : Heap}
theorem ok_law_chord {f : Addr} {fd : FuncData} (F : FunP g.K "_law_chord" s_law_chord f fd) (mgf : mg "_law_chord" = some (.ref f)) (T : Txt mg) (C_law_sounds : C8.Cal P w g.K mg base 1 "_law_sounds" (spD g f_law_sounds) []) (C_law_taken : C8.Cal P w g.K mg base 1 "_law_taken" (spD g f_law_taken) []) (C_law_shape : C8.Cal P w g.K mg base 2 "_law_shape" (spD g f_law_shape) []) : C8.Cal P w g.K mg base 3 "_law_chord" (spD g f_law_chord) [] :=
  calD (N := ["_law_row", "_law_neck_here", "_law_told", "_law_note", "_law_k"]) (ps := ["_law_row", "_law_neck_here"]) (k := 2) (wb := W_law_chord) F mgf (F.bindsN fun _ _ _ _ _ _ us hl => match us, hl with | [_, _], _ => rfl) sc_law_chord len_law_chord (fun cdv A outer s H E r a ns hr =>
    (pssd_cons (ps_w (ps_setLc (i := 2) (own := [("_law_note", 3)]) (g := gName 3) rfl sc_law_chord.nd rfl rfl (sw_true rfl rfl rfl (by decide +kernel)) (pi_w (pi_list (pe_w (C8.pe_c C_law_sounds hr (by decide) (by rfl) (pa_w (pa_cons (pe_w (pv 1) xd_var) (pa_w (pa_cons (pe_w (C8.pe_c C_law_shape hr (by decide) (by rfl) (pa_w (pa_cons (pe_w (pv 0) xd_var) (pa_w (pa_cons (pe_w (pv 1) xd_var) (pa_w pa_nil xa_nil)) xa_cons)) xa_cons)) xd_call) (pa_w pa_nil xa_nil)) xa_cons)) xa_cons)) xd_call)) xi_list) (blkOk_by (own := [("_law_note", 3)]) (N := ["_law_row", "_law_neck_here", "_law_told", "_law_note", "_law_k"]) (sc := (defScope s_law_chord)) (by decide +kernel)) (fun _ _ _ _ _ => (pg_name (i := 3) sc_law_chord.nd rfl (.inl rfl))) (fun _ _ _ _ _ => (pts_one (pt_w (pt_cmpR op_lt (pe_w (pv 3) xd_var) (pe_w pe_int (xd_c fun _ => .int)) (nomark _)) (xt_cmp od_lt)))) (fun _ _ _ _ _ => (pe_w (pv 3) xd_var))) (xs_asgLc gd_name stores_name)) (pssd_cons (ps_w (ps_if (PW.pt (pw_w (pw_or (pt_w (pt_cmpR (op_eqD hr.units) (pe_w (C8.pe_c C_law_taken hr (by decide) (by rfl) (pa_w (pa_cons (pe_w (pv 0) xd_var) (pa_w (pa_cons (pe_w pe_int (xd_c fun _ => .int)) (pa_w pa_nil xa_nil)) xa_cons)) xa_cons)) xd_call) (pe_w pe_int (xd_c fun _ => .int)) (nomark _)) (xt_cmp od_eq)) (pw_or1 (pt_w (pt_cmpR (op_eqD hr.units) (pe_w (pv 2) xd_var) (pe_w (pe_lst (pa_w pa_nil xa_nil)) xd_lst) (nomark _)) (xt_cmp od_eq)))) xt_or)) (pssd_one (ps_w (ps_set (i := 2) sc_law_chord.nd rfl (.inl rfl) (pe_w (pe_op op_cat (pe_w (pv 2) xd_var) (pe_w (pe_w (pe_lc (own := [("_law_k", 4)]) (g := gName 4) rfl sc_law_chord.nd (pi_w (pi_range1 (by rfl) T.m_range (pa_w (pa_cons (pe_w (pe_op op_add (pe_w pe_int (xd_c fun _ => .int)) (pe_w (C8.pe_c C_law_taken hr (by decide) (by rfl) (pa_w (pa_cons (pe_w (pv 0) xd_var) (pa_w (pa_cons (pe_w pe_int (xd_c fun _ => .int)) (pa_w pa_nil xa_nil)) xa_cons)) xa_cons)) xd_call)) (xd_op od_add)) (pa_w pa_nil xa_nil)) xa_cons)) xi_rng1) (blkOk_by (own := [("_law_k", 4)]) (N := ["_law_row", "_law_neck_here", "_law_told", "_law_note", "_law_k"]) (sc := (defScope s_law_chord)) (by decide +kernel)) (fun _ _ _ _ _ => (pg_name (i := 4) sc_law_chord.nd rfl (.inl rfl))) (fun _ _ _ _ _ => (pts_w pts_nil xt_yes)) (fun _ _ _ _ _ => (pe_w (C8.pe_c C_law_taken hr (by decide) (by rfl) (pa_w (pa_cons (pe_w (pv 0) xd_var) (pa_w (pa_cons (pe_w pe_int (xd_c fun _ => .int)) (pa_w pa_nil xa_nil)) xa_cons)) xa_cons)) xd_call))) (xn_lc gd_name stores_name)) xd_N)) (xd_op od_catL))) xs_asg)) pssd_nil) xs_if) (pssd_one (ps_w (ps_ret (pe_w (pe_slice sl_tupA (pe_w (pe_callTy call_tuple_of (by rfl) T.m_tuple (by decide +kernel) (pa_w (pa_cons (pe_w (pe_callB (FWS.cr_srtS rfl) (by rfl) T.m_sorted (by decide +kernel) (pa_cons (pe_callTy (FWS.cr_setI rfl) (by rfl) T.m_set (by decide +kernel) (pa_w (pa_cons (pe_w (pv 2) xd_var) (pa_w pa_nil xa_nil)) xa_cons)) pa_nil)) xd_srtSet) (pa_w pa_nil xa_nil)) xa_cons)) (xd_cb cd_tuple)) (po_w po_none xo_none) (po_w (po_some (pe_w pe_int (xd_c fun _ => .int))) xo_some)) xd_slT)) xs_ret))))) pure_law_chord
end

/-! ### a tune -/
def f_law_tune : Fd := fun ds R => ∃ (t : List Int) (f c most : Int), ds = [.dict [], neckD t f c, .int most] ∧ OkNeck t f c ∧ 1 ≤ most ∧ most ≤ 30 ∧ ∀ ns : List Int, OkTune ns → (ns.length : Int) ≤ most → R (.list (ns.map .int))
theorem len_law_tune : ∀ ds R, f_law_tune ds R → ds.length = 3 := by
  rintro ds R ⟨t, f, c, m, rfl, _⟩; rfl
@[simp] theorem law_tune_iff {t : List Int} {f c most : Int} {R : D → Prop} : f_law_tune [.dict [], neckD t f c, .int most] R ↔ OkNeck t f c ∧ 1 ≤ most ∧ most ≤ 30 ∧ ∀ ns : List Int, OkTune ns → (ns.length : Int) ≤ most → R (.list (ns.map .int)) := by
  constructor
  · rintro ⟨t', f', c', m', e, h⟩; simp at e; obtain ⟨⟨rfl, rfl, rfl⟩, rfl⟩ := e; exact h
  · intro h; exact ⟨_, _, _, _, rfl, h⟩
def W_law_tune : WS := (dSeq (dOwn 3 (nLst aNil)) (dSeq (dFor (iR1 (aCons (dOp rdAdd (dC (.int 1)) (dCall f_law_taken (aCons (dVar 0) (aCons (dVar 2) aNil)))) aNil)) (tgN 4) (dSeq (dAsg 5 (dCall f_law_taken (aCons (dVar 0) (aCons (dCall rdLen (aCons (dOp rdIx (dVar 1) (dC (.int 0))) aNil)) aNil)))) (dSeq (dAsg 6 (dOp rdAdd (dOp rdIx (dVar 1) (dC (.int 2))) (dCall f_law_taken (aCons (dVar 0) (aCons (dOp rdAdd (dOp rdSub (dOp rdIx (dVar 1) (dC (.int 1))) (dOp rdIx (dVar 1) (dC (.int 2)))) (dC (.int 1))) aNil))))) (dSeq (dApp 3 (dOp rdAdd (dOp rdIx (dOp rdIx (dVar 1) (dC (.int 0))) (dVar 5)) (dVar 6))) (dIfS (bPeek 3 (bAnd (bB (dOp rdNe (dSl (dVar 3) oNone (oSome (dNeg (dC (.int 1)))) .list) (dLst aNil))) (bB (dOp rdEq (dCall f_law_taken (aCons (dVar 0) (aCons (dC (.int 3)) aNil))) (dC (.int 2)))))) (dSetI 3 (dCall rdMax2 (aCons (dC (.int 0)) (aCons (dOp rdSub (dOp rdAdd (dOwnIx 3 (dNeg (dC (.int 2)))) (dCall f_law_taken (aCons (dVar 0) (aCons (dC (.int 7)) aNil)))) (dC (.int 3))) aNil))) (dNeg (dC (.int 1)))) dNext))))) (dSeq (dIfS (bB (dOp rdEq (dCall f_law_taken (aCons (dVar 0) (aCons (dC (.int 12)) aNil))) (dC (.int 11)))) (dSetI 3 (dCall f_law_taken (aCons (dVar 0) (aCons (dC (.int 81)) aNil))) (dCall f_law_taken (aCons (dVar 0) (aCons (dOwnLen 3) aNil)))) dNext) (dFrz 3 (dRet (dN (dLcW (iLst (dVar 3)) (tgN 7) (fun _ R => R true) (dCall rdMin2 (aCons (dC (.int 80)) (aCons (dVar 7) aNil))) [7])))))))
def N_law_tune : List Str := ["_law_row", "_law_neck_here", "_law_most", "_law_found", "_law_k", "_law_string", "_law_place", "_law_note"]
theorem sc_law_tune : FnScope ["_law_row", "_law_neck_here", "_law_most", "_law_found", "_law_k", "_law_string", "_law_place", "_law_note"] ["_law_row", "_law_neck_here", "_law_most"] (defScope s_law_tune) := ⟨rfl, rfl, rfl, by decide +kernel, rfl, by decide +kernel, by decide +kernel⟩
theorem tune_fin {R : List D → Prop} {a : D → Sg} (h7 : ∀ d, (a d)[7]? = some (.val d)) {l : List Int} (hl : 1 ≤ l.length) (h30 : l.length ≤ 30) (hn : ∀ y ∈ l, 0 ≤ y) (h : ∀ ns : List Int, OkTune ns → ns.length = l.length → R (ns.map .int)) :
    lcRun (fun d k => k (a d)) (fun _ R => R true) (dCall rdMin2 (aCons (dC (.int 80)) (aCons (dVar 7) aNil))) R (l.map .int) [] := by
  refine lcRun_ints (fun _ => true) (fun y => .int (if y < 80 then y else 80)) l (fun y hy K k => ?_) ?_
  · simp [h7]
    simpa using k
  · rw [List.filter_eq_self.mpr (by simp)]
    have e : l.map (fun y => PyData.int (if y < 80 then y else 80)) = (l.map fun y => if y < 80 then y else 80).map .int := by rw [List.map_map]; rfl
    rw [e]
    refine h _ ⟨by simpa using hl, by simpa using h30, fun z hz => ?_⟩ (by simp)
    obtain ⟨y, hy, rfl⟩ := List.mem_map.mp hz
    have := hn y hy
    split <;> omega
theorem ixN_at {n k : Nat} (h : k < n) : ixN n (k : Int) = some k := by
  unfold ixN; simp; omega
theorem ixN_m1 (n : Nat) : ixN (n + 1) (-1) = some n := by
  unfold ixN; simp; omega
theorem atI_m2 {α : Type} (l : List α) (x y : α) : atI (l ++ [x, y]) (-2) = some x := by
  have e : ixN (l ++ [x, y]).length (-2) = some l.length := by
    unfold ixN; simp; omega
  unfold atI
  rw [e]
  simp
theorem pure_law_tune : ∀ ds R, f_law_tune ds R → W_law_tune { nx := fun _ => R .none, rt := R } (startD N_law_tune ds) := by
  rintro ds R ⟨t, f, c, most, rfl, ok, h1, h30, h⟩
  have c0 := ok.c0
  have c1 := ok.c1
  have f1 := ok.f1
  have tl := ok.l1
  have tl2 := ok.l2
  simp [W_law_tune, N_law_tune]
  refine ⟨by omega, by omega, fun v v0 v1 => ⟨by omega, by omega, ?_⟩⟩
  refine forRun_go (fun ds e => ∃ (l : List Int) (x4 x5 x6 : Sl), (∀ y ∈ l, 0 ≤ y) ∧ l.length + ds.length = (1 + v).toNat ∧ e = [.val (.dict []), .val (neckD t f c), .val (.int most), .own (l.map .int), x4, x5, x6, .un]) ?_ ?_ _ _ ⟨[], .un, .un, .un, by simp, by simp, rfl⟩
  · rintro d ds e N ⟨l, x4, x5, x6, hl, hlen, rfl⟩ k
    have hlen2 : l.length + ds.length + 1 = (1 + v).toNat := by simpa [Nat.add_assoc] using hlen
    simp
    refine ⟨by omega, by omega, fun s s0 s1 => ⟨by omega, by omega, fun d1 d10 d11 => ?_⟩⟩
    obtain ⟨sn, rfl⟩ : ∃ sn : Nat, s = sn := ⟨s.toNat, by omega⟩
    have hsn : sn < t.length := by omega
    have g : t[sn]? = some t[sn] := List.getElem?_eq_getElem hsn
    have gx := ok.n _ (List.getElem_mem hsn)
    refine ⟨_, atI_map g, _, rfl, by omega, ?_⟩
    have ecut := cut_init (l.map .int) (PyData.int (t[sn] + (c + d1)))
    rw [ecut]
    have hx : 0 ≤ t[sn] + (c + d1) := by omega
    generalize t[sn] + (c + d1) = x at hx
    have e1 : l.map PyData.int ++ [PyData.int x] = (l ++ [x]).map .int := by simp
    have stay := k _ ⟨l ++ [x], .val d, .val (.int sn), .val (.int (c + d1)), fun y hy => by
      rcases List.mem_append.mp hy with z | z
      · exact hl y z
      · rw [List.mem_singleton.mp z]; exact hx, by simp; omega, rfl⟩
    refine ⟨shaped_intsL, ?_⟩
    by_cases q : l = []
    · subst q
      exact .inl ⟨rfl, by simpa using stay⟩
    · refine .inr ⟨by simpa using q, fun u u0 u1 => ?_⟩
      by_cases z : u = 2
      · rw [if_pos z]
        obtain ⟨l0, y, rfl⟩ : ∃ l0 y, l = l0 ++ [y] := ⟨_, _, (List.dropLast_concat_getLast q).symm⟩
        refine ⟨.int y, by simpa using atI_m2 (l0.map PyData.int) (.int y) (.int x), fun w w0 w1 => ⟨y, rfl, ?_⟩⟩
        refine ⟨_, ixN_m1 _, ?_⟩
        have hz : 0 ≤ (if 3 < y + w then y + w - 3 else 0) := by split <;> omega
        generalize (if 3 < y + w then y + w - 3 else 0) = z at hz
        have e2 : ((l0 ++ [y]).map PyData.int ++ [PyData.int x]).set (l0 ++ [y]).length (.int z) = ((l0 ++ [y]) ++ [z]).map .int := by
          rw [List.set_append_right _ _ (by simp)]
          simp
        rw [e2]
        exact k _ ⟨(l0 ++ [y]) ++ [z], .val d, .val (.int sn), .val (.int (c + d1)), fun y' hy => by
          rcases List.mem_append.mp hy with z' | z'
          · exact hl y' z'
          · rw [List.mem_singleton.mp z']; exact hz, by simp at hlen2 ⊢; omega, rfl⟩
      · rw [if_neg z]
        simpa using stay
  · rintro e ⟨l, x4, x5, x6, hl, hlen, rfl⟩
    have hlen2 : l.length = (1 + v).toNat := by simpa using hlen
    have hh : ∀ (l' : List Int), l'.length = l.length → ∀ ns : List Int, OkTune ns → ns.length = l'.length → R (.list (ns.map .int)) := fun l' e1 ns o e2 => h ns o (by omega)
    simp
    intro u u0 u1
    split
    · intro w w0 w1
      refine ⟨by omega, by omega, fun j j0 j1 => ?_⟩
      obtain ⟨jn, rfl⟩ : ∃ jn : Nat, j = jn := ⟨j.toNat, by omega⟩
      refine ⟨jn, ixN_at (by omega), by omega, ?_⟩
      have e : (l.map PyData.int).set jn (.int w) = (l.set jn w).map .int := by rw [List.map_set]
      rw [e]
      refine tune_fin (fun _ => rfl) (by simp; omega) (by simp; omega) (fun y hy => ?_) (hh _ (by simp))
      rcases List.mem_or_eq_of_mem_set hy with z | z
      · exact hl y z
      · rw [z]; exact w0
    · exact ⟨by omega, tune_fin (fun _ => rfl) (by omega) (by omega) hl (hh _ rfl)⟩
section
variable {P : Program} {w : World} {g : Glb} {mg : Str → Option Value} {base : Heap}
theorem ok_law_tune {f : Addr} {fd : FuncData} (F : FunP g.K "_law_tune" s_law_tune f fd) (mgf : mg "_law_tune" = some (.ref f)) (T : Txt mg) (C_law_taken : C8.Cal P w g.K mg base 1 "_law_taken" (spD g f_law_taken) []) : C8.Cal P w g.K mg base 2 "_law_tune" (spD g f_law_tune) [] :=
  calD (N := ["_law_row", "_law_neck_here", "_law_most", "_law_found", "_law_k", "_law_string", "_law_place", "_law_note"]) (ps := ["_law_row", "_law_neck_here", "_law_most"]) (k := 1) (wb := W_law_tune) F mgf (F.bindsN fun _ _ _ _ _ _ us hl => match us, hl with | [_, _, _], _ => rfl) sc_law_tune len_law_tune (fun cdv A outer s H E r a ns hr =>
    (pssd_cons (ps_w (ps_set (i := 3) sc_law_tune.nd rfl (.inl rfl) (pe_w (pe_lst (pa_w pa_nil xa_nil)) xn_lst)) xs_own) (pssd_cons (ps_w (ps_for (g := gName 4) PassesOwn.never rfl (pi_w (pi_range1 (by rfl) T.m_range (pa_w (pa_cons (pe_w (pe_op op_add (pe_w pe_int (xd_c fun _ => .int)) (pe_w (C8.pe_c C_law_taken hr (by decide) (by rfl) (pa_w (pa_cons (pe_w (pv 0) xd_var) (pa_w (pa_cons (pe_w (pv 2) xd_var) (pa_w pa_nil xa_nil)) xa_cons)) xa_cons)) xd_call)) (xd_op od_add)) (pa_w pa_nil xa_nil)) xa_cons)) xi_rng1) (pg_name (i := 4) sc_law_tune.nd rfl (.inl rfl)) (pssd_cons (ps_w (ps_set (i := 5) sc_law_tune.nd rfl (.inl rfl) (pe_w (C8.pe_c C_law_taken hr (by decide) (by rfl) (pa_w (pa_cons (pe_w (pv 0) xd_var) (pa_w (pa_cons (pe_w (pe_callB call_len_seq (by rfl) T.m_len PySem.boot_len (pa_w (pa_cons (pe_w (pe_ix ix_lt (pe_w (pv 1) xd_var) (pe_w pe_int (xd_c fun _ => .int)) (fun _ _ => rfl)) (xd_op od_ixL)) (pa_w pa_nil xa_nil)) xa_cons)) (xd_cb cd_len)) (pa_w pa_nil xa_nil)) xa_cons)) xa_cons)) xd_call)) xs_asg) (pssd_cons (ps_w (ps_set (i := 6) sc_law_tune.nd rfl (.inl rfl) (pe_w (pe_op op_add (pe_w (pe_ix ix_lt (pe_w (pv 1) xd_var) (pe_w pe_int (xd_c fun _ => .int)) (fun _ _ => rfl)) (xd_op od_ixL)) (pe_w (C8.pe_c C_law_taken hr (by decide) (by rfl) (pa_w (pa_cons (pe_w (pv 0) xd_var) (pa_w (pa_cons (pe_w (pe_op op_add (pe_w (pe_op op_sub (pe_w (pe_ix ix_lt (pe_w (pv 1) xd_var) (pe_w pe_int (xd_c fun _ => .int)) (fun _ _ => rfl)) (xd_op od_ixL)) (pe_w (pe_ix ix_lt (pe_w (pv 1) xd_var) (pe_w pe_int (xd_c fun _ => .int)) (fun _ _ => rfl)) (xd_op od_ixL))) (xd_op od_sub)) (pe_w pe_int (xd_c fun _ => .int))) (xd_op od_add)) (pa_w pa_nil xa_nil)) xa_cons)) xa_cons)) xd_call)) (xd_op od_add))) xs_asg) (pssd_cons (ps_w (ps_expr (pe_bm PySem.F.plainAttrs_list PySem.F.slot_list_append PySem.F.type_list_append mt_append (pv 3) (pa_cons (pe_w (pe_op op_add (pe_w (pe_ix ix_lt (pe_w (pe_ix ix_lt (pe_w (pv 1) xd_var) (pe_w pe_int (xd_c fun _ => .int)) (fun _ _ => rfl)) (xd_op od_ixL)) (pe_w (pv 5) xd_var) (fun _ _ => rfl)) (xd_op od_ixL)) (pe_w (pv 6) xd_var)) (xd_op od_add)) pa_nil))) xs_app) (pssd_one (ps_w (ps_if (pt_w (PW.pt (pw_w (pw_and (pt_w (pt_cmpR (op_neD hr.units) (pe_w (pe_slice sl_list (pe_w (pv 3) xd_var) (po_w po_none xo_none) (po_w (po_some (pe_w (pe_un un_neg (pe_w pe_int (xd_c fun _ => .int))) xd_neg)) xo_some)) xd_slL) (pe_w (pe_lst (pa_w pa_nil xa_nil)) xd_lst) (nomark _)) (xt_cmp od_ne)) (pw_and1 (pt_w (pt_cmpR (op_eqD hr.units) (pe_w (C8.pe_c C_law_taken hr (by decide) (by rfl) (pa_w (pa_cons (pe_w (pv 0) xd_var) (pa_w (pa_cons (pe_w pe_int (xd_c fun _ => .int)) (pa_w pa_nil xa_nil)) xa_cons)) xa_cons)) xd_call) (pe_w pe_int (xd_c fun _ => .int)) (nomark _)) (xt_cmp od_eq)))) xt_and)) xt_peek) (pssd_one (ps_w (ps_asg (pe_w (pe_callB (call_max2 (by rfl)) (by rfl) T.m_max (by decide +kernel) (pa_w (pa_cons (pe_w pe_int (xd_c fun _ => .int)) (pa_w (pa_cons (pe_w (pe_op op_sub (pe_w (pe_op op_add (pe_w (pe_ix ix_lt (pv 3) (pe_w (pe_un un_neg (pe_w pe_int (xd_c fun _ => .int))) xd_neg) (fun _ _ => rfl)) xd_ownIx) (pe_w (C8.pe_c C_law_taken hr (by decide) (by rfl) (pa_w (pa_cons (pe_w (pv 0) xd_var) (pa_w (pa_cons (pe_w pe_int (xd_c fun _ => .int)) (pa_w pa_nil xa_nil)) xa_cons)) xa_cons)) xd_call)) (xd_op od_add)) (pe_w pe_int (xd_c fun _ => .int))) (xd_op od_sub)) (pa_w pa_nil xa_nil)) xa_cons)) xa_cons)) (xd_cb cd_max2)) (pg_sub (pv 3) (pe_w (pe_un un_neg (pe_w pe_int (xd_c fun _ => .int))) xd_neg) set_list)) xs_setI)) pssd_nil) xs_if)))))) (xs_for gd_name)) (pssd_cons (ps_w (ps_if (pt_w (pt_cmpR (op_eqD hr.units) (pe_w (C8.pe_c C_law_taken hr (by decide) (by rfl) (pa_w (pa_cons (pe_w (pv 0) xd_var) (pa_w (pa_cons (pe_w pe_int (xd_c fun _ => .int)) (pa_w pa_nil xa_nil)) xa_cons)) xa_cons)) xd_call) (pe_w pe_int (xd_c fun _ => .int)) (nomark _)) (xt_cmp od_eq)) (pssd_one (ps_w (ps_asg (pe_w (C8.pe_c C_law_taken hr (by decide) (by rfl) (pa_w (pa_cons (pe_w (pv 0) xd_var) (pa_w (pa_cons (pe_w pe_int (xd_c fun _ => .int)) (pa_w pa_nil xa_nil)) xa_cons)) xa_cons)) xd_call) (pg_sub (pv 3) (pe_w (C8.pe_c C_law_taken hr (by decide) (by rfl) (pa_w (pa_cons (pe_w (pv 0) xd_var) (pa_w (pa_cons (pe_w (pe_callB call_len_seq (by rfl) T.m_len PySem.boot_len (pa_cons (pv 3) pa_nil)) xd_ownLen) (pa_w pa_nil xa_nil)) xa_cons)) xa_cons)) xd_call) set_list)) xs_setI)) pssd_nil) xs_if) (pss_w (pssd_one (ps_w (ps_ret (pe_w (pe_w (pe_lc (own := [("_law_note", 7)]) (g := gName 7) rfl sc_law_tune.nd (pi_w (pi_list (pe_w (pv 3) xd_var)) xi_list) (blkOk_by (own := [("_law_note", 7)]) (N := ["_law_row", "_law_neck_here", "_law_most", "_law_found", "_law_k", "_law_string", "_law_place", "_law_note"]) (sc := (defScope s_law_tune)) (by decide +kernel)) (fun _ _ _ _ _ => (pg_name (i := 7) sc_law_tune.nd rfl (.inl rfl))) (fun _ _ _ _ _ => (pts_w pts_nil xt_yes)) (fun _ _ _ _ _ => (pe_w (pe_callB (call_min2 (by rfl)) (by rfl) T.m_min (by decide +kernel) (pa_w (pa_cons (pe_w pe_int (xd_c fun _ => .int)) (pa_w (pa_cons (pe_w (pv 7) xd_var) (pa_w pa_nil xa_nil)) xa_cons)) xa_cons)) (xd_cb cd_min2)))) (xn_lc gd_name stores_name)) xd_N)) xs_ret)) xs_frz))))) pure_law_tune
end

/-! ### _law_asked -/
structure Cas where
  t : List Int
  f : Int
  c : Int
  s : List Int
  l : List Int
  r : Int
  g : Int
  ns : List Int
structure Cas.Ok (k : Cas) : Prop where
  nk : OkNeck k.t k.f k.c
  sh : OkShape k.t k.f k.c k.s
  ch : OkChord k.l
  hd : OkHand [k.r, k.g]
  tn : OkTune k.ns
def Cas.d (k : Cas) : D := .tuple [neckD k.t k.f k.c, intsD k.s, intsD k.l, intsD [k.r, k.g], .list (k.ns.map .int)]
open Classical in
noncomputable def waysL (t : List Int) (f c : Int) (l : List Int) (r g : Int) : List (List Int) :=
  if h : ∃ ss : List (List Int), (∀ s, s ∈ ss ↔ IsWay t f c l r g s) ∧ ss.Nodup ∧ ss.Pairwise FWY.leL ∧ ss.length ≤ 1000 then h.choose else []
theorem ways_one {Q : List Int → Prop} {ss us : List (List Int)} (h1 : ∀ s, s ∈ ss ↔ Q s) (h2 : ∀ s, s ∈ us ↔ Q s) (n1 : ss.Nodup) (n2 : us.Nodup) (p1 : ss.Pairwise FWY.leL) (p2 : us.Pairwise FWY.leL) : ss = us :=
  List.Perm.eq_of_pairwise (fun _ _ _ _ h h' => FWY.lexI_eq h' h) p1 p2 ((List.perm_ext_iff_of_nodup n1 n2).mpr fun s => (h1 s).trans (h2 s).symm)
theorem waysL_eq {t : List Int} {f c : Int} {l : List Int} {r g : Int} {ss : List (List Int)} (h1 : ∀ s, s ∈ ss ↔ IsWay t f c l r g s) (h2 : ss.Nodup) (h3 : ss.Pairwise FWY.leL) (h4 : ss.length ≤ 1000) : ss = waysL t f c l r g := by
  unfold waysL
  have h : ∃ ss : List (List Int), (∀ s, s ∈ ss ↔ IsWay t f c l r g s) ∧ ss.Nodup ∧ ss.Pairwise FWY.leL ∧ ss.length ≤ 1000 := ⟨ss, h1, h2, h3, h4⟩
  rw [dif_pos h]
  obtain ⟨k1, k2, k3, _⟩ := h.choose_spec
  exact ways_one h1 k1 h2 k2 h3 k3
theorem waysL_len {t : List Int} {f c : Int} {l : List Int} {r g : Int} : (waysL t f c l r g).length ≤ 1000 ∧ ∀ s ∈ waysL t f c l r g, s.length = t.length := by
  unfold waysL
  split
  · rename_i h
    obtain ⟨k1, _, _, k4⟩ := h.choose_spec
    exact ⟨k4, fun s hs => ((k1 s).mp hs).ok.len⟩
  · exact ⟨by simp, fun s hs => (by cases hs)⟩
def dueL : D → List D
  | .tuple xs => xs
  | _ => [.tuple [], .list []]
noncomputable def askedL (w : Int) (k : Cas) : List D :=
  if w = 0 then [.list ((notesL k.t k.f k.c).map .int), .list ((missL (notesL k.t k.f k.c)).map .int), .list (placesL k.t k.f k.c (k.ns.headD 0))]
  else if w = 1 then [.list ((waysL k.t k.f k.c k.l k.r k.g).map tupD), .list ((soundL k.t k.s).map .int), slidD k.f k.c k.s 1]
  else if w = 2 then (if k.ns.all (playB k.t k.f k.c k.r) = true then rowsD k.t k.f k.c k.r k.ns else [])
  else if w = 3 then (if k.ns.all (playB k.t k.f k.c k.r) = true then [.int (moveL (posOf (playW k.t k.f k.c k.r k.ns))), .list ((playW k.t k.f k.c k.r k.ns).map trD)] else [.int 0, .list []])
  else if w = 4 then dueL (dueW (k.t.take 2) k.f k.c [k.l.take 2] k.r k.g)
  else [.str (textL k.s), intsD k.s]
def f_law_asked : Fd := fun ds R => ∃ (w : Int) (k : Cas), ds = [.int w, neckD k.t k.f k.c, intsD k.s, intsD k.l, intsD [k.r, k.g], .list (k.ns.map .int)] ∧ k.Ok ∧ 0 ≤ w ∧ w < 6 ∧ R (.list (askedL w k))
theorem len_law_asked : ∀ ds R, f_law_asked ds R → ds.length = 6 := by
  rintro ds R ⟨w, k, rfl, _⟩; rfl
theorem due_form14 {t : List Int} {f c : Int} {ls : List (List Int)} {r g : Int} : ∀ (us : List (List Int)) (acc : List (List Int × Nat)), (∀ u ∈ us, u.length ≤ 4) → (∀ p ∈ acc, p.1.length ≤ 4) →
    dueR t f c ls r g us acc = .none ∨ ∃ (u : List Int) (acc' : List (List Int × Nat)), dueR t f c ls r g us acc = .tuple [tupD u, .list (acc'.map pairR)] ∧ u.length ≤ 4 ∧ (∀ p ∈ acc', p.1.length ≤ 4) ∧ acc'.length ≤ acc.length + us.length
  | [], acc, _, _ => .inl rfl
  | u :: us, acc, hu, hp => by
    rw [dueR]
    cases hk : (lackW (tunedL t u) f c ls r g).head? with
    | none => exact .inr ⟨u, acc, rfl, hu u (List.mem_cons_self ..), hp, by omega⟩
    | some k =>
      rcases due_form14 us (acc ++ [(u, k)]) (fun v hv => hu v (List.mem_cons_of_mem _ hv)) (fun p hm => by
        rcases List.mem_append.mp hm with z | z
        · exact hp p z
        · rw [List.mem_singleton.mp z]
          exact hu u (List.mem_cons_self ..)) with z | ⟨v, acc', e, h1, h2, h3⟩
      · exact .inl z
      · exact .inr ⟨v, acc', e, h1, h2, by simp at h3 ⊢; omega⟩
theorem dueW_form14 {t : List Int} {f c : Int} {ls : List (List Int)} {r g : Int} (h4 : t.length ≤ 4) : dueW t f c ls r g = .none ∨ ∃ (u : List Int) (acc' : List (List Int × Nat)), dueW t f c ls r g = .tuple [tupD u, .list (acc'.map pairR)] ∧ u.length ≤ 4 ∧ (∀ p ∈ acc', p.1.length ≤ 4) ∧ acc'.length ≤ 625 := by
  have hl := rtS_len h4
  rcases due_form14 (t := t) (f := f) (c := c) (ls := ls) (r := r) (g := g) (rtS t) [] (fun u hu => by have := (rtS_is hu).1; omega) (fun p hp => by cases hp) with h | ⟨u, a, h1, h2, h3, h5⟩
  · exact .inl h
  · exact .inr ⟨u, a, h1, h2, h3, by simp at h5; omega⟩
theorem noList_tups : ∀ ss : List (List Int), noListA (ss.map tupD) = true
  | [] => rfl
  | s :: ss => by
    show (noListD (tupD s) && noListA (ss.map tupD)) = true
    rw [noList_tupD, noList_tups ss]
    rfl
theorem noList_places {t : List Int} {f c n : Int} : noListA (placesL t f c n) = true := by
  unfold placesL
  generalize (t.zipIdx.filter fun p => isPlace f c (n - p.1)) = l
  induction l with
  | nil => rfl
  | cons q l ih =>
    show (noListD (.tuple [.int (q.2 : Nat), .int (n - q.1)]) && noListA (l.map _)) = true
    rw [ih]
    rfl
theorem noList_slid {f c far : Int} {s : List Int} : noListD (slidD f c s far) = true := by
  unfold slidD
  split
  · exact noList_tupD
  · rfl
theorem neck_take {t : List Int} {f c : Int} (ok : OkNeck t f c) {n : Nat} (h : 1 ≤ n) : OkNeck (t.take n) f c := by
  have l1 := ok.l1
  have l2 := ok.l2
  exact ⟨by rw [List.length_take]; omega, by rw [List.length_take]; omega, fun x hx => ok.n x (List.mem_of_mem_take hx), ok.f0, ok.f1, ok.c0, ok.c1⟩
theorem chord_take {l : List Int} (oc : OkChord l) {n : Nat} (h : 1 ≤ n) : OkChord (l.take n) := by
  have l1 := oc.l1
  have l2 := oc.l2
  exact ⟨by rw [List.length_take]; omega, by rw [List.length_take]; omega, fun x hx => oc.n x (List.mem_of_mem_take hx), pw_rises ((rises_pw oc.up).sublist (List.take_sublist _ _))⟩
def W_law_asked : WS := (dSeq (dIfS (bB (dOp rdEq (dVar 0) (dC (.int 0)))) (dRetF (dLst (aCons (dFN (nCall f_notes (aCons (dVar 1) aNil))) (aCons (dFN (nCall f_missing (aCons (dVar 1) aNil))) (aCons (dFN (nCall f_places (aCons (dVar 1) (aCons (dOp rdIx (dVar 5) (dC (.int 0))) aNil)))) aNil))))) dNext) (dSeq (dIfS (bB (dOp rdEq (dVar 0) (dC (.int 1)))) (dRetF (dLst (aCons (dFN (nCall f_ways (aCons (dVar 1) (aCons (dVar 3) (aCons (dVar 4) aNil))))) (aCons (dFN (nCall f_sounded (aCons (dVar 1) (aCons (dVar 2) aNil)))) (aCons (dFlat (dCall f_slid (aCons (dVar 1) (aCons (dVar 2) (aCons (dC (.int 1)) aNil))))) aNil))))) dNext) (dSeq (dIfS (bB (dOp rdEq (dVar 0) (dC (.int 2)))) (dRetF (dOrF (dCall f_table (aCons (dVar 1) (aCons (dVar 5) (aCons (dOp rdIx (dVar 4) (dC (.int 0))) aNil)))) (dLst aNil))) dNext) (dSeq (dIfS (bB (dOp rdEq (dVar 0) (dC (.int 3)))) (dRetF (dListF (dOrF (dCall f_played (aCons (dVar 1) (aCons (dVar 5) (aCons (dOp rdIx (dVar 4) (dC (.int 0))) aNil)))) (dTup (aCons (dFlat (dC (.int 0))) (aCons (dLst aNil) aNil)))))) dNext) (dSeq (dIfS (bB (dOp rdEq (dVar 0) (dC (.int 4)))) (dRetF (dListF (dOrF (dCall f_retuned (aCons (dTup (aCons (dSl (dOp rdIx (dVar 1) (dC (.int 0))) oNone (oSome (dC (.int 2))) .tuple) (aCons (dOp rdIx (dVar 1) (dC (.int 1))) (aCons (dOp rdIx (dVar 1) (dC (.int 2))) aNil)))) (aCons (dLst (aCons (dSl (dVar 3) oNone (oSome (dC (.int 2))) .tuple) aNil)) (aCons (dVar 4) aNil)))) (dTup (aCons (dTup aNil) (aCons (dLst aNil) aNil)))))) dNext) (dRetF (dLst (aCons (dFlat (dCall f_written (aCons (dVar 1) (aCons (dVar 2) aNil)))) (aCons (dFlat (dCall f_read (aCons (dVar 1) (aCons (dCall f_written (aCons (dVar 1) (aCons (dVar 2) aNil))) aNil)))) aNil)))))))))
def N_law_asked : List Str := ["_law_way", "_law_neck_here", "_law_shape_here", "_law_chord_here", "_law_hand_here", "_law_tune_here"]
theorem sc_law_asked : FnScope ["_law_way", "_law_neck_here", "_law_shape_here", "_law_chord_here", "_law_hand_here", "_law_tune_here"] ["_law_way", "_law_neck_here", "_law_shape_here", "_law_chord_here", "_law_hand_here", "_law_tune_here"] (defScope s_law_asked) := ⟨rfl, rfl, rfl, by decide +kernel, rfl, by decide +kernel, by decide +kernel⟩
theorem pure_law_asked : ∀ ds R, f_law_asked ds R → W_law_asked { nx := fun _ => R .none, rt := fun d => noListD d = true ∧ R d, rf := R } (startD N_law_asked ds) := by
  rintro ds R ⟨w, ⟨t, f, c, s, l, r, g, ns⟩, rfl, ⟨nk, sh, ch, hd, tn⟩, w0, w6, h⟩
  simp only at nk sh ch hd tn
  have hr : 0 ≤ r ∧ r ≤ 6 := hd.at_ r (by simp)
  simp [W_law_asked, N_law_asked, nk, sh, ch, hd, tn, hr]
  unfold askedL at h
  simp only at h
  by_cases z0 : w = 0
  · rw [if_pos z0] at h ⊢
    cases ns with
    | nil => have := tn.l1; simp at this
    | cons n ns =>
      refine ⟨noList_intsR _, noList_intsR _, _, atI_0, ?_⟩
      exact places_iff.mpr ⟨nk, noList_places, h⟩
  rw [if_neg z0] at h ⊢
  by_cases z1 : w = 1
  · rw [if_pos z1] at h ⊢
    intro ss h1 h2 h3 h4
    rw [waysL_eq h1 h2 h3 h4]
    refine ⟨noList_tups _, noList_intsR _, noList_slid, fun z => ?_, h⟩
    have := noList_slid (f := f) (c := c) (far := 1) (s := s)
    rw [z] at this
    simp [noListD] at this
  rw [if_neg z1] at h ⊢
  have all1 : (∀ n ∈ ns, playB t f c r n = true) → ns.all (playB t f c r) = true := fun hp => List.all_eq_true.mpr hp
  have all0 : ∀ x ∈ ns, playB t f c r x = false → ¬ ns.all (playB t f c r) = true := fun x hx hp z => by
    have := List.all_eq_true.mp z x hx
    rw [hp] at this
    cases this
  by_cases z2 : w = 2
  · rw [if_pos z2] at h ⊢
    refine ⟨fun x hx hp => ?_, fun hp => ?_⟩
    · rw [if_neg (all0 x hx hp)] at h
      exact h
    · rw [if_pos (all1 hp)] at h
      split
      · rename_i e
        rw [e] at h
        exact h
      · exact h
  rw [if_neg z2] at h ⊢
  by_cases z3 : w = 3
  · rw [if_pos z3] at h ⊢
    refine ⟨fun x hx hp => ?_, fun hp => ?_⟩
    · rw [if_neg (all0 x hx hp)] at h
      exact ⟨rfl, h⟩
    · rw [if_pos (all1 hp)] at h
      refine ⟨fun x z => (by cases z), fun z => (by cases z), ?_⟩
      exact ⟨_, .tup _, h⟩
  rw [if_neg z3] at h ⊢
  by_cases z4 : w = 4
  · rw [if_pos z4] at h ⊢
    have e1 : cutD (t.map PyData.int) none (some 2) = (t.take 2).map .int := cut_n t 2
    have e2 : cutD (l.map PyData.int) none (some 2) = (l.take 2).map .int := cut_n l 2
    rw [e1, e2]
    show f_retuned [neckD (t.take 2) f c, .list ([l.take 2].map intsD), intsD [r, g]] _
    have lt : (t.take 2).length ≤ 2 := by rw [List.length_take]; omega
    refine retuned_iff.mpr ⟨neck_take nk (by decide), by omega, by simp, fun m hm => ?_, hd, ?_⟩
    · rw [List.mem_singleton.mp hm]
      exact chord_take ch (by decide)
    · rcases dueW_form14 (t := t.take 2) (f := f) (c := c) (ls := [l.take 2]) (r := r) (g := g) (by omega) with e | ⟨u, acc, e, hu, hp, hl⟩
      · rw [e] at h ⊢
        exact ⟨fun x z => (by cases z), fun z => (by cases z), h⟩
      · rw [e] at h ⊢
        exact ⟨fun x z => (by cases z), fun z => (by cases z), _, .tup _, h⟩
  rw [if_neg z4] at h ⊢
  exact ⟨rfl, t, f, c, s, rfl, nk, sh, noList_tupD, fun z => (by cases z), h⟩
section
variable {P : Program} {w : World} {g : Glb} {mg : Str → Option Value} {base : Heap}
theorem ok_law_asked {f : Addr} {fd : FuncData} (F : FunP g.K "_law_asked" s_law_asked f fd) (mgf : mg "_law_asked" = some (.ref f)) (T : Txt mg) (C_written : C8.Cal P w g.K mg base 3 "written" (spD g f_written) []) (C_read : C8.Cal P w g.K mg base 3 "read" (spD g f_read) []) (C_notes : C8.Cal P w g.K mg base 3 "notes" (spN g f_notes) []) (C_missing : C8.Cal P w g.K mg base 4 "missing" (spN g f_missing) []) (C_places : C8.Cal P w g.K mg base 3 "places" (spN g f_places) []) (C_ways : C8.Cal P w g.K mg base 4 "ways" (spN g f_ways) []) (C_sounded : C8.Cal P w g.K mg base 3 "sounded" (spN g f_sounded) []) (C_slid : C8.Cal P w g.K mg base 4 "slid" (spD g f_slid) []) (C_table : C8.Cal P w g.K mg base 6 "table" (spF g f_table) []) (C_played : C8.Cal P w g.K mg base 7 "played" (spF g f_played) []) (C_retuned : C8.Cal P w g.K mg base 6 "retuned" (spF g f_retuned) []) : C8.Cal P w g.K mg base 8 "_law_asked" (spF g f_law_asked) [] :=
  calF (N := ["_law_way", "_law_neck_here", "_law_shape_here", "_law_chord_here", "_law_hand_here", "_law_tune_here"]) (ps := ["_law_way", "_law_neck_here", "_law_shape_here", "_law_chord_here", "_law_hand_here", "_law_tune_here"]) (k := 7) (wb := W_law_asked) F mgf (F.bindsN fun _ _ _ _ _ _ us hl => match us, hl with | [_, _, _, _, _, _], _ => rfl) sc_law_asked len_law_asked (fun cdv A outer s H E r a ns hr =>
    (pssd_cons (ps_w (ps_if (pt_w (pt_cmpR (op_eqD hr.units) (pe_w (pv 0) xd_var) (pe_w pe_int (xd_c fun _ => .int)) (nomark _)) (xt_cmp od_eq)) (pssd_one (ps_w (ps_ret (pe_w (pe_lst (pa_w (pa_cons (pe_w (pe_w (C8.pe_c C_notes hr (by decide) (by rfl) (pa_w (pa_cons (pe_w (pv 1) xd_var) (pa_w pa_nil xa_nil)) xa_cons)) xn_call) xf_N) (pa_w (pa_cons (pe_w (pe_w (C8.pe_c C_missing hr (by decide) (by rfl) (pa_w (pa_cons (pe_w (pv 1) xd_var) (pa_w pa_nil xa_nil)) xa_cons)) xn_call) xf_N) (pa_w (pa_cons (pe_w (pe_w (C8.pe_c C_places hr (by decide) (by rfl) (pa_w (pa_cons (pe_w (pv 1) xd_var) (pa_w (pa_cons (pe_w (pe_ix ix_lt (pe_w (pv 5) xd_var) (pe_w pe_int (xd_c fun _ => .int)) (fun _ _ => rfl)) (xd_op od_ixL)) (pa_w pa_nil xa_nil)) xa_cons)) xa_cons)) xn_call) xf_N) (pa_w pa_nil xaf_nil)) xaf_cons)) xaf_cons)) xaf_cons)) xf_lst)) xs_retF)) pssd_nil) xs_if) (pssd_cons (ps_w (ps_if (pt_w (pt_cmpR (op_eqD hr.units) (pe_w (pv 0) xd_var) (pe_w pe_int (xd_c fun _ => .int)) (nomark _)) (xt_cmp od_eq)) (pssd_one (ps_w (ps_ret (pe_w (pe_lst (pa_w (pa_cons (pe_w (pe_w (C8.pe_c C_ways hr (by decide) (by rfl) (pa_w (pa_cons (pe_w (pv 1) xd_var) (pa_w (pa_cons (pe_w (pv 3) xd_var) (pa_w (pa_cons (pe_w (pv 4) xd_var) (pa_w pa_nil xa_nil)) xa_cons)) xa_cons)) xa_cons)) xn_call) xf_N) (pa_w (pa_cons (pe_w (pe_w (C8.pe_c C_sounded hr (by decide) (by rfl) (pa_w (pa_cons (pe_w (pv 1) xd_var) (pa_w (pa_cons (pe_w (pv 2) xd_var) (pa_w pa_nil xa_nil)) xa_cons)) xa_cons)) xn_call) xf_N) (pa_w (pa_cons (pe_w (pe_w (C8.pe_c C_slid hr (by decide) (by rfl) (pa_w (pa_cons (pe_w (pv 1) xd_var) (pa_w (pa_cons (pe_w (pv 2) xd_var) (pa_w (pa_cons (pe_w pe_int (xd_c fun _ => .int)) (pa_w pa_nil xa_nil)) xa_cons)) xa_cons)) xa_cons)) xd_call) xf_flat) (pa_w pa_nil xaf_nil)) xaf_cons)) xaf_cons)) xaf_cons)) xf_lst)) xs_retF)) pssd_nil) xs_if) (pssd_cons (ps_w (ps_if (pt_w (pt_cmpR (op_eqD hr.units) (pe_w (pv 0) xd_var) (pe_w pe_int (xd_c fun _ => .int)) (nomark _)) (xt_cmp od_eq)) (pssd_one (ps_w (ps_ret (pe_w (pe_orT (pe_w (C8.pe_c C_table hr (by decide) (by rfl) (pa_w (pa_cons (pe_w (pv 1) xd_var) (pa_w (pa_cons (pe_w (pv 5) xd_var) (pa_w (pa_cons (pe_w (pe_ix ix_lt (pe_w (pv 4) xd_var) (pe_w pe_int (xd_c fun _ => .int)) (fun _ _ => rfl)) (xd_op od_ixL)) (pa_w pa_nil xa_nil)) xa_cons)) xa_cons)) xa_cons)) xf_call) (pe_one (pe_w (pe_lst (pa_w pa_nil xaf_nil)) xf_lst))) xf_or)) xs_retF)) pssd_nil) xs_if) (pssd_cons (ps_w (ps_if (pt_w (pt_cmpR (op_eqD hr.units) (pe_w (pv 0) xd_var) (pe_w pe_int (xd_c fun _ => .int)) (nomark _)) (xt_cmp od_eq)) (pssd_one (ps_w (ps_ret (pe_w (pe_callTy call_list_of (by rfl) T.m_list (by decide +kernel) (pa_cons (pe_w (pe_orT (pe_w (C8.pe_c C_played hr (by decide) (by rfl) (pa_w (pa_cons (pe_w (pv 1) xd_var) (pa_w (pa_cons (pe_w (pv 5) xd_var) (pa_w (pa_cons (pe_w (pe_ix ix_lt (pe_w (pv 4) xd_var) (pe_w pe_int (xd_c fun _ => .int)) (fun _ _ => rfl)) (xd_op od_ixL)) (pa_w pa_nil xa_nil)) xa_cons)) xa_cons)) xa_cons)) xf_call) (pe_one (pe_w (pe_tup (pa_w (pa_cons (pe_w (pe_w pe_int (xd_c fun _ => .int)) xf_flat) (pa_w (pa_cons (pe_w (pe_lst (pa_w pa_nil xaf_nil)) xf_lst) (pa_w pa_nil xaf_nil)) xaf_cons)) xaf_cons)) xf_tup))) xf_or) pa_nil)) xf_list)) xs_retF)) pssd_nil) xs_if) (pssd_cons (ps_w (ps_if (pt_w (pt_cmpR (op_eqD hr.units) (pe_w (pv 0) xd_var) (pe_w pe_int (xd_c fun _ => .int)) (nomark _)) (xt_cmp od_eq)) (pssd_one (ps_w (ps_ret (pe_w (pe_callTy call_list_of (by rfl) T.m_list (by decide +kernel) (pa_cons (pe_w (pe_orT (pe_w (C8.pe_c C_retuned hr (by decide) (by rfl) (pa_w (pa_cons (pe_w (pe_tup (pa_w (pa_cons (pe_w (pe_slice sl_tupA (pe_w (pe_ix ix_lt (pe_w (pv 1) xd_var) (pe_w pe_int (xd_c fun _ => .int)) (fun _ _ => rfl)) (xd_op od_ixL)) (po_w po_none xo_none) (po_w (po_some (pe_w pe_int (xd_c fun _ => .int))) xo_some)) xd_slT) (pa_w (pa_cons (pe_w (pe_ix ix_lt (pe_w (pv 1) xd_var) (pe_w pe_int (xd_c fun _ => .int)) (fun _ _ => rfl)) (xd_op od_ixL)) (pa_w (pa_cons (pe_w (pe_ix ix_lt (pe_w (pv 1) xd_var) (pe_w pe_int (xd_c fun _ => .int)) (fun _ _ => rfl)) (xd_op od_ixL)) (pa_w pa_nil xa_nil)) xa_cons)) xa_cons)) xa_cons)) xd_tup) (pa_w (pa_cons (pe_w (pe_lst (pa_w (pa_cons (pe_w (pe_slice sl_tupA (pe_w (pv 3) xd_var) (po_w po_none xo_none) (po_w (po_some (pe_w pe_int (xd_c fun _ => .int))) xo_some)) xd_slT) (pa_w pa_nil xa_nil)) xa_cons)) xd_lst) (pa_w (pa_cons (pe_w (pv 4) xd_var) (pa_w pa_nil xa_nil)) xa_cons)) xa_cons)) xa_cons)) xf_call) (pe_one (pe_w (pe_tup (pa_w (pa_cons (pe_w (pe_tup (pa_w pa_nil xaf_nil)) xf_tup) (pa_w (pa_cons (pe_w (pe_lst (pa_w pa_nil xaf_nil)) xf_lst) (pa_w pa_nil xaf_nil)) xaf_cons)) xaf_cons)) xf_tup))) xf_or) pa_nil)) xf_list)) xs_retF)) pssd_nil) xs_if) (pssd_one (ps_w (ps_ret (pe_w (pe_lst (pa_w (pa_cons (pe_w (pe_w (C8.pe_c C_written hr (by decide) (by rfl) (pa_w (pa_cons (pe_w (pv 1) xd_var) (pa_w (pa_cons (pe_w (pv 2) xd_var) (pa_w pa_nil xa_nil)) xa_cons)) xa_cons)) xd_call) xf_flat) (pa_w (pa_cons (pe_w (pe_w (C8.pe_c C_read hr (by decide) (by rfl) (pa_w (pa_cons (pe_w (pv 1) xd_var) (pa_w (pa_cons (pe_w (C8.pe_c C_written hr (by decide) (by rfl) (pa_w (pa_cons (pe_w (pv 1) xd_var) (pa_w (pa_cons (pe_w (pv 2) xd_var) (pa_w pa_nil xa_nil)) xa_cons)) xa_cons)) xd_call) (pa_w pa_nil xa_nil)) xa_cons)) xa_cons)) xd_call) xf_flat) (pa_w pa_nil xaf_nil)) xaf_cons)) xaf_cons)) xf_lst)) xs_retF)))))))) pure_law_asked
end

/-! ### _law_copied -/
def f_law_copied : Fd := fun ds R => ∃ xs : List D, ds = [.list xs] ∧ xs.length ≤ 1000000 ∧ (∀ x ∈ xs, ∀ kvs, x ≠ .dict kvs) ∧ R (.list xs)
theorem len_law_copied : ∀ ds R, f_law_copied ds R → ds.length = 1 := by
  rintro ds R ⟨xs, rfl, _⟩; rfl
@[simp] theorem law_copied_iff {xs : List D} {R : D → Prop} : f_law_copied [.list xs] R ↔ xs.length ≤ 1000000 ∧ (∀ x ∈ xs, ∀ kvs, x ≠ .dict kvs) ∧ R (.list xs) := by
  constructor
  · rintro ⟨xs', e, h⟩; simp at e; obtain rfl := e; exact h
  · intro h; exact ⟨_, rfl, h⟩
def W_law_copied : WS := (dRet (dN (dLcW (iLst (dVar 0)) (tgN 1) (fun _ R => R true) (dIf (bTru (dIsi "list" (dVar 1))) (dCall rdList (aCons (dVar 1) aNil)) (dVar 1)) [1])))
def N_law_copied : List Str := ["_law_told", "_law_one"]
theorem sc_law_copied : FnScope ["_law_told", "_law_one"] ["_law_told"] (defScope s_law_copied) := ⟨rfl, rfl, rfl, by decide +kernel, rfl, by decide +kernel, by decide +kernel⟩
theorem pure_law_copied : ∀ ds R, f_law_copied ds R → W_law_copied { nx := fun _ => R .none, rt := R } (startD N_law_copied ds) := by
  rintro ds R ⟨xs, rfl, hl, hx, h⟩
  simp [W_law_copied, N_law_copied]
  refine ⟨hl, lcRun_det some _ _ (fun x hm K kk => ?_) ?_⟩
  · have nx := hx x hm
    cases x with
    | dict kvs => exact absurd rfl (nx kvs)
    | list es => simpa [tyN, isN] using kk
    | _ => simpa [tyN, isN] using kk
  · rw [List.nil_append, List.filterMap_some]
    exact h
section
variable {P : Program} {w : World} {g : Glb} {mg : Str → Option Value} {base : Heap}
theorem ok_law_copied {f : Addr} {fd : FuncData} (F : FunP g.K "_law_copied" s_law_copied f fd) (mgf : mg "_law_copied" = some (.ref f)) (T : Txt mg)  : C8.Cal P w g.K mg base 1 "_law_copied" (spD g f_law_copied) [] :=
  calD (N := ["_law_told", "_law_one"]) (ps := ["_law_told"]) (k := 0) (wb := W_law_copied) F mgf (F.bindsN fun _ _ _ _ _ _ us hl => match us, hl with | [_], _ => rfl) sc_law_copied len_law_copied (fun cdv A outer s H E r a ns hr =>
    (pssd_one (ps_w (ps_ret (pe_w (pe_w (pe_lc (own := [("_law_one", 1)]) (g := gName 1) rfl sc_law_copied.nd (pi_w (pi_list (pe_w (pv 0) xd_var)) xi_list) (blkOk_by (own := [("_law_one", 1)]) (N := ["_law_told", "_law_one"]) (sc := (defScope s_law_copied)) (by decide +kernel)) (fun _ _ _ _ _ => (pg_name (i := 1) sc_law_copied.nd rfl (.inl rfl))) (fun _ _ _ _ _ => (pts_w pts_nil xt_yes)) (fun _ _ _ _ _ => (pe_w (pe_ifExp (pt_w (pt_truth (pe_w (pe_callB call_isi (by rfl) T.m_isinstance (by decide +kernel) (pa_cons (pe_w (pv 1) xd_var) (pa_cons (pe_bltn (v := .ty "list") (by rfl) T.m_list (by decide +kernel) rfl) pa_nil))) (xd_isi (by decide))) (by intro _; rfl)) xt_tru) (pe_w (pe_callTy call_list_of (by rfl) T.m_list (by decide +kernel) (pa_w (pa_cons (pe_w (pv 1) xd_var) (pa_w pa_nil xa_nil)) xa_cons)) (xd_cb cd_list)) (pe_w (pv 1) xd_var)) xd_if))) (xn_lc gd_name stores_name)) xd_N)) xs_ret))) pure_law_copied
end

/-! ### the law of k14 -/
def W_law_turn_9 : WS := dNext
def W_law_turn_6 : WS := (dSmashAll 13 14 W_law_turn_9)
def W_law_turn_5 : WS := (dSeq (dIfS (bOr (bNot (bTru (dCall f_law_alike (aCons (dVar 13) (aCons (dOp rdIx (dOp rdIx (dVar 5) (dVar 3)) (dVar 10)) aNil))))) (bB (dOp rdNe (dVar 12) (dVar 9)))) (dRet (dC (.bool false))) dNext) W_law_turn_6)
def W_law_turn_4 : WS := (dPin [2, 5, 4, 6, 7, 8, 9, 12] (dSeq (dAsgF 13 4 f_law_asked (aCons (dVar 10) (aCons (dVar 4) (aCons (dVar 6) (aCons (dVar 7) (aCons (dVar 8) (aCons (dVar 12) aNil))))))) W_law_turn_5))
def W_law_turn_3 : WS := (dSeq (dAsg 12 (dCall rdList (aCons (dVar 9) aNil))) W_law_turn_4)
def W_law_turn_2 : WS := (dSeq (dUnp [4, 6, 7, 8, 9] (dOp rdIx (dVar 2) (dVar 3))) W_law_turn_3)
def W_law_turn_1 : WS := (dSeq (dAsg 10 (dCall f_law_taken (aCons (dVar 1) (aCons (dC (.int 6)) aNil)))) W_law_turn_2)
def W_law_turn_0 : WS := (dSeq (dAsg 3 (dCall f_law_taken (aCons (dVar 1) (aCons (dC (.int 2)) aNil)))) W_law_turn_1)
def W_law_b_5 : WS := (dRet (dC (.bool true)))
def W_law_b_4 : WS := (dSeq (dForR (iR1 (aCons (dOp rdAdd (dC (.int 1)) (dCall f_law_taken (aCons (dVar 1) (aCons (dC (.int 14)) aNil)))) aNil)) (tgN 11) W_law_turn_0) W_law_b_5)
def W_law_b_3 : WS := (dSeq (dFor (iLst (dVar 2)) (tgT [4, 6, 7, 8, 9]) (dApp 5 (dN (dLcW (iR1 (aCons (dC (.int 6)) aNil)) (tgN 10) (fun _ R => R true) (dCall f_law_copied (aCons (dCall f_law_asked (aCons (dVar 10) (aCons (dVar 4) (aCons (dVar 6) (aCons (dVar 7) (aCons (dVar 8) (aCons (dVar 9) aNil))))))) aNil)) [10])))) (dFrz 5 W_law_b_4))
def W_law_b_2 : WS := (dSeq (dOwn 5 (nLst aNil)) W_law_b_3)
def W_law_b_1 : WS := (dSeq (dForR (iR1 (aCons (dC (.int 2)) aNil)) (tgN 3) (dSeq (dAsg 4 (dCall f_law_neck (aCons (dVar 1) (aCons (dC (.int 4)) aNil)))) (dApp 2 (dTup (aCons (dVar 4) (aCons (dCall f_law_shape (aCons (dVar 1) (aCons (dVar 4) aNil))) (aCons (dCall f_law_chord (aCons (dVar 1) (aCons (dVar 4) aNil))) (aCons (dCall f_law_hand (aCons (dVar 1) aNil)) (aCons (dCall f_law_tune (aCons (dVar 1) (aCons (dVar 4) (aCons (dC (.int 9)) aNil)))) aNil))))))))) (dFrz 2 W_law_b_2))
def W_law_b_0 : WS := (dSeq (dOwn 2 (nLst aNil)) W_law_b_1)
def W_law : WS := (dSeq (dOwn 2 (nLst aNil)) (dSeq (dForR (iR1 (aCons (dC (.int 2)) aNil)) (tgN 3) (dSeq (dAsg 4 (dCall f_law_neck (aCons (dVar 1) (aCons (dC (.int 4)) aNil)))) (dApp 2 (dTup (aCons (dVar 4) (aCons (dCall f_law_shape (aCons (dVar 1) (aCons (dVar 4) aNil))) (aCons (dCall f_law_chord (aCons (dVar 1) (aCons (dVar 4) aNil))) (aCons (dCall f_law_hand (aCons (dVar 1) aNil)) (aCons (dCall f_law_tune (aCons (dVar 1) (aCons (dVar 4) (aCons (dC (.int 9)) aNil)))) aNil))))))))) (dFrz 2 (dSeq (dOwn 5 (nLst aNil)) (dSeq (dFor (iLst (dVar 2)) (tgT [4, 6, 7, 8, 9]) (dApp 5 (dN (dLcW (iR1 (aCons (dC (.int 6)) aNil)) (tgN 10) (fun _ R => R true) (dCall f_law_copied (aCons (dCall f_law_asked (aCons (dVar 10) (aCons (dVar 4) (aCons (dVar 6) (aCons (dVar 7) (aCons (dVar 8) (aCons (dVar 9) aNil))))))) aNil)) [10])))) (dFrz 5 (dSeq (dForR (iR1 (aCons (dOp rdAdd (dC (.int 1)) (dCall f_law_taken (aCons (dVar 1) (aCons (dC (.int 14)) aNil)))) aNil)) (tgN 11) W_law_turn_0) (dRet (dC (.bool true))))))))))
theorem eq_law : W_law = W_law_b_0 := rfl
def N_law : List Str := ["_law_script", "_law_row", "_law_some", "_law_k", "_law_neck_here", "_law_kept", "_law_shape_here", "_law_chord_here", "_law_hand_here", "_law_tune_here", "_law_way", "_law_turn", "_law_handed", "_law_told", "_law_one"]
theorem sc_law : FnScope ["_law_script", "_law_row", "_law_some", "_law_k", "_law_neck_here", "_law_kept", "_law_shape_here", "_law_chord_here", "_law_hand_here", "_law_tune_here", "_law_way", "_law_turn", "_law_handed", "_law_told", "_law_one"] ["_law_script"] (defScope s_law) := ⟨rfl, rfl, rfl, by decide +kernel, rfl, by decide +kernel, by decide +kernel⟩
theorem two_ints {l : List Int} (h : l.length ≤ 1000) : TwoD (.list (l.map .int)) := .inr ⟨_, rfl, noList_intsR _, by rw [List.length_map]; exact h⟩
theorem two_A {ds : List D} (n : noListA ds = true) (h : ds.length ≤ 1000) : TwoD (.list ds) := .inr ⟨_, rfl, n, h⟩
theorem notes_l81 (t : List Int) (f c : Int) : (notesL t f c).length ≤ 81 := by
  unfold notesL
  refine Nat.le_trans (List.length_filter_le _ _) (by simp)
theorem notes_in {t : List Int} {f c n : Int} (h : n ∈ notesL t f c) : 0 ≤ n ∧ n ≤ 80 := by
  unfold notesL at h
  obtain ⟨h, _⟩ := List.mem_filter.mp h
  obtain ⟨k, hk, rfl⟩ := List.mem_map.mp h
  have := List.mem_range.mp hk
  omega
theorem miss_len (t : List Int) (f c : Int) : (missL (notesL t f c)).length ≤ 81 := by
  unfold missL
  refine Nat.le_trans (List.length_filter_le _ _) ?_
  rw [List.length_map, List.length_range]
  have h1 : (notesL t f c).getLastD 0 ≤ 80 := by
    rw [List.getLastD_eq_getLast?]
    cases e : (notesL t f c).getLast? with
    | none => simp
    | some x => exact (notes_in (List.mem_of_getLast? e)).2
  have h2 : 0 ≤ (notesL t f c).headD 0 := by
    cases e : notesL t f c with
    | nil => simp
    | cons x l => exact (notes_in (n := x) (t := t) (f := f) (c := c) (by rw [e]; exact List.mem_cons_self ..)).1
  omega
theorem places_len (t : List Int) (f c n : Int) : (placesL t f c n).length ≤ t.length := by
  unfold placesL
  rw [List.length_map]
  refine Nat.le_trans (List.length_filter_le _ _) (by simp)
theorem rows_in {t : List Int} {f c r : Int} : ∀ (ns : List Int), ∀ l ∈ rowsRev t f c r ns, l.length = posN f c
  | [], l, h => by cases h
  | n :: ns, l, h => by
    rcases List.mem_cons.mp h with rfl | h
    · exact rowAt_len _
    · exact rows_in ns l h
theorem dueL_two {t : List Int} {f c : Int} {ls : List (List Int)} {r g : Int} (h4 : t.length ≤ 4) : (dueL (dueW t f c ls r g)).length ≤ 1000 ∧ ∀ d ∈ dueL (dueW t f c ls r g), TwoD d ∧ Al 3 d := by
  rcases dueW_form14 (t := t) (f := f) (c := c) (ls := ls) (r := r) (g := g) h4 with e | ⟨u, acc, e, hu, hp, hl⟩
  · rw [e]
    refine ⟨by decide, fun d hd => ?_⟩
    have hd : d ∈ [PyData.tuple [], PyData.list []] := hd
    simp only [List.mem_cons, List.not_mem_nil, or_false] at hd
    rcases hd with rfl | rfl
    · exact ⟨.inl rfl, .tup (by simp) fun x hx => (by cases hx)⟩
    · exact ⟨two_A rfl (by simp), .lst (by simp) fun x hx => (by cases hx)⟩
  · rw [e]
    refine ⟨by show 2 ≤ 1000; decide, fun d hd => ?_⟩
    have hd : d ∈ [tupD u, PyData.list (acc.map pairR)] := hd
    simp only [List.mem_cons, List.not_mem_nil, or_false] at hd
    rcases hd with rfl | rfl
    · exact ⟨.inl noList_tupD, Al.ints (by omega)⟩
    · refine ⟨two_A (noList_pairs _) (by rw [List.length_map]; omega), .lst (by rw [List.length_map]; omega) fun y hy => ?_⟩
      obtain ⟨p, hm, rfl⟩ := List.mem_map.mp hy
      refine .tup (by simp) fun z hz => ?_
      rcases List.mem_cons.mp hz with rfl | hz
      · exact Al.ints (by have := hp p hm; omega)
      · rw [List.mem_singleton.mp hz]
        exact .int _
theorem pos_len {t : List Int} {f c r : Int} {ns : List Int} : (playW t f c r ns).length ≤ ns.length := by
  unfold playW
  rw [List.length_map, List.length_zip]
  exact Nat.min_le_left _ _
theorem asked_two {k : Cas} (ok : k.Ok) {w : Int} (w0 : 0 ≤ w) (w6 : w < 6) : (askedL w k).length ≤ 1000 ∧ ∀ d ∈ askedL w k, TwoD d ∧ Al 3 d := by
  obtain ⟨t, f, c, s, l, r, g, ns⟩ := k
  obtain ⟨nk, sh, ch, hd, tn⟩ := ok
  simp only at nk sh ch hd tn
  have t6 := nk.l2
  have sl := sh.len
  unfold askedL
  simp only
  by_cases z0 : w = 0
  · rw [if_pos z0]
    refine ⟨by simp, fun d hd => ?_⟩
    simp only [List.mem_cons, List.not_mem_nil, or_false] at hd
    have h1 := notes_l81 t f c
    have h2 := miss_len t f c
    rcases hd with rfl | rfl | rfl
    · exact ⟨two_ints (by omega), Al.intsL (by omega)⟩
    · exact ⟨two_ints (by omega), Al.intsL (by omega)⟩
    · have hl := places_len t f c (ns.headD 0)
      refine ⟨two_A noList_places (by omega), .lst (by omega) fun x hx => ?_⟩
      unfold placesL at hx
      obtain ⟨p, _, rfl⟩ := List.mem_map.mp hx
      refine .tup (by simp) fun z hz => ?_
      rcases List.mem_cons.mp hz with rfl | hz
      · exact .int _
      · rw [List.mem_singleton.mp hz]
        exact .int _
  rw [if_neg z0]
  by_cases z1 : w = 1
  · rw [if_pos z1]
    refine ⟨by simp, fun d hd => ?_⟩
    simp only [List.mem_cons, List.not_mem_nil, or_false] at hd
    obtain ⟨wl, ws⟩ := waysL_len (t := t) (f := f) (c := c) (l := l) (r := r) (g := g)
    rcases hd with rfl | rfl | rfl
    · refine ⟨two_A (noList_tups _) (by rw [List.length_map]; exact wl), .lst (by rw [List.length_map]; omega) fun x hx => ?_⟩
      obtain ⟨u, hu, rfl⟩ := List.mem_map.mp hx
      have := ws u hu
      exact Al.ints (by omega)
    · have hz : (soundL t s).length ≤ t.length := by
        unfold soundL
        rw [List.length_map]
        refine Nat.le_trans (List.length_filter_le _ _) ?_
        rw [List.length_zip]
        exact Nat.min_le_left _ _
      exact ⟨two_ints (by omega), Al.intsL (by omega)⟩
    · refine ⟨.inl noList_slid, ?_⟩
      unfold slidD
      split
      · exact Al.ints (by simp; omega)
      · exact .non
  rw [if_neg z1]
  by_cases z2 : w = 2
  · rw [if_pos z2]
    have n30 := tn.l2
    have hp := posN_le (f := f) (c := c) nk.f1 nk.c0
    split
    · refine ⟨?_, fun d hd => ?_⟩
      · unfold rowsD
        rw [List.length_map, List.length_reverse, rowsRev_len, List.length_reverse]
        omega
      · unfold rowsD at hd
        obtain ⟨u, hu, rfl⟩ := List.mem_map.mp hd
        have := rows_in _ u (List.mem_reverse.mp hu)
        exact ⟨two_ints (by omega), Al.intsL (by omega)⟩
    · exact ⟨by simp, fun d hd => by cases hd⟩
  rw [if_neg z2]
  by_cases z3 : w = 3
  · rw [if_pos z3]
    have n30 := tn.l2
    split
    · refine ⟨by simp, fun d hd => ?_⟩
      simp only [List.mem_cons, List.not_mem_nil, or_false] at hd
      have hl := pos_len (t := t) (f := f) (c := c) (r := r) (ns := ns)
      rcases hd with rfl | rfl
      · exact ⟨.inl rfl, .int _⟩
      · refine ⟨two_A (noList_tr _) (by rw [List.length_map]; omega), .lst (by rw [List.length_map]; omega) fun x hx => ?_⟩
        obtain ⟨u, hu, rfl⟩ := List.mem_map.mp hx
        refine .tup (by simp) fun z hz => ?_
        rcases List.mem_cons.mp hz with rfl | hz
        · exact .int _
        rcases List.mem_cons.mp hz with rfl | hz
        · exact .int _
        · rw [List.mem_singleton.mp hz]
          exact .int _
    · refine ⟨by simp, fun d hd => ?_⟩
      simp only [List.mem_cons, List.not_mem_nil, or_false] at hd
      rcases hd with rfl | rfl
      · exact ⟨.inl rfl, .int _⟩
      · exact ⟨two_A rfl (by simp), .lst (by simp) fun x hx => (by cases hx)⟩
  rw [if_neg z3]
  by_cases z4 : w = 4
  · rw [if_pos z4]
    exact dueL_two (by rw [List.length_take]; omega)
  rw [if_neg z4]
  refine ⟨by simp, fun d hd => ?_⟩
  simp only [List.mem_cons, List.not_mem_nil, or_false] at hd
  rcases hd with rfl | rfl
  · exact ⟨.inl rfl, .str _ (text_good nk sh).1.shaped⟩
  · exact ⟨.inl noList_tupD, Al.ints (by omega)⟩
theorem two_dict {d : D} (h : TwoD d) : ∀ kvs, d ≠ .dict kvs := fun kvs z => by
  subst z
  rcases h with h | ⟨es, e, _⟩
  · simp [noListD] at h
  · cases e
noncomputable def rowK (k : Cas) : List D := ([0, 1, 2, 3, 4, 5] : List Int).map fun w => .list (askedL w k)
theorem rowK_at {k : Cas} {w : Int} (w0 : 0 ≤ w) (w6 : w < 6) : atI (rowK k) w = some (.list (askedL w k)) := by
  obtain ⟨n, rfl⟩ : ∃ n : Nat, w = n := ⟨w.toNat, by omega⟩
  have hn : n < 6 := by omega
  refine atI_nat ?_
  rcases n with _ | _ | _ | _ | _ | _ | n
  · rfl
  · rfl
  · rfl
  · rfl
  · rfl
  · rfl
  · omega
theorem kept_one {k : Cas} (ok : k.Ok) {De : EndsD} {ds : List D} (x2 x3 : Sl) (hl : ds.length < 1000)
    (h : De.nx [.un, .val (.dict []), x2, x3, .val (neckD k.t k.f k.c), .own (ds ++ [.list (rowK k)]), .val (intsD k.s), .val (intsD k.l), .val (intsD [k.r, k.g]), .val (.list (k.ns.map .int)), .un, .un, .un, .un, .un]) :
    dApp 5 (dN (dLcW (iR1 (aCons (dC (PyData.int 6)) aNil)) (tgN 10) (fun x R => R true) (dCall f_law_copied (aCons (dCall f_law_asked (aCons (dVar 10) (aCons (dVar 4) (aCons (dVar 6) (aCons (dVar 7) (aCons (dVar 8) (aCons (dVar 9) aNil))))))) aNil)) [10])) De
      [.un, .val (.dict []), x2, x3, .val (neckD k.t k.f k.c), .own ds, .val (intsD k.s), .val (intsD k.l), .val (intsD [k.r, k.g]), .val (.list (k.ns.map .int)), .un, .un, .un, .un, .un] := by
  have e6 : rngD 0 6 = ([0, 1, 2, 3, 4, 5] : List Int).map .int := rfl
  simp
  rw [e6]
  refine lcRun_ints (fun _ => true) (fun w => .list (askedL w k)) _ (fun w hw K kk => ?_) ?_
  · have hw : 0 ≤ w ∧ w < 6 := by
      simp only [List.mem_cons, List.not_mem_nil, or_false] at hw
      omega
    obtain ⟨a2, al⟩ := asked_two ok hw.1 hw.2
    simp
    refine ⟨w, k, rfl, ok, hw.1, hw.2, ?_⟩
    simp
    exact ⟨by omega, fun x hx => two_dict (al x hx).1, by simpa using kk⟩
  · rw [List.filter_eq_self.mpr (by simp)]
    exact ⟨by omega, h⟩
theorem k14_turn {k0 k1 : Cas} (o0 : k0.Ok) (o1 : k1.Ok) {De : EndsD} (hpin : De.pin = true) (x3 x4 x6 x7 x8 x9 x10 x11 x12 x13 x14 : Sl)
    (h11 : ∃ i : Int, x11 = .val (.int i))
    (hn : ∀ x3 x4 x6 x7 x8 x9 x10 x11 x12 x13 x14 : Sl, De.nx [.un, .val (.dict []), .val (.list [k0.d, k1.d]), x3, x4, .val (.list [.list (rowK k0), .list (rowK k1)]), x6, x7, x8, x9, x10, x11, x12, x13, x14]) :
    W_law_turn_0 De [.un, .val (.dict []), .val (.list [k0.d, k1.d]), x3, x4, .val (.list [.list (rowK k0), .list (rowK k1)]), x6, x7, x8, x9, x10, x11, x12, x13, x14] := by
  obtain ⟨i, rfl⟩ := h11
  simp [W_law_turn_0, W_law_turn_1, W_law_turn_2, W_law_turn_3, W_law_turn_4, W_law_turn_5, W_law_turn_6]
  intro v v0 v2 u u0 u6
  obtain ⟨k, ok, ea, eb⟩ : ∃ k : Cas, k.Ok ∧ atI [k0.d, k1.d] v = some k.d ∧ atI [PyData.list (rowK k0), PyData.list (rowK k1)] v = some (.list (rowK k)) := by
    by_cases z : v = 0
    · subst z
      exact ⟨k0, o0, atI_0, atI_0⟩
    · have z : v = 1 := by omega
      subst z
      exact ⟨k1, o1, atI_1, atI_1⟩
  obtain ⟨a2, al⟩ := asked_two ok u0 u6
  refine ⟨_, ea, _, rfl, rfl, ?_⟩
  simp [hpin]
  intro Fb hB
  refine ⟨u, k, rfl, ok, u0, u6, _, eb, rowK k, .lst _, _, rowK_at u0 u6, rfl, .lst (by omega) fun x hx => (al x hx).2, Fb, _, ⟨rfl, rfl⟩, hB, rfl, a2, fun d hd => (al d hd).1, ?_⟩
  exact hn _ _ _ _ _ _ _ _ _ _ _
theorem k14_4 {k0 k1 : Cas} (o0 : k0.Ok) (o1 : k1.Ok) {De : EndsD} (hpin : De.pin = true) (hrt : De.rt (.bool true)) (x3 x4 x6 x7 x8 x9 x10 : Sl) : W_law_b_4 De [.un, .val (.dict []), .val (.list [k0.d, k1.d]), x3, x4, .val (.list [.list (rowK k0), .list (rowK k1)]), x6, x7, x8, x9, x10, .un, .un, .un, .un] := by
  simp [W_law_b_4, W_law_b_5]
  intro v v0 v14
  refine ⟨by omega, by omega, ?_⟩
  refine forRunR_go (fun ds e => (∀ d ∈ ds, ∃ i : Int, d = .int i) ∧ ∃ x3 x4 x6 x7 x8 x9 x10 x11 x12 x13 x14 : Sl, e = [.un, .val (.dict []), .val (.list [k0.d, k1.d]), x3, x4, .val (.list [.list (rowK k0), .list (rowK k1)]), x6, x7, x8, x9, x10, x11, x12, x13, x14]) ?_ ?_ _ _ ⟨fun d hd => ?_, _, _, _, _, _, _, _, _, _, _, _, rfl⟩
  · rintro d ds e N ⟨hds, x3, x4, x6, x7, x8, x9, x10, x11, x12, x13, x14, rfl⟩ kk
    obtain ⟨i, rfl⟩ := hds d List.mem_cons_self
    refine k14_turn (De := { nx := N, rt := De.rt, rn := De.rn, bk := dRet (dC (PyData.bool true)) De, ct := N, ex := De.ex, base := De.base, pin := De.pin, rf := De.rf }) o0 o1 hpin _ _ _ _ _ _ _ _ _ _ _ ⟨i, rfl⟩ fun x3 x4 x6 x7 x8 x9 x10 x11 x12 x13 x14 => kk _ ⟨fun d hd => hds d (List.mem_cons_of_mem _ hd), _, _, _, _, _, _, _, _, _, _, _, rfl⟩
  · rintro e ⟨_, x3, x4, x6, x7, x8, x9, x10, x11, x12, x13, x14, rfl⟩
    simpa using hrt
  · unfold rngD at hd
    obtain ⟨i, _, rfl⟩ := List.mem_map.mp hd
    exact ⟨_, rfl⟩
theorem pure_law (B : Hp → Prop) : W_law { nx := fun _ => False, rt := fun d => d = .bool true, base := B, pin := true } (.un :: .val (.dict []) :: List.replicate (N_law.length - 2) .un) := by
  have hstart : (.un :: .val (.dict []) :: List.replicate (N_law.length - 2) .un : Sg) = [.un, .val (.dict []), .un, .un, .un, .un, .un, .un, .un, .un, .un, .un, .un, .un, .un] := rfl
  rw [eq_law, hstart]
  simp [W_law_b_0, W_law_b_1]
  refine forRunR_go (fun ds e => (∀ d ∈ ds, ∃ i : Int, d = .int i) ∧ ∃ (ks : List Cas) (x3 x4 : Sl), (∀ k ∈ ks, k.Ok) ∧ ks.length + ds.length = 2 ∧ e = [.un, .val (.dict []), .own (ks.map Cas.d), x3, x4, .un, .un, .un, .un, .un, .un, .un, .un, .un, .un]) ?_ ?_ _ _ ⟨fun d hd => ?_, [], _, _, fun k hk => (by cases hk), rfl, rfl⟩
  · rintro d ds e N ⟨hds, ks, x3, x4, hk, hl, rfl⟩ kk
    obtain ⟨i, rfl⟩ := hds d List.mem_cons_self
    simp
    intro t f c nk _
    refine ⟨nk, fun s sh => ⟨nk, fun l ch r g r0 r6 g0 g6 => ⟨nk, fun ns tn _ => ⟨by simp at hl; omega, kk _ ⟨fun d hd => hds d (List.mem_cons_of_mem _ hd), ks ++ [⟨t, f, c, s, l, r, g, ns⟩], _, _, fun k hm => ?_, by simp at hl ⊢; omega, by rw [List.map_append]; rfl⟩⟩⟩⟩⟩
    rcases List.mem_append.mp hm with z | z
    · exact hk k z
    · rw [List.mem_singleton.mp z]
      exact ⟨nk, sh, ch, ⟨rfl, by simp; omega⟩, tn⟩
  · rintro e ⟨_, ks, x3, x4, hk, hl, rfl⟩
    obtain ⟨k0, k1, rfl⟩ : ∃ k0 k1, ks = [k0, k1] := by
      match ks, hl with
      | [a, b], _ => exact ⟨a, b, rfl⟩
    have o0 := hk k0 (by simp)
    have o1 := hk k1 (by simp)
    show (dFrz 2 W_law_b_2) _ _
    simp [W_law_b_2, W_law_b_3]
    have c0 : k0.d = .tuple [neckD k0.t k0.f k0.c, intsD k0.s, intsD k0.l, intsD [k0.r, k0.g], .list (k0.ns.map .int)] := rfl
    have c1 : k1.d = .tuple [neckD k1.t k1.f k1.c, intsD k1.s, intsD k1.l, intsD [k1.r, k1.g], .list (k1.ns.map .int)] := rfl
    unfold forRun
    rw [c0]
    refine ⟨_, rfl, rfl, kept_one o0 (ds := []) _ _ (by simp) ?_⟩
    unfold forRun
    rw [← c0, c1]
    refine ⟨_, rfl, rfl, kept_one o1 (ds := [.list (rowK k0)]) _ _ (by simp) ?_⟩
    unfold forRun
    rw [← c1]
    show (dFrz 5 W_law_b_4) _ _
    exact ⟨_, rfl, k14_4 o0 o1 rfl rfl _ _ _ _ _ _ _⟩
  · unfold rngD at hd
    obtain ⟨i, _, rfl⟩ := List.mem_map.mp hd
    exact ⟨_, rfl⟩
section
variable {P : Program} {w : World} {g : Glb} {mg : Str → Option Value} {base : Heap}
theorem ok_law {f : Addr} {fd : FuncData} (F : FunP g.K "law" s_law f fd) (T : Txt mg) (C_law_neck : C8.Cal P w g.K mg base 2 "_law_neck" (spD g f_law_neck) []) (C_law_taken : C8.Cal P w g.K mg base 1 "_law_taken" (spD g f_law_taken) []) (C_law_asked : C8.Cal P w g.K mg base 8 "_law_asked" (spF g f_law_asked) []) (C_law_shape : C8.Cal P w g.K mg base 2 "_law_shape" (spD g f_law_shape) []) (C_law_chord : C8.Cal P w g.K mg base 3 "_law_chord" (spD g f_law_chord) []) (C_law_hand : C8.Cal P w g.K mg base 2 "_law_hand" (spD g f_law_hand) []) (C_law_tune : C8.Cal P w g.K mg base 2 "_law_tune" (spD g f_law_tune) []) (C_law_copied : C8.Cal P w g.K mg base 1 "_law_copied" (spD g f_law_copied) []) (C_law_alike : C8.Cal P w g.K mg base 5 "_law_alike" (spD g f_law_alike) []) : FnOk P w g.K mg base CX0 9 f fd ["_law_script"] (spLaw g) := by
  refine F.ok (k := 8) sc_law (fun vs H Q E h => ?_) (fun cdv A outer s H vs Q E hr h => ?_)
  · obtain ⟨a, ns, rfl, _⟩ := h
    rfl
  · obtain ⟨a, ns, rfl, hP, hs, k⟩ := h
    refine ⟨_, PSs.nox (pss_cons (ps_set (i := 1) sc_law.nd rfl (.inl rfl) (pe_lst (pa_cons (pv 0) (pa_cons pe_int (pa_cons pe_int (pa_cons pe_int pa_nil)))))) (pss_any (g := g) (E := E) (w := W_law) fun r a ns =>
      (pssd_cons (ps_w (ps_set (i := 2) sc_law.nd rfl (.inl rfl) (pe_w (pe_lst (pa_w pa_nil xa_nil)) xn_lst)) xs_own) (pssd_cons (ps_w (ps_for (g := gName 3) PassesOwn.never rfl (pi_w (pi_range1 (by rfl) T.m_range (pa_w (pa_cons (pe_w pe_int (xd_c fun _ => .int)) (pa_w pa_nil xa_nil)) xa_cons)) xi_rng1R) (pg_name (i := 3) sc_law.nd rfl (.inl rfl)) (pssd_cons (ps_w (ps_set (i := 4) sc_law.nd rfl (.inr rfl) (pe_w (C8.pe_c C_law_neck hr (by decide) (by rfl) (pa_w (pa_cons (pe_w (pv 1) xd_var) (pa_w (pa_cons (pe_w pe_int (xd_c fun _ => .int)) (pa_w pa_nil xa_nil)) xa_cons)) xa_cons)) xd_call)) xs_asg) (pssd_one (ps_w (ps_expr (pe_bm PySem.F.plainAttrs_list PySem.F.slot_list_append PySem.F.type_list_append mt_append (pv 2) (pa_cons (pe_w (pe_tup (pa_w (pa_cons (pe_w (pv 4) xd_var) (pa_w (pa_cons (pe_w (C8.pe_c C_law_shape hr (by decide) (by rfl) (pa_w (pa_cons (pe_w (pv 1) xd_var) (pa_w (pa_cons (pe_w (pv 4) xd_var) (pa_w pa_nil xa_nil)) xa_cons)) xa_cons)) xd_call) (pa_w (pa_cons (pe_w (C8.pe_c C_law_chord hr (by decide) (by rfl) (pa_w (pa_cons (pe_w (pv 1) xd_var) (pa_w (pa_cons (pe_w (pv 4) xd_var) (pa_w pa_nil xa_nil)) xa_cons)) xa_cons)) xd_call) (pa_w (pa_cons (pe_w (C8.pe_c C_law_hand hr (by decide) (by rfl) (pa_w (pa_cons (pe_w (pv 1) xd_var) (pa_w pa_nil xa_nil)) xa_cons)) xd_call) (pa_w (pa_cons (pe_w (C8.pe_c C_law_tune hr (by decide) (by rfl) (pa_w (pa_cons (pe_w (pv 1) xd_var) (pa_w (pa_cons (pe_w (pv 4) xd_var) (pa_w (pa_cons (pe_w pe_int (xd_c fun _ => .int)) (pa_w pa_nil xa_nil)) xa_cons)) xa_cons)) xa_cons)) xd_call) (pa_w pa_nil xa_nil)) xa_cons)) xa_cons)) xa_cons)) xa_cons)) xa_cons)) xd_tup) pa_nil))) xs_app)))) (xs_forR gd_name)) (pss_w (pssd_cons (ps_w (ps_set (i := 5) sc_law.nd rfl (.inl rfl) (pe_w (pe_lst (pa_w pa_nil xa_nil)) xn_lst)) xs_own) (pssd_cons (ps_w (ps_for (g := gTup _ 5 (gNames [4, 6, 7, 8, 9])) PassesOwn.never rfl (pi_w (pi_list (pe_w (pv 2) xd_var)) xi_list) (pg_tup rfl (pgs_cons (pg_name (i := 4) sc_law.nd rfl (.inr rfl)) (pgs_cons (pg_name (i := 6) sc_law.nd rfl (.inr rfl)) (pgs_cons (pg_name (i := 7) sc_law.nd rfl (.inr rfl)) (pgs_cons (pg_name (i := 8) sc_law.nd rfl (.inr rfl)) (pgs_cons (pg_name (i := 9) sc_law.nd rfl (.inr rfl)) pgs_nil)))))) (pssd_one (ps_w (ps_expr (pe_bm PySem.F.plainAttrs_list PySem.F.slot_list_append PySem.F.type_list_append mt_append (pv 5) (pa_cons (pe_w (pe_w (pe_lc (own := [("_law_way", 10)]) (g := gName 10) rfl sc_law.nd (pi_w (pi_range1 (by rfl) T.m_range (pa_w (pa_cons (pe_w pe_int (xd_c fun _ => .int)) (pa_w pa_nil xa_nil)) xa_cons)) xi_rng1) (blkOk_by (own := [("_law_way", 10)]) (N := ["_law_script", "_law_row", "_law_some", "_law_k", "_law_neck_here", "_law_kept", "_law_shape_here", "_law_chord_here", "_law_hand_here", "_law_tune_here", "_law_way", "_law_turn", "_law_handed", "_law_told", "_law_one"]) (sc := (defScope s_law)) (by decide +kernel)) (fun _ _ _ _ _ => (pg_name (i := 10) sc_law.nd rfl (.inl rfl))) (fun _ _ _ _ _ => (pts_w pts_nil xt_yes)) (fun _ _ _ _ _ => (pe_w (C8.pe_c C_law_copied hr (by decide) (by rfl) (pa_w (pa_cons (pe_w (C8.pe_c C_law_asked hr (by decide) (by rfl) (pa_w (pa_cons (pe_w (pv 10) xd_var) (pa_w (pa_cons (pe_w (pv 4) xd_var) (pa_w (pa_cons (pe_w (pv 6) xd_var) (pa_w (pa_cons (pe_w (pv 7) xd_var) (pa_w (pa_cons (pe_w (pv 8) xd_var) (pa_w (pa_cons (pe_w (pv 9) xd_var) (pa_w pa_nil xa_nil)) xa_cons)) xa_cons)) xa_cons)) xa_cons)) xa_cons)) xa_cons)) xd_callF) (pa_w pa_nil xa_nil)) xa_cons)) xd_call))) (xn_lc gd_name stores_name)) xd_N) pa_nil))) xs_app))) (xs_for (gd_tup (is := [4, 6, 7, 8, 9]) rfl))) (pss_w (pssd_cons (ps_w (ps_for (g := gName 11) PassesOwn.never rfl (pi_w (pi_range1 (by rfl) T.m_range (pa_w (pa_cons (pe_w (pe_op op_add (pe_w pe_int (xd_c fun _ => .int)) (pe_w (C8.pe_c C_law_taken hr (by decide) (by rfl) (pa_w (pa_cons (pe_w (pv 1) xd_var) (pa_w (pa_cons (pe_w pe_int (xd_c fun _ => .int)) (pa_w pa_nil xa_nil)) xa_cons)) xa_cons)) xd_call)) (xd_op od_add)) (pa_w pa_nil xa_nil)) xa_cons)) xi_rng1R) (pg_name (i := 11) sc_law.nd rfl (.inl rfl)) (pssd_cons (ps_w (ps_set (i := 3) sc_law.nd rfl (.inl rfl) (pe_w (C8.pe_c C_law_taken hr (by decide) (by rfl) (pa_w (pa_cons (pe_w (pv 1) xd_var) (pa_w (pa_cons (pe_w pe_int (xd_c fun _ => .int)) (pa_w pa_nil xa_nil)) xa_cons)) xa_cons)) xd_call)) xs_asg) (pssd_cons (ps_w (ps_set (i := 10) sc_law.nd rfl (.inl rfl) (pe_w (C8.pe_c C_law_taken hr (by decide) (by rfl) (pa_w (pa_cons (pe_w (pv 1) xd_var) (pa_w (pa_cons (pe_w pe_int (xd_c fun _ => .int)) (pa_w pa_nil xa_nil)) xa_cons)) xa_cons)) xd_call)) xs_asg) (pssd_cons (ps_w (ps_asg (pe_w (pe_ix ix_lt (pe_w (pv 2) xd_var) (pe_w (pv 3) xd_var) (fun _ _ => rfl)) (xd_op od_ixL)) (pg_tup rfl (pgs_cons (pg_name (i := 4) sc_law.nd rfl (.inr rfl)) (pgs_cons (pg_name (i := 6) sc_law.nd rfl (.inr rfl)) (pgs_cons (pg_name (i := 7) sc_law.nd rfl (.inr rfl)) (pgs_cons (pg_name (i := 8) sc_law.nd rfl (.inr rfl)) (pgs_cons (pg_name (i := 9) sc_law.nd rfl (.inr rfl)) pgs_nil))))))) (xs_unp (is := [4, 6, 7, 8, 9]) rfl)) (pssd_cons (ps_w (ps_set (i := 12) sc_law.nd rfl (.inl rfl) (pe_w (pe_callTy call_list_of (by rfl) T.m_list (by decide +kernel) (pa_w (pa_cons (pe_w (pv 9) xd_var) (pa_w pa_nil xa_nil)) xa_cons)) (xd_cb cd_list))) xs_asg) (pss_w (pssd_cons (ps_w (ps_set (i := 13) sc_law.nd rfl (.inl rfl) (C8.pe_c C_law_asked hr (by decide) (by rfl) (pa_w (pa_cons (pe_w (pv 10) xd_var) (pa_w (pa_cons (pe_w (pv 4) xd_var) (pa_w (pa_cons (pe_w (pv 6) xd_var) (pa_w (pa_cons (pe_w (pv 7) xd_var) (pa_w (pa_cons (pe_w (pv 8) xd_var) (pa_w (pa_cons (pe_w (pv 12) xd_var) (pa_w pa_nil xa_nil)) xa_cons)) xa_cons)) xa_cons)) xa_cons)) xa_cons)) xa_cons))) xs_asgF) (pssd_cons (ps_w (ps_if (PW.pt (pw_w (pw_or (pt_w (pt_not (pt_w (pt_truth (pe_w (C8.pe_c C_law_alike hr (by decide) (by rfl) (pa_w (pa_cons (pe_w (pv 13) xd_var) (pa_w (pa_cons (pe_w (pe_ix ix_lt (pe_w (pe_ix ix_lt (pe_w (pv 5) xd_var) (pe_w (pv 3) xd_var) (fun _ _ => rfl)) (xd_op od_ixL)) (pe_w (pv 10) xd_var) (fun _ _ => rfl)) (xd_op od_ixL)) (pa_w pa_nil xa_nil)) xa_cons)) xa_cons)) xd_call) (by intro _; rfl)) xt_tru)) xt_not) (pw_or1 (pt_w (pt_cmpR (op_neD hr.units) (pe_w (pv 12) xd_var) (pe_w (pv 9) xd_var) (nomark _)) (xt_cmp od_ne)))) xt_or)) (pssd_one (ps_w (ps_ret (pe_w pe_bl (xd_c fun _ => .bl))) xs_ret)) pssd_nil) xs_if) (pss_w (pss_mix (pss_cons (ps_for (g := gName 14) PassesOwn.never rfl (pi_list (pv 13)) (pg_name (i := 14) sc_law.nd rfl (.inl rfl)) (pss_one (ps_if (pt_truth (pe_callB call_isi (by rfl) T.m_isinstance (by decide +kernel) (pa_cons (pv 14) (pa_cons (pe_bltn (v := .ty "list") (by rfl) T.m_list (by decide +kernel) rfl) pa_nil))) (by intro _; rfl)) (pss_cons (ps_expr (pe_bm PySem.F.plainAttrs_list PySem.F.slot_list_append PySem.F.type_list_append mt_append (pv 14) (pa_cons pe_int pa_nil))) (pss_one (ps_expr (pe_bm0 PySem.F.plainAttrs_list PySem.F.slot_list_reverse PySem.F.type_list_reverse mt_reverse (pv 14))))) pss_nil))) (pss_cons (ps_expr (pe_bm PySem.F.plainAttrs_list PySem.F.slot_list_append PySem.F.type_list_append mt_append (pv 13) (pa_cons pe_int pa_nil))) (pss_cons (ps_expr (pe_bm0 PySem.F.plainAttrs_list PySem.F.slot_list_reverse PySem.F.type_list_reverse mt_reverse (pv 13))) pssd_nil)))) xs_smashAll))) xs_pin)))))) (xs_forR gd_name)) (pssd_one (ps_w (ps_ret (pe_w pe_bl (xd_c fun _ => .bl))) xs_ret))) xs_frz))) xs_frz))))), ?_⟩
    exact ⟨_, rfl, len_le (by show 4 ≤ 1000000; decide), law_startB (n := 13) hP hs k pure_law⟩
end

end FW
namespace FW
open PySem PySem.Spec PyProof.Rows L2
def d_all_within : He.DefD := ⟨("all_within", none), "all_within", "all_within", defArgs s_all_within, defBody s_all_within, defScope s_all_within, [], []⟩
def d_rises : He.DefD := ⟨("rises", none), "rises", "rises", defArgs s_rises, defBody s_rises, defScope s_rises, [], []⟩
def d_is_place : He.DefD := ⟨("is_place", none), "is_place", "is_place", defArgs s_is_place, defBody s_is_place, defScope s_is_place, [], []⟩
def d_check_neck : He.DefD := ⟨("check_neck", none), "check_neck", "check_neck", defArgs s_check_neck, defBody s_check_neck, defScope s_check_neck, [], []⟩
def d_check_shape : He.DefD := ⟨("check_shape", none), "check_shape", "check_shape", defArgs s_check_shape, defBody s_check_shape, defScope s_check_shape, [], []⟩
def d_check_hand : He.DefD := ⟨("check_hand", none), "check_hand", "check_hand", defArgs s_check_hand, defBody s_check_hand, defScope s_check_hand, [], []⟩
def d_check_reach : He.DefD := ⟨("check_reach", none), "check_reach", "check_reach", defArgs s_check_reach, defBody s_check_reach, defScope s_check_reach, [], []⟩
def d_check_chord : He.DefD := ⟨("check_chord", none), "check_chord", "check_chord", defArgs s_check_chord, defBody s_check_chord, defScope s_check_chord, [.int (0)], []⟩
def d_check_chords : He.DefD := ⟨("check_chords", none), "check_chords", "check_chords", defArgs s_check_chords, defBody s_check_chords, defScope s_check_chords, [], []⟩
def d_check_tune : He.DefD := ⟨("check_tune", none), "check_tune", "check_tune", defArgs s_check_tune, defBody s_check_tune, defScope s_check_tune, [], []⟩
def d_notes : He.DefD := ⟨("notes", none), "notes", "notes", defArgs s_notes, defBody s_notes, defScope s_notes, [], []⟩
def d_missing : He.DefD := ⟨("missing", none), "missing", "missing", defArgs s_missing, defBody s_missing, defScope s_missing, [], []⟩
def d_places : He.DefD := ⟨("places", none), "places", "places", defArgs s_places, defBody s_places, defScope s_places, [], []⟩
def d_written : He.DefD := ⟨("written", none), "written", "written", defArgs s_written, defBody s_written, defScope s_written, [], []⟩
def d_read : He.DefD := ⟨("read", none), "read", "read", defArgs s_read, defBody s_read, defScope s_read, [], []⟩
def d_meanings : He.DefD := ⟨("_meanings", none), "_meanings", "_meanings", defArgs s_meanings, defBody s_meanings, defScope s_meanings, [], []⟩
def d_ways : He.DefD := ⟨("ways", none), "ways", "ways", defArgs s_ways, defBody s_ways, defScope s_ways, [], []⟩
def d_sounded : He.DefD := ⟨("sounded", none), "sounded", "sounded", defArgs s_sounded, defBody s_sounded, defScope s_sounded, [], []⟩
def d_slid : He.DefD := ⟨("slid", none), "slid", "slid", defArgs s_slid, defBody s_slid, defScope s_slid, [], []⟩
def d_placed : He.DefD := ⟨("_placed", none), "_placed", "_placed", defArgs s_placed, defBody s_placed, defScope s_placed, [], []⟩
def d_is_pressed : He.DefD := ⟨("_is_pressed", none), "_is_pressed", "_is_pressed", defArgs s_is_pressed, defBody s_is_pressed, defScope s_is_pressed, [], []⟩
def d_fits : He.DefD := ⟨("_fits", none), "_fits", "_fits", defArgs s_fits, defBody s_fits, defScope s_fits, [], []⟩
def d_moved : He.DefD := ⟨("_moved", none), "_moved", "_moved", defArgs s_moved, defBody s_moved, defScope s_moved, [], []⟩
def d_played : He.DefD := ⟨("played", none), "played", "played", defArgs s_played, defBody s_played, defScope s_played, [], []⟩
def d_table : He.DefD := ⟨("table", none), "table", "table", defArgs s_table, defBody s_table, defScope s_table, [], []⟩
def d_movement : He.DefD := ⟨("movement", none), "movement", "movement", defArgs s_movement, defBody s_movement, defScope s_movement, [], []⟩
def d_positions : He.DefD := ⟨("_positions", none), "_positions", "_positions", defArgs s_positions, defBody s_positions, defScope s_positions, [], []⟩
def d_place_from : He.DefD := ⟨("_place_from", none), "_place_from", "_place_from", defArgs s_place_from, defBody s_place_from, defScope s_place_from, [], []⟩
def d_next_row : He.DefD := ⟨("_next_row", none), "_next_row", "_next_row", defArgs s_next_row, defBody s_next_row, defScope s_next_row, [], []⟩
def d_arrival : He.DefD := ⟨("_arrival", none), "_arrival", "_arrival", defArgs s_arrival, defBody s_arrival, defScope s_arrival, [], []⟩
def d_walk : He.DefD := ⟨("_walk", none), "_walk", "_walk", defArgs s_walk, defBody s_walk, defScope s_walk, [], []⟩
def d_retuned : He.DefD := ⟨("retuned", none), "retuned", "retuned", defArgs s_retuned, defBody s_retuned, defScope s_retuned, [], []⟩
def d_check_retunable : He.DefD := ⟨("_check_retunable", none), "_check_retunable", "_check_retunable", defArgs s_check_retunable, defBody s_check_retunable, defScope s_check_retunable, [], []⟩
def d_retunings : He.DefD := ⟨("_retunings", none), "_retunings", "_retunings", defArgs s_retunings, defBody s_retunings, defScope s_retunings, [], []⟩
def d_rank : He.DefD := ⟨("_rank", none), "_rank", "_rank", defArgs s_rank, defBody s_rank, defScope s_rank, [], []⟩
def d_tuned : He.DefD := ⟨("_tuned", none), "_tuned", "_tuned", defArgs s_tuned, defBody s_tuned, defScope s_tuned, [], []⟩
def d_first_without_way : He.DefD := ⟨("_first_without_way", none), "_first_without_way", "_first_without_way", defArgs s_first_without_way, defBody s_first_without_way, defScope s_first_without_way, [], []⟩
def d_law_taken : He.DefD := ⟨("_law_taken", none), "_law_taken", "_law_taken", defArgs s_law_taken, defBody s_law_taken, defScope s_law_taken, [], []⟩
def d_law_alike : He.DefD := ⟨("_law_alike", none), "_law_alike", "_law_alike", defArgs s_law_alike, defBody s_law_alike, defScope s_law_alike, [], []⟩
def d_law_neck : He.DefD := ⟨("_law_neck", none), "_law_neck", "_law_neck", defArgs s_law_neck, defBody s_law_neck, defScope s_law_neck, [], []⟩
def d_law_places : He.DefD := ⟨("_law_places", none), "_law_places", "_law_places", defArgs s_law_places, defBody s_law_places, defScope s_law_places, [], []⟩
def d_law_shape : He.DefD := ⟨("_law_shape", none), "_law_shape", "_law_shape", defArgs s_law_shape, defBody s_law_shape, defScope s_law_shape, [], []⟩
def d_law_hand : He.DefD := ⟨("_law_hand", none), "_law_hand", "_law_hand", defArgs s_law_hand, defBody s_law_hand, defScope s_law_hand, [], []⟩
def d_law_sounds : He.DefD := ⟨("_law_sounds", none), "_law_sounds", "_law_sounds", defArgs s_law_sounds, defBody s_law_sounds, defScope s_law_sounds, [], []⟩
def d_law_laid : He.DefD := ⟨("_law_laid", none), "_law_laid", "_law_laid", defArgs s_law_laid, defBody s_law_laid, defScope s_law_laid, [], []⟩
def d_law_ways : He.DefD := ⟨("_law_ways", none), "_law_ways", "_law_ways", defArgs s_law_ways, defBody s_law_ways, defScope s_law_ways, [], []⟩
def d_law_chord : He.DefD := ⟨("_law_chord", none), "_law_chord", "_law_chord", defArgs s_law_chord, defBody s_law_chord, defScope s_law_chord, [], []⟩
def d_law_positions : He.DefD := ⟨("_law_positions", none), "_law_positions", "_law_positions", defArgs s_law_positions, defBody s_law_positions, defScope s_law_positions, [], []⟩
def d_law_plays : He.DefD := ⟨("_law_plays", none), "_law_plays", "_law_plays", defArgs s_law_plays, defBody s_law_plays, defScope s_law_plays, [], []⟩
def d_law_can : He.DefD := ⟨("_law_can", none), "_law_can", "_law_can", defArgs s_law_can, defBody s_law_can, defScope s_law_can, [], []⟩
def d_law_tune : He.DefD := ⟨("_law_tune", none), "_law_tune", "_law_tune", defArgs s_law_tune, defBody s_law_tune, defScope s_law_tune, [], []⟩
def d_law_asked : He.DefD := ⟨("_law_asked", none), "_law_asked", "_law_asked", defArgs s_law_asked, defBody s_law_asked, defScope s_law_asked, [], []⟩
def d_law_copied : He.DefD := ⟨("_law_copied", none), "_law_copied", "_law_copied", defArgs s_law_copied, defBody s_law_copied, defScope s_law_copied, [], []⟩
def d_law : He.DefD := ⟨("law", none), "law", "law", defArgs s_law, defBody s_law, defScope s_law, [], []⟩
def fnL : List He.DefD := d_all_within :: d_rises :: d_is_place :: d_check_neck :: d_check_shape :: d_check_hand :: d_check_reach :: d_check_chord :: d_check_chords :: d_check_tune :: d_notes :: d_missing :: d_places :: d_written :: d_read :: d_meanings :: d_ways :: d_sounded :: d_slid :: d_placed :: d_is_pressed :: d_fits :: d_moved :: d_played :: d_table :: d_movement :: d_positions :: d_place_from :: d_next_row :: d_arrival :: d_walk :: d_retuned :: d_check_retunable :: d_retunings :: d_rank :: d_tuned :: d_first_without_way :: d_law_taken :: d_law_alike :: d_law_neck :: d_law_places :: d_law_shape :: d_law_hand :: d_law_sounds :: d_law_laid :: d_law_ways :: d_law_chord :: d_law_positions :: d_law_plays :: d_law_can :: d_law_tune :: d_law_asked :: d_law_copied :: d_law :: []
def faL : List He.Fa := (.glo "all_within") :: (.glo "rises") :: (.glo "is_place") :: (.glo "check_neck") :: (.glo "check_shape") :: (.glo "check_hand") :: (.glo "check_reach") :: (.glo "check_chord") :: (.glo "check_chords") :: (.glo "check_tune") :: (.glo "notes") :: (.glo "missing") :: (.glo "places") :: (.glo "written") :: (.glo "read") :: (.glo "_meanings") :: (.glo "ways") :: (.glo "sounded") :: (.glo "slid") :: (.glo "_placed") :: (.glo "_is_pressed") :: (.glo "_fits") :: (.glo "_moved") :: (.glo "played") :: (.glo "table") :: (.glo "movement") :: (.glo "_positions") :: (.glo "_place_from") :: (.glo "_next_row") :: (.glo "_arrival") :: (.glo "_walk") :: (.glo "retuned") :: (.glo "_check_retunable") :: (.glo "_retunings") :: (.glo "_rank") :: (.glo "_tuned") :: (.glo "_first_without_way") :: (.glo "_law_taken") :: (.glo "_law_alike") :: (.glo "_law_neck") :: (.glo "_law_places") :: (.glo "_law_shape") :: (.glo "_law_hand") :: (.glo "_law_sounds") :: (.glo "_law_laid") :: (.glo "_law_ways") :: (.glo "_law_chord") :: (.glo "_law_positions") :: (.glo "_law_plays") :: (.glo "_law_can") :: (.glo "_law_tune") :: (.glo "_law_asked") :: (.glo "_law_copied") :: (.glo "law") :: (.glo "NeckError") :: (.glo "BadNeck") :: (.glo "BadShape") :: (.glo "BadHand") :: (.glo "BadChord") :: (.glo "BadTune") :: (.glo "BadText") :: (.free "all") :: (.free "len") :: (.free "range") :: (.free "sorted") :: (.free "set") :: (.free "tuple") :: (.free "list") :: (.free "zip") :: (.free "enumerate") :: (.free "min") :: (.free "max") :: (.free "isinstance") :: (.free "int") :: (.free "str") :: (.free "bool") :: (.free "sum") :: (.free "abs") :: (.free "reversed") :: (.free "ValueError") :: (.int "SILENT" (-1)) :: (.int "MOST_STRINGS" (6)) :: (.int "HIGHEST_TUNING" (60)) :: (.int "MOST_FRETS" (20)) :: (.int "MOST_OF_HAND" (6)) :: (.int "MOST_NOTES" (6)) :: (.int "HIGHEST_NOTE" (80)) :: (.int "MOST_CHORDS" (6)) :: (.int "LONGEST_TUNE" (30)) :: (.int "CANNOT" (-1)) :: (.int "MOST_RETUNED" (4)) :: (.int "FARTHEST" (2)) :: (.str "SILENT_WORD" "x") :: []
def tfL : List He.Defn := [("all_within", none), ("rises", none)]
def exL : PySem.W.Frag → Bool := fun K => decide (PySem.W.nsIn K mainGlobals "permutations" = some (some (.type "itertools.permutations")))
abbrev R : PySem.W.OpenRow := PySem.W.OpenLaw.row PySem.Challenge.rw_fretways_k14_asked_again
abbrev hk : PySem.W.Hook := He.hookX 4 faL fnL [] tfL exL
def ob (s : PySem.W.SharedT) : He.AlX := He.obsX 4 faL fnL [] tfL exL (HandSHeadRun.getT s)
theorem ob_eq (s : PySem.W.SharedT) : ob s = hk.obs s.abs := He.obsX_eq (HandSHeadRun.getT_eq s)
def looseL : List PySem.Str := ("permutations" : PySem.Str) :: ("NeckError" : PySem.Str) :: ("BadNeck" : PySem.Str) :: ("BadShape" : PySem.Str) :: ("BadHand" : PySem.Str) :: ("BadChord" : PySem.Str) :: ("BadTune" : PySem.Str) :: ("BadText" : PySem.Str) :: ("SILENT" : PySem.Str) :: ("MOST_STRINGS" : PySem.Str) :: ("HIGHEST_TUNING" : PySem.Str) :: ("MOST_FRETS" : PySem.Str) :: ("MOST_OF_HAND" : PySem.Str) :: ("MOST_NOTES" : PySem.Str) :: ("HIGHEST_NOTE" : PySem.Str) :: ("MOST_CHORDS" : PySem.Str) :: ("LONGEST_TUNE" : PySem.Str) :: ("all_within" : PySem.Str) :: ("rises" : PySem.Str) :: ("is_place" : PySem.Str) :: ("check_neck" : PySem.Str) :: ("check_shape" : PySem.Str) :: ("check_hand" : PySem.Str) :: ("check_reach" : PySem.Str) :: ("check_chord" : PySem.Str) :: ("check_chords" : PySem.Str) :: ("check_tune" : PySem.Str) :: ("notes" : PySem.Str) :: ("missing" : PySem.Str) :: ("places" : PySem.Str) :: ("SILENT_WORD" : PySem.Str) :: ("written" : PySem.Str) :: ("read" : PySem.Str) :: ("_meanings" : PySem.Str) :: ("ways" : PySem.Str) :: ("sounded" : PySem.Str) :: ("slid" : PySem.Str) :: ("_placed" : PySem.Str) :: ("_is_pressed" : PySem.Str) :: ("_fits" : PySem.Str) :: ("_moved" : PySem.Str) :: ("CANNOT" : PySem.Str) :: ("played" : PySem.Str) :: ("table" : PySem.Str) :: ("movement" : PySem.Str) :: ("_positions" : PySem.Str) :: ("_place_from" : PySem.Str) :: ("_next_row" : PySem.Str) :: ("_arrival" : PySem.Str) :: ("_walk" : PySem.Str) :: ("MOST_RETUNED" : PySem.Str) :: ("FARTHEST" : PySem.Str) :: ("retuned" : PySem.Str) :: ("_check_retunable" : PySem.Str) :: ("_retunings" : PySem.Str) :: ("_rank" : PySem.Str) :: ("_tuned" : PySem.Str) :: ("_first_without_way" : PySem.Str) :: ("_law_taken" : PySem.Str) :: ("_law_alike" : PySem.Str) :: ("_law_neck" : PySem.Str) :: ("_law_places" : PySem.Str) :: ("_law_shape" : PySem.Str) :: ("_law_hand" : PySem.Str) :: ("_law_sounds" : PySem.Str) :: ("_law_laid" : PySem.Str) :: ("_law_ways" : PySem.Str) :: ("_law_chord" : PySem.Str) :: ("_law_positions" : PySem.Str) :: ("_law_plays" : PySem.Str) :: ("_law_can" : PySem.Str) :: ("_law_tune" : PySem.Str) :: ("_law_asked" : PySem.Str) :: ("_law_copied" : PySem.Str) :: []
theorem run (w : World) : HandSHeadRun.RunEqI R (PySem.W.view R.prog [0, 82]) hk ob 4000 looseL w := by
  unfold HandSHeadRun.RunEqI
  kernel_rfl
section
variable {P : Program} {w : World} {K : PySem.W.Frag} {h : Heap} {mg : Str → Option Value}
theorem txt_ok (X : K.In h) (G : h.Ns mainGlobals mg) (c : He.SaysD faL fnL K) : Txt mg :=
  ⟨He.free_ok X G (He.SaysD.fact (f := .free "all") c 61 (by rfl)), He.free_ok X G (He.SaysD.fact (f := .free "len") c 62 (by rfl)), He.free_ok X G (He.SaysD.fact (f := .free "range") c 63 (by rfl)), He.free_ok X G (He.SaysD.fact (f := .free "sorted") c 64 (by rfl)), He.free_ok X G (He.SaysD.fact (f := .free "set") c 65 (by rfl)), He.free_ok X G (He.SaysD.fact (f := .free "tuple") c 66 (by rfl)), He.free_ok X G (He.SaysD.fact (f := .free "list") c 67 (by rfl)), He.free_ok X G (He.SaysD.fact (f := .free "zip") c 68 (by rfl)), He.free_ok X G (He.SaysD.fact (f := .free "enumerate") c 69 (by rfl)), He.free_ok X G (He.SaysD.fact (f := .free "min") c 70 (by rfl)), He.free_ok X G (He.SaysD.fact (f := .free "max") c 71 (by rfl)), He.free_ok X G (He.SaysD.fact (f := .free "isinstance") c 72 (by rfl)), He.free_ok X G (He.SaysD.fact (f := .free "int") c 73 (by rfl)), He.free_ok X G (He.SaysD.fact (f := .free "str") c 74 (by rfl)), He.free_ok X G (He.SaysD.fact (f := .free "bool") c 75 (by rfl)), He.free_ok X G (He.SaysD.fact (f := .free "sum") c 76 (by rfl)), He.free_ok X G (He.SaysD.fact (f := .free "abs") c 77 (by rfl)), He.free_ok X G (He.SaysD.fact (f := .free "reversed") c 78 (by rfl)), He.free_ok X G (He.SaysD.fact (f := .free "ValueError") c 79 (by rfl)), He.int_ok X G (He.SaysD.fact (f := .int "SILENT" (-1)) c 80 (by rfl)), He.int_ok X G (He.SaysD.fact (f := .int "MOST_STRINGS" (6)) c 81 (by rfl)), He.int_ok X G (He.SaysD.fact (f := .int "HIGHEST_TUNING" (60)) c 82 (by rfl)), He.int_ok X G (He.SaysD.fact (f := .int "MOST_FRETS" (20)) c 83 (by rfl)), He.int_ok X G (He.SaysD.fact (f := .int "MOST_OF_HAND" (6)) c 84 (by rfl)), He.int_ok X G (He.SaysD.fact (f := .int "MOST_NOTES" (6)) c 85 (by rfl)), He.int_ok X G (He.SaysD.fact (f := .int "HIGHEST_NOTE" (80)) c 86 (by rfl)), He.int_ok X G (He.SaysD.fact (f := .int "MOST_CHORDS" (6)) c 87 (by rfl)), He.int_ok X G (He.SaysD.fact (f := .int "LONGEST_TUNE" (30)) c 88 (by rfl)), He.int_ok X G (He.SaysD.fact (f := .int "CANNOT" (-1)) c 89 (by rfl)), He.int_ok X G (He.SaysD.fact (f := .int "MOST_RETUNED" (4)) c 90 (by rfl)), He.int_ok X G (He.SaysD.fact (f := .int "FARTHEST" (2)) c 91 (by rfl)), He.str_ok X G (He.SaysD.fact (f := .str "SILENT_WORD" "x") c 92 (by rfl)), trivial⟩
def cs (K : PySem.W.Frag) : List (Addr × Addr) := tfL.map (He.cT K)
def glb (K : PySem.W.Frag) : Glb := ⟨K, (cs K).map (·.2), He.ga K⟩
theorem law_at (X : K.In h) (G : h.Ns mainGlobals mg) {fa : Addr} (hfa : mg ("law" : Str) = some (.ref fa)) (c : He.SaysX faL fnL [] tfL exL w h K) : LamX.LawAtS PySem.Challenge.rw_fretways_k14_asked_again w K CX0 9 63 "_law_script" mg fa h := by
  have cd := c.t.d
  have e := hfa.symm.trans (He.glo_ok X G (He.SaysD.fact (f := .glo "law") cd 53 (by rfl)))
  cases e
  have T := txt_ok X G cd
  obtain ⟨fd_all_within, F_all_within⟩ := cd.defs (d := d_all_within) (by simp only [fnL, List.mem_cons, true_or, or_true])
  obtain ⟨fd_rises, F_rises⟩ := cd.defs (d := d_rises) (by simp only [fnL, List.mem_cons, true_or, or_true])
  obtain ⟨fd_is_place, F_is_place⟩ := cd.defs (d := d_is_place) (by simp only [fnL, List.mem_cons, true_or, or_true])
  obtain ⟨fd_check_neck, F_check_neck⟩ := cd.defs (d := d_check_neck) (by simp only [fnL, List.mem_cons, true_or, or_true])
  obtain ⟨fd_check_shape, F_check_shape⟩ := cd.defs (d := d_check_shape) (by simp only [fnL, List.mem_cons, true_or, or_true])
  obtain ⟨fd_check_hand, F_check_hand⟩ := cd.defs (d := d_check_hand) (by simp only [fnL, List.mem_cons, true_or, or_true])
  obtain ⟨fd_check_chord, F_check_chord⟩ := cd.defs (d := d_check_chord) (by simp only [fnL, List.mem_cons, true_or, or_true])
  obtain ⟨fd_is_pressed, F_is_pressed⟩ := cd.defs (d := d_is_pressed) (by simp only [fnL, List.mem_cons, true_or, or_true])
  obtain ⟨fd_fits, F_fits⟩ := cd.defs (d := d_fits) (by simp only [fnL, List.mem_cons, true_or, or_true])
  obtain ⟨fd_moved, F_moved⟩ := cd.defs (d := d_moved) (by simp only [fnL, List.mem_cons, true_or, or_true])
  obtain ⟨fd_placed, F_placed⟩ := cd.defs (d := d_placed) (by simp only [fnL, List.mem_cons, true_or, or_true])
  obtain ⟨fd_sounded, F_sounded⟩ := cd.defs (d := d_sounded) (by simp only [fnL, List.mem_cons, true_or, or_true])
  obtain ⟨fd_ways, F_ways⟩ := cd.defs (d := d_ways) (by simp only [fnL, List.mem_cons, true_or, or_true])
  obtain ⟨fd_slid, F_slid⟩ := cd.defs (d := d_slid) (by simp only [fnL, List.mem_cons, true_or, or_true])
  obtain ⟨fd_notes, F_notes⟩ := cd.defs (d := d_notes) (by simp only [fnL, List.mem_cons, true_or, or_true])
  obtain ⟨fd_missing, F_missing⟩ := cd.defs (d := d_missing) (by simp only [fnL, List.mem_cons, true_or, or_true])
  obtain ⟨fd_meanings, F_meanings⟩ := cd.defs (d := d_meanings) (by simp only [fnL, List.mem_cons, true_or, or_true])
  obtain ⟨fd_written, F_written⟩ := cd.defs (d := d_written) (by simp only [fnL, List.mem_cons, true_or, or_true])
  obtain ⟨fd_read, F_read⟩ := cd.defs (d := d_read) (by simp only [fnL, List.mem_cons, true_or, or_true])
  obtain ⟨fd_check_chords, F_check_chords⟩ := cd.defs (d := d_check_chords) (by simp only [fnL, List.mem_cons, true_or, or_true])
  obtain ⟨fd_check_retunable, F_check_retunable⟩ := cd.defs (d := d_check_retunable) (by simp only [fnL, List.mem_cons, true_or, or_true])
  obtain ⟨fd_rank, F_rank⟩ := cd.defs (d := d_rank) (by simp only [fnL, List.mem_cons, true_or, or_true])
  obtain ⟨fd_tuned, F_tuned⟩ := cd.defs (d := d_tuned) (by simp only [fnL, List.mem_cons, true_or, or_true])
  obtain ⟨fd_retunings, F_retunings⟩ := cd.defs (d := d_retunings) (by simp only [fnL, List.mem_cons, true_or, or_true])
  obtain ⟨fd_first_without_way, F_first_without_way⟩ := cd.defs (d := d_first_without_way) (by simp only [fnL, List.mem_cons, true_or, or_true])
  obtain ⟨fd_retuned, F_retuned⟩ := cd.defs (d := d_retuned) (by simp only [fnL, List.mem_cons, true_or, or_true])
  obtain ⟨fd_check_tune, F_check_tune⟩ := cd.defs (d := d_check_tune) (by simp only [fnL, List.mem_cons, true_or, or_true])
  obtain ⟨fd_check_reach, F_check_reach⟩ := cd.defs (d := d_check_reach) (by simp only [fnL, List.mem_cons, true_or, or_true])
  obtain ⟨fd_places, F_places⟩ := cd.defs (d := d_places) (by simp only [fnL, List.mem_cons, true_or, or_true])
  obtain ⟨fd_positions, F_positions⟩ := cd.defs (d := d_positions) (by simp only [fnL, List.mem_cons, true_or, or_true])
  obtain ⟨fd_place_from, F_place_from⟩ := cd.defs (d := d_place_from) (by simp only [fnL, List.mem_cons, true_or, or_true])
  obtain ⟨fd_arrival, F_arrival⟩ := cd.defs (d := d_arrival) (by simp only [fnL, List.mem_cons, true_or, or_true])
  obtain ⟨fd_next_row, F_next_row⟩ := cd.defs (d := d_next_row) (by simp only [fnL, List.mem_cons, true_or, or_true])
  obtain ⟨fd_table, F_table⟩ := cd.defs (d := d_table) (by simp only [fnL, List.mem_cons, true_or, or_true])
  obtain ⟨fd_walk, F_walk⟩ := cd.defs (d := d_walk) (by simp only [fnL, List.mem_cons, true_or, or_true])
  obtain ⟨fd_movement, F_movement⟩ := cd.defs (d := d_movement) (by simp only [fnL, List.mem_cons, true_or, or_true])
  obtain ⟨fd_played, F_played⟩ := cd.defs (d := d_played) (by simp only [fnL, List.mem_cons, true_or, or_true])
  obtain ⟨fd_law_taken, F_law_taken⟩ := cd.defs (d := d_law_taken) (by simp only [fnL, List.mem_cons, true_or, or_true])
  obtain ⟨fd_law_alike, F_law_alike⟩ := cd.defs (d := d_law_alike) (by simp only [fnL, List.mem_cons, true_or, or_true])
  obtain ⟨fd_law_neck, F_law_neck⟩ := cd.defs (d := d_law_neck) (by simp only [fnL, List.mem_cons, true_or, or_true])
  obtain ⟨fd_law_shape, F_law_shape⟩ := cd.defs (d := d_law_shape) (by simp only [fnL, List.mem_cons, true_or, or_true])
  obtain ⟨fd_law_hand, F_law_hand⟩ := cd.defs (d := d_law_hand) (by simp only [fnL, List.mem_cons, true_or, or_true])
  obtain ⟨fd_law_sounds, F_law_sounds⟩ := cd.defs (d := d_law_sounds) (by simp only [fnL, List.mem_cons, true_or, or_true])
  obtain ⟨fd_law_chord, F_law_chord⟩ := cd.defs (d := d_law_chord) (by simp only [fnL, List.mem_cons, true_or, or_true])
  obtain ⟨fd_law_tune, F_law_tune⟩ := cd.defs (d := d_law_tune) (by simp only [fnL, List.mem_cons, true_or, or_true])
  obtain ⟨fd_law_asked, F_law_asked⟩ := cd.defs (d := d_law_asked) (by simp only [fnL, List.mem_cons, true_or, or_true])
  obtain ⟨fd_law_copied, F_law_copied⟩ := cd.defs (d := d_law_copied) (by simp only [fnL, List.mem_cons, true_or, or_true])
  obtain ⟨fd_law, F_law⟩ := cd.defs (d := d_law) (by simp only [fnL, List.mem_cons, true_or, or_true])
  have b := FunD.bindsA (ps := ["_law_script"]) F_law fun _ _ _ _ _ _ us hl => match us, hl with | [_], _ => rfl
  refine ⟨fd_law, cs K, spLaw (glb K), fun p hp => ?_, fun p hp => ?_, fun p hp => ?_, fun s v => b s [v] rfl, fun H a ns _ _ hP hS => ⟨a, ns, rfl, fun P hp => ?_, hS, fun _ => rfl⟩, fun base _ _ TB => ?_⟩
  · obtain ⟨q, hq, rfl⟩ := List.mem_map.mp hp
    exact c.empty q hq
  · obtain ⟨q, hq, rfl⟩ := List.mem_map.mp hp
    exact c.out q hq
  · obtain ⟨q, hq, rfl⟩ := List.mem_map.mp hp
    exact PySem.W.codeHd_of_K X (c.hd q hq)
  · obtain ⟨q, hq, rfl⟩ := List.mem_map.mp hp
    exact hP q hq
  have PRM : mg "permutations" = some (.type "itertools.permutations") := PySem.W.mg_of X G (of_decide_eq_true (show decide (PySem.W.nsIn K mainGlobals "permutations" = some (some (.type "itertools.permutations"))) = true from c.more))
  have tb_all_within : He.cT K ("all_within", none) ∈ cs K := List.mem_map.mpr ⟨_, by simp only [tfL, List.mem_cons, true_or, or_true], rfl⟩
  have C_all_within := ok_all_within (P := PySem.Challenge.rw_fretways_k14_asked_again.prog) (w := w) (g := glb K) (mg := mg) (base := base) F_all_within (He.glo_ok X G (He.SaysD.fact (f := .glo "all_within") cd 0 (by rfl))) T ⟨(TB _ tb_all_within).code, (TB _ tb_all_within).bm, (TB _ tb_all_within).gP⟩ (List.mem_map.mpr ⟨_, tb_all_within, rfl⟩)
  have tb_rises : He.cT K ("rises", none) ∈ cs K := List.mem_map.mpr ⟨_, by simp only [tfL, List.mem_cons, true_or, or_true], rfl⟩
  have C_rises := ok_rises (P := PySem.Challenge.rw_fretways_k14_asked_again.prog) (w := w) (g := glb K) (mg := mg) (base := base) F_rises (He.glo_ok X G (He.SaysD.fact (f := .glo "rises") cd 1 (by rfl))) T ⟨(TB _ tb_rises).code, (TB _ tb_rises).bm, (TB _ tb_rises).gP⟩ (List.mem_map.mpr ⟨_, tb_rises, rfl⟩)
  have C_is_place := ok_is_place (P := PySem.Challenge.rw_fretways_k14_asked_again.prog) (w := w) (g := glb K) (mg := mg) (base := base) F_is_place (He.glo_ok X G (He.SaysD.fact (f := .glo "is_place") cd 2 (by rfl))) T
  have C_check_neck := ok_check_neck (P := PySem.Challenge.rw_fretways_k14_asked_again.prog) (w := w) (g := glb K) (mg := mg) (base := base) F_check_neck (He.glo_ok X G (He.SaysD.fact (f := .glo "check_neck") cd 3 (by rfl))) T C_all_within
  have C_check_shape := ok_check_shape (P := PySem.Challenge.rw_fretways_k14_asked_again.prog) (w := w) (g := glb K) (mg := mg) (base := base) F_check_shape (He.glo_ok X G (He.SaysD.fact (f := .glo "check_shape") cd 4 (by rfl))) T C_is_place
  have C_check_hand := ok_check_hand (P := PySem.Challenge.rw_fretways_k14_asked_again.prog) (w := w) (g := glb K) (mg := mg) (base := base) F_check_hand (He.glo_ok X G (He.SaysD.fact (f := .glo "check_hand") cd 5 (by rfl))) T C_all_within
  have C_check_chord := ok_check_chord (P := PySem.Challenge.rw_fretways_k14_asked_again.prog) (w := w) (g := glb K) (mg := mg) (base := base) F_check_chord (He.glo_ok X G (He.SaysD.fact (f := .glo "check_chord") cd 7 (by rfl))) T C_all_within C_rises
  have C_check_chord_all := ok_check_chord_all (P := PySem.Challenge.rw_fretways_k14_asked_again.prog) (w := w) (g := glb K) (mg := mg) (base := base) F_check_chord (He.glo_ok X G (He.SaysD.fact (f := .glo "check_chord") cd 7 (by rfl))) T C_all_within C_rises
  have C_is_pressed := ok_is_pressed (P := PySem.Challenge.rw_fretways_k14_asked_again.prog) (w := w) (g := glb K) (mg := mg) (base := base) F_is_pressed (He.glo_ok X G (He.SaysD.fact (f := .glo "_is_pressed") cd 20 (by rfl))) T C_is_place
  have C_fits := ok_fits (P := PySem.Challenge.rw_fretways_k14_asked_again.prog) (w := w) (g := glb K) (mg := mg) (base := base) F_fits (He.glo_ok X G (He.SaysD.fact (f := .glo "_fits") cd 21 (by rfl))) T C_is_pressed
  have C_moved := ok_moved (P := PySem.Challenge.rw_fretways_k14_asked_again.prog) (w := w) (g := glb K) (mg := mg) (base := base) F_moved (He.glo_ok X G (He.SaysD.fact (f := .glo "_moved") cd 22 (by rfl))) T C_is_pressed
  have C_placed := ok_placed (P := PySem.Challenge.rw_fretways_k14_asked_again.prog) (w := w) (g := glb K) (mg := mg) (base := base) F_placed (He.glo_ok X G (He.SaysD.fact (f := .glo "_placed") cd 19 (by rfl))) T C_is_place
  have C_sounded := ok_sounded (P := PySem.Challenge.rw_fretways_k14_asked_again.prog) (w := w) (g := glb K) (mg := mg) (base := base) F_sounded (He.glo_ok X G (He.SaysD.fact (f := .glo "sounded") cd 17 (by rfl))) T C_check_neck C_check_shape
  have C_ways := ok_ways (P := PySem.Challenge.rw_fretways_k14_asked_again.prog) (w := w) (g := glb K) (mg := mg) (base := base) F_ways (He.glo_ok X G (He.SaysD.fact (f := .glo "ways") cd 16 (by rfl))) T C_check_neck C_check_chord C_check_hand C_placed C_fits PRM
  have C_slid := ok_slid (P := PySem.Challenge.rw_fretways_k14_asked_again.prog) (w := w) (g := glb K) (mg := mg) (base := base) F_slid (He.glo_ok X G (He.SaysD.fact (f := .glo "slid") cd 18 (by rfl))) T C_check_neck C_check_shape C_moved
  have C_notes := ok_notes (P := PySem.Challenge.rw_fretways_k14_asked_again.prog) (w := w) (g := glb K) (mg := mg) (base := base) F_notes (He.glo_ok X G (He.SaysD.fact (f := .glo "notes") cd 10 (by rfl))) T C_check_neck
  have C_missing := ok_missing (P := PySem.Challenge.rw_fretways_k14_asked_again.prog) (w := w) (g := glb K) (mg := mg) (base := base) F_missing (He.glo_ok X G (He.SaysD.fact (f := .glo "missing") cd 11 (by rfl))) T C_notes
  have C_meanings := ok_meanings (P := PySem.Challenge.rw_fretways_k14_asked_again.prog) (w := w) (g := glb K) (mg := mg) (base := base) F_meanings (He.glo_ok X G (He.SaysD.fact (f := .glo "_meanings") cd 15 (by rfl))) T
  have C_written := ok_written (P := PySem.Challenge.rw_fretways_k14_asked_again.prog) (w := w) (g := glb K) (mg := mg) (base := base) F_written (He.glo_ok X G (He.SaysD.fact (f := .glo "written") cd 13 (by rfl))) T C_check_neck C_check_shape
  have C_read := ok_read (P := PySem.Challenge.rw_fretways_k14_asked_again.prog) (w := w) (g := glb K) (mg := mg) (base := base) F_read (He.glo_ok X G (He.SaysD.fact (f := .glo "read") cd 14 (by rfl))) T C_check_neck C_meanings
  have C_check_chords := ok_check_chords (P := PySem.Challenge.rw_fretways_k14_asked_again.prog) (w := w) (g := glb K) (mg := mg) (base := base) F_check_chords (He.glo_ok X G (He.SaysD.fact (f := .glo "check_chords") cd 8 (by rfl))) T C_check_chord_all
  have C_check_retunable := ok_check_retunable (P := PySem.Challenge.rw_fretways_k14_asked_again.prog) (w := w) (g := glb K) (mg := mg) (base := base) F_check_retunable (He.glo_ok X G (He.SaysD.fact (f := .glo "_check_retunable") cd 32 (by rfl))) T C_check_neck
  have C_rank := ok_rank (P := PySem.Challenge.rw_fretways_k14_asked_again.prog) (w := w) (g := glb K) (mg := mg) (base := base) F_rank (He.glo_ok X G (He.SaysD.fact (f := .glo "_rank") cd 34 (by rfl))) T
  have C_tuned := ok_tuned (P := PySem.Challenge.rw_fretways_k14_asked_again.prog) (w := w) (g := glb K) (mg := mg) (base := base) F_tuned (He.glo_ok X G (He.SaysD.fact (f := .glo "_tuned") cd 35 (by rfl))) T
  have C_retunings := ok_retunings (P := PySem.Challenge.rw_fretways_k14_asked_again.prog) (w := w) (g := glb K) (mg := mg) (base := base) F_retunings (He.glo_ok X G (He.SaysD.fact (f := .glo "_retunings") cd 33 (by rfl))) T C_rank
  have C_first_without_way := ok_first_without_way (P := PySem.Challenge.rw_fretways_k14_asked_again.prog) (w := w) (g := glb K) (mg := mg) (base := base) F_first_without_way (He.glo_ok X G (He.SaysD.fact (f := .glo "_first_without_way") cd 36 (by rfl))) T C_ways
  have C_retuned := ok_retuned (P := PySem.Challenge.rw_fretways_k14_asked_again.prog) (w := w) (g := glb K) (mg := mg) (base := base) F_retuned (He.glo_ok X G (He.SaysD.fact (f := .glo "retuned") cd 31 (by rfl))) T C_check_retunable C_check_chords C_check_hand C_retunings C_first_without_way C_tuned
  have C_check_tune := ok_check_tune (P := PySem.Challenge.rw_fretways_k14_asked_again.prog) (w := w) (g := glb K) (mg := mg) (base := base) F_check_tune (He.glo_ok X G (He.SaysD.fact (f := .glo "check_tune") cd 9 (by rfl))) T C_all_within
  have C_check_reach := ok_check_reach (P := PySem.Challenge.rw_fretways_k14_asked_again.prog) (w := w) (g := glb K) (mg := mg) (base := base) F_check_reach (He.glo_ok X G (He.SaysD.fact (f := .glo "check_reach") cd 6 (by rfl))) T
  have C_places := ok_places (P := PySem.Challenge.rw_fretways_k14_asked_again.prog) (w := w) (g := glb K) (mg := mg) (base := base) F_places (He.glo_ok X G (He.SaysD.fact (f := .glo "places") cd 12 (by rfl))) T C_check_neck C_is_place
  have C_positions := ok_positions (P := PySem.Challenge.rw_fretways_k14_asked_again.prog) (w := w) (g := glb K) (mg := mg) (base := base) F_positions (He.glo_ok X G (He.SaysD.fact (f := .glo "_positions") cd 26 (by rfl))) T
  have C_place_from := ok_place_from (P := PySem.Challenge.rw_fretways_k14_asked_again.prog) (w := w) (g := glb K) (mg := mg) (base := base) F_place_from (He.glo_ok X G (He.SaysD.fact (f := .glo "_place_from") cd 27 (by rfl))) T C_places
  have C_arrival := ok_arrival (P := PySem.Challenge.rw_fretways_k14_asked_again.prog) (w := w) (g := glb K) (mg := mg) (base := base) F_arrival (He.glo_ok X G (He.SaysD.fact (f := .glo "_arrival") cd 29 (by rfl))) T
  have C_next_row := ok_next_row (P := PySem.Challenge.rw_fretways_k14_asked_again.prog) (w := w) (g := glb K) (mg := mg) (base := base) F_next_row (He.glo_ok X G (He.SaysD.fact (f := .glo "_next_row") cd 28 (by rfl))) T C_positions C_place_from C_arrival
  have C_table := ok_table (P := PySem.Challenge.rw_fretways_k14_asked_again.prog) (w := w) (g := glb K) (mg := mg) (base := base) F_table (He.glo_ok X G (He.SaysD.fact (f := .glo "table") cd 24 (by rfl))) T C_check_neck C_check_tune C_check_reach C_next_row C_positions
  have C_walk := ok_walk (P := PySem.Challenge.rw_fretways_k14_asked_again.prog) (w := w) (g := glb K) (mg := mg) (base := base) F_walk (He.glo_ok X G (He.SaysD.fact (f := .glo "_walk") cd 30 (by rfl))) T C_arrival
  have C_movement := ok_movement (P := PySem.Challenge.rw_fretways_k14_asked_again.prog) (w := w) (g := glb K) (mg := mg) (base := base) F_movement (He.glo_ok X G (He.SaysD.fact (f := .glo "movement") cd 25 (by rfl))) T
  have C_played := ok_played (P := PySem.Challenge.rw_fretways_k14_asked_again.prog) (w := w) (g := glb K) (mg := mg) (base := base) F_played (He.glo_ok X G (He.SaysD.fact (f := .glo "played") cd 23 (by rfl))) T C_table C_walk C_place_from C_movement C_positions
  have C_law_taken := ok_law_taken (P := PySem.Challenge.rw_fretways_k14_asked_again.prog) (w := w) (g := glb K) (mg := mg) (base := base) F_law_taken (He.glo_ok X G (He.SaysD.fact (f := .glo "_law_taken") cd 37 (by rfl))) T
  have C_law_alike := ok_law_alike (P := PySem.Challenge.rw_fretways_k14_asked_again.prog) (w := w) (g := glb K) (mg := mg) (base := base) F_law_alike (He.glo_ok X G (He.SaysD.fact (f := .glo "_law_alike") cd 38 (by rfl))) T
  have C_law_neck := ok_law_neck (P := PySem.Challenge.rw_fretways_k14_asked_again.prog) (w := w) (g := glb K) (mg := mg) (base := base) F_law_neck (He.glo_ok X G (He.SaysD.fact (f := .glo "_law_neck") cd 39 (by rfl))) T C_law_taken
  have C_law_shape := ok_law_shape (P := PySem.Challenge.rw_fretways_k14_asked_again.prog) (w := w) (g := glb K) (mg := mg) (base := base) F_law_shape (He.glo_ok X G (He.SaysD.fact (f := .glo "_law_shape") cd 41 (by rfl))) T C_law_taken
  have C_law_hand := ok_law_hand (P := PySem.Challenge.rw_fretways_k14_asked_again.prog) (w := w) (g := glb K) (mg := mg) (base := base) F_law_hand (He.glo_ok X G (He.SaysD.fact (f := .glo "_law_hand") cd 42 (by rfl))) T C_law_taken
  have C_law_sounds := ok_law_sounds (P := PySem.Challenge.rw_fretways_k14_asked_again.prog) (w := w) (g := glb K) (mg := mg) (base := base) F_law_sounds (He.glo_ok X G (He.SaysD.fact (f := .glo "_law_sounds") cd 43 (by rfl))) T
  have C_law_chord := ok_law_chord (P := PySem.Challenge.rw_fretways_k14_asked_again.prog) (w := w) (g := glb K) (mg := mg) (base := base) F_law_chord (He.glo_ok X G (He.SaysD.fact (f := .glo "_law_chord") cd 46 (by rfl))) T C_law_sounds C_law_taken C_law_shape
  have C_law_tune := ok_law_tune (P := PySem.Challenge.rw_fretways_k14_asked_again.prog) (w := w) (g := glb K) (mg := mg) (base := base) F_law_tune (He.glo_ok X G (He.SaysD.fact (f := .glo "_law_tune") cd 50 (by rfl))) T C_law_taken
  have C_law_asked := ok_law_asked (P := PySem.Challenge.rw_fretways_k14_asked_again.prog) (w := w) (g := glb K) (mg := mg) (base := base) F_law_asked (He.glo_ok X G (He.SaysD.fact (f := .glo "_law_asked") cd 51 (by rfl))) T C_written C_read C_notes C_missing C_places C_ways C_sounded C_slid C_table C_played C_retuned
  have C_law_copied := ok_law_copied (P := PySem.Challenge.rw_fretways_k14_asked_again.prog) (w := w) (g := glb K) (mg := mg) (base := base) F_law_copied (He.glo_ok X G (He.SaysD.fact (f := .glo "_law_copied") cd 52 (by rfl))) T
  exact ok_law (g := glb K) F_law T C_law_neck C_law_taken C_law_asked C_law_shape C_law_chord C_law_hand C_law_tune C_law_copied C_law_alike
end
end FW
open PySem PySem.W PySem.Calls PyProof.Rows
theorem PySem.Challenge.cw_fretways_k14_asked_again_holds : PySem.Challenge.rw_fretways_k14_asked_again.Holds := by
  w_on; o_law
  refine HandSHeadRun.head_imp (r := OpenLaw.row PySem.Challenge.rw_fretways_k14_asked_again) (q := view (OpenLaw.row PySem.Challenge.rw_fretways_k14_asked_again).prog [0, 82]) (H := FW.hk) (ob := FW.ob) (M := 4000) (loose := FW.looseL) (d := HandSHeadRun.topDef (OpenLaw.row PySem.Challenge.rw_fretways_k14_asked_again).prog 82) (kwd := []) FW.ob_eq
    FW.run (by kernel_rfl) (by kernel_rfl) (by kernel_rfl) (by rfl) (by first | assumption | decide +kernel) (by decide +kernel) ⟨rfl, rfl, rfl, rfl, rfl, by decide +kernel⟩ ?hw ?hc
  case hw => w_witness2
  case hc =>
    refine LamX.walk_ofTsE (l := PySem.Challenge.rw_fretways_k14_asked_again) (n := 63) (k := 9) (x := "_law_script") (CX := fun _ => L2.CX0) rfl (by decide) (by kernel_rfl) ⟨rfl, by decide, by decide⟩ ?F (fun _ _ _ _ _ z => z)
    intro w mg fa h Y G hmg0
    obtain ⟨K, KX, c⟩ := Y
    have hmg : mg ("law" : PySem.Str) = some (.ref fa) := by
      have e : (HandSHeadRun.topDef (OpenLaw.row PySem.Challenge.rw_fretways_k14_asked_again).prog 82).name = ("law" : PySem.Str) := by kernel_rfl
      rw [← e]
      exact hmg0
    exact ⟨K, KX, FW.law_at KX G hmg c⟩
