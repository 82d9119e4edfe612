import PyProof.Rows.All
import Wide.All
import OpenK.AllK
import Wide.FinOn
import HandS.ForMost
import HandS.AnyAll
import HandS.Codes
import HandS.IsInst
import HandS.SortInts
import HandS.Zip
import HandS.TupAny
import HandS.Conv
import HandS.Defaults
import HandS.HeadHook4
import HandS.EndTab
import HandS.HeadWalk
import HandS.Exc
import HandS.ExcOwn
import HandS.WordsExc
import HandS.TryOnly
import HandS.Iter
import KE.GoesEnum
import PyProof.EnumMake
import HandS.ExcIs
import HandS.TupMul
import PyProof.MinMaxWalk
import PyProof.WalksMore
import HandS.FltList
import HandS.Style
import HandS.Rev
import KE.KRevSl
import PyProof.EqKinds
import HandS.Deep
import HandS.SetFor
import KE.KStateDown
import HandS.More
import HandS.Words
import HandS.Head0
import HandS.Head1
import HandS.Head2
import HandS.HeadEnd
import HandS.HeadHook1
import HandS.HeadHook2
import HandS.HeadHook3
import PySem.Challenge.RW_fretways_k08_whole_no_less_movement
set_option Elab.async false
set_option linter.all false
set_option maxRecDepth 100000
set_option maxHeartbeats 4000000
/-! FW0: data instead of heaps. A value stands for a datum (PyData); what does not change stands in a frozen part F of the heap; a reading of the layer becomes a predicate over data. -/
namespace FW
open PySem PySem.Spec PyProof.Rows L2
abbrev D := PyData
theorem same_t {K : PySem.W.Frag} {F H : Hp} {a : Addr} {xs : List V} (e : Same F H) (h : SqT K F a xs) : SqT K H a xs := by
  rcases h with (h | ⟨o, h⟩) | h
  · exact .inl (.inl (e _ _ h))
  · exact .inl (.inr ⟨o, e _ _ h⟩)
  · exact .inr h
/-! ### data: as the layer's Dp, but a list stands in the frozen part itself -/
mutual
inductive Rp (K : PySem.W.Frag) (F : Hp) : V → D → Prop
  | non : Rp K F .non .none
  | bl (b : Bool) : Rp K F (.bl b) (.bool b)
  | int (i : Int) : Rp K F (.int i) (.int i)
  | str (x : Str) : Rp K F (.str x) (.str x)
  | lst {a : Addr} {xs : List V} {ds : List D} : F a = some (.lst xs) → RpAll K F xs ds → Rp K F (.ref a) (.list ds)
  | tup {a : Addr} {xs : List V} {ds : List D} : SqT K F a xs → RpAll K F xs ds → Rp K F (.ref a) (.tuple ds)
inductive RpAll (K : PySem.W.Frag) (F : Hp) : List V → List D → Prop
  | nil : RpAll K F [] []
  | cons {v : V} {vs : List V} {d : D} {ds : List D} : Rp K F v d → RpAll K F vs ds → RpAll K F (v :: vs) (d :: ds)
end
mutual
theorem dp_same {K : PySem.W.Frag} {F H : Hp} (e : Same F H) : ∀ (d : D) (v : V), Rp K F v d → Rp K H v d
  | .none, _, h => by cases h; exact .non
  | .bool b, _, h => by cases h; exact .bl b
  | .int i, _, h => by cases h; exact .int i
  | .str x, _, h => by cases h; exact .str x
  | .list ds, _, h => by
    cases h with
    | lst hs ha => exact .lst (e _ _ hs) (dpAll_same e ds _ ha)
  | .tuple ds, _, h => by
    cases h with
    | tup hs ha => exact .tup (same_t e hs) (dpAll_same e ds _ ha)
  | .dict _, _, h => by cases h
theorem dpAll_same {K : PySem.W.Frag} {F H : Hp} (e : Same F H) : ∀ (ds : List D) (vs : List V), RpAll K F vs ds → RpAll K H vs ds
  | [], _, h => by cases h; exact .nil
  | d :: ds, _, h => by
    cases h with
    | cons h1 h2 => exact .cons (dp_same e d _ h1) (dpAll_same e ds _ h2)
end
mutual
theorem rp_dp {K : PySem.W.Frag} {F : Hp} : ∀ (d : D) (v : V), Rp K F v d → Dp K F v d
  | .none, _, h => by cases h; exact .non
  | .bool b, _, h => by cases h; exact .bl b
  | .int i, _, h => by cases h; exact .int i
  | .str x, _, h => by cases h; exact .str x
  | .list ds, _, h => by
    cases h with
    | lst hs ha => exact .lst (SqL.of hs) (rpAll_dp ds _ ha)
  | .tuple ds, _, h => by
    cases h with
    | tup hs ha => exact .tup hs (rpAll_dp ds _ ha)
  | .dict _, _, h => by cases h
theorem rpAll_dp {K : PySem.W.Frag} {F : Hp} : ∀ (ds : List D) (vs : List V), RpAll K F vs ds → DpAll K F vs ds
  | [], _, h => by cases h; exact .nil
  | d :: ds, _, h => by
    cases h with
    | cons h1 h2 => exact .cons (rp_dp d _ h1) (rpAll_dp ds _ h2)
end
/-! ### what stands around: the row of draws, the tables of code objects -/
structure Glb where
  K : PySem.W.Frag
  Ps : List Addr
  cls : Str → Addr
structure Amb where
  g : Glb
  r : Addr
  a : Addr
  ns : List Int
abbrev Amb.K (c : Amb) : PySem.W.Frag := c.g.K
abbrev Amb.Ps (c : Amb) : List Addr := c.g.Ps
def RowOk (c : Amb) (H : Hp) : Prop := ∃ i x k : Int, H c.r = some (.lst [.ref c.a, .int i, .int x, .int k]) ∧ 0 ≤ i ∧ 0 ≤ x ∧ x < 2147483647 ∧ SqL c.K H c.a (c.ns.map V.int)
structure Wok (c : Amb) (H F : Hp) : Prop where
  sub : Same F H
  row : RowOk c H
  rF : F c.r = none
  tab : ∀ P ∈ c.Ps, GxR.TabG H P ∧ F P = none
structure Ext (c : Amb) (H F H' F' : Hp) : Prop where
  ok : Wok c H' F'
  grow : Same F F'
  keep : ∀ b o, H b = some o → b ≠ c.r → b ∉ c.Ps → H' b = some o
  new : ∀ b, F b = none → F' b ≠ none → H b = none
  pre : SqL c.K H c.a (c.ns.map V.int)
theorem RowOk.sq {c : Amb} {H : Hp} (h : RowOk c H) : SqL c.K H c.a (c.ns.map V.int) := let ⟨_, _, _, _, _, _, _, h⟩ := h; h
section
variable {c : Amb} {H F H1 F1 H2 F2 H' F' : Hp}
theorem Ext.refl (W : Wok c H F) : Ext c H F H F := ⟨W, fun _ _ h => h, fun _ _ h _ _ => h, fun _ h h' => absurd h h', W.row.sq⟩
theorem Wok.rH (W : Wok c H F) : H c.r ≠ none := by
  obtain ⟨i, x, k, h, _⟩ := W.row
  rw [h]; simp
theorem Ext.free (x : Ext c H F H' F') {b : Addr} (h : H' b = none) : H b = none := by
  cases q : H b with
  | none => rfl
  | some o =>
    by_cases hr : b = c.r
    · rw [hr] at h; exact absurd h x.ok.rH
    · by_cases hp : b ∈ c.Ps
      · obtain ⟨⟨ps, e, _⟩, _⟩ := x.ok.tab b hp
        rw [e] at h; cases h
      · rw [x.keep b o q hr hp] at h; cases h
theorem Ext.trans (a : Ext c H F H1 F1) (b : Ext c H1 F1 H2 F2) : Ext c H F H2 F2 where
  ok := b.ok
  grow := a.grow.trans b.grow
  keep := fun x o h hr hp => b.keep x o (a.keep x o h hr hp) hr hp
  new := fun x h h' => by
    by_cases q : F1 x = none
    · exact a.free (b.new x q h')
    · exact a.new x h q
  pre := a.pre
theorem RowOk.keep (h : RowOk c H) (k : ∀ b o, H b = some o → b ∉ c.Ps → H' b = some o) (ht : ∀ P ∈ c.Ps, GxR.TabG H P) : RowOk c H' := by
  obtain ⟨i, x, n, h1, h2, h3, h4, h5⟩ := h
  have nt : ∀ b o, H b = some o → (∀ ps, o ≠ .tbl ps) → H' b = some o := fun b o e ne => k b o e fun hb => by
    obtain ⟨ps, e', _⟩ := ht b hb
    rw [e] at e'; exact ne ps (Option.some.inj e')
  refine ⟨i, x, n, nt _ _ h1 (fun ps z => by cases z), h2, h3, h4, ?_⟩
  rcases h5 with (h5 | ⟨o, h5⟩) | h5
  · exact .inl (.inl (nt _ _ h5 fun ps z => by cases z))
  · exact .inl (.inr ⟨o, nt _ _ h5 fun ps z => by cases z⟩)
  · exact .inr h5
theorem upd_keep {p : Addr} {o : HO} (hp : H p = none) : ∀ b u, H b = some u → upd H p o b = some u := fun b u e => by
  rw [upd_ne (ne_of_none e hp)]; exact e
theorem TabG.keep {P : Addr} (h : GxR.TabG H P) (k : ∀ b o, H b = some o → H' b = some o) : GxR.TabG H' P := by
  obtain ⟨ps, e, t⟩ := h
  exact ⟨ps, k _ _ e, t⟩
/-- a new object, frozen -/
theorem Ext.laid (W : Wok c H F) {p : Addr} (o : HO) (hp : H p = none) : Ext c H F (upd H p o) (upd F p o) := by
  have hF : F p = none := by
    cases q : F p with
    | none => rfl
    | some u => rw [W.sub p u q] at hp; cases hp
  have np : ∀ b, H b ≠ none → b ≠ p := fun b h z => h (by rw [z]; exact hp)
  refine ⟨⟨fun b u e => ?_, W.row.keep (fun b u e _ => upd_keep hp b u e) (fun P h => (W.tab P h).1), ?_, fun P h => ⟨TabG.keep (W.tab P h).1 (upd_keep hp), ?_⟩⟩, upd_keep hF, fun b u e _ _ => upd_keep hp b u e, fun b h h' => ?_, W.row.sq⟩
  · by_cases hb : b = p
    · rw [hb, upd_same] at e ⊢; exact e
    · rw [upd_ne hb] at e ⊢; exact W.sub b u e
  · rw [upd_ne (np _ W.rH)]; exact W.rF
  · obtain ⟨⟨ps, e, _⟩, z⟩ := W.tab P h
    rw [upd_ne (np _ (by rw [e]; simp))]; exact z
  · by_cases hb : b = p
    · rw [hb]; exact hp
    · rw [upd_ne hb] at h'; exact absurd h h'
/-- a new object, not frozen -/
theorem Ext.loose (W : Wok c H F) {p : Addr} (o : HO) (hp : H p = none) : Ext c H F (upd H p o) F :=
  ⟨⟨fun b u e => upd_keep hp b u (W.sub b u e), W.row.keep (fun b u e _ => upd_keep hp b u e) (fun P h => (W.tab P h).1), W.rF, fun P h => ⟨TabG.keep (W.tab P h).1 (upd_keep hp), (W.tab P h).2⟩⟩, fun _ _ h => h, fun b u e _ _ => upd_keep hp b u e, fun b h h' => absurd h h', W.row.sq⟩
/-- an object that stands already in the heap and is nobody's is frozen -/
theorem Wok.freeze (W : Wok c H F) {p : Addr} {o : HO} (hp : H p = some o) (hr : p ≠ c.r) (ht : ∀ ps, o ≠ .tbl ps) : Wok c H (upd F p o) := by
  refine ⟨fun b u e => ?_, W.row, ?_, fun P h => ⟨(W.tab P h).1, ?_⟩⟩
  · by_cases hb : b = p
    · rw [hb, upd_same] at e; rw [hb, hp]; exact e
    · rw [upd_ne hb] at e; exact W.sub b u e
  · rw [upd_ne (fun z => hr z.symm)]; exact W.rF
  · obtain ⟨⟨ps, e, _⟩, z⟩ := W.tab P h
    rw [upd_ne (fun q => ?_)]
    · exact z
    · rw [q, hp] at e; exact ht ps (Option.some.inj e)
/-- an object that is new and not frozen is changed -/
theorem Ext.mut (x : Ext c H F H' F') {L : Addr} {ws : List V} (h0 : H L = none) (h2 : H' L = some (.lst ws)) (n2 : F' L = none) (nr : L ≠ c.r) (ws' : List V) : Ext c H F (upd H' L (.lst ws')) F' := by
  have np : L ∉ c.Ps := fun hp => by
    obtain ⟨⟨ps, q, _⟩, _⟩ := x.ok.tab L hp
    rw [h2] at q; cases q
  refine ⟨⟨fun b o eb => ?_, ?_, x.ok.rF, fun P hP => ⟨?_, (x.ok.tab P hP).2⟩⟩, x.grow, fun b o eb hr hp => ?_, x.new, x.pre⟩
  · rw [upd_ne (fun z => by rw [z, n2] at eb; cases eb)]; exact x.ok.sub b o eb
  · obtain ⟨i, y, n, h1, h3, h4, h5, h6⟩ := x.ok.row
    refine ⟨i, y, n, by rw [upd_ne (fun z => nr z.symm)]; exact h1, h3, h4, h5, ?_⟩
    rcases h6 with (h6 | ⟨o, h6⟩) | h6
    · by_cases hz : c.a = L
      · rcases x.pre with (p | ⟨o, p⟩) | p
        · rw [hz, h0] at p; cases p
        · rw [hz, h0] at p; cases p
        · exact .inr p
      · exact .inl (.inl (by rw [upd_ne hz]; exact h6))
    · exact .inl (.inr ⟨o, by rw [upd_ne (fun z => by rw [z, h2] at h6; cases h6)]; exact h6⟩)
    · exact .inr h6
  · obtain ⟨ps, e1, t1⟩ := (x.ok.tab P hP).1
    exact ⟨ps, by rw [upd_ne (fun (z : P = L) => np (z ▸ hP))]; exact e1, t1⟩
  · rw [upd_ne (fun z => by rw [z, h0] at eb; cases eb)]
    exact x.keep b o eb hr hp
/-! ### a datum of a value; the row is told as the empty dict -/
def RepV (c : Amb) (F : Hp) (v : V) (d : D) : Prop := Rp c.K F v d ∨ (d = .dict [] ∧ v = .ref c.r)
theorem RepV.grow {v : V} {d : D} (h : RepV c F v d) (e : Same F F') : RepV c F' v d := by
  rcases h with h | h
  · exact .inl (dp_same e _ _ h)
  · exact .inr h
theorem RepV.dp {v : V} {d : D} (h : RepV c F v d) (hd : d ≠ .dict []) : Rp c.K F v d := by
  rcases h with h | h
  · exact h
  · exact absurd h.1 hd
theorem RepV.int {i : Int} : RepV c F (.int i) (.int i) := .inl (.int i)
theorem RepV.bl {b : Bool} : RepV c F (.bl b) (.bool b) := .inl (.bl b)
theorem RepV.non : RepV c F .non .none := .inl .non
theorem RepV.str {x : Str} : RepV c F (.str x) (.str x) := .inl (.str x)
theorem RepV.int_inv {v : V} {i : Int} (h : RepV c F v (.int i)) : v = .int i := by
  have h := h.dp (by intro z; cases z)
  cases h; rfl
theorem RepV.bl_inv {v : V} {b : Bool} (h : RepV c F v (.bool b)) : v = .bl b := by
  have h := h.dp (by intro z; cases z)
  cases h; rfl
theorem RepV.non_inv {v : V} (h : RepV c F v .none) : v = .non := by
  have h := h.dp (by intro z; cases z)
  cases h; rfl
theorem RepV.str_inv {v : V} {x : Str} (h : RepV c F v (.str x)) : v = .str x := by
  have h := h.dp (by intro z; cases z)
  cases h; rfl
theorem RepV.row_inv {v : V} (h : RepV c F v (.dict [])) : v = .ref c.r := by
  rcases h with h | h
  · cases h
  · exact h.2
theorem RepV.list_inv {v : V} {ds : List D} (h : RepV c F v (.list ds)) : ∃ a vs, v = .ref a ∧ F a = some (.lst vs) ∧ RpAll c.K F vs ds := by
  have h := h.dp (by intro z; cases z)
  cases h with
  | lst hs ha => exact ⟨_, _, rfl, hs, ha⟩
theorem RepV.tup_inv {v : V} {ds : List D} (h : RepV c F v (.tuple ds)) : ∃ a vs, v = .ref a ∧ SqT c.K F a vs ∧ RpAll c.K F vs ds := by
  have h := h.dp (by intro z; cases z)
  cases h with
  | tup hs ha => exact ⟨_, _, rfl, hs, ha⟩
theorem dpAll_length {K : PySem.W.Frag} : ∀ {vs : List V} {ds : List D}, RpAll K F vs ds → vs.length = ds.length
  | _, _, .nil => rfl
  | _, _, .cons _ t => congrArg (· + 1) (dpAll_length t)
theorem dpAll_get {K : PySem.W.Frag} : ∀ {vs : List V} {ds : List D} {i : Nat} {v : V}, RpAll K F vs ds → vs[i]? = some v → ∃ d, ds[i]? = some d ∧ Rp K F v d
  | _, _, _, _, .nil, h => by simp at h
  | _, _, 0, _, .cons h _, e => by simp at e; subst e; exact ⟨_, rfl, h⟩
  | _, _, i + 1, _, .cons _ t, e => by
    obtain ⟨d, h1, h2⟩ := dpAll_get (i := i) t (by simpa using e)
    exact ⟨d, by simpa using h1, h2⟩
theorem dpAll_at {K : PySem.W.Frag} : ∀ {vs : List V} {ds : List D} {i : Nat} {d : D}, RpAll K F vs ds → ds[i]? = some d → ∃ v, vs[i]? = some v ∧ Rp K F v d
  | _, _, _, _, .nil, h => by simp at h
  | _, _, 0, _, .cons h _, e => by simp at e; subst e; exact ⟨_, rfl, h⟩
  | _, _, i + 1, _, .cons _ t, e => by
    obtain ⟨d, h1, h2⟩ := dpAll_at (i := i) t (by simpa using e)
    exact ⟨d, by simpa using h1, h2⟩
theorem dpAll_app {K : PySem.W.Frag} : ∀ {vs ws : List V} {ds es : List D}, RpAll K F vs ds → RpAll K F ws es → RpAll K F (vs ++ ws) (ds ++ es)
  | _, _, _, _, .nil, h => h
  | _, _, _, _, .cons h t, h2 => .cons h (dpAll_app t h2)
theorem dpAll_drop {K : PySem.W.Frag} : ∀ {vs : List V} {ds : List D} (n : Nat), RpAll K F vs ds → RpAll K F (vs.drop n) (ds.drop n)
  | _, _, 0, h => h
  | _, _, _ + 1, .nil => .nil
  | _, _, n + 1, .cons _ t => dpAll_drop n t
theorem dpAll_take {K : PySem.W.Frag} : ∀ {vs : List V} {ds : List D} (n : Nat), RpAll K F vs ds → RpAll K F (vs.take n) (ds.take n)
  | _, _, 0, _ => .nil
  | _, _, _ + 1, .nil => .nil
  | _, _, n + 1, .cons h t => .cons h (dpAll_take n t)
theorem dpAll_set {K : PySem.W.Frag} {v : V} {d : D} (h : Rp K F v d) : ∀ {vs : List V} {ds : List D} (i : Nat), RpAll K F vs ds → RpAll K F (vs.set i v) (ds.set i d)
  | _, _, _, .nil => .nil
  | _, _, 0, .cons _ t => .cons h t
  | _, _, i + 1, .cons q t => .cons q (dpAll_set h i t)
theorem dpAll_rev {K : PySem.W.Frag} : ∀ {vs : List V} {ds : List D}, RpAll K F vs ds → RpAll K F vs.reverse ds.reverse
  | _, _, .nil => .nil
  | _, _, .cons h t => by
    simp only [List.reverse_cons]
    exact dpAll_app (dpAll_rev t) (.cons h .nil)
theorem dpAll_ints {K : PySem.W.Frag} : ∀ (l : List Int), RpAll K F (l.map V.int) (l.map PyData.int)
  | [] => .nil
  | i :: l => .cons (.int i) (dpAll_ints l)
theorem dpAll_ints_inv {K : PySem.W.Frag} : ∀ (l : List Int) (vs : List V), RpAll K F vs (l.map PyData.int) → vs = l.map V.int
  | [], _, h => by cases h; rfl
  | i :: l, _, h => by
    cases h with
    | cons h1 h2 =>
      cases h1
      rw [dpAll_ints_inv l _ h2]; rfl
/-! ### the slots -/
inductive Sl where
  | un | val (d : D) | ownO (o : Option Hp) (ds : List D) | exc (a : Addr) | fix (k : Bool) (Fb : Hp) (d : D)
/-- without the lists of Fb -/
def cutF (F Fb : Hp) : Hp := fun b => match F b with
  | some (.lst vs) => (match Fb b with
    | none => some (.lst vs)
    | some _ => none)
  | o => o
theorem cutF_sub {F Fb : Hp} : Same (cutF F Fb) F := fun b o h => by
  unfold cutF at h
  split at h
  · rename_i vs e
    split at h
    · rw [e]; exact h
    · cases h
  · exact h
theorem cutF_some {F Fb : Hp} {b : Addr} {o : HO} (h : F b = some o) (k : (∃ vs, o = .lst vs) → Fb b = none) : cutF F Fb b = some o := by
  unfold cutF
  rw [h]
  cases o with
  | lst vs => show (match Fb b with | none => some (HO.lst vs) | some _ => none) = _; rw [k ⟨vs, rfl⟩]
  | _ => rfl
theorem cutF_new {F Fb : Hp} {b : Addr} {vs : List V} (h : cutF F Fb b = some (.lst vs)) : F b = some (.lst vs) ∧ Fb b = none := by
  refine ⟨cutF_sub _ _ h, ?_⟩
  have e := cutF_sub _ _ h
  unfold cutF at h
  rw [e] at h
  cases q : Fb b with
  | none => rfl
  | some o =>
    have h : (match Fb b with | none => some (HO.lst vs) | some _ => none) = some (HO.lst vs) := h
    rw [q] at h
    cases h
theorem cutF_grow {F F' Fb Fb' : Hp} (s : Same F F') (k : ∀ b, Fb b = none → F b ≠ none → Fb' b = none) : Same (cutF F Fb) (cutF F' Fb') := fun b o h => by
  have h1 := cutF_sub _ _ h
  refine cutF_some (s _ _ h1) fun ⟨vs, e⟩ => ?_
  subst e
  exact k b (cutF_new h).2 (by rw [h1]; simp)
/-- of data whose lists may be any -/
abbrev Sl.own (ds : List D) : Sl := .ownO none ds
def cutO (F : Hp) : Option Hp → Hp
  | none => F
  | some Fb => cutF F Fb
theorem cutO_grow {F F' : Hp} : ∀ (o : Option Hp), Same F F' → Same (cutO F o) (cutO F' o)
  | none, s => s
  | some _, s => cutF_grow s fun _ h _ => h
abbrev Sg := List Sl
structure RepS (c : Amb) (H0 : Hp) (σ : L2.St) (H F : Hp) (e : Sg) : Prop where
  len : σ.length = e.length
  val : ∀ (i : Nat) (d : D), e[i]? = some (.val d) → ∃ v, σ[i]? = some (some v) ∧ RepV c F v d
  ownO : ∀ (i : Nat) (o : Option Hp) (ds : List D), e[i]? = some (.ownO o ds) → ∃ a vs, σ[i]? = some (some (.ref a)) ∧ H a = some (.lst vs) ∧ F a = none ∧ H0 a = none ∧ a ≠ c.r ∧ RpAll c.K (cutO F o) vs ds
  distO : ∀ (i j : Nat) (o o' : Option Hp) (ds es : List D) (a : Addr), i ≠ j → e[i]? = some (.ownO o ds) → e[j]? = some (.ownO o' es) → σ[i]? = some (some (.ref a)) → σ[j]? = some (some (.ref a)) → False
  exc : ∀ (i : Nat) (a : Addr), e[i]? = some (.exc a) → σ[i]? = some (some (.ref a))
  fix : ∀ (i : Nat) (k : Bool) (Fb : Hp) (d : D), e[i]? = some (.fix k Fb d) → Same Fb F ∧ ∃ v, σ[i]? = some (some v) ∧ RepV c (if k = true then cutF F Fb else Fb) v d
theorem RepS.own {c : Amb} {H0 : Hp} {σ : L2.St} {H F : Hp} {e : Sg} (S : RepS c H0 σ H F e) (i : Nat) (ds : List D) (h : e[i]? = some (.own ds)) : ∃ a vs, σ[i]? = some (some (.ref a)) ∧ H a = some (.lst vs) ∧ F a = none ∧ H0 a = none ∧ a ≠ c.r ∧ RpAll c.K F vs ds := S.ownO i none ds h
theorem RepS.dist {c : Amb} {H0 : Hp} {σ : L2.St} {H F : Hp} {e : Sg} (S : RepS c H0 σ H F e) (i j : Nat) (ds es : List D) (a : Addr) (hij : i ≠ j) (h1 : e[i]? = some (.own ds)) (h2 : e[j]? = some (.own es)) (h3 : σ[i]? = some (some (.ref a))) (h4 : σ[j]? = some (some (.ref a))) : False := S.distO i j none none ds es a hij h1 h2 h3 h4
abbrev FixOk (c : Amb) (F : Hp) (σ : L2.St) (e : Sg) : Prop := ∀ (i : Nat) (k : Bool) (Fb : Hp) (d : D), e[i]? = some (.fix k Fb d) → Same Fb F ∧ ∃ v, σ[i]? = some (some v) ∧ RepV c (if k = true then cutF F Fb else Fb) v d
theorem fix_set {c : Amb} {F : Hp} {e : Sg} {σ : L2.St} {i : Nat} {s : Sl} {o : Option V} (S : FixOk c F σ e) (hs : ∀ k Fb d, s ≠ .fix k Fb d) : FixOk c F (σ.set i o) (e.set i s) := fun j k Fb d h => by
  by_cases hij : i = j
  · subst hij
    by_cases hl : i < e.length
    · rw [List.getElem?_set_self hl] at h
      exact absurd (Option.some.inj h) (hs k Fb d)
    · rw [List.getElem?_eq_none (by simpa using hl)] at h; cases h
  · rw [List.getElem?_set_ne hij] at h ⊢
    exact S j k Fb d h
theorem fix_set0 {c : Amb} {F : Hp} {e : Sg} {σ : L2.St} {i : Nat} {s : Sl} (S : FixOk c F σ e) (hs : ∀ k Fb d, s ≠ .fix k Fb d) : FixOk c F σ (e.set i s) := fun j k Fb d h => by
  by_cases hij : i = j
  · subst hij
    by_cases hl : i < e.length
    · rw [List.getElem?_set_self hl] at h
      exact absurd (Option.some.inj h) (hs k Fb d)
    · rw [List.getElem?_eq_none (by simpa using hl)] at h; cases h
  · rw [List.getElem?_set_ne hij] at h
    exact S j k Fb d h
theorem fix_grow {c : Amb} {F F' : Hp} {e : Sg} {σ : L2.St} (S : FixOk c F σ e) (g : Same F F') : FixOk c F' σ e := fun j k Fb d h => by
  obtain ⟨h1, v, h2, h3⟩ := S j k Fb d h
  refine ⟨h1.trans g, v, h2, ?_⟩
  cases k with
  | false => exact h3
  | true => exact h3.grow (cutF_grow g fun _ z _ => z)
/-- a slot is set, to what is no exception -/
theorem exc_set {e : Sg} {σ : L2.St} {i : Nat} {s : Sl} {o : Option V} (S : ∀ (i : Nat) (a : Addr), e[i]? = some (.exc a) → σ[i]? = some (some (.ref a))) (hs : ∀ a, s ≠ .exc a) (j : Nat) (a : Addr) (h : (e.set i s)[j]? = some (.exc a)) : (σ.set i o)[j]? = some (some (.ref a)) := by
  by_cases hij : i = j
  · subst hij
    by_cases hl : i < e.length
    · rw [List.getElem?_set_self hl] at h
      exact absurd (Option.some.inj h) (hs a)
    · rw [List.getElem?_eq_none (by simpa using hl)] at h; cases h
  · rw [List.getElem?_set_ne hij] at h ⊢
    exact S j a h
theorem exc_set0 {e : Sg} {σ : L2.St} {i : Nat} {s : Sl} (S : ∀ (i : Nat) (a : Addr), e[i]? = some (.exc a) → σ[i]? = some (some (.ref a))) (hs : ∀ a, s ≠ .exc a) (j : Nat) (a : Addr) (h : (e.set i s)[j]? = some (.exc a)) : σ[j]? = some (some (.ref a)) := by
  by_cases hij : i = j
  · subst hij
    by_cases hl : i < e.length
    · rw [List.getElem?_set_self hl] at h
      exact absurd (Option.some.inj h) (hs a)
    · rw [List.getElem?_eq_none (by simpa using hl)] at h; cases h
  · rw [List.getElem?_set_ne hij] at h
    exact S j a h
variable {H0 : Hp} {σ : L2.St} {e : Sg}
theorem Wok.noP (W : Wok c H F) {a : Addr} {vs : List V} (h : H a = some (.lst vs)) : a ∉ c.Ps := fun hp => by
  obtain ⟨⟨ps, q, _⟩, _⟩ := W.tab a hp
  rw [h] at q; cases q
theorem RepS.ext (S : RepS c H0 σ H F e) (W : Wok c H F) (x : Ext c H F H' F') : RepS c H0 σ H' F' e where
  exc := S.exc
  fix := fix_grow S.fix x.grow
  len := S.len
  val := fun i d h => by
    obtain ⟨v, h1, h2⟩ := S.val i d h
    exact ⟨v, h1, h2.grow x.grow⟩
  ownO := fun i o ds h => by
    obtain ⟨a, vs, h1, h2, h3, h4, h5, h6⟩ := S.ownO i o ds h
    refine ⟨a, vs, h1, x.keep a _ h2 h5 (W.noP h2), ?_, h4, h5, dpAll_same (cutO_grow o x.grow) _ _ h6⟩
    cases q : F' a with
    | none => rfl
    | some u =>
      have := x.new a h3 (by rw [q]; simp)
      rw [h2] at this; cases this
  distO := S.distO
theorem RepS.set_val (S : RepS c H0 σ H F e) (i : Nat) {v : V} {d : D} (r : RepV c F v d) : RepS c H0 (σ.set i (some v)) H F (e.set i (.val d)) where
  exc := exc_set S.exc fun _ z => nomatch z
  fix := fix_set S.fix fun _ _ _ z => nomatch z
  len := by simp [S.len]
  val := fun j d' h => by
    by_cases hij : i = j
    · subst hij
      by_cases hl : i < e.length
      · rw [List.getElem?_set_self hl] at h
        cases h
        exact ⟨v, by rw [List.getElem?_set_self (by rw [S.len]; exact hl)], r⟩
      · rw [List.getElem?_eq_none (by simpa using hl)] at h; cases h
    · rw [List.getElem?_set_ne hij] at h ⊢
      exact S.val j d' h
  ownO := fun j o' ds h => by
    by_cases hij : i = j
    · subst hij
      by_cases hl : i < e.length
      · rw [List.getElem?_set_self hl] at h; cases h
      · rw [List.getElem?_eq_none (by simpa using hl)] at h; cases h
    · rw [List.getElem?_set_ne hij] at h ⊢
      exact S.ownO j o' ds h
  distO := fun j k o1 o2 ds es a hjk h1 h2 h3 h4 => by
    have f : ∀ (j : Nat) (o : Option Hp) (ds : List D), (e.set i (.val d))[j]? = some (.ownO o ds) → i ≠ j := fun j o ds h z => by
      subst z
      by_cases hl : i < e.length
      · rw [List.getElem?_set_self hl] at h; cases h
      · rw [List.getElem?_eq_none (by simpa using hl)] at h; cases h
    have n1 := f j o1 ds h1
    have n2 := f k o2 es h2
    rw [List.getElem?_set_ne n1] at h1 h3
    rw [List.getElem?_set_ne n2] at h2 h4
    exact S.distO j k o1 o2 ds es a hjk h1 h2 h3 h4
theorem RepS.set_un (S : RepS c H0 σ H F e) (i : Nat) (o : Option V) : RepS c H0 (σ.set i o) H F (e.set i .un) where
  exc := exc_set S.exc fun _ z => nomatch z
  fix := fix_set S.fix fun _ _ _ z => nomatch z
  len := by simp [S.len]
  val := fun j d' h => by
    by_cases hij : i = j
    · subst hij
      by_cases hl : i < e.length
      · rw [List.getElem?_set_self hl] at h; cases h
      · rw [List.getElem?_eq_none (by simpa using hl)] at h; cases h
    · rw [List.getElem?_set_ne hij] at h ⊢
      exact S.val j d' h
  ownO := fun j o' ds h => by
    by_cases hij : i = j
    · subst hij
      by_cases hl : i < e.length
      · rw [List.getElem?_set_self hl] at h; cases h
      · rw [List.getElem?_eq_none (by simpa using hl)] at h; cases h
    · rw [List.getElem?_set_ne hij] at h ⊢
      exact S.ownO j o' ds h
  distO := fun j k o1 o2 ds es a hjk h1 h2 h3 h4 => by
    have f : ∀ (j : Nat) (o : Option Hp) (ds : List D), (e.set i Sl.un)[j]? = some (.ownO o ds) → i ≠ j := fun j o ds h z => by
      subst z
      by_cases hl : i < e.length
      · rw [List.getElem?_set_self hl] at h; cases h
      · rw [List.getElem?_eq_none (by simpa using hl)] at h; cases h
    have n1 := f j o1 ds h1
    have n2 := f k o2 es h2
    rw [List.getElem?_set_ne n1] at h1 h3
    rw [List.getElem?_set_ne n2] at h2 h4
    exact S.distO j k o1 o2 ds es a hjk h1 h2 h3 h4
/-- a slot gets a list of its own at p -/
theorem RepS.set_ownO (S : RepS c H0 σ H F e) (i : Nat) (o : Option Hp) {p : Addr} {vs : List V} {ds : List D} (hp : H p = some (.lst vs)) (hF : F p = none) (h0 : H0 p = none) (hr : p ≠ c.r) (hd : RpAll c.K (cutO F o) vs ds)
    (hn : ∀ (j : Nat) (o : Option Hp) (es : List D), j ≠ i → e[j]? = some (.ownO o es) → σ[j]? ≠ some (some (.ref p))) : RepS c H0 (σ.set i (some (.ref p))) H F (e.set i (.ownO o ds)) where
  exc := exc_set S.exc fun _ z => nomatch z
  fix := fix_set S.fix fun _ _ _ z => nomatch z
  len := by simp [S.len]
  val := fun j d' h => by
    by_cases hij : i = j
    · subst hij
      by_cases hl : i < e.length
      · rw [List.getElem?_set_self hl] at h; cases h
      · rw [List.getElem?_eq_none (by simpa using hl)] at h; cases h
    · rw [List.getElem?_set_ne hij] at h ⊢
      exact S.val j d' h
  ownO := fun j o' es h => by
    by_cases hij : i = j
    · subst hij
      by_cases hl : i < e.length
      · rw [List.getElem?_set_self hl] at h
        cases h
        exact ⟨p, vs, by rw [List.getElem?_set_self (by rw [S.len]; exact hl)], hp, hF, h0, hr, hd⟩
      · rw [List.getElem?_eq_none (by simpa using hl)] at h; cases h
    · rw [List.getElem?_set_ne hij] at h ⊢
      exact S.ownO j o' es h
  distO := fun j k o1 o2 es fs a hjk h1 h2 h3 h4 => by
    by_cases n1 : i = j
    · subst n1
      have n2 : i ≠ k := hjk
      rw [List.getElem?_set_ne n2] at h2 h4
      have : a = p := by
        by_cases hl : i < σ.length
        · rw [List.getElem?_set_self hl] at h3; cases h3; rfl
        · rw [List.getElem?_eq_none (by simpa using hl)] at h3; cases h3
      subst this
      exact hn k o2 fs (fun z => n2 z.symm) h2 h4
    · by_cases n2 : i = k
      · subst n2
        rw [List.getElem?_set_ne n1] at h1 h3
        have : a = p := by
          by_cases hl : i < σ.length
          · rw [List.getElem?_set_self hl] at h4; cases h4; rfl
          · rw [List.getElem?_eq_none (by simpa using hl)] at h4; cases h4
        subst this
        exact hn j o1 es (fun z => n1 z.symm) h1 h3
      · rw [List.getElem?_set_ne n1] at h1 h3
        rw [List.getElem?_set_ne n2] at h2 h4
        exact S.distO j k o1 o2 es fs a hjk h1 h2 h3 h4
theorem RepS.set_own (S : RepS c H0 σ H F e) (i : Nat) {p : Addr} {vs : List V} {ds : List D} (hp : H p = some (.lst vs)) (hF : F p = none) (h0 : H0 p = none) (hr : p ≠ c.r) (hd : RpAll c.K F vs ds)
    (hn : ∀ (j : Nat) (o : Option Hp) (es : List D), j ≠ i → e[j]? = some (.ownO o es) → σ[j]? ≠ some (some (.ref p))) : RepS c H0 (σ.set i (some (.ref p))) H F (e.set i (.own ds)) := S.set_ownO i none hp hF h0 hr hd hn
end
end FW
/-! FW1: readings over data: expressions, tests, arguments, statements. -/
namespace FW
open PySem PySem.Spec PyProof.Rows L2
/-! ### a judgement asks less where its reading asks more -/
section
variable {X : Cx}
theorem pe_w {e : Expr} {t t' : TE} (h : PE X e t) (k : ∀ σ H Q, t' σ H Q → t σ H Q) : PE X e t' := ⟨fun pins s σ H Q I q => h.run pins s σ H Q I (k σ H Q q)⟩
theorem pt_w {e : Expr} {t t' : TT} (h : PT X e t) (k : ∀ σ H Q, t' σ H Q → t σ H Q) : PT X e t' := ⟨fun pins s σ H Q I q => h.run pins s σ H Q I (k σ H Q q)⟩
theorem pw_w {e : Expr} {t t' : TT} (h : PW X e t) (k : ∀ σ H Q, t' σ H Q → t σ H Q) : PW X e t' := ⟨fun wh pins s σ H Q I q => h.run wh pins s σ H Q I (k σ H Q q)⟩
theorem pa_w {es : List Expr} {t t' : TA} (h : PA X es t) (k : ∀ σ H Q, t' σ H Q → t σ H Q) : PA X es t' := ⟨fun pos pins s σ H Q I q => h.run pos pins s σ H Q I (k σ H Q q)⟩
theorem ps_w {st : Stmt} {t t' : TS} (h : PS X st t) (k : ∀ D σ H, t' D σ H → t D σ H) : PS X st t' := ⟨fun pins s σ H D I q => h.run pins s σ H D I (k D σ H q)⟩
theorem pss_w {st : List Stmt} {t t' : TS} (h : PSs X st t) (k : ∀ D σ H, t' D σ H → t D σ H) : PSs X st t' := ⟨fun pins s σ H D I q => h.run pins s σ H D I (k D σ H q)⟩
theorem pts_w {es : List Expr} {t t' : TT} (h : PTs X es t) (k : ∀ σ H Q, t' σ H Q → t σ H Q) : PTs X es t' := ⟨fun pins s σ H Q I q => h.run pins s σ H Q I (k σ H Q q)⟩
theorem pi_w {tg it : Expr} {t t' : TI} (h : PI X tg it t) (k : ∀ σ H R, t' σ H R → t σ H R) : PI X tg it t' := ⟨fun pins s σ H R I q => h.run pins s σ H R I (k σ H R q)⟩
end
/-! ### readings over data -/
abbrev W := Sg → (D → Prop) → Prop
abbrev WT := Sg → (Bool → Prop) → Prop
abbrev WA := Sg → (List D → Prop) → Prop
abbrev RepVs (c : Amb) (F : Hp) : List V → List D → Prop := Paired (RepV c F)
section
variable (c : Amb)
def Post (H F : Hp) (R : D → Prop) (Q : VK) : Prop := ∀ d v H' F', R d → Ext c H F H' F' → RepV c F' v d → Q v H'
def tD (w : W) : TE := fun σ H Q => ∃ e F H0 R, Wok c H F ∧ RepS c H0 σ H F e ∧ w e R ∧ Post c H F R Q
def tT (w : WT) : TT := fun σ H Q => ∃ e F H0 R, Wok c H F ∧ RepS c H0 σ H F e ∧ w e R ∧ ∀ b H' F', R b → Ext c H F H' F' → Q b H'
def tA (w : WA) : TA := fun σ H Q => ∃ e F H0 R, Wok c H F ∧ RepS c H0 σ H F e ∧ w e R ∧ ∀ ds vs H' F', R ds → Ext c H F H' F' → RepVs c F' vs ds → Q vs H'
/-- a new list, nobody's yet -/
def tN (w : WA) : TE := fun σ H Q => ∃ e F H0 R, Wok c H F ∧ RepS c H0 σ H F e ∧ w e R ∧ ∀ ds p vs H' F', R ds → Ext c H F H' F' → H p = none → H' p = some (.lst vs) → F' p = none → p ≠ c.r → RpAll c.K F' vs ds → Q (.ref p) H'
end
section
variable {c : Amb} {H F H0 H1 F1 H' F' : Hp} {σ : L2.St} {e : Sg} {X : Cx}
theorem Post.ext {R : D → Prop} {Q : VK} (P : Post c H F R Q) (x : Ext c H F H1 F1) : Post c H1 F1 R Q := fun d v H' F' r x' rv => P d v H' F' r (x.trans x') rv
theorem Post.here {R : D → Prop} {Q : VK} (P : Post c H F R Q) (W : Wok c H F) {d : D} {v : V} (r : R d) (rv : RepV c F v d) : Q v H := P d v H F r (Ext.refl W) rv
theorem repVs_grow : ∀ {vs : List V} {ds : List D}, RepVs c F vs ds → Same F F' → RepVs c F' vs ds
  | _, _, .nil, _ => .nil
  | _, _, .cons h t, e => .cons (h.grow e) (repVs_grow t e)
theorem repVs_dp : ∀ {vs : List V} {ds : List D}, RepVs c F vs ds → (∀ d ∈ ds, d ≠ .dict []) → RpAll c.K F vs ds
  | _, _, .nil, _ => .nil
  | _, _, .cons h t, k => .cons (h.dp (k _ List.mem_cons_self)) (repVs_dp t fun d hd => k d (List.mem_cons_of_mem _ hd))
theorem dpAll_rep : ∀ {vs : List V} {ds : List D}, RpAll c.K F vs ds → RepVs c F vs ds
  | _, _, .nil => .nil
  | _, _, .cons h t => .cons (.inl h) (dpAll_rep t)
/-! ### values -/
/-- what a slot tells -/
@[simp] def rd : Option Sl → Option D
  | some (.val d) => some d
  | some (.fix _ _ d) => some d
  | _ => none
theorem RepS.rd (S : RepS c H0 σ H F e) {i : Nat} {d : D} (h : rd e[i]? = some d) : ∃ v, σ[i]? = some (some v) ∧ RepV c F v d := by
  cases q : e[i]? with
  | none => rw [q] at h; cases h
  | some s =>
    rw [q] at h
    cases s with
    | val d' => cases h; exact S.val i d q
    | fix k Fb d' =>
      cases h
      obtain ⟨h1, v, h2, h3⟩ := S.fix i k Fb d q
      refine ⟨v, h2, ?_⟩
      cases k with
      | false => exact h3.grow h1
      | true => exact h3.grow cutF_sub
    | _ => cases h
@[simp] def dVar (i : Nat) : W := fun e R => ∃ d, rd e[i]? = some d ∧ R d
@[simp] def dC (d : D) : W := fun _ R => R d
theorem xd_var {i : Nat} : ∀ σ H Q, tD c (dVar i) σ H Q → tVar i σ H Q := fun σ H Q ⟨e, F, H0, R, W, S, ⟨d, h, r⟩, P⟩ => by
  obtain ⟨v, h1, h2⟩ := S.rd h
  exact ⟨v, h1, P.here W r h2⟩
theorem xd_c {v : V} {d : D} (h : ∀ F, RepV c F v d) : ∀ σ H Q, tD c (dC d) σ H Q → tC v σ H Q := fun σ H Q ⟨e, F, H0, R, W, S, r, P⟩ => P.here W r (h F)
def OpD (c : Amb) (r : R2) (rd : D → D → (D → Prop) → Prop) : Prop := ∀ H F x y d e R Q, Wok c H F → RepV c F x d → RepV c F y e → rd d e R → Post c H F R Q → r x y H Q
@[simp] def dOp (rd : D → D → (D → Prop) → Prop) (wa wb : W) : W := fun e R => wa e fun x => wb e fun y => rd x y R
theorem xd_op {r : R2} {rd : D → D → (D → Prop) → Prop} (hd : OpD c r rd) {wa wb : W} : ∀ σ H Q, tD c (dOp rd wa wb) σ H Q → tOp r (tD c wa) (tD c wb) σ H Q := fun σ H Q ⟨e, F, H0, R, W, S, q, P⟩ =>
  ⟨e, F, H0, _, W, S, q, fun d v H1 F1 q1 x1 r1 => ⟨e, F1, H0, _, x1.ok, S.ext W x1, q1, fun d2 v2 H2 F2 q2 x2 r2 =>
    hd H2 F2 v v2 d d2 R Q x2.ok (r1.grow x2.grow) r2 q2 (P.ext (x1.trans x2))⟩⟩
@[simp] def rdI (g : Int → Int → D) : D → D → (D → Prop) → Prop := fun x y R => ∃ i j, x = .int i ∧ y = .int j ∧ R (g i j)
@[simp] def rdC (C : Int → Int → Prop) (g : Int → Int → D) : D → D → (D → Prop) → Prop := fun x y R => ∃ i j, x = .int i ∧ y = .int j ∧ C i j ∧ R (g i j)
theorem od_I0 {g : Int → Int → V} {gd : Int → Int → D} (h : ∀ F i j, RepV c F (g i j) (gd i j)) : OpD c (rI0 g) (rdI gd) := by
  rintro H F x y d e R Q W rx ry ⟨i, j, rfl, rfl, r⟩ P
  exact ⟨i, j, rx.int_inv, ry.int_inv, P.here W r (h F i j)⟩
theorem od_I {C : Int → Int → Prop} {g : Int → Int → V} {gd : Int → Int → D} (h : ∀ F i j, RepV c F (g i j) (gd i j)) : OpD c (rI C g) (rdC C gd) := by
  rintro H F x y d e R Q W rx ry ⟨i, j, rfl, rfl, hc, r⟩ P
  exact ⟨i, j, rx.int_inv, ry.int_inv, hc, P.here W r (h F i j)⟩
abbrev rdAdd := rdI fun i j => .int (i + j)
abbrev rdSub := rdI fun i j => .int (i - j)
abbrev rdLt := rdI fun i j => .bool (decide (i < j))
abbrev rdLe := rdI fun i j => .bool (decide (i ≤ j))
abbrev rdGt := rdI fun i j => .bool (decide (j < i))
abbrev rdGe := rdI fun i j => .bool (decide (j ≤ i))
abbrev rdMul := rdC CMul fun i j => .int (i * j)
abbrev rdDiv := rdC CDivN fun i j => .int (i.fdiv j)
abbrev rdMod := rdC (fun _ j => j ≠ 0) fun i j => .int (i.fmod j)
abbrev rdPow := rdC CPow fun i j => .int (i ^ j.toNat)
theorem od_add : OpD c (rI0 fun i j => .int (i + j)) rdAdd := od_I0 fun _ _ _ => .int
theorem od_sub : OpD c (rI0 fun i j => .int (i - j)) rdSub := od_I0 fun _ _ _ => .int
theorem od_lt : OpD c (rI0 fun i j => .bl (decide (i < j))) rdLt := od_I0 fun _ _ _ => .bl
theorem od_le : OpD c (rI0 fun i j => .bl (decide (i ≤ j))) rdLe := od_I0 fun _ _ _ => .bl
theorem od_gt : OpD c (rI0 fun i j => .bl (decide (j < i))) rdGt := od_I0 fun _ _ _ => .bl
theorem od_ge : OpD c (rI0 fun i j => .bl (decide (j ≤ i))) rdGe := od_I0 fun _ _ _ => .bl
theorem od_mul : OpD c (rI CMul fun i j => .int (i * j)) rdMul := od_I fun _ _ _ => .int
theorem od_div : OpD c (rI CDivN fun i j => .int (i.fdiv j)) rdDiv := od_I fun _ _ _ => .int
theorem od_mod : OpD c (rI (fun _ j => j ≠ 0) fun i j => .int (i.fmod j)) rdMod := od_I fun _ _ _ => .int
theorem od_pow : OpD c (rI CPow fun i j => .int (i ^ j.toNat)) rdPow := od_I fun _ _ _ => .int
/-- == and != of any data -/
@[simp] def rdEq : D → D → (D → Prop) → Prop := fun x y R => SeqAt.shaped x = true ∧ SeqAt.shaped y = true ∧ x ≠ .dict [] ∧ y ≠ .dict [] ∧ R (.bool (PyData.eqv x y))
@[simp] def rdNe : D → D → (D → Prop) → Prop := fun x y R => SeqAt.shaped x = true ∧ SeqAt.shaped y = true ∧ x ≠ .dict [] ∧ y ≠ .dict [] ∧ R (.bool (!PyData.eqv x y))
theorem od_eq : OpD c (rEqD c.K) rdEq := by
  rintro H F x y d e R Q W rx ry ⟨h1, h2, h3, h4, r⟩ P
  exact ⟨d, e, rp_dp _ _ (dp_same W.sub _ _ (rx.dp h3)), rp_dp _ _ (dp_same W.sub _ _ (ry.dp h4)), h1, h2, P.here W r .bl⟩
theorem od_ne : OpD c (rNeD c.K) rdNe := by
  rintro H F x y d e R Q W rx ry ⟨h1, h2, h3, h4, r⟩ P
  exact ⟨d, e, rp_dp _ _ (dp_same W.sub _ _ (rx.dp h3)), rp_dp _ _ (dp_same W.sub _ _ (ry.dp h4)), h1, h2, P.here W r .bl⟩
/-- is None -/
def isNone : D → Bool
  | .none => true
  | _ => false
@[simp] def dIsN (w : W) : W := fun e R => w e fun d => R (.bool (isNone d))
@[simp] def dNotN (w : W) : W := fun e R => w e fun d => R (.bool (!isNone d))
theorem isN_eq {v : V} {d : D} (r : RepV c F v d) : decide (v = .non) = isNone d := by
  rcases r with h | ⟨rfl, rfl⟩
  · cases h <;> simp [isNone]
  · simp [isNone]
theorem xd_isN {w : W} : ∀ σ H Q, tD c (dIsN w) σ H Q → tIsN (tD c w) σ H Q := fun σ H Q ⟨e, F, H0, R, W, S, q, P⟩ =>
  ⟨e, F, H0, _, W, S, q, fun d v H1 F1 q1 x1 r1 => by show Q (.bl (decide (v = .non))) H1; rw [isN_eq r1]; exact P _ _ _ _ q1 x1 .bl⟩
theorem xd_notN {w : W} : ∀ σ H Q, tD c (dNotN w) σ H Q → tNotN (tD c w) σ H Q := fun σ H Q ⟨e, F, H0, R, W, S, q, P⟩ =>
  ⟨e, F, H0, _, W, S, q, fun d v H1 F1 q1 x1 r1 => by
    show Q (.bl (!decide (v = .non))) H1
    rw [isN_eq r1]
    exact P _ _ _ _ q1 x1 .bl⟩
@[simp] def dNeg (w : W) : W := fun e R => w e fun d => ∃ i, d = .int i ∧ R (.int (-i))
theorem xd_neg {w : W} : ∀ σ H Q, tD c (dNeg w) σ H Q → tUn (rU fun i => .int (-i)) (tD c w) σ H Q := fun σ H Q ⟨e, F, H0, R, W, S, q, P⟩ =>
  ⟨e, F, H0, _, W, S, q, fun d v H1 F1 ⟨i, hi, q1⟩ x1 r1 => by subst hi; exact ⟨i, r1.int_inv, P _ _ _ _ q1 x1 .int⟩⟩
/-! ### tests -/
@[simp] def bB (w : W) : WT := fun e R => w e fun d => ∃ b, d = .bool b ∧ R b
theorem xt_test {w : W} : ∀ σ H Q, tT c (bB w) σ H Q → tTest (tD c w) σ H Q := fun σ H Q ⟨e, F, H0, R, W, S, q, P⟩ =>
  ⟨e, F, H0, _, W, S, q, fun d v H1 F1 ⟨b, hb, q1⟩ x1 r1 => by subst hb; exact ⟨b, r1.bl_inv, P _ _ _ q1 x1⟩⟩
theorem xt_B {w : W} : ∀ σ H Q, tT c (bB w) σ H Q → tB (tD c w) σ H Q := xt_test
@[simp] def tru : D → Bool
  | .none => false
  | .bool b => b
  | .int i => i != 0
  | .str _ => true
  | .list ds => !ds.isEmpty
  | .tuple ds => !ds.isEmpty
  | .dict _ => true
/-- truth of what is no text -/
@[simp] def bTru (w : W) : WT := fun e R => w e fun d => (∀ x, d ≠ .str x) ∧ d ≠ .dict [] ∧ R (tru d)
theorem isEmpty_len {α β : Type} {xs : List α} {ys : List β} (h : xs.length = ys.length) : xs.isEmpty = ys.isEmpty := by
  cases xs <;> cases ys <;> simp_all
theorem xt_tru {w : W} : ∀ σ H Q, tT c (bTru w) σ H Q → (fun σ H Q => tD c w σ H fun x H' => ∃ k, TruV c.K x H' k ∧ Q k H') σ H Q := fun σ H Q ⟨e, F, H0, R, W, S, q, P⟩ =>
  ⟨e, F, H0, _, W, S, q, fun d v H1 F1 ⟨n1, n2, q1⟩ x1 r1 => ⟨tru d, by
    have h := r1.dp n2
    cases h with
    | non => exact rfl
    | bl b => exact rfl
    | int i => exact rfl
    | str x => exact absurd rfl (n1 x)
    | lst hs ha => exact .inl ⟨_, SqL.of (x1.ok.sub _ _ hs), by show (!_) = (!_); rw [isEmpty_len (dpAll_length ha)]⟩
    | tup hs ha => exact .inr (.inl ⟨_, same_t x1.ok.sub hs, by show (!_) = (!_); rw [isEmpty_len (dpAll_length ha)]⟩), P _ _ _ q1 x1⟩⟩
@[simp] def bAnd (a b : WT) : WT := fun e R => a e fun x => if x = true then b e R else R false
@[simp] def bOr (a b : WT) : WT := fun e R => a e fun x => if x = true then R true else b e R
@[simp] def bNot (a : WT) : WT := fun e R => a e fun x => R (!x)
theorem xt_and {a b : WT} : ∀ σ H Q, tT c (bAnd a b) σ H Q → tAnd (tT c a) (tT c b) σ H Q := fun σ H Q ⟨e, F, H0, R, W, S, q, P⟩ =>
  ⟨e, F, H0, _, W, S, q, fun x H1 F1 q1 x1 => by
    cases x with
    | true => exact ⟨e, F1, H0, R, x1.ok, S.ext W x1, by simpa using q1, fun b H2 F2 r x2 => P b H2 F2 r (x1.trans x2)⟩
    | false => exact P false H1 F1 (by simpa using q1) x1⟩
theorem xt_or {a b : WT} : ∀ σ H Q, tT c (bOr a b) σ H Q → tOr (tT c a) (tT c b) σ H Q := fun σ H Q ⟨e, F, H0, R, W, S, q, P⟩ =>
  ⟨e, F, H0, _, W, S, q, fun x H1 F1 q1 x1 => by
    cases x with
    | true => exact P true H1 F1 (by simpa using q1) x1
    | false => exact ⟨e, F1, H0, R, x1.ok, S.ext W x1, by simpa using q1, fun b H2 F2 r x2 => P b H2 F2 r (x1.trans x2)⟩⟩
theorem xt_not {a : WT} : ∀ σ H Q, tT c (bNot a) σ H Q → tNot (tT c a) σ H Q := fun σ H Q ⟨e, F, H0, R, W, S, q, P⟩ =>
  ⟨e, F, H0, _, W, S, q, fun x H1 F1 q1 x1 => P _ H1 F1 q1 x1⟩
theorem xt_yes : ∀ σ H Q, tT c (fun _ R => R true) σ H Q → tYes σ H Q := fun σ H Q ⟨e, F, H0, R, W, S, q, P⟩ => P true H F q (Ext.refl W)
/-- and, or, not of truth values, as values -/
@[simp] def dAnd (a b : W) : W := fun e R => a e fun x => ∃ k, x = .bool k ∧ if k = true then b e R else R (.bool false)
@[simp] def dOr (a b : W) : W := fun e R => a e fun x => ∃ k, x = .bool k ∧ if k = true then R (.bool true) else b e R
@[simp] def dNot (a : W) : W := fun e R => a e fun x => ∃ k, x = .bool k ∧ R (.bool (!k))
theorem xd_and {a b : W} : ∀ σ H Q, tD c (dAnd a b) σ H Q → tAndV (tD c a) (tD c b) σ H Q := fun σ H Q ⟨e, F, H0, R, W, S, q, P⟩ =>
  ⟨e, F, H0, _, W, S, q, fun d v H1 F1 ⟨k, hk, q1⟩ x1 r1 => by
    subst hk
    refine ⟨k, r1.bl_inv, ?_⟩
    cases k with
    | true => exact ⟨e, F1, H0, R, x1.ok, S.ext W x1, by simpa using q1, P.ext x1⟩
    | false => exact P _ _ H1 F1 (by simpa using q1) x1 .bl⟩
theorem xd_or {a b : W} : ∀ σ H Q, tD c (dOr a b) σ H Q → tOrV (tD c a) (tD c b) σ H Q := fun σ H Q ⟨e, F, H0, R, W, S, q, P⟩ =>
  ⟨e, F, H0, _, W, S, q, fun d v H1 F1 ⟨k, hk, q1⟩ x1 r1 => by
    subst hk
    refine ⟨k, r1.bl_inv, ?_⟩
    cases k with
    | true => exact P _ _ H1 F1 (by simpa using q1) x1 .bl
    | false => exact ⟨e, F1, H0, R, x1.ok, S.ext W x1, by simpa using q1, P.ext x1⟩⟩
theorem xd_not {a : W} : ∀ σ H Q, tD c (dNot a) σ H Q → tNotV (tD c a) σ H Q := fun σ H Q ⟨e, F, H0, R, W, S, q, P⟩ =>
  ⟨e, F, H0, _, W, S, q, fun d v H1 F1 ⟨k, hk, q1⟩ x1 r1 => by
    subst hk
    exact ⟨k, r1.bl_inv, P _ _ H1 F1 q1 x1 .bl⟩⟩
@[simp] def dIf (t : WT) (a b : W) : W := fun e R => t e fun x => if x = true then a e R else b e R
theorem xd_if {t : WT} {a b : W} : ∀ σ H Q, tD c (dIf t a b) σ H Q → tIf (tT c t) (tD c a) (tD c b) σ H Q := fun σ H Q ⟨e, F, H0, R, W, S, q, P⟩ =>
  ⟨e, F, H0, _, W, S, q, fun x H1 F1 q1 x1 => by
    cases x with
    | true => exact ⟨e, F1, H0, R, x1.ok, S.ext W x1, by simpa using q1, P.ext x1⟩
    | false => exact ⟨e, F1, H0, R, x1.ok, S.ext W x1, by simpa using q1, P.ext x1⟩⟩
@[simp] def dChain (r r' : D → D → (D → Prop) → Prop) (wa wb wc : W) : W := fun e R => wa e fun x => wb e fun y => r x y fun z => ∃ k, z = .bool k ∧ if k = true then wc e fun u => r' y u R else R (.bool false)
theorem xd_chain {r r' : R2} {rd rd' : D → D → (D → Prop) → Prop} (h : OpD c r rd) (h' : OpD c r' rd') {wa wb wc : W} : ∀ σ H Q, tD c (dChain rd rd' wa wb wc) σ H Q → tChain r r' (tD c wa) (tD c wb) (tD c wc) σ H Q :=
  fun σ H Q ⟨e, F, H0, R, W, S, q, P⟩ => ⟨e, F, H0, _, W, S, q, fun d v H1 F1 q1 x1 r1 => ⟨e, F1, H0, _, x1.ok, S.ext W x1, q1, fun d2 v2 H2 F2 q2 x2 r2 =>
    h H2 F2 v v2 d d2 _ _ x2.ok (r1.grow x2.grow) r2 q2 fun d3 v3 H3 F3 ⟨k, hk, q3⟩ x3 r3 => by
      subst hk
      refine ⟨k, r3.bl_inv, ?_⟩
      have x13 := (x1.trans x2).trans x3
      cases k with
      | true => exact ⟨e, F3, H0, _, x3.ok, S.ext W x13, by simpa using q3, fun d4 v4 H4 F4 q4 x4 r4 => h' H4 F4 v2 v4 d2 d4 R Q x4.ok (r2.grow (x3.trans x4).grow) r4 q4 (P.ext (x13.trans x4))⟩
      | false => exact P _ _ H3 F3 (by simpa using q3) x13 .bl⟩⟩
/-! ### arguments, displays -/
@[simp] def aNil : WA := fun _ R => R []
@[simp] def aCons (w : W) (r : WA) : WA := fun e R => w e fun d => r e fun ds => R (d :: ds)
theorem xa_nil : ∀ σ H Q, tA c aNil σ H Q → tNil σ H Q := fun σ H Q ⟨e, F, H0, R, W, S, q, P⟩ => P [] [] H F q (Ext.refl W) .nil
theorem xa_cons {w : W} {r : WA} : ∀ σ H Q, tA c (aCons w r) σ H Q → tCons (tD c w) (tA c r) σ H Q := fun σ H Q ⟨e, F, H0, R, W, S, q, P⟩ =>
  ⟨e, F, H0, _, W, S, q, fun d v H1 F1 q1 x1 r1 => ⟨e, F1, H0, _, x1.ok, S.ext W x1, q1, fun ds vs H2 F2 q2 x2 r2 => P _ _ H2 F2 q2 (x1.trans x2) (.cons (r1.grow x2.grow) r2)⟩⟩
theorem Wok.newR (W : Wok c H F) {p : Addr} (h : H p = none) : p ≠ c.r := fun z => W.rH (by rw [← z]; exact h)
theorem Wok.newF (W : Wok c H F) {p : Addr} (h : H p = none) : F p = none := by
  cases q : F p with
  | none => rfl
  | some u => rw [W.sub p u q] at h; cases h
theorem repLst {p : Addr} {vs : List V} {ds : List D} (h : F p = some (.lst vs)) (k : RpAll c.K F vs ds) : RepV c F (.ref p) (.list ds) := .inl (.lst h k)
theorem repTup {p : Addr} {vs : List V} {ds : List D} (h : F p = some (.tup vs)) (k : RpAll c.K F vs ds) : RepV c F (.ref p) (.tuple ds) := .inl (.tup (SqT.of h) k)
/-- a new tuple of these -/
theorem Post.newTup {R : D → Prop} {Q : VK} (P : Post c H F R Q) (W : Wok c H F) {vs : List V} {ds : List D} (k : RpAll c.K F vs ds) (r : R (.tuple ds)) : ∀ p, H p = none → Q (.ref p) (upd H p (.tup vs)) := fun p hp =>
  P _ _ _ _ r (Ext.laid W _ hp) (repTup upd_same (dpAll_same (upd_keep (W.newF hp)) _ _ k))
theorem Post.newLst {R : D → Prop} {Q : VK} (P : Post c H F R Q) (W : Wok c H F) {vs : List V} {ds : List D} (k : RpAll c.K F vs ds) (r : R (.list ds)) : ∀ p, H p = none → Q (.ref p) (upd H p (.lst vs)) := fun p hp =>
  P _ _ _ _ r (Ext.laid W _ hp) (repLst upd_same (dpAll_same (upd_keep (W.newF hp)) _ _ k))
theorem len_le {n : Nat} (h : n ≤ 1000000) : n ≤ sizeLine := Nat.le_trans h (by rw [sizeLine_eq]; decide)
theorem len_lt {n : Nat} (h : n < 1000000) : n < sizeLine := Nat.lt_of_lt_of_le h (by rw [sizeLine_eq]; decide)
/-- no item is the row -/
def noRow (ds : List D) : Prop := ∀ d ∈ ds, d ≠ .dict []
@[simp] def dTup (w : WA) : W := fun e R => w e fun ds => ds.length ≤ 1000000 ∧ noRow ds ∧ R (.tuple ds)
@[simp] def dLst (w : WA) : W := fun e R => w e fun ds => ds.length ≤ 1000000 ∧ noRow ds ∧ R (.list ds)
theorem paired_len {α β : Type} {G : α → β → Prop} {xs : List α} {ys : List β} (h : Paired G xs ys) : xs.length = ys.length := h.length
theorem xd_tup {w : WA} : ∀ σ H Q, tD c (dTup w) σ H Q → tTup (tA c w) σ H Q := fun σ H Q ⟨e, F, H0, R, W, S, q, P⟩ =>
  ⟨e, F, H0, _, W, S, q, fun ds vs H1 F1 ⟨hl, hn, q1⟩ x1 r1 => ⟨by rw [r1.length]; exact len_le hl, (P.ext x1).newTup x1.ok (repVs_dp r1 hn) q1⟩⟩
theorem xd_lst {w : WA} : ∀ σ H Q, tD c (dLst w) σ H Q → tLst (tA c w) σ H Q := fun σ H Q ⟨e, F, H0, R, W, S, q, P⟩ =>
  ⟨e, F, H0, _, W, S, q, fun ds vs H1 F1 ⟨hl, hn, q1⟩ x1 r1 => ⟨by rw [r1.length]; exact len_le hl, (P.ext x1).newLst x1.ok (repVs_dp r1 hn) q1⟩⟩
/-- a new list that is nobody's yet -/
@[simp] def nLst (w : WA) : WA := fun e R => w e fun ds => ds.length ≤ 1000000 ∧ noRow ds ∧ R ds
theorem xn_lst {w : WA} : ∀ σ H Q, tN c (nLst w) σ H Q → tLst (tA c w) σ H Q := fun σ H Q ⟨e, F, H0, R, W, S, q, P⟩ =>
  ⟨e, F, H0, _, W, S, q, fun ds vs H1 F1 ⟨hl, hn, q1⟩ x1 r1 => ⟨by rw [r1.length]; exact len_le hl, fun p hp =>
    have x2 := Ext.loose x1.ok (.lst vs) hp
    P ds p vs _ _ q1 (x1.trans x2) (x1.free hp) upd_same (x1.ok.newF hp) (x1.ok.newR hp) (repVs_dp r1 hn)⟩⟩
/-- a new list is a list -/
@[simp] def dN (w : WA) : W := fun e R => w e fun ds => R (.list ds)
theorem Post.frozen {R : D → Prop} {Q : VK} (P : Post c H F R Q) (x : Ext c H F H1 F1) {p : Addr} {vs : List V} {ds : List D} (h0 : H p = none) (h1 : H1 p = some (.lst vs)) (hr : p ≠ c.r) (hF : F1 p = none) (k : RpAll c.K F1 vs ds) (r : R (.list ds)) : Q (.ref p) H1 := by
  refine P _ _ H1 (upd F1 p (.lst vs)) r ⟨x.ok.freeze h1 hr (fun ps z => by cases z), fun b o e => upd_keep hF b o (x.grow b o e), x.keep, fun b hb hb' => ?_, x.pre⟩ (repLst upd_same (dpAll_same (upd_keep hF) _ _ k))
  by_cases hp : b = p
  · rw [hp]; exact h0
  · rw [upd_ne hp] at hb'; exact x.new b hb hb'
theorem xd_N {w : WA} : ∀ σ H Q, tD c (dN w) σ H Q → tN c w σ H Q := fun σ H Q ⟨e, F, H0, R, W, S, q, P⟩ =>
  ⟨e, F, H0, _, W, S, q, fun ds p vs H1 F1 r x h0 h1 hF hr k => P.frozen x h0 h1 hr hF k r⟩
/-! ### calls of values -/
def CallD (c : Amb) (r : List V → Hp → VK → Prop) (rd : List D → (D → Prop) → Prop) : Prop := ∀ H F vs ds R Q, Wok c H F → RepVs c F vs ds → rd ds R → Post c H F R Q → r vs H Q
@[simp] def dCall (rd : List D → (D → Prop) → Prop) (w : WA) : W := fun e R => w e fun ds => rd ds R
theorem xd_cb {r : List V → Hp → VK → Prop} {rd : List D → (D → Prop) → Prop} (h : CallD c r rd) {w : WA} : ∀ σ H Q, tD c (dCall rd w) σ H Q → tCB r (tA c w) σ H Q := fun σ H Q ⟨e, F, H0, R, W, S, q, P⟩ =>
  ⟨e, F, H0, _, W, S, q, fun ds vs H1 F1 q1 x1 r1 => h H1 F1 vs ds R Q x1.ok r1 q1 (P.ext x1)⟩
/-- a def's promise over data -/
abbrev Fd := List D → (D → Prop) → Prop
abbrev Fn := List D → (List D → Prop) → Prop
def spD (g : Glb) (f : Fd) : Sp := fun vs H Q _ => ∃ (c : Amb) (F : Hp) (ds : List D) (R : D → Prop), c.g = g ∧ Wok c H F ∧ RepVs c F vs ds ∧ f ds R ∧ Post c H F R Q
def spN (g : Glb) (f : Fn) : Sp := fun vs H Q _ => ∃ (c : Amb) (F : Hp) (ds : List D) (R : List D → Prop), c.g = g ∧ Wok c H F ∧ RepVs c F vs ds ∧ f ds R ∧
  ∀ ds p vs H' F', R ds → Ext c H F H' F' → H p = none → H' p = some (.lst vs) → F' p = none → p ≠ c.r → RpAll c.K F' vs ds → Q (.ref p) H'
theorem xd_call {f : Fd} {w : WA} : ∀ σ H Q, tD c (dCall f w) σ H Q → tCall (spD c.g f) [] E0 (tA c w) σ H Q := fun σ H Q ⟨e, F, H0, R, W, S, q, P⟩ =>
  ⟨e, F, H0, _, W, S, q, fun ds vs H1 F1 q1 x1 r1 => ⟨c, F1, ds, R, rfl, x1.ok, by rw [List.append_nil]; exact r1, q1, P.ext x1⟩⟩
@[simp] def nCall (f : Fn) (w : WA) : WA := fun e R => w e fun ds => f ds R
theorem xn_call {f : Fn} {w : WA} : ∀ σ H Q, tN c (nCall f w) σ H Q → tCall (spN c.g f) [] E0 (tA c w) σ H Q := fun σ H Q ⟨e, F, H0, R, W, S, q, P⟩ =>
  ⟨e, F, H0, _, W, S, q, fun ds vs H1 F1 q1 x1 r1 => ⟨c, F1, ds, R, rfl, x1.ok, by rw [List.append_nil]; exact r1, q1, fun es p us H' F' r x h0 h1 hF hr k => P es p us H' F' r (x1.trans x) (x1.free h0) h1 hF hr k⟩⟩
end
end FW
/-! FW2: statements, targets, loops, comprehensions over data; lists of one's own. -/
namespace FW
open PySem PySem.Spec PyProof.Rows L2
abbrev Exc := Str × Option Int
structure EndsD where
  nx : Sg → Prop
  rt : D → Prop
  rn : List D → Prop := fun _ => False
  bk : Sg → Prop := fun _ => False
  ct : Sg → Prop := fun _ => False
  ex : Exc → Prop := fun _ => False
  /-- a frozen part to which one may go back -/
  base : Hp → Prop := fun _ => False
  pin : Bool := false
  /-- handed back, its lists new -/
  rf : D → Prop := fun _ => False
abbrev WS := EndsD → Sg → Prop
def ExcAt (c : Amb) (E : XK) (H : Hp) : Exc → Prop
  | (n, none) => E (.ref (c.g.cls n)) none H
  | (n, some k) => ∃ d, H d = some (.xd [(("number" : Str), .int k)]) ∧ E (.ref (c.g.cls n)) (some d) H
structure EndsOk (c : Amb) (E : XK) (H0 F0 : Hp) (De : EndsD) (Dn : Ends) : Prop where
  nx : ∀ e σ H F, De.nx e → Ext c H0 F0 H F → RepS c H0 σ H F e → Dn.nx σ H
  rt : ∀ d v H F, De.rt d → Ext c H0 F0 H F → RepV c F v d → Dn.rt v H
  rn : ∀ ds p vs H F, De.rn ds → Ext c H0 F0 H F → H0 p = none → H p = some (.lst vs) → F p = none → p ≠ c.r → RpAll c.K F vs ds → Dn.rt (.ref p) H
  bk : ∀ e σ H F, De.bk e → Ext c H0 F0 H F → RepS c H0 σ H F e → Dn.bk σ H
  ct : ∀ e σ H F, De.ct e → Ext c H0 F0 H F → RepS c H0 σ H F e → Dn.ct σ H
  ex : ∀ x H F, De.ex x → Ext c H0 F0 H F → ExcAt c E H x
  base : ∀ Fb, De.base Fb → Same F0 Fb ∧ ∀ b, F0 b = none → Fb b ≠ none → H0 b = none
  rf : ∀ d v H F, De.rf d → Ext c H0 F0 H F → RepV c (cutF F F0) v d → Dn.rt v H
  pin : De.pin = true → ∀ Fb, Same F0 Fb → (∀ b, F0 b = none → Fb b ≠ none → H0 b = none) → De.base Fb
def sD (c : Amb) (E : XK) (w : WS) : TS := fun Dn σ H => ∃ e F H0 F0 De, Ext c H0 F0 H F ∧ RepS c H0 σ H F e ∧ w De e ∧ EndsOk c E H0 F0 De Dn
section
variable {c : Amb} {E : XK} {H F H0 F0 H1 F1 : Hp} {σ : L2.St} {X : Cx} {De : EndsD} {Dn : Ends}
theorem EndsOk.next (h : EndsOk c E H0 F0 De Dn) {n : Sg → Prop} {N : L2.St → Hp → Prop} (k : ∀ e σ H F, n e → Ext c H0 F0 H F → RepS c H0 σ H F e → N σ H) : EndsOk c E H0 F0 { De with nx := n } { Dn with nx := N } := ⟨k, h.rt, h.rn, h.bk, h.ct, h.ex, h.base, h.rf, h.pin⟩
@[simp] def dNext : WS := fun De e => De.nx e
@[simp] def dSeq (w1 w2 : WS) : WS := fun De e => w1 { De with nx := w2 De } e
theorem xs_next : ∀ Dn σ H, sD c E dNext Dn σ H → tNext Dn σ H := fun Dn σ H ⟨e, F, H0, F0, De, x, S, q, K⟩ => K.nx e σ H F q x S
theorem xs_seq {w1 w2 : WS} : ∀ Dn σ H, sD c E (dSeq w1 w2) Dn σ H → tSeq (sD c E w1) (sD c E w2) Dn σ H := fun Dn σ H ⟨e, F, H0, F0, De, x, S, q, K⟩ =>
  ⟨e, F, H0, F0, _, x, S, q, K.next fun e' σ' H' F' n x' S' => ⟨e', F', H0, F0, De, x', S', n, K⟩⟩
theorem pssd_nil : PSs X [] (sD c E dNext) := pss_w pss_nil xs_next
theorem pssd_cons {st : Stmt} {rest : List Stmt} {w1 w2 : WS} (h1 : PS X st (sD c E w1)) (h2 : PSs X rest (sD c E w2)) : PSs X (st :: rest) (sD c E (dSeq w1 w2)) := pss_w (pss_cons h1 h2) xs_seq
theorem pssd_one {st : Stmt} {w1 : WS} (h1 : PS X st (sD c E w1)) : PSs X [st] (sD c E w1) := pss_one h1
/-! ### assignment to names -/
@[simp] def dAsg (i : Nat) (w : W) : WS := fun De e => w e fun d => De.nx (e.set i (.val d))
theorem xs_asg {i : Nat} {w : W} : ∀ Dn σ H, sD c E (dAsg i w) Dn σ H → tAsg (tD c w) (gName i) Dn σ H := fun Dn σ H ⟨e, F, H0, F0, De, x, S, q, K⟩ =>
  ⟨e, F, H0, _, x.ok, S, q, fun d v H' F' r x' rv => K.nx _ _ _ _ r (x.trans x') ((S.ext x.ok x').set_val i rv)⟩
@[simp] def dOwn (i : Nat) (w : WA) : WS := fun De e => w e fun ds => De.nx (e.set i (.own ds))
theorem xs_own {i : Nat} {w : WA} : ∀ Dn σ H, sD c E (dOwn i w) Dn σ H → tAsg (tN c w) (gName i) Dn σ H := fun Dn σ H ⟨e, F, H0, F0, De, x, S, q, K⟩ =>
  ⟨e, F, H0, _, x.ok, S, q, fun ds p vs H' F' r x' hp hp' hF hr k => K.nx _ _ _ _ r (x.trans x') ((S.ext x.ok x').set_own i hp' hF (x.free hp) hr k fun j o es _ hj z => by
    obtain ⟨a, ws, h1, h2, _⟩ := S.ownO j o es hj
    rw [h1] at z
    cases z
    rw [hp] at h2; cases h2)⟩
@[simp] def dDrop (w : W) : WS := fun De e => w e fun _ => De.nx e
theorem xs_drop {w : W} : ∀ Dn σ H, sD c E (dDrop w) Dn σ H → tDrop (tD c w) Dn σ H := fun Dn σ H ⟨e, F, H0, F0, De, x, S, q, K⟩ =>
  ⟨e, F, H0, _, x.ok, S, q, fun d v H' F' r x' rv => K.nx _ _ _ _ r (x.trans x') (S.ext x.ok x')⟩
@[simp] def dRet (w : W) : WS := fun De e => w e De.rt
theorem xs_ret {w : W} : ∀ Dn σ H, sD c E (dRet w) Dn σ H → tRet (tD c w) Dn σ H := fun Dn σ H ⟨e, F, H0, F0, De, x, S, q, K⟩ =>
  ⟨e, F, H0, _, x.ok, S, q, fun d v H' F' r x' rv => K.rt d v H' F' r (x.trans x') rv⟩
@[simp] def dRetL (w : WA) : WS := fun De e => w e De.rn
theorem xs_retL {w : WA} : ∀ Dn σ H, sD c E (dRetL w) Dn σ H → tRet (tN c w) Dn σ H := fun Dn σ H ⟨e, F, H0, F0, De, x, S, q, K⟩ =>
  ⟨e, F, H0, _, x.ok, S, q, fun ds p vs H' F' r x' hp hp' hF hr k => K.rn ds p vs H' F' r (x.trans x') (x.free hp) hp' hF hr k⟩
/-- return of a slot's own list -/
@[simp] def dRetO (i : Nat) : WS := fun De e => ∃ ds, e[i]? = some (.own ds) ∧ De.rn ds
theorem xs_retO {i : Nat} : ∀ Dn σ H, sD c E (dRetO i) Dn σ H → tRet (tVar i) Dn σ H := fun Dn σ H ⟨e, F, H0, F0, De, x, S, ⟨ds, h, q⟩, K⟩ => by
  obtain ⟨a, vs, h1, h2, h3, h4, h5, h6⟩ := S.own i ds h
  exact ⟨_, h1, K.rn ds a vs H F q x h4 h2 h3 h5 h6⟩
@[simp] def dRetN : WS := fun De _ => De.rt .none
theorem xs_retN : ∀ Dn σ H, sD c E dRetN Dn σ H → tRetN Dn σ H := fun Dn σ H ⟨e, F, H0, F0, De, x, S, q, K⟩ => K.rt _ _ H F q x .non
@[simp] def dIfS (t : WT) (a b : WS) : WS := fun De e => t e fun k => if k = true then a De e else b De e
theorem xs_if {t : WT} {a b : WS} : ∀ Dn σ H, sD c E (dIfS t a b) Dn σ H → tIfS (tT c t) (sD c E a) (sD c E b) Dn σ H := fun Dn σ H ⟨e, F, H0, F0, De, x, S, q, K⟩ =>
  ⟨e, F, H0, _, x.ok, S, q, fun k H' F' r x' => by
    cases k with
    | true => exact ⟨e, F', H0, F0, De, x.trans x', S.ext x.ok x', by simpa using r, K⟩
    | false => exact ⟨e, F', H0, F0, De, x.trans x', S.ext x.ok x', by simpa using r, K⟩⟩
@[simp] def dBreak : WS := fun De e => De.bk e
@[simp] def dCont : WS := fun De e => De.ct e
theorem xs_break : ∀ Dn σ H, sD c E dBreak Dn σ H → tBreak Dn σ H := fun Dn σ H ⟨e, F, H0, F0, De, x, S, q, K⟩ => K.bk e σ H F q x S
theorem xs_cont : ∀ Dn σ H, sD c E dCont Dn σ H → tCont Dn σ H := fun Dn σ H ⟨e, F, H0, F0, De, x, S, q, K⟩ => K.ct e σ H F q x S
@[simp] def dNever : WS := fun _ _ => False
theorem xs_never : ∀ Dn σ H, sD c E dNever Dn σ H → tNever Dn σ H := fun Dn σ H ⟨e, F, H0, F0, De, x, S, q, K⟩ => q.elim
/-- a slot's own list is its own no more: from here on it is data -/
@[simp] def dFrz (i : Nat) (w : WS) : WS := fun De e => ∃ ds, e[i]? = some (.own ds) ∧ w De (e.set i (.val (.list ds)))
theorem RepS.frz {e : Sg} (S : RepS c H0 σ H F e) {i : Nat} {o0 : Option Hp} {ds : List D} (h : e[i]? = some (.ownO o0 ds)) {a : Addr} {vs : List V} (h1 : σ[i]? = some (some (.ref a))) (h2 : H a = some (.lst vs)) (h3 : F a = none) (k : RpAll c.K F vs ds) :
    RepS c H0 σ H (upd F a (.lst vs)) (e.set i (.val (.list ds))) where
  exc := exc_set0 S.exc fun _ z => nomatch z
  fix := fix_set0 (fix_grow S.fix (upd_keep h3)) fun _ _ _ z => nomatch z
  len := by simp [S.len]
  val := fun j d hj => by
    by_cases hij : i = j
    · subst hij
      have hl := (List.getElem?_eq_some_iff.mp h).1
      rw [List.getElem?_set_self hl] at hj
      cases hj
      exact ⟨_, h1, repLst upd_same (dpAll_same (upd_keep h3) _ _ k)⟩
    · rw [List.getElem?_set_ne hij] at hj
      obtain ⟨v, h5, h6⟩ := S.val j d hj
      exact ⟨v, h5, h6.grow (upd_keep h3)⟩
  ownO := fun j o es hj => by
    by_cases hij : i = j
    · subst hij
      have hl := (List.getElem?_eq_some_iff.mp h).1
      rw [List.getElem?_set_self hl] at hj
      cases hj
    · rw [List.getElem?_set_ne hij] at hj
      obtain ⟨b, ws, g1, g2, g3, g4, g5, g6⟩ := S.ownO j o es hj
      refine ⟨b, ws, g1, g2, ?_, g4, g5, dpAll_same (cutO_grow o (upd_keep h3)) _ _ g6⟩
      rw [upd_ne (fun z => ?_)]
      · exact g3
      · rw [z] at g1
        exact S.distO i j o0 o ds es a hij h hj h1 g1
  distO := fun j k o1 o2 es fs b hjk q1 q2 q3 q4 => by
    have f : ∀ (j : Nat) (o : Option Hp) (es : List D), (e.set i (.val (.list ds)))[j]? = some (.ownO o es) → i ≠ j := fun j o es hj z => by
      subst z
      have hl := (List.getElem?_eq_some_iff.mp h).1
      rw [List.getElem?_set_self hl] at hj
      cases hj
    rw [List.getElem?_set_ne (f j o1 es q1)] at q1
    rw [List.getElem?_set_ne (f k o2 fs q2)] at q2
    exact S.distO j k o1 o2 es fs b hjk q1 q2 q3 q4
theorem Ext.frz (x : Ext c H0 F0 H F) {a : Addr} {vs : List V} (h2 : H a = some (.lst vs)) (h3 : F a = none) (h4 : H0 a = none) (h5 : a ≠ c.r) : Ext c H0 F0 H (upd F a (.lst vs)) :=
  ⟨x.ok.freeze h2 h5 (fun ps z => by cases z), fun b o e => upd_keep h3 b o (x.grow b o e), x.keep, fun b hb hb' => by
    by_cases hp : b = a
    · rw [hp]; exact h4
    · rw [upd_ne hp] at hb'; exact x.new b hb hb', x.pre⟩
theorem xs_frz {i : Nat} {w : WS} : ∀ Dn σ H, sD c E (dFrz i w) Dn σ H → sD c E w Dn σ H := fun Dn σ H ⟨e, F, H0, F0, De, x, S, ⟨ds, h, q⟩, K⟩ => by
  obtain ⟨a, vs, h1, h2, h3, h4, h5, h6⟩ := S.own i ds h
  exact ⟨_, _, H0, F0, De, x.frz h2 h3 h4 h5, S.frz h h1 h2 h3 h6, q, K⟩
/-! ### targets -/
@[simp] def setAll : Sg → List Nat → List D → Sg
  | e, i :: is, d :: ds => setAll (e.set i (.val d)) is ds
  | e, _, _ => e
def gNames : List Nat → TGs
  | [] => gNil
  | i :: is => gCons (gName i) (gNames is)
theorem gNames_ok : ∀ (is : List Nat) {vs : List V} {ds : List D} {σ : L2.St} {e : Sg} {Q : L2.St → Hp → Prop}, RepS c H0 σ H F e → RpAll c.K F vs ds → ds.length = is.length →
    (∀ σ', RepS c H0 σ' H F (setAll e is ds) → Q σ' H) → gNames is vs σ H Q
  | [], _, _, _, _, _, S, k, hl, q => by
    cases k with
    | nil => exact ⟨rfl, q _ S⟩
    | cons _ _ => simp at hl
  | i :: is, _, _, _, _, _, S, k, hl, q => by
    cases k with
    | nil => simp at hl
    | cons h t => exact ⟨_, _, rfl, gNames_ok is (S.set_val i (.inl h)) t (by simpa using hl) q⟩
@[simp] def dUnp (is : List Nat) (w : W) : WS := fun De e => w e fun d => ∃ ds, d = .tuple ds ∧ ds.length = is.length ∧ De.nx (setAll e is ds)
theorem xs_unp {is : List Nat} {n : Nat} (hn : n = is.length) {w : W} : ∀ Dn σ H, sD c E (dUnp is w) Dn σ H → tAsg (tD c w) (gTup c.K n (gNames is)) Dn σ H := fun Dn σ H ⟨e, F, H0, F0, De, x, S, q, K⟩ =>
  ⟨e, F, H0, _, x.ok, S, q, fun d v H' F' ⟨ds, hd, hl, r⟩ x' rv => by
    subst hd
    obtain ⟨a, vs, rfl, ht, k⟩ := rv.tup_inv
    exact ⟨a, vs, rfl, same_t x'.ok.sub ht, by rw [dpAll_length k, hl, hn], gNames_ok is (S.ext x.ok x') k hl fun σ' S' => K.nx _ _ _ _ r (x.trans x') S'⟩⟩
/-! ### what is walked -/
structure Yields (c : Amb) (J : It) (F1 : Hp) (ds : List D) : Prop where
  go : ∀ i H F, i < ds.length → Wok c H F → Same F1 F → J.go i H
  yld : ∀ (i : Nat) d H F x H', ds[i]? = some d → Wok c H F → Same F1 F → J.yld i H x H' → ∃ F', Ext c H F H' F' ∧ RepV c F' x d
  stop : ∀ H F, Wok c H F → Same F1 F → J.stop ds.length H
theorem Yields.grow {J : It} {ds : List D} (Y : Yields c J F ds) (e : Same F F1) : Yields c J F1 ds :=
  ⟨fun i H F hi W s => Y.go i H F hi W (e.trans s), fun i d H F x H' hd W s y => Y.yld i d H F x H' hd W (e.trans s) y, fun H F W s => Y.stop H F W (e.trans s)⟩
def tI (c : Amb) (w : WA) : TI := fun σ H R => ∃ e F H0 Rd, Wok c H F ∧ RepS c H0 σ H F e ∧ w e Rd ∧ ∀ ds J H' F', Rd ds → Ext c H F H' F' → Yields c J F' ds → R J H'
@[simp] def iLst (w : W) : WA := fun e R => w e fun d => ∃ ds, d = .list ds ∧ R ds
@[simp] def iTpl (w : W) : WA := fun e R => w e fun d => ∃ ds, d = .tuple ds ∧ R ds
theorem yields_list {a : Addr} {vs : List V} {ds : List D} (h : F a = some (.lst vs)) (k : RpAll c.K F vs ds) : Yields c (Itl c.K a) F ds where
  go := fun i H G hi W s => by
    have hl := dpAll_length k
    exact ⟨vs, vs[i]'(by omega), SqL.of (W.sub _ _ (s _ _ h)), List.getElem?_eq_getElem _⟩
  yld := fun i d H G x H' hd W s ⟨e, y⟩ => by
    subst e
    have hx := y vs (SqL.of (W.sub _ _ (s _ _ h)))
    obtain ⟨d', h1, h2⟩ := dpAll_get k hx
    rw [hd] at h1
    cases h1
    exact ⟨G, Ext.refl W, .inl (dp_same s _ _ h2)⟩
  stop := fun H G W s => ⟨vs, SqL.of (W.sub _ _ (s _ _ h)), Nat.le_of_eq (dpAll_length k)⟩
theorem yields_tup {a : Addr} {vs : List V} {ds : List D} (h : SqT c.K F a vs) (k : RpAll c.K F vs ds) : Yields c (Itt c.K a) F ds where
  go := fun i H G hi W s => by
    have hl := dpAll_length k
    exact ⟨vs, vs[i]'(by omega), same_t (s.trans W.sub) h, List.getElem?_eq_getElem _⟩
  yld := fun i d H G x H' hd W s ⟨e, y⟩ => by
    subst e
    have hx := y vs (same_t (s.trans W.sub) h)
    obtain ⟨d', h1, h2⟩ := dpAll_get k hx
    rw [hd] at h1
    cases h1
    exact ⟨G, Ext.refl W, .inl (dp_same s _ _ h2)⟩
  stop := fun H G W s => ⟨vs, same_t (s.trans W.sub) h, Nat.le_of_eq (dpAll_length k)⟩
def rngD (lo : Int) (n : Nat) : List D := (List.range n).map fun k => .int (lo + (k : Nat))
theorem rngD_length {lo : Int} {n : Nat} : (rngD lo n).length = n := by simp [rngD]
theorem rngD_get {lo : Int} {n i : Nat} {d : D} (h : (rngD lo n)[i]? = some d) : i < n ∧ d = .int (lo + (i : Nat)) := by
  unfold rngD at h
  rw [List.getElem?_map] at h
  cases q : (List.range n)[i]? with
  | none => rw [q] at h; cases h
  | some j =>
    rw [q] at h
    cases h
    obtain ⟨hi, e⟩ := List.getElem?_eq_some_iff.mp q
    rw [List.getElem_range] at e
    subst e
    exact ⟨by simpa using hi, rfl⟩
theorem yields_rng {lo : Int} {n : Nat} : Yields c (Itr lo n) F (rngD lo n) where
  go := fun i H G hi W s => by rw [rngD_length] at hi; exact hi
  yld := fun i d H G x H' hd W s ⟨e, y⟩ => by
    subst e
    obtain ⟨_, rfl⟩ := rngD_get hd
    rw [y]
    exact ⟨G, Ext.refl W, .int⟩
  stop := fun H G W s => by rw [rngD_length]; exact Nat.le_refl n
theorem xi_list {w : W} : ∀ σ H R, tI c (iLst w) σ H R → iList c.K (tD c w) σ H R := fun σ H R ⟨e, F, H0, Rd, W, S, q, P⟩ =>
  ⟨e, F, H0, _, W, S, q, fun d v H' F' ⟨ds, hd, r⟩ x rv => by
    subst hd
    obtain ⟨a, vs, rfl, h, k⟩ := rv.list_inv
    exact ⟨a, rfl, ⟨vs, SqL.of (x.ok.sub _ _ h)⟩, P ds _ H' F' r x (yields_list h k)⟩⟩
theorem xi_tup {w : W} : ∀ σ H R, tI c (iTpl w) σ H R → iTup c.K (tD c w) σ H R := fun σ H R ⟨e, F, H0, Rd, W, S, q, P⟩ =>
  ⟨e, F, H0, _, W, S, q, fun d v H' F' ⟨ds, hd, r⟩ x rv => by
    subst hd
    obtain ⟨a, vs, rfl, h, k⟩ := rv.tup_inv
    exact ⟨a, rfl, ⟨vs, same_t x.ok.sub h⟩, P ds _ H' F' r x (yields_tup h k)⟩⟩
theorem repVs_ints_inv : ∀ {vs : List V} {l : List Int}, RepVs c F vs (l.map PyData.int) → vs = l.map V.int
  | _, [], .nil => rfl
  | _, _ :: _, .cons h t => by rw [repVs_ints_inv t, h.int_inv]; rfl
@[simp] def iR1 (w : WA) : WA := fun e R => w e fun ds => ∃ j : Int, ds = [.int j] ∧ -(2 ^ 62) ≤ j ∧ j < 2 ^ 62 ∧ R (rngD 0 j.toNat)
@[simp] def iR2 (w : WA) : WA := fun e R => w e fun ds => ∃ i j : Int, ds = [.int i, .int j] ∧ (-(2 ^ 62) ≤ i ∧ i < 2 ^ 62 ∧ -(2 ^ 62) ≤ j ∧ j < 2 ^ 62) ∧ R (rngD i (j - i).toNat)
theorem xi_rng1 {w : WA} : ∀ σ H R, tI c (iR1 w) σ H R → iRng1 (tA c w) σ H R := fun σ H R ⟨e, F, H0, Rd, W, S, q, P⟩ =>
  ⟨e, F, H0, _, W, S, q, fun ds vs H' F' ⟨j, hd, h1, h2, r⟩ x rv => by
    subst hd
    exact ⟨j, repVs_ints_inv (l := [j]) rv, h1, h2, P _ _ H' F' r x yields_rng⟩⟩
theorem xi_rng2 {w : WA} : ∀ σ H R, tI c (iR2 w) σ H R → iRng2 (tA c w) σ H R := fun σ H R ⟨e, F, H0, Rd, W, S, q, P⟩ =>
  ⟨e, F, H0, _, W, S, q, fun ds vs H' F' ⟨i, j, hd, h1, r⟩ x rv => by
    subst hd
    exact ⟨i, j, repVs_ints_inv (l := [i, j]) rv, h1, P _ _ H' F' r x yields_rng⟩⟩
/-! ### for -/
abbrev WG := D → Sg → (Sg → Prop) → Prop
/-- a target's reading: where it stores a datum -/
def gD (c : Amb) (wg : WG) (g : TG) : Prop := ∀ (v : V) (d : D) (σ : L2.St) (H F H0 : Hp) (e : Sg) (R : Sg → Prop) (Q : L2.St → Hp → Prop), Wok c H F → RepS c H0 σ H F e → RepV c F v d → wg d e R → (∀ σ' e', R e' → RepS c H0 σ' H F e' → Q σ' H) → g v σ H Q
@[simp] def tgN (i : Nat) : WG := fun d e R => R (e.set i (.val d))
@[simp] def tgT (is : List Nat) : WG := fun d e R => ∃ ds, d = .tuple ds ∧ ds.length = is.length ∧ R (setAll e is ds)
theorem gd_name {i : Nat} : gD c (tgN i) (gName i) := fun v d σ H F H0 e R Q W S rv r k => k _ _ r (S.set_val i rv)
theorem gd_tup {is : List Nat} {n : Nat} (hn : n = is.length) : gD c (tgT is) (gTup c.K n (gNames is)) := fun v d σ H F H0 e R Q W S rv ⟨ds, hd, hl, r⟩ k => by
  subst hd
  obtain ⟨a, vs, rfl, ht, kk⟩ := rv.tup_inv
  exact ⟨a, vs, rfl, same_t W.sub ht, by rw [dpAll_length kk, hl, hn], gNames_ok is S kk hl fun σ' S' => k _ _ r S'⟩
/-- a for over these, one after another -/
def forRun (wg : WG) (wb : WS) (De : EndsD) : List D → Sg → Prop
  | [], e => De.nx e
  | d :: ds, e => wg d e fun e' => wb { De with nx := fun e2 => forRun wg wb De ds e2, ct := fun e2 => forRun wg wb De ds e2, bk := De.nx, base := fun _ => False, pin := false } e'
@[simp] def dFor (wi : WA) (wg : WG) (wb : WS) : WS := fun De e => wi e fun ds => forRun wg wb De ds e
theorem drop_at {α : Type} {l : List α} {i : Nat} (h : i < l.length) : l.drop i = l[i] :: l.drop (i + 1) := List.drop_eq_getElem_cons h
theorem xs_for {wi : WA} {wg : WG} {wb : WS} {g : TG} (hg : gD c wg g) : ∀ Dn σ H, sD c E (dFor wi wg wb) Dn σ H → tFor (tI c wi) g (sD c E wb) Dn σ H := fun Dn σ H ⟨e, F, H0, F0, De, x, S, q, K⟩ =>
  ⟨e, F, H0, _, x.ok, S, q, fun ds J H1 F1 i0 x1 Y => by
    refine ⟨fun i m σ H => m = ds.length - i ∧ i ≤ ds.length ∧ ∃ e F, Ext c H0 F0 H F ∧ RepS c H0 σ H F e ∧ Same F1 F ∧ forRun wg wb De (ds.drop i) e, ⟨_, rfl, Nat.zero_le _, e, F1, x.trans x1, S.ext x.ok x1, fun _ _ h => h, i0⟩, ?_⟩
    rintro i m σ' H' ⟨rfl, hi, e', F', x', S', s', h'⟩
    by_cases hlt : i < ds.length
    · refine .inr ⟨Y.go i H' F' hlt x'.ok s', fun σ2 H2 => ∃ e F, Ext c H0 F0 H2 F ∧ RepS c H0 σ2 H2 F e ∧ Same F1 F ∧ forRun wg wb De (ds.drop (i + 1)) e, fun σ2 H2 ⟨e2, F2, a, b, d, f⟩ => ⟨ds.length - (i + 1), by omega, rfl, hlt, e2, F2, a, b, d, f⟩, fun v H2 y => ?_⟩
      have hd : ds[i]? = some ds[i] := List.getElem?_eq_getElem hlt
      rw [drop_at hlt] at h'
      obtain ⟨F2, x2, rv⟩ := Y.yld i _ H' F' v H2 hd x'.ok s' y
      refine hg v _ σ' H2 F2 H0 e' _ _ x2.ok (S'.ext x'.ok x2) rv h' fun σ3 e3 r3 S3 => ?_
      -- the frozen part has grown since the loop's start: it is carried in what is kept
      refine ⟨e3, F2, H0, F2, _, ⟨x2.ok, fun _ _ h => h, (x'.trans x2).keep, fun b h h' => absurd h h', x.pre⟩, S3, r3, ?_⟩
      have up : ∀ {H3 F3 : Hp}, Ext c H0 F2 H3 F3 → Ext c H0 F0 H3 F3 := fun {H3 F3} z => ⟨z.ok, fun b o h => z.grow b o ((x'.trans x2).grow b o h), z.keep, fun b h h' => by
        by_cases q2 : F2 b = none
        · exact z.new b q2 h'
        · exact (x'.trans x2).new b h q2, x.pre⟩
      refine ⟨fun e4 σ4 H4 F4 n z S4 => ⟨e4, F4, up z, S4, (s'.trans x2.grow).trans z.grow, n⟩, fun d4 v4 H4 F4 n z rv => K.rt d4 v4 H4 F4 n (up z) rv, fun ds4 p vs4 H4 F4 n z h0 h1 h2 h3 k4 => K.rn ds4 p vs4 H4 F4 n (up z) h0 h1 h2 h3 k4,
        fun e4 σ4 H4 F4 n z S4 => K.nx e4 σ4 H4 F4 n (up z) S4, fun e4 σ4 H4 F4 n z S4 => ⟨e4, F4, up z, S4, (s'.trans x2.grow).trans z.grow, n⟩, fun x4 H4 F4 n z => K.ex x4 H4 F4 n (up z), fun _ z => z.elim, fun d4 v4 H4 F4 n z rv => K.rf d4 v4 H4 F4 n (up z) (rv.grow (cutF_grow (fun _ _ h => h) fun b q _ => ?_)), fun z => nomatch z⟩
      cases q0 : F0 b with
      | none => rfl
      | some o =>
        have := x2.grow b o (x'.grow b o q0)
        rw [q] at this; cases this
    · have he : i = ds.length := by omega
      subst he
      rw [List.drop_length] at h'
      exact .inl ⟨Y.stop H' F' x'.ok s', K.nx e' σ' H' F' h' x' S'⟩⟩
/-! ### comprehensions -/
@[simp] def wipeS : Sg → List Nat → Sg
  | e, [] => e
  | e, v :: vs => (wipeS e vs).set v .un
theorem RepS.wipe {e : Sg} (S : RepS c H0 σ H F e) : ∀ vs : List Nat, RepS c H0 (wipe σ vs) H F (wipeS e vs)
  | [] => S
  | v :: vs => (S.wipe vs).set_un v none
/-- the slots that a target stores: what they forget again is as before -/
def Stores (g : TG) (vs : List Nat) : Prop := ∀ (v : V) (σ : L2.St) (H : Hp) (Q : L2.St → Hp → Prop), g v (wipe σ vs) H Q → g v (wipe σ vs) H fun σ2 H2 => wipe σ2 vs = wipe σ vs ∧ Q σ2 H2
theorem stores_name {i : Nat} : Stores (gName i) [i] := fun v σ H Q h => ⟨by simp [L2.wipe], h⟩
/-- a comprehension over these, one after another; acc: what is made so far -/
def lcRun (g : D → (Sg → Prop) → Prop) (wt : WT) (we : W) (R : List D → Prop) : List D → List D → Prop
  | [], acc => R acc
  | d :: ds, acc => g d fun e' => wt e' fun b => if b = true then we e' fun y => y ≠ .dict [] ∧ lcRun g wt we R ds (acc ++ [y]) else lcRun g wt we R ds acc
@[simp] def dLcW (wi : WA) (wg : WG) (wt : WT) (we : W) (vs : List Nat) : WA := fun e R => wi e fun ds => ds.length ≤ 1000000 ∧ lcRun (fun d k => wg d (wipeS e vs) k) wt we R ds []
theorem xn_lc {wi : WA} {wg : WG} {wt : WT} {we : W} {g : TG} {vs : List Nat} (hg : gD c wg g) (hs : Stores g vs) : ∀ σ H Q, tN c (dLcW wi wg wt we vs) σ H Q → tLc (tI c wi) g (tT c wt) (tD c we) vs σ H Q := fun σ H Q ⟨e, F, H0, R, W, S, q, P⟩ =>
  ⟨e, F, H0, _, W, S, q, fun ds J H1 F1 ⟨hlen, i0⟩ x1 Y => fun L hL => by
    have n0 : F1 L = none := x1.ok.newF hL
    have nr : L ≠ c.r := x1.ok.newR hL
    have h0 : H L = none := x1.free hL
    refine ⟨fun i m H2 => m = ds.length - i ∧ i ≤ ds.length ∧ ∃ F2 ws acc, Ext c H F H2 F2 ∧ Same F1 F2 ∧ H2 L = some (.lst ws) ∧ F2 L = none ∧ RpAll c.K F2 ws acc ∧ acc.length ≤ i ∧ lcRun (fun d k => wg d (wipeS e vs) k) wt we R (ds.drop i) acc,
      ⟨_, rfl, Nat.zero_le _, F1, [], [], x1.trans (Ext.loose x1.ok _ hL), fun _ _ h => h, upd_same, n0, .nil, Nat.le_refl _, i0⟩, ?_⟩
    rintro i m H2 ⟨rfl, hi, F2, ws, acc, x2, s2, hL2, n2, k2, ha, hI⟩
    by_cases hlt : i < ds.length
    · refine .inr ⟨Y.go i H2 F2 hlt x2.ok s2, fun H3 => ∃ F3 ws acc, Ext c H F H3 F3 ∧ Same F1 F3 ∧ H3 L = some (.lst ws) ∧ F3 L = none ∧ RpAll c.K F3 ws acc ∧ acc.length ≤ i + 1 ∧ lcRun (fun d k => wg d (wipeS e vs) k) wt we R (ds.drop (i + 1)) acc,
        fun H3 ⟨F3, ws3, acc3, a1, a2, a3, a4, a5, a6, a7⟩ => ⟨ds.length - (i + 1), by omega, rfl, hlt, F3, ws3, acc3, a1, a2, a3, a4, a5, a6, a7⟩, fun v H3 y => ?_⟩
      have hd : ds[i]? = some ds[i] := List.getElem?_eq_getElem hlt
      rw [drop_at hlt] at hI
      obtain ⟨F3, x3, rv⟩ := Y.yld i _ H2 F2 v H3 hd x2.ok s2 y
      have still : ∀ {H4 F4 : Hp}, Ext c H2 F2 H4 F4 → H4 L = some (.lst ws) ∧ F4 L = none ∧ RpAll c.K F4 ws acc := fun {H4 F4} z => by
        refine ⟨z.keep L _ hL2 nr (x2.ok.noP hL2), ?_, dpAll_same z.grow _ _ k2⟩
        cases q4 : F4 L with
        | none => exact rfl
        | some u =>
          have := z.new L n2 (by rw [q4]; simp)
          rw [hL2] at this; cases this
      refine hs v σ H3 _ (hg v _ _ H3 F3 H0 _ _ _ x3.ok ((S.wipe vs).ext W (x2.trans x3)) rv hI fun σ4 e4 r4 S4 => ?_)
      refine ⟨e4, F3, H0, _, x3.ok, S4, r4, fun b H5 F5 r5 x5 => ?_⟩
      have x35 := x3.trans x5
      cases b with
      | false =>
        obtain ⟨b1, b2, b3⟩ := still x35
        exact ⟨F5, ws, acc, x2.trans x35, (s2.trans x35.grow), b1, b2, b3, by omega, by simpa using r5⟩
      | true =>
        refine ⟨e4, F5, H0, fun y => y ≠ .dict [] ∧ lcRun (fun d k => wg d (wipeS e vs) k) wt we R (ds.drop (i + 1)) (acc ++ [y]), x5.ok, S4.ext x3.ok x5, by simpa using r5, fun y v6 H6 F6 ⟨hy, r6⟩ x6 rv6 => ?_⟩
        have x36 := x35.trans x6
        obtain ⟨b1, b2, b3⟩ := still x36
        have hz : ws.length = acc.length := dpAll_length k2
        refine ⟨ws, b1, len_lt (by omega), ⟨F6, ws ++ [v6], acc ++ [y], ?_, s2.trans x36.grow, upd_same, b2, dpAll_app b3 (.cons (rv6.dp hy) .nil), by simp; omega, r6⟩⟩
        exact (x2.trans x36).mut h0 b1 b2 nr _
    · have he : i = ds.length := by omega
      subst he
      rw [List.drop_length] at hI
      exact .inl ⟨Y.stop H2 F2 x2.ok s2, P acc L ws H2 F2 hI x2 h0 hL2 n2 nr k2⟩⟩
end
end FW
/-! FW3: built-ins, subscripts, slices, a slot's own list, defs. -/
namespace FW
open PySem PySem.Spec PyProof.Rows L2
section
variable {c : Amb} {E : XK} {H F H0 F0 H1 F1 : Hp} {σ : L2.St} {X : Cx}
theorem pe_gint {x : Str} {i : Int} {pos : Pos} (hg : Gl X x) (h : ∃ t, X.mg x = some (.int i t)) (hd : (x == ("__debug__" : Str)) = false := by decide) : PE X (.Name x pos) (tC (.int i)) := by
  obtain ⟨t, e⟩ := h
  exact pe_glob hg e ⟨t, rfl⟩ hd
/-! ### sequences read -/
inductive IsSeq : D → List D → Prop
  | lst (ds : List D) : IsSeq (.list ds) ds
  | tup (ds : List D) : IsSeq (.tuple ds) ds
theorem seq_inv {d : D} {ds : List D} (h : IsSeq d ds) {v : V} (r : RepV c F v d) (s : Same F H) : ∃ a vs, v = .ref a ∧ (SqL c.K H a vs ∨ SqT c.K H a vs) ∧ RpAll c.K F vs ds := by
  cases h with
  | lst =>
    obtain ⟨a, vs, e, h1, h2⟩ := r.list_inv
    exact ⟨a, vs, e, .inl (SqL.of (s _ _ h1)), h2⟩
  | tup =>
    obtain ⟨a, vs, e, h1, h2⟩ := r.tup_inv
    exact ⟨a, vs, e, .inr (same_t s h1), h2⟩
theorem reps1 {vs : List V} {d : D} (r : RepVs c F vs [d]) : ∃ v, vs = [v] ∧ RepV c F v d := by
  cases r with
  | cons h t => cases t; exact ⟨_, rfl, h⟩
theorem reps2 {vs : List V} {d e : D} (r : RepVs c F vs [d, e]) : ∃ v u, vs = [v, u] ∧ RepV c F v d ∧ RepV c F u e := by
  cases r with
  | cons h t =>
    obtain ⟨u, rfl, q⟩ := reps1 t
    exact ⟨_, _, rfl, h, q⟩
@[simp] def rdLen : List D → (D → Prop) → Prop := fun ds R => ∃ d xs, ds = [d] ∧ IsSeq d xs ∧ R (.int (xs.length : Nat))
theorem cd_len : CallD c (fun xs H Q => ∃ p ys, xs = [.ref p] ∧ (SqL c.K H p ys ∨ SqT c.K H p ys) ∧ Q (.int ys.length) H) rdLen := by
  rintro H F vs ds R Q W rv ⟨d, xs, rfl, hs, r⟩ P
  obtain ⟨v, rfl, q⟩ := reps1 rv
  obtain ⟨a, ws, rfl, h1, h2⟩ := seq_inv hs q W.sub
  refine ⟨a, ws, rfl, h1, P.here W r ?_⟩
  rw [dpAll_length h2]; exact .int
@[simp] def rdTuple : List D → (D → Prop) → Prop := fun ds R => ∃ d xs, ds = [d] ∧ IsSeq d xs ∧ R (.tuple xs)
theorem cd_tuple : CallD c (fun xs H Q => ∃ p ys, xs = [.ref p] ∧ ((SqL c.K H p ys ∧ ∀ l, H l = none → Q (.ref l) (upd H l (.tup ys))) ∨ (SqT c.K H p ys ∧ Q (.ref p) H))) rdTuple := by
  rintro H F vs ds R Q W rv ⟨d, xs, rfl, hs, r⟩ P
  obtain ⟨v, rfl, q⟩ := reps1 rv
  cases hs with
  | lst =>
    obtain ⟨a, ws, rfl, h1, h2⟩ := q.list_inv
    exact ⟨a, ws, rfl, .inl ⟨SqL.of (W.sub _ _ h1), P.newTup W h2 r⟩⟩
  | tup =>
    obtain ⟨a, ws, rfl, h1, h2⟩ := q.tup_inv
    exact ⟨a, ws, rfl, .inr ⟨same_t W.sub h1, P.here W r (.inl (.tup h1 h2))⟩⟩
@[simp] def rdList : List D → (D → Prop) → Prop := fun ds R => ∃ d xs, ds = [d] ∧ IsSeq d xs ∧ R (.list xs)
theorem cd_list : CallD c (fun xs H Q => ∃ p ys, xs = [.ref p] ∧ (SqL c.K H p ys ∨ SqT c.K H p ys) ∧ ∀ l, H l = none → Q (.ref l) (upd H l (.lst ys))) rdList := by
  rintro H F vs ds R Q W rv ⟨d, xs, rfl, hs, r⟩ P
  obtain ⟨v, rfl, q⟩ := reps1 rv
  obtain ⟨a, ws, rfl, h1, h2⟩ := seq_inv hs q W.sub
  exact ⟨a, ws, rfl, h1, P.newLst W h2 r⟩
def rdMax2 : List D → (D → Prop) → Prop := fun ds R => ∃ i j, ds = [.int i, .int j] ∧ R (.int (if j > i then j else i))
def rdMin2 : List D → (D → Prop) → Prop := fun ds R => ∃ i j, ds = [.int i, .int j] ∧ R (.int (if j < i then j else i))
theorem cd_max2 : CallD c (fun xs H Q => ∃ i j, xs = [.int i, .int j] ∧ Q (.int (if j > i then j else i)) H) rdMax2 := by
  rintro H F vs ds R Q W rv ⟨i, j, rfl, r⟩ P
  exact ⟨i, j, repVs_ints_inv (l := [i, j]) rv, P.here W r .int⟩
theorem cd_min2 : CallD c (fun xs H Q => ∃ i j, xs = [.int i, .int j] ∧ Q (.int (if j < i then j else i)) H) rdMin2 := by
  rintro H F vs ds R Q W rv ⟨i, j, rfl, r⟩ P
  exact ⟨i, j, repVs_ints_inv (l := [i, j]) rv, P.here W r .int⟩
def rdInt1 : List D → (D → Prop) → Prop := fun ds R => (∃ i, ds = [.int i] ∧ R (.int i)) ∨ ∃ k, ds = [.bool k] ∧ R (.int (if k then 1 else 0))
theorem cd_int1 : CallD c (fun xs H Q => (∃ i, xs = [.int i] ∧ Q (.int i) H) ∨ ∃ k, xs = [.bl k] ∧ Q (.int (if k then 1 else 0)) H) rdInt1 := by
  rintro H F vs ds R Q W rv (⟨i, rfl, r⟩ | ⟨k, rfl, r⟩) P
  · obtain ⟨v, rfl, q⟩ := reps1 rv
    exact .inl ⟨i, by rw [q.int_inv], P.here W r .int⟩
  · obtain ⟨v, rfl, q⟩ := reps1 rv
    exact .inr ⟨k, by rw [q.bl_inv], P.here W r .int⟩
def rdMaxL : List D → (D → Prop) → Prop := fun ds R => ∃ ns : List Int, ds = [.list (ns.map .int)] ∧ 0 < ns.length ∧ ∀ m, m ∈ ns → (∀ y, y ∈ ns → y ≤ m) → R (.int m)
def rdMinL : List D → (D → Prop) → Prop := fun ds R => ∃ ns : List Int, ds = [.list (ns.map .int)] ∧ 0 < ns.length ∧ ∀ m, m ∈ ns → (∀ y, y ∈ ns → m ≤ y) → R (.int m)
theorem cd_maxL : CallD c (rMax c.K) rdMaxL := by
  rintro H F vs ds R Q W rv ⟨ns, rfl, h, r⟩ P
  obtain ⟨v, rfl, q⟩ := reps1 rv
  obtain ⟨a, ws, rfl, h1, h2⟩ := q.list_inv
  have e := dpAll_ints_inv ns ws h2
  subst e
  exact ⟨a, ns, rfl, SqL.of (W.sub _ _ h1), h, fun m hm hle => P.here W (r m hm hle) .int⟩
theorem cd_minL : CallD c (rMin c.K) rdMinL := by
  rintro H F vs ds R Q W rv ⟨ns, rfl, h, r⟩ P
  obtain ⟨v, rfl, q⟩ := reps1 rv
  obtain ⟨a, ws, rfl, h1, h2⟩ := q.list_inv
  have e := dpAll_ints_inv ns ws h2
  subst e
  exact ⟨a, ns, rfl, SqL.of (W.sub _ _ h1), h, fun m hm hle => P.here W (r m hm hle) .int⟩
/-- sorted of ints -/
def rdSortI : List D → (D → Prop) → Prop := fun ds R => ∃ ns : List Int, ds = [.list (ns.map .int)] ∧ ∀ ns' : List Int, ns'.Perm ns → ns'.Pairwise (· ≤ ·) → R (.list (ns'.map .int))
theorem cd_sortI : CallD c (rSortedI c.K) rdSortI := by
  rintro H F vs ds R Q W rv ⟨ns, rfl, r⟩ P
  obtain ⟨v, rfl, q⟩ := reps1 rv
  obtain ⟨a, ws, rfl, h1, h2⟩ := q.list_inv
  have e := dpAll_ints_inv ns ws h2
  subst e
  exact ⟨a, ns, rfl, SqL.of (W.sub _ _ h1), fun ns' p hp hs hn => P.newLst W (dpAll_ints ns') (r ns' hp hs) p hn⟩
/-! ### a[i] -/
@[simp] def rdIx : D → D → (D → Prop) → Prop := fun x y R => ∃ ds i d, IsSeq x ds ∧ y = .int i ∧ atI ds i = some d ∧ R d
theorem atI_dp {K : PySem.W.Frag} {vs : List V} {ds : List D} {i : Int} {d : D} (k : RpAll K F vs ds) (h : atI ds i = some d) : ∃ v, atI vs i = some v ∧ Rp K F v d := by
  unfold atI at h ⊢
  rw [dpAll_length k]
  cases q : ixN ds.length i with
  | none => rw [q] at h; cases h
  | some j =>
    rw [q] at h
    exact dpAll_at k h
theorem od_ixL : OpD c (fun x y H Q => rIxL c.K x y H Q ∨ rIxT c.K x y H Q) rdIx := by
  rintro H F x y d e R Q W rx ry ⟨ds, i, d', hs, rfl, hi, r⟩ P
  cases hs with
  | lst =>
    obtain ⟨a, ws, rfl, h1, h2⟩ := rx.list_inv
    obtain ⟨v, e1, e2⟩ := atI_dp h2 hi
    exact .inl ⟨a, ws, i, v, rfl, ry.int_inv, SqL.of (W.sub _ _ h1), e1, P.here W r (.inl e2)⟩
  | tup =>
    obtain ⟨a, ws, rfl, h1, h2⟩ := rx.tup_inv
    obtain ⟨v, e1, e2⟩ := atI_dp h2 hi
    exact .inr ⟨a, ws, i, v, rfl, ry.int_inv, same_t W.sub h1, e1, P.here W r (.inl e2)⟩
theorem ix_lt : IxR X (fun x y H Q => rIxL X.K x y H Q ∨ rIxT X.K x y H Q) := ix_list.or ix_tup
/-! ### a[lo:hi] -/
abbrev WO := Sg → (Option Int → Prop) → Prop
def tO (c : Amb) (w : WO) : TO := fun σ H Q => ∃ e F H0 R, Wok c H F ∧ RepS c H0 σ H F e ∧ w e R ∧ ∀ o H' F', R o → Ext c H F H' F' → Q o H'
theorem po_w {X : Cx} {o : Option Expr} {t t' : TO} (h : PO X o t) (k : ∀ σ H Q, t' σ H Q → t σ H Q) : PO X o t' := ⟨fun pins s σ H Q I q => h.run pins s σ H Q I (k σ H Q q)⟩
@[simp] def oNone : WO := fun _ R => R none
@[simp] def oSome (w : W) : WO := fun e R => w e fun d => ∃ i, d = .int i ∧ R (some i)
theorem xo_none : ∀ σ H Q, tO c oNone σ H Q → tNoPart σ H Q := fun σ H Q ⟨e, F, H0, R, W, S, q, P⟩ => P none H F q (Ext.refl W)
theorem xo_some {w : W} : ∀ σ H Q, tO c (oSome w) σ H Q → tPart (tD c w) σ H Q := fun σ H Q ⟨e, F, H0, R, W, S, q, P⟩ =>
  ⟨e, F, H0, _, W, S, q, fun d v H1 F1 ⟨i, hi, q1⟩ x1 r1 => by subst hi; exact ⟨i, r1.int_inv, P _ H1 F1 q1 x1⟩⟩
def cutD (ds : List D) (lo hi : Option Int) : List D := (ds.drop (HT.sIx ds.length 0 lo)).take (HT.sIx ds.length ds.length hi - HT.sIx ds.length 0 lo)
theorem cut_dp {K : PySem.W.Frag} {vs : List V} {ds : List D} (k : RpAll K F vs ds) (lo hi : Option Int) : RpAll K F (cutV vs lo hi) (cutD ds lo hi) := by
  unfold cutV cutD
  rw [dpAll_length k]
  exact dpAll_take _ (dpAll_drop _ k)
@[simp] def dSl (w : W) (lo hi : WO) (mk : List D → D) : W := fun e R => w e fun d => lo e fun l => hi e fun h => ∃ ds, d = mk ds ∧ R (mk (cutD ds l h))
theorem xd_slT {w : W} {lo hi : WO} : ∀ σ H Q, tD c (dSl w lo hi .tuple) σ H Q → tSl (rSlA c.K) (tD c w) (tO c lo) (tO c hi) σ H Q := fun σ H Q ⟨e, F, H0, R, W, S, q, P⟩ =>
  ⟨e, F, H0, _, W, S, q, fun d v H1 F1 q1 x1 r1 => ⟨e, F1, H0, _, x1.ok, S.ext W x1, q1, fun l H2 F2 q2 x2 => ⟨e, F2, H0, _, x2.ok, (S.ext W x1).ext x1.ok x2, q2, fun h H3 F3 ⟨ds, hd, q3⟩ x3 => by
    subst hd
    have x13 := (x1.trans x2).trans x3
    obtain ⟨a, vs, rfl, h1, h2⟩ := (r1.grow (x2.trans x3).grow).tup_inv
    refine ⟨a, vs, rfl, same_t x3.ok.sub h1, fun hw => ?_, fun _ => (P.ext x13).newTup x3.ok (cut_dp h2 l h) q3⟩
    have e1 : cutD ds l h = ds := by
      unfold cutD
      rw [← dpAll_length h2, hw.1, hw.2]
      simp [dpAll_length h2]
    rw [e1] at q3
    exact P _ _ _ _ q3 x13 (.inl (.tup h1 h2))⟩⟩⟩
theorem xd_slL {w : W} {lo hi : WO} : ∀ σ H Q, tD c (dSl w lo hi .list) σ H Q → tSl (rSlL c.K) (tD c w) (tO c lo) (tO c hi) σ H Q := fun σ H Q ⟨e, F, H0, R, W, S, q, P⟩ =>
  ⟨e, F, H0, _, W, S, q, fun d v H1 F1 q1 x1 r1 => ⟨e, F1, H0, _, x1.ok, S.ext W x1, q1, fun l H2 F2 q2 x2 => ⟨e, F2, H0, _, x2.ok, (S.ext W x1).ext x1.ok x2, q2, fun h H3 F3 ⟨ds, hd, q3⟩ x3 => by
    subst hd
    have x13 := (x1.trans x2).trans x3
    obtain ⟨a, vs, rfl, h1, h2⟩ := (r1.grow (x2.trans x3).grow).list_inv
    exact ⟨a, vs, rfl, SqL.of (x3.ok.sub _ _ h1), (P.ext x13).newLst x3.ok (cut_dp h2 l h) q3⟩⟩⟩⟩
/-! ### + and * of sequences -/
@[simp] def rdCatT : D → D → (D → Prop) → Prop := fun x y R => ∃ xs ys, x = .tuple xs ∧ y = .tuple ys ∧ xs.length + ys.length ≤ 1000000 ∧ R (.tuple (xs ++ ys))
theorem od_catT : OpD c (rCatA c.K) rdCatT := by
  rintro H F x y d e R Q W rx ry ⟨xs, ys, rfl, rfl, hl, r⟩ P
  obtain ⟨a, vs, rfl, h1, h2⟩ := rx.tup_inv
  obtain ⟨b, us, rfl, g1, g2⟩ := ry.tup_inv
  have l1 := dpAll_length h2
  have l2 := dpAll_length g2
  refine ⟨a, b, vs, us, rfl, rfl, same_t W.sub h1, same_t W.sub g1, len_le (by omega), fun z => ?_, fun _ z => ?_, fun _ _ => P.newTup W (dpAll_app h2 g2) r⟩
  · subst z
    cases h2
    exact P.here W r (.inl (.tup g1 g2))
  · subst z
    cases g2
    rw [List.append_nil] at r
    exact P.here W r (.inl (.tup h1 h2))
@[simp] def rdCatL : D → D → (D → Prop) → Prop := fun x y R => ∃ xs ys, x = .list xs ∧ y = .list ys ∧ xs.length + ys.length ≤ 1000000 ∧ R (.list (xs ++ ys))
theorem od_catL : OpD c rCat rdCatL := by
  rintro H F x y d e R Q W rx ry ⟨xs, ys, rfl, rfl, hl, r⟩ P
  obtain ⟨a, vs, rfl, h1, h2⟩ := rx.list_inv
  obtain ⟨b, us, rfl, g1, g2⟩ := ry.list_inv
  have l1 := dpAll_length h2
  have l2 := dpAll_length g2
  exact ⟨a, b, vs, us, rfl, rfl, W.sub _ _ h1, W.sub _ _ g1, len_le (by omega), P.newLst W (dpAll_app h2 g2) r⟩
/-! ### in, not in, of flat data -/
def flatD : D → Bool
  | .none => true
  | .bool _ => true
  | .int _ => true
  | .str _ => true
  | _ => false
theorem flat_rp {K : PySem.W.Frag} {v : V} {d : D} (h : Rp K F v d) (hd : flatD d = true) : flatV v = true := by
  cases h <;> first | rfl | cases hd
theorem flat_all {K : PySem.W.Frag} : ∀ {vs : List V} {ds : List D}, RpAll K F vs ds → ds.all flatD = true → vs.all flatV = true
  | _, _, .nil, _ => rfl
  | _, _, .cons h t, e => by
    rw [List.all_cons, Bool.and_eq_true] at e ⊢
    exact ⟨flat_rp h e.1, flat_all t e.2⟩
def intsOf : List D → Option (List Int)
  | [] => some []
  | .int i :: r => (intsOf r).map (i :: ·)
  | _ => none
theorem inV_ints (i : Int) : ∀ l : List Int, inV (.int i) (l.map V.int) = decide (i ∈ l)
  | [] => rfl
  | j :: l => by
    have h := inV_ints i l
    unfold inV at h ⊢
    rw [List.map_cons, List.any_cons, h]
    have e : eqV (.int j) (.int i) = decide (j = i) := by
      show (j == i) = _
      exact Bool.beq_eq_decide_eq j i
    rw [e]
    by_cases q : i = j
    · subst q; simp
    · have q' : ¬ j = i := fun z => q z.symm
      simp [q, q']
theorem flat_ints : ∀ l : List Int, (l.map V.int).all flatV = true
  | [] => rfl
  | _ :: l => by rw [List.map_cons, List.all_cons, flat_ints l]; rfl
/-- an int in a sequence of ints -/
def rdInI (neg : Bool) : D → D → (D → Prop) → Prop := fun x y R => ∃ (i : Int) (ns : List Int), x = .int i ∧ (IsSeq y (ns.map PyData.int)) ∧ R (.bool (if neg = true then !decide (i ∈ ns) else decide (i ∈ ns)))
theorem od_inI {neg : Bool} : OpD c (rIn c.K neg) (rdInI neg) := by
  rintro H F x y d e R Q W rx ry ⟨i, ns, rfl, hs, r⟩ P
  have ex := rx.int_inv
  subst ex
  obtain ⟨a, vs, rfl, h1, h2⟩ := seq_inv hs ry W.sub
  have ev := dpAll_ints_inv ns vs h2
  subst ev
  refine ⟨a, _, rfl, h1, rfl, flat_ints ns, ?_⟩
  rw [inV_ints]
  exact P.here W r .bl
/-! ### list(range(..)) -/
def tRgD (c : Amb) (w : Sg → (Int → Int → Prop) → Prop) : L2.St → Hp → (Int → Int → Hp → Prop) → Prop := fun σ H Q => ∃ e F H0 R, Wok c H F ∧ RepS c H0 σ H F e ∧ w e R ∧ ∀ a b H' F', R a b → Ext c H F H' F' → Q a b H'
theorem prg_w {x : Expr} {t t' : L2.St → Hp → (Int → Int → Hp → Prop) → Prop} (h : PRg X x t) (k : ∀ σ H Q, t' σ H Q → t σ H Q) : PRg X x t' := fun pins s σ H Q I q => h pins s σ H Q I (k σ H Q q)
@[simp] def gRg2 (wa wb : W) : Sg → (Int → Int → Prop) → Prop := fun e R => wa e fun x => wb e fun y => ∃ i j, x = .int i ∧ y = .int j ∧ R i j
@[simp] def gRg1 (wa : W) : Sg → (Int → Int → Prop) → Prop := fun e R => wa e fun x => ∃ i, x = .int i ∧ R 0 i
theorem xg_rg2 {wa wb : W} : ∀ σ H Q, tRgD c (gRg2 wa wb) σ H Q → tRg2 (tD c wa) (tD c wb) σ H Q := fun σ H Q ⟨e, F, H0, R, W, S, q, P⟩ =>
  ⟨e, F, H0, _, W, S, q, fun d v H1 F1 q1 x1 r1 => ⟨e, F1, H0, _, x1.ok, S.ext W x1, q1, fun d2 v2 H2 F2 ⟨i, j, h1, h2, r⟩ x2 r2 => by
    subst h1 h2
    exact ⟨i, j, r1.int_inv, r2.int_inv, P i j H2 F2 r (x1.trans x2)⟩⟩⟩
theorem xg_rg1 {wa : W} : ∀ σ H Q, tRgD c (gRg1 wa) σ H Q → tRg1 (tD c wa) σ H Q := fun σ H Q ⟨e, F, H0, R, W, S, q, P⟩ =>
  ⟨e, F, H0, _, W, S, q, fun d v H1 F1 ⟨i, h1, r⟩ x1 r1 => by
    subst h1
    exact ⟨i, r1.int_inv, P 0 i H1 F1 r x1⟩⟩
@[simp] def dLstRg (w : Sg → (Int → Int → Prop) → Prop) : W := fun e R => w e fun a b => RgOk a b ∧ R (.list (rngD a (b - a).toNat))
theorem rgV_dp {K : PySem.W.Frag} (a b : Int) : RpAll K F (rgV a b) (rngD a (b - a).toNat) := by
  unfold rgV rngD
  have e1 : ∀ n : List Nat, n.map (fun i => V.int (a + (i : Nat))) = (n.map fun i => a + (i : Nat)).map V.int := fun n => by rw [List.map_map]; rfl
  have e2 : ∀ n : List Nat, n.map (fun i => PyData.int (a + (i : Nat))) = (n.map fun i => a + (i : Nat)).map PyData.int := fun n => by rw [List.map_map]; rfl
  rw [e1, e2]
  exact dpAll_ints _
theorem xd_lstRg {w : Sg → (Int → Int → Prop) → Prop} : ∀ σ H Q, tD c (dLstRg w) σ H Q → tLstRg (tRgD c w) σ H Q := fun σ H Q ⟨e, F, H0, R, W, S, q, P⟩ =>
  ⟨e, F, H0, _, W, S, q, fun a b H1 F1 ⟨h, r⟩ x1 => ⟨h, (P.ext x1).newLst x1.ok (rgV_dp a b) r⟩⟩
/-! ### zip of two tuples, a pair as the target -/
def rdZip (ds : List D) (R : List D → Prop) : Prop := ∃ xs ys, ds = [.tuple xs, .tuple ys] ∧ R ((xs.zip ys).map fun p => .tuple [p.1, p.2])
@[simp] def iZip (w : WA) : WA := fun e R => w e fun ds => rdZip ds R
theorem yields_zip {a b : Addr} {vs us : List V} {xs ys : List D} (h : SqT c.K F a vs) (k : RpAll c.K F vs xs) (h' : SqT c.K F b us) (k' : RpAll c.K F us ys) : Yields c (RZ.ItzT c.K a b) F ((xs.zip ys).map fun p => .tuple [p.1, p.2]) where
  go := fun i H G hi W s => by
    have hl := dpAll_length k
    have hl' := dpAll_length k'
    simp at hi
    exact ⟨vs, us, vs[i]'(by omega), us[i]'(by omega), same_t (s.trans W.sub) h, same_t (s.trans W.sub) h', List.getElem?_eq_getElem _, List.getElem?_eq_getElem _⟩
  yld := fun i d H G x H' hd W s ⟨T, x1, x2, e, hT, hH, q1, q2⟩ => by
    subst e hH
    obtain ⟨d1, e1, r1⟩ := dpAll_get k (q1 vs (same_t (s.trans W.sub) h))
    obtain ⟨d2, e2, r2⟩ := dpAll_get k' (q2 us (same_t (s.trans W.sub) h'))
    have e3 : ((xs.zip ys).map fun p => PyData.tuple [p.1, p.2])[i]? = some (.tuple [d1, d2]) := by
      rw [List.getElem?_map, List.getElem?_zip_eq_some (z := (d1, d2)) |>.mpr ⟨e1, e2⟩]; rfl
    rw [hd] at e3
    cases e3
    exact ⟨_, Ext.laid W _ hT, repTup upd_same (.cons (dp_same (s.trans (upd_keep (W.newF hT))) _ _ r1) (.cons (dp_same (s.trans (upd_keep (W.newF hT))) _ _ r2) .nil))⟩
  stop := fun H G W s => by
    have hl := dpAll_length k
    have hl' := dpAll_length k'
    refine ⟨vs, us, same_t (s.trans W.sub) h, same_t (s.trans W.sub) h', ?_⟩
    simp
    omega
theorem xi_zip {w : WA} : ∀ σ H R, tI c (iZip w) σ H R → RZ.iZipA c.K (tA c w) σ H R := fun σ H R ⟨e, F, H0, Rd, W, S, q, P⟩ =>
  ⟨e, F, H0, _, W, S, q, fun ds vs H' F' ⟨xs, ys, hd, r⟩ x rv => by
    subst hd
    obtain ⟨v, u, rfl, r1, r2⟩ := reps2 rv
    obtain ⟨a, us, rfl, h1, h2⟩ := r1.tup_inv
    obtain ⟨b, ws, rfl, g1, g2⟩ := r2.tup_inv
    exact ⟨a, b, us, ws, rfl, .inr ⟨same_t x.ok.sub h1, same_t x.ok.sub g1, P _ _ H' F' r x (yields_zip h1 h2 g1 g2)⟩⟩⟩
theorem stores_pair {K : PySem.W.Frag} {i j : Nat} : Stores (gTup K 2 (gNames [i, j])) [i, j] := fun v σ H Q ⟨a, xs, h1, h2, h3, x, r, h4, y, r', h5, h6, q⟩ =>
  ⟨a, xs, h1, h2, h3, x, r, h4, y, r', h5, h6, by
    simp [L2.wipe]
    apply List.ext_getElem?
    intro k
    simp only [List.getElem?_set, List.length_set]
    split <;> split <;> simp_all, q⟩
/-! ### a slot's own list -/
/-- x[k] -/
@[simp] def dOwnIx (i : Nat) (w : W) : W := fun e R => ∃ ds, e[i]? = some (.own ds) ∧ w e fun k => ∃ n d, k = .int n ∧ atI ds n = some d ∧ R d
theorem xd_ownIx {i : Nat} {w : W} : ∀ σ H Q, tD c (dOwnIx i w) σ H Q → tOp (fun x y H Q => rIxL c.K x y H Q ∨ rIxT c.K x y H Q) (tVar i) (tD c w) σ H Q := fun σ H Q ⟨e, F, H0, R, W, S, ⟨ds, h, q⟩, P⟩ => by
  obtain ⟨a, vs, h1, h2, h3, h4, h5, h6⟩ := S.own i ds h
  refine ⟨.ref a, h1, e, F, H0, _, W, S, q, fun d v H1 F1 ⟨n, d', g2, g3, r⟩ x1 rv => ?_⟩
  subst g2
  obtain ⟨v', e1, e2⟩ := atI_dp (dpAll_same x1.grow _ _ h6) g3
  exact .inl ⟨a, vs, n, v', rfl, rv.int_inv, SqL.of (x1.keep a _ h2 h5 (W.noP h2)), e1, P _ _ H1 F1 r x1 (.inl e2)⟩
/-- len(x) -/
@[simp] def dOwnLen (i : Nat) : W := fun e R => ∃ ds, e[i]? = some (.own ds) ∧ R (.int (ds.length : Nat))
theorem xd_ownLen {i : Nat} : ∀ σ H Q, tD c (dOwnLen i) σ H Q → tCB (fun xs H Q => ∃ p ys, xs = [.ref p] ∧ (SqL c.K H p ys ∨ SqT c.K H p ys) ∧ Q (.int ys.length) H) (tCons (tVar i) tNil) σ H Q := fun σ H Q ⟨e, F, H0, R, W, S, ⟨ds, h, q⟩, P⟩ => by
  obtain ⟨a, vs, h1, h2, h3, h4, h5, h6⟩ := S.own i ds h
  refine ⟨.ref a, h1, a, vs, rfl, .inl (SqL.of h2), P.here W q ?_⟩
  rw [dpAll_length h6]; exact .int
/-- the list of slot i becomes another one -/
theorem RepS.mutO {e : Sg} (S : RepS c H0 σ H F e) {i : Nat} {o0 : Option Hp} {ds : List D} (h : e[i]? = some (.ownO o0 ds)) {a : Addr} {vs : List V} (h1 : σ[i]? = some (some (.ref a))) (h3 : F a = none) (h4 : H0 a = none) (h5 : a ≠ c.r) {ds' : List D} (k : RpAll c.K (cutO F o0) vs ds') :
    RepS c H0 σ (upd H a (.lst vs)) F (e.set i (.ownO o0 ds')) where
  exc := exc_set0 S.exc fun _ z => nomatch z
  fix := fix_set0 S.fix fun _ _ _ z => nomatch z
  len := by simp [S.len]
  val := fun j d hj => by
    by_cases hij : i = j
    · subst hij
      have hl := (List.getElem?_eq_some_iff.mp h).1
      rw [List.getElem?_set_self hl] at hj
      cases hj
    · rw [List.getElem?_set_ne hij] at hj
      exact S.val j d hj
  ownO := fun j o es hj => by
    by_cases hij : i = j
    · subst hij
      have hl := (List.getElem?_eq_some_iff.mp h).1
      rw [List.getElem?_set_self hl] at hj
      cases hj
      exact ⟨a, vs, h1, upd_same, h3, h4, h5, k⟩
    · rw [List.getElem?_set_ne hij] at hj
      obtain ⟨b, ws, g1, g2, g3, g4, g5, g6⟩ := S.ownO j o es hj
      refine ⟨b, ws, g1, ?_, g3, g4, g5, g6⟩
      rw [upd_ne (fun z => ?_)]
      · exact g2
      · rw [z] at g1
        exact S.distO i j o0 o ds es a hij h hj h1 g1
  distO := fun j k' o1 o2 es fs b hjk q1 q2 q3 q4 => by
    have f : ∀ (j : Nat) (o : Option Hp) (es : List D), (e.set i (.ownO o0 ds'))[j]? = some (.ownO o es) → ∃ o', ∃ es', e[j]? = some (.ownO o' es') := fun j o es hj => by
      by_cases hij : i = j
      · subst hij
        exact ⟨o0, ds, h⟩
      · rw [List.getElem?_set_ne hij] at hj
        exact ⟨o, es, hj⟩
    obtain ⟨o3, es1, p1⟩ := f j o1 es q1
    obtain ⟨o4, es2, p2⟩ := f k' o2 fs q2
    exact S.distO j k' o3 o4 es1 es2 b hjk p1 p2 q3 q4
theorem RepS.mut {e : Sg} (S : RepS c H0 σ H F e) {i : Nat} {ds : List D} (h : e[i]? = some (.own ds)) {a : Addr} {vs : List V} (h1 : σ[i]? = some (some (.ref a))) (h3 : F a = none) (h4 : H0 a = none) (h5 : a ≠ c.r) {ds' : List D} (k : RpAll c.K F vs ds') :
    RepS c H0 σ (upd H a (.lst vs)) F (e.set i (.own ds')) := S.mutO h h1 h3 h4 h5 k
/-- x.append(e) -/
@[simp] def dApp (i : Nat) (w : W) : WS := fun De e => ∃ ds, e[i]? = some (.own ds) ∧ w e fun d => d ≠ .dict [] ∧ ds.length < 1000000 ∧ De.nx (e.set i (.own (ds ++ [d])))
theorem xs_app {i : Nat} {w : W} : ∀ Dn σ H, sD c E (dApp i w) Dn σ H → tDrop (tBM c.K "list" rAppend (tVar i) (tCons (tD c w) tNil)) Dn σ H := fun Dn σ H ⟨e, F, H0, F0, De, x, S, ⟨ds, h, q⟩, K⟩ => by
  obtain ⟨a, vs, h1, h2, h3, h4, h5, h6⟩ := S.own i ds h
  refine ⟨.ref a, h1, .inl ⟨rfl, vs, SqL.of h2⟩, e, F, H0, _, x.ok, S, q, fun d v H1 F1 ⟨hd, hl, r⟩ x1 rv => ?_⟩
  have g2 := x1.keep a _ h2 h5 (x.ok.noP h2)
  have g3 : F1 a = none := by
    obtain ⟨b, ws, e1, e2, e3, _⟩ := (S.ext x.ok x1).own i ds h
    rw [h1] at e1; cases e1; exact e3
  have kk := dpAll_app (dpAll_same x1.grow _ _ h6) (.cons (rv.dp hd) .nil)
  refine ⟨a, vs, v, rfl, rfl, g2, len_lt (by rw [dpAll_length h6]; exact hl), ?_⟩
  exact K.nx _ _ _ _ r ((x.trans x1).mut h4 g2 g3 h5 _) ((S.ext x.ok x1).mut h h1 g3 h4 h5 kk)
/-- x.extend(e) -/
@[simp] def dExt (i : Nat) (w : W) : WS := fun De e => ∃ ds, e[i]? = some (.own ds) ∧ w e fun d => ∃ es, d = .list es ∧ ds.length + es.length ≤ 1000000 ∧ De.nx (e.set i (.own (ds ++ es)))
theorem xs_ext {i : Nat} {w : W} : ∀ Dn σ H, sD c E (dExt i w) Dn σ H → tDrop (tBM c.K "list" rExtend (tVar i) (tCons (tD c w) tNil)) Dn σ H := fun Dn σ H ⟨e, F, H0, F0, De, x, S, ⟨ds, h, q⟩, K⟩ => by
  obtain ⟨a, vs, h1, h2, h3, h4, h5, h6⟩ := S.own i ds h
  refine ⟨.ref a, h1, .inl ⟨rfl, vs, SqL.of h2⟩, e, F, H0, _, x.ok, S, q, fun d v H1 F1 ⟨es, hd, hl, r⟩ x1 rv => ?_⟩
  subst hd
  obtain ⟨b, us, rfl, b1, b2⟩ := rv.list_inv
  have g2 := x1.keep a _ h2 h5 (x.ok.noP h2)
  have g3 : F1 a = none := by
    obtain ⟨b, ws, e1, e2, e3, _⟩ := (S.ext x.ok x1).own i ds h
    rw [h1] at e1; cases e1; exact e3
  have kk := dpAll_app (dpAll_same x1.grow _ _ h6) b2
  refine ⟨a, b, vs, us, rfl, rfl, g2, x1.ok.sub _ _ b1, len_le (by rw [dpAll_length h6, dpAll_length b2]; exact hl), ?_⟩
  exact K.nx _ _ _ _ r ((x.trans x1).mut h4 g2 g3 h5 _) ((S.ext x.ok x1).mut h h1 g3 h4 h5 kk)
/-- x[k] = e -/
@[simp] def dSetI (i : Nat) (w wk : W) : WS := fun De e => w e fun d => ∃ ds, e[i]? = some (.own ds) ∧ wk e fun k => ∃ n j, k = .int n ∧ ixN ds.length n = some j ∧ d ≠ .dict [] ∧ De.nx (e.set i (.own (ds.set j d)))
theorem xs_setI {i : Nat} {w wk : W} : ∀ Dn σ H, sD c E (dSetI i w wk) Dn σ H → tAsg (tD c w) (gSub (tVar i) (tD c wk) rSetL) Dn σ H := fun Dn σ H ⟨e, F, H0, F0, De, x, S, q, K⟩ => by
  refine ⟨e, F, H0, _, x.ok, S, q, fun d v H1 F1 ⟨ds, h, q1⟩ x1 rv => ?_⟩
  have S1 := S.ext x.ok x1
  obtain ⟨a, vs, h1, h2, h3, h4, h5, h6⟩ := S1.own i ds h
  refine ⟨.ref a, h1, e, F1, H0, _, x1.ok, S1, q1, fun k u H2 F2 ⟨n, j, hk, hj, hd, r⟩ x2 ru => ?_⟩
  subst hk
  have g2 := x2.keep a _ h2 h5 (x1.ok.noP h2)
  have g3 : F2 a = none := by
    obtain ⟨b, ws, e1, e2, e3, _⟩ := (S1.ext x1.ok x2).own i ds h
    rw [h1] at e1; cases e1; exact e3
  have kk := dpAll_set ((rv.grow x2.grow).dp hd) j (dpAll_same x2.grow _ _ h6)
  refine ⟨a, vs, n, j, rfl, ru.int_inv, g2, by rw [dpAll_length h6]; exact hj, ?_⟩
  exact K.nx _ _ _ _ r (((x.trans x1).trans x2).mut h4 g2 g3 h5 _) ((S1.ext x1.ok x2).mut h h1 g3 h4 h5 kk)
/-- [v] * n, nobody's yet -/
@[simp] def nRep (w : WA) (wn : W) : WA := fun e R => w e fun ds => ds.length ≤ 1000 ∧ noRow ds ∧ wn e fun y => ∃ k : Int, y = .int k ∧ 0 ≤ k ∧ k ≤ 1000 ∧ R (List.replicate k.toNat ds).flatten
end
/-! ### defs -/
/-- a def of the top, as the head tells it -/
abbrev FunP (K : PySem.W.Frag) (x : Str) (st : Stmt) (f : Addr) (fd : FuncData) : Prop := FunD K x x (defArgs st) (defBody st) (defScope st) [] [] f fd
@[simp] def startD (N : List Str) (ds : List D) : Sg := ds.map .val ++ List.replicate (N.length - ds.length) .un
theorem rep_start {c : Amb} {H F : Hp} {N : List Str} : ∀ {vs : List V} {ds : List D}, RepVs c F vs ds → RepS c H (L2.start N vs) H F (startD N ds) := fun {vs ds} r => by
  have hl := r.length
  have vals : ∀ {vs : List V} {ds : List D}, RepVs c F vs ds → ∀ (i : Nat) (d : D), ds[i]? = some d → ∃ v, vs[i]? = some v ∧ RepV c F v d := by
    intro vs ds r
    induction r with
    | nil => intro i d h; simp at h
    | cons h t ih =>
      intro i d e
      cases i with
      | zero => simp at e; subst e; exact ⟨_, rfl, h⟩
      | succ i => obtain ⟨v, h1, h2⟩ := ih i d (by simpa using e); exact ⟨v, by simpa using h1, h2⟩
  have noOwn : ∀ (i : Nat) (o : Option Hp) (es : List D), (startD N ds)[i]? ≠ some (.ownO o es) := fun i o es h => by
    unfold startD at h
    by_cases hi : i < ds.length
    · rw [List.getElem?_append_left (by simpa using hi), List.getElem?_map] at h
      cases q : ds[i]? with
      | none => rw [q] at h; cases h
      | some d => rw [q] at h; cases h
    · rw [List.getElem?_append_right (by simpa using hi), List.getElem?_replicate] at h
      split at h <;> cases h
  have noFix : ∀ (i : Nat) (k : Bool) (Fb : Hp) (d : D), (startD N ds)[i]? ≠ some (.fix k Fb d) := fun i k Fb d0 h => by
    unfold startD at h
    by_cases hi : i < ds.length
    · rw [List.getElem?_append_left (by simpa using hi), List.getElem?_map] at h
      cases q : ds[i]? with
      | none => rw [q] at h; cases h
      | some d => rw [q] at h; cases h
    · rw [List.getElem?_append_right (by simpa using hi), List.getElem?_replicate] at h
      split at h <;> cases h
  have noExc : ∀ (i : Nat) (a : Addr), (startD N ds)[i]? ≠ some (.exc a) := fun i a h => by
    unfold startD at h
    by_cases hi : i < ds.length
    · rw [List.getElem?_append_left (by simpa using hi), List.getElem?_map] at h
      cases q : ds[i]? with
      | none => rw [q] at h; cases h
      | some d => rw [q] at h; cases h
    · rw [List.getElem?_append_right (by simpa using hi), List.getElem?_replicate] at h
      split at h <;> cases h
  refine ⟨by unfold L2.start startD; simp [hl], fun i d h => ?_, fun i o es h => absurd h (noOwn i o es), fun i j o _ es fs a _ h => absurd h (noOwn i o es), fun i a h => absurd h (noExc i a), fun i k Fb d h => absurd h (noFix i k Fb d)⟩
  unfold startD at h
  by_cases hi : i < ds.length
  · rw [List.getElem?_append_left (by simpa using hi), List.getElem?_map] at h
    cases q : ds[i]? with
    | none => rw [q] at h; cases h
    | some d' =>
      rw [q] at h
      cases h
      obtain ⟨v, h1, h2⟩ := vals r i d q
      refine ⟨v, ?_, h2⟩
      unfold L2.start
      rw [List.getElem?_append_left (by simp; omega), List.getElem?_map, h1]; rfl
  · rw [List.getElem?_append_right (by simpa using hi), List.getElem?_replicate] at h
    split at h <;> cases h
section
variable {P : Program} {w : World} {g : Glb} {mg : Str → Option Value} {base : Heap} {x : Str} {st : Stmt} {f : Addr} {fd : FuncData} {N ps : List Str} {k : Nat} {wb : WS}
/-- THE RULE for a def: its body over data -/
theorem calD {f0 : Fd} (Fn : FunP g.K x st f fd) (mgf : mg x = some (.ref f)) (b : Binds g.K fd ps []) (S : FnScope N ps (defScope st)) (hlen : ∀ ds R, f0 ds R → ds.length = ps.length)
    (hb : ∀ (cdv : Value) (A : Around) (outer : List PySem.Env) (s : Shared) (H : Hp) (E : XK) (r a : Addr) (ns : List Int), Room k (A.deeper (envOfC x (defScope st) s.heap.objs.size f cdv)) →
      PSs (cxOf CX0 P w g.K mg base N x (defScope st) f cdv A outer s H E).nox (defBody st) (sD ⟨g, r, a, ns⟩ E wb))
    (hp : ∀ ds R, f0 ds R → wb { nx := fun _ => R .none, rt := R } (startD N ds)) : C8.Cal P w g.K mg base (k + 1) x (spD g f0) [] := by
  refine ⟨f, fd, ps, [], Fn.ok S (fun vs H Q E h => ?_) (fun cdv A outer s H vs Q E hr h => ?_), mgf, Fn.kp, b, .nil⟩
  · obtain ⟨c, F, ds, R, _, _, rv, h, _⟩ := h
    rw [rv.length]; exact hlen ds R h
  · obtain ⟨⟨g', r, a, ns⟩, F, ds, R, hg, W, rv, h, P'⟩ := h
    have hg' : g' = g := hg
    subst hg'
    refine ⟨_, (hb cdv A outer s H E r a ns hr).nox, startD N ds, F, H, F, _, Ext.refl W, rep_start rv, hp ds R h, ?_⟩
    exact ⟨fun e σ H' F' q x S' => P' _ _ H' F' q x .non, fun d v H' F' q x rv => P' d v H' F' q x rv, fun _ _ _ _ _ z => z.elim, fun _ _ _ _ z => z.elim, fun _ _ _ _ z => z.elim, fun _ _ _ z => z.elim, fun _ z => z.elim, fun _ _ _ _ z => z.elim, fun z => nomatch z⟩
/-- .. that hands back a new list -/
theorem calN {f0 : Fn} (Fn : FunP g.K x st f fd) (mgf : mg x = some (.ref f)) (b : Binds g.K fd ps []) (S : FnScope N ps (defScope st)) (hlen : ∀ ds R, f0 ds R → ds.length = ps.length)
    (hb : ∀ (cdv : Value) (A : Around) (outer : List PySem.Env) (s : Shared) (H : Hp) (E : XK) (r a : Addr) (ns : List Int), Room k (A.deeper (envOfC x (defScope st) s.heap.objs.size f cdv)) →
      PSs (cxOf CX0 P w g.K mg base N x (defScope st) f cdv A outer s H E).nox (defBody st) (sD ⟨g, r, a, ns⟩ E wb))
    (hp : ∀ ds R, f0 ds R → wb { nx := fun _ => False, rt := fun _ => False, rn := R } (startD N ds)) : C8.Cal P w g.K mg base (k + 1) x (spN g f0) [] := by
  refine ⟨f, fd, ps, [], Fn.ok S (fun vs H Q E h => ?_) (fun cdv A outer s H vs Q E hr h => ?_), mgf, Fn.kp, b, .nil⟩
  · obtain ⟨c, F, ds, R, _, _, rv, h, _⟩ := h
    rw [rv.length]; exact hlen ds R h
  · obtain ⟨⟨g', r, a, ns⟩, F, ds, R, hg, W, rv, h, P'⟩ := h
    have hg' : g' = g := hg
    subst hg'
    refine ⟨_, (hb cdv A outer s H E r a ns hr).nox, startD N ds, F, H, F, _, Ext.refl W, rep_start rv, hp ds R h, ?_⟩
    exact ⟨fun _ _ _ _ z => z.elim, fun _ _ _ _ z => z.elim, fun ds p vs H' F' q x h0 h1 h2 h3 kk => P' ds p vs H' F' q x h0 h1 h2 h3 kk, fun _ _ _ _ z => z.elim, fun _ _ _ _ z => z.elim, fun _ _ _ z => z.elim, fun _ z => z.elim, fun _ _ _ _ z => z.elim, fun z => nomatch z⟩
/-- a new list is a list -/
theorem calN_D {f0 : Fn} (C : C8.Cal P w g.K mg base k x (spN g f0) []) : C8.Cal P w g.K mg base k x (spD g fun ds R => f0 ds fun es => R (.list es)) [] := by
  obtain ⟨f, fd, ps, ds, F, h⟩ := C.ex
  refine ⟨f, fd, ps, ds, F.imp fun vs H Q E ⟨c, F, ds, R, hg, W, rv, h, P'⟩ => ⟨c, F, ds, _, hg, W, rv, h, fun es p us H' F' r x h0 h1 h2 h3 kk => Post.frozen P' x h0 h1 h3 h2 kk r⟩, h⟩
end
/-! ### tests and stores by one more step -/
section
variable {c : Amb} {E : XK} {H F H0 F0 : Hp} {σ : L2.St}
theorem xt_cmp {r : R2} {rd : D → D → (D → Prop) → Prop} (hd : OpD c r rd) {wa wb : W} : ∀ σ H Q, tT c (bB (dOp rd wa wb)) σ H Q → tTest (tOp r (tD c wa) (tD c wb)) σ H Q := fun σ H Q h => xd_op hd σ H _ (xt_test σ H Q h)
theorem xt_chain {r r' : R2} {rd rd' : D → D → (D → Prop) → Prop} (h : OpD c r rd) (h' : OpD c r' rd') {wa wb wc : W} : ∀ σ H Q, tT c (bB (dChain rd rd' wa wb wc)) σ H Q → tTest (tChain r r' (tD c wa) (tD c wb) (tD c wc)) σ H Q := fun σ H Q z => xd_chain h h' σ H _ (xt_test σ H Q z)
theorem xt_isN {w : W} : ∀ σ H Q, tT c (bB (dIsN w)) σ H Q → tB (tIsN (tD c w)) σ H Q := fun σ H Q z => xd_isN σ H _ (xt_test σ H Q z)
theorem xt_notN {w : W} : ∀ σ H Q, tT c (bB (dNotN w)) σ H Q → tB (tNotN (tD c w)) σ H Q := fun σ H Q z => xd_notN σ H _ (xt_test σ H Q z)
theorem xs_ownLc {i : Nat} {wi : WA} {wg : WG} {wt : WT} {we : W} {g : TG} {vs : List Nat} (hg : gD c wg g) (hs : Stores g vs) : ∀ Dn σ H, sD c E (dOwn i (dLcW wi wg wt we vs)) Dn σ H → tAsg (tLc (tI c wi) g (tT c wt) (tD c we) vs) (gName i) Dn σ H := fun Dn σ H z => xn_lc hg hs σ H _ (xs_own Dn σ H z)
theorem xs_asgLc {i : Nat} {wi : WA} {wg : WG} {wt : WT} {we : W} {g : TG} {vs : List Nat} (hg : gD c wg g) (hs : Stores g vs) : ∀ Dn σ H, sD c E (dAsg i (dN (dLcW wi wg wt we vs))) Dn σ H → tAsg (tLc (tI c wi) g (tT c wt) (tD c we) vs) (gName i) Dn σ H := fun Dn σ H z => xn_lc hg hs σ H _ (xd_N σ H _ (xs_asg Dn σ H z))
theorem flat_rep {vs : List V} {ds : List D} {K : PySem.W.Frag} (k : RpAll K F vs ds) : ∀ n : Nat, RpAll K F (List.replicate n vs).flatten (List.replicate n ds).flatten
  | 0 => .nil
  | n + 1 => by
    rw [List.replicate_succ, List.replicate_succ, List.flatten_cons, List.flatten_cons]
    exact dpAll_app k (flat_rep k n)
theorem xn_rep {w : WA} {wn : W} : ∀ σ H Q, tN c (nRep w wn) σ H Q → tOp rRep (tLst (tA c w)) (tD c wn) σ H Q := fun σ H Q ⟨e, F, H0, R, W, S, q, P⟩ =>
  ⟨e, F, H0, _, W, S, q, fun ds vs H1 F1 ⟨h3, hn, q1⟩ x1 r1 => by
    have hl : vs.length = ds.length := r1.length
    refine ⟨len_le (by omega), fun p hp => ?_⟩
    have x1' := Ext.loose x1.ok (.lst vs) hp
    have np := x1.ok.newR hp
    refine ⟨e, F1, H0, _, x1'.ok, S.ext W (x1.trans x1'), q1, fun d v H2 F2 ⟨k, hk, h1, h2, r⟩ x2 rv => ?_⟩
    subst hk
    have g2 := x2.keep p _ upd_same np (x1'.ok.noP upd_same)
    have hk2 : vs.length * k.toNat ≤ 1000000 := Nat.le_trans (Nat.mul_le_mul (show vs.length ≤ 1000 by omega) (show k.toNat ≤ 1000 by omega)) (by decide)
    refine ⟨p, k, vs, rfl, rv.int_inv, g2, by omega, by omega, len_le hk2, fun p2 hp2 => ?_⟩
    have xx := (x1.trans x1').trans x2
    exact P _ p2 _ _ _ r (xx.trans (Ext.loose x2.ok _ hp2)) (xx.free hp2) upd_same (x2.ok.newF hp2) (x2.ok.newR hp2) (flat_rep (dpAll_same (x1'.trans x2).grow _ _ (repVs_dp r1 hn)) _)⟩
end
end FW
/-! FWG: all(test of x for x in numbers), numbers a list or a tuple of ints; the test may look at names that the def holds in cells. -/
namespace FWG
open PySem PySem.Spec PyProof.Rows L2
section
variable {prog : Program} {w : World} {A : Around} {E : Value → Shared → Prop} {s : Shared}
/-- the code object of a generator expression: found in the table, or made and laid there -/
theorem gen_code {env : PySem.Env} {c P : Addr} {ps : Array Value} {pos : Pos} {qual : Str} {scope : Scope} {Q : Value → Shared → Prop} (hc : env.code = .ref c) (cd : PySem.W.CodeHd s.heap c P)
    (hP : s.heap.get? P = some { cls := .none, data := .fields ps }) (ht : TriplesOk ps.toList)
    (k : ∀ (code : Value) (h3 : Heap) (tk : Nat) (more : Array Value), Heap.ExtBut P s.heap h3 → s.heap.objs.size ≤ h3.objs.size → h3.get? P = some { cls := .none, data := .fields (ps ++ more) } → TriplesOk (ps ++ more).toList → Q code { s with heap := h3, toks := tk }) :
    wpAny (model prog w) A (genexprCode env pos qual scope) Q E s := by
  cases hf : codeAmong pos ps.toList with
  | some cv =>
    refine wpAny_genexprCode_hit hc (cd.code hP ht) hf ?_
    have e : ps ++ #[] = ps := by simp
    exact k cv s.heap s.toks #[] (Heap.ExtBut.refl _ _) (Nat.le_refl _) (by rw [e]; exact hP) (by rw [e]; exact ht)
  | none =>
    refine wpAny_genexprCodeX hc (cd.code hP ht) (cd.tab hP) hf fun c' h' tk hx hge hlt hco _ htab _ => ?_
    obtain ⟨_, _, _, _, _, _, _, _, _, _, _, _, _, _, _, _, _, _, _, htr, _⟩ := hco
    exact k _ h' tk _ hx (Nat.le_trans hge (Nat.le_of_lt hlt)) htab.2 htr
end
/-- a list or a tuple -/
def SqA (K : PySem.W.Frag) (H : Hp) (a : Addr) (xs : List V) : Prop := SqL K H a xs ∨ SqT K H a xs
/-- the element as a test of an int, where the cells of h stand as they stood -/
def ElI (X : Cx) (scope : Scope) (x : Str) (elt : Expr) (pb : Int → Bool) (h : Heap) : Prop :=
  ∀ (cenv : PySem.Env) (A' : Around) (E' : Value → Shared → Prop) (n : Int) (t : Tok) (s2 : Shared) (m2 : Str → Option Value), cenv.scope = scope → cenv.cells = cloFrom X.env.cells scope.names [] → s2.heap.Ns cenv.locals m2 → m2 x = some (.int n t) →
    (∀ b v, h.IsCell b (some v) → s2.heap.IsCell b (some v)) → wpAny (model X.prog X.w) A' (eval elt cenv) (fun y s3 => y = .bool (pb n) ∧ Keeps s2 s3) E' s2
def atB (pb : Int → Bool) (ns : List Int) (i : Nat) : Bool := match ns[i]? with
  | some n => pb n
  | none => false
theorem all_atB (pb : Int → Bool) : ∀ ns : List Int, (List.range ns.length).all (atB pb ns) = ns.all pb := fun ns => by
  rw [Bool.eq_iff_iff, List.all_eq_true, List.all_eq_true]
  constructor
  · intro h b hb
    obtain ⟨j, hj, e⟩ := List.getElem_of_mem hb
    have q := h j (List.mem_range.mpr hj)
    unfold atB at q
    rw [List.getElem?_eq_getElem hj, e] at q
    exact q
  · intro h j hj
    have hj' := List.mem_range.mp hj
    unfold atB
    rw [List.getElem?_eq_getElem hj']
    exact h _ (List.getElem_mem hj')
/-- a generator at g over the tests of ns, to be walked from s5 on -/
def Gen (X : Cx) (pins : List (Addr × Obj)) (σ : L2.St) (H1 : Hp) (P : Addr) (ns : List Int) (pb : Int → Bool) (g : Addr) (s5 : Shared) : Prop :=
  ∃ (fp wr : List Addr) (G : Array GenState → Array GenState → Prop) (Fv : Nat → Value → Prop) (St : Nat → Shared → Prop), WalksS X.prog X.w X.A.in1 g fp wr G ns.length Fv St ∧ St 0 s5 ∧
    TruthOf X.prog X.w X.A.in1 Fv (atB pb ns) ∧ ∀ s', Moved wr G s5 s' → ∃ H2, GxR.Tabbed P H1 H2 ∧ Inv X pins σ H2 s'
section
variable {X : Cx} {pins : List (Addr × Obj)} {σ : L2.St} {H1 : Hp} {s1 : Shared}
/-- from the iterator on: it stands at the heap's end, over the items of a -/
theorem gen_from {c P a : Addr} {elt : Expr} {x : Str} {gpos : Pos} {scope : Scope} {pb : Int → Bool} {k : Nat} {ns : List Int} {its : List Value} {o : Obj} {ps : Array Value} {St0 : Nat → Heap → Prop} {Q' : Value → Shared → Prop}
    (hr : Room k X.A) (TB : GxR.TabB X.base X.mg c P) (hcode : X.env.code = .ref c) (I1 : Inv X pins σ H1 s1) (rv : Vals (ns.map V.int) its) (hel : ElI X scope x elt pb s1.heap) (hP : H1 P = some (.tbl ps)) (ht : TriplesOk ps.toList)
    (ha : a < s1.heap.objs.size) (haP : a ≠ P) (W : ∀ A' : Around, A'.handled = none → Walks X.prog X.w A' s1.heap.objs.size [s1.heap.objs.size, a] [s1.heap.objs.size] its.toArray.size (fun i v => its.toArray[i]? = some v) St0)
    (hst : St0 0 (s1.heap.push o)) (hQ : ∀ g s5, Gen X pins σ H1 P ns pb g s5 → Q' (.ref g) s5) :
    wpAny (model X.prog X.w) X.A (genexprCode X.env gpos (X.env.qual ++ "<genexpr>") scope) (fun code s3 => wpAny (model X.prog X.w) X.A (builtinsFor X.env.globals X.env.builtins) (fun bi s4 =>
      ∃ Ia fp wr n₀ Pf St₀ pz F, Value.ref s1.heap.objs.size = .ref Ia ∧ (∀ A' : Around, A'.handled = none → Walks X.prog X.w A' Ia fp wr n₀ Pf St₀) ∧ St₀ 0 s4.heap ∧ (∀ b ∈ fp, b < s4.heap.objs.size) ∧ s4.heap.NoLimit ∧ cStatics ∉ wr ∧
        (∀ href : Heap, (∀ b o, s4.heap.get? b = some o → href.get? b = some o) → QuietGen X.prog X.w (genEnv scope (cloFrom X.env.cells scope.names []) s4.heap.objs.size code bi X.env) x [] elt (List.range s4.heap.objs.size) wr Pf pz F href) ∧
        (∀ a h5 tk gs, gs.bare = true → s4.heap.objs.size < a → h5.objs.size = a + 1 → (∀ b o, s4.heap.get? b = some o → h5.get? b = some o) →
          WalksS X.prog X.w X.A.in4 a (a :: s4.heap.objs.size :: List.range s4.heap.objs.size) (s4.heap.objs.size :: wr) (GenOnlyQ s4.gens.size) (passing pz n₀ 0).length (fun j y => ∃ i, (passing pz n₀ 0)[j]? = some i ∧ F i y)
            (GenAt X.prog X.w X.A.in4 a s4.gens.size s4.heap.objs.size (List.range s4.heap.objs.size) wr pz n₀ F) →
          GenAt X.prog X.w X.A.in4 a s4.gens.size s4.heap.objs.size (List.range s4.heap.objs.size) wr pz n₀ F 0 { s4 with gens := s4.gens.push gs, toks := tk, heap := h5 } →
          Q' (.ref a) { s4 with gens := s4.gens.push gs, toks := tk, heap := h5 })) X.xe s3) X.xe { s1 with heap := s1.heap.push o } := by
  have hPs : s1.heap.get? P = some { cls := .none, data := .fields ps } := I1.hok P _ hP
  have ltP : P < s1.heap.objs.size := Heap.lt_size hPs
  have kp : ∀ b u, s1.heap.get? b = some u → (s1.heap.push o).get? b = some u := fun b u e => Heap.get?_push_of_some _ e
  have sz : (s1.heap.push o).objs.size = s1.heap.objs.size + 1 := Heap.size_push ..
  refine gen_code hcode (TB.code.keeps fun b u e => kp b u (I1.bk b u e)) (kp _ _ hPs) ht fun code h3 tk more hx hge hP3 ht3 => ?_
  have hge3 : s1.heap.objs.size + 1 ≤ h3.objs.size := by rw [← sz]; exact hge
  have k3 : ∀ b u, b ≠ P → s1.heap.get? b = some u → h3.get? b = some u := fun b u hb e => hx b u hb (kp b u e)
  have hst3 : St0 0 h3 := (W X.A hr.hd).frame _ _ _ hst fun b hb u e => hx b u (fun z => by
    rcases List.mem_cons.mp hb with q | q
    · rw [q] at z; rw [← z] at ltP; exact Nat.lt_irrefl _ ltP
    · rw [List.mem_singleton.mp q] at z; exact haP z) e
  obtain ⟨bm, ob, e1, e2, e3, e4, e5, e6, e7, e8⟩ := TB.bm
  have hcl : cStatics < s1.heap.objs.size := let ⟨_, hns, _⟩ := I1.nolimit; hns.lt
  have hcP : cStatics ≠ P := fun e => by
    obtain ⟨_, ⟨o', es, ep, ho, hd, _⟩, _⟩ := I1.nolimit
    rw [e, hPs] at ho
    cases ho
    cases hd
  have lim3 : h3.NoLimit := (I1.nolimit.push o).extBut hx hcP
  refine wpAny_builtinsFor (m := X.mg) (by rw [I1.ok.glob]; exact ((I1.mod.glob.keeps I1.bk).push o).extBut hx TB.gP) e1 e2 (k3 _ _ e4 (I1.bk _ _ e5)) e6 e7 e8 ?_
  have hlen : its.toArray.size = ns.length := by rw [List.size_toArray, ← rv.length, List.length_map]
  refine ⟨s1.heap.objs.size, [s1.heap.objs.size, a], [s1.heap.objs.size], its.toArray.size, fun i v => its.toArray[i]? = some v, St0, fun _ => true, fun i y => ∃ n, ns[i]? = some n ∧ y = .bool (pb n), rfl, W, hst3, ?_, lim3, ?_, ?_, ?_⟩
  · intro b hb
    show b < h3.objs.size
    rcases List.mem_cons.mp hb with z | z
    · rw [z]; exact hge3
    · rw [List.mem_singleton.mp z]; exact Nat.lt_of_lt_of_le ha (Nat.le_trans (Nat.le_succ _) hge3)
  · intro z
    rw [List.mem_singleton.mp z] at hcl
    exact Nat.lt_irrefl _ hcl
  · -- the element: no tests stand ahead of it, the cells are as they were
    intro href hhref
    refine ⟨fun A' E' i v s2 m2 _ _ _ _ _ => ?_, fun A' E' i v s2 m2 hA hv _ hn hm hk => ?_⟩
    · rw [List.forIn_nil]
      exact wpAny_pure ⟨rfl, GxR.keeps_refl _⟩
    · have hv' : its[i]? = some v := by simpa using hv
      have hi : i < ns.length := by rw [← hlen]; exact (Array.getElem?_eq_some_iff.mp hv).1
      have hb : (ns.map V.int)[i]? = some (V.int ns[i]) := by rw [List.getElem?_map, List.getElem?_eq_getElem hi]; rfl
      obtain ⟨u, hu, t, rfl⟩ := rv.get hb
      rw [hv'] at hu
      cases hu
      refine wpAny_mono (hel _ A' E' _ t s2 m2 rfl rfl hn hm fun b v hc => ?_) (fun y s3 r => ⟨⟨_, List.getElem?_eq_getElem hi, r.1⟩, r.2⟩) fun _ _ e => e
      obtain ⟨oc, ho, hd⟩ := hc
      have hbP : b ≠ P := fun z => by rw [z, hPs] at ho; cases ho; cases hd
      exact ⟨oc, hk b (List.mem_range.mpr (Nat.lt_of_lt_of_le (Heap.lt_size ho) (Nat.le_trans (Nat.le_succ _) hge3))) (fun z => by
        rw [List.mem_singleton.mp z] at ho; exact Nat.lt_irrefl _ (Heap.lt_size ho)) oc (hhref _ _ (k3 b oc hbP ho)), hd⟩
  · intro g h5 tk5 gs hgb hlt hsz5 hk5 W5 hat
    simp only [GxR.passing_true, List.length_range] at W5
    rw [hlen] at W5 hat
    refine hQ g _ ⟨_, _, _, _, _, W5.in4_1, hat, ?_, fun s' hm => ?_⟩
    · rintro j y sj Qj Ej ⟨i, hij, n, hn, rfl⟩ hq
      obtain ⟨_, ej⟩ := List.getElem?_eq_some_iff.mp hij
      rw [List.getElem_range] at ej
      subst ej
      have e9 : atB pb ns j = pb n := by unfold atB; rw [hn]
      rw [e9] at hq
      exact wpAny_truthy_bool hq
    · have out : ∀ b u, s1.heap.get? b = some u → b ∉ h3.objs.size :: [s1.heap.objs.size] := fun b u e hb => by
        have hl := Heap.lt_size e
        rcases List.mem_cons.mp hb with z | z
        · rw [z] at hl; exact absurd (Nat.lt_of_lt_of_le hl (Nat.le_trans (Nat.le_succ _) hge3)) (Nat.lt_irrefl _)
        · rw [List.mem_singleton.mp z] at hl; exact Nat.lt_irrefl _ hl
      have J := GxR.inv_tab (more := more) (h' := s'.heap) (g' := s'.gens) (d' := s'.drawn) (t' := s'.toks) I1 hP (fun b u hb e => hm.heap b u (out b u e) (hk5 b u (k3 b u hb e))) (hm.heap P _ (out P _ hPs) (hk5 P _ hP3)) (AllBare.movedS (I1.bare.push hgb) hm)
      rw [GxR.sh_eta s1 s' hm.os] at J
      exact ⟨_, ⟨⟨ps ++ more, upd_same, ht3⟩, fun b hb => upd_ne hb⟩, J⟩
theorem gen_ints {c P : Addr} {elt iter : Expr} {x : Str} {px gpos : Pos} {scope : Scope} {pb : Int → Bool} {te : TE} {k : Nat} {Q' : Value → Shared → Prop} {R : List Int → Hp → Prop} {H : Hp} {s : Shared}
    (hr : Room k X.A) (TB : GxR.TabB X.base X.mg c P) (hcode : X.env.code = .ref c) (S : GxR.GenS X.env scope x) (hi : PE X iter te) (hel : ∀ H1 s1, Inv X pins σ H1 s1 → ElI X scope x elt pb s1.heap)
    (hs : ∀ v, genFold iter X.env v = pure v) (I : Inv X pins σ H s) (h : te σ H fun v H1 => ∃ (a : Addr) (ns : List Int), v = .ref a ∧ SqA X.K H1 a (ns.map V.int) ∧ GxR.TabG H1 P ∧ R ns H1)
    (hQ : ∀ ns H1 g s5, R ns H1 → Gen X pins σ H1 P ns pb g s5 → Q' (.ref g) s5) :
    wpAny (model X.prog X.w) X.A (eval (.GeneratorExp elt [⟨.Name x px, iter, [], 0⟩] scope gpos) X.env) Q' X.xe s := by
  refine wpAny_GeneratorExp_walksQ hr.hd S.co (closure_ok S.free) S.cell S.dot S.loc S.kind (Nat.lt_of_le_of_lt (Nat.le_trans (Nat.le_add_right _ _) (Nat.le_add_right _ 5)) hr.dp) ?_ hs
  refine thn (hi.run pins s σ H _ I h) fun xv s1 ⟨v, H1, I1, r1, a, ns, e, hsq, ⟨ps, hP, ht⟩, q1⟩ => ?_
  subst e
  obtain rfl : xv = Value.ref a := r1
  rcases hsq with hsq | hsq
  · obtain ⟨its, rv, pl, _⟩ := I1.list hsq
    have hIL := pl.isList
    have hlt : a < s1.heap.objs.size := let ⟨_, e, _⟩ := hIL; Heap.lt_size e
    have haP : a ≠ P := fun z => by
      obtain ⟨oo, e, hc1, _⟩ := hIL
      rw [z, show s1.heap.get? P = _ from I1.hok P _ hP] at e
      cases e; cases hc1
    refine wpAny_pyIter_list hIL ⟨I1.nolimit.push _, ?_⟩
    exact gen_from hr TB hcode I1 rv (hel H1 s1 I1) hP ht hlt haP (fun A' hA => Walks.list hA _ _ (Nat.ne_of_lt hlt) _) ⟨⟨_, Heap.get?_push_size _ rfl, rfl, rfl⟩, hIL.push _⟩ fun g s5 G => hQ ns H1 g s5 q1 G
  · obtain ⟨its, rv, pl, _⟩ := I1.tuple hsq
    have hlt : a < s1.heap.objs.size := pl.lt
    have haP : a ≠ P := fun z => by
      obtain ⟨oo, e, hc1, _⟩ := pl
      rw [z, show s1.heap.get? P = _ from I1.hok P _ hP] at e
      cases e; cases hc1
    refine wpAny_pyIter_tuple (items := its.toArray) pl ⟨I1.nolimit.push _, ?_⟩
    exact gen_from hr TB hcode I1 rv (hel H1 s1 I1) hP ht hlt haP (fun A' hA => Walks.tuple hA _ _ (Nat.ne_of_lt hlt) _) ⟨⟨_, Heap.get?_push_size _ rfl, rfl, rfl⟩, pl.push _⟩ fun g s5 G => hQ ns H1 g s5 q1 G
/-- all(..): behind it the def's table may have grown -/
def tAll (K : PySem.W.Frag) (P : Addr) (pb : L2.St → Int → Bool) (te : TE) : TE := fun σ H Q => te σ H fun v H1 => ∃ (a : Addr) (ns : List Int), v = .ref a ∧ SqA K H1 a (ns.map V.int) ∧ GxR.TabG H1 P ∧ ∀ H2, GxR.Tabbed P H1 H2 → Q (.bl (ns.all (pb σ))) H2
theorem pe_all {c P : Addr} {elt iter : Expr} {x : Str} {px p pos gpos : Pos} {scope : Scope} {pb : L2.St → Int → Bool} {te : TE} {k : Nat}
    (hr : Room k X.A) (hg : Gl X "all") (hm : X.mg "all" = none) (hb : bootBuiltins "all" = some (.builtin "all")) (TB : GxR.TabB X.base X.mg c P) (hcode : X.env.code = .ref c) (S : GxR.GenS X.env scope x) (hi : PE X iter te)
    {Pre : L2.St → Prop} (hel : ∀ pins σ H1 s1, Pre σ → Inv X pins σ H1 s1 → ElI X scope x elt (pb σ) s1.heap) (hs : ∀ v, genFold iter X.env v = pure v)
    (he : starEach [.GeneratorExp elt [⟨.Name x px, iter, [], 0⟩] scope gpos] X.env = (false, eval (.GeneratorExp elt [⟨.Name x px, iter, [], 0⟩] scope gpos) X.env) :: starEach [] X.env := by rfl) :
    PE X (.Call (.Name "all" p) [.GeneratorExp elt [⟨.Name x px, iter, [], 0⟩] scope gpos] [] pos) (fun σ H Q => Pre σ ∧ tAll X.K P pb te σ H Q) := by
  refine ⟨fun pins s σ H Q I h => ?_⟩
  obtain ⟨hpre, h⟩ := h
  refine wpAny_Call_Name_kw (ld_blt I hg hm hb ?_)
  refine PyProof.Rows.callWith_builtin1 ?_ he (by rfl)
  rw [he]
  show wpAny _ _ (spliced ((false, eval _ X.env) :: backTo pos (starEach [] X.env))) _ _ s
  refine Calls.spliced_cons (gen_ints (R := fun ns H1 => ∀ H2, GxR.Tabbed P H1 H2 → Q (.bl (ns.all (pb σ))) H2) hr TB hcode S hi (fun H1 s1 I1 => hel pins σ H1 s1 hpre I1) hs I h fun ns H1 g s5 hR hG => Calls.spliced_nil ?_)
  obtain ⟨fp, wr, G, Fv, St, W, hst, htr, hI⟩ := hG
  refine call_all_walkS (W.self 0 _ _ _ hst ⟨g, fp, wr, G, _, Fv, St, _, rfl, W, hst, htr, fun s' hmv => ?_⟩)
  obtain ⟨H2, hT, J⟩ := hI s' hmv
  exact ⟨.bl _, H2, J, rfl, by rw [all_atB (pb σ) ns]; exact hR H2 hT⟩
end
/-- lo <= x <= hi, both ends captured -/
theorem el_between {X : Cx} {scope : Scope} {h : Heap} {x y z : Str} {lo hi : Int} {tl th : Tok} {cl ch : Addr} {p1 p2 p3 p4 : Pos} (hk : scope.kind = .function) (hx : scope.names.lookup x = some .local) (hl : scope.names.lookup y = some .free) (hh : scope.names.lookup z = some .free)
    (e1 : (cloFrom X.env.cells scope.names []).lookup y = some cl) (e2 : (cloFrom X.env.cells scope.names []).lookup z = some ch) (v1 : h.IsCell cl (some (.int lo tl))) (v2 : h.IsCell ch (some (.int hi th)))
    (dx : (x == ("__debug__" : Str)) = false) (dy : (y == ("__debug__" : Str)) = false) (dz : (z == ("__debug__" : Str)) = false) (cy : (y == ("__classdict__" : Str)) = false) (cz : (z == ("__classdict__" : Str)) = false) :
    ElI X scope x (.Compare (.Name y p1) [.LtE, .LtE] [.Name x p2, .Name z p3] p4) (fun n => decide (lo ≤ n) && decide (n ≤ hi)) h := by
  intro cenv A' E' n t s2 m2 hs hc hn hm hcell
  have kk : cenv.scope.kind = .function := by rw [hs]; exact hk
  refine Compare_chain (wpAny_Name (wpAny_loadName_free (c := cl) kk (show cenv.scope.names.lookup y = _ by rw [hs]; exact hl) (by rw [hc]; exact e1) (hcell _ _ v1) ?_ cy) dy) (by rfl)
  refine chain_link (wpAny_Name (wpAny_loadName_local kk (show cenv.scope.names.lookup x = _ by rw [hs]; exact hx) hn hm ?_) dx)
  refine le_int (wpAny_truthy_bool ?_)
  by_cases q : lo ≤ n
  · rw [decide_eq_true q]
    refine ite_tt (chain_last (wpAny_Name (wpAny_loadName_free (c := ch) kk (show cenv.scope.names.lookup z = _ by rw [hs]; exact hh) (by rw [hc]; exact e2) (hcell _ _ v2) ?_ cz) dz))
    exact le_int ⟨by simp [q], GxR.keeps_refl _⟩
  · rw [decide_eq_false q]
    exact ite_ff ⟨by simp [q], GxR.keeps_refl _⟩
end FWG
namespace FW
open PySem PySem.Spec PyProof.Rows L2
section
variable {c : Amb} {H F H2 : Hp}
/-- a table has grown: nothing else has changed -/
theorem Ext.tabbed (W : Wok c H F) {P : Addr} (hP : P ∈ c.Ps) (T : GxR.Tabbed P H H2) : Ext c H F H2 F := by
  obtain ⟨t1, t2⟩ := T
  have ht := (W.tab P hP).1
  have ne : ∀ b o, H b = some o → (∀ ps, o ≠ .tbl ps) → b ≠ P := fun b o e k z => by
    obtain ⟨ps, q, _⟩ := ht
    rw [z, q] at e
    exact k ps (Option.some.inj e).symm
  have nt : ∀ b o, H b = some o → b ∉ c.Ps → H2 b = some o := fun b o e nb => by
    rw [t2 b (fun z => nb (z ▸ hP))]; exact e
  refine ⟨⟨fun b o e => ?_, W.row.keep (fun b o e nb => nt b o e nb) (fun P h => (W.tab P h).1), W.rF, fun P' hP' => ⟨?_, (W.tab P' hP').2⟩⟩, fun _ _ h => h, fun b o e _ nb => nt b o e nb, fun _ h h' => absurd h h', W.row.sq⟩
  · rw [t2 b (fun z => by rw [z, (W.tab P hP).2] at e; cases e)]; exact W.sub b o e
  · by_cases z : P' = P
    · rw [z]; exact t1
    · obtain ⟨ps, q, r⟩ := (W.tab P' hP').1
      exact ⟨ps, by rw [t2 _ z]; exact q, r⟩
def pbT (i j : Nat) (σ : L2.St) (n : Int) : Bool := match σ[i]?, σ[j]? with
  | some (some (.int lo)), some (some (.int hi)) => decide (lo ≤ n) && decide (n ≤ hi)
  | _, _ => false
def dAllW (i j : Nat) (w : W) : W := fun e R => ∃ lo hi : Int, e[i]? = some (.val (.int lo)) ∧ e[j]? = some (.val (.int hi)) ∧ w e fun d => ∃ ns : List Int, IsSeq d (ns.map PyData.int) ∧ R (.bool (ns.all fun n => decide (lo ≤ n) && decide (n ≤ hi)))
theorem xd_allW {i j : Nat} {w : W} {P : Addr} (hP : P ∈ c.Ps) : ∀ σ H Q, tD c (dAllW i j w) σ H Q → ((∃ lo hi : Int, σ[i]? = some (some (V.int lo)) ∧ σ[j]? = some (some (V.int hi))) ∧ FWG.tAll c.K P (pbT i j) (tD c w) σ H Q) := by
  rintro σ H Q ⟨e, F, H0, R, W, S, ⟨lo, hi, h1, h2, q⟩, P'⟩
  obtain ⟨v1, a1, b1⟩ := S.val i _ h1
  obtain ⟨v2, a2, b2⟩ := S.val j _ h2
  rw [b1.int_inv] at a1
  rw [b2.int_inv] at a2
  refine ⟨⟨lo, hi, a1, a2⟩, e, F, H0, _, W, S, q, fun d v H1 F1 ⟨ns, hs, r⟩ x1 rv => ?_⟩
  obtain ⟨a, vs, rfl, g1, g2⟩ := seq_inv hs rv x1.ok.sub
  have ev := dpAll_ints_inv ns vs g2
  subst ev
  refine ⟨a, ns, rfl, g1, (x1.ok.tab P hP).1, fun H2 T => ?_⟩
  have ep : pbT i j σ = fun n => decide (lo ≤ n) && decide (n ≤ hi) := by
    funext n
    unfold pbT
    rw [a1, a2]
  rw [ep]
  exact P' _ _ H2 F1 r (x1.trans (Ext.tabbed x1.ok hP T)) .bl
end
/-- THE RULE for a def whose body asks for its own code object -/
theorem calDc {P : Program} {w : World} {g : Glb} {mg : Str → Option Value} {base : Heap} {x : Str} {st : Stmt} {fd : FuncData} {N ps : List Str} {k : Nat} {wb : WS} {f0 : Fd} (Fn : FunP g.K x st (He.fAd g.K (x, none)) fd) (mgf : mg x = some (.ref (He.fAd g.K (x, none)))) (b : Binds g.K fd ps [])
    (S : FnScope N ps (defScope st)) (hlen : ∀ ds R, f0 ds R → ds.length = ps.length)
    (hb : ∀ (cdv : Value) (A : Around) (outer : List PySem.Env) (s : Shared) (H : Hp) (E : XK) (r a : Addr) (ns : List Int), cdv = .ref (He.codeOf g.K (x, none)) → Room k (A.deeper (envOfC x (defScope st) s.heap.objs.size (He.fAd g.K (x, none)) cdv)) →
      PSs (cxOf CX0 P w g.K mg base N x (defScope st) (He.fAd g.K (x, none)) cdv A outer s H E).nox (defBody st) (sD ⟨g, r, a, ns⟩ E wb))
    (hp : ∀ ds R, f0 ds R → wb { nx := fun _ => R .none, rt := R } (startD N ds)) : C8.Cal P w g.K mg base (k + 1) x (spD g f0) [] := by
  obtain ⟨oc, od, dV, kV, doc, pm, an, cdv, ct, osl, rfl, lk, hcd, _, _⟩ := Fn.ex
  obtain ⟨cc, rfl⟩ := He.codeIn_ref hcd
  have ec := He.codeOf_eq (K := g.K) (p := (x, none)) lk rfl
  refine ⟨_, _, ps, [], fn_of lk hcd S (fun vs H Q E h => ?_) (fun A outer s H vs Q E hr h => ?_), mgf, Fn.kp, b, .nil⟩
  · obtain ⟨c, F, ds, R, _, _, rv, h, _⟩ := h
    rw [rv.length]; exact hlen ds R h
  · obtain ⟨⟨g', r, a, ns⟩, F, ds, R, hg, W, rv, h, P'⟩ := h
    have hg' : g' = g := hg
    subst hg'
    refine ⟨_, (hb _ A outer s H E r a ns (by rw [ec]) hr).nox, startD N ds, F, H, F, _, Ext.refl W, rep_start rv, hp ds R h, ?_⟩
    exact ⟨fun e σ H' F' q x S' => P' _ _ H' F' q x .non, fun d v H' F' q x rv => P' d v H' F' q x rv, fun _ _ _ _ _ z => z.elim, fun _ _ _ _ z => z.elim, fun _ _ _ _ z => z.elim, fun _ _ _ z => z.elim, fun _ z => z.elim, fun _ _ _ _ z => z.elim, fun z => nomatch z⟩
end FW
/-! FWL: plain facts about the readings. -/
namespace FW
open PySem PySem.Spec PyProof.Rows L2
@[simp] theorem isSeq_tup {xs ys : List D} : IsSeq (.tuple xs) ys ↔ ys = xs := by
  constructor
  · intro h; cases h; rfl
  · intro h; subst h; exact .tup _
@[simp] theorem isSeq_lst {xs ys : List D} : IsSeq (.list xs) ys ↔ ys = xs := by
  constructor
  · intro h; cases h; rfl
  · intro h; subst h; exact .lst _
@[simp] theorem mapInt_inj {l m : List Int} : l.map PyData.int = m.map PyData.int ↔ l = m := by
  constructor
  · intro h
    have : ∀ {l m : List Int}, l.map PyData.int = m.map PyData.int → l = m := by
      intro l
      induction l with
      | nil => intro m h; cases m with
        | nil => rfl
        | cons => simp at h
      | cons a l ih => intro m h; cases m with
        | nil => simp at h
        | cons b m =>
          simp only [List.map_cons, List.cons.injEq, PyData.int.injEq] at h
          rw [h.1, ih h.2]
    exact this h
  · intro h; rw [h]
/-- a comprehension without draws: what each item gives -/
theorem lcRun_det {g : D → (Sg → Prop) → Prop} {wt : WT} {we : W} {R : List D → Prop} (h : D → Option D) : ∀ (ds acc : List D),
    (∀ d ∈ ds, ∀ K : Option D → Prop, K (h d) → g d fun e' => wt e' fun b => if b = true then we e' fun y => y ≠ .dict [] ∧ K (some y) else K none) → R (acc ++ ds.filterMap h) → lcRun g wt we R ds acc
  | [], acc, _, r => by simpa [lcRun] using r
  | d :: ds, acc, ht, r => by
    unfold lcRun
    refine ht d List.mem_cons_self (fun o => match o with
      | some y => lcRun g wt we R ds (acc ++ [y])
      | none => lcRun g wt we R ds acc) ?_
    cases q : h d with
    | some y =>
      refine lcRun_det h ds _ (fun d' hd => ht d' (List.mem_cons_of_mem _ hd)) ?_
      simpa [List.filterMap_cons, q] using r
    | none =>
      refine lcRun_det h ds _ (fun d' hd => ht d' (List.mem_cons_of_mem _ hd)) ?_
      simpa [List.filterMap_cons, q] using r
def optI (p : Int → Bool) (f : Int → D) : D → Option D
  | .int n => if p n = true then some (f n) else none
  | _ => none
theorem filterMap_optI (p : Int → Bool) (f : Int → D) : ∀ l : List Int, (l.map PyData.int).filterMap (optI p f) = (l.filter p).map f
  | [] => rfl
  | a :: l => by
    rw [List.map_cons, List.filterMap_cons, filterMap_optI p f l]
    by_cases q : p a = true
    · simp [optI, q]
    · simp [optI, q]
/-- .. over ints -/
theorem lcRun_ints {g : D → (Sg → Prop) → Prop} {wt : WT} {we : W} {R : List D → Prop} (p : Int → Bool) (f : Int → D) (ns : List Int) (ht : ∀ n ∈ ns, ∀ K : Option D → Prop, K (if p n = true then some (f n) else none) → g (.int n) fun e' => wt e' fun b => if b = true then we e' fun y => y ≠ .dict [] ∧ K (some y) else K none)
    (r : R ((ns.filter p).map f)) : lcRun g wt we R (ns.map PyData.int) [] := by
  refine lcRun_det (optI p f) _ _ (fun d hd K k => ?_) ?_
  · obtain ⟨n, hn, rfl⟩ := List.mem_map.mp hd
    exact ht n hn K k
  · rw [List.nil_append, filterMap_optI]; exact r
/-- each item gives something of a kind -/
theorem lcRun_each {g : D → (Sg → Prop) → Prop} {wt : WT} {we : W} {R : List D → Prop} (Pd : D → Prop) : ∀ (ds acc : List D),
    (∀ d ∈ ds, ∀ K : Option D → Prop, (∀ y, Pd y → K (some y)) → g d fun e' => wt e' fun b => if b = true then we e' fun y => y ≠ .dict [] ∧ K (some y) else K none) → (∀ zs : List D, zs.length = ds.length → (∀ z ∈ zs, Pd z) → R (acc ++ zs)) → lcRun g wt we R ds acc
  | [], acc, _, r => by
    have := r [] rfl (fun z hz => absurd hz (by simp))
    simpa [lcRun] using this
  | d :: ds, acc, ht, r => by
    unfold lcRun
    refine ht d List.mem_cons_self (fun o => match o with
      | some y => lcRun g wt we R ds (acc ++ [y])
      | none => lcRun g wt we R ds acc) (fun y hy => ?_)
    refine lcRun_each Pd ds _ (fun d' hd => ht d' (List.mem_cons_of_mem _ hd)) (fun zs hl hz => ?_)
    have := r (y :: zs) (by simp [hl]) (fun z h => by rcases List.mem_cons.mp h with h | h; · rw [h]; exact hy
                                                      · exact hz z h)
    simpa using this
/-- a for whose turns go on: what holds between them -/
theorem forRun_inv {wg : WG} {wb : WS} {De : EndsD} (I : List D → Sg → Prop) (ht : ∀ d ds e, I (d :: ds) e → (∀ e2, I ds e2 → forRun wg wb De ds e2) → wg d e fun e' => wb { De with nx := fun e2 => forRun wg wb De ds e2, ct := fun e2 => forRun wg wb De ds e2, bk := De.nx, base := fun _ => False, pin := false } e') (he : ∀ e, I [] e → De.nx e) :
    ∀ ds e, I ds e → forRun wg wb De ds e
  | [], e, h => he e h
  | d :: ds, e, h => ht d ds e h fun e2 h2 => forRun_inv I ht he ds e2 h2
/-! ### == -/
def Sh (n : Nat) (d : D) : Prop := PyData.canLay0 d = true ∧ PyData.depth d ≤ n
theorem Sh.int {n : Nat} {i : Int} : Sh n (.int i) := ⟨by simp [PyData.canLay0], by simp [PyData.depth]⟩
theorem Sh.bool {n : Nat} {i : Bool} : Sh n (.bool i) := ⟨by simp [PyData.canLay0], by simp [PyData.depth]⟩
theorem Sh.none {n : Nat} : Sh n .none := ⟨by simp [PyData.canLay0], by simp [PyData.depth]⟩
theorem Sh.mono {n m : Nat} {d : D} (h : Sh n d) (k : n ≤ m) : Sh m d := ⟨h.1, Nat.le_trans h.2 k⟩
theorem sh_all {n : Nat} : ∀ {xs : List D}, (∀ x ∈ xs, Sh n x) → PyData.canLayAll0 xs = true ∧ PyData.depthAll xs ≤ n
  | [], _ => ⟨by simp [PyData.canLayAll0], by simp [PyData.depthAll]⟩
  | x :: xs, h => by
    obtain ⟨h1, h2⟩ := sh_all (xs := xs) fun y hy => h y (List.mem_cons_of_mem _ hy)
    obtain ⟨g1, g2⟩ := h x List.mem_cons_self
    exact ⟨by simp [PyData.canLayAll0, g1, h1], by simp [PyData.depthAll]; omega⟩
theorem Sh.tup {n : Nat} {xs : List D} (h : ∀ x ∈ xs, Sh n x) : Sh (n + 1) (.tuple xs) := by
  obtain ⟨h1, h2⟩ := sh_all h
  exact ⟨by simp [PyData.canLay0, h1], by simp [PyData.depth]; omega⟩
theorem Sh.lst {n : Nat} {xs : List D} (h : ∀ x ∈ xs, Sh n x) : Sh (n + 1) (.list xs) := by
  obtain ⟨h1, h2⟩ := sh_all h
  exact ⟨by simp [PyData.canLay0, h1], by simp [PyData.depth]; omega⟩
theorem Sh.ints {n : Nat} {l : List Int} : ∀ x ∈ l.map PyData.int, Sh n x := fun x hx => by
  obtain ⟨i, _, rfl⟩ := List.mem_map.mp hx
  exact Sh.int
theorem Sh.ok {n : Nat} {d : D} (h : Sh n d) (k : n ≤ 64 := by decide) : SeqAt.shaped d = true := by
  unfold SeqAt.shaped
  simp [h.1, Nat.le_trans h.2 k]
@[simp] theorem shaped_int {i : Int} : SeqAt.shaped (.int i) = true := (Sh.int (n := 0)).ok
@[simp] theorem shaped_bool {i : Bool} : SeqAt.shaped (.bool i) = true := (Sh.bool (n := 0)).ok
@[simp] theorem shaped_none : SeqAt.shaped .none = true := (Sh.none (n := 0)).ok
@[simp] theorem shaped_ints {l : List Int} : SeqAt.shaped (.tuple (l.map PyData.int)) = true := (Sh.tup (n := 0) Sh.ints).ok
@[simp] theorem shaped_intsL {l : List Int} : SeqAt.shaped (.list (l.map PyData.int)) = true := (Sh.lst (n := 0) Sh.ints).ok
@[simp] theorem shaped_nilL : SeqAt.shaped (.list []) = true := (Sh.lst (n := 0) (xs := []) (by simp)).ok
@[simp] theorem shaped_nilT : SeqAt.shaped (.tuple []) = true := (Sh.tup (n := 0) (xs := []) (by simp)).ok
@[simp] theorem eqv_int {i j : Int} : PyData.eqv (.int i) (.int j) = decide (i = j) := by
  show (i == j) = _
  exact Bool.beq_eq_decide_eq i j
@[simp] theorem eqv_bool {i j : Bool} : PyData.eqv (.bool i) (.bool j) = (i == j) := rfl
@[simp] theorem eqv_none : PyData.eqv .none .none = true := rfl
@[simp] theorem eqv_tup_none {xs : List D} : PyData.eqv (.tuple xs) .none = false := rfl
@[simp] theorem eqv_none_tup {xs : List D} : PyData.eqv .none (.tuple xs) = false := rfl
@[simp] theorem eqv_int_none {i : Int} : PyData.eqv (.int i) .none = false := rfl
@[simp] theorem eqv_none_int {i : Int} : PyData.eqv .none (.int i) = false := rfl
mutual
/-- no truth values, texts, dicts inside -/
def plainD : D → Bool
  | .none => true
  | .int _ => true
  | .list xs => plainAll xs
  | .tuple xs => plainAll xs
  | _ => false
def plainAll : List D → Bool
  | [] => true
  | x :: xs => plainD x && plainAll xs
end
mutual
theorem eqv_plain : ∀ (d e : D), plainD d = true → plainD e = true → (PyData.eqv d e = true ↔ d = e)
  | .none, e, _, h => by cases e <;> simp_all [PyData.eqv, plainD]
  | .int i, e, _, h => by cases e <;> simp_all [PyData.eqv, plainD]
  | .bool _, _, h, _ => by simp [plainD] at h
  | .str _, _, h, _ => by simp [plainD] at h
  | .dict _, _, h, _ => by simp [plainD] at h
  | .list xs, e, h, h' => by
    cases e with
    | list ys => simpa [PyData.eqv] using eqv_plainAll xs ys (by simpa [plainD] using h) (by simpa [plainD] using h')
    | _ => simp_all [PyData.eqv, plainD]
  | .tuple xs, e, h, h' => by
    cases e with
    | tuple ys => simpa [PyData.eqv] using eqv_plainAll xs ys (by simpa [plainD] using h) (by simpa [plainD] using h')
    | _ => simp_all [PyData.eqv, plainD]
theorem eqv_plainAll : ∀ (xs ys : List D), plainAll xs = true → plainAll ys = true → (PyData.eqvAll xs ys = true ↔ xs = ys)
  | [], ys, _, _ => by cases ys <;> simp [PyData.eqvAll]
  | x :: xs, ys, h, h' => by
    cases ys with
    | nil => simp [PyData.eqvAll]
    | cons y ys =>
      simp only [plainAll, Bool.and_eq_true] at h h'
      simp [PyData.eqvAll, eqv_plain x y h.1 h'.1, eqv_plainAll xs ys h.2 h'.2]
end
theorem plain_map {α : Type} {f : α → D} (h : ∀ a, plainD (f a) = true) : ∀ l : List α, plainAll (l.map f) = true
  | [] => rfl
  | a :: l => by simp [plainAll, h a, plain_map h l]
theorem plain_all : ∀ {l : List D}, (∀ d ∈ l, plainD d = true) → plainAll l = true
  | [], _ => rfl
  | a :: l, h => by simp [plainAll, h a List.mem_cons_self, plain_all fun d hd => h d (List.mem_cons_of_mem _ hd)]
@[simp] theorem plain_int {i : Int} : plainD (.int i) = true := rfl
@[simp] theorem plain_none : plainD .none = true := rfl
@[simp] theorem plain_ints {l : List Int} : plainD (.tuple (l.map PyData.int)) = true := by
  show plainAll _ = true
  exact plain_map (fun _ => rfl) l
@[simp] theorem plain_intsL {l : List Int} : plainD (.list (l.map PyData.int)) = true := by
  show plainAll _ = true
  exact plain_map (fun _ => rfl) l
theorem eqv_dec {d e : D} (h : plainD d = true) (h' : plainD e = true) {b : Bool} (k : b = true ↔ d = e) : PyData.eqv d e = b := by
  rw [Bool.eq_iff_iff, eqv_plain d e h h', k]
@[simp] theorem eqv_ints {l m : List Int} : PyData.eqv (.tuple (l.map PyData.int)) (.tuple (m.map PyData.int)) = decide (l = m) := eqv_dec plain_ints plain_ints (by simp)
@[simp] theorem eqv_intsL {l m : List Int} : PyData.eqv (.list (l.map PyData.int)) (.list (m.map PyData.int)) = decide (l = m) := eqv_dec plain_intsL plain_intsL (by simp)
theorem filterMap_nothing {α β : Type} : ∀ l : List α, l.filterMap (fun _ => (none : Option β)) = []
  | [] => rfl
  | a :: l => by rw [List.filterMap_cons]; exact filterMap_nothing l
theorem atI_z {α : Type} {l : List α} {i : Nat} {x : α} (h : l[i]? = some x) : atI l (0 + (i : Int)) = some x := by
  rw [Int.zero_add]; exact atI_nat h
@[simp] theorem noRow_nil : noRow [] := fun d h => absurd h (by simp)
@[simp] theorem noRow_cons {d : D} {ds : List D} : noRow (d :: ds) ↔ d ≠ .dict [] ∧ noRow ds := by
  constructor
  · intro h
    exact ⟨h d List.mem_cons_self, fun x hx => h x (List.mem_cons_of_mem _ hx)⟩
  · rintro ⟨h1, h2⟩ x hx
    rcases List.mem_cons.mp hx with z | z
    · rw [z]; exact h1
    · exact h2 x z
@[simp] theorem eqv_nilL : PyData.eqv (.list []) (.list []) = true := rfl
@[simp] theorem rngD_len {lo : Int} {n : Nat} : (rngD lo n).length = n := rngD_length
@[simp] theorem rdMax2_iff {i j : Int} {R : D → Prop} : rdMax2 [.int i, .int j] R ↔ R (.int (if j > i then j else i)) := by
  constructor
  · rintro ⟨a, b, e, h⟩; simp at e; rw [e.1, e.2]; exact h
  · intro h; exact ⟨i, j, rfl, h⟩
@[simp] theorem rdMin2_iff {i j : Int} {R : D → Prop} : rdMin2 [.int i, .int j] R ↔ R (.int (if j < i then j else i)) := by
  constructor
  · rintro ⟨a, b, e, h⟩; simp at e; rw [e.1, e.2]; exact h
  · intro h; exact ⟨i, j, rfl, h⟩
@[simp] theorem rdInt1_bool {k : Bool} {R : D → Prop} : rdInt1 [.bool k] R ↔ R (.int (if k then 1 else 0)) := by
  constructor
  · rintro (⟨a, e, h⟩ | ⟨a, e, h⟩)
    · simp at e
    · simp at e; rw [e]; exact h
  · intro h; exact .inr ⟨k, rfl, h⟩
@[simp] theorem rdInt1_int {k : Int} {R : D → Prop} : rdInt1 [.int k] R ↔ R (.int k) := by
  constructor
  · rintro (⟨a, e, h⟩ | ⟨a, e, h⟩)
    · simp at e; rw [e]; exact h
    · simp at e
  · intro h; exact .inl ⟨k, rfl, h⟩
@[simp] theorem rdZip_iff {xs ys : List D} {R : List D → Prop} : rdZip [.tuple xs, .tuple ys] R ↔ R ((xs.zip ys).map fun p => .tuple [p.1, p.2]) := by
  constructor
  · rintro ⟨a, b, e, h⟩; simp at e; rw [e.1, e.2]; exact h
  · intro h; exact ⟨xs, ys, rfl, h⟩
@[simp] theorem atI_0 {α : Type} {a : α} {l : List α} : atI (a :: l) 0 = some a := atI_nat (j := 0) rfl
@[simp] theorem atI_1 {α : Type} {a b : α} {l : List α} : atI (a :: b :: l) 1 = some b := atI_nat (j := 1) rfl
@[simp] theorem atI_2 {α : Type} {a b c : α} {l : List α} : atI (a :: b :: c :: l) 2 = some c := atI_nat (j := 2) rfl
@[simp] theorem atI_3 {α : Type} {a b c d : α} {l : List α} : atI (a :: b :: c :: d :: l) 3 = some d := atI_nat (j := 3) rfl
@[simp] theorem eqv_list_nil {xs : List D} : PyData.eqv (.list xs) (.list []) = xs.isEmpty := by cases xs <;> rfl
/-- the places at which something is bad -/
def badAt (bad : Nat → Bool) : D → Option D
  | .int i => if bad i.toNat = true then some (.int i) else none
  | _ => none
theorem badAt_list (bad : Nat → Bool) (n : Nat) : ((rngD 0 n).filterMap (badAt bad)).isEmpty = (List.range n).all fun k => !bad k := by
  unfold rngD
  rw [List.filterMap_map]
  have : ∀ l : List Nat, (l.filterMap (badAt bad ∘ fun k => PyData.int (0 + (k : Nat)))).isEmpty = l.all fun k => !bad k := by
    intro l
    induction l with
    | nil => rfl
    | cons a l ih =>
      rw [List.filterMap_cons, List.all_cons]
      by_cases q : bad a = true
      · simp [badAt, q]
      · simp [badAt, q]
        simpa using ih
  exact this _
theorem badAt_nil (bad : Nat → Bool) (n : Nat) : (rngD 0 n).filterMap (badAt bad) = [] ↔ ((List.range n).all fun k => !bad k) = true := by
  rw [← badAt_list, List.isEmpty_iff]
theorem badAt_sh (bad : Nat → Bool) (l : List D) : SeqAt.shaped (.list (l.filterMap (badAt bad))) = true := by
  refine (Sh.lst (n := 0) fun x hx => ?_).ok
  obtain ⟨d, _, e⟩ := List.mem_filterMap.mp hx
  cases d with
  | int i =>
    have e : (if bad i.toNat = true then some (PyData.int i) else none) = some x := e
    by_cases q : bad i.toNat = true
    · rw [if_pos q] at e; rw [← Option.some.inj e]; exact Sh.int
    · rw [if_neg q] at e; cases e
  | _ => cases e
/-- a comprehension over range(n) that gathers bad places -/
theorem lcRun_bad {g : D → (Sg → Prop) → Prop} {wt : WT} {we : W} {R : List D → Prop} (bad : Nat → Bool) (n : Nat) (ht : ∀ k : Nat, k < n → ∀ K : Option D → Prop, K (if bad k = true then some (.int k) else none) → g (.int k) fun e' => wt e' fun b => if b = true then we e' fun y => y ≠ .dict [] ∧ K (some y) else K none)
    (r : R ((rngD 0 n).filterMap (badAt bad))) : lcRun g wt we R (rngD 0 n) [] := by
  refine lcRun_det (badAt bad) _ _ (fun d hd K k => ?_) (by simpa using r)
  unfold rngD at hd
  obtain ⟨i, hi, rfl⟩ := List.mem_map.mp hd
  rw [Int.zero_add] at k ⊢
  exact ht i (List.mem_range.mp hi) K (by simpa [badAt] using k)
theorem atI_map {α β : Type} {l : List α} {f : α → β} {i : Nat} {x : α} (h : l[i]? = some x) : atI (l.map f) (i : Int) = some (f x) := atI_nat (by rw [List.getElem?_map, h]; rfl)
theorem all_range {α : Type} (p : α → Bool) (l : List α) (bad : Nat → Bool) (h : ∀ (i : Nat) x, l[i]? = some x → bad i = !p x) : ((List.range l.length).all fun k => !bad k) = l.all p := by
  rw [Bool.eq_iff_iff, List.all_eq_true, List.all_eq_true]
  constructor
  · intro k x hx
    obtain ⟨i, hi, e⟩ := List.getElem_of_mem hx
    have := k i (List.mem_range.mpr hi)
    rw [h i x (by rw [List.getElem?_eq_getElem hi, e])] at this
    simpa using this
  · intro k i hi
    have hi' := List.mem_range.mp hi
    rw [h i _ (List.getElem?_eq_getElem hi'), k _ (List.getElem_mem hi')]
    rfl
@[simp] theorem isNone_none : isNone .none = true := rfl
@[simp] theorem isNone_int {i : Int} : isNone (.int i) = false := rfl
@[simp] theorem isNone_bool {i : Bool} : isNone (.bool i) = false := rfl
@[simp] theorem isNone_str {i : Str} : isNone (.str i) = false := rfl
@[simp] theorem isNone_list {i : List D} : isNone (.list i) = false := rfl
@[simp] theorem isNone_tup {i : List D} : isNone (.tuple i) = false := rfl
end FW
/-! FWR: the row of draws. -/
namespace FW
open PySem PySem.Spec PyProof.Rows L2
section
variable {c : Amb} {H F H' : Hp}
/-- the row has changed, nothing else -/
theorem Ext.rowed (W : Wok c H F) {i x k : Int} (hi : 0 ≤ i) (hx : 0 ≤ x) (hx2 : x < 2147483647) (h1 : H' c.r = some (.lst [.ref c.a, .int i, .int x, .int k])) (h2 : ∀ b, b ≠ c.r → H' b = H b) : Ext c H F H' F := by
  obtain ⟨i0, x0, k0, g1, _, _, _, g5⟩ := W.row
  have hr : ∀ P ∈ c.Ps, P ≠ c.r := fun P hP z => by
    obtain ⟨ps, q, _⟩ := (W.tab P hP).1
    rw [z, g1] at q; cases q
  refine ⟨⟨fun b o e => ?_, ⟨i, x, k, h1, hi, hx, hx2, ?_⟩, W.rF, fun P hP => ⟨?_, (W.tab P hP).2⟩⟩, fun _ _ h => h, fun b o e hb _ => by rw [h2 b hb]; exact e, fun _ h h' => absurd h h', W.row.sq⟩
  · rw [h2 b (fun z => by rw [z, W.rF] at e; cases e)]; exact W.sub b o e
  · have ne : ∀ u, H c.a = some u → (∀ o, u ≠ .lst (V.ref c.a :: o)) → c.a ≠ c.r := fun u e k z => by
      rw [z, g1] at e
      exact k _ (by rw [← Option.some.inj e, z])
    rcases g5 with (g5 | ⟨o, g5⟩) | g5
    · refine .inl (.inl ?_)
      rw [h2 c.a (ne _ g5 fun o z => ?_)]
      · exact g5
      · have z' := HO.lst.inj z
        cases q : c.ns with
        | nil => rw [q] at z'; cases z'
        | cons a l => rw [q] at z'; cases z'
    · exact .inl (.inr ⟨o, by rw [h2 c.a (ne _ g5 fun o z => by cases z)]; exact g5⟩)
    · exact .inr g5
  · obtain ⟨ps, q, r⟩ := (W.tab P hP).1
    exact ⟨ps, by rw [h2 P (hr P hP)]; exact q, r⟩
end
/-- a draw: some number below m -/
def f_law_taken : Fd := fun ds R => ∃ m : Int, ds = [.dict [], .int m] ∧ 0 < m ∧ m < 1073741824 ∧ ∀ v : Int, 0 ≤ v → v < m → R (.int v)
theorem len_law_taken : ∀ ds R, f_law_taken ds R → ds.length = 2 := by
  rintro ds R ⟨m, rfl, _⟩; rfl
theorem fmod_lt {a m : Int} (h : 0 < m) : 0 ≤ a.fmod m ∧ a.fmod m < m := ⟨Int.fmod_nonneg_of_pos a h, Int.fmod_lt_of_pos a h⟩
/-! ### isinstance -/
def tyN : D → String
  | .none => "NoneType"
  | .bool _ => "bool"
  | .int _ => "int"
  | .str _ => "str"
  | .list _ => "list"
  | .tuple _ => "tuple"
  | .dict _ => "dict"
def isN (a t : String) : Bool := decide (a = t) || (decide (a = "bool") && decide (t = "int"))
def tyNs : List String := ["NoneType", "bool", "int", "str", "list", "tuple"]
def clsNs : List String := ["tuple", "list", "bool", "str", "int"]
theorem kit_all : ∀ a ∈ tyNs, ∀ t ∈ clsNs, kitB a t = some (isN a t) := by decide +kernel
theorem tyN_mem {d : D} (h : ∀ k, d ≠ .dict k) : tyN d ∈ tyNs := by
  cases d <;> first | (simp [tyN, tyNs]; done) | exact absurd rfl (h _)
theorem kit_d {K : PySem.W.Frag} {d : D} (h : ∀ k, d ≠ .dict k) {t : String} (ht : t ∈ clsNs) : PySem.W.kitOne K (.type (tyN d)) (.type t) = some (isN (tyN d) t) := kit_ty (kit_all _ (tyN_mem h) t ht)
theorem ty_rp {K : PySem.W.Frag} {F H : Hp} (e : Same F H) {v : V} {d : D} (h : Rp K F v d) : TyX K H v (.type (tyN d)) ∧ ∀ k, d ≠ .dict k := by
  cases h with
  | non => exact ⟨.base .non, fun k z => by cases z⟩
  | bl b => exact ⟨.base (.bl b), fun k z => by cases z⟩
  | int i => exact ⟨.base (.int i), fun k z => by cases z⟩
  | str x => exact ⟨.base (.str x), fun k z => by cases z⟩
  | lst hs _ => exact ⟨.base (.lst (e _ _ hs)), fun k z => by cases z⟩
  | tup hs _ =>
    refine ⟨?_, fun k z => by cases z⟩
    rcases hs with (hs | ⟨o, hs⟩) | ⟨o, its, n, hs, hc, _⟩
    · exact .base (.tup (e _ _ hs))
    · exact .fTuple (e _ _ hs)
    · exact .kTuple hs hc
@[simp] def dIsi (t : String) (w : W) : W := fun e R => w e fun d => d ≠ .dict [] ∧ R (.bool (isN (tyN d) t))
section
variable {c : Amb} {H F H' : Hp}
theorem xd_isi {t : String} (ht : t ∈ clsNs) {w : W} : ∀ σ H Q, tD c (dIsi t w) σ H Q → tCB (rIsi c.K) (tCons (tD c w) (tCons (tC (.ty t)) tNil)) σ H Q := fun σ H Q ⟨e, F, H0, R, W, S, q, P⟩ =>
  ⟨e, F, H0, _, W, S, q, fun d v H1 F1 ⟨hd, r⟩ x1 rv => by
    obtain ⟨ty, nd⟩ := ty_rp x1.ok.sub (rv.dp hd)
    exact ⟨v, .ty t, _, _, _, rfl, .ty t, ty, kit_d nd ht, P _ _ H1 F1 r x1 .bl⟩⟩
/-- isinstance(x, (tuple, list)) -/
@[simp] def dIsi2 (t u : String) (w : W) : W := fun e R => w e fun d => d ≠ .dict [] ∧ R (.bool (isN (tyN d) t || isN (tyN d) u))
theorem xd_isi2 {t u : String} (ht : t ∈ clsNs) (hu : u ∈ clsNs) {w : W} : ∀ σ H Q, tD c (dIsi2 t u w) σ H Q → tCB (rIsiT c.K) (tCons (tD c w) (tCons (tTup (tCons (tC (.ty t)) (tCons (tC (.ty u)) tNil))) tNil)) σ H Q := fun σ H Q ⟨e, F, H0, R, W, S, q, P⟩ =>
  ⟨e, F, H0, _, W, S, q, fun d v H1 F1 ⟨hd, r⟩ x1 rv => ⟨len_le (by simp), fun p hp => by
    have x2 := Ext.loose x1.ok (.tup [.ty t, .ty u]) hp
    obtain ⟨ty, nd⟩ := ty_rp x2.ok.sub (rv.dp hd)
    refine ⟨v, p, _, _, [.type t, .type u], _, rfl, upd_same, .cons (.ty t) (.cons (.ty u) .nil), ty, kitAny_cons (r := isN (tyN d) t || isN (tyN d) u) (kit_d nd ht) (fun h => ?_) (fun h => by rw [h]; rfl), P _ _ _ _ r (x1.trans x2) .bl⟩
    rw [h, Bool.false_or]
    exact kitAny_cons (kit_d nd hu) (fun h => by rw [h]; exact kitAny_nil) (fun h => h)⟩⟩
end
/-! ### draws -/
theorem taken_ok {m : Int} {R : D → Prop} (h : 0 < m) (h2 : m < 1073741824) (k : ∀ v : Int, 0 ≤ v → v < m → R (.int v)) : f_law_taken [.dict [], .int m] R := ⟨m, rfl, h, h2, k⟩
@[simp] theorem taken_iff {m : Int} {R : D → Prop} : f_law_taken [.dict [], .int m] R ↔ 0 < m ∧ m < 1073741824 ∧ ∀ v : Int, 0 ≤ v → v < m → R (.int v) := by
  constructor
  · rintro ⟨m', e, h⟩
    simp at e
    subst e
    exact h
  · rintro ⟨h1, h2, h3⟩; exact ⟨m, rfl, h1, h2, h3⟩
theorem atI_in {α : Type} {l : List α} {v : Int} (h0 : 0 ≤ v) (h1 : v < l.length) : ∃ d, atI l v = some d ∧ d ∈ l := by
  obtain ⟨n, rfl⟩ : ∃ n : Nat, v = n := ⟨v.toNat, by omega⟩
  have hn : n < l.length := by omega
  exact ⟨l[n], atI_nat (List.getElem?_eq_getElem hn), List.getElem_mem hn⟩
end FW
/-! FWE: the law itself: its first statement makes the row. -/
namespace FW
open PySem PySem.Spec PyProof.Rows L2
section
variable {X : Cx} {g : Glb} {E : XK}
/-- the rest of the law, whatever the row's address is -/
def sAny (g : Glb) (E : XK) (w : WS) : TS := fun D σ H => ∃ (r a : Addr) (ns : List Int), sD ⟨g, r, a, ns⟩ E w D σ H
theorem pss_any {st : List Stmt} {w : WS} (h : ∀ r a ns, PSs X st (sD ⟨g, r, a, ns⟩ E w)) : PSs X st (sAny g E w) := ⟨fun pins s σ H D I ⟨r, a, ns, q⟩ => (h r a ns).run pins s σ H D I q⟩
end
def spLaw (g : Glb) : Sp := fun vs H Q _ => ∃ (a : Addr) (ns : List Int), vs = [.ref a] ∧ (∀ P ∈ g.Ps, H P = some (.tbl #[])) ∧ SqL g.K H a (ns.map V.int) ∧ ∀ H', Q (.bl true) H'
/-- where the row has been made: the rest may run -/
theorem law_start {g : Glb} {E : XK} {H : Hp} {a : Addr} {ns : List Int} {w : WS} {Q : VK} {n : Nat} (hP : ∀ P ∈ g.Ps, H P = some (.tbl #[])) (hs : SqL g.K H a (ns.map V.int)) (k : ∀ H', Q (.bl true) H')
    (hw : w { nx := fun _ => False, rt := fun d => d = .bool true } (.un :: .val (.dict []) :: List.replicate n .un)) : ∀ p, H p = none →
      sAny g E w { nx := fun _ H' => Q .non H', rt := Q } (some (.ref a) :: some (.ref p) :: List.replicate n none) (upd H p (.lst [.ref a, .int 0, .int 0, .int 0])) := fun p hp => by
  refine ⟨p, a, ns, .un :: .val (.dict []) :: List.replicate n .un, fun _ => none, upd H p (.lst [.ref a, .int 0, .int 0, .int 0]), fun _ => none, _, Ext.refl ?_, ?_, hw, ?_⟩
  · refine ⟨fun b o e => (by cases e), ⟨0, 0, 0, upd_same, Int.le_refl _, Int.le_refl _, by decide, ?_⟩, rfl, fun P h => ⟨⟨#[], ?_, trivial⟩, rfl⟩⟩
    · rcases hs with (h | ⟨o, h⟩) | h
      · exact .inl (.inl (by rw [upd_ne (ne_of_none h hp)]; exact h))
      · exact .inl (.inr ⟨o, by rw [upd_ne (ne_of_none h hp)]; exact h⟩)
      · exact .inr h
    · rw [upd_ne (ne_of_none (hP P h) hp)]; exact hP P h
  · have noE : ∀ (i : Nat) (b : Addr), (Sl.un :: Sl.val (.dict []) :: List.replicate n Sl.un)[i]? ≠ some (.exc b) := fun i b h => by
      match i with
      | 0 => cases h
      | 1 => cases h
      | i + 2 =>
        simp only [List.getElem?_cons_succ, List.getElem?_replicate] at h
        split at h <;> cases h
    have noF : ∀ (i : Nat) (k : Bool) (Fb : Hp) (d : D), (Sl.un :: Sl.val (.dict []) :: List.replicate n Sl.un)[i]? ≠ some (.fix k Fb d) := fun i k Fb d h => by
      match i with
      | 0 => cases h
      | 1 => cases h
      | i + 2 =>
        simp only [List.getElem?_cons_succ, List.getElem?_replicate] at h
        split at h <;> cases h
    have noO : ∀ (i : Nat) (o : Option Hp) (es : List D), (Sl.un :: Sl.val (.dict []) :: List.replicate n Sl.un)[i]? ≠ some (.ownO o es) := fun i o es h => by
      match i with
      | 0 => cases h
      | 1 => cases h
      | i + 2 =>
        simp only [List.getElem?_cons_succ, List.getElem?_replicate] at h
        split at h <;> cases h
    refine ⟨by simp, fun i d h => ?_, fun i o es h => absurd h (noO i o es), fun i j o _ es fs b _ h => absurd h (noO i o es), fun i b h => absurd h (noE i b), fun i k Fb d h => absurd h (noF i k Fb d)⟩
    match i with
    | 0 => cases h
    | 1 =>
      simp at h
      subst h
      exact ⟨_, rfl, .inr ⟨rfl, rfl⟩⟩
    | i + 2 =>
      simp only [List.getElem?_cons_succ, List.getElem?_replicate] at h
      split at h <;> cases h
  · refine ⟨fun _ _ _ _ z => z.elim, fun d v H' F' q _ rv => ?_, fun _ _ _ _ _ z => z.elim, fun _ _ _ _ z => z.elim, fun _ _ _ _ z => z.elim, fun _ _ _ z => z.elim, fun _ z => z.elim, fun _ _ _ _ z => z.elim, fun z => nomatch z⟩
    have q : d = .bool true := q
    subst q
    rw [rv.bl_inv]
    exact k H'
end FW
/-! FWX: defs that may raise: their promises, calls of them, raise. -/
namespace FW
open PySem PySem.Spec PyProof.Rows L2
abbrev Fx := List D → (D → Prop) → (Exc → Prop) → Prop
abbrev Fnx := List D → (List D → Prop) → (Exc → Prop) → Prop
section
variable (c : Amb) (H F : Hp)
def PostX (RX : Exc → Prop) (E : XK) : Prop := ∀ x H' F', RX x → Ext c H F H' F' → ExcAt c E H' x
def PostN (R : List D → Prop) (Q : VK) : Prop := ∀ ds p vs H' F', R ds → Ext c H F H' F' → H p = none → H' p = some (.lst vs) → F' p = none → p ≠ c.r → RpAll c.K F' vs ds → Q (.ref p) H'
end
def spX (g : Glb) (f : Fx) : Sp := fun vs H Q E => ∃ (c : Amb) (F : Hp) (ds : List D) (R : D → Prop) (RX : Exc → Prop), c.g = g ∧ Wok c H F ∧ RepVs c F vs ds ∧ f ds R RX ∧ Post c H F R Q ∧ PostX c H F RX E
def spNX (g : Glb) (f : Fnx) : Sp := fun vs H Q E => ∃ (c : Amb) (F : Hp) (ds : List D) (R : List D → Prop) (RX : Exc → Prop), c.g = g ∧ Wok c H F ∧ RepVs c F vs ds ∧ f ds R RX ∧ PostN c H F R Q ∧ PostX c H F RX E
/-- a def that may raise, called by its name -/
structure CalX (P : Program) (w : World) (K : PySem.W.Frag) (mg : Str → Option Value) (base : Heap) (k : Nat) (x : Str) (sp : Sp) : Prop where
  ex : ∃ (f : Addr) (fd : FuncData) (ps : List Str), FnOk P w K mg base (L2.CX P w) k f fd ps sp ∧ mg x = some (.ref f) ∧ PySem.W.keepIn K (.ref f) = true ∧ Binds K fd ps []
/-- an expression that may raise: De.ex is handed down -/
abbrev WXp := (Exc → Prop) → W
abbrev WAXp := (Exc → Prop) → WA
section
variable (c : Amb) (E : L2.St → XK)
def tDX (w : WXp) : TE := fun σ H Q => ∃ e F H0 R RX, Wok c H F ∧ RepS c H0 σ H F e ∧ w RX e R ∧ Post c H F R Q ∧ PostX c H F RX (E σ)
def tNX (w : WAXp) : TE := fun σ H Q => ∃ e F H0 R RX, Wok c H F ∧ RepS c H0 σ H F e ∧ w RX e R ∧ PostN c H F R Q ∧ PostX c H F RX (E σ)
end
section
variable {c : Amb} {E : L2.St → XK} {H F H0 F0 H1 F1 : Hp} {σ : L2.St} {X : Cx}
theorem PostX.ext {RX : Exc → Prop} {E : XK} (P : PostX c H F RX E) (x : Ext c H F H1 F1) : PostX c H1 F1 RX E := fun y H' F' r x' => P y H' F' r (x.trans x')
theorem PostN.ext {R : List D → Prop} {Q : VK} (P : PostN c H F R Q) (x : Ext c H F H1 F1) : PostN c H1 F1 R Q := fun ds p vs H' F' r x' h0 h1 h2 h3 k => P ds p vs H' F' r (x.trans x') (x.free h0) h1 h2 h3 k
theorem xdx_of {w : W} : ∀ σ H Q, tDX c E (fun _ => w) σ H Q → tD c w σ H Q := fun σ H Q ⟨e, F, H0, R, _, W, S, q, P, _⟩ => ⟨e, F, H0, R, W, S, q, P⟩
theorem xnx_of {w : WA} : ∀ σ H Q, tNX c E (fun _ => w) σ H Q → tN c w σ H Q := fun σ H Q ⟨e, F, H0, R, _, W, S, q, P, _⟩ => ⟨e, F, H0, R, W, S, q, P⟩
/-- a call whose exceptions go the def's own way -/
@[simp] def dCallX (f : Fx) (w : WA) : WXp := fun RX e R => w e fun ds => f ds R RX
@[simp] def nCallX (f : Fnx) (w : WA) : WAXp := fun RX e R => w e fun ds => f ds R RX
theorem xdx_call {f : Fx} {w : WA} : ∀ σ H Q, tDX c E (dCallX f w) σ H Q → tCallS (spX c.g f) E (tA c w) σ H Q := fun σ H Q ⟨e, F, H0, R, RX, W, S, q, P, PX⟩ =>
  ⟨e, F, H0, _, W, S, q, fun ds vs H1 F1 q1 x1 r1 => ⟨c, F1, ds, R, RX, rfl, x1.ok, r1, q1, P.ext x1, PX.ext x1⟩⟩
theorem xnx_call {f : Fnx} {w : WA} : ∀ σ H Q, tNX c E (nCallX f w) σ H Q → tCallS (spNX c.g f) E (tA c w) σ H Q := fun σ H Q ⟨e, F, H0, R, RX, W, S, q, P, PX⟩ =>
  ⟨e, F, H0, _, W, S, q, fun ds vs H1 F1 q1 x1 r1 => ⟨c, F1, ds, R, RX, rfl, x1.ok, r1, q1, P.ext x1, PX.ext x1⟩⟩
/-- a call that does not raise here -/
@[simp] def calm (f : Fx) : Fd := fun ds R => f ds R fun _ => False
@[simp] def calmN (f : Fnx) : Fn := fun ds R => f ds R fun _ => False
theorem xd_callC {f : Fx} {w : WA} : ∀ σ H Q, tD c (dCall (calm f) w) σ H Q → tCall (spX c.g f) [] E0 (tA c w) σ H Q := fun σ H Q ⟨e, F, H0, R, W, S, q, P⟩ =>
  ⟨e, F, H0, _, W, S, q, fun ds vs H1 F1 q1 x1 r1 => ⟨c, F1, ds, R, _, rfl, x1.ok, by rw [List.append_nil]; exact r1, q1, P.ext x1, fun _ _ _ z => z.elim⟩⟩
theorem xn_callC {f : Fnx} {w : WA} : ∀ σ H Q, tN c (nCall (calmN f) w) σ H Q → tCall (spNX c.g f) [] E0 (tA c w) σ H Q := fun σ H Q ⟨e, F, H0, R, W, S, q, P⟩ =>
  ⟨e, F, H0, _, W, S, q, fun ds vs H1 F1 q1 x1 r1 => ⟨c, F1, ds, R, _, rfl, x1.ok, by rw [List.append_nil]; exact r1, q1, PostN.ext (c := c) (F := F) P x1, fun _ _ _ z => z.elim⟩⟩
/-- a choice between such -/
@[simp] def dIfX (t : WT) (a b : WXp) : WXp := fun RX e R => t e fun x => if x = true then a RX e R else b RX e R
theorem xdx_if {t : WT} {a b : WXp} : ∀ σ H Q, tDX c E (dIfX t a b) σ H Q → tIf (tT c t) (tDX c E a) (tDX c E b) σ H Q := fun σ H Q ⟨e, F, H0, R, RX, W, S, q, P, PX⟩ =>
  ⟨e, F, H0, _, W, S, q, fun x H1 F1 q1 x1 => by
    cases x with
    | true => exact ⟨e, F1, H0, R, RX, x1.ok, S.ext W x1, by simpa using q1, P.ext x1, PX.ext x1⟩
    | false => exact ⟨e, F1, H0, R, RX, x1.ok, S.ext W x1, by simpa using q1, P.ext x1, PX.ext x1⟩⟩
/-- a new list is a list -/
@[simp] def dNX (w : WAXp) : WXp := fun RX e R => w RX e fun ds => R (.list ds)
theorem xdx_N {w : WAXp} : ∀ σ H Q, tDX c E (dNX w) σ H Q → tNX c E w σ H Q := fun σ H Q ⟨e, F, H0, R, RX, W, S, q, P, PX⟩ =>
  ⟨e, F, H0, _, RX, W, S, q, fun ds p vs H' F' r x h0 h1 h2 h3 k => Post.frozen P x h0 h1 h3 h2 k r, PX⟩
end
/-! ### calls -/
section
variable {X : Cx} {W : WX} {k j : Nat} {x : Str} {sp : Sp} {p pos : Pos} {e : Expr} {es : List Expr} {t : TA}
theorem pe_cx (c : CalX X.prog X.w X.K X.mg X.base k x sp) (hr : Room j X.A) (hk : k ≤ j) (hg : Gl X x) (tk : Takes X W) (ha : PA X (e :: es) t)
    (hdb : (x == ("__debug__" : Str)) = false := by decide) (he : starEach (e :: es) X.env = (false, eval e X.env) :: starEach es X.env := by rfl) (hpl : (backTo pos (starEach es X.env)).any (·.1) = false := by rfl) :
    PE X (.Call (.Name x p) (e :: es) [] pos) (tCallS sp (WE W) t) := by
  obtain ⟨f, fd, ps, F, hm, kp, b⟩ := c.ex
  exact pe_callS F (hr.mono hk) hg hm kp b (fun σ => passAt tk σ) ha hdb he hpl
theorem pe_c0 (c : CalX X.prog X.w X.K X.mg X.base k x sp) (hr : Room j X.A) (hk : k ≤ j) (hg : Gl X x) (ha : PA X (e :: es) t)
    (hdb : (x == ("__debug__" : Str)) = false := by decide) (he : starEach (e :: es) X.env = (false, eval e X.env) :: starEach es X.env := by rfl) (hpl : (backTo pos (starEach es X.env)).any (·.1) = false := by rfl) :
    PE X (.Call (.Name x p) (e :: es) [] pos) (tCall sp [] E0 t) := by
  obtain ⟨f, fd, ps, F, hm, kp, b⟩ := c.ex
  exact pe_call F (hr.mono hk) hg hm kp b .nil passL ha hdb he hpl
end
/-! ### statements -/
/-- the def's own wish of an exception -/
abbrev wishE (E : XK) : WX := fun cls d _ H => E cls d H
section
variable {c : Amb} {E : XK} {H F H0 F0 : Hp} {σ : L2.St} {X : Cx} {De : EndsD} {Dn : Ends}
theorem EndsOk.exc (K : EndsOk c E H0 F0 De Dn) (x : Ext c H0 F0 H F) : PostX c H F De.ex E := fun y H' F' r x' => K.ex y H' F' r (x.trans x')
@[simp] def dDropX (w : WXp) : WS := fun De e => w De.ex e fun _ => De.nx e
theorem xs_dropX {w : WXp} : ∀ Dn σ H, sD c E (dDropX w) Dn σ H → tDrop (tDX c (WE (wishE E)) w) Dn σ H := fun Dn σ H ⟨e, F, H0, F0, De, x, S, q, K⟩ =>
  ⟨e, F, H0, _, De.ex, x.ok, S, q, fun d v H' F' r x' rv => K.nx _ _ _ _ r (x.trans x') (S.ext x.ok x'), K.exc x⟩
@[simp] def dRetX (w : WXp) : WS := fun De e => w De.ex e De.rt
theorem xs_retX {w : WXp} : ∀ Dn σ H, sD c E (dRetX w) Dn σ H → tRet (tDX c (WE (wishE E)) w) Dn σ H := fun Dn σ H ⟨e, F, H0, F0, De, x, S, q, K⟩ =>
  ⟨e, F, H0, _, De.ex, x.ok, S, q, fun d v H' F' r x' rv => K.rt d v H' F' r (x.trans x') rv, K.exc x⟩
@[simp] def dRetLX (w : WAXp) : WS := fun De e => w De.ex e De.rn
theorem xs_retLX {w : WAXp} : ∀ Dn σ H, sD c E (dRetLX w) Dn σ H → tRet (tNX c (WE (wishE E)) w) Dn σ H := fun Dn σ H ⟨e, F, H0, F0, De, x, S, q, K⟩ =>
  ⟨e, F, H0, _, De.ex, x.ok, S, q, fun ds p vs H' F' r x' hp hp' hF hr k => K.rn ds p vs H' F' r (x.trans x') (x.free hp) hp' hF hr k, K.exc x⟩
@[simp] def dAsgX (i : Nat) (w : WXp) : WS := fun De e => w De.ex e fun d => De.nx (e.set i (.val d))
theorem xs_asgX {i : Nat} {w : WXp} : ∀ Dn σ H, sD c E (dAsgX i w) Dn σ H → tAsg (tDX c (WE (wishE E)) w) (gName i) Dn σ H := fun Dn σ H ⟨e, F, H0, F0, De, x, S, q, K⟩ =>
  ⟨e, F, H0, _, De.ex, x.ok, S, q, fun d v H' F' r x' rv => K.nx _ _ _ _ r (x.trans x') ((S.ext x.ok x').set_val i rv), K.exc x⟩
@[simp] def dOwnX (i : Nat) (w : WAXp) : WS := fun De e => w De.ex e fun ds => De.nx (e.set i (.own ds))
theorem xs_ownX {i : Nat} {w : WAXp} : ∀ Dn σ H, sD c E (dOwnX i w) Dn σ H → tAsg (tNX c (WE (wishE E)) w) (gName i) Dn σ H := fun Dn σ H ⟨e, F, H0, F0, De, x, S, q, K⟩ =>
  ⟨e, F, H0, _, De.ex, x.ok, S, q, fun ds p vs H' F' r x' hp hp' hF hr k => K.nx _ _ _ _ r (x.trans x') ((S.ext x.ok x').set_own i hp' hF (x.free hp) hr k fun j o es _ hj z => by
    obtain ⟨a, ws, h1, h2, _⟩ := S.ownO j o es hj
    rw [h1] at z
    cases z
    rw [hp] at h2; cases h2), K.exc x⟩
/-- raise C('..') -/
@[simp] def dRaise (n : Str) : WS := fun De _ => De.ex (n, none)
theorem xs_raise {n : Str} : ∀ Dn σ H, sD c E (dRaise n) Dn σ H → E (.ref (c.g.cls n)) none H := fun Dn σ H ⟨e, F, H0, F0, De, x, S, q, K⟩ => K.ex (n, none) H F q x
end
/-- a class of one's own over ValueError -/
structure ClsX (K : PySem.W.Frag) (mg : Str → Option Value) (cls : Str → Addr) (n : Str) : Prop where
  gP : mg n = some (.ref (cls n))
  xP : PySem.W.excIn K (cls n) He.veBase "ValueError.__new__" = true
  kP : PySem.W.keepIn K (.ref (cls n)) = true
  bP : PySem.W.subIn K (.ref (cls n)) (.type "BaseException") = some true
  tP : PySem.W.typeIn K (.ref (cls n)) = some (.type "type")
theorem ps_raiseD {X : Cx} {c : Amb} {E : XK} {n m : Str} {j : Nat} {p p2 pos pos2 : Pos} (hc : X.calm = true) (tk : Takes X (wishE E)) (T : ClsX X.K X.mg c.g.cls n) (hg : Gl X n) (hdb : (n == ("__debug__" : Str)) = false := by decide) :
    PS X (.Raise (some (.Call (.Name n p) [.Constant (.str m) j p2] [] pos)) none pos2) (sD c E (dRaise n)) :=
  ps_w (ps_raise hc tk (pmk_own PySem.F.excBase_ValueError T.xP T.gP T.kP (raises_own T.bP T.tP) hg hdb)) xs_raise
/-! ### defs -/
section
variable {P : Program} {w : World} {g : Glb} {mg : Str → Option Value} {base : Heap} {x : Str} {st : Stmt} {f : Addr} {fd : FuncData} {N ps : List Str} {k : Nat} {wb : WS}
theorem calX {f0 : Fx} (Fn : FunP g.K x st f fd) (mgf : mg x = some (.ref f)) (b : Binds g.K fd ps []) (S : FnScope N ps (defScope st)) (hlen : ∀ ds R RX, f0 ds R RX → ds.length = ps.length)
    (hb : ∀ (cdv : Value) (A : Around) (outer : List PySem.Env) (s : Shared) (H : Hp) (E : XK) (r a : Addr) (ns : List Int), Room k (A.deeper (envOfC x (defScope st) s.heap.objs.size f cdv)) →
      Takes (cxOf (L2.CX P w) P w g.K mg base N x (defScope st) f cdv A outer s H E) (wishE E) → PSs (cxOf (L2.CX P w) P w g.K mg base N x (defScope st) f cdv A outer s H E) (defBody st) (sD ⟨g, r, a, ns⟩ E wb))
    (hp : ∀ ds R RX, f0 ds R RX → wb { nx := fun _ => R .none, rt := R, ex := RX } (startD N ds)) : CalX P w g.K mg base (k + 1) x (spX g f0) := by
  obtain ⟨oc, od, dV, kV, doc, pm, an, cdv, ct, osl, rfl, lk, hcd, _, _⟩ := Fn.ex
  refine ⟨_, _, ps, fn_of lk hcd S (fun vs H Q E h => ?_) (fun A outer s H vs Q E hr h => ?_), mgf, Fn.kp, b⟩
  · obtain ⟨c, F, ds, R, RX, _, _, rv, h, _⟩ := h
    rw [rv.length]; exact hlen ds R RX h
  · obtain ⟨⟨g', r, a, ns⟩, F, ds, R, RX, hg, W, rv, h, P', PX⟩ := h
    have hg' : g' = g := hg
    subst hg'
    refine ⟨_, hb cdv A outer s H E r a ns hr (takes_of rfl rfl rfl rfl), startD N ds, F, H, F, _, Ext.refl W, rep_start rv, hp ds R RX h, ?_⟩
    exact ⟨fun e σ H' F' q x S' => P' _ _ H' F' q x .non, fun d v H' F' q x rv => P' d v H' F' q x rv, fun _ _ _ _ _ z => z.elim, fun _ _ _ _ z => z.elim, fun _ _ _ _ z => z.elim, fun y H' F' q x' => PX y H' F' q x', fun _ z => z.elim, fun _ _ _ _ z => z.elim, fun z => nomatch z⟩
theorem calNX {f0 : Fnx} (Fn : FunP g.K x st f fd) (mgf : mg x = some (.ref f)) (b : Binds g.K fd ps []) (S : FnScope N ps (defScope st)) (hlen : ∀ ds R RX, f0 ds R RX → ds.length = ps.length)
    (hb : ∀ (cdv : Value) (A : Around) (outer : List PySem.Env) (s : Shared) (H : Hp) (E : XK) (r a : Addr) (ns : List Int), Room k (A.deeper (envOfC x (defScope st) s.heap.objs.size f cdv)) →
      Takes (cxOf (L2.CX P w) P w g.K mg base N x (defScope st) f cdv A outer s H E) (wishE E) → PSs (cxOf (L2.CX P w) P w g.K mg base N x (defScope st) f cdv A outer s H E) (defBody st) (sD ⟨g, r, a, ns⟩ E wb))
    (hp : ∀ ds R RX, f0 ds R RX → wb { nx := fun _ => False, rt := fun _ => False, rn := R, ex := RX } (startD N ds)) : CalX P w g.K mg base (k + 1) x (spNX g f0) := by
  obtain ⟨oc, od, dV, kV, doc, pm, an, cdv, ct, osl, rfl, lk, hcd, _, _⟩ := Fn.ex
  refine ⟨_, _, ps, fn_of lk hcd S (fun vs H Q E h => ?_) (fun A outer s H vs Q E hr h => ?_), mgf, Fn.kp, b⟩
  · obtain ⟨c, F, ds, R, RX, _, _, rv, h, _⟩ := h
    rw [rv.length]; exact hlen ds R RX h
  · obtain ⟨⟨g', r, a, ns⟩, F, ds, R, RX, hg, W, rv, h, P', PX⟩ := h
    have hg' : g' = g := hg
    subst hg'
    refine ⟨_, hb cdv A outer s H E r a ns hr (takes_of rfl rfl rfl rfl), startD N ds, F, H, F, _, Ext.refl W, rep_start rv, hp ds R RX h, ?_⟩
    exact ⟨fun _ _ _ _ z => z.elim, fun _ _ _ _ z => z.elim, fun ds p vs H' F' q x h0 h1 h2 h3 kk => P' ds p vs H' F' q x h0 h1 h2 h3 kk, fun _ _ _ _ z => z.elim, fun _ _ _ _ z => z.elim, fun y H' F' q x' => PX y H' F' q x', fun _ z => z.elim, fun _ _ _ _ z => z.elim, fun z => nomatch z⟩
end
end FW
/-! FWN: enumerate over a tuple. -/
namespace FWN
open PySem
open PySem.Sem (wp)
open AutoSeq1 (wpAny_loadPart')
theorem meets_enum1 {v : Value} {o : Obj} {H : Heap → Prop} (B : Begins v o H) :
    Meets (Builtin.«enumerate.__new__» ⟨[.type "enumerate", v], []⟩) (fun _ R s => H s.heap ∧
      R (.ok (.ret (.ref (s.heap.push o).objs.size))) { s with heap := (s.heap.push o).push { cls := .type "enumerate", data := .fields #[.none, .bool false, .ref s.heap.objs.size, rawInt 0, .none, .none] } }) :=
  .of_wp fun prog w A R s h => by
    obtain ⟨hp, g, d, tk, os⟩ := s; obtain ⟨h1, h⟩ := h
    have hsub := sub_enumerate
    have q1 : ∀ {A' : Around} {E : Value → Shared → Prop} {Q : Value → Shared → Prop}, Q (.ref hp.objs.size) ⟨hp.push o, g, d, tk, os⟩ → wpAny (model prog w) A' (pyIter v) Q E ⟨hp, g, d, tk, os⟩ :=
      fun q => B.iter prog w _ _ ⟨hp, g, d, tk, os⟩ _ h1 q
    wp_walk using q1
    refine wpAny_stack_any fun st => wpAny_pure ?_
    split
    · rename_i c _ _ _ _ _
      cases (c == Value.type "enumerate")
      · wp_walk using q1
        exact ⟨_, rfl, h⟩
      · wp_walk using q1
        exact ⟨_, rfl, h⟩
    · wp_walk using q1
      exact ⟨_, rfl, h⟩
section
variable {prog : Program} {w : World} {A : Around} {E : Value → Shared → Prop} {s : Shared}
theorem enum_begins1 {v : Value} {o : Obj} {H : Heap → Prop} {Q : Value → Shared → Prop} (B : Begins v o H) (h1 : H s.heap)
    (h : ∀ h', IsEnum h' (s.heap.objs.size + 1) s.heap.objs.size 0 .none → h'.get? s.heap.objs.size = some o → h'.objs.size = s.heap.objs.size + 2 →
      (∀ b o, s.heap.get? b = some o → h'.get? b = some o) → Q (.ref (s.heap.objs.size + 1)) { s with heap := h' }) :
    wpAny (model prog w) A (call (.type "enumerate") [v]) Q E s := by
  refine callType_new F.called_enumerate (by decide) (F.typeCall_enumerate_1 _) (F.newCall_enumerate_1 _) (fun obj => F.args_object_init_2 obj _) F.entry_enumerate_new
    (meets_enum1 B) ⟨h1, ?_⟩
  have hz : (s.heap.push o).objs.size = s.heap.objs.size + 1 := Heap.size_push ..
  show _ ∧ _
  rw [hz]
  have he : IsEnum ((s.heap.push o).push { cls := .type "enumerate", data := .fields #[.none, .bool false, .ref s.heap.objs.size, rawInt 0, .none, .none] }) (s.heap.objs.size + 1) s.heap.objs.size 0 .none := by
    have := Heap.get?_push_size (s.heap.push o) (o := { cls := .type "enumerate", data := .fields #[.none, .bool false, .ref s.heap.objs.size, rawInt 0, .none, .none] }) rfl
    rw [hz] at this; exact this
  refine ⟨⟨_, he, rfl⟩, h _ he (Heap.get?_push_of_some _ (Heap.get?_push_size _ B.free)) (by rw [Heap.size_push, hz]) fun b o x => Heap.get?_push_of_some _ (Heap.get?_push_of_some _ x)⟩
end
section
variable {prog : Program} {w : World} {A : Around} {E : Value → Shared → Prop} {s : Shared}
theorem enum_endT {e it l : Addr} {i : Nat} {items : Array Value} {old : Value} {Q : Option Value → Shared → Prop} (hh : A.handled = none)
    (he : IsEnum s.heap e it i old) (hit : s.heap.IsTupleIter it l i) (hl : s.heap.IsTuple l items) (hx : items[i]? = none)
    (hQ : ∀ h', Heap.ExtBut it s.heap h' → Q none { s with heap := h' }) : wpAny (model prog w) A (pyNext (.ref e)) Q E s := by
  have hT : s.TypeIs (.ref e) "enumerate" := ⟨_, he, rfl⟩
  unfold pyNext
  refine wpAny_bind (wpAny_attempt (wpAny_callSpecial?_slot (name := Str.ofString "__next__") hT F.slot_enumerate_next
    (wpAny_call_entry F.slot_enumerate_next hT F.entry_enumerate_next ?_ (F.args_enumerate_next_1 _))))
  show wpAny _ _ (field (.ref e) 2 >>= _) _ _ _
  refine wpAny_bind (wpAny_field he rfl (x := .ref it) rfl ?_)
  refine wpAny_bind (wpAny_nextOf_tuple_end hh hit hl hx fun h' x he' hx' => ?_)
  obtain ⟨o, ho, hc⟩ := hx'
  refine wpAny_bind (wpAny_isInstance (T := "StopIteration") (b := true) ⟨o, ho, hc⟩ isSubtype_stop ?_)
  exact wpAny_pure (hQ _ he')
end
open PySem.Spec PyProof.Rows L2
/-- the tuple at a, each item in a new pair with its number -/
def IteT (K : PySem.W.Frag) (a : Addr) : It :=
  ⟨fun i H => ∃ (xs : List V) (x : V), SqT K H a xs ∧ xs[i]? = some x, fun i H v H' => ∃ T x, v = .ref T ∧ H T = none ∧ H' = upd H T (.tup [.int (i : Nat), x]) ∧ ∀ xs, SqT K H a xs → xs[i]? = some x, fun i H => ∃ xs : List V, SqT K H a xs ∧ xs.length ≤ i⟩
theorem turn_enumT {P : Program} {w : World} {K : PySem.W.Frag} {elts : List Expr} {kk : Nat} {tpos : Pos} (a e it : Addr) :
    Turn P w K (.Tuple elts kk tpos) (IteT K a) [e, it] e (fun i h => (∃ old, IsEnum h e it ((i : Nat) : Int) old) ∧ h.IsTupleIter it a i ∧ e ≠ it ∧ e ≠ a ∧ a ≠ it) where
  mem := by simp
  obj := fun i h st b hb => by
    obtain ⟨⟨old, he⟩, ⟨o, ho, hc, hd⟩, _⟩ := st
    have e' : b = e ∨ b = it := by simpa using hb
    rcases e' with z | z
    · rw [z]; exact ⟨_, he, fun v q => nomatch q⟩
    · rw [z]; exact ⟨o, ho, fun v q => by rw [hd] at q; cases q⟩
  keep := fun i h h' st k => let ⟨⟨old, he⟩, hi, hne⟩ := st; ⟨⟨old, k e (by simp) _ he⟩, hi.at fun o q => k it (by simp) o q, hne⟩
  item := by
    intro X hP hw hK hc i pins s σ H E I hf st hg
    subst hP hw hK
    obtain ⟨⟨old, he⟩, hit, hne, hea, hai⟩ := st
    obtain ⟨xs, x, hq, hx⟩ := hg
    obtain ⟨its, rv, p, hz⟩ := I.tuple hq
    obtain ⟨u, hu, ru⟩ := rv.get hx
    have hel : e < s.heap.objs.size := Heap.lt_size he
    have hil : it < s.heap.objs.size := by obtain ⟨_, q, _⟩ := hit; exact Heap.lt_size q
    have hu' : its.toArray[i]? = some u := by simpa using hu
    have hlt : i < its.toArray.size := (Array.getElem?_eq_some_iff.mp hu').1
    refine wpAny_pyNext_enum_itemC (Draws.tuple (A := X.A.in1) (I.ok.hd hc) it a hai its.toArray) he (c := (i : Int)) ⟨hit, p⟩ hlt hne (by simp; exact ⟨hne, hea⟩) fun y h' tk hy ho hit' hT hsz hk => ?_
    have ey : y = u := Option.some.inj (hy.symm.trans hu')
    subst ey
    refine ⟨_, rfl, wpAny_letOwnedTupleGo_enum (s := { s with heap := h', toks := tk + 1 }) ho fun h'' he' sb => ?_⟩
    have hT2 : h''.get? s.heap.objs.size = some { cls := .type "tuple", data := .seq #[.int i tk, y] } := (sb.2 _ (Nat.ne_of_gt hel)).trans hT
    have new : ObjOk X.prog X.w (upd H s.heap.objs.size (.tup [.int (i : Nat), x])) h'' s.heap.objs.size (.tup [.int (i : Nat), x]) :=
      ⟨by show 2 ≤ sizeLine; decide, [.int i tk, y], .cons ⟨_, rfl⟩ (.cons ru .nil), ⟨_, hT2, rfl, _, rfl⟩⟩
    have I1 : Inv X pins σ (upd H s.heap.objs.size (.tup [.int (i : Nat), x])) { s with heap := h'', toks := tk + 1 } :=
      I.turnedNew (ch := [e, it]) (fun b ob hb q => (sb.2 b (fun z => hb (by simp [z]))).trans (hk b ob (fun z => hb (by simp [z])) (fun z => hb (by simp [z])) q)) hf (Nat.le_refl _) new
    refine ⟨.ref s.heap.objs.size, _, I1, rfl, ⟨_, x, rfl, I.hok.fresh (Nat.le_refl _), rfl, fun ys hy => by rw [I.tuple_inj hy hq]; exact hx⟩, ⟨⟨y, ?_⟩, hit'.1.at fun o q => (sb.2 it (Ne.symm hne)).trans q, hne, hea, hai⟩, fun b hb => ?_⟩
    · have e1 : ((i + 1 : Nat) : Int) = (i : Int) + 1 := by omega
      rw [e1]; exact he'
    · have hb' : b < s.heap.objs.size := by
        have e' : b = e ∨ b = it := by simpa using hb
        rcases e' with z | z
        · rw [z]; exact hel
        · rw [z]; exact hil
      rw [upd_ne (Nat.ne_of_lt hb')]
      exact (hf b hb).1
  done := by
    intro X hP hw hK hc i pins s σ H E I hf st hg
    subst hP hw hK
    obtain ⟨⟨old, he⟩, hit, hne, hea, hai⟩ := st
    obtain ⟨xs, hq, hx⟩ := hg
    obtain ⟨its, rv, p, hz⟩ := I.tuple hq
    obtain ⟨f0, f1, f2, f3, f4, f5⟩ := hf it (by simp)
    have hl := rv.length
    exact enum_endT (I.ok.hd hc) he hit p (by simp; omega) fun h' eb => ⟨rfl, I.turned (t' := s.toks) (fun b o hb q => eb b o hb q) f0 f1 f3 f4 f5⟩
  self := fun A i s Q E st h => let ⟨⟨_, he⟩, _⟩ := st; wpAny_pyIter_enum he h
def iEnumT (K : PySem.W.Frag) (ta : TA) : TI := fun σ H R => ta σ H fun vs H1 => ∃ a xs, vs = [.ref a] ∧ SqT K H1 a xs ∧ R (IteT K a) H1
theorem pi_enumT {X : Cx} {e : Expr} {ta : TA} {p pos tpos : Pos} {elts : List Expr} {kk : Nat} (hg : Gl X "enumerate") (hm : X.mg "enumerate" = none) (ha : PA X [e] ta) (hs : starEach [e] X.env = [(false, eval e X.env)] := by rfl) :
    PI X (.Tuple elts kk tpos) (.Call (.Name "enumerate" p) [e] [] pos) (iEnumT X.K ta) := by
  refine ⟨fun pins s σ H R I h => ?_⟩
  refine Call_ (ld_blt I hg hm boot_enumerate (PyProof.Rows.callWith_type1 (thn (ha.run pos pins s σ H _ I h) fun us s1 ⟨vs, H1, I1, r1, q1⟩ => ?_) hs rfl))
  obtain ⟨a, xs, ex, hq, q⟩ := q1
  subst ex
  cases r1 with
  | cons r rr =>
    cases rr
    cases r
    obtain ⟨its, rv, p', hz⟩ := I1.tuple hq
    have hal : a < s1.heap.objs.size := by obtain ⟨_, q, _⟩ := p'; exact Heap.lt_size q
    refine enum_begins1 (begins_tuple a its.toArray) p' fun h' he hit hsz hk => wpAny_pyIter_enum he ?_
    have I2 : Inv X pins σ H1 { s1 with heap := h' } := I1.kept (t' := s1.toks) hk
    refine ⟨s1.heap.objs.size + 1, [s1.heap.objs.size + 1, s1.heap.objs.size], _, _, H1, rfl, I2, turn_enumT a (s1.heap.objs.size + 1) s1.heap.objs.size, ⟨⟨.none, he⟩, ⟨_, hit, rfl, rfl⟩, Nat.succ_ne_self _, Nat.ne_of_gt (Nat.lt_succ_of_lt hal), Nat.ne_of_lt hal⟩, fun b hb => ?_, q⟩
    have e' : b = s1.heap.objs.size + 1 ∨ b = s1.heap.objs.size := by simpa using hb
    have hle : s1.heap.objs.size ≤ b := by
      rcases e' with z | z
      · rw [z]; exact Nat.le_add_right _ _
      · rw [z]; exact Nat.le_refl _
    exact I1.fpOk hle (I1.hok.fresh hle)
end FWN
namespace FW
open PySem PySem.Spec PyProof.Rows L2
section
variable {c : Amb} {H F : Hp} {σ : L2.St}
/-- what enumerate gives -/
def enumD (xs : List D) : List D := xs.zipIdx.map fun p => .tuple [.int (p.2 : Nat), p.1]
theorem enumD_get {xs : List D} {i : Nat} {d : D} (h : (enumD xs)[i]? = some d) : ∃ x, xs[i]? = some x ∧ d = .tuple [.int (i : Nat), x] := by
  unfold enumD at h
  rw [List.getElem?_map, List.getElem?_zipIdx] at h
  cases q : xs[i]? with
  | none => rw [q] at h; cases h
  | some x =>
    rw [q] at h
    simp at h
    exact ⟨x, rfl, h.symm⟩
@[simp] theorem enumD_length {xs : List D} : (enumD xs).length = xs.length := by simp [enumD]
@[simp] def rdEnum : List D → (List D → Prop) → Prop := fun ds R => ∃ xs, ds = [.tuple xs] ∧ R (enumD xs)
@[simp] def iEnm (w : WA) : WA := fun e R => w e fun ds => rdEnum ds R
theorem yields_enum {a : Addr} {vs : List V} {xs : List D} (h : SqT c.K F a vs) (k : RpAll c.K F vs xs) : Yields c (FWN.IteT c.K a) F (enumD xs) where
  go := fun i H G hi W s => by
    rw [enumD_length, ← dpAll_length k] at hi
    exact ⟨vs, vs[i], same_t (s.trans W.sub) h, List.getElem?_eq_getElem hi⟩
  yld := fun i d H G x H' hd W s ⟨T, y, ex, hT, eH, z⟩ => by
    subst ex
    subst eH
    obtain ⟨u, hu, rfl⟩ := enumD_get hd
    obtain ⟨d', h1, h2⟩ := dpAll_get k (z vs (same_t (s.trans W.sub) h))
    rw [hu] at h1
    cases h1
    exact ⟨_, Ext.laid W _ hT, repTup upd_same (dpAll_same (upd_keep (W.newF hT)) _ _ (.cons (.int _) (.cons (dp_same s _ _ h2) .nil)))⟩
  stop := fun H G W s => ⟨vs, same_t (s.trans W.sub) h, by rw [enumD_length]; exact Nat.le_of_eq (dpAll_length k)⟩
theorem xi_enum {w : WA} : ∀ σ H R, tI c (iEnm w) σ H R → FWN.iEnumT c.K (tA c w) σ H R := fun σ H R ⟨e, F, H0, Rd, W, S, q, P⟩ =>
  ⟨e, F, H0, _, W, S, q, fun ds vs H' F' ⟨xs, hd, r⟩ x rv => by
    subst hd
    obtain ⟨v, rfl, r1⟩ := reps1 rv
    obtain ⟨a, us, rfl, h1, h2⟩ := r1.tup_inv
    exact ⟨a, us, rfl, same_t x.ok.sub h1, P _ _ H' F' r x (yields_enum h1 h2)⟩⟩
end
/-- a comprehension over items told by a list of one's own -/
theorem lcRun_map {α : Type} {g : D → (Sg → Prop) → Prop} {wt : WT} {we : W} {R : List D → Prop} {φ : α → D} (p : α → Bool) (f : α → D) : ∀ (l : List α) (acc : List D),
    (∀ a ∈ l, ∀ K : Option D → Prop, K (if p a = true then some (f a) else none) → g (φ a) fun e' => wt e' fun b => if b = true then we e' fun y => y ≠ .dict [] ∧ K (some y) else K none) → R (acc ++ (l.filter p).map f) → lcRun g wt we R (l.map φ) acc
  | [], acc, _, r => by simpa [lcRun] using r
  | a :: l, acc, ht, r => by
    rw [List.map_cons]
    unfold lcRun
    refine ht a List.mem_cons_self (fun o => match o with
      | some y => lcRun g wt we R (l.map φ) (acc ++ [y])
      | none => lcRun g wt we R (l.map φ) acc) ?_
    cases q : p a with
    | true =>
      refine lcRun_map p f l _ (fun b hb => ht b (List.mem_cons_of_mem _ hb)) ?_
      simpa [List.filter_cons, q] using r
    | false =>
      refine lcRun_map p f l _ (fun b hb => ht b (List.mem_cons_of_mem _ hb)) ?_
      simpa [List.filter_cons, q] using r
theorem enumD_map {α : Type} {φ : α → D} (l : List α) : enumD (l.map φ) = l.zipIdx.map fun p => .tuple [.int (p.2 : Nat), φ p.1] := by
  unfold enumD
  rw [List.zipIdx_map, List.map_map]
  rfl
end FW
/-! FWT: try: f(..) except C as n: suite, all that f lets out being caught. -/
namespace FW
open PySem PySem.Spec PyProof.Rows L2
theorem RepS.set_exc {c : Amb} {H0 H F : Hp} {σ : L2.St} {e : Sg} (S : RepS c H0 σ H F e) (i : Nat) (a : Addr) : RepS c H0 (σ.set i (some (.ref a))) H F (e.set i (.exc a)) where
  len := by simp [S.len]
  val := fun j d h => by
    by_cases hij : i = j
    · subst hij
      by_cases hl : i < e.length
      · rw [List.getElem?_set_self hl] at h; cases h
      · rw [List.getElem?_eq_none (by simpa using hl)] at h; cases h
    · rw [List.getElem?_set_ne hij] at h ⊢
      exact S.val j d h
  ownO := fun j o' ds h => by
    by_cases hij : i = j
    · subst hij
      by_cases hl : i < e.length
      · rw [List.getElem?_set_self hl] at h; cases h
      · rw [List.getElem?_eq_none (by simpa using hl)] at h; cases h
    · rw [List.getElem?_set_ne hij] at h ⊢
      exact S.ownO j o' ds h
  distO := fun j k o1 o2 ds es b hjk h1 h2 h3 h4 => by
    have f : ∀ (j : Nat) (o : Option Hp) (ds : List D), (e.set i (.exc a))[j]? = some (.ownO o ds) → i ≠ j := fun j o ds h z => by
      subst z
      by_cases hl : i < e.length
      · rw [List.getElem?_set_self hl] at h; cases h
      · rw [List.getElem?_eq_none (by simpa using hl)] at h; cases h
    have n1 := f j o1 ds h1
    have n2 := f k o2 es h2
    rw [List.getElem?_set_ne n1] at h1 h3
    rw [List.getElem?_set_ne n2] at h2 h4
    exact S.distO j k o1 o2 ds es b hjk h1 h2 h3 h4
  fix := fix_set S.fix fun _ _ _ z => nomatch z
  exc := fun j b h => by
    by_cases hij : i = j
    · subst hij
      by_cases hl : i < e.length
      · rw [List.getElem?_set_self hl] at h
        cases h
        rw [List.getElem?_set_self (by rw [S.len]; exact hl)]
      · rw [List.getElem?_eq_none (by simpa using hl)] at h; cases h
    · rw [List.getElem?_set_ne hij] at h ⊢
      exact S.exc j b h
/-- the ends of an except suite: its name goes -/
@[simp] def suiteEnds (i : Nat) (De : EndsD) : EndsD := { nx := fun e => De.nx (e.set i .un), rt := De.rt, rn := De.rn, bk := fun e => De.bk (e.set i .un), ct := fun e => De.ct (e.set i .un), ex := fun _ => False }
@[simp] def dTryAs (i : Nat) (names : List Str) (wb : WXp) (ws : Addr → Str → WS) : WS := fun De e =>
  wb (fun x => x.1 ∈ names ∧ x.2 = none ∧ ∀ a, ws a x.1 (suiteEnds i De) (e.set i (.exc a))) e fun _ => De.nx e
/-- the suite's reading: for each class -/
def tsD (c : Amb) (E : XK) (names : List Str) (ws : Addr → Str → WS) (a : Addr) (cls : Value) (d : Option Addr) : TS := fun Dn σ H => ∃ n, n ∈ names ∧ cls = .ref (c.g.cls n) ∧ d = none ∧ sD c E (ws a n) Dn σ H
section
variable {c : Amb} {E : XK} {X : Cx}
theorem pss_tsD {st : List Stmt} {names : List Str} {ws : Addr → Str → WS} {a : Addr} {cls : Value} {d : Option Addr} (h : ∀ n ∈ names, cls = .ref (c.g.cls n) → d = none → PSs X st (sD c E (ws a n))) : PSs X st (tsD c E names ws a cls d) :=
  ⟨fun pins s σ H D I ⟨n, hn, hc, hd, q⟩ => (h n hn hc hd).run pins s σ H D I q⟩
theorem xs_tryAs {i : Nat} {names : List Str} {wb : WXp} {ws : Addr → Str → WS} {cv : Value} {Wout : WX} (hm : ∀ n ∈ names, PySem.W.exmOne c.K (.ref (c.g.cls n)) cv = some true) : ∀ Dn σ H, sD c E (dTryAs i names wb ws) Dn σ H →
    tDrop (tDX c (WE (wAs c.K cv i (tsD c E names ws) Wout Dn)) wb) Dn σ H := fun Dn σ H ⟨e, F, H0, F0, De, x, S, q, K⟩ => by
  refine ⟨e, F, H0, _, _, x.ok, S, q, fun d v H' F' r x' rv => K.nx _ _ _ _ r (x.trans x') (S.ext x.ok x'), ?_⟩
  rintro ⟨n, k⟩ H' F' ⟨hn, hk, r⟩ x'
  have hk : k = none := hk
  subst hk
  refine ⟨true, hm n hn, fun _ a _ => ⟨n, hn, rfl, rfl, e.set i (.exc a), F', H0, F0, _, x.trans x', (S.ext x.ok x').set_exc i a, r a, ?_⟩, fun z => nomatch z⟩
  exact ⟨fun e2 σ2 H2 F2 q2 x2 S2 => K.nx _ _ _ _ q2 x2 (S2.set_un i none), fun d v H2 F2 q2 x2 rv => K.rt d v H2 F2 q2 x2 rv, fun ds p vs H2 F2 q2 x2 h0 h1 h2 h3 kk => K.rn ds p vs H2 F2 q2 x2 h0 h1 h2 h3 kk,
    fun e2 σ2 H2 F2 q2 x2 S2 => K.bk _ _ _ _ q2 x2 (S2.set_un i none), fun e2 σ2 H2 F2 q2 x2 S2 => K.ct _ _ _ _ q2 x2 (S2.set_un i none), fun _ _ _ z => z.elim, fun _ z => z.elim, fun _ _ _ _ z => z.elim, fun z => nomatch z⟩
/-- isinstance(e, C), e the exception that the suite holds -/
@[simp] def dIsE (a : Addr) (i : Nat) (b : Bool) : W := fun e R => e[i]? = some (.exc a) ∧ R (.bool b)
theorem xd_isE {a D : Addr} {i : Nat} {b : Bool} {cv : Value} {v : V} (hv : ∀ u, RelV v u → u = cv) (hk : PySem.W.kitOne c.K (.ref D) cv = some b) : ∀ σ H Q, tD c (dIsE a i b) σ H Q → tCB (rIsE c.K D a) (tCons (tVar i) (tCons (tC v) tNil)) σ H Q := fun σ H Q ⟨e, F, H0, R, W, S, ⟨h, q⟩, P⟩ =>
  ⟨.ref a, S.exc i a h, v, cv, b, rfl, hv, hk, P.here W q .bl⟩
theorem xd_isER {a D C : Addr} {i : Nat} {b : Bool} (hk : PySem.W.kitOne c.K (.ref D) (.ref C) = some b) : ∀ σ H Q, tD c (dIsE a i b) σ H Q → tCB (rIsE c.K D a) (tCons (tVar i) (tCons (tC (.ref C)) tNil)) σ H Q := xd_isE (v := .ref C) (cv := .ref C) (fun _ h => h) hk
theorem xd_isET {a D : Addr} {i : Nat} {b : Bool} {t : String} (hk : PySem.W.kitOne c.K (.ref D) (.type t) = some b) : ∀ σ H Q, tD c (dIsE a i b) σ H Q → tCB (rIsE c.K D a) (tCons (tVar i) (tCons (tC (.ty t)) tNil)) σ H Q := xd_isE (v := .ty t) (cv := .type t) (fun _ h => h) hk
end
end FW
/-! FWM: tuple * int. -/
namespace FW
open PySem PySem.Spec PyProof.Rows L2
theorem dpAll_repl {K : PySem.W.Frag} {F : Hp} {vs : List V} {ds : List D} (h : RpAll K F vs ds) : ∀ n : Nat, RpAll K F (List.replicate n vs).flatten (List.replicate n ds).flatten
  | 0 => .nil
  | n + 1 => by
    rw [List.replicate_succ, List.replicate_succ, List.flatten_cons, List.flatten_cons]
    exact dpAll_app h (dpAll_repl h n)
@[simp] def rdRepT : D → D → (D → Prop) → Prop := fun x y R => ∃ xs k, x = .tuple xs ∧ y = .int k ∧ xs ≠ [] ∧ 2 ≤ k ∧ k ≤ 1000 ∧ xs.length ≤ 1000 ∧ R (.tuple (List.replicate k.toNat xs).flatten)
theorem od_repT {c : Amb} : OpD c (rRepT c.K) rdRepT := by
  rintro H F x y d e R Q W rx ry ⟨xs, k, rfl, rfl, hne, h2, h3, h4, r⟩ P
  obtain ⟨a, vs, rfl, g1, g2⟩ := rx.tup_inv
  have l1 := dpAll_length g2
  refine ⟨a, k, vs, rfl, ry.int_inv, same_t W.sub g1, fun z => ?_, h2, h3, by omega, P.newTup W (dpAll_repl g2 _) r⟩
  subst z
  cases g2
  exact hne rfl
theorem cut_to (l : List Int) {n : Nat} (h : n ≤ l.length) : cutD (l.map PyData.int) none (some (n : Int)) = (l.take n).map PyData.int := by
  unfold cutD
  rw [HT.sIx_nat, HT.sIx_none, List.length_map, Nat.min_eq_left h, List.map_take]
  rfl
theorem cut_from (l : List Int) {n : Nat} (h : n < l.length) : cutD (l.map PyData.int) (some ((n : Int) + 1)) none = (l.drop (n + 1)).map PyData.int := by
  have z : ((n : Int) + 1) = ((n + 1 : Nat) : Int) := by omega
  unfold cutD
  rw [z, HT.sIx_nat, HT.sIx_none, List.length_map, Nat.min_eq_left h, List.map_drop]
  exact List.take_of_length_le (by simp)
/-- a for over what is numbered -/
theorem forRun_ix {wg : WG} {wb : WS} {De : EndsD} {φ : Nat → D} {n : Nat} (I : Nat → Sg → Prop) (ht : ∀ (k : Nat) (e : Sg) (N : Sg → Prop), k < n → I k e → (∀ e2, I (k + 1) e2 → N e2) → wg (φ k) e fun e' => wb { De with nx := N, ct := N, bk := De.nx, base := fun _ => False, pin := false } e')
    (he : ∀ e, I n e → De.nx e) (e : Sg) (h : I 0 e) : forRun wg wb De ((List.range n).map φ) e := by
  have key : ∀ (m k : Nat) (e : Sg), k + m = n → I k e → forRun wg wb De (((List.range n).map φ).drop k) e := by
    intro m
    induction m with
    | zero =>
      intro k e hk h
      have : k = n := by omega
      subst this
      rw [List.drop_of_length_le (by simp)]
      exact he e h
    | succ m ih =>
      intro k e hk h
      have hlt : k < ((List.range n).map φ).length := by simp; omega
      rw [drop_at hlt]
      have e1 : ((List.range n).map φ)[k] = φ k := by simp
      rw [e1]
      exact ht k e _ (by omega) h fun e2 h2 => ih (k + 1) e2 (by omega) h2
  have := key n 0 e (by omega) h
  simpa using this
end FW
/-! FWU0: min of a list whose items are compared by what the heap holds (tuples). -/
namespace FWU
open PySem
open Sem (wp)
/-- comparisons that hold while what stood in h0 stands -/
def CmpH (prog : Program) (w : World) (A : Around) (h0 : Heap) (P : Nat → Value → Prop) (bt : Nat → Nat → Bool) : Prop :=
  ∀ i j vi vj (s : Shared) (Q E : Value → Shared → Prop), (∀ b o, h0.get? b = some o → s.heap.get? b = some o) → P i vi → P j vj → Q (.bool (bt i j)) s → wpAny (model prog w) A (richCompare .Lt vi vj) Q E s
section
variable {prog : Program} {w : World} {A : Around} {R : Result → Shared → Prop} {I : Addr} {fp wr : List Addr} {n : Nat} {P : Nat → Value → Prop} {St : Nat → Heap → Prop} {h0 : Heap} {bt : Nat → Nat → Bool} {S : Addr}
abbrev mlist (vs : Array Value) (c : Nat) : Obj := { cls := .type "list", dict := none, data := .seq vs c, slots := #[] }
/-- all that is told behind the loop -/
def MinEnd (R : Result → Shared → Prop) (wr : List Addr) (S : Addr) (P : Nat → Value → Prop) (k : Nat) (s : Shared) : Prop :=
  ∀ v h' tk, P k v → (∀ b o, b ∉ wr → b ≠ S → s.heap.get? b = some o → h'.get? b = some o) → R (.ok (.ret v)) { s with heap := h', toks := tk }
theorem min_turns (W : Walks prog w A.in1 I fp wr n P St) (hcmp : CmpH prog w A.in1 h0 P bt) (hSf : S ∉ fp) (h0w : ∀ b o, h0.get? b = some o → b ∉ wr ∧ b ≠ S) :
    ∀ (k j : Nat) (s : Shared) (vb : Value) (c : Nat), n - (j + 1) = k → j + 1 ≤ n → St (j + 1) s.heap → P (argBest bt j) vb → s.heap.get? S = some (mlist #[vb, vb] c) →
      (∀ b o, h0.get? b = some o → s.heap.get? b = some o) → MinEnd R wr S P (argBest bt (n - 1)) s → codeAny (model prog w) A (.builtin "min.loop" ⟨[.ref I, .none, .ref S], []⟩) R s := by
  have nw : S ∉ wr := fun q => hSf (W.sub _ q)
  intro k
  induction k with
  | zero =>
    intro j s vb c e1 e2 a1 a2 a3 a4 a5
    have e3 : j + 1 = n := by omega
    refine codeAny_builtin F.entry_min_loop ?_
    rw [Around.under_plainId F.plain_min_loop _]
    show wpAny (model prog w) A.in1 (seqItems? (.ref S) >>= _) _ _ s; refine wpAny_bind (wpAny_seqItems a3 rfl ?_)
    show wpAny (model prog w) A.in1 (tryCatch (pyNext (.ref I)) _ >>= _) _ _ s; refine wpAny_bind (wpAny_tryCatch (W.done s _ _ (e3 ▸ a1) fun h' tk kp => ?_))
    show wpAny (model prog w) A.in1 (updateSeq S (fun _ => #[]) >>= _) _ _ _; refine wpAny_bind ?_; refine wpAny_updateSeq (kp S _ nw a3) rfl (wpAny_bind (wpAny_letGo (wpAny_pure ?_)))
    exact a5 vb _ tk (by rw [← e3]; exact a2) fun b o x y z => (Heap.get?_update_other _ _ (Ne.symm y)).trans (kp b o x z)
  | succ k ih =>
    intro j s vb c e1 e2 a1 a2 a3 a4 a5
    have lt : j + 1 < n := by omega
    refine codeAny_builtin F.entry_min_loop ?_
    rw [Around.under_plainId F.plain_min_loop _]
    show wpAny (model prog w) A.in1 (seqItems? (.ref S) >>= _) _ _ s; refine wpAny_bind (wpAny_seqItems a3 rfl ?_)
    show wpAny (model prog w) A.in1 (tryCatch (pyNext (.ref I)) _ >>= _) _ _ s; refine wpAny_bind (wpAny_tryCatch (W.item (j + 1) s _ _ lt a1 fun v h' tk pv st' kp => ?_))
    have kS := kp S _ nw a3
    have k0 : ∀ b o, h0.get? b = some o → h'.get? b = some o := fun b o q => kp b o (h0w b o q).1 (a4 b o q)
    show wpAny (model prog w) A.in1 (tryCatch (holding [v, v] (richCompare .Lt v vb >>= _)) _ >>= _) _ _ _; refine wpAny_bind (wpAny_tryCatch (wpAny_holding (wpAny_bind (hcmp (j + 1) (argBest bt j) v vb _ _ _ k0 pv a2 ?_))))
    refine wpAny_bind (wpAny_holding (wpAny_truthy_bool ?_)); refine wpAny_bind (wpAny_letGo (wpAny_pure ?_))
    by_cases q : bt (j + 1) (argBest bt j) = true
    · have e4 : argBest bt (j + 1) = j + 1 := if_pos q
      simp only [q, if_true]
      refine wpAny_bind ?_; refine wpAny_updateSeq kS rfl (wpAny_bind (wpAny_letGo (wpAny_pure ⟨plainId_quiet F.plain_min_loop _, ?_⟩)))
      refine ih (j + 1) _ v _ (by omega) lt (W.frame _ _ _ st' fun b x o z => ?_) (by rw [e4]; exact pv) (Heap.get?_update_self _ kS rfl) (fun b o x => ?_) fun v' h2 tk2 x y => ?_
      · exact (Heap.get?_update_other _ _ (fun (z : S = b) => hSf (z ▸ x))).trans z
      · exact (Heap.get?_update_other _ _ (Ne.symm (h0w b o x).2)).trans (k0 b o x)
      · exact a5 v' h2 tk2 x fun b o x1 x2 x3 => y b o x1 x2 ((Heap.get?_update_other _ _ (Ne.symm x2)).trans (kp b o x1 x3))
    · have e4 : argBest bt (j + 1) = argBest bt j := if_neg q
      simp only [q, Bool.false_eq_true, if_false]
      refine wpAny_bind (wpAny_letGo (wpAny_pure ⟨plainId_quiet F.plain_min_loop _, ?_⟩))
      exact ih (j + 1) _ vb c (by omega) lt st' (by rw [e4]; exact a2) kS k0 fun v' h2 tk2 x y => a5 v' h2 tk2 x fun b o x1 x2 x3 => y b o x1 x2 (kp b o x1 x3)
theorem min_first (W : Walks prog w A.in1 I fp wr n P St) (hcmp : CmpH prog w A.in1 h0 P bt) (hSf : S ∉ fp) (h0w : ∀ b o, h0.get? b = some o → b ∉ wr ∧ b ≠ S) (hn : 0 < n) {s : Shared} {c : Nat} (a1 : St 0 s.heap) (a3 : s.heap.get? S = some (mlist #[] c))
    (a4 : ∀ b o, h0.get? b = some o → s.heap.get? b = some o) (a5 : MinEnd R wr S P (argBest bt (n - 1)) s) : codeAny (model prog w) A (.builtin "min.loop" ⟨[.ref I, .none, .ref S], []⟩) R s := by
  have nw : S ∉ wr := fun q => hSf (W.sub _ q)
  refine codeAny_builtin F.entry_min_loop ?_
  rw [Around.under_plainId F.plain_min_loop _]
  show wpAny (model prog w) A.in1 (seqItems? (.ref S) >>= _) _ _ s; refine wpAny_bind (wpAny_seqItems a3 rfl ?_)
  show wpAny (model prog w) A.in1 (tryCatch (pyNext (.ref I)) _ >>= _) _ _ s; refine wpAny_bind (wpAny_tryCatch (W.item 0 s _ _ hn a1 fun v h' tk pv st' kp => ?_))
  have kS := kp S _ nw a3
  show wpAny (model prog w) A.in1 (updateSeq S (fun _ => #[v, v]) >>= _) _ _ _; refine wpAny_bind ?_; refine wpAny_updateSeq kS rfl (wpAny_pure ⟨plainId_quiet F.plain_min_loop _, ?_⟩)
  refine min_turns W hcmp hSf h0w _ 0 _ v _ rfl hn (W.frame _ _ _ st' fun b x o z => ?_) pv (Heap.get?_update_self _ kS rfl) (fun b o x => ?_) fun v' h2 tk2 x y => ?_
  · exact (Heap.get?_update_other _ _ (fun (z : S = b) => hSf (z ▸ x))).trans z
  · exact (Heap.get?_update_other _ _ (Ne.symm (h0w b o x).2)).trans (kp b o (h0w b o x).1 (a4 b o x))
  · exact a5 v' h2 tk2 x fun b o x1 x2 x3 => y b o x1 x2 ((Heap.get?_update_other _ _ (Ne.symm x2)).trans (kp b o x1 x3))
end
section
variable {prog : Program} {w : World} {A : Around} {E : Value → Shared → Prop} {s : Shared}
theorem min_list {l : Addr} {its : Array Value} {bt : Nat → Nat → Bool} {Q : Value → Shared → Prop} (hh : A.handled = none) (hl : s.heap.IsList l its) (hn : 0 < its.size) (hcmp : CmpH prog w A.in1 s.heap (fun i v => its[i]? = some v) bt)
    (h : ∀ v h' tk, its[argBest bt (its.size - 1)]? = some v → (∀ b o, s.heap.get? b = some o → h'.get? b = some o) → Q v { s with heap := h', toks := tk }) : wpAny (model prog w) A (call (.builtin "min") [.ref l]) Q E s := by
  refine call_function_tree F.kind_min F.plain_min F.entry_min (F.args_min1 _) ?_
  show wpAny (model prog w) A.in1 (Builtin.Builtins.bindParams "min" ["key", "default"] 0 ⟨[], []⟩ >>= _) _ _ s; refine wpAny_bind (wpAny_of_eq (show Builtin.Builtins.bindParams "min" ["key", "default"] 0 ⟨[], []⟩ = pure [none, none] from rfl) (wpAny_bind (wpAny_pure ?_)))
  refine wpAny_bind (L2.iter_anyList (A := A.in1) hl fun s2 e st fpOk ne => ?_)
  subst e
  refine wpAny_bind (wpAny_newObj_type ?_)
  have hlt : l < s.heap.objs.size := let ⟨_, e, _⟩ := hl; Heap.lt_size e
  have sz : (s.heap.push { cls := .type "list_iterator", data := .fields #[.ref l, .int 0 0] }).objs.size = s.heap.objs.size + 1 := Heap.size_push ..
  have W := Walks.list (prog := prog) (w := w) (A := A.in1) hh s.heap.objs.size l ne its
  refine wpAny_pure ⟨plainId_quiet F.plain_min_loop _, ?_⟩
  refine min_first (S := (s.heap.push { cls := .type "list_iterator", data := .fields #[.ref l, .int 0 0] }).objs.size) W hcmp (fun q => Nat.lt_irrefl _ (fpOk _ q)) (fun b o q => ?_) hn (W.frame _ _ _ st fun b _ o e => Heap.get?_push_of_some _ e) (Heap.get?_push_size _ rfl) (fun b o q => ?_) fun v h' tk pv kp => ?_
  · have hb := Heap.lt_size q
    refine ⟨fun z => ?_, fun z => ?_⟩
    · rw [List.mem_singleton.mp z] at hb; exact Nat.lt_irrefl _ hb
    · rw [z, sz] at hb; exact Nat.lt_irrefl _ (Nat.lt_of_succ_lt hb)
  · exact Heap.get?_push_of_some _ (Heap.get?_push_of_some _ q)
  · refine h v h' tk pv fun b o q => ?_
    have hb := Heap.lt_size q
    refine kp b o (fun z => ?_) (fun z => ?_) (Heap.get?_push_of_some _ (Heap.get?_push_of_some _ q))
    · rw [List.mem_singleton.mp z] at hb; exact Nat.lt_irrefl _ hb
    · rw [z, sz] at hb; exact Nat.lt_irrefl _ (Nat.lt_of_succ_lt hb)
end
theorem argBest_mem (bt : Nat → Nat → Bool) : ∀ k, argBest bt k ≤ k
  | 0 => Nat.le_refl 0
  | k + 1 => by
    show (if bt (k + 1) (argBest bt k) then k + 1 else argBest bt k) ≤ k + 1
    have := argBest_mem bt k
    split <;> omega
/-- by an order: none is better -/
theorem argBest_best (lt : Nat → Nat → Bool) (irr : ∀ i, lt i i = false) (as : ∀ i j, lt i j = true → lt j i = false) (tr2 : ∀ i j k, lt j i = false → lt k j = false → lt k i = false) :
    ∀ k j, j ≤ k → lt j (argBest lt k) = false
  | 0, j, h => by
    have : j = 0 := by omega
    subst this
    exact irr 0
  | k + 1, j, h => by
    have ih := argBest_best lt irr as tr2 k
    show lt j (if lt (k + 1) (argBest lt k) then k + 1 else argBest lt k) = false
    by_cases q : lt (k + 1) (argBest lt k) = true
    · rw [if_pos q]
      by_cases z : j = k + 1
      · rw [z]; exact irr _
      · exact tr2 (k + 1) (argBest lt k) j (as _ _ q) (ih j (by omega))
    · rw [if_neg q]
      by_cases z : j = k + 1
      · rw [z]; simpa using q
      · exact ih j (by omega)
end FWU
/-! FWU: min of pairs, sum, abs, reversed, [::-1], zip of lists; tests that look into a list of one's own. -/
namespace FW
open PySem PySem.Spec PyProof.Rows L2
/-! ### min of a list of pairs of ints -/
def ltP2 (p q : Int × Int) : Bool := if p.1 = q.1 then decide (p.2 < q.2) else decide (p.1 < q.1)
def rMinP (K : PySem.W.Frag) : List V → Hp → VK → Prop := fun vs H Q => ∃ (a : Addr) (xs : List V) (k : Nat → Int × Int), vs = [V.ref a] ∧ SqL K H a xs ∧ 0 < xs.length ∧
  (∀ i x, xs[i]? = some x → ∃ t, x = V.ref t ∧ SqT K H t [.int (k i).1, .int (k i).2]) ∧ ∀ (i : Nat) x, xs[i]? = some x → (∀ j, j < xs.length → ltP2 (k j) (k i) = false) → Q x H
section
variable {X : Cx}
theorem cr_minP (hc : X.calm = true) (hu : X.A.units + 64 < cLine) : CallR X (.builtin "min") (rMinP X.K) := by
  intro pins s σ H vs us Q I r h
  obtain ⟨a, xs, k, rfl, hs, h0, hx, q⟩ := h
  obtain ⟨its, rv, hl, _⟩ := I.list hs
  rw [Vals.ref1 r]
  have hlen : its.toArray.size = xs.length := by rw [List.size_toArray]; exact rv.length.symm
  have at_ : ∀ (i : Nat) v, its.toArray[i]? = some v → ∃ x, xs[i]? = some x ∧ RelV x v := fun i v e => by
    have e' : its[i]? = some v := by simpa using e
    have hi : i < xs.length := by rw [rv.length]; exact (List.getElem?_eq_some_iff.mp e').1
    obtain ⟨u, hu, ru⟩ := rv.get (List.getElem?_eq_getElem hi)
    rw [e'] at hu
    cases hu
    exact ⟨_, List.getElem?_eq_getElem hi, ru⟩
  have cmp : FWU.CmpH X.prog X.w X.A.in1 s.heap (fun i v => its.toArray[i]? = some v) (fun i j => ltP2 (k i) (k j)) := by
    intro i j vi vj s2 Q2 E2 keep hi hj hq
    obtain ⟨x, ex, rx⟩ := at_ i vi hi
    obtain ⟨y, ey, ry⟩ := at_ j vj hj
    obtain ⟨t, rfl, ht⟩ := hx i x ex
    obtain ⟨t2, rfl, ht2⟩ := hx j y ey
    obtain rfl : vi = Value.ref t := rx
    obtain rfl : vj = Value.ref t2 := ry
    obtain ⟨i1, r1, p1, _⟩ := I.tuple ht
    obtain ⟨i2, r2, p2, _⟩ := I.tuple ht2
    have z1 : IntsAre i1.toArray.toList [(k i).1, (k i).2] := intsAre_of (ns := [(k i).1, (k i).2]) r1
    have z2 : IntsAre i2.toArray.toList [(k j).1, (k j).2] := intsAre_of (ns := [(k j).1, (k j).2]) r2
    have k1 : IsTup s2.heap t i1.toArray := let ⟨o, e, z⟩ := p1; ⟨o, keep _ _ e, z⟩
    have k2 : IsTup s2.heap t2 i2.toArray := let ⟨o, e, z⟩ := p2; ⟨o, keep _ _ e, z⟩
    have hu2 : X.A.in1.units < cLine := by show X.A.units + 1 < cLine; omega
    have lx : HT.lexLt [(k i).1, (k i).2] [(k j).1, (k j).2] = ltP2 (k i) (k j) := by
      unfold ltP2
      rw [HT.lexLt_cons, HT.lexLt_cons, HT.lexLt_nil_nil]
      by_cases c1 : (k i).1 = (k j).1
      · rw [if_pos c1, if_pos c1]
        by_cases c2 : (k i).2 = (k j).2
        · rw [if_pos c2, c2]; simp
        · rw [if_neg c2]
      · rw [if_neg c1, if_neg c1]
    have hq : Q2 (Value.bool (ltP2 (k i) (k j))) s2 := hq
    rw [← lx] at hq
    exact HT.lt_tupInts k1 k2 z1 z2 hu2 hq
  refine FWU.min_list (I.ok.hd hc) hl.isList (by rw [hlen]; exact h0) cmp fun v h' tk pv kp => ?_
  have le := FWU.argBest_mem (fun i j => ltP2 (k i) (k j)) (its.toArray.size - 1)
  generalize hb : PySem.argBest (fun i j => ltP2 (k i) (k j)) (its.toArray.size - 1) = b at pv le
  obtain ⟨x, ex, rx⟩ := at_ b v pv
  refine ⟨x, H, I.kept kp, rx, q b x ex fun j hj => ?_⟩
  rw [← hb]
  refine FWU.argBest_best (fun i j => ltP2 (k i) (k j)) (fun i => ?_) (fun i j => ?_) (fun i j l => ?_) _ j (by omega)
  · simp [ltP2]
  · unfold ltP2; intro h1; split at h1 <;> split <;> simp_all <;> omega
  · unfold ltP2; intro h1 h2; split at h1 <;> split at h2 <;> split <;> simp_all <;> omega
end
def pairsD (ps : List (Int × Int)) : List D := ps.map fun p => PyData.tuple [.int p.1, .int p.2]
def rdMinP : List D → (D → Prop) → Prop := fun ds R => ∃ ps : List (Int × Int), ds = [.list (pairsD ps)] ∧ ps ≠ [] ∧ ∀ m ∈ ps, (∀ y ∈ ps, ltP2 y m = false) → R (.tuple [.int m.1, .int m.2])
section
variable {c : Amb} {E : XK} {H F H0 F0 H1 F1 : Hp} {σ : L2.St} {X : Cx}
theorem cd_minP : CallD c (rMinP c.K) rdMinP := by
  rintro H F vs ds R Q W rv ⟨ps, rfl, hne, r⟩ P
  obtain ⟨v, rfl, q⟩ := reps1 rv
  obtain ⟨a, ws, rfl, h1, h2⟩ := q.list_inv
  have hl : ws.length = ps.length := by rw [dpAll_length h2]; simp [pairsD]
  refine ⟨a, ws, fun i => ps.getD i (0, 0), rfl, SqL.of (W.sub _ _ h1), ?_, fun i x hx => ?_, fun i x hx hb => ?_⟩
  · rw [hl]; exact List.length_pos_iff.mpr hne
  · obtain ⟨d, e1, e2⟩ := dpAll_get h2 hx
    have hi : i < ps.length := by rw [← hl]; exact (List.getElem?_eq_some_iff.mp hx).1
    have e3 : d = .tuple [.int ps[i].1, .int ps[i].2] := by
      unfold pairsD at e1
      rw [List.getElem?_map, List.getElem?_eq_getElem hi] at e1
      exact (Option.some.inj e1).symm
    subst e3
    cases e2 with
    | tup hs ha =>
      have := dpAll_ints_inv [ps[i].1, ps[i].2] _ ha
      subst this
      have e4 : ps.getD i (0, 0) = ps[i] := by rw [List.getD_eq_getElem?_getD, List.getElem?_eq_getElem hi]; rfl
      simp only [e4]
      exact ⟨_, rfl, same_t W.sub hs⟩
  · obtain ⟨d, e1, e2⟩ := dpAll_get h2 hx
    have hi : i < ps.length := by rw [← hl]; exact (List.getElem?_eq_some_iff.mp hx).1
    have e3 : d = .tuple [.int ps[i].1, .int ps[i].2] := by
      unfold pairsD at e1
      rw [List.getElem?_map, List.getElem?_eq_getElem hi] at e1
      exact (Option.some.inj e1).symm
    subst e3
    refine P.here W (r ps[i] (List.getElem_mem hi) fun y hy => ?_) (.inl e2)
    obtain ⟨j, hj, rfl⟩ := List.getElem_of_mem hy
    have := hb j (by rw [hl]; exact hj)
    simp only [List.getD_eq_getElem?_getD, List.getElem?_eq_getElem hi, List.getElem?_eq_getElem hj, Option.getD_some] at this
    exact this
/-! ### sum, abs -/
def rdSum : List D → (D → Prop) → Prop := fun ds R => ∃ ns : List Int, ds = [.list (ns.map .int)] ∧ R (.int ns.sum)
theorem cd_sum : CallD c (rSum c.K) rdSum := by
  rintro H F vs ds R Q W rv ⟨ns, rfl, r⟩ P
  obtain ⟨v, rfl, q⟩ := reps1 rv
  obtain ⟨a, ws, rfl, h1, h2⟩ := q.list_inv
  have e := dpAll_ints_inv ns ws h2
  subst e
  exact ⟨a, ns, rfl, SqL.of (W.sub _ _ h1), P.here W r .int⟩
def absI (i : Int) : Int := if i < 0 then -i else i
def rdAbs : List D → (D → Prop) → Prop := fun ds R => ∃ i, ds = [.int i] ∧ R (.int (absI i))
theorem cd_abs : CallD c (fun xs H Q => ∃ i, xs = [.int i] ∧ Q (.int (if i < 0 then -i else i)) H) rdAbs := by
  rintro H F vs ds R Q W rv ⟨i, rfl, r⟩ P
  exact ⟨i, repVs_ints_inv (l := [i]) rv, P.here W r .int⟩
@[simp] theorem rdAbs_iff {i : Int} {R : D → Prop} : rdAbs [.int i] R ↔ R (.int (absI i)) := by
  constructor
  · rintro ⟨a, e, h⟩; simp at e; rw [e]; exact h
  · intro h; exact ⟨i, rfl, h⟩
@[simp] theorem rdSum_iff {ns : List Int} {R : D → Prop} : rdSum [.list (ns.map .int)] R ↔ R (.int ns.sum) := by
  constructor
  · rintro ⟨a, e, h⟩; simp at e; rw [e]; exact h
  · intro h; exact ⟨ns, rfl, h⟩
@[simp] theorem rdMaxL_iff {ns : List Int} {R : D → Prop} : rdMaxL [.list (ns.map .int)] R ↔ 0 < ns.length ∧ ∀ m, m ∈ ns → (∀ y, y ∈ ns → y ≤ m) → R (.int m) := by
  constructor
  · rintro ⟨a, e, h⟩; simp at e; rw [e]; exact h
  · intro h; exact ⟨ns, rfl, h⟩
@[simp] theorem rdMinL_iff {ns : List Int} {R : D → Prop} : rdMinL [.list (ns.map .int)] R ↔ 0 < ns.length ∧ ∀ m, m ∈ ns → (∀ y, y ∈ ns → m ≤ y) → R (.int m) := by
  constructor
  · rintro ⟨a, e, h⟩; simp at e; rw [e]; exact h
  · intro h; exact ⟨ns, rfl, h⟩
/-- a for: what holds between its turns; what follows a turn is hidden -/
theorem forRun_go {wg : WG} {wb : WS} {De : EndsD} (I : List D → Sg → Prop) (ht : ∀ (d : D) (ds : List D) (e : Sg) (N : Sg → Prop), I (d :: ds) e → (∀ e2, I ds e2 → N e2) → wg d e fun e' => wb { De with nx := N, ct := N, bk := De.nx, base := fun _ => False, pin := false } e') (he : ∀ e, I [] e → De.nx e) :
    ∀ ds e, I ds e → forRun wg wb De ds e := forRun_inv I (fun d ds e h k => ht d ds e _ h k) he
/-! ### x[::-1] of a list -/
@[simp] def dRevL (w : W) : W := fun e R => w e fun d => ∃ ds, d = .list ds ∧ R (.list ds.reverse)
theorem xd_revL {w : W} : ∀ σ H Q, tD c (dRevL w) σ H Q → tRevL c.K (tD c w) σ H Q := fun σ H Q ⟨e, F, H0, R, W, S, q, P⟩ =>
  ⟨e, F, H0, _, W, S, q, fun d v H1 F1 ⟨ds, hd, r⟩ x1 rv => by
    subst hd
    obtain ⟨a, vs, rfl, h1, h2⟩ := rv.list_inv
    exact ⟨a, vs, rfl, SqL.of (x1.ok.sub _ _ h1), (P.ext x1).newLst x1.ok (dpAll_rev h2) r⟩⟩
/-! ### for x in reversed(a list or a tuple) -/
@[simp] def iRev (w : W) : WA := fun e R => w e fun d => ∃ ds, IsSeq d ds ∧ R ds.reverse
theorem yields_rev {a : Addr} {vs : List V} {ds : List D} (h : F a = some (.lst vs)) (k : RpAll c.K F vs ds) : Yields c (Itv c.K a vs.length) F ds.reverse where
  go := fun i H G hi W s => by
    have hl := dpAll_length k
    rw [List.length_reverse] at hi
    exact ⟨by omega, vs, vs[vs.length - 1 - i]'(by omega), SqL.of (W.sub _ _ (s _ _ h)), List.getElem?_eq_getElem _⟩
  yld := fun i d H G x H' hd W s ⟨e, y⟩ => by
    subst e
    have hl := dpAll_length k
    have hx := y vs (SqL.of (W.sub _ _ (s _ _ h)))
    obtain ⟨d', h1, h2⟩ := dpAll_get k hx
    have hi : i < ds.length := by rw [← List.length_reverse]; exact (List.getElem?_eq_some_iff.mp hd).1
    rw [List.getElem?_reverse hi, ← hl, h1] at hd
    cases hd
    exact ⟨G, Ext.refl W, .inl (dp_same s _ _ h2)⟩
  stop := fun H G W s => by rw [List.length_reverse]; exact Nat.le_of_eq (dpAll_length k)
theorem yields_revT {a : Addr} {vs : List V} {ds : List D} (h : SqT c.K F a vs) (k : RpAll c.K F vs ds) : Yields c (RT.ItvT c.K a vs.length) F ds.reverse where
  go := fun i H G hi W s => by
    have hl := dpAll_length k
    rw [List.length_reverse] at hi
    exact ⟨by omega, vs, vs[vs.length - 1 - i]'(by omega), same_t (s.trans W.sub) h, List.getElem?_eq_getElem _⟩
  yld := fun i d H G x H' hd W s ⟨e, y⟩ => by
    subst e
    have hl := dpAll_length k
    have hx := y vs (same_t (s.trans W.sub) h)
    obtain ⟨d', h1, h2⟩ := dpAll_get k hx
    have hi : i < ds.length := by rw [← List.length_reverse]; exact (List.getElem?_eq_some_iff.mp hd).1
    rw [List.getElem?_reverse hi, ← hl, h1] at hd
    cases hd
    exact ⟨G, Ext.refl W, .inl (dp_same s _ _ h2)⟩
  stop := fun H G W s => by rw [List.length_reverse]; exact Nat.le_of_eq (dpAll_length k)
theorem xi_rev {w : W} : ∀ σ H R, tI c (iRev w) σ H R → RT.iRevA c.K (tD c w) σ H R := fun σ H R ⟨e, F, H0, Rd, W, S, q, P⟩ =>
  ⟨e, F, H0, _, W, S, q, fun d v H' F' ⟨ds, hd, r⟩ x rv => by
    cases hd with
    | lst =>
      obtain ⟨a, vs, rfl, h, k⟩ := rv.list_inv
      exact ⟨a, vs, rfl, .inl ⟨SqL.of (x.ok.sub _ _ h), P _ _ H' F' r x (yields_rev h k)⟩⟩
    | tup =>
      obtain ⟨a, vs, rfl, h, k⟩ := rv.tup_inv
      exact ⟨a, vs, rfl, .inr ⟨same_t x.ok.sub h, P _ _ H' F' r x (yields_revT h k)⟩⟩⟩
/-! ### zip of two lists -/
theorem yields_zipL {a b : Addr} {vs us : List V} {xs ys : List D} (h : F a = some (.lst vs)) (k : RpAll c.K F vs xs) (h' : F b = some (.lst us)) (k' : RpAll c.K F us ys) : Yields c (Itz c.K a b) F ((xs.zip ys).map fun p => .tuple [p.1, p.2]) where
  go := fun i H G hi W s => by
    have hl := dpAll_length k
    have hl' := dpAll_length k'
    simp at hi
    exact ⟨vs, us, vs[i]'(by omega), us[i]'(by omega), SqL.of (W.sub _ _ (s _ _ h)), SqL.of (W.sub _ _ (s _ _ h')), List.getElem?_eq_getElem _, List.getElem?_eq_getElem _⟩
  yld := fun i d H G x H' hd W s ⟨T, x1, x2, e, hT, hH, q1, q2⟩ => by
    subst e hH
    obtain ⟨d1, e1, r1⟩ := dpAll_get k (q1 vs (SqL.of (W.sub _ _ (s _ _ h))))
    obtain ⟨d2, e2, r2⟩ := dpAll_get k' (q2 us (SqL.of (W.sub _ _ (s _ _ h'))))
    have e3 : ((xs.zip ys).map fun p => PyData.tuple [p.1, p.2])[i]? = some (.tuple [d1, d2]) := by
      rw [List.getElem?_map, List.getElem?_zip_eq_some (z := (d1, d2)) |>.mpr ⟨e1, e2⟩]; rfl
    rw [hd] at e3
    cases e3
    exact ⟨_, Ext.laid W _ hT, repTup upd_same (.cons (dp_same (s.trans (upd_keep (W.newF hT))) _ _ r1) (.cons (dp_same (s.trans (upd_keep (W.newF hT))) _ _ r2) .nil))⟩
  stop := fun H G W s => by
    have hl := dpAll_length k
    have hl' := dpAll_length k'
    refine ⟨vs, us, SqL.of (W.sub _ _ (s _ _ h)), SqL.of (W.sub _ _ (s _ _ h')), ?_⟩
    simp
    omega
def rdZipL (ds : List D) (R : List D → Prop) : Prop := ∃ xs ys, ds = [.list xs, .list ys] ∧ R ((xs.zip ys).map fun p => .tuple [p.1, p.2])
@[simp] def iZipL (w : WA) : WA := fun e R => w e fun ds => rdZipL ds R
@[simp] theorem rdZipL_iff {xs ys : List D} {R : List D → Prop} : rdZipL [.list xs, .list ys] R ↔ R ((xs.zip ys).map fun p => .tuple [p.1, p.2]) := by
  constructor
  · rintro ⟨a, b, e, h⟩; simp at e; rw [e.1, e.2]; exact h
  · intro h; exact ⟨xs, ys, rfl, h⟩
theorem xi_zipL {w : WA} : ∀ σ H R, tI c (iZipL w) σ H R → RZ.iZipA c.K (tA c w) σ H R := fun σ H R ⟨e, F, H0, Rd, W, S, q, P⟩ =>
  ⟨e, F, H0, _, W, S, q, fun ds vs H' F' ⟨xs, ys, hd, r⟩ x rv => by
    subst hd
    obtain ⟨v, u, rfl, r1, r2⟩ := reps2 rv
    obtain ⟨a, us, rfl, h1, h2⟩ := r1.list_inv
    obtain ⟨b, ws, rfl, g1, g2⟩ := r2.list_inv
    exact ⟨a, b, us, ws, rfl, .inl ⟨SqL.of (x.ok.sub _ _ h1), SqL.of (x.ok.sub _ _ g1), P _ _ H' F' r x (yields_zipL h1 h2 g1 g2)⟩⟩⟩
/-! ### targets of any number of names -/
theorem wipe_get (σ : L2.St) : ∀ (vs : List Nat) (j : Nat), j < σ.length → (wipe σ vs)[j]? = if j ∈ vs then some none else σ[j]?
  | [], j, _ => by simp [L2.wipe]
  | v :: vs, j, hj => by
    unfold L2.wipe
    by_cases h : v = j
    · subst h
      rw [List.getElem?_set_self (by rw [wipe_length]; exact hj)]
      simp
    · rw [List.getElem?_set_ne h, wipe_get σ vs j hj]
      have : (j ∈ v :: vs) ↔ j ∈ vs := by
        rw [List.mem_cons]
        exact ⟨fun x => x.resolve_left fun z => h z.symm, .inr⟩
      simp only [this]
theorem wipe_eq {σ σ' : L2.St} {vs : List Nat} (hl : σ.length = σ'.length) (h : ∀ j, j ∉ vs → σ[j]? = σ'[j]?) : wipe σ vs = wipe σ' vs := by
  apply List.ext_getElem?
  intro j
  by_cases hj : j < σ.length
  · rw [wipe_get σ vs j hj, wipe_get σ' vs j (by omega)]
    by_cases q : j ∈ vs
    · rw [if_pos q, if_pos q]
    · rw [if_neg q, if_neg q, h j q]
  · rw [List.getElem?_eq_none (by rw [wipe_length]; omega), List.getElem?_eq_none (by rw [wipe_length]; omega)]
theorem gNames_wipe {vs0 : List Nat} : ∀ (is : List Nat) {xs : List V} {σ0 σ : L2.St} {H : Hp} {Q : L2.St → Hp → Prop}, (∀ i ∈ is, i ∈ vs0) → σ.length = σ0.length → (∀ j, j ∉ vs0 → σ[j]? = σ0[j]?) → gNames is xs σ H Q → gNames is xs σ H fun σ2 H2 => wipe σ2 vs0 = wipe σ0 vs0 ∧ Q σ2 H2
  | [], _, σ0, σ, _, _, _, hl, he, ⟨h, q⟩ => ⟨h, wipe_eq hl he, q⟩
  | i :: is, _, σ0, σ, _, _, hm, hl, he, ⟨x, r, h1, h2⟩ => ⟨x, r, h1, gNames_wipe is (fun j hj => hm j (List.mem_cons_of_mem _ hj)) (by rw [List.length_set]; exact hl) (fun j hj => by
      rw [List.getElem?_set_ne (fun (z : i = j) => hj (by rw [← z]; exact hm i List.mem_cons_self))]; exact he j hj) h2⟩
theorem wipe_wipe (σ : L2.St) (vs : List Nat) : wipe (wipe σ vs) vs = wipe σ vs := wipe_eq (wipe_length σ vs) fun j hj => by
  by_cases q : j < σ.length
  · rw [wipe_get σ vs j q, if_neg hj]
  · rw [List.getElem?_eq_none (by rw [wipe_length]; omega), List.getElem?_eq_none (by omega)]
theorem stores_names {K : PySem.W.Frag} {n : Nat} (is : List Nat) : Stores (gTup K n (gNames is)) is := fun v σ H Q ⟨a, xs, h1, h2, h3, h4⟩ =>
  ⟨a, xs, h1, h2, h3, by
    have := gNames_wipe (vs0 := is) is (σ0 := wipe σ is) (σ := wipe σ is) (fun _ h => h) rfl (fun _ _ => rfl) h4
    rw [wipe_wipe] at this
    exact this⟩
/-! ### a test that reads a list of one's own as data -/
@[simp] def bPeek (i : Nat) (w : WT) : WT := fun e R => ∃ ds, e[i]? = some (.own ds) ∧ w (e.set i (.val (.list ds))) R
/-- of what is frozen on the way, a test keeps nothing -/
theorem Ext.back {F1 F' H' : Hp} (W : Wok c H F) (s : Same F F1) (x : Ext c H F1 H' F') : Ext c H F H' F :=
  ⟨⟨fun b o e => x.ok.sub b o (x.grow b o (s b o e)), x.ok.row, W.rF, fun P h => ⟨(x.ok.tab P h).1, (W.tab P h).2⟩⟩, fun _ _ h => h, x.keep, fun _ h h' => absurd h h', x.pre⟩
theorem xt_peek {i : Nat} {w : WT} : ∀ σ H Q, tT c (bPeek i w) σ H Q → tT c w σ H Q := fun σ H Q ⟨e, F, H0, R, W, S, ⟨ds, h, q⟩, P⟩ => by
  obtain ⟨a, vs, h1, h2, h3, h4, h5, h6⟩ := S.own i ds h
  exact ⟨_, upd F a (.lst vs), H0, R, W.freeze h2 h5 (fun ps z => by cases z), S.frz h h1 h2 h3 h6, q, fun b H' F' r x => P b H' F r (Ext.back W (upd_keep h3) x)⟩
end
end FW
/-! FWV: [::-1] of a tuple. -/
namespace FWV
open PySem PySem.Spec PyProof.Rows L2
open HT (slicePart_)
section
variable {prog : Program} {w : World} {A : Around} {E : Value → Shared → Prop} {s : Shared}
theorem adjust_back (n : Nat) : Builtin.Slice.sliceAdjust none none (-1) (n : Int) = ((n : Int) - 1, -1) := rfl
theorem places_back (n : Nat) : Builtin.Slice.slicePlaces ((n : Int) - 1) (-1) (-1) = n := by
  unfold Builtin.Slice.slicePlaces
  rw [if_neg (by decide), show (- -1 : Int) = 1 by decide, Int.ediv_one]
  split <;> omega
theorem fm_congr {α β : Type} {f g : α → Option β} : ∀ l : List α, (∀ k ∈ l, f k = g k) → l.filterMap f = l.filterMap g
  | [], _ => rfl
  | a :: l, h => by
    rw [List.filterMap_cons, List.filterMap_cons, h a List.mem_cons_self, fm_congr l fun k hk => h k (List.mem_cons_of_mem _ hk)]
theorem pick_back (xs : Array Value) : ((List.range xs.size).filterMap fun (k : Nat) => xs[(((xs.size : Int) - 1) + (k : Int) * (-1)).toNat]?).toArray = xs.toList.reverse.toArray := by
  have e : (List.range xs.size).filterMap (fun (k : Nat) => xs[(((xs.size : Int) - 1) + (k : Int) * (-1)).toNat]?) = ((List.range xs.size).map fun k => xs.size - 1 - k).filterMap (xs[·]?) := by
    rw [List.filterMap_map]
    refine fm_congr _ fun k hk => ?_
    have := List.mem_range.mp hk
    have e2 : (((xs.size : Int) - 1) + (k : Int) * (-1)).toNat = xs.size - 1 - k := by omega
    show xs[(((xs.size : Int) - 1) + (k : Int) * (-1)).toNat]? = xs[xs.size - 1 - k]?
    rw [e2]
  rw [e, PySem.W.krv_range, List.filterMap_reverse, PySem.W.krv_all]
theorem applied_back {sl : Addr} {vl vu vs : Value} {n : Nat} {Q : Int × Int × Nat → Shared → Prop} (hs : s.heap.IsSliceOf sl vl vu vs) (pl : IsPart vl none) (pu : IsPart vu none) (ps : IsPart vs (some (-1))) (h : Q ((n : Int) - 1, -1, n) s) :
    wpAny (model prog w) A (Builtin.Slice.sliceApplied (.ref sl) (pure (n : Int))) Q E s := by
  obtain ⟨ob, e1, _, e3⟩ := id hs
  unfold Builtin.Slice.sliceApplied Builtin.Slice.sliceFields
  refine wpAny_bind (wpAny_bind (wpAny_field e1 e3 (x := vl) rfl (wpAny_bind (wpAny_field e1 e3 (x := vu) rfl (wpAny_bind (wpAny_field e1 e3 (x := vs) rfl (wpAny_pure ?_)))))))
  refine wpAny_bind (slicePart_ ps ?_)
  show wpAny _ _ (if ((-1 : Int) == 0) = true then _ else _) _ _ s
  rw [if_neg (by decide)]
  refine wpAny_bind (slicePart_ pl (wpAny_bind (slicePart_ pu (wpAny_bind (wpAny_pure (wpAny_pure ?_))))))
  have q : Q ((n : Int) - 1, -1, Builtin.Slice.slicePlaces ((n : Int) - 1) (-1) (-1)) s := by rw [places_back]; exact h
  exact q
theorem get_back {t sl : Addr} {items : Array Value} {vl vu vs : Value} {Q : Value → Shared → Prop} (ht : IsTup s.heap t items) (hs : s.heap.IsSliceOf sl vl vu vs) (pl : IsPart vl none) (pu : IsPart vu none) (ps : IsPart vs (some (-1)))
    (h : Q (.ref s.heap.objs.size) { s with heap := s.heap.push { cls := .type "tuple", data := .seq items.toList.reverse.toArray } }) (hsz : items.size ≤ sizeLine) : wpAny (model prog w) A (getItem (.ref t) (.ref sl)) Q E s := by
  have fits : sizeOk (.seq items.toList.reverse.toArray) := by
    show items.toList.reverse.toArray.size ≤ sizeLine
    simpa using hsz
  obtain ⟨ob, e1, e2, e3⟩ := id hs
  have tsl : s.TypeIs (.ref sl) "slice" := ⟨ob, e1, e2⟩
  unfold getItem
  try with_reducible refine wpAny_holding ?_
  first | refine wpAny_bind (wpAny_pure ?_) | skip
  refine wpAny_bind (wpAny_sequenceKey ht.typeIs (by decide) (wpAny_bind (wpAny_callSpecial?_slot (name := Str.ofString "__getitem__") ht.typeIs PyProof.Rows.slot_tuple_getitem
    (wpAny_call_entry PyProof.Rows.slot_tuple_getitem ht.typeIs entry_tuple_getitem ?_ (args_tuple_getitem _ _)))))
  show wpAny (model prog w) _ (Builtin.Tuple.tupleItemsOf (.ref t) >>= _) _ _ s
  refine wpAny_bind (tupleItemsOf_ ht (wpAny_bind (wpAny_typeOf tsl ?_)))
  rw [if_pos (by decide)]
  refine wpAny_bind (applied_back hs pl pu ps ?_)
  have no : ¬ ((((items.size : Int) - 1 == 0) && ((-1 : Int) == 1) && (items.size == items.size)) = true) := by
    rw [show ((-1 : Int) == 1) = false from rfl, Bool.and_false, Bool.false_and]
    exact Bool.false_ne_true
  show wpAny (model prog w) _ (if (((items.size : Int) - 1 == 0) && ((-1 : Int) == 1) && (items.size == items.size)) = true then _ else _) _ _ s
  rw [if_neg no, pick_back]
  first
    | exact wpAny_bind (m := Builtin.Tuple.tupleExact _) (wpAny_newObj_type (wpAny_pure ⟨_, rfl, wpAny_pure h⟩) fits)
    | exact wpAny_bind (wpAny_bind (m := Builtin.Tuple.tupleExact _) (wpAny_newObj_type (wpAny_pure ⟨_, rfl, wpAny_pure h⟩) fits))
    | exact wpAny_bind (wpAny_bind (m := Builtin.Tuple.tupleExact _) (wpAny_newObj_type (wpAny_pure (wpAny_pure ⟨_, rfl, wpAny_pure h⟩)) fits))
end
def tRevT (K : PySem.W.Frag) (te : TE) : TE := fun σ H Q => te σ H fun x H1 => ∃ a xs, x = .ref a ∧ SqT K H1 a xs ∧ ∀ p, H1 p = none → Q (.ref p) (upd H1 p (.tup xs.reverse))
section
variable {X : Cx}
theorem pe_revT {e : Expr} {te : TE} {k : Nat} {p1 p2 p3 pos : Pos} (he : PE X e te) : PE X (.Subscript e (.Slice none none (some (.UnaryOp .USub (.Constant (.int 1) k p1) p2)) p3) pos) (tRevT X.K te) := by
  refine ⟨fun pins s σ H Q I h => Subscript_ (thn (he.run pins s σ H _ I h) fun v s1 ⟨x, H1, I1, rx, z⟩ => ?_)⟩
  obtain ⟨a, xs, rfl, hx, q⟩ := z
  cases rx
  have st : PO X (some (.UnaryOp .USub (.Constant (.int 1) k p1) p2)) (tPart (tUn (rU fun i => .int (-i)) (tC (.int 1)))) := po_some (pe_un un_neg pe_int)
  refine wpAny_Slice (thn (po_none.run pins s1 σ H1 (fun o G => o = none ∧ G = H1) I1 ⟨rfl, rfl⟩) fun vl s2 ⟨_, _, I2, pl, eo, eG⟩ => ?_)
  subst eo eG
  refine thn (po_none.run pins s2 σ _ (fun o G => o = none ∧ G = _) I2 ⟨rfl, rfl⟩) fun vu s3 ⟨_, _, I3, pu, eo, eG⟩ => ?_
  subst eo eG
  refine thn (st.run pins s3 σ _ (fun o G => o = some (-1) ∧ G = _) I3 ⟨1, rfl, -1, rfl, rfl, rfl⟩) fun vs s4 ⟨_, H4, I4, ps, eo, eG⟩ => ?_
  subst eo eG
  have J : Inv X pins σ _ { s4 with heap := s4.heap.push { cls := .type "slice", data := .fields #[vl, vu, vs] } } := I4.kept (t' := s4.toks) fun b ob z => Heap.get?_push_of_some _ z
  obtain ⟨its, r, ht, hz⟩ := J.tuple hx
  show wpAny (model X.prog X.w) X.A (subscriptTail e (.Slice none none (some (.UnaryOp .USub (.Constant (.int 1) k p1) p2)) p3) (.ref a) (.ref s4.heap.objs.size)) (EP X pins σ Q) X.xe _
  refine tail_any (ops := [.ref a, .ref s4.heap.objs.size]) ht.typeIs PyProof.Rows.slot_tuple_getitem.lookup ?_ (by with_unfolding_all rfl)
  refine get_back ht (Heap.IsSliceOf.new _ vl vu vs) pl pu ps ?_ (by rw [List.size_toArray, ← r.length]; exact hz)
  refine ⟨.ref _, _, J.laid (t' := s4.toks) (o := .tup xs.reverse) (fun b ob z => Heap.get?_push_of_some _ z) (Nat.le_refl _) ?_, rfl, q _ (J.hok.fresh (Nat.le_refl _))⟩
  exact ⟨by rw [List.length_reverse]; exact hz, _, r.reverse, IsTup.new _ _⟩
/-- max of a tuple of ints -/
def rMaxT (K : PySem.W.Frag) : List V → Hp → VK → Prop := fun vs H Q => ∃ (a : Addr) (ns : List Int), vs = [V.ref a] ∧ SqT K H a (ns.map V.int) ∧ 0 < ns.length ∧ ∀ m, m ∈ ns → (∀ y, y ∈ ns → y ≤ m) → Q (.int m) H
theorem cr_maxT (hc : X.calm = true) : CallR X (.builtin "max") (rMaxT X.K) := by
  intro pins s σ H vs us Q I r h
  obtain ⟨a, ns, rfl, hs, hne, q⟩ := h
  obtain ⟨its, rv, ht, _⟩ := I.tuple hs
  rw [Vals.ref1 r]
  have hl : its.toArray.size = ns.length := by rw [List.size_toArray, ← rv.length, List.length_map]
  have at_ : ∀ (i : Nat) v, its.toArray[i]? = some v → ∃ t, v = .int (ns.getD i 0) t := fun i v e => by
    have e' : its[i]? = some v := by simpa using e
    have hi : i < ns.length := by rw [← hl, List.size_toArray]; exact (List.getElem?_eq_some_iff.mp e').1
    obtain ⟨u, hu, ru⟩ := rv.get (show (ns.map V.int)[i]? = some (V.int ns[i]) by rw [List.getElem?_map, List.getElem?_eq_getElem hi]; rfl)
    rw [e'] at hu
    cases hu
    obtain ⟨t, rfl⟩ := ru
    exact ⟨t, by rw [List.getD_eq_getElem?_getD, List.getElem?_eq_getElem hi]; rfl⟩
  have hlt : a < s.heap.objs.size := ht.lt
  have sz : (s.heap.push { cls := .type "tuple_iterator", data := .fields #[.ref a, .int 0 0] }).objs.size = s.heap.objs.size + 1 := Heap.size_push ..
  refine call_max_walk (wpAny_pyIter_tuple (items := its.toArray) ht ?_)
  refine ⟨_, _, _, _, _, _, _, rfl, Walks.tuple (A := X.A.in1) (I.ok.hd hc) s.heap.objs.size a (Nat.ne_of_lt hlt) its.toArray, ⟨⟨_, Heap.get?_push_size _ rfl, rfl, rfl⟩, ht.push _⟩, fun b hb => ?_, by rw [hl]; exact hne, CmpOf.ints_gt (fun i => ns.getD i 0) at_, fun v h' tk pv kp => ?_⟩
  · show b < (s.heap.push _).objs.size
    rw [sz]
    rcases List.mem_cons.mp hb with z | z
    · rw [z]; exact Nat.lt_succ_self _
    · rw [List.mem_singleton.mp z]; exact Nat.lt_succ_of_lt hlt
  · obtain ⟨t, rfl⟩ := at_ _ v pv
    obtain ⟨k1, k2⟩ := argBest_gt (fun i => ns.getD i 0) (its.toArray.size - 1)
    have hb : argBest (fun i j => decide (ns.getD i 0 > ns.getD j 0)) (its.toArray.size - 1) < ns.length := by omega
    refine ⟨.int _, H, I.kept (fun b o e => kp b o (fun z => ?_) (Heap.get?_push_of_some _ e)), ⟨t, rfl⟩, q _ ?_ fun y hy => ?_⟩
    · have := Heap.lt_size e
      rw [List.mem_singleton.mp z] at this
      exact Nat.lt_irrefl _ this
    · rw [List.getD_eq_getElem?_getD, List.getElem?_eq_getElem hb]; exact List.getElem_mem hb
    · obtain ⟨j, hj, rfl⟩ := List.getElem_of_mem hy
      have := k2 j (by omega)
      have e : ns.getD j 0 = ns[j] := by rw [List.getD_eq_getElem?_getD, List.getElem?_eq_getElem hj]; rfl
      rw [← e]; exact this
end
end FWV
namespace FW
open PySem PySem.Spec PyProof.Rows L2
section
variable {c : Amb}
@[simp] def dRevT (w : W) : W := fun e R => w e fun d => ∃ ds, d = .tuple ds ∧ R (.tuple ds.reverse)
theorem xd_revT {w : W} : ∀ σ H Q, tD c (dRevT w) σ H Q → FWV.tRevT c.K (tD c w) σ H Q := fun σ H Q ⟨e, F, H0, R, W, S, q, P⟩ =>
  ⟨e, F, H0, _, W, S, q, fun d v H1 F1 ⟨ds, hd, r⟩ x1 rv => by
    subst hd
    obtain ⟨a, vs, rfl, h1, h2⟩ := rv.tup_inv
    exact ⟨a, vs, rfl, same_t x1.ok.sub h1, (P.ext x1).newTup x1.ok (dpAll_rev h2) r⟩⟩
def rdMaxT : List D → (D → Prop) → Prop := fun ds R => ∃ ns : List Int, ds = [.tuple (ns.map .int)] ∧ 0 < ns.length ∧ ∀ m, m ∈ ns → (∀ y, y ∈ ns → y ≤ m) → R (.int m)
theorem cd_maxT : CallD c (FWV.rMaxT c.K) rdMaxT := by
  rintro H F vs ds R Q W rv ⟨ns, rfl, h, r⟩ P
  obtain ⟨v, rfl, q⟩ := reps1 rv
  obtain ⟨a, ws, rfl, h1, h2⟩ := q.tup_inv
  have e := dpAll_ints_inv ns ws h2
  subst e
  exact ⟨a, ns, rfl, same_t W.sub h1, h, fun m hm hle => P.here W (r m hm hle) .int⟩
@[simp] theorem rdMaxT_iff {ns : List Int} {R : D → Prop} : rdMaxT [.tuple (ns.map .int)] R ↔ 0 < ns.length ∧ ∀ m, m ∈ ns → (∀ y, y ∈ ns → y ≤ m) → R (.int m) := by
  constructor
  · rintro ⟨a, e, h⟩; simp at e; rw [e]; exact h
  · intro h; exact ⟨ns, rfl, h⟩
end
end FW
/-! FWP: what was told is changed: slots that are pinned, told data whose lists are new, and the way back to what was frozen before. -/
namespace FW
open PySem PySem.Spec PyProof.Rows L2
/-! ### data without lists -/
mutual
def noListD : D → Bool
  | .tuple xs => noListA xs
  | .list _ => false
  | .dict _ => false
  | _ => true
def noListA : List D → Bool
  | [] => true
  | x :: xs => noListD x && noListA xs
end
mutual
theorem rp_cut {K : PySem.W.Frag} {F Fb : Hp} : ∀ (d : D) (v : V), noListD d = true → Rp K F v d → Rp K (cutF F Fb) v d
  | .none, _, _, h => by cases h; exact .non
  | .bool b, _, _, h => by cases h; exact .bl b
  | .int i, _, _, h => by cases h; exact .int i
  | .str x, _, _, h => by cases h; exact .str x
  | .list ds, _, n, _ => by simp [noListD] at n
  | .dict ds, _, n, _ => by simp [noListD] at n
  | .tuple ds, _, n, h => by
    cases h with
    | tup hs ha =>
      have n : noListA ds = true := by simpa [noListD] using n
      refine .tup ?_ (rp_cutA ds _ n ha)
      rcases hs with (hs | ⟨o, hs⟩) | hs
      · exact .inl (.inl (cutF_some hs fun ⟨vs, e⟩ => by cases e))
      · exact .inl (.inr ⟨o, cutF_some hs fun ⟨vs, e⟩ => by cases e⟩)
      · exact .inr hs
theorem rp_cutA {K : PySem.W.Frag} {F Fb : Hp} : ∀ (ds : List D) (vs : List V), noListA ds = true → RpAll K F vs ds → RpAll K (cutF F Fb) vs ds
  | [], _, _, h => by cases h; exact .nil
  | d :: ds, _, n, h => by
    cases h with
    | cons h1 h2 =>
      have n : (noListD d && noListA ds) = true := n
      rw [Bool.and_eq_true] at n
      exact .cons (rp_cut d _ n.1 h1) (rp_cutA ds _ n.2 h2)
end
def atomD : D → Bool
  | .none => true
  | .bool _ => true
  | .int _ => true
  | .str _ => true
  | .dict [] => true
  | _ => false
section
variable {c : Amb} {E : XK} {H F H0 F0 H1 F1 H' F' : Hp} {σ : L2.St} {e : Sg} {X : Cx} {De : EndsD} {Dn : Ends}
theorem RepV.atom {v : V} {d : D} (h : RepV c F v d) (a : atomD d = true) (G : Hp) : RepV c G v d := by
  rcases h with h | ⟨rfl, rfl⟩
  · cases h with
    | non => exact .non
    | bl b => exact .bl
    | int i => exact .int
    | str x => exact .str
    | lst _ _ => cases a
    | tup _ _ => cases a
  · exact .inr ⟨rfl, rfl⟩
/-! ### for over a range: what was frozen ahead of it may be gone back to -/
def tIR (c : Amb) (w : WA) : TI := fun σ H R => ∃ e F H0 Rd, Wok c H F ∧ RepS c H0 σ H F e ∧ w e Rd ∧ ∀ ds J H' F', Rd ds → Ext c H F H' F' → (∀ G, Yields c J G ds) → R J H'
theorem xi_rng1R {w : WA} : ∀ σ H R, tIR c (iR1 w) σ H R → iRng1 (tA c w) σ H R := fun σ H R ⟨e, F, H0, Rd, W, S, q, P⟩ =>
  ⟨e, F, H0, _, W, S, q, fun ds vs H' F' ⟨j, hd, h1, h2, r⟩ x rv => by
    subst hd
    exact ⟨j, repVs_ints_inv (l := [j]) rv, h1, h2, P _ _ H' F' r x fun _ => yields_rng⟩⟩
theorem xi_rng2R {w : WA} : ∀ σ H R, tIR c (iR2 w) σ H R → iRng2 (tA c w) σ H R := fun σ H R ⟨e, F, H0, Rd, W, S, q, P⟩ =>
  ⟨e, F, H0, _, W, S, q, fun ds vs H' F' ⟨i, j, hd, h1, r⟩ x rv => by
    subst hd
    exact ⟨i, j, repVs_ints_inv (l := [i, j]) rv, h1, P _ _ H' F' r x fun _ => yields_rng⟩⟩
def forRunR (wg : WG) (wb : WS) (De : EndsD) : List D → Sg → Prop
  | [], e => De.nx e
  | d :: ds, e => wg d e fun e' => wb { De with nx := fun e2 => forRunR wg wb De ds e2, ct := fun e2 => forRunR wg wb De ds e2, bk := De.nx } e'
@[simp] def dForR (wi : WA) (wg : WG) (wb : WS) : WS := fun De e => wi e fun ds => forRunR wg wb De ds e
theorem xs_forR {wi : WA} {wg : WG} {wb : WS} {g : TG} (hg : gD c wg g) : ∀ Dn σ H, sD c E (dForR wi wg wb) Dn σ H → tFor (tIR c wi) g (sD c E wb) Dn σ H := fun Dn σ H ⟨e, F, H0, F0, De, x, S, q, K⟩ =>
  ⟨e, F, H0, _, x.ok, S, q, fun ds J H1 F1 i0 x1 Y => by
    refine ⟨fun i m σ H => m = ds.length - i ∧ i ≤ ds.length ∧ ∃ e F, Ext c H0 F0 H F ∧ RepS c H0 σ H F e ∧ forRunR wg wb De (ds.drop i) e, ⟨_, rfl, Nat.zero_le _, e, F1, x.trans x1, S.ext x.ok x1, i0⟩, ?_⟩
    rintro i m σ' H' ⟨rfl, hi, e', F', x', S', h'⟩
    by_cases hlt : i < ds.length
    · refine .inr ⟨(Y F').go i H' F' hlt x'.ok (fun _ _ h => h), fun σ2 H2 => ∃ e F, Ext c H0 F0 H2 F ∧ RepS c H0 σ2 H2 F e ∧ forRunR wg wb De (ds.drop (i + 1)) e, fun σ2 H2 ⟨e2, F2, a, b, f⟩ => ⟨ds.length - (i + 1), by omega, rfl, hlt, e2, F2, a, b, f⟩, fun v H2 y => ?_⟩
      have hd : ds[i]? = some ds[i] := List.getElem?_eq_getElem hlt
      rw [drop_at hlt] at h'
      obtain ⟨F2, x2, rv⟩ := (Y F').yld i _ H' F' v H2 hd x'.ok (fun _ _ h => h) y
      refine hg v _ σ' H2 F2 H0 e' _ _ x2.ok (S'.ext x'.ok x2) rv h' fun σ3 e3 r3 S3 => ?_
      exact ⟨e3, F2, H0, F0, _, x'.trans x2, S3, r3, fun e4 σ4 H4 F4 n z S4 => ⟨e4, F4, z, S4, n⟩, K.rt, K.rn, K.nx, fun e4 σ4 H4 F4 n z S4 => ⟨e4, F4, z, S4, n⟩, K.ex, K.base, K.rf, K.pin⟩
    · have he : i = ds.length := by omega
      subst he
      rw [List.drop_length] at h'
      exact .inl ⟨(Y F').stop H' F' x'.ok (fun _ _ h => h), K.nx e' σ' H' F' h' x' S'⟩⟩
theorem forRunR_go {wg : WG} {wb : WS} {De : EndsD} (I : List D → Sg → Prop) (ht : ∀ (d : D) (ds : List D) (e : Sg) (N : Sg → Prop), I (d :: ds) e → (∀ e2, I ds e2 → N e2) → wg d e fun e' => wb { De with nx := N, ct := N, bk := De.nx } e') (he : ∀ e, I [] e → De.nx e) :
    ∀ ds e, I ds e → forRunR wg wb De ds e
  | [], e, h => he e h
  | d :: ds, e, h => ht d ds e _ h fun e2 h2 => forRunR_go I ht he ds e2 h2
/-! ### pins -/
theorem RepS.to_fix (S : RepS c H0 σ H F e) {j : Nat} {d : D} (h : FW.rd e[j]? = some d) : RepS c H0 σ H F (e.set j (.fix false F d)) := by
  have hl : j < e.length := by
    cases q : e[j]? with
    | none => rw [q] at h; cases h
    | some s => exact (List.getElem?_eq_some_iff.mp q).1
  have off : ∀ {i : Nat} {s : Sl}, (e.set j (.fix false F d))[i]? = some s → (∀ k Fb d, s ≠ .fix k Fb d) → e[i]? = some s := fun {i s} hi hs => by
    by_cases z : j = i
    · subst z
      rw [List.getElem?_set_self hl] at hi
      exact absurd (Option.some.inj hi).symm (hs _ _ _)
    · rw [List.getElem?_set_ne z] at hi
      exact hi
  refine ⟨by simp [S.len], fun i d' hi => S.val i d' (off hi fun _ _ _ z => nomatch z), fun i o ds hi => S.ownO i o ds (off hi fun _ _ _ z => nomatch z), fun i k o1 o2 ds es a hik h1 h2 => S.distO i k o1 o2 ds es a hik (off h1 fun _ _ _ z => nomatch z) (off h2 fun _ _ _ z => nomatch z), fun i a hi => S.exc i a (off hi fun _ _ _ z => nomatch z), fun i k Fb d' hi => ?_⟩
  by_cases z : j = i
  · subst z
    rw [List.getElem?_set_self hl] at hi
    cases hi
    obtain ⟨v, h1, h2⟩ := S.rd h
    exact ⟨fun _ _ h => h, v, h1, h2⟩
  · rw [List.getElem?_set_ne z] at hi
    exact S.fix i k Fb d' hi
@[simp] def pinAll (Fb : Hp) : List Nat → Sg → Sg
  | [], e => e
  | j :: js, e => pinAll Fb js (match FW.rd e[j]? with
    | some d => e.set j (.fix false Fb d)
    | none => e)
theorem RepS.pins : ∀ (js : List Nat) {e : Sg}, RepS c H0 σ H F e → RepS c H0 σ H F (pinAll F js e)
  | [], e, S => S
  | j :: js, e, S => by
    unfold pinAll
    refine RepS.pins js ?_
    split
    · exact S.to_fix ‹_›
    · exact S
@[simp] def dPin (js : List Nat) (w : WS) : WS := fun De e => De.pin = true ∧ ∀ Fb, De.base Fb → w De (pinAll Fb js e)
theorem xs_pin {js : List Nat} {w : WS} : ∀ Dn σ H, sD c E (dPin js w) Dn σ H → sD c E w Dn σ H := fun Dn σ H ⟨e, F, H0, F0, De, x, S, ⟨hp, q⟩, K⟩ =>
  ⟨_, F, H0, F0, De, x, S.pins js, q F (K.pin hp F x.grow x.new), K⟩
/-- all pins are of this frozen part -/
@[simp] def allPin (Fb : Hp) : Sg → Prop
  | [] => True
  | .fix _ Fb' _ :: e => Fb' = Fb ∧ allPin Fb e
  | _ :: e => allPin Fb e
theorem allPin_at {Fb : Hp} : ∀ {e : Sg}, allPin Fb e → ∀ {i : Nat} {k : Bool} {Fb' : Hp} {d : D}, e[i]? = some (Sl.fix k Fb' d) → Fb' = Fb
  | [], _, i, _, _, _, h => by simp at h
  | s :: e, p, i, k, Fb', d, h => by
    have p' : allPin Fb e := by
      cases s with
      | fix _ _ _ => exact p.2
      | _ => exact p
    cases i with
    | zero =>
      simp at h
      subst h
      exact p.1
    | succ i => exact allPin_at p' (by simpa using h)
/-- back to what stood there -/
@[simp] def unpin1 : Sl → Sl
  | .fix false _ d => .val d
  | .val d => if atomD d = true then .val d else .un
  | _ => .un
@[simp] def unpin : Sg → Sg
  | [] => []
  | s :: e => unpin1 s :: unpin e
theorem unpin_len : ∀ e : Sg, (unpin e).length = e.length
  | [] => rfl
  | s :: e => congrArg (· + 1) (unpin_len e)
theorem unpin_at : ∀ {e : Sg} {i : Nat} {s : Sl}, (unpin e)[i]? = some s → ∃ s', e[i]? = some s' ∧ s = unpin1 s'
  | [], i, s, h => by simp at h
  | s' :: e, 0, s, h => by
    simp at h
    exact ⟨s', rfl, h.symm⟩
  | s' :: e, i + 1, s, h => by
    simp only [unpin, List.getElem?_cons_succ] at h
    simpa using unpin_at h
theorem unpin1_val {d : D} {s : Sl} (h : s = unpin1 (.val d)) : (s = .val d ∧ atomD d = true) ∨ s = .un := by
  by_cases a : atomD d = true
  · exact .inl ⟨h.trans (if_pos a), a⟩
  · exact .inr (h.trans (if_neg a))
theorem RepS.unpinTo {Fb F2 : Hp} (S : RepS c H0 σ H F e) (p : allPin Fb e) (G : Hp) (s : Same Fb F2) : RepS c H0 σ G F2 (unpin e) := by
  have noOwn : ∀ {i : Nat} {o : Option Hp} {ds : List D}, (FW.unpin e)[i]? = some (.ownO o ds) → False := fun {i o ds} h => by
    obtain ⟨s', _, h2⟩ := unpin_at h
    cases s' with
    | val d => rcases unpin1_val h2 with ⟨z, _⟩ | z <;> cases z
    | fix k _ _ => cases k <;> cases h2
    | _ => cases h2
  refine ⟨by rw [unpin_len]; exact S.len, fun i d h => ?_, fun i o ds h => (noOwn h).elim, fun i j o _ ds es a _ h => (noOwn h).elim, fun i a h => ?_, fun i k Fb' d h => ?_⟩
  · obtain ⟨s', h1, h2⟩ := unpin_at h
    cases s' with
    | val d' =>
      rcases unpin1_val h2 with ⟨z, z2⟩ | z
      · cases z
        obtain ⟨v, k1, k2⟩ := S.val i d h1
        exact ⟨v, k1, k2.atom z2 F2⟩
      · cases z
    | fix k Fb' d' =>
      cases k with
      | true => cases h2
      | false =>
        cases h2
        have := allPin_at p h1
        subst this
        obtain ⟨_, v, k1, k2⟩ := S.fix i false Fb' d h1
        exact ⟨v, k1, RepV.grow k2 s⟩
    | _ => cases h2
  · obtain ⟨s', _, h2⟩ := unpin_at h
    cases s' with
    | val d => rcases unpin1_val h2 with ⟨z, _⟩ | z <;> cases z
    | fix k _ _ => cases k <;> cases h2
    | _ => cases h2
  · obtain ⟨s', _, h2⟩ := unpin_at h
    cases s' with
    | val d => rcases unpin1_val h2 with ⟨z, _⟩ | z <;> cases z
    | fix k _ _ => cases k <;> cases h2
    | _ => cases h2
theorem RepS.unpin {Fb : Hp} (S : RepS c H0 σ H F e) (p : allPin Fb e) (G : Hp) : RepS c H0 σ G Fb (FW.unpin e) := S.unpinTo p G fun _ _ h => h
theorem unpin_own {e : Sg} {i : Nat} {o : Option Hp} {ds : List D} (h : (unpin e)[i]? = some (.ownO o ds)) : False := by
  obtain ⟨s', _, h2⟩ := unpin_at h
  cases s' with
  | val d => rcases unpin1_val h2 with ⟨z, _⟩ | z <;> cases z
  | fix k _ _ => cases k <;> cases h2
  | _ => cases h2
/-- some new lists are changed, and what was frozen behind Fb is forgotten -/
theorem Ext.smash {Fb : Hp} (x : Ext c H0 F0 H F) (s : Same Fb F) (b0 : Same F0 Fb ∧ ∀ b, F0 b = none → Fb b ≠ none → H0 b = none) {G : Hp} (k : ∀ b o, H b = some o → G b = some o ∨ ((∃ vs, F b = some (.lst vs)) ∧ Fb b = none)) : Ext c H0 F0 G Fb := by
  have ch : ∀ b, (∃ vs, F b = some (.lst vs)) → Fb b = none → H0 b = none := fun b ⟨vs, h1⟩ h2 => by
    have f0 : F0 b = none := by
      cases q : F0 b with
      | none => rfl
      | some o => rw [b0.1 b o q] at h2; cases h2
    exact x.new b f0 (by rw [h1]; simp)
  refine ⟨⟨fun b o h => ?_, ?_, ?_, fun P hP => ⟨?_, ?_⟩⟩, b0.1, fun b o h hr hp => ?_, b0.2, x.pre⟩
  · rcases k b o (x.ok.sub b o (s b o h)) with z | ⟨_, z⟩
    · exact z
    · rw [h] at z; cases z
  · obtain ⟨i, y, n, h1, h2, h3, h4, h5⟩ := x.ok.row
    refine ⟨i, y, n, ?_, h2, h3, h4, ?_⟩
    · rcases k _ _ h1 with z | ⟨⟨vs, z⟩, _⟩
      · exact z
      · rw [x.ok.rF] at z; cases z
    · rcases h5 with (h5 | ⟨o, h5⟩) | h5
      · rcases k _ _ h5 with z | ⟨z, z2⟩
        · exact .inl (.inl z)
        · have z3 := ch _ z z2
          rcases x.pre with (p | ⟨o, p⟩) | p
          · rw [z3] at p; cases p
          · rw [z3] at p; cases p
          · exact .inr p
      · rcases k _ _ h5 with z | ⟨⟨vs, z⟩, _⟩
        · exact .inl (.inr ⟨o, z⟩)
        · have := x.ok.sub _ _ z
          rw [h5] at this; cases this
      · exact .inr h5
  · cases q : Fb c.r with
    | none => rfl
    | some o => have := s _ _ q; rw [x.ok.rF] at this; cases this
  · obtain ⟨⟨ps, q, t⟩, f⟩ := x.ok.tab P hP
    rcases k _ _ q with z | ⟨⟨vs, z⟩, _⟩
    · exact ⟨ps, z, t⟩
    · rw [f] at z; cases z
  · cases q : Fb P with
    | none => rfl
    | some o => have := s _ _ q; rw [(x.ok.tab P hP).2] at this; cases this
  · rcases k b o (x.keep b o h hr hp) with z | ⟨z, z2⟩
    · exact z
    · rw [ch b z z2] at h; cases h
/-! ### what is told, its lists new -/
def spF (g : Glb) (f : Fd) : Sp := fun vs H Q _ => ∃ (c : Amb) (F : Hp) (ds : List D) (R : D → Prop), c.g = g ∧ Wok c H F ∧ RepVs c F vs ds ∧ f ds R ∧ ∀ d v H' F', R d → Ext c H F H' F' → RepV c (cutF F' F) v d → Q v H'
theorem xd_callF {f : Fd} {w : WA} : ∀ σ H Q, tD c (dCall f w) σ H Q → tCall (spF c.g f) [] E0 (tA c w) σ H Q := fun σ H Q ⟨e, F, H0, R, W, S, q, P⟩ =>
  ⟨e, F, H0, _, W, S, q, fun ds vs H1 F1 q1 x1 r1 => ⟨c, F1, ds, R, rfl, x1.ok, by rw [List.append_nil]; exact r1, q1, fun d v H' F' r x rv => P d v H' F' r (x1.trans x) (rv.grow cutF_sub)⟩⟩
theorem RepS.set_fixT (S : RepS c H0 σ H F e) (i : Nat) {v : V} {d : D} {Fb : Hp} (s : Same Fb F) (r : RepV c (cutF F Fb) v d) : RepS c H0 (σ.set i (some v)) H F (e.set i (.fix true Fb d)) := by
  have S1 := S.set_un i (some v)
  have off : ∀ {j : Nat} {s : Sl}, (e.set i (.fix true Fb d))[j]? = some s → (∀ k Fb d, s ≠ .fix k Fb d) → (e.set i .un)[j]? = some s := fun {j s} hj hs => by
    by_cases z : i = j
    · subst z
      by_cases hl : i < e.length
      · rw [List.getElem?_set_self hl] at hj
        exact absurd (Option.some.inj hj).symm (hs _ _ _)
      · rw [List.getElem?_eq_none (by simpa using hl)] at hj; cases hj
    · rw [List.getElem?_set_ne z] at hj ⊢
      exact hj
  refine ⟨by simp [S.len], fun j d' hj => S1.val j d' (off hj fun _ _ _ z => nomatch z), fun j o ds hj => S1.ownO j o ds (off hj fun _ _ _ z => nomatch z), fun j k o1 o2 ds es a hjk h1 h2 => S1.distO j k o1 o2 ds es a hjk (off h1 fun _ _ _ z => nomatch z) (off h2 fun _ _ _ z => nomatch z), fun j a hj => S1.exc j a (off hj fun _ _ _ z => nomatch z), fun j k Fb' d' hj => ?_⟩
  by_cases z : i = j
  · subst z
    by_cases hl : i < e.length
    · rw [List.getElem?_set_self hl] at hj
      cases hj
      exact ⟨s, v, by rw [List.getElem?_set_self (by rw [S.len]; exact hl)], r⟩
    · rw [List.getElem?_eq_none (by simpa using hl)] at hj; cases hj
  · rw [List.getElem?_set_ne z] at hj
    refine S1.fix j k Fb' d' ?_
    rw [List.getElem?_set_ne z]
    exact hj
@[simp] def dAsgF (i j : Nat) (f : Fd) (w : WA) : WS := fun De e => ∃ Fb d0, e[j]? = some (.fix false Fb d0) ∧ w e fun ds => f ds fun d => De.nx (e.set i (.fix true Fb d))
theorem xs_asgF {i j : Nat} {f : Fd} {w : WA} : ∀ Dn σ H, sD c E (dAsgF i j f w) Dn σ H → tAsg (tCall (spF c.g f) [] E0 (tA c w)) (gName i) Dn σ H := fun Dn σ H ⟨e, F, H0, F0, De, x, S, ⟨Fb, d0, hj, q⟩, K⟩ => by
  refine ⟨e, F, H0, _, x.ok, S, q, fun ds vs H1 F1 q1 x1 r1 => ⟨c, F1, ds, _, rfl, x1.ok, by rw [List.append_nil]; exact r1, q1, fun d v H' F' r x2 rv => ?_⟩⟩
  have s := (S.fix j false Fb d0 hj).1
  have x12 := x1.trans x2
  refine K.nx _ _ _ _ r (x.trans x12) ((S.ext x.ok x12).set_fixT i (s.trans x12.grow) (rv.grow (cutF_grow (fun _ _ h => h) fun b hb _ => ?_)))
  cases q2 : Fb b with
  | none => rfl
  | some o => rw [x1.grow b o (s b o q2)] at hb; cases hb
/-- told[1].append(e) -/
@[simp] def dSmash1 (i : Nat) (w : W) : WS := fun De e => ∃ Fb d0 ds, e[i]? = some (.fix true Fb (.tuple [d0, .list ds])) ∧ De.base Fb ∧ allPin Fb e ∧ ds.length < 1000000 ∧ w e fun d => d ≠ .dict [] ∧ De.nx (unpin e)
theorem xs_smash1 {i : Nat} {w : W} : ∀ Dn σ H, sD c E (dSmash1 i w) Dn σ H → tDrop (tBM c.K "list" rAppend (tOp (fun x y H Q => rIxL c.K x y H Q ∨ rIxT c.K x y H Q) (tVar i) (tC (.int 1))) (tCons (tD c w) tNil)) Dn σ H := fun Dn σ H ⟨e, F, H0, F0, De, x, S, ⟨Fb, d0, ds, hi, hb, hp, hl, q⟩, K⟩ => by
  obtain ⟨sb, v, h1, h2⟩ := S.fix i true Fb _ hi
  obtain ⟨a, vs, rfl, h3, h4⟩ := h2.tup_inv
  obtain ⟨v0, v1, rfl, g0, g1⟩ : ∃ v0 v1, vs = [v0, v1] ∧ Rp c.K (cutF F Fb) v0 d0 ∧ Rp c.K (cutF F Fb) v1 (.list ds) := by
    cases h4 with
    | cons a1 a2 => cases a2 with
      | cons b1 b2 => cases b2; exact ⟨_, _, rfl, a1, b1⟩
  obtain ⟨p, us, rfl, g2, g3⟩ := (show RepV c (cutF F Fb) v1 (.list ds) from .inl g1).list_inv
  obtain ⟨g4, g5⟩ := cutF_new g2
  have hH := x.ok.sub _ _ g4
  refine ⟨.ref a, h1, .inr ⟨a, _, 1, .ref p, rfl, rfl, same_t (Same.trans cutF_sub x.ok.sub) h3, atI_1, ?_⟩⟩
  refine .inl ⟨rfl, us, SqL.of hH⟩ |> fun z => ⟨z, e, F, H0, _, x.ok, S, q, fun d v H1 F1 ⟨hd, r⟩ x1 rv => ?_⟩
  have k1 := x1.grow _ _ g4
  have k2 := x1.ok.sub _ _ k1
  refine ⟨p, us, v, rfl, rfl, k2, len_lt (by rw [dpAll_length g3]; exact hl), ?_⟩
  refine K.nx _ _ _ _ r (Ext.smash (x.trans x1) (sb.trans x1.grow) (K.base Fb hb) fun b o h => ?_) ((S.ext x.ok x1).unpin hp _)
  by_cases z : b = p
  · subst z
    exact .inr ⟨⟨_, k1⟩, g5⟩
  · exact .inl (by rw [upd_ne z]; exact h)
/-- return (e, x), x the def's own list of data without lists -/
@[simp] def dRetFz (i : Nat) (w : W) : WS := fun De e => ∃ ds, e[i]? = some (.own ds) ∧ noListA ds = true ∧ w (e.set i (.val (.list ds))) fun d => noListD d = true ∧ De.rf (.tuple [d, .list ds])
theorem xs_retFz {i : Nat} {w : W} : ∀ Dn σ H, sD c E (dRetFz i w) Dn σ H → tRet (tTup (tCons (tD c w) (tCons (tVar i) tNil))) Dn σ H := fun Dn σ H ⟨e, F, H0, F0, De, x, S, ⟨ds, h, hn, q⟩, K⟩ => by
  obtain ⟨a, vs, h1, h2, h3, h4, h5, h6⟩ := S.own i ds h
  have xf := x.frz h2 h3 h4 h5
  refine ⟨_, upd F a (.lst vs), H0, _, xf.ok, S.frz h h1 h2 h3 h6, q, fun d v H1 F1 ⟨nd, r⟩ x1 rv => ⟨.ref a, h1, len_le (by show 2 ≤ 1000000; decide), fun p hpn => ?_⟩⟩
  have dd : d ≠ .dict [] := fun z => by rw [z] at nd; simp [noListD] at nd
  have x2 := (xf.trans x1).trans (Ext.laid x1.ok (.tup [v, .ref a]) hpn)
  have hpF : F1 p = none := x1.ok.newF hpn
  have up := upd_keep (o := HO.tup [v, .ref a]) hpF
  have ha1 : F1 a = some (.lst vs) := x1.grow _ _ upd_same
  have f0 : F0 a = none := by
    cases q0 : F0 a with
    | none => rfl
    | some o => rw [x.grow a o q0] at h3; cases h3
  refine K.rf _ _ _ _ r x2 (.inl (.tup (.inl (.inl (cutF_some upd_same fun ⟨_, z⟩ => by cases z))) (.cons ?_ (.cons (.lst (cutF_some (up _ _ ha1) fun _ => f0) ?_) .nil))))
  · exact rp_cut d v nd (dp_same up _ _ (rv.dp dd))
  · exact rp_cutA ds vs hn (dpAll_same (Same.trans (Same.trans (upd_keep h3) x1.grow) up) _ _ h6)
end
section
variable {P : Program} {w : World} {g : Glb} {mg : Str → Option Value} {base : Heap} {x : Str} {st : Stmt} {f : Addr} {fd : FuncData} {N ps : List Str} {k : Nat} {wb : WS}
/-- a def that hands back data whose lists are new -/
theorem calF {f0 : Fd} (Fn : FunP g.K x st f fd) (mgf : mg x = some (.ref f)) (b : Binds g.K fd ps []) (S : FnScope N ps (defScope st)) (hlen : ∀ ds R, f0 ds R → ds.length = ps.length)
    (hb : ∀ (cdv : Value) (A : Around) (outer : List PySem.Env) (s : Shared) (H : Hp) (E : XK) (r a : Addr) (ns : List Int), Room k (A.deeper (envOfC x (defScope st) s.heap.objs.size f cdv)) →
      PSs (cxOf CX0 P w g.K mg base N x (defScope st) f cdv A outer s H E).nox (defBody st) (sD ⟨g, r, a, ns⟩ E wb))
    (hp : ∀ ds R, f0 ds R → wb { nx := fun _ => R .none, rt := fun d => noListD d = true ∧ R d, rf := R } (startD N ds)) : C8.Cal P w g.K mg base (k + 1) x (spF g f0) [] := by
  refine ⟨f, fd, ps, [], Fn.ok S (fun vs H Q E h => ?_) (fun cdv A outer s H vs Q E hr h => ?_), mgf, Fn.kp, b, .nil⟩
  · obtain ⟨c, F, ds, R, _, _, rv, h, _⟩ := h
    rw [rv.length]; exact hlen ds R h
  · obtain ⟨⟨g', r, a, ns⟩, F, ds, R, hg, W, rv, h, P'⟩ := h
    have hg' : g' = g := hg
    subst hg'
    refine ⟨_, (hb cdv A outer s H E r a ns hr).nox, startD N ds, F, H, F, _, Ext.refl W, rep_start rv, hp ds R h, ?_⟩
    refine ⟨fun e σ H' F' q x S' => P' _ _ H' F' q x .non, fun d v H' F' ⟨nd, q⟩ x rv => P' d v H' F' q x ?_, fun _ _ _ _ _ z => z.elim, fun _ _ _ _ z => z.elim, fun _ _ _ _ z => z.elim, fun _ _ _ z => z.elim, fun _ z => z.elim, fun d v H' F' q x rv => P' d v H' F' q x rv, fun z => nomatch z⟩
    have dd : d ≠ .dict [] := fun z => by rw [z] at nd; simp [noListD] at nd
    exact .inl (rp_cut d v nd (rv.dp dd))
end
/-- where the row has been made, the way back open -/
theorem law_startB {g : Glb} {E : XK} {H : Hp} {a : Addr} {ns : List Int} {w : WS} {Q : VK} {n : Nat} (hP : ∀ P ∈ g.Ps, H P = some (.tbl #[])) (hs : SqL g.K H a (ns.map V.int)) (k : ∀ H', Q (.bl true) H')
    (hw : ∀ B : Hp → Prop, w { nx := fun _ => False, rt := fun d => d = .bool true, base := B, pin := true } (.un :: .val (.dict []) :: List.replicate n .un)) : ∀ p, H p = none →
      sAny g E w { nx := fun _ H' => Q .non H', rt := Q } (some (.ref a) :: some (.ref p) :: List.replicate n none) (upd H p (.lst [.ref a, .int 0, .int 0, .int 0])) := fun p hp => by
  obtain ⟨r, a', ns', e, F, H0, F0, De, x, S, q, K⟩ := law_start (w := fun De e => De.rt (.bool true) ∧ De = { nx := fun _ => False, rt := fun d => d = .bool true } ∧ e = .un :: .val (.dict []) :: List.replicate n .un) (E := E) hP hs k ⟨rfl, rfl, rfl⟩ p hp
  obtain ⟨_, rfl, rfl⟩ := q
  exact ⟨r, a', ns', _, F, H0, F0, _, x, S, hw fun Fb => Same F0 Fb ∧ ∀ b, F0 b = none → Fb b ≠ none → H0 b = none, K.nx, K.rt, K.rn, K.bk, K.ct, K.ex, fun Fb h => h, K.rf, fun _ Fb h1 h2 => ⟨h1, h2⟩⟩
end FW
/-! FWB: methods of lists of data; count(True), index(True) of a list of bools. -/
namespace FW
open PySem PySem.Spec PyProof.Rows L2
section
variable {X : Cx}
def eqB (v : Value) : Bool := match v with
  | .bool b => b
  | _ => false
theorem bools_of_vals : ∀ {bs : List Bool} {us : List Value}, Vals (bs.map V.bl) us → us = bs.map Value.bool
  | [], _, r => by cases r; rfl
  | b :: bs, _, r => by
    cases r with
    | cons h t => rw [show _ = Value.bool b from h, bools_of_vals t]; rfl
def rCntB (K : PySem.W.Frag) : V → List V → Hp → VK → Prop := fun x xs H Q => ∃ (p : Addr) (bs : List Bool), x = .ref p ∧ xs = [.bl true] ∧ SqL K H p (bs.map V.bl) ∧ Q (.int ((bs.countP id : Nat) : Int)) H
theorem mt_cntB : MtR X "list.count" (rCntB X.K) := by
  intro pins s σ H x xs v us Q I rx rxs h
  obtain ⟨p, bs, rfl, rfl, hs, q⟩ := h
  cases rx
  obtain ⟨u, rfl, ru⟩ := rxs.one
  obtain rfl : u = Value.bool true := ru
  obtain ⟨its, rv, ⟨⟨cls, dd, data, sl⟩, n, ho, hc, hdn, hd⟩, _⟩ := I.list hs
  simp only at hc hd
  subst hc hd
  have hi := bools_of_vals rv
  refine call_meets PySem.F.slot_list_count ⟨_, ho, rfl⟩ PySem.F.entry_list_count (PySem.F.args_list_count_2 _ _) (SeqAt.list_countAt p its.toArray n dd sl (.bool true) eqB) ⟨ho, fun y hy => ?_, ?_⟩
  · have hy : y ∈ its := by simpa using hy
    rw [hi] at hy
    obtain ⟨b, _, rfl⟩ := List.mem_map.mp hy
    have := SeqAt.EqAt.bool_bool (A := X.A.in1.in1) (s := s) b true
    cases b <;> exact SeqAt.EqAt.bool_bool _ true
  · have ec : its.toArray.toList.countP eqB = bs.countP id := by
      rw [show its.toArray.toList = its by simp, hi, List.countP_map]
      rfl
    refine ⟨.int ((bs.countP id : Nat) : Int), H, I.tok _, ⟨s.toks, ?_⟩, q⟩
    rw [ec]
end
section
variable {c : Amb} {E : XK} {H F H0 F0 H1 F1 : Hp} {σ : L2.St} {X : Cx}
def MethD (c : Amb) (r : V → List V → Hp → VK → Prop) (rd : List D → List D → (D → Prop) → Prop) : Prop := ∀ (H F : Hp) (a : Addr) (us : List V) (xs : List D) (vs : List V) (ds : List D) (R : D → Prop) (Q : VK), Wok c H F → F a = some (.lst us) → RpAll c.K F us xs → RepVs c F vs ds → rd xs ds R → Post c H F R Q → r (.ref a) vs H Q
@[simp] def dMeth (rd : List D → List D → (D → Prop) → Prop) (w : W) (wa : WA) : W := fun e R => w e fun d => ∃ xs, d = .list xs ∧ wa e fun ds => rd xs ds R
theorem xd_meth {r : V → List V → Hp → VK → Prop} {rd : List D → List D → (D → Prop) → Prop} (hm : MethD c r rd) {w : W} {wa : WA} : ∀ σ H Q, tD c (dMeth rd w wa) σ H Q → tBM c.K "list" r (tD c w) (tA c wa) σ H Q := fun σ H Q ⟨e, F, H0, R, W, S, q, P⟩ =>
  ⟨e, F, H0, _, W, S, q, fun d v H1 F1 ⟨xs, hd, q1⟩ x1 r1 => by
    subst hd
    obtain ⟨a, us, rfl, h1, h2⟩ := r1.list_inv
    refine ⟨.inl ⟨rfl, us, SqL.of (x1.ok.sub _ _ h1)⟩, e, F1, H0, _, x1.ok, S.ext W x1, q1, fun ds vs H2 F2 q2 x2 r2 => ?_⟩
    exact hm H2 F2 a us xs vs ds R Q x2.ok (x2.grow _ _ h1) (dpAll_same x2.grow _ _ h2) r2 q2 (P.ext (x1.trans x2))⟩
theorem dpAll_bools_inv {K : PySem.W.Frag} : ∀ (l : List Bool) (vs : List V), RpAll K F vs (l.map PyData.bool) → vs = l.map V.bl
  | [], _, h => by cases h; rfl
  | i :: l, _, h => by
    cases h with
    | cons h1 h2 =>
      cases h1
      rw [dpAll_bools_inv l _ h2]; rfl
def rdCntB : List D → List D → (D → Prop) → Prop := fun xs ds R => ∃ bs : List Bool, xs = bs.map .bool ∧ ds = [.bool true] ∧ R (.int ((bs.countP id : Nat) : Int))
theorem md_cntB : MethD c (rCntB c.K) rdCntB := by
  rintro H F a us xs vs ds R Q W h1 h2 rv ⟨bs, rfl, rfl, r⟩ P
  obtain ⟨v, rfl, q⟩ := reps1 rv
  have e := dpAll_bools_inv bs us h2
  subst e
  exact ⟨a, bs, rfl, by rw [q.bl_inv], SqL.of (W.sub _ _ h1), P.here W r .int⟩
def rdIdxB : List D → List D → (D → Prop) → Prop := fun xs ds R => ∃ (bs : List Bool) (j : Nat), xs = bs.map .bool ∧ ds = [.bool true] ∧ bs.length ≤ 1000 ∧ bs[j]? = some true ∧ (∀ m, m < j → bs[m]? = some false) ∧ R (.int (j : Nat))
theorem shaped_bools {bs : List Bool} : SeqAt.shaped (.list (bs.map .bool)) = true := (Sh.lst (n := 0) fun x hx => by
  obtain ⟨b, _, rfl⟩ := List.mem_map.mp hx
  exact Sh.bool).ok
theorem md_idxB : MethD c (rIndexD c.K) rdIdxB := by
  rintro H F a us xs vs ds R Q W h1 h2 rv ⟨bs, j, rfl, rfl, hl, hj, hm, r⟩ P
  obtain ⟨v, rfl, q⟩ := reps1 rv
  refine ⟨a, v, .bool true, bs.map .bool, j, .bool true, rfl, rfl, rp_dp _ _ (.lst (W.sub _ _ h1) (dpAll_same W.sub _ _ h2)), ?_, shaped_bools, shaped_bool, ?_, rfl, fun m z' hm' hz => ?_, P.here W r .int⟩
  · rw [q.bl_inv]
    exact .bl true
  · rw [List.getElem?_map, hj]; rfl
  · rw [List.getElem?_map, hm m hm'] at hz
    cases hz
    rfl
end
end FW
/-! FWQ: for x in told: x.append(e), told a list of lists of numbers, all of them new. -/
namespace FW
open PySem PySem.Spec PyProof.Rows L2
@[simp] def intsL (l : List Int) : D := .list (l.map .int)
section
variable {c : Amb} {E : XK} {H F H0 F0 H1 F1 H' F' : Hp} {σ : L2.St} {e : Sg} {X : Cx} {De : EndsD} {Dn : Ends}
theorem rpAll_ints {K : PySem.W.Frag} : ∀ (l : List Int), RpAll K F (l.map V.int) (l.map .int)
  | [] => .nil
  | i :: l => .cons (.int i) (rpAll_ints l)
theorem rpAll_ints_inv {K : PySem.W.Frag} : ∀ {vs : List V} {l : List Int}, RpAll K F vs (l.map .int) → vs = l.map V.int
  | [], [], _ => rfl
  | [], _ :: _, h => nomatch h
  | v :: vs, [], h => nomatch h
  | v :: vs, i :: l, h => by
    cases h with
    | cons h1 h2 =>
      cases h1
      rw [rpAll_ints_inv h2]
      rfl
theorem rows_inv {K : PySem.W.Frag} : ∀ {us : List V} {rows : List (List Int)}, RpAll K F us (rows.map intsL) → ∀ v ∈ us, ∃ p, ∃ l : List Int, v = .ref p ∧ F p = some (.lst (l.map V.int)) ∧ l ∈ rows
  | [], _, _, v, hv => by cases hv
  | u :: us, [], h, _, _ => nomatch h
  | u :: us, r :: rows, h, v, hv => by
    cases h with
    | cons h1 h2 =>
      rcases List.mem_cons.mp hv with z | z
      · subst z
        cases h1 with
        | lst a1 a2 => exact ⟨_, r, rfl, by rw [← rpAll_ints_inv a2]; exact a1, List.mem_cons_self⟩
      · obtain ⟨p, l, e1, e2, e3⟩ := rows_inv h2 v z
        exact ⟨p, l, e1, e2, List.mem_cons_of_mem _ e3⟩
theorem frzAll : ∀ (vs : List V) {F1 : Hp}, Ext c H0 F0 H F1 → (∀ v ∈ vs, ∃ p, ∃ l : List Int, v = .ref p ∧ H p = some (.lst (l.map V.int)) ∧ H0 p = none ∧ p ≠ c.r) →
    ∃ F2, ∃ rows : List (List Int), Same F1 F2 ∧ Ext c H0 F0 H F2 ∧ RpAll c.K F2 vs (rows.map intsL) ∧ ∀ b, F2 b ≠ none → F1 b ≠ none ∨ V.ref b ∈ vs
  | [], F1, x, _ => ⟨F1, [], fun _ _ h => h, x, .nil, fun _ h => .inl h⟩
  | v :: vs, F1, x, h => by
    obtain ⟨p, l, rfl, h1, h2, h3⟩ := h v List.mem_cons_self
    have key : ∃ F1', Same F1 F1' ∧ Ext c H0 F0 H F1' ∧ F1' p = some (.lst (l.map V.int)) ∧ ∀ b, F1' b ≠ none → F1 b ≠ none ∨ b = p := by
      cases q : F1 p with
      | none =>
        refine ⟨_, upd_keep q, x.frz h1 q h2 h3, upd_same, fun b hb => ?_⟩
        by_cases z : b = p
        · exact .inr z
        · rw [upd_ne z] at hb; exact .inl hb
      | some o =>
        have := x.ok.sub _ _ q
        rw [h1] at this
        cases this
        exact ⟨F1, fun _ _ h => h, x, q, fun _ h => .inl h⟩
    obtain ⟨F1', s1, x1, g1, n1⟩ := key
    obtain ⟨F2, rows, s2, x2, r2, n2⟩ := frzAll vs x1 fun v hv => h v (List.mem_cons_of_mem _ hv)
    refine ⟨F2, l :: rows, s1.trans s2, x2, .cons (.lst (s2 _ _ g1) (rpAll_ints l)) r2, fun b hb => ?_⟩
    rcases n2 b hb with z | z
    · rcases n1 b z with z | rfl
      · exact .inl z
      · exact .inr List.mem_cons_self
    · exact .inr (List.mem_cons_of_mem _ z)
/-- between two turns -/
def AppW (us : List V) (σ : L2.St) (j : Nat) (H : Hp) : Nat → Nat → L2.St → Hp → Prop := fun n m σ' H' => m = us.length - n ∧ n ≤ us.length ∧ ((n = 0 ∧ σ' = σ) ∨ ∃ o, σ' = σ.set j o) ∧ (∀ b o, H b = some o → V.ref b ∉ us → H' b = some o) ∧ ∀ b, V.ref b ∈ us → ∃ l : List Int, H' b = some (.lst (l.map V.int)) ∧ l.length ≤ 1000 + n
@[simp] def dForApp (i j : Nat) (k : Int) : WS := fun De e => ∃ Fb, ∃ rows : List (List Int), e[i]? = some (.fix true Fb (.list (rows.map intsL))) ∧ De.base Fb ∧ allPin Fb e ∧ i ≠ j ∧ j < e.length ∧ 0 < rows.length ∧ rows.length ≤ 1000 ∧ (∀ l ∈ rows, l.length ≤ 1000) ∧
  ∀ rows' : List (List Int), De.nx (((unpin e).set j .un).set i (.own (rows'.map intsL)))
theorem xs_forApp {i j : Nat} {k : Int} : ∀ Dn σ H, sD c E (dForApp i j k) Dn σ H → tFor (iList c.K (tVar i)) (gName j) (tDrop (tBM c.K "list" rAppend (tVar j) (tCons (tC (.int k)) tNil))) Dn σ H := fun Dn σ H ⟨e, F, H0, F0, De, x, S, ⟨Fb, rows, hi, hb, hp, hij, hj, r0, r1, rl, q⟩, K⟩ => by
  obtain ⟨sb, v, h1, h2⟩ := S.fix i true Fb _ hi
  obtain ⟨a, us, rfl, h3, h4⟩ := h2.list_inv
  obtain ⟨h5, h6⟩ := cutF_new h3
  have hl := dpAll_length h4
  rw [List.length_map] at hl
  have inn := rows_inv h4
  have ch : ∀ b vs, F b = some (.lst vs) → Fb b = none → H0 b = none := fun b vs g1 g2 => by
    have f0 : F0 b = none := by
      cases q : F0 b with
      | none => rfl
      | some o => rw [(K.base Fb hb).1 b o q] at g2; cases g2
    exact x.new b f0 (by rw [g1]; simp)
  have na : V.ref a ∉ us := fun z => by
    obtain ⟨p, l, e1, e2, _⟩ := inn _ z
    cases e1
    rw [h3] at e2
    cases e2
    obtain ⟨_, _, z2⟩ := List.mem_map.mp z
    cases z2
  have nr : ∀ {p vs}, F p = some (.lst vs) → p ≠ c.r := fun g z => by
    rw [z, x.ok.rF] at g; cases g
  refine ⟨.ref a, h1, a, rfl, ⟨us, SqL.of (x.ok.sub _ _ h5)⟩, AppW us σ j H, ⟨_, rfl, Nat.zero_le _, .inl ⟨rfl, rfl⟩, fun b o h _ => h, fun b hb => ?_⟩, ?_⟩
  · obtain ⟨p, l, e1, e2, e3⟩ := inn _ hb
    cases e1
    exact ⟨l, x.ok.sub _ _ (cutF_sub _ _ e2), Nat.le_trans (rl l e3) (Nat.le_add_right _ _)⟩
  · rintro n m σ' H' ⟨rfl, hn, hσ, k1, k2⟩
    have ha := k1 a _ (x.ok.sub _ _ h5) na
    by_cases hlt : n < us.length
    · refine .inr ⟨⟨us, us[n], SqL.of ha, List.getElem?_eq_getElem hlt⟩, AppW us σ j H (n + 1) (us.length - (n + 1)), fun σ2 H2 z => ⟨_, ?_, z⟩, fun y H2 ⟨e1, e2⟩ => ?_⟩
      · omega
      · subst e1
        have hy := e2 us (SqL.of ha)
        rw [List.getElem?_eq_getElem hlt] at hy
        cases hy
        have hm : us[n] ∈ us := List.getElem_mem hlt
        obtain ⟨p, l0, e3, _, _⟩ := inn _ hm
        rw [e3] at hm ⊢
        obtain ⟨l, g1, g2⟩ := k2 p hm
        have hs : ∃ o, σ'.set j (some (.ref p)) = σ.set j o := by
          rcases hσ with ⟨_, rfl⟩ | ⟨o, rfl⟩
          · exact ⟨_, rfl⟩
          · exact ⟨some (.ref p), by rw [List.set_set]⟩
        have hlen : j < σ'.length := by
          rcases hσ with ⟨_, rfl⟩ | ⟨o, rfl⟩
          · rw [S.len]; exact hj
          · rw [List.length_set, S.len]; exact hj
        refine ⟨.ref p, List.getElem?_set_self hlen, .inl ⟨rfl, _, SqL.of g1⟩, p, _, .int k, rfl, rfl, g1, len_lt (by rw [List.length_map]; omega), rfl, by omega, .inr hs, fun b o h nb => ?_, fun b hb => ?_⟩
        · have : b ≠ p := fun z => nb (by rw [z]; exact hm)
          rw [upd_ne this]
          exact k1 b o h nb
        · by_cases z : b = p
          · subst z
            exact ⟨l ++ [k], by rw [upd_same, List.map_append]; rfl, by simp; omega⟩
          · obtain ⟨l', g3, g4⟩ := k2 b hb
            exact ⟨l', by rw [upd_ne z]; exact g3, by omega⟩
    · have he : n = us.length := by omega
      subst he
      refine .inl ⟨⟨us, SqL.of ha, Nat.le_refl _⟩, ?_⟩
      obtain ⟨o, rfl⟩ : ∃ o, σ' = σ.set j o := by
        rcases hσ with ⟨z, _⟩ | z
        · omega
        · exact z
      have xs : Ext c H0 F0 H' Fb := Ext.smash x sb (K.base Fb hb) fun b o h => by
        by_cases z : V.ref b ∈ us
        · obtain ⟨p, l, e1, e2, _⟩ := inn _ z
          cases e1
          obtain ⟨e3, e4⟩ := cutF_new e2
          exact .inr ⟨⟨_, e3⟩, e4⟩
        · exact .inl (k1 b o h z)
      obtain ⟨F2, rows', s2, x2, r2, n2⟩ := frzAll us xs fun v hv => by
        obtain ⟨p, l0, rfl, e2, _⟩ := inn _ hv
        obtain ⟨e3, e4⟩ := cutF_new e2
        obtain ⟨l, g1, _⟩ := k2 p hv
        exact ⟨p, l, rfl, g1, ch _ _ e3 e4, nr e3⟩
      have fa : F2 a = none := by
        cases z : F2 a with
        | none => rfl
        | some o =>
          rcases n2 a (by rw [z]; simp) with z | z
          · exact absurd h6 z
          · exact absurd z na
      have S1 := (S.unpinTo hp H' s2).set_un j o
      have S2 := S1.set_own i ha fa (ch _ _ h5 h6) (nr h5) r2 fun j' _ es _ z => by
        by_cases y : j = j'
        · subst y
          by_cases hl : j < (unpin e).length
          · rw [List.getElem?_set_self hl] at z; cases z
          · rw [List.getElem?_eq_none (by simpa using hl)] at z; cases z
        · rw [List.getElem?_set_ne y] at z
          exact (unpin_own z).elim
      have hs : (σ.set j o)[i]? = some (some (.ref a)) := by rw [List.getElem?_set_ne (fun z => hij z.symm)]; exact h1
      have es : (σ.set j o).set i (some (.ref a)) = σ.set j o := by
        obtain ⟨hl, e1⟩ := List.getElem?_eq_some_iff.mp hs
        rw [← e1]
        exact List.set_getElem_self hl
      rw [es] at S2
      exact K.nx _ _ _ _ (q rows') x2 S2
/-! ### a list of one's own that is turned round -/
@[simp] def dRevO (i : Nat) : WS := fun De e => ∃ ds, e[i]? = some (.own ds) ∧ De.nx (e.set i (.own ds.reverse))
theorem rpAll_rev {K : PySem.W.Frag} : ∀ {vs : List V} {ds : List D}, RpAll K F vs ds → RpAll K F vs.reverse ds.reverse
  | _, _, .nil => .nil
  | _, _, .cons h t => by
    rw [List.reverse_cons, List.reverse_cons]
    exact dpAll_app (rpAll_rev t) (.cons h .nil)
theorem xs_revO {i : Nat} : ∀ Dn σ H, sD c E (dRevO i) Dn σ H → tDrop (tBM0 c.K "list" rReverse (tVar i)) Dn σ H := fun Dn σ H ⟨e, F, H0, F0, De, x, S, ⟨ds, h, q⟩, K⟩ => by
  obtain ⟨a, vs, h1, h2, h3, h4, h5, h6⟩ := S.own i ds h
  exact ⟨.ref a, h1, .inl ⟨rfl, vs, SqL.of h2⟩, a, vs, rfl, rfl, h2, K.nx _ _ _ _ q (x.mut h4 h2 h3 h5 _) (S.mut h h1 h3 h4 h5 (rpAll_rev h6))⟩
/-! ### a list of one's own, of lists that are new -/
@[simp] def dOwnF (i k : Nat) (w : WA) : WS := fun De e => ∃ Fb d0, e[k]? = some (.fix false Fb d0) ∧ w e fun ds => ds = [] ∧ De.nx (e.set i (.ownO (some Fb) []))
theorem xs_ownF {i k : Nat} {w : WA} : ∀ Dn σ H, sD c E (dOwnF i k w) Dn σ H → tAsg (tN c w) (gName i) Dn σ H := fun Dn σ H ⟨e, F, H0, F0, De, x, S, ⟨Fb, d0, hk, q⟩, K⟩ =>
  ⟨e, F, H0, _, x.ok, S, q, fun ds p vs H' F' ⟨hd, r⟩ x' hp hp' hF hr k => by
    subst hd
    cases k
    exact K.nx _ _ _ _ r (x.trans x') ((S.ext x.ok x').set_ownO i (some Fb) hp' hF (x.free hp) hr .nil fun j o es _ hj z => by
      obtain ⟨a, ws, h1, h2, _⟩ := S.ownO j o es hj
      rw [h1] at z
      cases z
      rw [hp] at h2; cases h2)⟩
/-- x.append(y), y a list of one's own of data without lists -/
@[simp] def dAppMv (i j k : Nat) : WS := fun De e => ∃ Fb d0 ds es, e[k]? = some (.fix false Fb d0) ∧ e[i]? = some (.ownO (some Fb) ds) ∧ e[j]? = some (.own es) ∧ i ≠ j ∧ noListA es = true ∧ ds.length < 1000000 ∧ De.nx ((e.set j (.val (.list es))).set i (.ownO (some Fb) (ds ++ [.list es])))
theorem xs_appMv {i j k : Nat} : ∀ Dn σ H, sD c E (dAppMv i j k) Dn σ H → tDrop (tBM c.K "list" rAppend (tVar i) (tCons (tVar j) tNil)) Dn σ H := fun Dn σ H ⟨e, F, H0, F0, De, x, S, ⟨Fb, d0, ds, es, hk, hi, hj, hij, hn, hl, q⟩, K⟩ => by
  have sb := (S.fix k false Fb d0 hk).1
  obtain ⟨a, vs, h1, h2, h3, h4, h5, h6⟩ := S.ownO i _ ds hi
  obtain ⟨b, ws, g1, g2, g3, g4, g5, g6⟩ := S.own j es hj
  have hab : a ≠ b := fun z => by
    subst z
    exact S.distO i j _ _ ds es a hij hi hj h1 g1
  have fb : Fb b = none := by
    cases z : Fb b with
    | none => rfl
    | some o => rw [sb b o z] at g3; cases g3
  refine ⟨.ref a, h1, .inl ⟨rfl, vs, SqL.of h2⟩, .ref b, g1, a, vs, .ref b, rfl, rfl, h2, len_lt (by rw [dpAll_length h6]; exact hl), ?_⟩
  have xf := x.frz g2 g3 g4 g5
  have S1 := S.frz hj g1 g2 g3 g6
  have ha : (upd F b (.lst ws)) a = none := by rw [upd_ne hab]; exact h3
  have hi' : (e.set j (.val (.list es)))[i]? = some (.ownO (some Fb) ds) := by rw [List.getElem?_set_ne (fun z => hij z.symm)]; exact hi
  have kk : RpAll c.K (cutO (upd F b (.lst ws)) (some Fb)) (vs ++ [.ref b]) (ds ++ [.list es]) :=
    dpAll_app (dpAll_same (cutO_grow (some Fb) (upd_keep g3)) _ _ h6) (.cons (.lst (cutF_some upd_same fun _ => fb) (rp_cutA es ws hn (dpAll_same (upd_keep g3) _ _ g6))) .nil)
  exact K.nx _ _ _ _ q (xf.mut h4 h2 ha h5 _) (S1.mutO hi' h1 ha h4 h5 kk)
/-- return x, x a list of one's own, of lists that are new -/
@[simp] def dRetFO (i : Nat) : WS := fun De e => ∃ Fb ds, e[i]? = some (.ownO (some Fb) ds) ∧ De.base Fb ∧ De.rf (.list ds)
theorem xs_retFO {i : Nat} : ∀ Dn σ H, sD c E (dRetFO i) Dn σ H → tRet (tVar i) Dn σ H := fun Dn σ H ⟨e, F, H0, F0, De, x, S, ⟨Fb, ds, h, hb, r⟩, K⟩ => by
  obtain ⟨a, vs, h1, h2, h3, h4, h5, h6⟩ := S.ownO i _ ds h
  have xf := x.frz h2 h3 h4 h5
  have b0 := K.base Fb hb
  have f0 : F0 a = none := by
    cases q0 : F0 a with
    | none => rfl
    | some o => rw [x.grow a o q0] at h3; cases h3
  have gr : Same (cutF F Fb) (cutF (upd F a (.lst vs)) F0) := cutF_grow (upd_keep h3) fun b h1 _ => by
    cases q0 : F0 b with
    | none => rfl
    | some o => rw [b0.1 b o q0] at h1; cases h1
  exact ⟨.ref a, h1, K.rf _ _ _ _ r xf (.inl (.lst (cutF_some upd_same fun _ => f0) (dpAll_same gr _ _ h6)))⟩
end
section
variable {P : Program} {w : World} {g : Glb} {mg : Str → Option Value} {base : Heap} {x : Str} {st : Stmt} {f : Addr} {fd : FuncData} {N ps : List Str} {k : Nat} {wb : WS}
/-- a def that hands back data whose lists are new, told what was there -/
theorem calFB {f0 : Fd} (Fn : FunP g.K x st f fd) (mgf : mg x = some (.ref f)) (b : Binds g.K fd ps []) (S : FnScope N ps (defScope st)) (hlen : ∀ ds R, f0 ds R → ds.length = ps.length)
    (hb : ∀ (cdv : Value) (A : Around) (outer : List PySem.Env) (s : Shared) (H : Hp) (E : XK) (r a : Addr) (ns : List Int), Room k (A.deeper (envOfC x (defScope st) s.heap.objs.size f cdv)) →
      PSs (cxOf CX0 P w g.K mg base N x (defScope st) f cdv A outer s H E).nox (defBody st) (sD ⟨g, r, a, ns⟩ E wb))
    (hp : ∀ ds R, f0 ds R → ∀ B : Hp → Prop, wb { nx := fun _ => R .none, rt := fun d => noListD d = true ∧ R d, rf := R, base := B, pin := true } (startD N ds)) : C8.Cal P w g.K mg base (k + 1) x (spF g f0) [] := by
  refine ⟨f, fd, ps, [], Fn.ok S (fun vs H Q E h => ?_) (fun cdv A outer s H vs Q E hr h => ?_), mgf, Fn.kp, b, .nil⟩
  · obtain ⟨c, F, ds, R, _, _, rv, h, _⟩ := h
    rw [rv.length]; exact hlen ds R h
  · obtain ⟨⟨g', r, a, ns⟩, F, ds, R, hg, W, rv, h, P'⟩ := h
    have hg' : g' = g := hg
    subst hg'
    refine ⟨_, (hb cdv A outer s H E r a ns hr).nox, startD N ds, F, H, F, _, Ext.refl W, rep_start rv, hp ds R h (fun Fb => Same F Fb ∧ ∀ b, F b = none → Fb b ≠ none → H b = none), ?_⟩
    refine ⟨fun e σ H' F' q x S' => P' _ _ H' F' q x .non, fun d v H' F' ⟨nd, q⟩ x rv => P' d v H' F' q x ?_, fun _ _ _ _ _ z => z.elim, fun _ _ _ _ z => z.elim, fun _ _ _ _ z => z.elim, fun _ _ _ z => z.elim, fun Fb z => z, fun d v H' F' q x rv => P' d v H' F' q x rv, fun _ Fb h1 h2 => ⟨h1, h2⟩⟩
    have dd : d ≠ .dict [] := fun z => by rw [z] at nd; simp [noListD] at nd
    exact .inl (rp_cut d v nd (rv.dp dd))
end
end FW
namespace FW
open PySem PySem.Spec PyProof.Rows L2
def top (i : Nat) : Stmt := PySem.Challenge.pw_fretways_k08_whole_no_less_movement.main.body.getD i (.Pass ⟨0, 0, 0, 0⟩)
abbrev s_all_within : Stmt := top 12
abbrev s_is_place : Stmt := top 13
abbrev s_check_neck : Stmt := top 14
abbrev s_check_reach : Stmt := top 15
abbrev s_check_tune : Stmt := top 16
abbrev s_places : Stmt := top 18
abbrev s_played : Stmt := top 21
abbrev s_table : Stmt := top 22
abbrev s_movement : Stmt := top 23
abbrev s_positions : Stmt := top 24
abbrev s_place_from : Stmt := top 25
abbrev s_next_row : Stmt := top 26
abbrev s_arrival : Stmt := top 27
abbrev s_walk : Stmt := top 28
abbrev s_law_taken : Stmt := top 30
abbrev s_law_alike : Stmt := top 31
abbrev s_law_neck : Stmt := top 32
abbrev s_law_places : Stmt := top 33
abbrev s_law_shape : Stmt := top 34
abbrev s_law_hand : Stmt := top 35
abbrev s_law_sounds : Stmt := top 36
abbrev s_law_positions : Stmt := top 37
abbrev s_law_plays : Stmt := top 38
abbrev s_law_can : Stmt := top 39
abbrev s_law_tune : Stmt := top 40
abbrev s_law_is_playing : Stmt := top 41
abbrev s_law_moved : Stmt := top 42
abbrev s_law_is_number : Stmt := top 43
abbrev s_law_shows : Stmt := top 44
abbrev s_law : Stmt := top 45
structure Txt (mg : Str → Option Value) : Prop where
  m_all : mg "all" = none
  m_len : mg "len" = none
  m_range : mg "range" = none
  m_tuple : mg "tuple" = none
  m_list : mg "list" = none
  m_zip : mg "zip" = none
  m_enumerate : mg "enumerate" = none
  m_min : mg "min" = none
  m_max : mg "max" = none
  m_isinstance : mg "isinstance" = none
  m_int : mg "int" = none
  m_str : mg "str" = none
  m_bool : mg "bool" = none
  m_sum : mg "sum" = none
  m_abs : mg "abs" = none
  m_reversed : mg "reversed" = none
  m_ValueError : mg "ValueError" = none
  c_MOST_STRINGS : ∃ t, mg "MOST_STRINGS" = some (.int (6) t)
  c_HIGHEST_TUNING : ∃ t, mg "HIGHEST_TUNING" = some (.int (60) t)
  c_MOST_FRETS : ∃ t, mg "MOST_FRETS" = some (.int (20) t)
  c_MOST_OF_HAND : ∃ t, mg "MOST_OF_HAND" = some (.int (6) t)
  c_HIGHEST_NOTE : ∃ t, mg "HIGHEST_NOTE" = some (.int (80) t)
  c_LONGEST_TUNE : ∃ t, mg "LONGEST_TUNE" = some (.int (30) t)
  c_CANNOT : ∃ t, mg "CANNOT" = some (.int (-1) t)
  ok_ : True
/-! ### the data of the program -/
def intsD (l : List Int) : D := .tuple (l.map PyData.int)
def neckD (t : List Int) (f c : Int) : D := .tuple [intsD t, .int f, .int c]
structure OkNeck (t : List Int) (f c : Int) : Prop where
  l1 : 1 ≤ t.length
  l2 : t.length ≤ 6
  n : ∀ x ∈ t, 0 ≤ x ∧ x ≤ 60
  f0 : 0 ≤ f
  f1 : f ≤ 20
  c0 : 0 ≤ c
  c1 : c ≤ f
structure OkShape (t : List Int) (f c : Int) (s : List Int) : Prop where
  len : s.length = t.length
  at_ : ∀ p ∈ s, p = -1 ∨ (c ≤ p ∧ p ≤ f)
@[simp] theorem shaped_intsD {l : List Int} : SeqAt.shaped (intsD l) = true := shaped_ints
@[simp] theorem eqv_intsD {l m : List Int} : PyData.eqv (intsD l) (intsD m) = decide (l = m) := eqv_ints
@[simp] theorem eqv_none_intsD {l : List Int} : PyData.eqv .none (intsD l) = false := rfl
@[simp] theorem eqv_intsD_none {l : List Int} : PyData.eqv (intsD l) .none = false := rfl
@[simp] theorem intsD_ne {l : List Int} : intsD l ≠ .dict [] := fun z => by cases z
@[simp] theorem intsD_str {l : List Int} {x : Str} : intsD l ≠ .str x := fun z => by cases z
@[simp] theorem seq_intsD {l : List Int} {xs : List D} : IsSeq (intsD l) xs ↔ xs = l.map PyData.int := isSeq_tup
@[simp] theorem intsD_inj {l m : List Int} : intsD l = intsD m ↔ l = m := by simp [intsD]
@[simp] theorem intsD_tup {l : List Int} {xs : List D} : intsD l = .tuple xs ↔ xs = l.map PyData.int := by
  constructor
  · intro h; cases h; rfl
  · intro h; rw [h]; rfl
@[simp] theorem neckD_inj {t t' : List Int} {f f' c c' : Int} : neckD t f c = neckD t' f' c' ↔ t = t' ∧ f = f' ∧ c = c' := by simp [neckD]
@[simp] theorem neckD_ne {t : List Int} {f c : Int} : neckD t f c ≠ .dict [] := fun z => by cases z
@[simp] theorem neck_1 {t : List Int} {f c : Int} {R : D → Prop} : rdIx (neckD t f c) (.int 1) R ↔ R (.int f) := by simp [neckD]
@[simp] theorem neck_2 {t : List Int} {f c : Int} {R : D → Prop} : rdIx (neckD t f c) (.int 2) R ↔ R (.int c) := by simp [neckD]
@[simp] theorem neck_0 {t : List Int} {f c : Int} {R : D → Prop} : rdIx (neckD t f c) (.int 0) R ↔ R (intsD t) := by simp [neckD]
@[simp] theorem seq_neckD {t : List Int} {f c : Int} {xs : List D} : IsSeq (neckD t f c) xs ↔ xs = [intsD t, .int f, .int c] := isSeq_tup
@[simp] theorem isNone_intsD {l : List Int} : isNone (intsD l) = false := rfl

/-! ### all_within -/
def allIn (lo hi : Int) (ns : List Int) : Bool := ns.all fun n => decide (lo ≤ n) && decide (n ≤ hi)
def f_all_within : Fd := fun ds R => ∃ d ns lo hi, ds = [d, .int lo, .int hi] ∧ IsSeq d (ns.map PyData.int) ∧ R (.bool (allIn lo hi ns))
theorem len_all_within : ∀ ds R, f_all_within ds R → ds.length = 3 := by
  rintro ds R ⟨d, ns, lo, hi, rfl, _⟩
  exact rfl
def W_all_within : WS := dRet (dAllW 1 2 (dVar 0))
theorem pure_all_within : ∀ ds R, f_all_within ds R → W_all_within { nx := fun _ => R .none, rt := R } (startD ["numbers", "least", "greatest"] ds) := by
  rintro ds R ⟨d, ns, lo, hi, rfl, hs, h⟩
  exact ⟨lo, hi, rfl, rfl, _, rfl, ns, hs, h⟩
theorem sc_all_within : FnScope ["numbers", "least", "greatest"] ["numbers", "least", "greatest"] (defScope s_all_within) := ⟨rfl, rfl, rfl, by decide +kernel, rfl, by decide +kernel, by decide +kernel⟩
/-- the scope of the generator expression -/
def genScope (s : Stmt) : Scope := match defBody s with
  | [.Return (some (.Call _ [.GeneratorExp _ _ sc _] _ _)) _] => sc
  | _ => { kind := .function, names := [], isGenerator := false, isCoroutine := false }
theorem clo_within (cells : List (Str × Addr)) : cloFrom cells (genScope s_all_within).names [] = ([("least", (cells.lookup ("least" : Str)).getD 0), ("greatest", (cells.lookup ("greatest" : Str)).getD 0)] : List (Str × Addr)) := rfl
section
variable {P : Program} {w : World} {g : Glb} {mg : Str → Option Value} {base : Heap}
theorem ok_all_within {fd : FuncData} (F : FunP g.K "all_within" s_all_within (He.fAd g.K ("all_within", none)) fd) (mgf : mg "all_within" = some (.ref (He.fAd g.K ("all_within", none)))) (T : Txt mg)
    (TB : GxR.TabB base mg (He.codeOf g.K ("all_within", none)) (He.tabOf g.K (He.codeOf g.K ("all_within", none)))) (hP : He.tabOf g.K (He.codeOf g.K ("all_within", none)) ∈ g.Ps) : C8.Cal P w g.K mg base 1 "all_within" (spD g f_all_within) [] := by
  refine calDc (N := ["numbers", "least", "greatest"]) (ps := ["numbers", "least", "greatest"]) (k := 0) (wb := W_all_within) F mgf (F.bindsN fun _ _ _ _ _ _ us hl => match us, hl with | [_, _, _], _ => rfl) sc_all_within len_all_within (fun cdv A outer s H E r a ns hcd hr => ?_) pure_all_within
  have key : ∀ y : Str, (defScope s_all_within).names.lookup y = some .cell → ∃ c, (cellsFrom (s.heap.objs.size + 1) (defScope s_all_within).names []).lookup y = some c := fun y h => cell_has h
  refine pssd_one (ps_w (ps_ret (pe_w (FWG.pe_all (Pre := fun σ => ∃ lo hi : Int, σ[1]? = some (some (V.int lo)) ∧ σ[2]? = some (some (V.int hi))) hr (by rfl) T.m_all (by decide +kernel) TB hcd ⟨rfl, rfl, by decide +kernel, rfl, rfl, fun y hy hf => ?_⟩ (pe_w (pv 0) xd_var) (fun pins σ H1 s1 hpre I1 => ?_) (fun _ => rfl)) (xd_allW hP))) xs_ret)
  · have all : ∀ y ∈ (genScope s_all_within).names, y.2 = NameKind.free → (defScope s_all_within).names.lookup y.1 = some .cell := by decide +kernel
    exact key _ (all y hy hf)
  · obtain ⟨lo, hi, h1, h2⟩ := hpre
    obtain ⟨m, hn, hl⟩ := I1.loc
    obtain ⟨u1, ⟨t1, r1⟩, l1⟩ := hl 1 "least" (.int lo) rfl h1 (.inr (.inl rfl))
    obtain ⟨u2, ⟨t2, r2⟩, l2⟩ := hl 2 "greatest" (.int hi) rfl h2 (.inr (.inl rfl))
    rcases l1 with ⟨z, _⟩ | ⟨_, c1, hc1, v1⟩
    · exact nomatch (show (some NameKind.cell : Option NameKind) = some .local from z)
    rcases l2 with ⟨z, _⟩ | ⟨_, c2, hc2, v2⟩
    · exact nomatch (show (some NameKind.cell : Option NameKind) = some .local from z)
    rw [r1] at v1
    rw [r2] at v2
    have ep : pbT 1 2 σ = fun n => decide (lo ≤ n) && decide (n ≤ hi) := by
      funext n
      unfold pbT
      rw [h1, h2]
    rw [ep]
    refine FWG.el_between (cl := c1) (ch := c2) rfl rfl rfl rfl ?_ ?_ v1 v2 (by decide) (by decide) (by decide) (by decide) (by decide)
    · show List.lookup _ (cloFrom _ (genScope s_all_within).names []) = _
      rw [clo_within, hc1]
      rfl
    · show List.lookup _ (cloFrom _ (genScope s_all_within).names []) = _
      rw [clo_within, hc2]
      rfl
end

/-! ### is_place -/
def isPlace (f c p : Int) : Bool := decide (c ≤ p) && decide (p ≤ f)
def f_is_place : Fd := fun ds R => ∃ t f c p, ds = [neckD t f c, .int p] ∧ R (.bool (isPlace f c p))
theorem len_is_place : ∀ ds R, f_is_place ds R → ds.length = 2 := by
  rintro ds R ⟨t, f, c, p, rfl, _⟩; rfl
def W_is_place : WS := (dSeq (dUnp [2, 3, 4] (dVar 0)) (dRet (dChain rdLe rdLe (dVar 4) (dVar 1) (dVar 3))))
def N_is_place : List Str := ["neck", "fret", "_", "frets", "capo"]
theorem sc_is_place : FnScope ["neck", "fret", "_", "frets", "capo"] ["neck", "fret"] (defScope s_is_place) := ⟨rfl, rfl, rfl, by decide +kernel, rfl, by decide +kernel, by decide +kernel⟩
theorem pure_is_place : ∀ ds R, f_is_place ds R → W_is_place { nx := fun _ => R .none, rt := R } (startD ["neck", "fret", "_", "frets", "capo"] ds) := by
  rintro ds R ⟨t, f, c, p, rfl, h⟩
  refine ⟨_, rfl, _, rfl, rfl, ?_⟩
  refine ⟨_, rfl, _, rfl, _, _, rfl, rfl, _, rfl, ?_⟩
  unfold isPlace at h
  by_cases q : c ≤ p
  · rw [if_pos (decide_eq_true q)]
    refine ⟨_, rfl, _, _, rfl, rfl, ?_⟩
    simpa [q] using h
  · rw [if_neg (by simpa using q)]
    simpa [q] using h
section
variable {P : Program} {w : World} {g : Glb} {mg : Str → Option Value} {base : Heap}
theorem ok_is_place {f : Addr} {fd : FuncData} (F : FunP g.K "is_place" s_is_place f fd) (mgf : mg "is_place" = some (.ref f)) (T : Txt mg)  : C8.Cal P w g.K mg base 1 "is_place" (spD g f_is_place) [] :=
  calD (N := ["neck", "fret", "_", "frets", "capo"]) (ps := ["neck", "fret"]) (k := 0) (wb := W_is_place) F mgf (F.bindsN fun _ _ _ _ _ _ us hl => match us, hl with | [_, _], _ => rfl) sc_is_place len_is_place (fun cdv A outer s H E r a ns hr =>
    (pssd_cons (ps_w (ps_asg (pe_w (pv 0) xd_var) (pg_tup rfl (pgs_cons (pg_name (i := 2) sc_is_place.nd rfl (.inl rfl)) (pgs_cons (pg_name (i := 3) sc_is_place.nd rfl (.inl rfl)) (pgs_cons (pg_name (i := 4) sc_is_place.nd rfl (.inl rfl)) pgs_nil))))) (xs_unp (is := [2, 3, 4]) rfl)) (pssd_one (ps_w (ps_ret (pe_w (pe_chain op_le op_le (pe_w (pv 4) xd_var) (pe_w (pv 1) xd_var) (pe_w (pv 3) xd_var)) (xd_chain od_le od_le))) xs_ret)))) pure_is_place
end

/-! ### moves of the hand -/
theorem absI_nonneg (i : Int) : 0 ≤ absI i := by unfold absI; split <;> omega
theorem absI_zero : absI 0 = 0 := rfl
theorem absI_sub (a b : Int) : absI (a - b) = absI (b - a) := by unfold absI; split <;> split <;> omega
def leastI : List Int → Int
  | [] => 0
  | [a] => a
  | a :: b :: l => if a ≤ leastI (b :: l) then a else leastI (b :: l)
theorem leastI_spec : ∀ l : List Int, l ≠ [] → leastI l ∈ l ∧ ∀ y ∈ l, leastI l ≤ y
  | [], h => absurd rfl h
  | [a], _ => ⟨List.mem_cons_self, fun y hy => by rw [List.mem_singleton.mp hy]; exact Int.le_refl _⟩
  | a :: b :: l, _ => by
    obtain ⟨h1, h2⟩ := leastI_spec (b :: l) (by simp)
    unfold leastI
    by_cases q : a ≤ leastI (b :: l)
    · rw [if_pos q]
      refine ⟨List.mem_cons_self, fun y hy => ?_⟩
      rcases List.mem_cons.mp hy with z | z
      · rw [z]; exact Int.le_refl _
      · exact Int.le_trans q (h2 y z)
    · rw [if_neg q]
      refine ⟨List.mem_cons_of_mem _ h1, fun y hy => ?_⟩
      rcases List.mem_cons.mp hy with z | z
      · rw [z]; omega
      · exact h2 y z
theorem leastI_eq {l : List Int} {m : Int} (h : m ∈ l) (k : ∀ y ∈ l, m ≤ y) : m = leastI l := by
  have ne : l ≠ [] := fun z => by rw [z] at h; cases h
  obtain ⟨h1, h2⟩ := leastI_spec l ne
  have a := k _ h1
  have b := h2 _ h
  omega
theorem leastI_nonneg {l : List Int} (h : ∀ y ∈ l, 0 ≤ y) : 0 ≤ leastI l := by
  cases l with
  | nil => exact Int.le_refl 0
  | cons a l => exact h _ (leastI_spec (a :: l) (by simp)).1
def moveL : List Int → Int
  | a :: b :: l => absI (b - a) + moveL (b :: l)
  | _ => 0
theorem moveL_nonneg : ∀ l : List Int, 0 ≤ moveL l
  | [] => Int.le_refl 0
  | [_] => Int.le_refl 0
  | a :: b :: l => by
    have := moveL_nonneg (b :: l)
    have := absI_nonneg (b - a)
    show 0 ≤ absI (b - a) + moveL (b :: l)
    omega
theorem moveL_app (a b : Int) : ∀ l : List Int, moveL (l ++ [a, b]) = moveL (l ++ [a]) + absI (b - a)
  | [] => by show absI (b - a) + 0 = 0 + absI (b - a); omega
  | [x] => by show absI (a - x) + (absI (b - a) + 0) = absI (a - x) + 0 + absI (b - a); omega
  | x :: y :: l => by
    have := moveL_app a b (y :: l)
    show absI (y - x) + moveL (y :: l ++ [a, b]) = absI (y - x) + moveL (y :: l ++ [a]) + absI (b - a)
    omega
theorem moveL_rev : ∀ l : List Int, moveL l.reverse = moveL l
  | [] => rfl
  | [a] => rfl
  | a :: b :: l => by
    have ih := moveL_rev (b :: l)
    rw [List.reverse_cons] at ih
    rw [List.reverse_cons, List.reverse_cons, List.append_assoc]
    show moveL (l.reverse ++ [b, a]) = absI (b - a) + moveL (b :: l)
    rw [moveL_app, ih, absI_sub]
    omega
theorem moveL_cut : ∀ (l r : List Int), moveL l + moveL r ≤ moveL (l ++ r)
  | [], r => by show 0 + moveL r ≤ moveL r; omega
  | [a], [] => by show (0 : Int) + 0 ≤ 0; decide
  | [a], b :: r => by
    have := absI_nonneg (b - a)
    show 0 + moveL (b :: r) ≤ absI (b - a) + moveL (b :: r)
    omega
  | a :: b :: l, r => by
    have := moveL_cut (b :: l) r
    show absI (b - a) + moveL (b :: l) + moveL r ≤ absI (b - a) + moveL (b :: l ++ r)
    omega
theorem moveL_shift (d : Int) : ∀ l : List Int, moveL (l.map (· + d)) = moveL l
  | [] => rfl
  | [a] => rfl
  | a :: b :: l => by
    have := moveL_shift d (b :: l)
    show absI (b + d - (a + d)) + moveL ((b :: l).map (· + d)) = absI (b - a) + moveL (b :: l)
    rw [this]
    have e : b + d - (a + d) = b - a := by omega
    rw [e]
theorem moveL_zip (l : List Int) : ((l.zip l.tail).map fun p => absI (p.2 - p.1)).sum = moveL l := by
  match l with
  | [] => rfl
  | [a] => rfl
  | a :: b :: l =>
    have ih := moveL_zip (b :: l)
    show (absI (b - a) :: (((b :: l).zip l).map fun p => absI (p.2 - p.1))).sum = absI (b - a) + moveL (b :: l)
    rw [List.sum_cons, ← ih]
    rfl
/-! ### positions, what can be played -/
def posTop (f c : Int) : Int := if c + 1 > f then c + 1 else f
def posN (f c : Int) : Nat := (posTop f c + 1 - (c + 1)).toNat
def posL (f c : Int) : List Int := (List.range (posN f c)).map fun (k : Nat) => c + 1 + (k : Int)
theorem posL_rng (f c : Int) : rngD (c + 1) (posN f c) = (posL f c).map PyData.int := by
  unfold rngD posL
  rw [List.map_map]
  rfl
theorem posL_mem {f c p : Int} : p ∈ posL f c ↔ c + 1 ≤ p ∧ p ≤ posTop f c := by
  unfold posL posN
  rw [List.mem_map]
  constructor
  · rintro ⟨k, hk, rfl⟩
    have := List.mem_range.mp hk
    omega
  · rintro ⟨h1, h2⟩
    exact ⟨(p - (c + 1)).toNat, List.mem_range.mpr (by omega), by omega⟩
theorem posN_pos (f c : Int) : 0 < posN f c := by unfold posN posTop; split <;> omega
theorem posL_ne (f c : Int) : posL f c ≠ [] := fun z => by
  have h1 := congrArg List.length z
  have := posN_pos f c
  simp [posL] at h1
  omega
theorem posL_len (f c : Int) : (posL f c).length = posN f c := by simp [posL]
theorem posN_le {f c : Int} (h : f ≤ 20) (h0 : 0 ≤ c) : posN f c ≤ 20 := by unfold posN posTop; split <;> omega
/-- by a string tuned to x -/
def hitB (f c n r p x : Int) : Bool := isPlace f c (n - x) && (decide (n - x = c) || (decide (p ≤ n - x) && decide (n - x ≤ p + r)))
def canB (t : List Int) (f c n r p : Int) : Bool := t.any (hitB f c n r p)
def playB (t : List Int) (f c r n : Int) : Bool := (posL f c).any fun p => canB t f c n r p
def Hit (t : List Int) (f c n r p : Int) (s : Nat) (y : Int) : Prop := ∃ x, t[s]? = some x ∧ y = n - x ∧ hitB f c n r p x = true
theorem Hit.can {t : List Int} {f c n r p : Int} {s : Nat} {y : Int} (h : Hit t f c n r p s y) : canB t f c n r p = true := by
  obtain ⟨x, h1, _, h3⟩ := h
  exact List.any_eq_true.mpr ⟨x, List.mem_of_getElem? h1, h3⟩
/-- rows of positions in which the notes can be played -/
structure Val (t : List Int) (f c r : Int) (ns qs : List Int) : Prop where
  len : qs.length = ns.length
  ok : ∀ (i : Nat) (n q : Int), ns[i]? = some n → qs[i]? = some q → q ∈ posL f c ∧ canB t f c n r q = true
structure IsLeast (t : List Int) (f c r : Int) (ns : List Int) (m : Int) : Prop where
  ex : ∃ qs, Val t f c r ns qs ∧ moveL qs = m
  le : ∀ qs, Val t f c r ns qs → m ≤ moveL qs
section
variable {t : List Int} {f c r : Int}
theorem Val.cons {n q : Int} {ns qs : List Int} : Val t f c r (n :: ns) (q :: qs) ↔ (q ∈ posL f c ∧ canB t f c n r q = true) ∧ Val t f c r ns qs := by
  constructor
  · intro h
    exact ⟨h.ok 0 n q rfl rfl, by simpa using h.len, fun i n' q' a b => h.ok (i + 1) n' q' (by simpa using a) (by simpa using b)⟩
  · rintro ⟨h1, h2⟩
    refine ⟨by simp [h2.len], fun i n' q' a b => ?_⟩
    cases i with
    | zero =>
      simp at a b
      subst a b
      exact h1
    | succ i => exact h2.ok i n' q' (by simpa using a) (by simpa using b)
theorem Val.nil : Val t f c r [] [] := ⟨rfl, fun i n q a => by simp at a⟩
theorem Val.rev {ns qs : List Int} (h : Val t f c r ns qs) : Val t f c r ns.reverse qs.reverse := by
  refine ⟨by simp [h.len], fun i n q a b => ?_⟩
  have h1 : i < ns.reverse.length := (List.getElem?_eq_some_iff.mp a).1
  rw [List.length_reverse] at h1
  rw [List.getElem?_reverse h1] at a
  rw [List.getElem?_reverse (by rw [h.len]; exact h1), h.len] at b
  exact h.ok _ n q a b
theorem Val.unrev {ns qs : List Int} (h : Val t f c r ns.reverse qs) : Val t f c r ns qs.reverse := by
  have := h.rev
  rwa [List.reverse_reverse] at this
theorem IsLeast.rev {ns : List Int} {m : Int} (h : IsLeast t f c r ns m) : IsLeast t f c r ns.reverse m := by
  obtain ⟨qs, h1, h2⟩ := h.ex
  exact ⟨⟨qs.reverse, h1.rev, by rw [moveL_rev]; exact h2⟩, fun qs hq => by
    have := h.le _ hq.unrev
    rwa [moveL_rev] at this⟩
theorem IsLeast.uniq {t' : List Int} {f' c' r' : Int} {ns ms : List Int} {m m' : Int} (h : IsLeast t f c r ns m) (h' : IsLeast t' f' c' r' ms m') (k : ∀ qs, Val t f c r ns qs → ∃ ps, Val t' f' c' r' ms ps ∧ moveL ps = moveL qs) (k' : ∀ qs, Val t' f' c' r' ms qs → ∃ ps, Val t f c r ns ps ∧ moveL ps = moveL qs) : m = m' := by
  obtain ⟨qs, h1, rfl⟩ := h.ex
  obtain ⟨ps, h2, rfl⟩ := h'.ex
  obtain ⟨a, a1, a2⟩ := k qs h1
  obtain ⟨b, b1, b2⟩ := k' ps h2
  have := h'.le a a1
  have := h.le b b1
  omega
theorem IsLeast.one {ns : List Int} {m m' : Int} (h : IsLeast t f c r ns m) (h' : IsLeast t f c r ns m') : m = m' := h.uniq h' (fun qs hq => ⟨qs, hq, rfl⟩) (fun qs hq => ⟨qs, hq, rfl⟩)
end
theorem val_some {t : List Int} {f c r : Int} : ∀ ns : List Int, (∀ n ∈ ns, playB t f c r n = true) → ∃ qs, Val t f c r ns qs
  | [], _ => ⟨[], Val.nil⟩
  | n :: ns, h => by
    obtain ⟨qs, hq⟩ := val_some ns fun m hm => h m (List.mem_cons_of_mem _ hm)
    obtain ⟨p, h1, h2⟩ := List.any_eq_true.mp (h n List.mem_cons_self)
    exact ⟨p :: qs, Val.cons.mpr ⟨⟨h1, h2⟩, hq⟩⟩
theorem val_play {t : List Int} {f c r : Int} {ns qs : List Int} (h : Val t f c r ns qs) : ∀ n ∈ ns, playB t f c r n = true := by
  intro n hn
  obtain ⟨i, hi, rfl⟩ := List.getElem_of_mem hn
  obtain ⟨h1, h2⟩ := h.ok i _ _ (List.getElem?_eq_getElem hi) (List.getElem?_eq_getElem (by rw [h.len]; exact hi))
  exact List.any_eq_true.mpr ⟨_, h1, h2⟩
/-! ### the table -/
def cand (ps row : List Int) : List (Int × Int) := (ps.zip row).filter fun q => decide (q.2 ≠ -1)
def arrL (ps row : List Int) (p : Int) : List Int := (cand ps row).map fun q => q.2 + absI (p - q.1)
def arrV (ps row : List Int) (p : Int) : Int := leastI (arrL ps row p)
def nextR (t : List Int) (f c r n : Int) (row : List Int) : List Int := (posL f c).map fun p => if canB t f c n r p = true then arrV (posL f c) row p else -1
/-- the row of the last of these notes, the last one first -/
def rowAt (t : List Int) (f c r : Int) : List Int → List Int
  | [] => (posL f c).map fun _ => 0
  | n :: ns => nextR t f c r n (rowAt t f c r ns)
def rowsRev (t : List Int) (f c r : Int) : List Int → List (List Int)
  | [] => []
  | n :: ns => rowAt t f c r (n :: ns) :: rowsRev t f c r ns
theorem zip_map_self (g : Int → Int) : ∀ ps : List Int, ps.zip (ps.map g) = ps.map fun p => (p, g p)
  | [] => rfl
  | p :: ps => by rw [List.map_cons, List.zip_cons_cons, zip_map_self g ps, List.map_cons]
theorem cand_map {g : Int → Int} {ps : List Int} {q v : Int} : (q, v) ∈ cand ps (ps.map g) ↔ q ∈ ps ∧ v = g q ∧ v ≠ -1 := by
  unfold cand
  rw [zip_map_self, List.mem_filter, List.mem_map]
  constructor
  · rintro ⟨⟨p, hp, e⟩, h⟩
    cases e
    exact ⟨hp, rfl, by simpa using h⟩
  · rintro ⟨h1, rfl, h2⟩
    exact ⟨⟨q, h1, rfl⟩, by simpa using h2⟩
section
variable {t : List Int} {f c r : Int}
theorem arr_nonneg {ps row : List Int} (h : ∀ q v, (q, v) ∈ cand ps row → 0 ≤ v) (p : Int) : 0 ≤ arrV ps row p := by
  refine leastI_nonneg fun y hy => ?_
  obtain ⟨⟨q, v⟩, hq, rfl⟩ := List.mem_map.mp hy
  have := h q v hq
  have := absI_nonneg (p - q)
  show 0 ≤ v + absI (p - q)
  omega
theorem arr_le {ps row : List Int} {p q v : Int} (h : (q, v) ∈ cand ps row) : arrV ps row p ≤ v + absI (p - q) := by
  have hm : v + absI (p - q) ∈ arrL ps row p := List.mem_map.mpr ⟨(q, v), h, rfl⟩
  exact (leastI_spec _ (fun z => by rw [z] at hm; cases hm)).2 _ hm
theorem rowAt_nonneg : ∀ ns : List Int, ∀ q v, (q, v) ∈ cand (posL f c) (rowAt t f c r ns) → 0 ≤ v
  | [], q, v, h => by
    have := (cand_map (g := fun _ => 0)).mp h
    omega
  | n :: ns, q, v, h => by
    obtain ⟨_, h2, h3⟩ := cand_map.mp h
    split at h2
    · rw [h2]; exact arr_nonneg (rowAt_nonneg ns) q
    · exact absurd h2 h3
theorem cand_next {n : Int} {ns : List Int} {q v : Int} : (q, v) ∈ cand (posL f c) (rowAt t f c r (n :: ns)) ↔ q ∈ posL f c ∧ canB t f c n r q = true ∧ v = arrV (posL f c) (rowAt t f c r ns) q := by
  have hn := arr_nonneg (rowAt_nonneg (t := t) (f := f) (c := c) (r := r) ns) q
  constructor
  · intro h
    obtain ⟨h1, h2, h3⟩ := cand_map.mp h
    split at h2
    · exact ⟨h1, ‹_›, h2⟩
    · exact absurd h2 h3
  · rintro ⟨h1, h2, h3⟩
    refine cand_map.mpr ⟨h1, ?_, by omega⟩
    rw [if_pos h2]
    exact h3
theorem arr_first {q : Int} (hq : q ∈ posL f c) : arrV (posL f c) (rowAt t f c r []) q = 0 := by
  have h0 : (q, (0 : Int)) ∈ cand (posL f c) (rowAt t f c r []) := (cand_map (g := fun _ => 0)).mpr ⟨hq, rfl, by decide⟩
  have h1 := arr_le (p := q) h0
  have h2 := arr_nonneg (rowAt_nonneg (t := t) (f := f) (c := c) (r := r) []) q
  rw [Int.sub_self, absI_zero] at h1
  omega
/-- no row of positions does with less -/
theorem low_bound : ∀ (n : Int) (ns : List Int) (q : Int) (qs : List Int), Val t f c r (n :: ns) (q :: qs) → ∃ v, (q, v) ∈ cand (posL f c) (rowAt t f c r (n :: ns)) ∧ v ≤ moveL (q :: qs)
  | n, [], q, qs, h => by
    obtain ⟨⟨h1, h2⟩, h3⟩ := Val.cons.mp h
    have := h3.len
    cases qs with
    | nil => exact ⟨0, cand_next.mpr ⟨h1, h2, (arr_first h1).symm⟩, Int.le_refl 0⟩
    | cons => simp at this
  | n, n' :: ns, q, qs, h => by
    obtain ⟨⟨h1, h2⟩, h3⟩ := Val.cons.mp h
    cases qs with
    | nil => have := h3.len; simp at this
    | cons q' qs =>
      obtain ⟨v', k1, k2⟩ := low_bound n' ns q' qs h3
      refine ⟨_, cand_next.mpr ⟨h1, h2, rfl⟩, ?_⟩
      have := arr_le (p := q) k1
      show arrV _ _ q ≤ absI (q' - q) + moveL (q' :: qs)
      rw [absI_sub] at this
      omega
/-- a way back along the rows -/
def WalkR (ps : List Int) : Int → List (List Int) → List Int → Prop
  | _, [], [] => True
  | q, row :: rows, h :: hs => (∃ v, (h, v) ∈ cand ps row ∧ v + absI (q - h) = arrV ps row q) ∧ WalkR ps h rows hs
  | _, _, _ => False
theorem walk_sum : ∀ (n : Int) (ns : List Int) (q v : Int) (hs : List Int), (q, v) ∈ cand (posL f c) (rowAt t f c r (n :: ns)) → WalkR (posL f c) q (rowsRev t f c r ns) hs → Val t f c r (n :: ns) (q :: hs) ∧ moveL (q :: hs) = v
  | n, [], q, v, hs, h, w => by
    obtain ⟨h1, h2, h3⟩ := cand_next.mp h
    cases hs with
    | nil =>
      rw [arr_first h1] at h3
      exact ⟨Val.cons.mpr ⟨⟨h1, h2⟩, Val.nil⟩, h3.symm⟩
    | cons => exact (show False from w).elim
  | n, n' :: ns, q, v, hs, h, w => by
    obtain ⟨h1, h2, h3⟩ := cand_next.mp h
    cases hs with
    | nil => exact (show False from w).elim
    | cons p hs =>
      obtain ⟨⟨v', k1, k2⟩, w'⟩ := (show (∃ v, (p, v) ∈ cand (posL f c) (rowAt t f c r (n' :: ns)) ∧ v + absI (q - p) = arrV (posL f c) (rowAt t f c r (n' :: ns)) q) ∧ WalkR (posL f c) p (rowsRev t f c r ns) hs from w)
      obtain ⟨a1, a2⟩ := walk_sum n' ns p v' hs k1 w'
      refine ⟨Val.cons.mpr ⟨⟨h1, h2⟩, a1⟩, ?_⟩
      show absI (p - q) + moveL (p :: hs) = v
      rw [a2, h3, ← k2, absI_sub]
      omega
/-- .. of the least one of the last row: it is the least movement -/
theorem walk_least {n : Int} {ns : List Int} {q v : Int} {hs : List Int} (h : (q, v) ∈ cand (posL f c) (rowAt t f c r (n :: ns))) (hb : ∀ q' v', (q', v') ∈ cand (posL f c) (rowAt t f c r (n :: ns)) → v ≤ v') (w : WalkR (posL f c) q (rowsRev t f c r ns) hs) :
    IsLeast t f c r (n :: ns).reverse v := by
  obtain ⟨a1, a2⟩ := walk_sum n ns q v hs h w
  have k : IsLeast t f c r (n :: ns) v := by
    refine ⟨⟨_, a1, a2⟩, fun qs hq => ?_⟩
    cases qs with
    | nil => have := hq.len; simp at this
    | cons p qs =>
      obtain ⟨v', k1, k2⟩ := low_bound n ns p qs hq
      have := hb p v' k1
      omega
  exact k.rev
theorem rowsRev_len : ∀ ns : List Int, (rowsRev t f c r ns).length = ns.length
  | [] => rfl
  | n :: ns => congrArg (· + 1) (rowsRev_len ns)
theorem cand_ne {n : Int} {ns : List Int} (h : playB t f c r n = true) : cand (posL f c) (rowAt t f c r (n :: ns)) ≠ [] := fun z => by
  obtain ⟨p, h1, h2⟩ := List.any_eq_true.mp h
  have := cand_next (t := t) (f := f) (c := c) (r := r) (ns := ns).mpr ⟨h1, h2, rfl⟩
  rw [z] at this
  cases this
theorem cand_ne0 : cand (posL f c) (rowAt t f c r []) ≠ [] := fun z => by
  obtain ⟨p, hp⟩ := List.exists_mem_of_ne_nil _ (posL_ne f c)
  have h0 : (p, (0 : Int)) ∈ cand (posL f c) (rowAt t f c r []) := (cand_map (g := fun _ => 0)).mpr ⟨hp, rfl, by decide⟩
  rw [z] at h0
  cases h0
theorem rowAt_len : ∀ ns : List Int, (rowAt t f c r ns).length = posN f c
  | [] => by simp [rowAt, posL]
  | n :: ns => by simp [rowAt, nextR, posL]
end
structure OkTune (ns : List Int) : Prop where
  l1 : 1 ≤ ns.length
  l2 : ns.length ≤ 30
  n : ∀ x ∈ ns, 0 ≤ x ∧ x ≤ 80

/-! ### check_neck -/
def f_check_neck : Fd := fun ds R => ∃ t f c, ds = [neckD t f c] ∧ OkNeck t f c ∧ R .none
theorem len_check_neck : ∀ ds R, f_check_neck ds R → ds.length = 1 := by
  rintro ds R ⟨t, f, c, rfl, _⟩; rfl
theorem allIn_ok {lo hi : Int} {l : List Int} (h : ∀ x ∈ l, lo ≤ x ∧ x ≤ hi) : allIn lo hi l = true := by
  unfold allIn
  rw [List.all_eq_true]
  intro x hx
  simp [h x hx]
def W_check_neck : WS := (dSeq (dUnp [1, 2, 3] (dVar 0)) (dSeq (dIfS (bNot (bB (dChain rdLe rdLe (dC (.int 1)) (dCall rdLen (aCons (dVar 1) aNil)) (dC (.int 6))))) dNever dNext) (dSeq (dIfS (bNot (bTru (dCall f_all_within (aCons (dVar 1) (aCons (dC (.int 0)) (aCons (dC (.int 60)) aNil)))))) dNever dNext) (dSeq (dIfS (bNot (bB (dChain rdLe rdLe (dC (.int 0)) (dVar 2) (dC (.int 20))))) dNever dNext) (dIfS (bNot (bB (dChain rdLe rdLe (dC (.int 0)) (dVar 3) (dVar 2)))) dNever dNext)))))
def N_check_neck : List Str := ["neck", "tuning", "frets", "capo"]
theorem sc_check_neck : FnScope ["neck", "tuning", "frets", "capo"] ["neck"] (defScope s_check_neck) := ⟨rfl, rfl, rfl, by decide +kernel, rfl, by decide +kernel, by decide +kernel⟩
theorem pure_check_neck : ∀ ds R, f_check_neck ds R → W_check_neck { nx := fun _ => R .none, rt := R } (startD ["neck", "tuning", "frets", "capo"] ds) := by
  rintro ds R ⟨t, f, c, rfl, ok, h⟩
  have l1 : (1 : Int) ≤ t.length := by have := ok.l1; omega
  have l2 : (t.length : Int) ≤ 6 := by have := ok.l2; omega
  have a := allIn_ok ok.n
  simp [W_check_neck, neckD, intsD, l1, l2, ok.f0, ok.f1, ok.c0, ok.c1, f_all_within, h]
  exact ⟨_, t, 0, 60, ⟨rfl, rfl, rfl⟩, by simp, a⟩
section
variable {P : Program} {w : World} {g : Glb} {mg : Str → Option Value} {base : Heap}
theorem ok_check_neck {f : Addr} {fd : FuncData} (F : FunP g.K "check_neck" s_check_neck f fd) (mgf : mg "check_neck" = some (.ref f)) (T : Txt mg) (C_all_within : C8.Cal P w g.K mg base 1 "all_within" (spD g f_all_within) []) : C8.Cal P w g.K mg base 2 "check_neck" (spD g f_check_neck) [] :=
  calD (N := ["neck", "tuning", "frets", "capo"]) (ps := ["neck"]) (k := 1) (wb := W_check_neck) F mgf (F.bindsN fun _ _ _ _ _ _ us hl => match us, hl with | [_], _ => rfl) sc_check_neck len_check_neck (fun cdv A outer s H E r a ns hr =>
    (pssd_cons (ps_w (ps_asg (pe_w (pv 0) xd_var) (pg_tup rfl (pgs_cons (pg_name (i := 1) sc_check_neck.nd rfl (.inl rfl)) (pgs_cons (pg_name (i := 2) sc_check_neck.nd rfl (.inl rfl)) (pgs_cons (pg_name (i := 3) sc_check_neck.nd rfl (.inl rfl)) pgs_nil))))) (xs_unp (is := [1, 2, 3]) rfl)) (pssd_cons (ps_w (ps_if (pt_w (pt_not (pt_w (pt_chain op_le op_le (pe_w pe_int (xd_c fun _ => .int)) (pe_w (pe_callB call_len_seq (by rfl) T.m_len PySem.boot_len (pa_w (pa_cons (pe_w (pv 1) xd_var) (pa_w pa_nil xa_nil)) xa_cons)) (xd_cb cd_len)) (pe_w (pe_gint (by rfl) T.c_MOST_STRINGS) (xd_c fun _ => .int))) (xt_chain od_le od_le))) xt_not) (pssd_one (ps_w ps_never xs_never)) pssd_nil) xs_if) (pssd_cons (ps_w (ps_if (pt_w (pt_not (pt_w (pt_truth (pe_w (C8.pe_c C_all_within hr (by decide) (by rfl) (pa_w (pa_cons (pe_w (pv 1) xd_var) (pa_w (pa_cons (pe_w pe_int (xd_c fun _ => .int)) (pa_w (pa_cons (pe_w (pe_gint (by rfl) T.c_HIGHEST_TUNING) (xd_c fun _ => .int)) (pa_w pa_nil xa_nil)) xa_cons)) xa_cons)) xa_cons)) xd_call) (by intro _; rfl)) xt_tru)) xt_not) (pssd_one (ps_w ps_never xs_never)) pssd_nil) xs_if) (pssd_cons (ps_w (ps_if (pt_w (pt_not (pt_w (pt_chain op_le op_le (pe_w pe_int (xd_c fun _ => .int)) (pe_w (pv 2) xd_var) (pe_w (pe_gint (by rfl) T.c_MOST_FRETS) (xd_c fun _ => .int))) (xt_chain od_le od_le))) xt_not) (pssd_one (ps_w ps_never xs_never)) pssd_nil) xs_if) (pssd_one (ps_w (ps_if (pt_w (pt_not (pt_w (pt_chain op_le op_le (pe_w pe_int (xd_c fun _ => .int)) (pe_w (pv 3) xd_var) (pe_w (pv 2) xd_var)) (xt_chain od_le od_le))) xt_not) (pssd_one (ps_w ps_never xs_never)) pssd_nil) xs_if))))))) pure_check_neck
end

/-! ### check_tune -/
def f_check_tune : Fd := fun ds R => ∃ ns : List Int, ds = [.list (ns.map .int)] ∧ OkTune ns ∧ R .none
theorem len_check_tune : ∀ ds R, f_check_tune ds R → ds.length = 1 := by
  rintro ds R ⟨ns, rfl, _⟩; rfl
@[simp] theorem check_tune_iff {ns : List Int} {R : D → Prop} : f_check_tune [.list (ns.map .int)] R ↔ OkTune ns ∧ R .none := by
  constructor
  · rintro ⟨a, e, h⟩; simp at e; rw [e]; exact h
  · intro h; exact ⟨ns, rfl, h⟩
def W_check_tune : WS := (dSeq (dIfS (bNot (bB (dChain rdLe rdLe (dC (.int 1)) (dCall rdLen (aCons (dVar 0) aNil)) (dC (.int 30))))) dNever dNext) (dIfS (bNot (bTru (dCall f_all_within (aCons (dVar 0) (aCons (dC (.int 0)) (aCons (dC (.int 80)) aNil)))))) dNever dNext))
def N_check_tune : List Str := ["tune"]
theorem sc_check_tune : FnScope ["tune"] ["tune"] (defScope s_check_tune) := ⟨rfl, rfl, rfl, by decide +kernel, rfl, by decide +kernel, by decide +kernel⟩
theorem pure_check_tune : ∀ ds R, f_check_tune ds R → W_check_tune { nx := fun _ => R .none, rt := R } (startD N_check_tune ds) := by
  rintro ds R ⟨ns, rfl, ok, h⟩
  have l1 : (1 : Int) ≤ ns.length := by have := ok.l1; omega
  have l2 : (ns.length : Int) ≤ 30 := by have := ok.l2; omega
  have a := allIn_ok ok.n
  simp [W_check_tune, N_check_tune, l1, l2, f_all_within, h]
  exact ⟨_, ns, 0, 80, ⟨rfl, rfl, rfl⟩, by simp, a⟩
section
variable {P : Program} {w : World} {g : Glb} {mg : Str → Option Value} {base : Heap}
theorem ok_check_tune {f : Addr} {fd : FuncData} (F : FunP g.K "check_tune" s_check_tune f fd) (mgf : mg "check_tune" = some (.ref f)) (T : Txt mg) (C_all_within : C8.Cal P w g.K mg base 1 "all_within" (spD g f_all_within) []) : C8.Cal P w g.K mg base 2 "check_tune" (spD g f_check_tune) [] :=
  calD (N := ["tune"]) (ps := ["tune"]) (k := 1) (wb := W_check_tune) F mgf (F.bindsN fun _ _ _ _ _ _ us hl => match us, hl with | [_], _ => rfl) sc_check_tune len_check_tune (fun cdv A outer s H E r a ns hr =>
    (pssd_cons (ps_w (ps_if (pt_w (pt_not (pt_w (pt_chain op_le op_le (pe_w pe_int (xd_c fun _ => .int)) (pe_w (pe_callB call_len_seq (by rfl) T.m_len PySem.boot_len (pa_w (pa_cons (pe_w (pv 0) xd_var) (pa_w pa_nil xa_nil)) xa_cons)) (xd_cb cd_len)) (pe_w (pe_gint (by rfl) T.c_LONGEST_TUNE) (xd_c fun _ => .int))) (xt_chain od_le od_le))) xt_not) (pssd_one (ps_w ps_never xs_never)) pssd_nil) xs_if) (pssd_one (ps_w (ps_if (pt_w (pt_not (pt_w (pt_truth (pe_w (C8.pe_c C_all_within hr (by decide) (by rfl) (pa_w (pa_cons (pe_w (pv 0) xd_var) (pa_w (pa_cons (pe_w pe_int (xd_c fun _ => .int)) (pa_w (pa_cons (pe_w (pe_gint (by rfl) T.c_HIGHEST_NOTE) (xd_c fun _ => .int)) (pa_w pa_nil xa_nil)) xa_cons)) xa_cons)) xa_cons)) xd_call) (by intro _; rfl)) xt_tru)) xt_not) (pssd_one (ps_w ps_never xs_never)) pssd_nil) xs_if)))) pure_check_tune
end

/-! ### check_reach -/
def f_check_reach : Fd := fun ds R => ∃ r : Int, ds = [.int r] ∧ 0 ≤ r ∧ r ≤ 6 ∧ R .none
theorem len_check_reach : ∀ ds R, f_check_reach ds R → ds.length = 1 := by
  rintro ds R ⟨r, rfl, _⟩; rfl
@[simp] theorem check_reach_iff {r : Int} {R : D → Prop} : f_check_reach [.int r] R ↔ 0 ≤ r ∧ r ≤ 6 ∧ R .none := by
  constructor
  · rintro ⟨a, e, h⟩; simp at e; rw [e]; exact h
  · intro h; exact ⟨r, rfl, h⟩
def W_check_reach : WS := (dIfS (bNot (bB (dChain rdLe rdLe (dC (.int 0)) (dVar 0) (dC (.int 6))))) dNever dNext)
def N_check_reach : List Str := ["reach"]
theorem sc_check_reach : FnScope ["reach"] ["reach"] (defScope s_check_reach) := ⟨rfl, rfl, rfl, by decide +kernel, rfl, by decide +kernel, by decide +kernel⟩
theorem pure_check_reach : ∀ ds R, f_check_reach ds R → W_check_reach { nx := fun _ => R .none, rt := R } (startD N_check_reach ds) := by
  rintro ds R ⟨r, rfl, h1, h2, h⟩
  simp [W_check_reach, N_check_reach, h1, h2, h]
section
variable {P : Program} {w : World} {g : Glb} {mg : Str → Option Value} {base : Heap}
theorem ok_check_reach {f : Addr} {fd : FuncData} (F : FunP g.K "check_reach" s_check_reach f fd) (mgf : mg "check_reach" = some (.ref f)) (T : Txt mg)  : C8.Cal P w g.K mg base 1 "check_reach" (spD g f_check_reach) [] :=
  calD (N := ["reach"]) (ps := ["reach"]) (k := 0) (wb := W_check_reach) F mgf (F.bindsN fun _ _ _ _ _ _ us hl => match us, hl with | [_], _ => rfl) sc_check_reach len_check_reach (fun cdv A outer s H E r a ns hr =>
    (pssd_one (ps_w (ps_if (pt_w (pt_not (pt_w (pt_chain op_le op_le (pe_w pe_int (xd_c fun _ => .int)) (pe_w (pv 0) xd_var) (pe_w (pe_gint (by rfl) T.c_MOST_OF_HAND) (xd_c fun _ => .int))) (xt_chain od_le od_le))) xt_not) (pssd_one (ps_w ps_never xs_never)) pssd_nil) xs_if))) pure_check_reach
end

/-! ### places -/
def placesL (t : List Int) (f c n : Int) : List D := (t.zipIdx.filter fun p => isPlace f c (n - p.1)).map fun p => .tuple [.int (p.2 : Nat), .int (n - p.1)]
def f_places : Fd := fun ds R => ∃ t f c n, ds = [neckD t f c, .int n] ∧ OkNeck t f c ∧ R (.list (placesL t f c n))
theorem len_places : ∀ ds R, f_places ds R → ds.length = 2 := by
  rintro ds R ⟨t, f, c, n, rfl, _⟩; rfl
@[simp] theorem neckD_tup {t : List Int} {f c : Int} {xs : List D} : neckD t f c = .tuple xs ↔ xs = [intsD t, .int f, .int c] := by
  constructor
  · intro h; cases h; rfl
  · intro h; rw [h]; rfl
@[simp] theorem places_iff {t : List Int} {f c n : Int} {R : D → Prop} : f_places [neckD t f c, .int n] R ↔ OkNeck t f c ∧ R (.list (placesL t f c n)) := by
  constructor
  · rintro ⟨t', f', c', n', e, h⟩; simp at e; obtain ⟨⟨rfl, rfl, rfl⟩, rfl⟩ := e; exact h
  · intro h; exact ⟨_, _, _, _, rfl, h⟩
@[simp] theorem check_neck_iff {t : List Int} {f c : Int} {R : D → Prop} : f_check_neck [neckD t f c] R ↔ OkNeck t f c ∧ R .none := by
  constructor
  · rintro ⟨t', f', c', e, h⟩; simp at e; obtain ⟨rfl, rfl, rfl⟩ := e; exact h
  · intro h; exact ⟨_, _, _, rfl, h⟩
def W_places : WS := (dSeq (dDrop (dCall f_check_neck (aCons (dVar 0) aNil))) (dSeq (dUnp [2, 3, 3] (dVar 0)) (dRet (dN (dLcW (iEnm (aCons (dVar 2) aNil)) (tgT [4, 5]) (bTru (dCall f_is_place (aCons (dVar 0) (aCons (dOp rdSub (dVar 1) (dVar 5)) aNil)))) (dTup (aCons (dVar 4) (aCons (dOp rdSub (dVar 1) (dVar 5)) aNil))) [4, 5])))))
def N_places : List Str := ["neck", "note", "tuning", "_", "string", "start"]
theorem sc_places : FnScope ["neck", "note", "tuning", "_", "string", "start"] ["neck", "note"] (defScope s_places) := ⟨rfl, rfl, rfl, by decide +kernel, rfl, by decide +kernel, by decide +kernel⟩
theorem pure_places : ∀ ds R, f_places ds R → W_places { nx := fun _ => R .none, rt := R } (startD N_places ds) := by
  rintro ds R ⟨t, f, c, n, rfl, ok, h⟩
  refine ⟨_, rfl, t, f, c, rfl, ok, ?_⟩
  have l2 := ok.l2
  simp [N_places, neckD, intsD]
  rw [enumD_map]
  refine ⟨by omega, lcRun_map (fun p : Int × Nat => isPlace f c (n - p.1)) (fun p => .tuple [.int (p.2 : Nat), .int (n - p.1)]) _ [] (fun p _ K k => ?_) h⟩
  simp [f_is_place]
  refine ⟨t, f, c, n - p.1, ⟨rfl, rfl⟩, ?_⟩
  cases q : isPlace f c (n - p.1) with
  | true => simpa [q] using k
  | false => simpa [q] using k
section
variable {P : Program} {w : World} {g : Glb} {mg : Str → Option Value} {base : Heap}
theorem ok_places {f : Addr} {fd : FuncData} (F : FunP g.K "places" s_places f fd) (mgf : mg "places" = some (.ref f)) (T : Txt mg) (C_check_neck : C8.Cal P w g.K mg base 2 "check_neck" (spD g f_check_neck) []) (C_is_place : C8.Cal P w g.K mg base 1 "is_place" (spD g f_is_place) []) : C8.Cal P w g.K mg base 3 "places" (spD g f_places) [] :=
  calD (N := ["neck", "note", "tuning", "_", "string", "start"]) (ps := ["neck", "note"]) (k := 2) (wb := W_places) F mgf (F.bindsN fun _ _ _ _ _ _ us hl => match us, hl with | [_, _], _ => rfl) sc_places len_places (fun cdv A outer s H E r a ns hr =>
    (pssd_cons (ps_w (ps_expr (pe_w (C8.pe_c C_check_neck hr (by decide) (by rfl) (pa_w (pa_cons (pe_w (pv 0) xd_var) (pa_w pa_nil xa_nil)) xa_cons)) xd_call)) xs_drop) (pssd_cons (ps_w (ps_asg (pe_w (pv 0) xd_var) (pg_tup rfl (pgs_cons (pg_name (i := 2) sc_places.nd rfl (.inl rfl)) (pgs_cons (pg_name (i := 3) sc_places.nd rfl (.inl rfl)) (pgs_cons (pg_name (i := 3) sc_places.nd rfl (.inl rfl)) pgs_nil))))) (xs_unp (is := [2, 3, 3]) rfl)) (pssd_one (ps_w (ps_ret (pe_w (pe_w (pe_lc (own := [("string", 4), ("start", 5)]) (g := gTup _ 2 (gNames [4, 5])) rfl sc_places.nd (pi_w (FWN.pi_enumT (by rfl) T.m_enumerate (pa_w (pa_cons (pe_w (pv 2) xd_var) (pa_w pa_nil xa_nil)) xa_cons)) xi_enum) (blkOk_by (own := [("string", 4), ("start", 5)]) (N := ["neck", "note", "tuning", "_", "string", "start"]) (sc := (defScope s_places)) (by decide +kernel)) (fun _ _ _ _ _ => (pg_tup rfl (pgs_cons (pg_name (i := 4) sc_places.nd rfl (.inl rfl)) (pgs_cons (pg_name (i := 5) sc_places.nd rfl (.inl rfl)) pgs_nil)))) (fun _ _ _ _ _ => (pts_one (pt_w (pt_truth (pe_w (C8.pe_c C_is_place hr (by decide) (by rfl) (pa_w (pa_cons (pe_w (pv 0) xd_var) (pa_w (pa_cons (pe_w (pe_op op_sub (pe_w (pv 1) xd_var) (pe_w (pv 5) xd_var)) (xd_op od_sub)) (pa_w pa_nil xa_nil)) xa_cons)) xa_cons)) xd_call) (by intro _; rfl)) xt_tru))) (fun _ _ _ _ _ => (pe_w (pe_tup (pa_w (pa_cons (pe_w (pv 4) xd_var) (pa_w (pa_cons (pe_w (pe_op op_sub (pe_w (pv 1) xd_var) (pe_w (pv 5) xd_var)) (xd_op od_sub)) (pa_w pa_nil xa_nil)) xa_cons)) xa_cons)) xd_tup))) (xn_lc (gd_tup (is := [4, 5]) rfl) (stores_names [4, 5]))) xd_N)) xs_ret))))) pure_places
end

/-! ### _positions -/
def f_positions : Fd := fun ds R => ∃ t f c, ds = [neckD t f c] ∧ 0 ≤ c ∧ f ≤ 20 ∧ c ≤ f ∧ R (.list ((posL f c).map .int))
theorem len_positions : ∀ ds R, f_positions ds R → ds.length = 1 := by
  rintro ds R ⟨t, f, c, rfl, _⟩; rfl
@[simp] theorem positions_iff {t : List Int} {f c : Int} {R : D → Prop} : f_positions [neckD t f c] R ↔ 0 ≤ c ∧ f ≤ 20 ∧ c ≤ f ∧ R (.list ((posL f c).map .int)) := by
  constructor
  · rintro ⟨t', f', c', e, h⟩; simp at e; obtain ⟨rfl, rfl, rfl⟩ := e; exact h
  · intro h; exact ⟨_, _, _, rfl, h⟩
theorem rg_pos {f c : Int} (h1 : 0 ≤ c) (h2 : f ≤ 20) (h3 : c ≤ f) : RgOk (c + 1) ((if c + 1 > f then c + 1 else f) + 1) := by
  refine ⟨?_, ?_, ?_, ?_⟩ <;> first | omega | (split <;> omega)
def W_positions : WS := (dSeq (dUnp [1, 2, 3] (dVar 0)) (dRet (dLstRg (gRg2 (dOp rdAdd (dVar 3) (dC (.int 1))) (dOp rdAdd (dCall rdMax2 (aCons (dVar 2) (aCons (dOp rdAdd (dVar 3) (dC (.int 1))) aNil))) (dC (.int 1)))))))
def N_positions : List Str := ["neck", "_", "frets", "capo"]
theorem sc_positions : FnScope ["neck", "_", "frets", "capo"] ["neck"] (defScope s_positions) := ⟨rfl, rfl, rfl, by decide +kernel, rfl, by decide +kernel, by decide +kernel⟩
theorem pure_positions : ∀ ds R, f_positions ds R → W_positions { nx := fun _ => R .none, rt := R } (startD N_positions ds) := by
  rintro ds R ⟨t, f, c, rfl, h1, h2, h3, h⟩
  refine ⟨_, rfl, _, rfl, rfl, ?_⟩
  simp only [dRet, dLstRg, gRg2, dOp, rdI, dCall, aCons, aNil, dVar, dC, rdMax2_iff]
  refine ⟨_, rfl, _, _, rfl, rfl, ?_⟩
  refine ⟨_, rfl, _, rfl, _, _, rfl, rfl, rdMax2_iff.mpr ⟨_, _, rfl, rfl, _, _, rfl, rfl, rg_pos h1 h2 h3, ?_⟩⟩
  rw [← posL_rng] at h
  exact h
section
variable {P : Program} {w : World} {g : Glb} {mg : Str → Option Value} {base : Heap}
theorem ok_positions {f : Addr} {fd : FuncData} (F : FunP g.K "_positions" s_positions f fd) (mgf : mg "_positions" = some (.ref f)) (T : Txt mg)  : C8.Cal P w g.K mg base 1 "_positions" (spD g f_positions) [] :=
  calD (N := ["neck", "_", "frets", "capo"]) (ps := ["neck"]) (k := 0) (wb := W_positions) F mgf (F.bindsN fun _ _ _ _ _ _ us hl => match us, hl with | [_], _ => rfl) sc_positions len_positions (fun cdv A outer s H E r a ns hr =>
    (pssd_cons (ps_w (ps_asg (pe_w (pv 0) xd_var) (pg_tup rfl (pgs_cons (pg_name (i := 1) sc_positions.nd rfl (.inl rfl)) (pgs_cons (pg_name (i := 2) sc_positions.nd rfl (.inl rfl)) (pgs_cons (pg_name (i := 3) sc_positions.nd rfl (.inl rfl)) pgs_nil))))) (xs_unp (is := [1, 2, 3]) rfl)) (pssd_one (ps_w (ps_ret (pe_w (pe_listRg (by rfl) (by rfl) T.m_list (prg_w (prg_2 (by rfl) T.m_range (pe_w (pe_op op_add (pe_w (pv 3) xd_var) (pe_w pe_int (xd_c fun _ => .int))) (xd_op od_add)) (pe_w (pe_op op_add (pe_w (pe_callB (call_max2 (by rfl)) (by rfl) T.m_max (by decide +kernel) (pa_w (pa_cons (pe_w (pv 2) xd_var) (pa_w (pa_cons (pe_w (pe_op op_add (pe_w (pv 3) xd_var) (pe_w pe_int (xd_c fun _ => .int))) (xd_op od_add)) (pa_w pa_nil xa_nil)) xa_cons)) xa_cons)) (xd_cb cd_max2)) (pe_w pe_int (xd_c fun _ => .int))) (xd_op od_add))) xg_rg2)) xd_lstRg)) xs_ret)))) pure_positions
end

/-! ### _place_from -/
def f_place_from : Fd := fun ds R => ∃ t f c n r p, ds = [neckD t f c, .int n, .int r, .int p] ∧ OkNeck t f c ∧ (canB t f c n r p = false → R .none) ∧ ∀ (s : Nat) y, Hit t f c n r p s y → R (.tuple [.int (s : Nat), .int y])
theorem len_place_from : ∀ ds R, f_place_from ds R → ds.length = 4 := by
  rintro ds R ⟨t, f, c, n, r, p, rfl, _⟩; rfl
@[simp] theorem place_from_iff {t : List Int} {f c n r p : Int} {R : D → Prop} : f_place_from [neckD t f c, .int n, .int r, .int p] R ↔ OkNeck t f c ∧ (canB t f c n r p = false → R .none) ∧ ∀ (s : Nat) y, Hit t f c n r p s y → R (.tuple [.int (s : Nat), .int y]) := by
  constructor
  · rintro ⟨t', f', c', n', r', p', e, h⟩; simp at e; obtain ⟨⟨rfl, rfl, rfl⟩, rfl, rfl, rfl⟩ := e; exact h
  · intro h; exact ⟨_, _, _, _, _, _, rfl, h⟩
def nearB (c n r p x : Int) : Bool := decide (n - x = c) || (decide (p ≤ n - x) && decide (n - x ≤ p + r))
def W_place_from : WS := (dSeq (dUnp [4, 4, 5] (dVar 0)) (dSeq (dFor (iLst (dCall f_places (aCons (dVar 0) (aCons (dVar 1) aNil)))) (tgT [6, 7]) (dIfS (bOr (bB (dOp rdEq (dVar 7) (dVar 5))) (bB (dChain rdLe rdLe (dVar 3) (dVar 7) (dOp rdAdd (dVar 3) (dVar 2))))) (dRet (dTup (aCons (dVar 6) (aCons (dVar 7) aNil)))) dNext)) (dRet (dC .none))))
def N_place_from : List Str := ["neck", "note", "reach", "position", "_", "capo", "string", "fret"]
theorem sc_place_from : FnScope ["neck", "note", "reach", "position", "_", "capo", "string", "fret"] ["neck", "note", "reach", "position"] (defScope s_place_from) := ⟨rfl, rfl, rfl, by decide +kernel, rfl, by decide +kernel, by decide +kernel⟩
theorem pure_place_from : ∀ ds R, f_place_from ds R → W_place_from { nx := fun _ => R .none, rt := R } (startD N_place_from ds) := by
  rintro ds R ⟨t, f, c, n, r, p, rfl, ok, h0, h1⟩
  simp [W_place_from, N_place_from]
  refine ⟨ok, ?_⟩
  refine forRun_inv (fun ds e => ∃ (l : List (Int × Nat)) (x y : Sl), ds = l.map (fun q => PyData.tuple [.int (q.2 : Nat), .int (n - q.1)]) ∧ (∀ q ∈ l, t[q.2]? = some q.1 ∧ isPlace f c (n - q.1) = true) ∧ ((∀ q ∈ l, nearB c n r p q.1 = false) → canB t f c n r p = false) ∧
    e = [.val (neckD t f c), .val (.int n), .val (.int r), .val (.int p), .val (.int f), .val (.int c), x, y]) ?_ ?_ _ _ ⟨_, .un, .un, rfl, fun q hq => ?_, fun hall => ?_, rfl⟩
  · rintro d ds e ⟨l, x, y, hd, hl, hc, rfl⟩ k
    cases l with
    | nil => simp at hd
    | cons q l =>
      simp only [List.map_cons, List.cons.injEq] at hd
      obtain ⟨rfl, rfl⟩ := hd
      obtain ⟨k1, k2⟩ := hl q List.mem_cons_self
      have hit : nearB c n r p q.1 = true → R (.tuple [.int (q.2 : Nat), .int (n - q.1)]) := fun z => h1 q.2 _ ⟨q.1, k1, rfl, by unfold hitB; unfold nearB at z; rw [k2, z]; rfl⟩
      have go : nearB c n r p q.1 = false → ∀ x y : Sl, _ := fun z x y => k [.val (neckD t f c), .val (.int n), .val (.int r), .val (.int p), .val (.int f), .val (.int c), x, y] ⟨l, x, y, rfl, fun q' hq => hl q' (List.mem_cons_of_mem _ hq), fun a => hc fun q' hq => by
        rcases List.mem_cons.mp hq with e | e
        · rw [e]; exact z
        · exact a q' e, rfl⟩
      unfold nearB at hit go
      simp
      by_cases z1 : n - q.1 = c
      · simp [z1] at hit ⊢
        exact hit
      · by_cases z2 : p ≤ n - q.1
        · by_cases z3 : n - q.1 ≤ p + r
          · simp [z1, z2, z3] at hit ⊢
            exact .inr (.inr hit)
          · simp [z1, z2, z3] at go ⊢
            exact .inr ⟨by omega, go _ _⟩
        · simp [z1, z2] at go ⊢
          exact ⟨by omega, go _ _⟩
  · rintro e ⟨l, x, y, hd, hl, hc, rfl⟩
    cases l with
    | nil => exact h0 (hc fun q hq => by cases hq)
    | cons q l => simp at hd
  · obtain ⟨hq1, hq2⟩ := List.mem_filter.mp hq
    refine ⟨?_, hq2⟩
    have := List.mem_zipIdx_iff_getElem?.mp hq1
    exact this
  · unfold canB
    rw [List.any_eq_false]
    intro x hx
    obtain ⟨i, hi, e⟩ := List.getElem_of_mem hx
    have hm : (x, i) ∈ t.zipIdx := List.mem_zipIdx_iff_getElem?.mpr (by show t[i]? = some x; rw [List.getElem?_eq_getElem hi, e])
    unfold hitB
    by_cases z : isPlace f c (n - x) = true
    · have := hall (x, i) (List.mem_filter.mpr ⟨hm, z⟩)
      unfold nearB at this
      rw [z]
      simpa using this
    · simp [z]
section
variable {P : Program} {w : World} {g : Glb} {mg : Str → Option Value} {base : Heap}
theorem ok_place_from {f : Addr} {fd : FuncData} (F : FunP g.K "_place_from" s_place_from f fd) (mgf : mg "_place_from" = some (.ref f)) (T : Txt mg) (C_places : C8.Cal P w g.K mg base 3 "places" (spD g f_places) []) : C8.Cal P w g.K mg base 4 "_place_from" (spD g f_place_from) [] :=
  calD (N := ["neck", "note", "reach", "position", "_", "capo", "string", "fret"]) (ps := ["neck", "note", "reach", "position"]) (k := 3) (wb := W_place_from) F mgf (F.bindsN fun _ _ _ _ _ _ us hl => match us, hl with | [_, _, _, _], _ => rfl) sc_place_from len_place_from (fun cdv A outer s H E r a ns hr =>
    (pssd_cons (ps_w (ps_asg (pe_w (pv 0) xd_var) (pg_tup rfl (pgs_cons (pg_name (i := 4) sc_place_from.nd rfl (.inl rfl)) (pgs_cons (pg_name (i := 4) sc_place_from.nd rfl (.inl rfl)) (pgs_cons (pg_name (i := 5) sc_place_from.nd rfl (.inl rfl)) pgs_nil))))) (xs_unp (is := [4, 4, 5]) rfl)) (pssd_cons (ps_w (ps_for (g := gTup _ 2 (gNames [6, 7])) PassesOwn.never rfl (pi_w (pi_list (pe_w (C8.pe_c C_places hr (by decide) (by rfl) (pa_w (pa_cons (pe_w (pv 0) xd_var) (pa_w (pa_cons (pe_w (pv 1) xd_var) (pa_w pa_nil xa_nil)) xa_cons)) xa_cons)) xd_call)) xi_list) (pg_tup rfl (pgs_cons (pg_name (i := 6) sc_place_from.nd rfl (.inl rfl)) (pgs_cons (pg_name (i := 7) sc_place_from.nd rfl (.inl rfl)) pgs_nil))) (pssd_one (ps_w (ps_if (PW.pt (pw_w (pw_or (pt_w (pt_cmpR (op_eqD hr.units) (pe_w (pv 7) xd_var) (pe_w (pv 5) xd_var) (nomark _)) (xt_cmp od_eq)) (pw_or1 (pt_w (pt_chain op_le op_le (pe_w (pv 3) xd_var) (pe_w (pv 7) xd_var) (pe_w (pe_op op_add (pe_w (pv 3) xd_var) (pe_w (pv 2) xd_var)) (xd_op od_add))) (xt_chain od_le od_le)))) xt_or)) (pssd_one (ps_w (ps_ret (pe_w (pe_tup (pa_w (pa_cons (pe_w (pv 6) xd_var) (pa_w (pa_cons (pe_w (pv 7) xd_var) (pa_w pa_nil xa_nil)) xa_cons)) xa_cons)) xd_tup)) xs_ret)) pssd_nil) xs_if))) (xs_for (gd_tup (is := [6, 7]) rfl))) (pssd_one (ps_w (ps_ret (pe_w pe_non (xd_c fun _ => .non))) xs_ret))))) pure_place_from
end

/-! ### _arrival -/
def f_arrival : Fd := fun ds R => ∃ (ps row : List Int) (p : Int), ds = [.list (ps.map .int), .list (row.map .int), .int p] ∧ ps.length ≤ 1000 ∧ cand ps row ≠ [] ∧ ∀ h v, (h, v) ∈ cand ps row → v + absI (p - h) = arrV ps row p → R (.tuple [.int (arrV ps row p), .int h])
theorem len_arrival : ∀ ds R, f_arrival ds R → ds.length = 3 := by
  rintro ds R ⟨ps, row, p, rfl, _⟩; rfl
@[simp] theorem arrival_iff {ps row : List Int} {p : Int} {R : D → Prop} : f_arrival [.list (ps.map .int), .list (row.map .int), .int p] R ↔ ps.length ≤ 1000 ∧ cand ps row ≠ [] ∧ ∀ h v, (h, v) ∈ cand ps row → v + absI (p - h) = arrV ps row p → R (.tuple [.int (arrV ps row p), .int h]) := by
  constructor
  · rintro ⟨a, b, q, e, h⟩; simp at e; obtain ⟨rfl, rfl, rfl⟩ := e; exact h
  · intro h; exact ⟨_, _, _, rfl, h⟩
theorem zip_ints (ps row : List Int) : ((ps.map PyData.int).zip (row.map PyData.int)).map (fun p => PyData.tuple [p.1, p.2]) = (ps.zip row).map fun q => PyData.tuple [.int q.1, .int q.2] := by
  rw [List.zip_map, List.map_map]
  rfl
theorem ltP2_le {p q : Int × Int} (h : ltP2 p q = false) : q.1 ≤ p.1 := by
  unfold ltP2 at h
  split at h
  · omega
  · simpa using h
def W_arrival : WS := (dRet (dCall rdMinP (aCons (dN (dLcW (iZipL (aCons (dVar 0) (aCons (dVar 1) aNil))) (tgT [3, 4]) (bB (dOp rdNe (dVar 4) (dC (.int (-1))))) (dTup (aCons (dOp rdAdd (dVar 4) (dCall rdAbs (aCons (dOp rdSub (dVar 2) (dVar 3)) aNil))) (aCons (dVar 3) aNil))) [3, 4])) aNil)))
def N_arrival : List Str := ["positions", "row", "position", "here", "moved"]
theorem sc_arrival : FnScope ["positions", "row", "position", "here", "moved"] ["positions", "row", "position"] (defScope s_arrival) := ⟨rfl, rfl, rfl, by decide +kernel, rfl, by decide +kernel, by decide +kernel⟩
theorem pure_arrival : ∀ ds R, f_arrival ds R → W_arrival { nx := fun _ => R .none, rt := R } (startD N_arrival ds) := by
  rintro ds R ⟨ps, row, p, rfl, hl, hne, h⟩
  simp [W_arrival, N_arrival]
  rw [zip_ints]
  refine ⟨by omega, lcRun_map (fun q : Int × Int => decide (q.2 ≠ -1)) (fun q => PyData.tuple [.int (q.2 + absI (p - q.1)), .int q.1]) _ [] (fun q _ K k => ?_) ?_⟩
  · simp [N_arrival]
    by_cases z : q.2 = -1
    · simpa [z] using k
    · simpa [z] using k
  · rw [List.nil_append]
    have e : ((ps.zip row).filter fun q : Int × Int => decide (q.2 ≠ -1)).map (fun q => PyData.tuple [.int (q.2 + absI (p - q.1)), .int q.1]) = pairsD ((cand ps row).map fun q => (q.2 + absI (p - q.1), q.1)) := by
      unfold pairsD cand
      rw [List.map_map]
      rfl
    rw [e]
    refine ⟨_, rfl, by simpa using hne, fun m hm hb => ?_⟩
    obtain ⟨⟨a, v⟩, hq, rfl⟩ := List.mem_map.mp hm
    have hv : v + absI (p - a) = arrV ps row p := leastI_eq (List.mem_map.mpr ⟨(a, v), hq, rfl⟩) fun y hy => by
      obtain ⟨⟨a', v'⟩, hq', rfl⟩ := List.mem_map.mp hy
      exact ltP2_le (hb (v' + absI (p - a'), a') (List.mem_map.mpr ⟨(a', v'), hq', rfl⟩))
    have := h a v hq hv
    rw [← hv] at this
    exact this
section
variable {P : Program} {w : World} {g : Glb} {mg : Str → Option Value} {base : Heap}
theorem ok_arrival {f : Addr} {fd : FuncData} (F : FunP g.K "_arrival" s_arrival f fd) (mgf : mg "_arrival" = some (.ref f)) (T : Txt mg)  : C8.Cal P w g.K mg base 1 "_arrival" (spD g f_arrival) [] :=
  calD (N := ["positions", "row", "position", "here", "moved"]) (ps := ["positions", "row", "position"]) (k := 0) (wb := W_arrival) F mgf (F.bindsN fun _ _ _ _ _ _ us hl => match us, hl with | [_, _, _], _ => rfl) sc_arrival len_arrival (fun cdv A outer s H E r a ns hr =>
    (pssd_one (ps_w (ps_ret (pe_w (pe_callB (cr_minP (by rfl) hr.units) (by rfl) T.m_min (by decide +kernel) (pa_w (pa_cons (pe_w (pe_w (pe_lc (own := [("here", 3), ("moved", 4)]) (g := gTup _ 2 (gNames [3, 4])) rfl sc_arrival.nd (pi_w (RZ.pi_zipA (by rfl) T.m_zip (pa_w (pa_cons (pe_w (pv 0) xd_var) (pa_w (pa_cons (pe_w (pv 1) xd_var) (pa_w pa_nil xa_nil)) xa_cons)) xa_cons)) xi_zipL) (blkOk_by (own := [("here", 3), ("moved", 4)]) (N := ["positions", "row", "position", "here", "moved"]) (sc := (defScope s_arrival)) (by decide +kernel)) (fun _ _ _ _ _ => (pg_tup rfl (pgs_cons (pg_name (i := 3) sc_arrival.nd rfl (.inl rfl)) (pgs_cons (pg_name (i := 4) sc_arrival.nd rfl (.inl rfl)) pgs_nil)))) (fun _ _ _ _ _ => (pts_one (pt_w (pt_cmpR (op_neD hr.units) (pe_w (pv 4) xd_var) (pe_w (pe_gint (by rfl) T.c_CANNOT) (xd_c fun _ => .int)) (nomark _)) (xt_cmp od_ne)))) (fun _ _ _ _ _ => (pe_w (pe_tup (pa_w (pa_cons (pe_w (pe_op op_add (pe_w (pv 4) xd_var) (pe_w (pe_callB call_abs (by rfl) T.m_abs (by decide +kernel) (pa_w (pa_cons (pe_w (pe_op op_sub (pe_w (pv 2) xd_var) (pe_w (pv 3) xd_var)) (xd_op od_sub)) (pa_w pa_nil xa_nil)) xa_cons)) (xd_cb cd_abs))) (xd_op od_add)) (pa_w (pa_cons (pe_w (pv 3) xd_var) (pa_w pa_nil xa_nil)) xa_cons)) xa_cons)) xd_tup))) (xn_lc (gd_tup (is := [3, 4]) rfl) (stores_names [3, 4]))) xd_N) (pa_w pa_nil xa_nil)) xa_cons)) (xd_cb cd_minP))) xs_ret))) pure_arrival
end

/-! ### _next_row -/
def f_next_row : Fn := fun ds R => ∃ t f c n r row, ds = [neckD t f c, .int n, .int r, .list (row.map PyData.int)] ∧ OkNeck t f c ∧ cand (posL f c) row ≠ [] ∧ R ((nextR t f c r n row).map .int)
theorem len_next_row : ∀ ds R, f_next_row ds R → ds.length = 4 := by
  rintro ds R ⟨t, f, c, n, r, row, rfl, _⟩; rfl
@[simp] theorem next_row_iff {t row : List Int} {f c n r : Int} {R : List D → Prop} : f_next_row [neckD t f c, .int n, .int r, .list (row.map .int)] R ↔ OkNeck t f c ∧ cand (posL f c) row ≠ [] ∧ R ((nextR t f c r n row).map .int) := by
  constructor
  · rintro ⟨t', f', c', n', r', w', e, h⟩; simp at e; obtain ⟨⟨rfl, rfl, rfl⟩, rfl, rfl, rfl⟩ := e; exact h
  · intro h; exact ⟨_, _, _, _, _, _, rfl, h⟩
theorem cand_some {ps row : List Int} (h : cand ps row ≠ []) (p : Int) : ∃ a v, (a, v) ∈ cand ps row ∧ v + absI (p - a) = arrV ps row p := by
  have hm := (leastI_spec (arrL ps row p) (by unfold arrL; simpa using h)).1
  obtain ⟨⟨a, v⟩, h1, h2⟩ := List.mem_map.mp hm
  exact ⟨a, v, h1, h2⟩
def W_next_row : WS := (dSeq (dAsg 4 (dCall f_positions (aCons (dVar 0) aNil))) (dRetL (dLcW (iLst (dVar 4)) (tgN 5) (fun _ R => R true) (dIf (bB (dIsN (dCall f_place_from (aCons (dVar 0) (aCons (dVar 1) (aCons (dVar 2) (aCons (dVar 5) aNil))))))) (dC (.int (-1))) (dOp rdIx (dCall f_arrival (aCons (dVar 4) (aCons (dVar 3) (aCons (dVar 5) aNil)))) (dC (.int 0)))) [5])))
def N_next_row : List Str := ["neck", "note", "reach", "row", "positions", "position"]
theorem sc_next_row : FnScope ["neck", "note", "reach", "row", "positions", "position"] ["neck", "note", "reach", "row"] (defScope s_next_row) := ⟨rfl, rfl, rfl, by decide +kernel, rfl, by decide +kernel, by decide +kernel⟩
theorem pure_next_row : ∀ ds R, f_next_row ds R → W_next_row { nx := fun _ => False, rt := fun _ => False, rn := R } (startD N_next_row ds) := by
  rintro ds R ⟨t, f, c, n, r, row, rfl, ok, hne, h⟩
  have c0 := ok.c0
  have c1 := ok.c1
  have f1 := ok.f1
  have hp := posN_le f1 c0
  simp [W_next_row, N_next_row, c0, c1, f1, posL_len]
  refine ⟨by omega, lcRun_ints (fun _ => true) (fun p => .int (if canB t f c n r p = true then arrV (posL f c) row p else -1)) _ (fun p hq K k => ?_) ?_⟩
  · simp [ok]
    have hp' : posN f c ≤ 1000 := by omega
    refine ⟨fun z => ?_, fun s y hit => ?_⟩
    · simpa [z] using k
    · have z := hit.can
      simp [z] at k ⊢
      exact ⟨by rw [posL_len]; exact hp', hne, fun a v _ _ => k⟩
  · rw [List.filter_eq_self.mpr (by simp)]
    have e : (posL f c).map (fun p => PyData.int (if canB t f c n r p = true then arrV (posL f c) row p else -1)) = (nextR t f c r n row).map .int := by
      unfold nextR
      rw [List.map_map]
      rfl
    rw [e]
    exact h
section
variable {P : Program} {w : World} {g : Glb} {mg : Str → Option Value} {base : Heap}
theorem ok_next_row {f : Addr} {fd : FuncData} (F : FunP g.K "_next_row" s_next_row f fd) (mgf : mg "_next_row" = some (.ref f)) (T : Txt mg) (C_positions : C8.Cal P w g.K mg base 1 "_positions" (spD g f_positions) []) (C_place_from : C8.Cal P w g.K mg base 4 "_place_from" (spD g f_place_from) []) (C_arrival : C8.Cal P w g.K mg base 1 "_arrival" (spD g f_arrival) []) : C8.Cal P w g.K mg base 5 "_next_row" (spN g f_next_row) [] :=
  calN (N := ["neck", "note", "reach", "row", "positions", "position"]) (ps := ["neck", "note", "reach", "row"]) (k := 4) (wb := W_next_row) F mgf (F.bindsN fun _ _ _ _ _ _ us hl => match us, hl with | [_, _, _, _], _ => rfl) sc_next_row len_next_row (fun cdv A outer s H E r a ns hr =>
    (pssd_cons (ps_w (ps_set (i := 4) sc_next_row.nd rfl (.inr rfl) (pe_w (C8.pe_c C_positions hr (by decide) (by rfl) (pa_w (pa_cons (pe_w (pv 0) xd_var) (pa_w pa_nil xa_nil)) xa_cons)) xd_call)) xs_asg) (pssd_one (ps_w (ps_ret (pe_w (pe_lc (own := [("position", 5)]) (g := gName 5) rfl sc_next_row.nd (pi_w (pi_list (pe_w (pv 4) xd_var)) xi_list) (blkOk_by (own := [("position", 5)]) (N := ["neck", "note", "reach", "row", "positions", "position"]) (sc := (defScope s_next_row)) (by decide +kernel)) (fun _ _ _ _ _ => (pg_name (i := 5) sc_next_row.nd rfl (.inl rfl))) (fun _ _ _ _ _ => (pts_w pts_nil xt_yes)) (fun _ _ _ _ _ => (pe_w (pe_ifExp (pt_w (pt_cmp (pc_isN (pe_w (C8.pe_c C_place_from hr (by decide) (by rfl) (pa_w (pa_cons (pe_w (pv 0) xd_var) (pa_w (pa_cons (pe_w (pv 1) xd_var) (pa_w (pa_cons (pe_w (pv 2) xd_var) (pa_w (pa_cons (pe_w (pv 5) xd_var) (pa_w pa_nil xa_nil)) xa_cons)) xa_cons)) xa_cons)) xa_cons)) xd_call))) xt_isN) (pe_w (pe_gint (by rfl) T.c_CANNOT) (xd_c fun _ => .int)) (pe_w (pe_ix ix_lt (pe_w (C8.pe_c C_arrival hr (by decide) (by rfl) (pa_w (pa_cons (pe_w (pv 4) xd_var) (pa_w (pa_cons (pe_w (pv 3) xd_var) (pa_w (pa_cons (pe_w (pv 5) xd_var) (pa_w pa_nil xa_nil)) xa_cons)) xa_cons)) xa_cons)) xd_call) (pe_w pe_int (xd_c fun _ => .int)) (fun _ _ => rfl)) (xd_op od_ixL))) xd_if))) (xn_lc gd_name stores_name))) xs_retL)))) pure_next_row
end

/-! ### table -/
def rowD (l : List Int) : D := .list (l.map .int)
def rowsD (t : List Int) (f c r : Int) (ns : List Int) : List D := (rowsRev t f c r ns.reverse).reverse.map rowD
def f_table : Fd := fun ds R => ∃ t f c ns r, ds = [neckD t f c, .list (ns.map PyData.int), .int r] ∧ OkNeck t f c ∧ OkTune ns ∧ (0 ≤ r ∧ r ≤ 6) ∧ ((∃ n ∈ ns, playB t f c r n = false) → R .none) ∧ ((∀ n ∈ ns, playB t f c r n = true) → R (.list (rowsD t f c r ns)))
theorem len_table : ∀ ds R, f_table ds R → ds.length = 3 := by
  rintro ds R ⟨t, f, c, ns, r, rfl, _⟩; rfl
@[simp] theorem table_iff {t ns : List Int} {f c r : Int} {R : D → Prop} : f_table [neckD t f c, .list (ns.map .int), .int r] R ↔ OkNeck t f c ∧ OkTune ns ∧ (0 ≤ r ∧ r ≤ 6) ∧ ((∃ n ∈ ns, playB t f c r n = false) → R .none) ∧ ((∀ n ∈ ns, playB t f c r n = true) → R (.list (rowsD t f c r ns))) := by
  constructor
  · rintro ⟨t', f', c', n', r', e, h⟩; simp at e; obtain ⟨⟨rfl, rfl, rfl⟩, rfl, rfl⟩ := e; exact h
  · intro h; exact ⟨_, _, _, _, _, rfl, h⟩
theorem play_some {t : List Int} {f c r n : Int} {ns : List Int} (h : playB t f c r n = true) : ∃ v ∈ rowAt t f c r (n :: ns), 0 ≤ v := by
  obtain ⟨p, h1, h2⟩ := List.any_eq_true.mp h
  refine ⟨_, List.mem_map.mpr ⟨p, h1, rfl⟩, ?_⟩
  rw [if_pos h2]
  exact arr_nonneg (rowAt_nonneg ns) p
theorem play_none {t : List Int} {f c r n : Int} {ns : List Int} (h : playB t f c r n = false) : ∀ v ∈ rowAt t f c r (n :: ns), v = -1 := by
  intro v hv
  obtain ⟨p, h1, rfl⟩ := List.mem_map.mp hv
  have := List.any_eq_false.mp h p h1
  rw [if_neg this]
def W_table : WS := (dPin [0] (dSeq (dDrop (dCall f_check_neck (aCons (dVar 0) aNil))) (dSeq (dDrop (dCall f_check_tune (aCons (dVar 1) aNil))) (dSeq (dDrop (dCall f_check_reach (aCons (dVar 2) aNil))) (dSeq (dAsg 3 (dN (nRep (aCons (dC (.int 0)) aNil) (dCall rdLen (aCons (dCall f_positions (aCons (dVar 0) aNil)) aNil))))) (dSeq (dOwnF 4 0 (nLst aNil)) (dSeq (dFor (iLst (dVar 1)) (tgN 5) (dSeq (dOwn 3 (nCall f_next_row (aCons (dVar 0) (aCons (dVar 5) (aCons (dVar 2) (aCons (dVar 3) aNil)))))) (dSeq (dIfS (bPeek 3 (bB (dOp rdEq (dCall rdMaxL (aCons (dVar 3) aNil)) (dC (.int (-1)))))) (dRet (dC .none)) dNext) (dAppMv 4 3 0)))) (dRetFO 4))))))))
def N_table : List Str := ["neck", "tune", "reach", "row", "rows", "note"]
theorem sc_table : FnScope ["neck", "tune", "reach", "row", "rows", "note"] ["neck", "tune", "reach"] (defScope s_table) := ⟨rfl, rfl, rfl, by decide +kernel, rfl, by decide +kernel, by decide +kernel⟩
theorem noList_ints : ∀ l : List Int, noListA (l.map PyData.int) = true
  | [] => rfl
  | _ :: l => by rw [List.map_cons]; unfold noListA; rw [noList_ints l]; rfl
theorem pure_table : ∀ ds R, f_table ds R → ∀ B : Hp → Prop, W_table { nx := fun _ => R .none, rt := fun d => noListD d = true ∧ R d, rf := R, base := B, pin := true } (startD N_table ds) := by
  rintro ds R ⟨t, f, c, ns, r, rfl, ok, okt, ⟨r0, r6⟩, h0, h1⟩ B
  have c0 := ok.c0
  have c1 := ok.c1
  have f1 := ok.f1
  have hp := posN_le f1 c0
  simp [W_table, N_table]
  intro Fb hB
  simp [ok, okt, r0, r6, c0, c1, f1, posL_len]
  refine ⟨by omega, ?_⟩
  have e0 : List.replicate (posN f c) (PyData.int 0) = (rowAt t f c r []).map .int := by
    unfold rowAt
    rw [List.map_map]
    refine (List.eq_replicate_iff.mpr ⟨by rw [List.length_map, posL_len], fun b hb => ?_⟩).symm
    obtain ⟨_, _, rfl⟩ := List.mem_map.mp hb
    rfl
  refine forRun_inv (fun ds e => ∃ (l done : List Int) (x : Sl), ds = l.map .int ∧ ns = done.reverse ++ l ∧ (∀ n ∈ done, playB t f c r n = true) ∧
    e = [.fix false Fb (neckD t f c), .val (.list (ns.map .int)), .val (.int r), .val (.list ((rowAt t f c r done).map .int)), .ownO (some Fb) ((rowsRev t f c r done).reverse.map rowD), x]) ?_ ?_ _ _ ⟨ns, [], .un, rfl, rfl, fun n hn => (by cases hn), by rw [e0]; rfl⟩
  · rintro d ds e ⟨l, done, x, hd, hns, hpl, rfl⟩ k
    cases l with
    | nil => simp at hd
    | cons n l =>
      simp only [List.map_cons, List.cons.injEq] at hd
      obtain ⟨rfl, rfl⟩ := hd
      have hc : cand (posL f c) (rowAt t f c r done) ≠ [] := by
        cases done with
        | nil => exact cand_ne0
        | cons n' d => exact cand_ne (hpl n' List.mem_cons_self)
      have hlen : done.length ≤ 30 := by
        have e1 := congrArg List.length hns
        have e2 := okt.l2
        simp at e1
        omega
      simp [ok, hc]
      have en : nextR t f c r n (rowAt t f c r done) = rowAt t f c r (n :: done) := rfl
      rw [en]
      refine ⟨by rw [rowAt_len]; exact posN_pos f c, fun m hm hle => ?_⟩
      cases q : playB t f c r n with
      | true =>
        obtain ⟨v, hv, hv0⟩ := play_some (ns := done) q
        have := hle v hv
        have hm1 : m ≠ -1 := by omega
        simp [hm1]
        refine ⟨noList_ints _, by rw [rowsRev_len]; omega, ?_⟩
        have := k _ ⟨l, n :: done, .val (.int n), rfl, by rw [hns]; simp, fun n' hn' => by
          rcases List.mem_cons.mp hn' with z | z
          · rw [z]; exact q
          · exact hpl n' z, rfl⟩
        simpa [rowsRev, rowD] using this
      | false =>
        have hm1 : m = -1 := play_none q m hm
        simp [hm1]
        exact ⟨rfl, h0 ⟨n, by rw [hns]; simp, q⟩⟩
  · rintro e ⟨l, done, x, hd, hns, hpl, rfl⟩
    cases l with
    | nil =>
      have hns : ns = done.reverse := by simpa using hns
      have := h1 fun n hn => hpl n (by rw [hns] at hn; simpa using hn)
      unfold rowsD at this
      rw [hns, List.reverse_reverse] at this
      simp at this ⊢
      exact ⟨_, _, ⟨rfl, rfl⟩, hB, this⟩
    | cons q l => simp at hd
section
variable {P : Program} {w : World} {g : Glb} {mg : Str → Option Value} {base : Heap}
theorem ok_table {f : Addr} {fd : FuncData} (F : FunP g.K "table" s_table f fd) (mgf : mg "table" = some (.ref f)) (T : Txt mg) (C_check_neck : C8.Cal P w g.K mg base 2 "check_neck" (spD g f_check_neck) []) (C_check_tune : C8.Cal P w g.K mg base 2 "check_tune" (spD g f_check_tune) []) (C_check_reach : C8.Cal P w g.K mg base 1 "check_reach" (spD g f_check_reach) []) (C_next_row : C8.Cal P w g.K mg base 5 "_next_row" (spN g f_next_row) []) (C_positions : C8.Cal P w g.K mg base 1 "_positions" (spD g f_positions) []) : C8.Cal P w g.K mg base 6 "table" (spF g f_table) [] :=
  calFB (N := ["neck", "tune", "reach", "row", "rows", "note"]) (ps := ["neck", "tune", "reach"]) (k := 5) (wb := W_table) F mgf (F.bindsN fun _ _ _ _ _ _ us hl => match us, hl with | [_, _, _], _ => rfl) sc_table len_table (fun cdv A outer s H E r a ns hr =>
    (pss_w (pssd_cons (ps_w (ps_expr (pe_w (C8.pe_c C_check_neck hr (by decide) (by rfl) (pa_w (pa_cons (pe_w (pv 0) xd_var) (pa_w pa_nil xa_nil)) xa_cons)) xd_call)) xs_drop) (pssd_cons (ps_w (ps_expr (pe_w (C8.pe_c C_check_tune hr (by decide) (by rfl) (pa_w (pa_cons (pe_w (pv 1) xd_var) (pa_w pa_nil xa_nil)) xa_cons)) xd_call)) xs_drop) (pssd_cons (ps_w (ps_expr (pe_w (C8.pe_c C_check_reach hr (by decide) (by rfl) (pa_w (pa_cons (pe_w (pv 2) xd_var) (pa_w pa_nil xa_nil)) xa_cons)) xd_call)) xs_drop) (pssd_cons (ps_w (ps_set (i := 3) sc_table.nd rfl (.inl rfl) (pe_w (pe_w (pe_op op_rep (pe_lst (pa_w (pa_cons (pe_w pe_int (xd_c fun _ => .int)) (pa_w pa_nil xa_nil)) xa_cons)) (pe_w (pe_callB call_len_seq (by rfl) T.m_len PySem.boot_len (pa_w (pa_cons (pe_w (C8.pe_c C_positions hr (by decide) (by rfl) (pa_w (pa_cons (pe_w (pv 0) xd_var) (pa_w pa_nil xa_nil)) xa_cons)) xd_call) (pa_w pa_nil xa_nil)) xa_cons)) (xd_cb cd_len))) xn_rep) xd_N)) xs_asg) (pssd_cons (ps_w (ps_set (i := 4) sc_table.nd rfl (.inl rfl) (pe_w (pe_lst (pa_w pa_nil xa_nil)) xn_lst)) xs_ownF) (pssd_cons (ps_w (ps_for (g := gName 5) PassesOwn.never rfl (pi_w (pi_list (pe_w (pv 1) xd_var)) xi_list) (pg_name (i := 5) sc_table.nd rfl (.inl rfl)) (pssd_cons (ps_w (ps_set (i := 3) sc_table.nd rfl (.inl rfl) (pe_w (C8.pe_c C_next_row hr (by decide) (by rfl) (pa_w (pa_cons (pe_w (pv 0) xd_var) (pa_w (pa_cons (pe_w (pv 5) xd_var) (pa_w (pa_cons (pe_w (pv 2) xd_var) (pa_w (pa_cons (pe_w (pv 3) xd_var) (pa_w pa_nil xa_nil)) xa_cons)) xa_cons)) xa_cons)) xa_cons)) xn_call)) xs_own) (pssd_cons (ps_w (ps_if (pt_w (pt_w (pt_cmpR (op_eqD hr.units) (pe_w (pe_callB (cr_max (by rfl)) (by rfl) T.m_max (by decide +kernel) (pa_w (pa_cons (pe_w (pv 3) xd_var) (pa_w pa_nil xa_nil)) xa_cons)) (xd_cb cd_maxL)) (pe_w (pe_gint (by rfl) T.c_CANNOT) (xd_c fun _ => .int)) (nomark _)) (xt_cmp od_eq)) xt_peek) (pssd_one (ps_w (ps_ret (pe_w pe_non (xd_c fun _ => .non))) xs_ret)) pssd_nil) xs_if) (pssd_one (ps_w (ps_expr (pe_bm PySem.F.plainAttrs_list PySem.F.slot_list_append PySem.F.type_list_append mt_append (pv 4) (pa_cons (pv 3) pa_nil))) xs_appMv))))) (xs_for gd_name)) (pssd_one (ps_w (ps_ret (pv 4)) xs_retFO)))))))) xs_pin)) pure_table
end

/-! ### _walk -/
def f_walk : Fd := fun ds R => ∃ t f c r n ns, ds = [.list ((posL f c).map PyData.int), .list ((rowsRev t f c r (n :: ns)).reverse.map rowD)] ∧ 0 ≤ c ∧ f ≤ 20 ∧ ns.length ≤ 1000 ∧ (∀ m ∈ n :: ns, playB t f c r m = true) ∧
  ∀ q v hs, (q, v) ∈ cand (posL f c) (rowAt t f c r (n :: ns)) → (∀ q' v', (q', v') ∈ cand (posL f c) (rowAt t f c r (n :: ns)) → v ≤ v') → WalkR (posL f c) q (rowsRev t f c r ns) hs → R (.list ((q :: hs).reverse.map .int))
theorem len_walk : ∀ ds R, f_walk ds R → ds.length = 2 := by
  rintro ds R ⟨t, f, c, r, n, ns, rfl, _⟩; rfl
theorem rows_cand {t : List Int} {f c r : Int} : ∀ (ns : List Int), (∀ m ∈ ns, playB t f c r m = true) → ∀ row ∈ rowsRev t f c r ns, cand (posL f c) row ≠ []
  | [], _, row, h => by cases h
  | n :: ns, hp, row, h => by
    rcases List.mem_cons.mp h with z | z
    · rw [z]; exact cand_ne (hp n List.mem_cons_self)
    · exact rows_cand ns (fun m hm => hp m (List.mem_cons_of_mem _ hm)) row z
theorem cut_init (l : List D) (x : D) : cutD (l ++ [x]) none (some (-1)) = l := by
  have e : HT.sIx (l ++ [x]).length (l ++ [x]).length (some (-1)) = l.length := by
    simp [HT.sIx]
    try omega
  unfold cutD
  rw [e]
  have e0 : HT.sIx (l ++ [x]).length 0 none = 0 := rfl
  rw [e0]
  simp
def W_walk : WS := (dSeq (dUnp [2, 3] (dCall rdMinP (aCons (dN (dLcW (iZipL (aCons (dVar 0) (aCons (dOp rdIx (dVar 1) (dNeg (dC (.int 1)))) aNil))) (tgT [6, 7]) (bB (dOp rdNe (dVar 7) (dC (.int (-1))))) (dTup (aCons (dVar 7) (aCons (dVar 6) aNil))) [6, 7])) aNil))) (dSeq (dOwn 4 (nLst (aCons (dVar 3) aNil))) (dSeq (dFor (iRev (dSl (dVar 1) oNone (oSome (dNeg (dC (.int 1)))) .list)) (tgN 5) (dSeq (dUnp [2, 3] (dCall f_arrival (aCons (dVar 0) (aCons (dVar 5) (aCons (dVar 3) aNil))))) (dApp 4 (dVar 3)))) (dFrz 4 (dRet (dRevL (dVar 4)))))))
def N_walk : List Str := ["positions", "rows", "_", "position", "walk", "row", "there", "moved"]
theorem sc_walk : FnScope ["positions", "rows", "_", "position", "walk", "row", "there", "moved"] ["positions", "rows"] (defScope s_walk) := ⟨rfl, rfl, rfl, by decide +kernel, rfl, by decide +kernel, by decide +kernel⟩
theorem pure_walk : ∀ ds R, f_walk ds R → W_walk { nx := fun _ => R .none, rt := R } (startD N_walk ds) := by
  rintro ds R ⟨t, f, c, r, n, ns, rfl, c0, f1, hl, hp, h⟩
  have hpn := posN_le f1 c0
  have erows : (rowsRev t f c r (n :: ns)).reverse.map rowD = (rowsRev t f c r ns).reverse.map rowD ++ [rowD (rowAt t f c r (n :: ns))] := by simp [rowsRev]
  rw [erows]
  simp [W_walk, N_walk]
  refine ⟨_, atI_last _ _, ?_⟩
  simp [rowD]
  rw [zip_ints]
  refine ⟨by rw [posL_len]; omega, lcRun_map (fun q : Int × Int => decide (q.2 ≠ -1)) (fun q => PyData.tuple [.int q.2, .int q.1]) _ [] (fun q _ K k => ?_) ?_⟩
  · by_cases z : q.2 = -1
    · simpa [z] using k
    · simpa [z] using k
  · rw [List.nil_append]
    have e : (((posL f c).zip (rowAt t f c r (n :: ns))).filter fun q : Int × Int => decide (q.2 ≠ -1)).map (fun q => PyData.tuple [.int q.2, .int q.1]) = pairsD ((cand (posL f c) (rowAt t f c r (n :: ns))).map fun q => (q.2, q.1)) := by
      unfold pairsD cand
      rw [List.map_map]
      rfl
    rw [e]
    have hne := cand_ne (ns := ns) (hp n List.mem_cons_self)
    refine ⟨_, rfl, by simpa using hne, fun m hm hb => ?_⟩
    obtain ⟨⟨q0, v0⟩, hq0, rfl⟩ := List.mem_map.mp hm
    have hbest : ∀ q' v', (q', v') ∈ cand (posL f c) (rowAt t f c r (n :: ns)) → v0 ≤ v' := fun q' v' hq' => ltP2_le (hb (v', q') (List.mem_map.mpr ⟨(q', v'), hq', rfl⟩))
    have hR := fun hs => h q0 v0 hs hq0 hbest
    simp
    have ecut := cut_init ((rowsRev t f c r ns).map rowD).reverse (rowD (rowAt t f c r (n :: ns)))
    simp only [rowD] at ecut
    rw [ecut, List.reverse_reverse]
    refine forRun_inv (fun ds e => ∃ (rs : List (List Int)) (hsd : List Int) (cur : Int) (x2 x5 x6 x7 : Sl), ds = rs.map rowD ∧ (∀ row ∈ rs, cand (posL f c) row ≠ []) ∧ rs.length + hsd.length = ns.length ∧ (∀ hs, WalkR (posL f c) cur rs hs → WalkR (posL f c) q0 (rowsRev t f c r ns) (hsd ++ hs)) ∧
      e = [.val (.list ((posL f c).map .int)), .val (.list (((rowsRev t f c r ns).map rowD).reverse ++ [.list ((rowAt t f c r (n :: ns)).map .int)])), x2, .val (.int cur), .own ((q0 :: hsd).map .int), x5, x6, x7]) ?_ ?_ _ _ ⟨rowsRev t f c r ns, [], q0, .val (.int v0), .un, .un, .un, rfl, rows_cand ns fun m hm => hp m (List.mem_cons_of_mem _ hm), by rw [rowsRev_len]; rfl, fun hs h => h, rfl⟩
    · rintro d ds e ⟨rs, hsd, cur, x2, x5, x6, x7, hd, hc, hlen, hw, rfl⟩ k
      cases rs with
      | nil => simp at hd
      | cons row rs =>
        simp only [List.map_cons, List.cons.injEq] at hd
        obtain ⟨rfl, rfl⟩ := hd
        have hlen2 : rs.length + 1 + hsd.length = ns.length := by simpa using hlen
        simp [rowD]
        refine ⟨by rw [posL_len]; omega, hc row List.mem_cons_self, fun a v hav hv => ⟨by omega, ?_⟩⟩
        have := k _ ⟨rs, hsd ++ [a], a, .val (.int (arrV (posL f c) row cur)), .val (rowD row), x6, x7, rfl, fun row' hr => hc row' (List.mem_cons_of_mem _ hr), by simp; omega, fun hs hh => by
          have := hw (a :: hs) ⟨⟨v, hav, hv⟩, hh⟩
          simpa using this, rfl⟩
        simpa [rowD] using this
    · rintro e ⟨rs, hsd, cur, x2, x5, x6, x7, hd, hc, hlen, hw, rfl⟩
      cases rs with
      | nil =>
        have := hR hsd (by simpa using hw [] trivial)
        simpa using this
      | cons q l => simp at hd
section
variable {P : Program} {w : World} {g : Glb} {mg : Str → Option Value} {base : Heap}
theorem ok_walk {f : Addr} {fd : FuncData} (F : FunP g.K "_walk" s_walk f fd) (mgf : mg "_walk" = some (.ref f)) (T : Txt mg) (C_arrival : C8.Cal P w g.K mg base 1 "_arrival" (spD g f_arrival) []) : C8.Cal P w g.K mg base 2 "_walk" (spD g f_walk) [] :=
  calD (N := ["positions", "rows", "_", "position", "walk", "row", "there", "moved"]) (ps := ["positions", "rows"]) (k := 1) (wb := W_walk) F mgf (F.bindsN fun _ _ _ _ _ _ us hl => match us, hl with | [_, _], _ => rfl) sc_walk len_walk (fun cdv A outer s H E r a ns hr =>
    (pssd_cons (ps_w (ps_asg (pe_w (pe_callB (cr_minP (by rfl) hr.units) (by rfl) T.m_min (by decide +kernel) (pa_w (pa_cons (pe_w (pe_w (pe_lc (own := [("there", 6), ("moved", 7)]) (g := gTup _ 2 (gNames [6, 7])) rfl sc_walk.nd (pi_w (RZ.pi_zipA (by rfl) T.m_zip (pa_w (pa_cons (pe_w (pv 0) xd_var) (pa_w (pa_cons (pe_w (pe_ix ix_lt (pe_w (pv 1) xd_var) (pe_w (pe_un un_neg (pe_w pe_int (xd_c fun _ => .int))) xd_neg) (fun _ _ => rfl)) (xd_op od_ixL)) (pa_w pa_nil xa_nil)) xa_cons)) xa_cons)) xi_zipL) (blkOk_by (own := [("there", 6), ("moved", 7)]) (N := ["positions", "rows", "_", "position", "walk", "row", "there", "moved"]) (sc := (defScope s_walk)) (by decide +kernel)) (fun _ _ _ _ _ => (pg_tup rfl (pgs_cons (pg_name (i := 6) sc_walk.nd rfl (.inl rfl)) (pgs_cons (pg_name (i := 7) sc_walk.nd rfl (.inl rfl)) pgs_nil)))) (fun _ _ _ _ _ => (pts_one (pt_w (pt_cmpR (op_neD hr.units) (pe_w (pv 7) xd_var) (pe_w (pe_gint (by rfl) T.c_CANNOT) (xd_c fun _ => .int)) (nomark _)) (xt_cmp od_ne)))) (fun _ _ _ _ _ => (pe_w (pe_tup (pa_w (pa_cons (pe_w (pv 7) xd_var) (pa_w (pa_cons (pe_w (pv 6) xd_var) (pa_w pa_nil xa_nil)) xa_cons)) xa_cons)) xd_tup))) (xn_lc (gd_tup (is := [6, 7]) rfl) (stores_names [6, 7]))) xd_N) (pa_w pa_nil xa_nil)) xa_cons)) (xd_cb cd_minP)) (pg_tup rfl (pgs_cons (pg_name (i := 2) sc_walk.nd rfl (.inl rfl)) (pgs_cons (pg_name (i := 3) sc_walk.nd rfl (.inl rfl)) pgs_nil)))) (xs_unp (is := [2, 3]) rfl)) (pssd_cons (ps_w (ps_set (i := 4) sc_walk.nd rfl (.inl rfl) (pe_w (pe_lst (pa_w (pa_cons (pe_w (pv 3) xd_var) (pa_w pa_nil xa_nil)) xa_cons)) xn_lst)) xs_own) (pssd_cons (ps_w (ps_for (g := gName 5) PassesOwn.never rfl (pi_w (RT.pi_revA (by rfl) T.m_reversed (pe_w (pe_slice sl_list (pe_w (pv 1) xd_var) (po_w po_none xo_none) (po_w (po_some (pe_w (pe_un un_neg (pe_w pe_int (xd_c fun _ => .int))) xd_neg)) xo_some)) xd_slL)) xi_rev) (pg_name (i := 5) sc_walk.nd rfl (.inl rfl)) (pssd_cons (ps_w (ps_asg (pe_w (C8.pe_c C_arrival hr (by decide) (by rfl) (pa_w (pa_cons (pe_w (pv 0) xd_var) (pa_w (pa_cons (pe_w (pv 5) xd_var) (pa_w (pa_cons (pe_w (pv 3) xd_var) (pa_w pa_nil xa_nil)) xa_cons)) xa_cons)) xa_cons)) xd_call) (pg_tup rfl (pgs_cons (pg_name (i := 2) sc_walk.nd rfl (.inl rfl)) (pgs_cons (pg_name (i := 3) sc_walk.nd rfl (.inl rfl)) pgs_nil)))) (xs_unp (is := [2, 3]) rfl)) (pssd_one (ps_w (ps_expr (pe_bm PySem.F.plainAttrs_list PySem.F.slot_list_append PySem.F.type_list_append mt_append (pv 4) (pa_cons (pe_w (pv 3) xd_var) pa_nil))) xs_app)))) (xs_for gd_name)) (pss_w (pssd_one (ps_w (ps_ret (pe_w (pe_revL (pe_w (pv 4) xd_var)) xd_revL)) xs_ret)) xs_frz))))) pure_walk
end

/-! ### movement -/
def trD (x : Int × Int × Int) : D := .tuple [.int x.1, .int x.2.1, .int x.2.2]
def posOf (pl : List (Int × Int × Int)) : List Int := pl.map fun x => x.2.2
def f_movement : Fd := fun ds R => ∃ pl : List (Int × Int × Int), ds = [.list (pl.map trD)] ∧ pl.length ≤ 1000 ∧ R (.int (moveL (posOf pl)))
theorem len_movement : ∀ ds R, f_movement ds R → ds.length = 1 := by
  rintro ds R ⟨pl, rfl, _⟩; rfl
theorem cut_one (l : List Int) : cutD (l.map PyData.int) (some 1) none = l.tail.map PyData.int := by
  cases l with
  | nil => rfl
  | cons a l =>
    have := cut_from (a :: l) (n := 0) (by simp)
    simpa using this
def W_movement : WS := (dSeq (dAsg 1 (dN (dLcW (iLst (dVar 0)) (tgT [2, 2, 3]) (fun _ R => R true) (dVar 3) [2, 2, 3]))) (dRet (dCall rdSum (aCons (dN (dLcW (iZipL (aCons (dVar 1) (aCons (dSl (dVar 1) (oSome (dC (.int 1))) oNone .list) aNil))) (tgT [4, 5]) (fun _ R => R true) (dCall rdAbs (aCons (dOp rdSub (dVar 5) (dVar 4)) aNil)) [4, 5])) aNil))))
def N_movement : List Str := ["playing", "positions", "_", "position", "here", "there"]
theorem sc_movement : FnScope ["playing", "positions", "_", "position", "here", "there"] ["playing"] (defScope s_movement) := ⟨rfl, rfl, rfl, by decide +kernel, rfl, by decide +kernel, by decide +kernel⟩
theorem pure_movement : ∀ ds R, f_movement ds R → W_movement { nx := fun _ => R .none, rt := R } (startD N_movement ds) := by
  rintro ds R ⟨pl, rfl, hl, h⟩
  simp [W_movement, N_movement]
  refine ⟨by omega, lcRun_map (fun _ => true) (fun x : Int × Int × Int => .int x.2.2) pl [] (fun x _ K k => ?_) ?_⟩
  · simpa [trD] using k
  · rw [List.nil_append, List.filter_eq_self.mpr (by simp)]
    have e : pl.map (fun x : Int × Int × Int => PyData.int x.2.2) = (posOf pl).map .int := by unfold posOf; rw [List.map_map]; rfl
    rw [e]
    simp
    rw [cut_one, zip_ints]
    have hl2 : (posOf pl).length ≤ 1000 := by simpa [posOf] using hl
    refine ⟨by simp; omega, lcRun_map (fun _ => true) (fun q : Int × Int => .int (absI (q.2 - q.1))) _ [] (fun x _ K k => ?_) ?_⟩
    · simpa using k
    · rw [List.nil_append, List.filter_eq_self.mpr (by simp)]
      have e2 : ((posOf pl).zip (posOf pl).tail).map (fun q : Int × Int => PyData.int (absI (q.2 - q.1))) = (((posOf pl).zip (posOf pl).tail).map fun q => absI (q.2 - q.1)).map .int := by rw [List.map_map]; rfl
      rw [e2]
      refine rdSum_iff.mpr ?_
      rw [moveL_zip]
      exact h
section
variable {P : Program} {w : World} {g : Glb} {mg : Str → Option Value} {base : Heap}
theorem ok_movement {f : Addr} {fd : FuncData} (F : FunP g.K "movement" s_movement f fd) (mgf : mg "movement" = some (.ref f)) (T : Txt mg)  : C8.Cal P w g.K mg base 1 "movement" (spD g f_movement) [] :=
  calD (N := ["playing", "positions", "_", "position", "here", "there"]) (ps := ["playing"]) (k := 0) (wb := W_movement) F mgf (F.bindsN fun _ _ _ _ _ _ us hl => match us, hl with | [_], _ => rfl) sc_movement len_movement (fun cdv A outer s H E r a ns hr =>
    (pssd_cons (ps_w (ps_setLc (i := 1) (own := [("_", 2), ("_", 2), ("position", 3)]) (g := gTup _ 3 (gNames [2, 2, 3])) rfl sc_movement.nd rfl rfl (sw_true rfl rfl rfl (by decide +kernel)) (pi_w (pi_list (pe_w (pv 0) xd_var)) xi_list) (blkOk_by (own := [("_", 2), ("_", 2), ("position", 3)]) (N := ["playing", "positions", "_", "position", "here", "there"]) (sc := (defScope s_movement)) (by decide +kernel)) (fun _ _ _ _ _ => (pg_tup rfl (pgs_cons (pg_name (i := 2) sc_movement.nd rfl (.inl rfl)) (pgs_cons (pg_name (i := 2) sc_movement.nd rfl (.inl rfl)) (pgs_cons (pg_name (i := 3) sc_movement.nd rfl (.inl rfl)) pgs_nil))))) (fun _ _ _ _ _ => (pts_w pts_nil xt_yes)) (fun _ _ _ _ _ => (pe_w (pv 3) xd_var))) (xs_asgLc (gd_tup (is := [2, 2, 3]) rfl) (stores_names [2, 2, 3]))) (pssd_one (ps_w (ps_ret (pe_w (pe_callB (cr_sum (by rfl)) (by rfl) T.m_sum (by decide +kernel) (pa_w (pa_cons (pe_w (pe_w (pe_lc (own := [("here", 4), ("there", 5)]) (g := gTup _ 2 (gNames [4, 5])) rfl sc_movement.nd (pi_w (RZ.pi_zipA (by rfl) T.m_zip (pa_w (pa_cons (pe_w (pv 1) xd_var) (pa_w (pa_cons (pe_w (pe_slice sl_list (pe_w (pv 1) xd_var) (po_w (po_some (pe_w pe_int (xd_c fun _ => .int))) xo_some) (po_w po_none xo_none)) xd_slL) (pa_w pa_nil xa_nil)) xa_cons)) xa_cons)) xi_zipL) (blkOk_by (own := [("here", 4), ("there", 5)]) (N := ["playing", "positions", "_", "position", "here", "there"]) (sc := (defScope s_movement)) (by decide +kernel)) (fun _ _ _ _ _ => (pg_tup rfl (pgs_cons (pg_name (i := 4) sc_movement.nd rfl (.inl rfl)) (pgs_cons (pg_name (i := 5) sc_movement.nd rfl (.inl rfl)) pgs_nil)))) (fun _ _ _ _ _ => (pts_w pts_nil xt_yes)) (fun _ _ _ _ _ => (pe_w (pe_callB call_abs (by rfl) T.m_abs (by decide +kernel) (pa_w (pa_cons (pe_w (pe_op op_sub (pe_w (pv 5) xd_var) (pe_w (pv 4) xd_var)) (xd_op od_sub)) (pa_w pa_nil xa_nil)) xa_cons)) (xd_cb cd_abs)))) (xn_lc (gd_tup (is := [4, 5]) rfl) (stores_names [4, 5]))) xd_N) (pa_w pa_nil xa_nil)) xa_cons)) (xd_cb cd_sum))) xs_ret)))) pure_movement
end

/-! ### played -/
structure IsPlay (t : List Int) (f c r : Int) (ns : List Int) (pl : List (Int × Int × Int)) : Prop where
  len : pl.length = ns.length
  ok : ∀ (i : Nat) n (x : Int × Int × Int), ns[i]? = some n → pl[i]? = some x → x.2.2 ∈ posL f c ∧ ∃ s : Nat, x.1 = s ∧ Hit t f c n r x.2.2 s x.2.1
theorem IsPlay.nil {t : List Int} {f c r : Int} : IsPlay t f c r [] [] := ⟨rfl, fun i n x h => by simp at h⟩
theorem IsPlay.snoc {t : List Int} {f c r : Int} {ns : List Int} {pl : List (Int × Int × Int)} (h : IsPlay t f c r ns pl) {n p y : Int} {s : Nat} (hp : p ∈ posL f c) (hh : Hit t f c n r p s y) : IsPlay t f c r (ns ++ [n]) (pl ++ [((s : Int), y, p)]) := by
  refine ⟨by simp [h.len], fun i m x a b => ?_⟩
  by_cases q : i < ns.length
  · rw [List.getElem?_append_left q] at a
    rw [List.getElem?_append_left (by rw [h.len]; exact q)] at b
    exact h.ok i m x a b
  · rw [List.getElem?_append_right (by omega)] at a
    rw [List.getElem?_append_right (by rw [h.len]; omega), h.len] at b
    have e : i - ns.length = 0 := by
      have := (List.getElem?_eq_some_iff.mp a).1
      simp at this
      omega
    rw [e] at a b
    simp at a b
    subst a b
    exact ⟨hp, s, rfl, hh⟩
def f_played : Fd := fun ds R => ∃ t f c ns r, ds = [neckD t f c, .list (ns.map PyData.int), .int r] ∧ OkNeck t f c ∧ OkTune ns ∧ (0 ≤ r ∧ r ≤ 6) ∧ ((∃ n ∈ ns, playB t f c r n = false) → R .none) ∧
  ((∀ n ∈ ns, playB t f c r n = true) → ∀ pl, IsPlay t f c r ns pl → IsLeast t f c r ns (moveL (posOf pl)) → R (.tuple [.int (moveL (posOf pl)), .list (pl.map trD)]))
theorem len_played : ∀ ds R, f_played ds R → ds.length = 3 := by
  rintro ds R ⟨t, f, c, ns, r, rfl, _⟩; rfl
@[simp] theorem played_iff {t ns : List Int} {f c r : Int} {R : D → Prop} : f_played [neckD t f c, .list (ns.map .int), .int r] R ↔ OkNeck t f c ∧ OkTune ns ∧ (0 ≤ r ∧ r ≤ 6) ∧ ((∃ n ∈ ns, playB t f c r n = false) → R .none) ∧
    ((∀ n ∈ ns, playB t f c r n = true) → ∀ pl, IsPlay t f c r ns pl → IsLeast t f c r ns (moveL (posOf pl)) → R (.tuple [.int (moveL (posOf pl)), .list (pl.map trD)])) := by
  constructor
  · rintro ⟨t', f', c', n', r', e, h⟩; simp at e; obtain ⟨⟨rfl, rfl, rfl⟩, rfl, rfl⟩ := e; exact h
  · intro h; exact ⟨_, _, _, _, _, rfl, h⟩
def W_played : WS := (dSeq (dAsg 3 (dCall f_table (aCons (dVar 0) (aCons (dVar 1) (aCons (dVar 2) aNil))))) (dSeq (dIfS (bB (dIsN (dVar 3))) (dRet (dC .none)) dNext) (dSeq (dOwn 4 (nLst aNil)) (dSeq (dFor (iZipL (aCons (dVar 1) (aCons (dCall f_walk (aCons (dCall f_positions (aCons (dVar 0) aNil)) (aCons (dVar 3) aNil))) aNil))) (tgT [5, 6]) (dSeq (dUnp [7, 8] (dCall f_place_from (aCons (dVar 0) (aCons (dVar 5) (aCons (dVar 2) (aCons (dVar 6) aNil)))))) (dApp 4 (dTup (aCons (dVar 7) (aCons (dVar 8) (aCons (dVar 6) aNil))))))) (dFrz 4 (dRet (dTup (aCons (dCall f_movement (aCons (dVar 4) aNil)) (aCons (dVar 4) aNil)))))))))
def N_played : List Str := ["neck", "tune", "reach", "rows", "playing", "note", "position", "string", "fret"]
theorem sc_played : FnScope ["neck", "tune", "reach", "rows", "playing", "note", "position", "string", "fret"] ["neck", "tune", "reach"] (defScope s_played) := ⟨rfl, rfl, rfl, by decide +kernel, rfl, by decide +kernel, by decide +kernel⟩
theorem pure_played : ∀ ds R, f_played ds R → W_played { nx := fun _ => R .none, rt := R } (startD N_played ds) := by
  rintro ds R ⟨t, f, c, ns, r, rfl, ok, okt, hr, h0, h1⟩
  have c0 := ok.c0
  have c1 := ok.c1
  have f1 := ok.f1
  simp [W_played, N_played, ok, okt, hr]
  refine ⟨fun n hn q => h0 ⟨n, hn, q⟩, fun hp => ?_⟩
  simp [c0, c1, f1]
  -- the tune from its end
  obtain ⟨n, rs, hrs⟩ : ∃ n rs, ns.reverse = n :: rs := by
    cases q : ns.reverse with
    | nil =>
      have e1 := congrArg List.length q
      have e2 := okt.l1
      simp at e1
      rw [e1] at e2
      simp at e2
    | cons n rs => exact ⟨n, rs, rfl⟩
  have hlen : rs.length ≤ 1000 := by
    have e1 := congrArg List.length hrs
    have e2 := okt.l2
    simp at e1
    omega
  refine ⟨t, f, c, r, n, rs, by unfold rowsD; rw [hrs], c0, f1, hlen, fun m hm => hp m (by rw [← hrs] at hm; simpa using hm), fun q v hs hq hb hw => ?_⟩
  obtain ⟨a1, a2⟩ := walk_sum n rs q v hs hq hw
  have hl := walk_least hq hb hw
  have hns : ns = (n :: rs).reverse := by rw [← hrs, List.reverse_reverse]
  rw [← hns] at hl
  have hv : Val t f c r ns (q :: hs).reverse := by rw [hns]; exact a1.rev
  have hm : moveL (q :: hs).reverse = v := by rw [moveL_rev]; exact a2
  generalize (q :: hs).reverse = qs at hv hm
  simp only [rdZipL_iff, zip_ints]
  refine forRun_inv (fun ds e => ∃ (zs : List (Int × Int)) (nd qd : List Int) (pl : List (Int × Int × Int)) (x5 x6 x7 x8 : Sl), ds = zs.map (fun z => PyData.tuple [.int z.1, .int z.2]) ∧ (∀ z ∈ zs, z.2 ∈ posL f c ∧ canB t f c z.1 r z.2 = true) ∧ ns = nd ++ zs.map (·.1) ∧ qs = qd ++ zs.map (·.2) ∧ IsPlay t f c r nd pl ∧ posOf pl = qd ∧
    e = [.val (neckD t f c), .val (.list (ns.map .int)), .val (.int r), .val (.list (rowsD t f c r ns)), .own (pl.map trD), x5, x6, x7, x8]) ?_ ?_ _ _ ⟨ns.zip qs, [], [], [], .un, .un, .un, .un, rfl, fun z hz => ?_, ?_, ?_, IsPlay.nil, rfl, rfl⟩
  · rintro d ds e ⟨zs, nd, qd, pl, x5, x6, x7, x8, hd, hz, hn, hq2, hpl, hpo, rfl⟩ k
    cases zs with
    | nil => simp at hd
    | cons z zs =>
      simp only [List.map_cons, List.cons.injEq] at hd
      obtain ⟨rfl, rfl⟩ := hd
      obtain ⟨k1, k2⟩ := hz z List.mem_cons_self
      have hlp : pl.length ≤ 30 := by
        have e1 := congrArg List.length hn
        have e2 := okt.l2
        have e3 := hpl.len
        simp at e1
        omega
      simp [ok, k2]
      intro s y hit
      refine ⟨by omega, ?_⟩
      have := k _ ⟨zs, nd ++ [z.1], qd ++ [z.2], pl ++ [((s : Int), y, z.2)], .val (.int z.1), .val (.int z.2), .val (.int s), .val (.int y), rfl, fun z' hz' => hz z' (List.mem_cons_of_mem _ hz'), by rw [hn]; simp, by rw [hq2]; simp, hpl.snoc k1 hit, by
        unfold posOf at hpo ⊢
        rw [List.map_append, hpo]
        rfl, rfl⟩
      simpa [trD] using this
  · rintro e ⟨zs, nd, qd, pl, x5, x6, x7, x8, hd, hz, hn, hq2, hpl, hpo, rfl⟩
    cases zs with
    | nil =>
      have hn : ns = nd := by simpa using hn
      have hq2 : qs = qd := by simpa using hq2
      subst hn hq2
      have hlp : pl.length ≤ 1000 := by
        have e2 := okt.l2
        have e3 := hpl.len
        omega
      have hh := h1 hp pl hpl (by rw [hpo, hm]; exact hl)
      simp
      exact ⟨pl, by simp, hlp, by simp, hh⟩
    | cons q l => simp at hd
  · obtain ⟨i, hi, e⟩ := List.getElem_of_mem hz
    have e1 := List.getElem?_eq_getElem hi
    rw [e] at e1
    obtain ⟨k1, k2⟩ := List.getElem?_zip_eq_some.mp e1
    exact hv.ok i z.1 z.2 k1 k2
  · simp [List.map_fst_zip, hv.len]
  · simp [List.map_snd_zip, hv.len]
section
variable {P : Program} {w : World} {g : Glb} {mg : Str → Option Value} {base : Heap}
theorem ok_played {f : Addr} {fd : FuncData} (F : FunP g.K "played" s_played f fd) (mgf : mg "played" = some (.ref f)) (T : Txt mg) (C_table : C8.Cal P w g.K mg base 6 "table" (spF g f_table) []) (C_walk : C8.Cal P w g.K mg base 2 "_walk" (spD g f_walk) []) (C_place_from : C8.Cal P w g.K mg base 4 "_place_from" (spD g f_place_from) []) (C_movement : C8.Cal P w g.K mg base 1 "movement" (spD g f_movement) []) (C_positions : C8.Cal P w g.K mg base 1 "_positions" (spD g f_positions) []) : C8.Cal P w g.K mg base 7 "played" (spD g f_played) [] :=
  calD (N := ["neck", "tune", "reach", "rows", "playing", "note", "position", "string", "fret"]) (ps := ["neck", "tune", "reach"]) (k := 6) (wb := W_played) F mgf (F.bindsN fun _ _ _ _ _ _ us hl => match us, hl with | [_, _, _], _ => rfl) sc_played len_played (fun cdv A outer s H E r a ns hr =>
    (pssd_cons (ps_w (ps_set (i := 3) sc_played.nd rfl (.inl rfl) (pe_w (C8.pe_c C_table hr (by decide) (by rfl) (pa_w (pa_cons (pe_w (pv 0) xd_var) (pa_w (pa_cons (pe_w (pv 1) xd_var) (pa_w (pa_cons (pe_w (pv 2) xd_var) (pa_w pa_nil xa_nil)) xa_cons)) xa_cons)) xa_cons)) xd_callF)) xs_asg) (pssd_cons (ps_w (ps_if (pt_w (pt_cmp (pc_isN (pe_w (pv 3) xd_var))) xt_isN) (pssd_one (ps_w (ps_ret (pe_w pe_non (xd_c fun _ => .non))) xs_ret)) pssd_nil) xs_if) (pssd_cons (ps_w (ps_set (i := 4) sc_played.nd rfl (.inl rfl) (pe_w (pe_lst (pa_w pa_nil xa_nil)) xn_lst)) xs_own) (pssd_cons (ps_w (ps_for (g := gTup _ 2 (gNames [5, 6])) PassesOwn.never rfl (pi_w (RZ.pi_zipA (by rfl) T.m_zip (pa_w (pa_cons (pe_w (pv 1) xd_var) (pa_w (pa_cons (pe_w (C8.pe_c C_walk hr (by decide) (by rfl) (pa_w (pa_cons (pe_w (C8.pe_c C_positions hr (by decide) (by rfl) (pa_w (pa_cons (pe_w (pv 0) xd_var) (pa_w pa_nil xa_nil)) xa_cons)) xd_call) (pa_w (pa_cons (pe_w (pv 3) xd_var) (pa_w pa_nil xa_nil)) xa_cons)) xa_cons)) xd_call) (pa_w pa_nil xa_nil)) xa_cons)) xa_cons)) xi_zipL) (pg_tup rfl (pgs_cons (pg_name (i := 5) sc_played.nd rfl (.inl rfl)) (pgs_cons (pg_name (i := 6) sc_played.nd rfl (.inl rfl)) pgs_nil))) (pssd_cons (ps_w (ps_asg (pe_w (C8.pe_c C_place_from hr (by decide) (by rfl) (pa_w (pa_cons (pe_w (pv 0) xd_var) (pa_w (pa_cons (pe_w (pv 5) xd_var) (pa_w (pa_cons (pe_w (pv 2) xd_var) (pa_w (pa_cons (pe_w (pv 6) xd_var) (pa_w pa_nil xa_nil)) xa_cons)) xa_cons)) xa_cons)) xa_cons)) xd_call) (pg_tup rfl (pgs_cons (pg_name (i := 7) sc_played.nd rfl (.inl rfl)) (pgs_cons (pg_name (i := 8) sc_played.nd rfl (.inl rfl)) pgs_nil)))) (xs_unp (is := [7, 8]) rfl)) (pssd_one (ps_w (ps_expr (pe_bm PySem.F.plainAttrs_list PySem.F.slot_list_append PySem.F.type_list_append mt_append (pv 4) (pa_cons (pe_w (pe_tup (pa_w (pa_cons (pe_w (pv 7) xd_var) (pa_w (pa_cons (pe_w (pv 8) xd_var) (pa_w (pa_cons (pe_w (pv 6) xd_var) (pa_w pa_nil xa_nil)) xa_cons)) xa_cons)) xa_cons)) xd_tup) pa_nil))) xs_app)))) (xs_for (gd_tup (is := [5, 6]) rfl))) (pss_w (pssd_one (ps_w (ps_ret (pe_w (pe_tup (pa_w (pa_cons (pe_w (C8.pe_c C_movement hr (by decide) (by rfl) (pa_w (pa_cons (pe_w (pv 4) xd_var) (pa_w pa_nil xa_nil)) xa_cons)) xd_call) (pa_w (pa_cons (pe_w (pv 4) xd_var) (pa_w pa_nil xa_nil)) xa_cons)) xa_cons)) xd_tup)) xs_ret)) xs_frz)))))) pure_played
end

/-! ### _law_taken: the row is read and written, so the layer's own words -/
section
variable {P : Program} {w : World} {g : Glb} {mg : Str → Option Value} {base : Heap}
theorem sc_law_taken : FnScope ["_law_row", "_law_many", "_law_found", "_law_cell"] ["_law_row", "_law_many"] (defScope s_law_taken) := ⟨rfl, rfl, rfl, by decide +kernel, rfl, by decide +kernel, by decide +kernel⟩
theorem ok_law_taken {f : Addr} {fd : FuncData} (Fn : FunP g.K "_law_taken" s_law_taken f fd) (mgf : mg "_law_taken" = some (.ref f)) (T : Txt mg) : C8.Cal P w g.K mg base 1 "_law_taken" (spD g f_law_taken) [] := by
  refine ⟨f, fd, ["_law_row", "_law_many"], [], Fn.ok (k := 0) sc_law_taken (fun vs H Q E h => ?_) (fun cdv A outer s H vs Q E hr h => ?_), mgf, Fn.kp, Fn.bindsN fun _ _ _ _ _ _ us hl => match us, hl with | [_, _], _ => rfl, .nil⟩
  · obtain ⟨c, F, ds, R, _, _, rv, h, _⟩ := h
    rw [rv.length]; exact len_law_taken ds R h
  · obtain ⟨c, F, ds, R, hg, W, rv, ⟨m, rfl, hm, hm2, hR⟩, P'⟩ := h
    subst hg
    obtain ⟨v1, v2, rfl, q1, q2⟩ := reps2 rv
    have e1 := q1.row_inv
    have e2 := q2.int_inv
    subst e1 e2
    obtain ⟨i, x, k, hrow, hi, hx, hx2, hsq⟩ := W.row
    -- what is asked of the end
    have fin : ∀ (i' x' k' v : Int) (H' : Hp), 0 ≤ i' → 0 ≤ x' → x' < 2147483647 → H' c.r = some (.lst [.ref c.a, .int i', .int x', .int k']) → (∀ b, b ≠ c.r → H' b = H b) → 0 ≤ v → v < m → Q (.int v) H' := fun i' x' k' v H' a1 a2 a3 a4 a5 a6 a7 =>
      P' _ _ H' F (hR v a6 a7) (Ext.rowed W a1 a2 a3 a4 a5) .int
    refine ⟨_, PSs.nox (pss_cons (ps_if (pt_cmpR op_gt (pe_ix ix_list (pv 0) pe_int (fun _ _ => rfl)) pe_int (nomark _))
        (pss_cons (ps_set (i := 2) sc_law_taken.nd rfl (.inl rfl) (pe_op op_modN (pe_ix ix_list (pv 0) pe_int (fun _ _ => rfl)) (pv 1)))
        (pss_cons (ps_asg (pe_op op_fdivN (pe_ix ix_list (pv 0) pe_int (fun _ _ => rfl)) (pv 1)) (pg_sub (pv 0) pe_int set_list))
        (pss_one (ps_ret (pv 2))))) pss_nil)
      (pss_cons (ps_asg (pe_op op_add (pe_ix ix_list (pv 0) pe_int (fun _ _ => rfl)) pe_int) (pg_sub (pv 0) pe_int set_list))
      (pss_cons (ps_if (pt_cmpR op_gt (pe_ix ix_list (pv 0) pe_int (fun _ _ => rfl)) (pe_callB call_len_seq (by rfl) T.m_len PySem.boot_len (pa_cons (pe_ix ix_list (pv 0) pe_int (fun _ _ => rfl)) pa_nil)) (nomark _))
        (pss_cons (ps_asg (pe_op op_modN (pe_op op_add (pe_op op_mul (pe_ix ix_list (pv 0) pe_int (fun _ _ => rfl)) pe_int) pe_int) pe_int) (pg_sub (pv 0) pe_int set_list))
        (pss_one (ps_ret (pe_op op_modN (pe_op op_fdivN (pe_ix ix_list (pv 0) pe_int (fun _ _ => rfl)) pe_int) (pv 1))))) pss_nil)
      (pss_cons (ps_set (i := 3) sc_law_taken.nd rfl (.inl rfl) (pe_ix ix_list (pe_ix ix_list (pv 0) pe_int (fun _ _ => rfl)) (pe_op op_sub (pe_ix ix_list (pv 0) pe_int (fun _ _ => rfl)) pe_int) (fun _ _ => rfl)))
      (pss_cons (ps_asg (pe_op op_modN (pe_op op_add (pe_op op_add (pe_op op_mul (pe_ix ix_list (pv 0) pe_int (fun _ _ => rfl)) pe_int) (pv 3)) pe_int) pe_int) (pg_sub (pv 0) pe_int set_list))
      (pss_cons (ps_if (pt_cmpR op_ge (pv 3) (pe_op op_pow pe_int pe_int) (nomark _))
        (pss_one (ps_asg (pe_op op_fdivN (pv 3) (pv 1)) (pg_sub (pv 0) pe_int set_list))) pss_nil)
      (pss_one (ps_ret (pe_op op_modN (pv 3) (pv 1)))))))))), ?_⟩
    have hz : m ≠ 0 := by omega
    have hd : m ≠ 0 ∧ m.natAbs < 1073741824 := ⟨hz, by omega⟩
    -- if row[3] > 0
    refine ⟨_, rfl, c.r, _, 3, .int k, rfl, rfl, SqL.of hrow, rfl, _, _, rfl, rfl, _, rfl, ?_⟩
    refine ite2 (fun _ => ?_) (fun _ => ?_)
    · refine ⟨_, rfl, c.r, _, 3, .int k, rfl, rfl, SqL.of hrow, rfl, _, rfl, _, _, rfl, rfl, hz, ?_⟩
      refine ⟨_, rfl, c.r, _, 3, .int k, rfl, rfl, SqL.of hrow, rfl, _, rfl, _, _, rfl, rfl, hd, _, rfl, c.r, _, 3, 3, rfl, rfl, hrow, rfl, _, rfl, ?_⟩
      exact fin i x _ _ _ hi hx hx2 upd_same (fun b hb => upd_ne hb) (fmod_lt hm).1 (fmod_lt hm).2
    · -- row[1] = row[1] + 1
      refine ⟨_, rfl, c.r, _, 1, .int i, rfl, rfl, SqL.of hrow, rfl, _, _, rfl, rfl, _, rfl, c.r, _, 1, 1, rfl, rfl, hrow, rfl, ?_⟩
      have row1 : upd H c.r (.lst [.ref c.a, .int (i + 1), .int x, .int k]) c.r = some (.lst [.ref c.a, .int (i + 1), .int x, .int k]) := upd_same
      have sq1 : SqL c.g.K (upd H c.r (.lst [.ref c.a, .int (i + 1), .int x, .int k])) c.a (c.ns.map V.int) := (Ext.rowed (k := k) W (show 0 ≤ i + 1 by omega) hx hx2 row1 (fun b hb => upd_ne hb)).ok.row.sq
      refine ⟨_, rfl, c.r, _, 1, .int (i + 1), rfl, rfl, SqL.of row1, rfl, _, rfl, c.r, _, 0, .ref c.a, rfl, rfl, SqL.of row1, rfl, c.a, _, rfl, .inl sq1, _, _, rfl, rfl, _, rfl, ?_⟩
      refine ite2 (fun _ => ?_) (fun hle => ?_)
      · refine ⟨_, rfl, c.r, _, 2, .int x, rfl, rfl, SqL.of row1, rfl, _, _, rfl, rfl, .inl ⟨by omega, by omega⟩, _, _, rfl, rfl, _, _, rfl, rfl, (show (2147483647 : Int) ≠ 0 by decide), _, rfl, c.r, _, 2, 2, rfl, rfl, row1, rfl, ?_⟩
        refine ⟨_, rfl, c.r, _, 2, _, rfl, rfl, SqL.of upd_same, rfl, _, _, rfl, rfl, ⟨by decide, by decide⟩, _, rfl, _, _, rfl, rfl, hz, ?_⟩
        have b := fmod_lt (a := x * 48271 + 11) (show (0 : Int) < 2147483647 by decide)
        exact fin (i + 1) _ k _ _ (by omega) b.1 b.2 upd_same (fun b hb => by rw [upd_ne hb, upd_ne hb]) (fmod_lt hm).1 (fmod_lt hm).2
      · -- the cell
        rw [List.length_map] at hle
        have hle2 : i < c.ns.length := by
          have := of_decide_eq_false (Bool.eq_false_iff.mpr hle)
          omega
        obtain ⟨n, hn⟩ : ∃ n : Nat, i = n := ⟨i.toNat, by omega⟩
        subst hn
        have hn3 : n < c.ns.length := by omega
        have at1 : atI (c.ns.map V.int) ((n : Int) + 1 - 1) = some (.int c.ns[n]) := by
          have e : ((n : Int) + 1 - 1) = (n : Int) := by omega
          rw [e]
          exact atI_nat (by rw [List.getElem?_map, List.getElem?_eq_getElem hn3]; rfl)
        refine ⟨_, rfl, c.r, _, 0, .ref c.a, rfl, rfl, SqL.of row1, rfl, _, rfl, c.r, _, 1, .int ((n : Int) + 1), rfl, rfl, SqL.of row1, rfl, _, _, rfl, rfl, c.a, _, _, _, rfl, rfl, sq1, at1, ?_⟩
        refine ⟨_, rfl, c.r, _, 2, .int x, rfl, rfl, SqL.of row1, rfl, _, _, rfl, rfl, .inl ⟨by omega, by omega⟩, _, rfl, _, _, rfl, rfl, _, _, rfl, rfl, _, _, rfl, rfl, (show (2147483647 : Int) ≠ 0 by decide), _, rfl, c.r, _, 2, 2, rfl, rfl, row1, rfl, ?_⟩
        have b := fmod_lt (a := x * 48271 + c.ns[n] + 11) (show (0 : Int) < 2147483647 by decide)
        refine ⟨_, rfl, _, _, rfl, rfl, ⟨by decide, by decide, by decide⟩, _, _, rfl, rfl, _, rfl, ?_⟩
        refine ite2 (fun _ => ?_) (fun _ => ?_)
        · refine ⟨_, rfl, _, rfl, _, _, rfl, rfl, hd, _, rfl, c.r, _, 3, 3, rfl, rfl, upd_same, rfl, ?_⟩
          refine ⟨_, rfl, _, rfl, _, _, rfl, rfl, hz, ?_⟩
          exact fin (n + 1) _ _ _ _ (by omega) b.1 b.2 upd_same (fun b hb => by rw [upd_ne hb, upd_ne hb, upd_ne hb]) (fmod_lt hm).1 (fmod_lt hm).2
        · refine ⟨_, rfl, _, rfl, _, _, rfl, rfl, hz, ?_⟩
          exact fin (n + 1) _ k _ _ (by omega) b.1 b.2 upd_same (fun b hb => by rw [upd_ne hb, upd_ne hb]) (fmod_lt hm).1 (fmod_lt hm).2
end

/-! ### _law_alike, by the depth of what is compared: of one and the same datum it is true -/
/-- data of this depth at most, of no great lists -/
inductive Al : Nat → D → Prop
  | non {n : Nat} : Al n .none
  | bool {n : Nat} (b : Bool) : Al n (.bool b)
  | int {n : Nat} (i : Int) : Al n (.int i)
  | lst {n : Nat} {xs : List D} : xs.length ≤ 1000000 → (∀ x ∈ xs, Al n x) → Al (n + 1) (.list xs)
  | tup {n : Nat} {xs : List D} : xs.length ≤ 1000000 → (∀ x ∈ xs, Al n x) → Al (n + 1) (.tuple xs)
def f_alike : Nat → Fd
  | 0 => fun _ _ => False
  | n + 1 => fun ds R => ∃ d, ds = [d, d] ∧ Al n d ∧ R (.bool true)
theorem len_alike (n : Nat) : ∀ ds R, f_alike n ds R → ds.length = 2 := by
  cases n with
  | zero => intro ds R h; exact h.elim
  | succ n => rintro ds R ⟨d, rfl, _⟩; rfl
def f_law_alike : Fd := f_alike 4
theorem len_law_alike : ∀ ds R, f_law_alike ds R → ds.length = 2 := len_alike 4
@[simp] theorem law_alike_iff {x y : D} {R : D → Prop} : f_law_alike [x, y] R ↔ x = y ∧ Al 3 y ∧ R (.bool true) := by
  constructor
  · rintro ⟨d, e, h⟩; simp at e; obtain ⟨rfl, rfl⟩ := e; exact ⟨rfl, h⟩
  · rintro ⟨rfl, h⟩; exact ⟨_, rfl, h⟩
theorem Al.ints {n : Nat} {l : List Int} (h : l.length ≤ 1000000) : Al (n + 1) (intsD l) := .tup (by simpa using h) fun x hx => by
  obtain ⟨i, _, rfl⟩ := List.mem_map.mp hx
  exact .int i
theorem Al.intsL {n : Nat} {l : List Int} (h : l.length ≤ 1000000) : Al (n + 1) (.list (l.map PyData.int)) := .lst (by simpa using h) fun x hx => by
  obtain ⟨i, _, rfl⟩ := List.mem_map.mp hx
  exact .int i
def W_law_alike (fa : Fd) : WS := (dSeq (dIfS (bOr (bTru (dIsi "tuple" (dVar 1))) (bTru (dIsi "list" (dVar 1)))) (dSeq (dIfS (bOr (bB (dOp rdNe (dIsi "tuple" (dVar 0)) (dIsi "tuple" (dVar 1)))) (bNot (bTru (dIsi2 "tuple" "list" (dVar 0))))) (dRet (dC (.bool false))) dNext) (dSeq (dIfS (bB (dOp rdNe (dCall rdLen (aCons (dVar 0) aNil)) (dCall rdLen (aCons (dVar 1) aNil)))) (dRet (dC (.bool false))) dNext) (dRet (dOp rdEq (dN (dLcW (iR1 (aCons (dCall rdLen (aCons (dVar 1) aNil)) aNil)) (tgN 2) (bNot (bTru (dCall fa (aCons (dOp rdIx (dVar 0) (dVar 2)) (aCons (dOp rdIx (dVar 1) (dVar 2)) aNil))))) (dVar 2) [2])) (dLst aNil))))) dNext) (dSeq (dIfS (bOr (bB (dIsN (dVar 1))) (bB (dIsN (dVar 0)))) (dRet (dAnd (dIsN (dVar 1)) (dIsN (dVar 0)))) dNext) (dSeq (dIfS (bOr (bTru (dIsi "bool" (dVar 1))) (bTru (dIsi "bool" (dVar 0)))) (dRet (dAnd (dIsi "bool" (dVar 1)) (dAnd (dIsi "bool" (dVar 0)) (dOp rdEq (dVar 0) (dVar 1))))) dNext) (dSeq (dIfS (bTru (dIsi "str" (dVar 1))) (dRet (dAnd (dIsi "str" (dVar 0)) (dOp rdEq (dVar 0) (dVar 1)))) dNext) (dRet (dAnd (dIsi "int" (dVar 0)) (dOp rdEq (dVar 0) (dVar 1))))))))
def N_law_alike : List Str := ["_law_found", "_law_due", "_law_k"]
theorem sc_law_alike : FnScope ["_law_found", "_law_due", "_law_k"] ["_law_found", "_law_due"] (defScope s_law_alike) := ⟨rfl, rfl, rfl, by decide +kernel, rfl, by decide +kernel, by decide +kernel⟩
theorem alike_items {n : Nat} (xs : List D) (hx : ∀ x ∈ xs, Al n x) {g : D → (Sg → Prop) → Prop} {wt : WT} {we : W} {R : List D → Prop} (hg : ∀ (i : Nat) x, xs[i]? = some x → ∀ K : Option D → Prop, K none → g (.int (0 + (i : Nat))) fun e' => wt e' fun b => if b = true then we e' fun y => y ≠ .dict [] ∧ K (some y) else K none) (r : R []) :
    lcRun g wt we R (rngD 0 xs.length) [] := by
  refine lcRun_det (fun _ => none) _ _ (fun d hd K k => ?_) ?_
  · unfold rngD at hd
    obtain ⟨i, hi, rfl⟩ := List.mem_map.mp hd
    have hi' := List.mem_range.mp hi
    exact hg i _ (List.getElem?_eq_getElem hi') K k
  · rw [List.nil_append, filterMap_nothing]; exact r
theorem pure_law_alike (n : Nat) : ∀ ds R, f_alike (n + 1) ds R → W_law_alike (f_alike n) { nx := fun _ => R .none, rt := R } (startD ["_law_found", "_law_due", "_law_k"] ds) := by
  rintro ds R ⟨d, rfl, hd, h⟩
  cases hd with
  | non => simp [W_law_alike, tyN, isN, isNone, h]
  | bool b => simp [W_law_alike, tyN, isN, isNone, h]
  | int i => simp [W_law_alike, tyN, isN, isNone, h]
  | @lst m xs hl hx =>
    simp [W_law_alike, tyN, isN, isNone]
    refine ⟨by omega, by omega, alike_items xs hx (fun i x hi K k => ?_) (by simpa using h)⟩
    have e := atI_z hi
    simp only [Int.zero_add] at e
    simp [e]
    exact ⟨x, rfl, hx x (List.mem_of_getElem? hi), by simpa using k⟩
  | @tup m xs hl hx =>
    simp [W_law_alike, tyN, isN, isNone]
    refine ⟨by omega, by omega, alike_items xs hx (fun i x hi K k => ?_) (by simpa using h)⟩
    have e := atI_z hi
    simp only [Int.zero_add] at e
    simp [e]
    exact ⟨x, rfl, hx x (List.mem_of_getElem? hi), by simpa using k⟩
section
variable {P : Program} {w : World} {g : Glb} {mg : Str → Option Value} {base : Heap}
theorem step_law_alike {f : Addr} {fd : FuncData} {k : Nat} {fa fb : Fd} (F : FunP g.K "_law_alike" s_law_alike f fd) (mgf : mg "_law_alike" = some (.ref f)) (T : Txt mg) (hlen : ∀ ds R, fb ds R → ds.length = 2) (C_law_alike : C8.Cal P w g.K mg base k "_law_alike" (spD g fa) [])
    (pure_ : ∀ ds R, fb ds R → W_law_alike fa { nx := fun _ => R .none, rt := R } (startD ["_law_found", "_law_due", "_law_k"] ds)) : C8.Cal P w g.K mg base (k + 1) "_law_alike" (spD g fb) [] :=
  calD (N := ["_law_found", "_law_due", "_law_k"]) (ps := ["_law_found", "_law_due"]) (k := k) (wb := W_law_alike fa) F mgf (F.bindsN fun _ _ _ _ _ _ us hl => match us, hl with | [_, _], _ => rfl) sc_law_alike hlen (fun cdv A outer s H E r a ns hr =>
    (pssd_cons (ps_w (ps_if (PW.pt (pw_w (pw_or (pt_w (pt_truth (pe_w (pe_callB call_isi (by rfl) T.m_isinstance (by decide +kernel) (pa_cons (pe_w (pv 1) xd_var) (pa_cons (pe_bltn (v := .ty "tuple") (by rfl) T.m_tuple (by decide +kernel) rfl) pa_nil))) (xd_isi (by decide))) (by intro _; rfl)) xt_tru) (pw_or1 (pt_w (pt_truth (pe_w (pe_callB call_isi (by rfl) T.m_isinstance (by decide +kernel) (pa_cons (pe_w (pv 1) xd_var) (pa_cons (pe_bltn (v := .ty "list") (by rfl) T.m_list (by decide +kernel) rfl) pa_nil))) (xd_isi (by decide))) (by intro _; rfl)) xt_tru))) xt_or)) (pssd_cons (ps_w (ps_if (PW.pt (pw_w (pw_or (pt_w (pt_cmpR (op_neD hr.units) (pe_w (pe_callB call_isi (by rfl) T.m_isinstance (by decide +kernel) (pa_cons (pe_w (pv 0) xd_var) (pa_cons (pe_bltn (v := .ty "tuple") (by rfl) T.m_tuple (by decide +kernel) rfl) pa_nil))) (xd_isi (by decide))) (pe_w (pe_callB call_isi (by rfl) T.m_isinstance (by decide +kernel) (pa_cons (pe_w (pv 1) xd_var) (pa_cons (pe_bltn (v := .ty "tuple") (by rfl) T.m_tuple (by decide +kernel) rfl) pa_nil))) (xd_isi (by decide))) (nomark _)) (xt_cmp od_ne)) (pw_or1 (pt_w (pt_not (pt_w (pt_truth (pe_w (pe_callB call_isiT (by rfl) T.m_isinstance (by decide +kernel) (pa_cons (pe_w (pv 0) xd_var) (pa_cons (pe_tup (pa_cons (pe_bltn (v := .ty "tuple") (by rfl) T.m_tuple (by decide +kernel) rfl) (pa_cons (pe_bltn (v := .ty "list") (by rfl) T.m_list (by decide +kernel) rfl) pa_nil))) pa_nil))) (xd_isi2 (by decide) (by decide))) (by intro _; rfl)) xt_tru)) xt_not))) xt_or)) (pssd_one (ps_w (ps_ret (pe_w pe_bl (xd_c fun _ => .bl))) xs_ret)) pssd_nil) xs_if) (pssd_cons (ps_w (ps_if (pt_w (pt_cmpR (op_neD hr.units) (pe_w (pe_callB call_len_seq (by rfl) T.m_len PySem.boot_len (pa_w (pa_cons (pe_w (pv 0) xd_var) (pa_w pa_nil xa_nil)) xa_cons)) (xd_cb cd_len)) (pe_w (pe_callB call_len_seq (by rfl) T.m_len PySem.boot_len (pa_w (pa_cons (pe_w (pv 1) xd_var) (pa_w pa_nil xa_nil)) xa_cons)) (xd_cb cd_len)) (nomark _)) (xt_cmp od_ne)) (pssd_one (ps_w (ps_ret (pe_w pe_bl (xd_c fun _ => .bl))) xs_ret)) pssd_nil) xs_if) (pssd_one (ps_w (ps_ret (pe_w (pe_cmpR (op_eqD hr.units) (pe_w (pe_w (pe_lc (own := [("_law_k", 2)]) (g := gName 2) rfl sc_law_alike.nd (pi_w (pi_range1 (by rfl) T.m_range (pa_w (pa_cons (pe_w (pe_callB call_len_seq (by rfl) T.m_len PySem.boot_len (pa_w (pa_cons (pe_w (pv 1) xd_var) (pa_w pa_nil xa_nil)) xa_cons)) (xd_cb cd_len)) (pa_w pa_nil xa_nil)) xa_cons)) xi_rng1) (blkOk_by (own := [("_law_k", 2)]) (N := ["_law_found", "_law_due", "_law_k"]) (sc := (defScope s_law_alike)) (by decide +kernel)) (fun _ _ _ _ _ => (pg_name (i := 2) sc_law_alike.nd rfl (.inl rfl))) (fun _ _ _ _ _ => (pts_one (pt_w (pt_not (pt_w (pt_truth (pe_w (C8.pe_c C_law_alike hr (Nat.le_refl _) (by rfl) (pa_w (pa_cons (pe_w (pe_ix ix_lt (pe_w (pv 0) xd_var) (pe_w (pv 2) xd_var) (fun _ _ => rfl)) (xd_op od_ixL)) (pa_w (pa_cons (pe_w (pe_ix ix_lt (pe_w (pv 1) xd_var) (pe_w (pv 2) xd_var) (fun _ _ => rfl)) (xd_op od_ixL)) (pa_w pa_nil xa_nil)) xa_cons)) xa_cons)) xd_call) (by intro _; rfl)) xt_tru)) xt_not))) (fun _ _ _ _ _ => (pe_w (pv 2) xd_var))) (xn_lc gd_name stores_name)) xd_N) (pe_w (pe_lst (pa_w pa_nil xa_nil)) xd_lst) (nomark _)) (xd_op od_eq))) xs_ret)))) pssd_nil) xs_if) (pssd_cons (ps_w (ps_if (PW.pt (pw_w (pw_or (pt_w (pt_cmp (pc_isN (pe_w (pv 1) xd_var))) xt_isN) (pw_or1 (pt_w (pt_cmp (pc_isN (pe_w (pv 0) xd_var))) xt_isN))) xt_or)) (pssd_one (ps_w (ps_ret (pe_w (pe_and (pe_w (pe_cmp (pc_isN (pe_w (pv 1) xd_var))) xd_isN) (pe_one (pe_w (pe_cmp (pc_isN (pe_w (pv 0) xd_var))) xd_isN))) xd_and)) xs_ret)) pssd_nil) xs_if) (pssd_cons (ps_w (ps_if (PW.pt (pw_w (pw_or (pt_w (pt_truth (pe_w (pe_callB call_isi (by rfl) T.m_isinstance (by decide +kernel) (pa_cons (pe_w (pv 1) xd_var) (pa_cons (pe_bltn (v := .ty "bool") (by rfl) T.m_bool (by decide +kernel) rfl) pa_nil))) (xd_isi (by decide))) (by intro _; rfl)) xt_tru) (pw_or1 (pt_w (pt_truth (pe_w (pe_callB call_isi (by rfl) T.m_isinstance (by decide +kernel) (pa_cons (pe_w (pv 0) xd_var) (pa_cons (pe_bltn (v := .ty "bool") (by rfl) T.m_bool (by decide +kernel) rfl) pa_nil))) (xd_isi (by decide))) (by intro _; rfl)) xt_tru))) xt_or)) (pssd_one (ps_w (ps_ret (pe_w (pe_and (pe_w (pe_callB call_isi (by rfl) T.m_isinstance (by decide +kernel) (pa_cons (pe_w (pv 1) xd_var) (pa_cons (pe_bltn (v := .ty "bool") (by rfl) T.m_bool (by decide +kernel) rfl) pa_nil))) (xd_isi (by decide))) (pe_w (pe_and (pe_w (pe_callB call_isi (by rfl) T.m_isinstance (by decide +kernel) (pa_cons (pe_w (pv 0) xd_var) (pa_cons (pe_bltn (v := .ty "bool") (by rfl) T.m_bool (by decide +kernel) rfl) pa_nil))) (xd_isi (by decide))) (pe_one (pe_w (pe_cmpR (op_eqD hr.units) (pe_w (pv 0) xd_var) (pe_w (pv 1) xd_var) (nomark _)) (xd_op od_eq)))) xd_and)) xd_and)) xs_ret)) pssd_nil) xs_if) (pssd_cons (ps_w (ps_if (pt_w (pt_truth (pe_w (pe_callB call_isi (by rfl) T.m_isinstance (by decide +kernel) (pa_cons (pe_w (pv 1) xd_var) (pa_cons (pe_bltn (v := .ty "str") (by rfl) T.m_str (by decide +kernel) rfl) pa_nil))) (xd_isi (by decide))) (by intro _; rfl)) xt_tru) (pssd_one (ps_w (ps_ret (pe_w (pe_and (pe_w (pe_callB call_isi (by rfl) T.m_isinstance (by decide +kernel) (pa_cons (pe_w (pv 0) xd_var) (pa_cons (pe_bltn (v := .ty "str") (by rfl) T.m_str (by decide +kernel) rfl) pa_nil))) (xd_isi (by decide))) (pe_one (pe_w (pe_cmpR (op_eqD hr.units) (pe_w (pv 0) xd_var) (pe_w (pv 1) xd_var) (nomark _)) (xd_op od_eq)))) xd_and)) xs_ret)) pssd_nil) xs_if) (pssd_one (ps_w (ps_ret (pe_w (pe_and (pe_w (pe_callB call_isi (by rfl) T.m_isinstance (by decide +kernel) (pa_cons (pe_w (pv 0) xd_var) (pa_cons (pe_bltn (v := .ty "int") (by rfl) T.m_int (by decide +kernel) rfl) pa_nil))) (xd_isi (by decide))) (pe_one (pe_w (pe_cmpR (op_eqD hr.units) (pe_w (pv 0) xd_var) (pe_w (pv 1) xd_var) (nomark _)) (xd_op od_eq)))) xd_and)) xs_ret))))))) pure_
theorem cal_none {x : Str} {st : Stmt} {f : Addr} {fd : FuncData} {ps : List Str} (F : FunP g.K x st f fd) (mgf : mg x = some (.ref f)) (b : Binds g.K fd ps []) : C8.Cal P w g.K mg base 0 x (spD g fun _ _ => False) [] :=
  ⟨f, fd, ps, [], ⟨fun vs H Q E ⟨_, _, _, _, _, _, _, h, _⟩ => h.elim, fun A outer s H args us vs Q E _ _ _ _ ⟨_, _, _, _, _, _, _, h, _⟩ => h.elim⟩, mgf, F.kp, b, .nil⟩
theorem alike_at {f : Addr} {fd : FuncData} (F : FunP g.K "_law_alike" s_law_alike f fd) (mgf : mg "_law_alike" = some (.ref f)) (T : Txt mg) : ∀ n : Nat, C8.Cal P w g.K mg base n "_law_alike" (spD g (f_alike n)) []
  | 0 => cal_none F mgf (F.bindsN (ps := ["_law_found", "_law_due"]) fun _ _ _ _ _ _ us hl => match us, hl with | [_, _], _ => rfl)
  | n + 1 => step_law_alike F mgf T (len_alike (n + 1)) (alike_at F mgf T n) (pure_law_alike n)
theorem ok_law_alike {f : Addr} {fd : FuncData} (F : FunP g.K "_law_alike" s_law_alike f fd) (mgf : mg "_law_alike" = some (.ref f)) (T : Txt mg) : C8.Cal P w g.K mg base 4 "_law_alike" (spD g f_law_alike) [] := alike_at F mgf T 4
end

/-! ### _law_neck -/
def f_law_neck : Fd := fun ds R => ∃ most : Int, ds = [.dict [], .int most] ∧ 1 ≤ most ∧ most ≤ 6 ∧ ∀ t f c, OkNeck t f c → (t.length : Int) ≤ most → R (neckD t f c)
theorem len_law_neck : ∀ ds R, f_law_neck ds R → ds.length = 2 := by
  rintro ds R ⟨m, rfl, _⟩; rfl
@[simp] theorem law_neck_iff {most : Int} {R : D → Prop} : f_law_neck [.dict [], .int most] R ↔ 1 ≤ most ∧ most ≤ 6 ∧ ∀ t f c, OkNeck t f c → (t.length : Int) ≤ most → R (neckD t f c) := by
  constructor
  · rintro ⟨m, e, h⟩; simp at e; rw [e]; exact h
  · intro h; exact ⟨_, rfl, h⟩
def W_law_neck : WS := (dSeq (dAsg 2 (dCall f_law_taken (aCons (dVar 0) (aCons (dC (.int 40)) aNil)))) (dSeq (dOwn 3 (nLst (aCons (dVar 2) aNil))) (dSeq (dFor (iR1 (aCons (dCall f_law_taken (aCons (dVar 0) (aCons (dVar 1) aNil))) aNil)) (tgN 4) (dApp 3 (dCall rdMin2 (aCons (dC (.int 60)) (aCons (dCall rdMax2 (aCons (dC (.int 0)) (aCons (dOp rdAdd (dOwnIx 3 (dNeg (dC (.int 1)))) (dOp rdIx (dLst (aCons (dC (.int 5)) (aCons (dC (.int 4)) (aCons (dC (.int 7)) (aCons (dC (.int 0)) (aCons (dOp rdSub (dCall f_law_taken (aCons (dVar 0) (aCons (dC (.int 14)) aNil))) (dC (.int 5))) aNil)))))) (dCall f_law_taken (aCons (dVar 0) (aCons (dC (.int 5)) aNil))))) aNil))) aNil))))) (dFrz 3 (dSeq (dIfS (bB (dOp rdEq (dCall f_law_taken (aCons (dVar 0) (aCons (dC (.int 6)) aNil))) (dC (.int 5)))) (dAsg 3 (dN (dLcW (iLst (dVar 3)) (tgN 7) (fun _ R => R true) (dCall f_law_taken (aCons (dVar 0) (aCons (dC (.int 61)) aNil))) [7]))) dNext) (dSeq (dAsg 5 (dOp rdIx (dLst (aCons (dC (.int 12)) (aCons (dC (.int 5)) (aCons (dC (.int 7)) (aCons (dCall f_law_taken (aCons (dVar 0) (aCons (dC (.int 21)) aNil))) aNil))))) (dCall f_law_taken (aCons (dVar 0) (aCons (dC (.int 4)) aNil))))) (dSeq (dAsg 6 (dOp rdIx (dLst (aCons (dC (.int 0)) (aCons (dC (.int 0)) (aCons (dCall f_law_taken (aCons (dVar 0) (aCons (dOp rdAdd (dVar 5) (dC (.int 1))) aNil))) aNil)))) (dCall f_law_taken (aCons (dVar 0) (aCons (dC (.int 3)) aNil))))) (dRet (dTup (aCons (dCall rdTuple (aCons (dVar 3) aNil)) (aCons (dVar 5) (aCons (dVar 6) aNil))))))))))))
def N_law_neck : List Str := ["_law_row", "_law_most", "_law_begin", "_law_tuning", "_law_k", "_law_frets", "_law_capo", "_law_note"]
theorem sc_law_neck : FnScope ["_law_row", "_law_most", "_law_begin", "_law_tuning", "_law_k", "_law_frets", "_law_capo", "_law_note"] ["_law_row", "_law_most"] (defScope s_law_neck) := ⟨rfl, rfl, rfl, by decide +kernel, rfl, by decide +kernel, by decide +kernel⟩
theorem neck_end {R : D → Prop} {most : Int} {a b c0 d0 e0 u7 : Sl} {l : List Int} (hl : 1 ≤ l.length) (hl6 : (l.length : Int) ≤ most) (h6 : most ≤ 6) (hn : ∀ y ∈ l, 0 ≤ y ∧ y ≤ 60) (hR : ∀ t f c, OkNeck t f c → (t.length : Int) ≤ most → R (neckD t f c)) :
    dSeq (dAsg 5 (dOp rdIx (dLst (aCons (dC (.int 12)) (aCons (dC (.int 5)) (aCons (dC (.int 7)) (aCons (dCall f_law_taken (aCons (dVar 0) (aCons (dC (.int 21)) aNil))) aNil))))) (dCall f_law_taken (aCons (dVar 0) (aCons (dC (.int 4)) aNil)))))
      (dSeq (dAsg 6 (dOp rdIx (dLst (aCons (dC (.int 0)) (aCons (dC (.int 0)) (aCons (dCall f_law_taken (aCons (dVar 0) (aCons (dOp rdAdd (dVar 5) (dC (.int 1))) aNil))) aNil)))) (dCall f_law_taken (aCons (dVar 0) (aCons (dC (.int 3)) aNil)))))
        (dRet (dTup (aCons (dCall rdTuple (aCons (dVar 3) aNil)) (aCons (dVar 5) (aCons (dVar 6) aNil)))))) { nx := fun _ => R .none, rt := R } [.val (.dict []), a, b, .val (.list (l.map PyData.int)), c0, d0, e0, u7] := by
  simp
  intro f0 hf0 hf1 i hi0 hi1
  obtain ⟨d, e, hd⟩ := atI_in (l := [PyData.int 12, PyData.int 5, PyData.int 7, PyData.int f0]) hi0 (by simpa using hi1)
  obtain ⟨f, rfl, g0, g1⟩ : ∃ f : Int, d = .int f ∧ 0 ≤ f ∧ f ≤ 20 := by
    simp at hd
    rcases hd with rfl | rfl | rfl | rfl
    · exact ⟨12, rfl, by omega, by omega⟩
    · exact ⟨5, rfl, by omega, by omega⟩
    · exact ⟨7, rfl, by omega, by omega⟩
    · exact ⟨f0, rfl, by omega, by omega⟩
  refine ⟨_, e, ?_⟩
  simp
  refine ⟨by omega, by omega, ?_⟩
  intro c1 hc0 hc1 j hj0 hj1
  obtain ⟨d, e, hd⟩ := atI_in (l := [PyData.int 0, PyData.int 0, PyData.int c1]) hj0 (by simpa using hj1)
  obtain ⟨c, rfl, k0, k1⟩ : ∃ c : Int, d = .int c ∧ 0 ≤ c ∧ c ≤ f := by
    simp at hd
    rcases hd with rfl | rfl
    · exact ⟨0, rfl, by omega, by omega⟩
    · exact ⟨c1, rfl, by omega, by omega⟩
  refine ⟨_, e, ?_⟩
  simp
  exact hR l f c ⟨hl, by omega, hn, g0, g1, k0, k1⟩ hl6
theorem pure_law_neck : ∀ ds R, f_law_neck ds R → W_law_neck { nx := fun _ => R .none, rt := R } (startD ["_law_row", "_law_most", "_law_begin", "_law_tuning", "_law_k", "_law_frets", "_law_capo", "_law_note"] ds) := by
  rintro ds R ⟨most, rfl, h1, h6, hR⟩
  simp [W_law_neck]
  intro v hv0 hv1
  refine ⟨by omega, by omega, ?_⟩
  intro n hn0 hn1
  refine ⟨by omega, by omega, ?_⟩
  refine forRun_inv (fun ds e => ∃ (l : List Int) (z : Int) (x : Sl), (∀ y ∈ l ++ [z], 0 ≤ y ∧ y ≤ 60) ∧ l.length + ds.length = n.toNat ∧ e = [Sl.val (.dict []), .val (.int most), .val (.int v), .own ((l ++ [z]).map PyData.int), x, .un, .un, .un]) ?_ ?_ _ _ ⟨[], v, .un, by simp; omega, by simp, rfl⟩
  · rintro d ds e ⟨l, z, x, hz, hl, rfl⟩ k
    simp
    refine ⟨_, atI_last _ _, ?_⟩
    simp
    intro w hw0 hw1 i hi0 hi1
    obtain ⟨d5, e5, hd⟩ := atI_in (l := [PyData.int 5, PyData.int 4, PyData.int 7, PyData.int 0, PyData.int (w - 5)]) hi0 (by simpa using hi1)
    obtain ⟨s, rfl⟩ : ∃ s : Int, d5 = .int s := by
      simp at hd
      rcases hd with rfl | rfl | rfl | rfl | rfl <;> exact ⟨_, rfl⟩
    refine ⟨_, e5, ?_⟩
    simp
    refine ⟨by simp at hl; omega, ?_⟩
    have hb : ∀ q : Int, 0 ≤ (if (if q > 0 then q else 0) < 60 then (if q > 0 then q else 0) else 60) ∧ (if (if q > 0 then q else 0) < 60 then (if q > 0 then q else 0) else 60) ≤ 60 := fun q => by split <;> split <;> omega
    have := k _ ⟨l ++ [z], (if (if z + s > 0 then z + s else 0) < 60 then (if z + s > 0 then z + s else 0) else 60), .val d, fun y hy => ?_, by simp at hl ⊢; omega, rfl⟩
    · simpa using this
    · rcases List.mem_append.mp hy with h | h
      · exact hz y h
      · rw [List.mem_singleton.mp h]
        exact hb (z + s)
  · rintro e ⟨l, z, x, hz, hl, rfl⟩
    simp only [rd, dFrz, List.getElem?_cons_succ, List.getElem?_cons_zero, Option.some.injEq, Sl.ownO.injEq, true_and, exists_eq_left', List.set_cons_succ, List.set_cons_zero]
    have len1 : ((l ++ [z]).length : Int) ≤ most := by simp at hl ⊢; omega
    show dIfS _ _ _ _ _
    simp only [dIfS, bB, dOp, dCall, aCons, aNil, dVar, rd, dC, List.getElem?_cons_succ, List.getElem?_cons_zero, Option.some.injEq, Sl.val.injEq, exists_eq_left', taken_iff]
    refine ⟨by omega, by omega, fun q hq0 hq1 => ?_⟩
    refine ⟨by simp, by simp, by simp, by simp, _, rfl, ?_⟩
    rw [eqv_int]
    by_cases h5 : q = 5
    · rw [if_pos (by simpa using h5)]
      simp only [dAsg, dN, dLcW, iLst, dVar, rd, List.getElem?_cons_succ, List.getElem?_cons_zero, Option.some.injEq, Sl.val.injEq, exists_eq_left', PyData.list.injEq, List.length_map]
      refine ⟨by omega, lcRun_each (fun d => ∃ i : Int, d = .int i ∧ 0 ≤ i ∧ i ≤ 60) _ _ (fun d hd K k => ?_) fun zs hzl hzs => ?_⟩
      · simp
        intro u hu0 hu1
        exact k _ ⟨u, rfl, by omega, by omega⟩
      · obtain ⟨m, rfl, hm⟩ : ∃ m : List Int, zs = m.map PyData.int ∧ ∀ y ∈ m, 0 ≤ y ∧ y ≤ 60 := by
          clear hzl
          induction zs with
          | nil => exact ⟨[], rfl, by simp⟩
          | cons a zs ih =>
            obtain ⟨m, e, hm⟩ := ih fun z hz => hzs z (List.mem_cons_of_mem _ hz)
            obtain ⟨i, rfl, hi⟩ := hzs a List.mem_cons_self
            exact ⟨i :: m, by rw [e]; rfl, fun y hy => by
              rcases List.mem_cons.mp hy with h | h
              · rw [h]; exact hi
              · exact hm y h⟩
        rw [List.length_map] at hzl
        exact neck_end (by rw [hzl]; simp) (by rw [hzl]; simpa using len1) h6 hm hR
    · rw [if_neg (by simpa using h5)]
      exact neck_end (by simp) len1 h6 hz hR
section
variable {P : Program} {w : World} {g : Glb} {mg : Str → Option Value} {base : Heap}
theorem ok_law_neck {f : Addr} {fd : FuncData} (F : FunP g.K "_law_neck" s_law_neck f fd) (mgf : mg "_law_neck" = some (.ref f)) (T : Txt mg) (C_law_taken : C8.Cal P w g.K mg base 1 "_law_taken" (spD g f_law_taken) []) : C8.Cal P w g.K mg base 2 "_law_neck" (spD g f_law_neck) [] :=
  calD (N := ["_law_row", "_law_most", "_law_begin", "_law_tuning", "_law_k", "_law_frets", "_law_capo", "_law_note"]) (ps := ["_law_row", "_law_most"]) (k := 1) (wb := W_law_neck) F mgf (F.bindsN fun _ _ _ _ _ _ us hl => match us, hl with | [_, _], _ => rfl) sc_law_neck len_law_neck (fun cdv A outer s H E r a ns hr =>
    (pssd_cons (ps_w (ps_set (i := 2) sc_law_neck.nd rfl (.inl rfl) (pe_w (C8.pe_c C_law_taken hr (by decide) (by rfl) (pa_w (pa_cons (pe_w (pv 0) xd_var) (pa_w (pa_cons (pe_w pe_int (xd_c fun _ => .int)) (pa_w pa_nil xa_nil)) xa_cons)) xa_cons)) xd_call)) xs_asg) (pssd_cons (ps_w (ps_set (i := 3) sc_law_neck.nd rfl (.inl rfl) (pe_w (pe_lst (pa_w (pa_cons (pe_w (pv 2) xd_var) (pa_w pa_nil xa_nil)) xa_cons)) xn_lst)) xs_own) (pssd_cons (ps_w (ps_for (g := gName 4) PassesOwn.never rfl (pi_w (pi_range1 (by rfl) T.m_range (pa_w (pa_cons (pe_w (C8.pe_c C_law_taken hr (by decide) (by rfl) (pa_w (pa_cons (pe_w (pv 0) xd_var) (pa_w (pa_cons (pe_w (pv 1) xd_var) (pa_w pa_nil xa_nil)) xa_cons)) xa_cons)) xd_call) (pa_w pa_nil xa_nil)) xa_cons)) xi_rng1) (pg_name (i := 4) sc_law_neck.nd rfl (.inl rfl)) (pssd_one (ps_w (ps_expr (pe_bm PySem.F.plainAttrs_list PySem.F.slot_list_append PySem.F.type_list_append mt_append (pv 3) (pa_cons (pe_w (pe_callB (call_min2 (by rfl)) (by rfl) T.m_min (by decide +kernel) (pa_w (pa_cons (pe_w pe_int (xd_c fun _ => .int)) (pa_w (pa_cons (pe_w (pe_callB (call_max2 (by rfl)) (by rfl) T.m_max (by decide +kernel) (pa_w (pa_cons (pe_w pe_int (xd_c fun _ => .int)) (pa_w (pa_cons (pe_w (pe_op op_add (pe_w (pe_ix ix_lt (pv 3) (pe_w (pe_un un_neg (pe_w pe_int (xd_c fun _ => .int))) xd_neg) (fun _ _ => rfl)) xd_ownIx) (pe_w (pe_ix ix_lt (pe_w (pe_lst (pa_w (pa_cons (pe_w pe_int (xd_c fun _ => .int)) (pa_w (pa_cons (pe_w pe_int (xd_c fun _ => .int)) (pa_w (pa_cons (pe_w pe_int (xd_c fun _ => .int)) (pa_w (pa_cons (pe_w pe_int (xd_c fun _ => .int)) (pa_w (pa_cons (pe_w (pe_op op_sub (pe_w (C8.pe_c C_law_taken hr (by decide) (by rfl) (pa_w (pa_cons (pe_w (pv 0) xd_var) (pa_w (pa_cons (pe_w pe_int (xd_c fun _ => .int)) (pa_w pa_nil xa_nil)) xa_cons)) xa_cons)) xd_call) (pe_w pe_int (xd_c fun _ => .int))) (xd_op od_sub)) (pa_w pa_nil xa_nil)) xa_cons)) xa_cons)) xa_cons)) xa_cons)) xa_cons)) xd_lst) (pe_w (C8.pe_c C_law_taken hr (by decide) (by rfl) (pa_w (pa_cons (pe_w (pv 0) xd_var) (pa_w (pa_cons (pe_w pe_int (xd_c fun _ => .int)) (pa_w pa_nil xa_nil)) xa_cons)) xa_cons)) xd_call) (fun _ _ => rfl)) (xd_op od_ixL))) (xd_op od_add)) (pa_w pa_nil xa_nil)) xa_cons)) xa_cons)) (xd_cb cd_max2)) (pa_w pa_nil xa_nil)) xa_cons)) xa_cons)) (xd_cb cd_min2)) pa_nil))) xs_app))) (xs_for gd_name)) (pss_w (pssd_cons (ps_w (ps_if (pt_w (pt_cmpR (op_eqD hr.units) (pe_w (C8.pe_c C_law_taken hr (by decide) (by rfl) (pa_w (pa_cons (pe_w (pv 0) xd_var) (pa_w (pa_cons (pe_w pe_int (xd_c fun _ => .int)) (pa_w pa_nil xa_nil)) xa_cons)) xa_cons)) xd_call) (pe_w pe_int (xd_c fun _ => .int)) (nomark _)) (xt_cmp od_eq)) (pssd_one (ps_w (ps_setLc (i := 3) (own := [("_law_note", 7)]) (g := gName 7) rfl sc_law_neck.nd rfl rfl (sw_true rfl rfl rfl (by decide +kernel)) (pi_w (pi_list (pe_w (pv 3) xd_var)) xi_list) (blkOk_by (own := [("_law_note", 7)]) (N := ["_law_row", "_law_most", "_law_begin", "_law_tuning", "_law_k", "_law_frets", "_law_capo", "_law_note"]) (sc := (defScope s_law_neck)) (by decide +kernel)) (fun _ _ _ _ _ => (pg_name (i := 7) sc_law_neck.nd rfl (.inl rfl))) (fun _ _ _ _ _ => (pts_w pts_nil xt_yes)) (fun _ _ _ _ _ => (pe_w (C8.pe_c C_law_taken hr (by decide) (by rfl) (pa_w (pa_cons (pe_w (pv 0) xd_var) (pa_w (pa_cons (pe_w pe_int (xd_c fun _ => .int)) (pa_w pa_nil xa_nil)) xa_cons)) xa_cons)) xd_call))) (xs_asgLc gd_name stores_name))) pssd_nil) xs_if) (pssd_cons (ps_w (ps_set (i := 5) sc_law_neck.nd rfl (.inl rfl) (pe_w (pe_ix ix_lt (pe_w (pe_lst (pa_w (pa_cons (pe_w pe_int (xd_c fun _ => .int)) (pa_w (pa_cons (pe_w pe_int (xd_c fun _ => .int)) (pa_w (pa_cons (pe_w pe_int (xd_c fun _ => .int)) (pa_w (pa_cons (pe_w (C8.pe_c C_law_taken hr (by decide) (by rfl) (pa_w (pa_cons (pe_w (pv 0) xd_var) (pa_w (pa_cons (pe_w pe_int (xd_c fun _ => .int)) (pa_w pa_nil xa_nil)) xa_cons)) xa_cons)) xd_call) (pa_w pa_nil xa_nil)) xa_cons)) xa_cons)) xa_cons)) xa_cons)) xd_lst) (pe_w (C8.pe_c C_law_taken hr (by decide) (by rfl) (pa_w (pa_cons (pe_w (pv 0) xd_var) (pa_w (pa_cons (pe_w pe_int (xd_c fun _ => .int)) (pa_w pa_nil xa_nil)) xa_cons)) xa_cons)) xd_call) (fun _ _ => rfl)) (xd_op od_ixL))) xs_asg) (pssd_cons (ps_w (ps_set (i := 6) sc_law_neck.nd rfl (.inl rfl) (pe_w (pe_ix ix_lt (pe_w (pe_lst (pa_w (pa_cons (pe_w pe_int (xd_c fun _ => .int)) (pa_w (pa_cons (pe_w pe_int (xd_c fun _ => .int)) (pa_w (pa_cons (pe_w (C8.pe_c C_law_taken hr (by decide) (by rfl) (pa_w (pa_cons (pe_w (pv 0) xd_var) (pa_w (pa_cons (pe_w (pe_op op_add (pe_w (pv 5) xd_var) (pe_w pe_int (xd_c fun _ => .int))) (xd_op od_add)) (pa_w pa_nil xa_nil)) xa_cons)) xa_cons)) xd_call) (pa_w pa_nil xa_nil)) xa_cons)) xa_cons)) xa_cons)) xd_lst) (pe_w (C8.pe_c C_law_taken hr (by decide) (by rfl) (pa_w (pa_cons (pe_w (pv 0) xd_var) (pa_w (pa_cons (pe_w pe_int (xd_c fun _ => .int)) (pa_w pa_nil xa_nil)) xa_cons)) xa_cons)) xd_call) (fun _ _ => rfl)) (xd_op od_ixL))) xs_asg) (pssd_one (ps_w (ps_ret (pe_w (pe_tup (pa_w (pa_cons (pe_w (pe_callTy call_tuple_of (by rfl) T.m_tuple (by decide +kernel) (pa_w (pa_cons (pe_w (pv 3) xd_var) (pa_w pa_nil xa_nil)) xa_cons)) (xd_cb cd_tuple)) (pa_w (pa_cons (pe_w (pv 5) xd_var) (pa_w (pa_cons (pe_w (pv 6) xd_var) (pa_w pa_nil xa_nil)) xa_cons)) xa_cons)) xa_cons)) xd_tup)) xs_ret))))) xs_frz))))) pure_law_neck
end

/-! ### the law's own look: positions, what plays a note, what can be played -/
def f_law_positions : Fd := fun ds R => ∃ t f c, ds = [neckD t f c] ∧ 0 ≤ c ∧ f ≤ 20 ∧ c ≤ f ∧ R (.list ((posL f c).map .int))
theorem len_law_positions : ∀ ds R, f_law_positions ds R → ds.length = 1 := by
  rintro ds R ⟨t, f, c, rfl, _⟩; rfl
@[simp] theorem law_positions_iff {t : List Int} {f c : Int} {R : D → Prop} : f_law_positions [neckD t f c] R ↔ 0 ≤ c ∧ f ≤ 20 ∧ c ≤ f ∧ R (.list ((posL f c).map .int)) := by
  constructor
  · rintro ⟨t', f', c', e, h⟩; simp at e; obtain ⟨rfl, rfl, rfl⟩ := e; exact h
  · intro h; exact ⟨_, _, _, rfl, h⟩
def W_law_positions : WS := (dRet (dLstRg (gRg2 (dOp rdAdd (dOp rdIx (dVar 0) (dC (.int 2))) (dC (.int 1))) (dOp rdAdd (dCall rdMax2 (aCons (dOp rdIx (dVar 0) (dC (.int 1))) (aCons (dOp rdAdd (dOp rdIx (dVar 0) (dC (.int 2))) (dC (.int 1))) aNil))) (dC (.int 1))))))
def N_law_positions : List Str := ["_law_neck_here"]
theorem sc_law_positions : FnScope ["_law_neck_here"] ["_law_neck_here"] (defScope s_law_positions) := ⟨rfl, rfl, rfl, by decide +kernel, rfl, by decide +kernel, by decide +kernel⟩
theorem pure_law_positions : ∀ ds R, f_law_positions ds R → W_law_positions { nx := fun _ => R .none, rt := R } (startD N_law_positions ds) := by
  rintro ds R ⟨t, f, c, rfl, h1, h2, h3, h⟩
  simp only [W_law_positions, dRet, dLstRg, gRg2, dOp, rdI, dCall, aCons, aNil, dVar, dC, rdMax2_iff]
  rw [← posL_rng] at h
  refine ⟨_, rfl, neck_2.mpr ⟨_, _, rfl, rfl, _, rfl, neck_1.mpr ⟨_, rfl, neck_2.mpr ⟨_, _, rfl, rfl, rdMax2_iff.mpr ⟨_, _, rfl, rfl, _, _, rfl, rfl, rg_pos h1 h2 h3, h⟩⟩⟩⟩⟩
section
variable {P : Program} {w : World} {g : Glb} {mg : Str → Option Value} {base : Heap}
theorem ok_law_positions {f : Addr} {fd : FuncData} (F : FunP g.K "_law_positions" s_law_positions f fd) (mgf : mg "_law_positions" = some (.ref f)) (T : Txt mg)  : C8.Cal P w g.K mg base 1 "_law_positions" (spD g f_law_positions) [] :=
  calD (N := ["_law_neck_here"]) (ps := ["_law_neck_here"]) (k := 0) (wb := W_law_positions) F mgf (F.bindsN fun _ _ _ _ _ _ us hl => match us, hl with | [_], _ => rfl) sc_law_positions len_law_positions (fun cdv A outer s H E r a ns hr =>
    (pssd_one (ps_w (ps_ret (pe_w (pe_listRg (by rfl) (by rfl) T.m_list (prg_w (prg_2 (by rfl) T.m_range (pe_w (pe_op op_add (pe_w (pe_ix ix_lt (pe_w (pv 0) xd_var) (pe_w pe_int (xd_c fun _ => .int)) (fun _ _ => rfl)) (xd_op od_ixL)) (pe_w pe_int (xd_c fun _ => .int))) (xd_op od_add)) (pe_w (pe_op op_add (pe_w (pe_callB (call_max2 (by rfl)) (by rfl) T.m_max (by decide +kernel) (pa_w (pa_cons (pe_w (pe_ix ix_lt (pe_w (pv 0) xd_var) (pe_w pe_int (xd_c fun _ => .int)) (fun _ _ => rfl)) (xd_op od_ixL)) (pa_w (pa_cons (pe_w (pe_op op_add (pe_w (pe_ix ix_lt (pe_w (pv 0) xd_var) (pe_w pe_int (xd_c fun _ => .int)) (fun _ _ => rfl)) (xd_op od_ixL)) (pe_w pe_int (xd_c fun _ => .int))) (xd_op od_add)) (pa_w pa_nil xa_nil)) xa_cons)) xa_cons)) (xd_cb cd_max2)) (pe_w pe_int (xd_c fun _ => .int))) (xd_op od_add))) xg_rg2)) xd_lstRg)) xs_ret))) pure_law_positions
end

def f_law_plays : Fd := fun ds R => ∃ (t : List Int) (f c n r y : Int) (s : Nat) (p x : Int), ds = [neckD t f c, .int n, .int r, .int y, .int (s : Nat), .int p] ∧ t[s]? = some x ∧ R (.bool (isPlace f c y && decide (x + y = n) && (decide (y = c) || (decide (p ≤ y) && decide (y ≤ p + r)))))
theorem len_law_plays : ∀ ds R, f_law_plays ds R → ds.length = 6 := by
  rintro ds R ⟨t, f, c, n, r, y, s, p, x, rfl, _⟩; rfl
def W_law_plays : WS := (dSeq (dIfS (bOr (bNot (bB (dChain rdLe rdLe (dOp rdIx (dVar 0) (dC (.int 2))) (dVar 3) (dOp rdIx (dVar 0) (dC (.int 1)))))) (bB (dOp rdNe (dOp rdAdd (dOp rdIx (dOp rdIx (dVar 0) (dC (.int 0))) (dVar 4)) (dVar 3)) (dVar 1)))) (dRet (dC (.bool false))) dNext) (dRet (dOr (dOp rdEq (dVar 3) (dOp rdIx (dVar 0) (dC (.int 2)))) (dChain rdLe rdLe (dVar 5) (dVar 3) (dOp rdAdd (dVar 5) (dVar 2))))))
def N_law_plays : List Str := ["_law_neck_here", "_law_note", "_law_reach", "_law_place", "_law_string", "_law_position"]
theorem sc_law_plays : FnScope ["_law_neck_here", "_law_note", "_law_reach", "_law_place", "_law_string", "_law_position"] ["_law_neck_here", "_law_note", "_law_reach", "_law_place", "_law_string", "_law_position"] (defScope s_law_plays) := ⟨rfl, rfl, rfl, by decide +kernel, rfl, by decide +kernel, by decide +kernel⟩
theorem pure_law_plays : ∀ ds R, f_law_plays ds R → W_law_plays { nx := fun _ => R .none, rt := R } (startD N_law_plays ds) := by
  rintro ds R ⟨t, f, c, n, r, y, s, p, x, rfl, hx, h⟩
  have hat := atI_map (f := PyData.int) hx
  unfold isPlace at h
  simp [W_law_plays, N_law_plays]
  by_cases a1 : c ≤ y
  · have b1 : ¬ y < c := by omega
    by_cases a2 : y ≤ f
    · have b2 : ¬ f < y := by omega
      by_cases a3 : x + y = n
      · by_cases a4 : y = c
        · have a5 : c ≤ f := by omega
          have b5 : ¬ f < c := by omega
          have a6 : x + c = n := by omega
          simp [a1, a2, a3, a4, a5, a6, hat, b1, b2, b5] at h ⊢
          exact h
        · by_cases a5 : p ≤ y
          · have b5 : ¬ y < p := by omega
            by_cases a6 : y ≤ p + r
            · simp [a1, a2, a3, a4, a5, a6, hat, b1, b2, b5] at h ⊢
              exact h
            · simp [a1, a2, a3, a4, a5, a6, hat, b1, b2, b5] at h ⊢
              exact h
          · have b5 : y < p := by omega
            simp [a1, a2, a3, a4, a5, hat, b1, b2, b5] at h ⊢
            exact h
      · simp [a1, a2, a3, hat, b1, b2] at h ⊢
        exact h
    · have b2 : f < y := by omega
      simp [a1, a2, b1, b2] at h ⊢
      exact h
  · have b1 : y < c := by omega
    simp [a1, b1] at h ⊢
    exact h
section
variable {P : Program} {w : World} {g : Glb} {mg : Str → Option Value} {base : Heap}
theorem ok_law_plays {f : Addr} {fd : FuncData} (F : FunP g.K "_law_plays" s_law_plays f fd) (mgf : mg "_law_plays" = some (.ref f)) (T : Txt mg)  : C8.Cal P w g.K mg base 1 "_law_plays" (spD g f_law_plays) [] :=
  calD (N := ["_law_neck_here", "_law_note", "_law_reach", "_law_place", "_law_string", "_law_position"]) (ps := ["_law_neck_here", "_law_note", "_law_reach", "_law_place", "_law_string", "_law_position"]) (k := 0) (wb := W_law_plays) F mgf (F.bindsN fun _ _ _ _ _ _ us hl => match us, hl with | [_, _, _, _, _, _], _ => rfl) sc_law_plays len_law_plays (fun cdv A outer s H E r a ns hr =>
    (pssd_cons (ps_w (ps_if (PW.pt (pw_w (pw_or (pt_w (pt_not (pt_w (pt_chain op_le op_le (pe_w (pe_ix ix_lt (pe_w (pv 0) xd_var) (pe_w pe_int (xd_c fun _ => .int)) (fun _ _ => rfl)) (xd_op od_ixL)) (pe_w (pv 3) xd_var) (pe_w (pe_ix ix_lt (pe_w (pv 0) xd_var) (pe_w pe_int (xd_c fun _ => .int)) (fun _ _ => rfl)) (xd_op od_ixL))) (xt_chain od_le od_le))) xt_not) (pw_or1 (pt_w (pt_cmpR (op_neD hr.units) (pe_w (pe_op op_add (pe_w (pe_ix ix_lt (pe_w (pe_ix ix_lt (pe_w (pv 0) xd_var) (pe_w pe_int (xd_c fun _ => .int)) (fun _ _ => rfl)) (xd_op od_ixL)) (pe_w (pv 4) xd_var) (fun _ _ => rfl)) (xd_op od_ixL)) (pe_w (pv 3) xd_var)) (xd_op od_add)) (pe_w (pv 1) xd_var) (nomark _)) (xt_cmp od_ne)))) xt_or)) (pssd_one (ps_w (ps_ret (pe_w pe_bl (xd_c fun _ => .bl))) xs_ret)) pssd_nil) xs_if) (pssd_one (ps_w (ps_ret (pe_w (pe_or (pe_w (pe_cmpR (op_eqD hr.units) (pe_w (pv 3) xd_var) (pe_w (pe_ix ix_lt (pe_w (pv 0) xd_var) (pe_w pe_int (xd_c fun _ => .int)) (fun _ _ => rfl)) (xd_op od_ixL)) (nomark _)) (xd_op od_eq)) (pe_one (pe_w (pe_chain op_le op_le (pe_w (pv 5) xd_var) (pe_w (pv 3) xd_var) (pe_w (pe_op op_add (pe_w (pv 5) xd_var) (pe_w (pv 2) xd_var)) (xd_op od_add))) (xd_chain od_le od_le)))) xd_or)) xs_ret)))) pure_law_plays
end

def f_law_can : Fd := fun ds R => ∃ t f c n r p, ds = [neckD t f c, .int n, .int r, .int p] ∧ t.length ≤ 6 ∧ R (.bool (canB t f c n r p))
theorem len_law_can : ∀ ds R, f_law_can ds R → ds.length = 4 := by
  rintro ds R ⟨t, f, c, n, r, p, rfl, _⟩; rfl
@[simp] theorem law_can_iff {t : List Int} {f c n r p : Int} {R : D → Prop} : f_law_can [neckD t f c, .int n, .int r, .int p] R ↔ t.length ≤ 6 ∧ R (.bool (canB t f c n r p)) := by
  constructor
  · rintro ⟨t', f', c', n', r', p', e, h⟩; simp at e; obtain ⟨⟨rfl, rfl, rfl⟩, rfl, rfl, rfl⟩ := e; exact h
  · intro h; exact ⟨_, _, _, _, _, _, rfl, h⟩
def W_law_can : WS := (dSeq (dFor (iR1 (aCons (dCall rdLen (aCons (dOp rdIx (dVar 0) (dC (.int 0))) aNil)) aNil)) (tgN 4) (dIfS (bTru (dCall f_law_plays (aCons (dVar 0) (aCons (dVar 1) (aCons (dVar 2) (aCons (dOp rdSub (dVar 1) (dOp rdIx (dOp rdIx (dVar 0) (dC (.int 0))) (dVar 4))) (aCons (dVar 4) (aCons (dVar 3) aNil)))))))) (dRet (dC (.bool true))) dNext)) (dRet (dC (.bool false))))
def N_law_can : List Str := ["_law_neck_here", "_law_note", "_law_reach", "_law_position", "_law_string"]
theorem sc_law_can : FnScope ["_law_neck_here", "_law_note", "_law_reach", "_law_position", "_law_string"] ["_law_neck_here", "_law_note", "_law_reach", "_law_position"] (defScope s_law_can) := ⟨rfl, rfl, rfl, by decide +kernel, rfl, by decide +kernel, by decide +kernel⟩
theorem pure_law_can : ∀ ds R, f_law_can ds R → W_law_can { nx := fun _ => R .none, rt := R } (startD N_law_can ds) := by
  rintro ds R ⟨t, f, c, n, r, p, rfl, hl, h⟩
  simp [W_law_can, N_law_can]
  refine ⟨by omega, ?_⟩
  unfold rngD
  refine forRun_ix (fun k e => ∃ x : Sl, e = [.val (neckD t f c), .val (.int n), .val (.int r), .val (.int p), x] ∧ (t.take k).any (hitB f c n r p) = false) (fun k e N hk he kn => ?_) (fun e he => ?_) _ ⟨.un, rfl, rfl⟩
  · obtain ⟨x, rfl, hf⟩ := he
    have g : t[k]? = some t[k] := List.getElem?_eq_getElem hk
    have e1 : (t.take (k + 1)).any (hitB f c n r p) = hitB f c n r p t[k] := by
      rw [List.take_succ, g, List.any_append, hf]
      simp
    simp
    refine ⟨_, atI_map g, _, rfl, ?_⟩
    refine ⟨t, f, c, n, r, n - t[k], k, p, t[k], by simp, g, ?_⟩
    have e2 : decide (t[k] + (n - t[k]) = n) = true := by simp; omega
    rw [e2, Bool.and_true]
    have e3 : (isPlace f c (n - t[k]) && (decide (n - t[k] = c) || decide (p ≤ n - t[k]) && decide (n - t[k] ≤ p + r))) = hitB f c n r p t[k] := rfl
    rw [e3]
    cases q : hitB f c n r p t[k] with
    | true =>
      have : canB t f c n r p = true := List.any_eq_true.mpr ⟨_, List.getElem_mem hk, q⟩
      rw [this] at h
      simpa using h
    | false =>
      simp
      exact kn _ ⟨_, rfl, by rw [e1, q]⟩
  · obtain ⟨x, rfl, hf⟩ := he
    rw [List.take_length] at hf
    have : canB t f c n r p = false := hf
    rw [this] at h
    simpa using h
section
variable {P : Program} {w : World} {g : Glb} {mg : Str → Option Value} {base : Heap}
theorem ok_law_can {f : Addr} {fd : FuncData} (F : FunP g.K "_law_can" s_law_can f fd) (mgf : mg "_law_can" = some (.ref f)) (T : Txt mg) (C_law_plays : C8.Cal P w g.K mg base 1 "_law_plays" (spD g f_law_plays) []) : C8.Cal P w g.K mg base 2 "_law_can" (spD g f_law_can) [] :=
  calD (N := ["_law_neck_here", "_law_note", "_law_reach", "_law_position", "_law_string"]) (ps := ["_law_neck_here", "_law_note", "_law_reach", "_law_position"]) (k := 1) (wb := W_law_can) F mgf (F.bindsN fun _ _ _ _ _ _ us hl => match us, hl with | [_, _, _, _], _ => rfl) sc_law_can len_law_can (fun cdv A outer s H E r a ns hr =>
    (pssd_cons (ps_w (ps_for (g := gName 4) PassesOwn.never rfl (pi_w (pi_range1 (by rfl) T.m_range (pa_w (pa_cons (pe_w (pe_callB call_len_seq (by rfl) T.m_len PySem.boot_len (pa_w (pa_cons (pe_w (pe_ix ix_lt (pe_w (pv 0) xd_var) (pe_w pe_int (xd_c fun _ => .int)) (fun _ _ => rfl)) (xd_op od_ixL)) (pa_w pa_nil xa_nil)) xa_cons)) (xd_cb cd_len)) (pa_w pa_nil xa_nil)) xa_cons)) xi_rng1) (pg_name (i := 4) sc_law_can.nd rfl (.inl rfl)) (pssd_one (ps_w (ps_if (pt_w (pt_truth (pe_w (C8.pe_c C_law_plays hr (by decide) (by rfl) (pa_w (pa_cons (pe_w (pv 0) xd_var) (pa_w (pa_cons (pe_w (pv 1) xd_var) (pa_w (pa_cons (pe_w (pv 2) xd_var) (pa_w (pa_cons (pe_w (pe_op op_sub (pe_w (pv 1) xd_var) (pe_w (pe_ix ix_lt (pe_w (pe_ix ix_lt (pe_w (pv 0) xd_var) (pe_w pe_int (xd_c fun _ => .int)) (fun _ _ => rfl)) (xd_op od_ixL)) (pe_w (pv 4) xd_var) (fun _ _ => rfl)) (xd_op od_ixL))) (xd_op od_sub)) (pa_w (pa_cons (pe_w (pv 4) xd_var) (pa_w (pa_cons (pe_w (pv 3) xd_var) (pa_w pa_nil xa_nil)) xa_cons)) xa_cons)) xa_cons)) xa_cons)) xa_cons)) xa_cons)) xd_call) (by intro _; rfl)) xt_tru) (pssd_one (ps_w (ps_ret (pe_w pe_bl (xd_c fun _ => .bl))) xs_ret)) pssd_nil) xs_if))) (xs_for gd_name)) (pssd_one (ps_w (ps_ret (pe_w pe_bl (xd_c fun _ => .bl))) xs_ret)))) pure_law_can
end

/-! ### a tune -/
def f_law_tune : Fd := fun ds R => ∃ (t : List Int) (f c most : Int), ds = [.dict [], neckD t f c, .int most] ∧ OkNeck t f c ∧ 1 ≤ most ∧ most ≤ 30 ∧ ∀ ns : List Int, OkTune ns → (ns.length : Int) ≤ most → R (.list (ns.map .int))
theorem len_law_tune : ∀ ds R, f_law_tune ds R → ds.length = 3 := by
  rintro ds R ⟨t, f, c, m, rfl, _⟩; rfl
@[simp] theorem law_tune_iff {t : List Int} {f c most : Int} {R : D → Prop} : f_law_tune [.dict [], neckD t f c, .int most] R ↔ OkNeck t f c ∧ 1 ≤ most ∧ most ≤ 30 ∧ ∀ ns : List Int, OkTune ns → (ns.length : Int) ≤ most → R (.list (ns.map .int)) := by
  constructor
  · rintro ⟨t', f', c', m', e, h⟩; simp at e; obtain ⟨⟨rfl, rfl, rfl⟩, rfl⟩ := e; exact h
  · intro h; exact ⟨_, _, _, _, rfl, h⟩
def W_law_tune : WS := (dSeq (dOwn 3 (nLst aNil)) (dSeq (dFor (iR1 (aCons (dOp rdAdd (dC (.int 1)) (dCall f_law_taken (aCons (dVar 0) (aCons (dVar 2) aNil)))) aNil)) (tgN 4) (dSeq (dAsg 5 (dCall f_law_taken (aCons (dVar 0) (aCons (dCall rdLen (aCons (dOp rdIx (dVar 1) (dC (.int 0))) aNil)) aNil)))) (dSeq (dAsg 6 (dOp rdAdd (dOp rdIx (dVar 1) (dC (.int 2))) (dCall f_law_taken (aCons (dVar 0) (aCons (dOp rdAdd (dOp rdSub (dOp rdIx (dVar 1) (dC (.int 1))) (dOp rdIx (dVar 1) (dC (.int 2)))) (dC (.int 1))) aNil))))) (dSeq (dApp 3 (dOp rdAdd (dOp rdIx (dOp rdIx (dVar 1) (dC (.int 0))) (dVar 5)) (dVar 6))) (dIfS (bPeek 3 (bAnd (bB (dOp rdNe (dSl (dVar 3) oNone (oSome (dNeg (dC (.int 1)))) .list) (dLst aNil))) (bB (dOp rdEq (dCall f_law_taken (aCons (dVar 0) (aCons (dC (.int 3)) aNil))) (dC (.int 2)))))) (dSetI 3 (dCall rdMax2 (aCons (dC (.int 0)) (aCons (dOp rdSub (dOp rdAdd (dOwnIx 3 (dNeg (dC (.int 2)))) (dCall f_law_taken (aCons (dVar 0) (aCons (dC (.int 7)) aNil)))) (dC (.int 3))) aNil))) (dNeg (dC (.int 1)))) dNext))))) (dSeq (dIfS (bB (dOp rdEq (dCall f_law_taken (aCons (dVar 0) (aCons (dC (.int 12)) aNil))) (dC (.int 11)))) (dSetI 3 (dCall f_law_taken (aCons (dVar 0) (aCons (dC (.int 81)) aNil))) (dCall f_law_taken (aCons (dVar 0) (aCons (dOwnLen 3) aNil)))) dNext) (dFrz 3 (dRet (dN (dLcW (iLst (dVar 3)) (tgN 7) (fun _ R => R true) (dCall rdMin2 (aCons (dC (.int 80)) (aCons (dVar 7) aNil))) [7])))))))
def N_law_tune : List Str := ["_law_row", "_law_neck_here", "_law_most", "_law_found", "_law_k", "_law_string", "_law_place", "_law_note"]
theorem sc_law_tune : FnScope ["_law_row", "_law_neck_here", "_law_most", "_law_found", "_law_k", "_law_string", "_law_place", "_law_note"] ["_law_row", "_law_neck_here", "_law_most"] (defScope s_law_tune) := ⟨rfl, rfl, rfl, by decide +kernel, rfl, by decide +kernel, by decide +kernel⟩
theorem tune_fin {R : List D → Prop} {a : D → Sg} (h7 : ∀ d, (a d)[7]? = some (.val d)) {l : List Int} (hl : 1 ≤ l.length) (h30 : l.length ≤ 30) (hn : ∀ y ∈ l, 0 ≤ y) (h : ∀ ns : List Int, OkTune ns → ns.length = l.length → R (ns.map .int)) :
    lcRun (fun d k => k (a d)) (fun _ R => R true) (dCall rdMin2 (aCons (dC (.int 80)) (aCons (dVar 7) aNil))) R (l.map .int) [] := by
  refine lcRun_ints (fun _ => true) (fun y => .int (if y < 80 then y else 80)) l (fun y hy K k => ?_) ?_
  · simp [h7]
    simpa using k
  · rw [List.filter_eq_self.mpr (by simp)]
    have e : l.map (fun y => PyData.int (if y < 80 then y else 80)) = (l.map fun y => if y < 80 then y else 80).map .int := by rw [List.map_map]; rfl
    rw [e]
    refine h _ ⟨by simpa using hl, by simpa using h30, fun z hz => ?_⟩ (by simp)
    obtain ⟨y, hy, rfl⟩ := List.mem_map.mp hz
    have := hn y hy
    split <;> omega
theorem ixN_of {n k : Nat} (h : k < n) : ixN n (k : Int) = some k := by
  unfold ixN; simp; omega
theorem ixN_m1 (n : Nat) : ixN (n + 1) (-1) = some n := by
  unfold ixN; simp; omega
theorem atI_m2 {α : Type} (l : List α) (x y : α) : atI (l ++ [x, y]) (-2) = some x := by
  have e : ixN (l ++ [x, y]).length (-2) = some l.length := by
    unfold ixN; simp; omega
  unfold atI
  rw [e]
  simp
theorem pure_law_tune : ∀ ds R, f_law_tune ds R → W_law_tune { nx := fun _ => R .none, rt := R } (startD N_law_tune ds) := by
  rintro ds R ⟨t, f, c, most, rfl, ok, h1, h30, h⟩
  have c0 := ok.c0
  have c1 := ok.c1
  have f1 := ok.f1
  have tl := ok.l1
  have tl2 := ok.l2
  simp [W_law_tune, N_law_tune]
  refine ⟨by omega, by omega, fun v v0 v1 => ⟨by omega, by omega, ?_⟩⟩
  refine forRun_go (fun ds e => ∃ (l : List Int) (x4 x5 x6 : Sl), (∀ y ∈ l, 0 ≤ y) ∧ l.length + ds.length = (1 + v).toNat ∧ e = [.val (.dict []), .val (neckD t f c), .val (.int most), .own (l.map .int), x4, x5, x6, .un]) ?_ ?_ _ _ ⟨[], .un, .un, .un, by simp, by simp, rfl⟩
  · rintro d ds e N ⟨l, x4, x5, x6, hl, hlen, rfl⟩ k
    have hlen2 : l.length + ds.length + 1 = (1 + v).toNat := by simpa [Nat.add_assoc] using hlen
    simp
    refine ⟨by omega, by omega, fun s s0 s1 => ⟨by omega, by omega, fun d1 d10 d11 => ?_⟩⟩
    obtain ⟨sn, rfl⟩ : ∃ sn : Nat, s = sn := ⟨s.toNat, by omega⟩
    have hsn : sn < t.length := by omega
    have g : t[sn]? = some t[sn] := List.getElem?_eq_getElem hsn
    have gx := ok.n _ (List.getElem_mem hsn)
    refine ⟨_, atI_map g, _, rfl, by omega, ?_⟩
    have ecut := cut_init (l.map .int) (PyData.int (t[sn] + (c + d1)))
    rw [ecut]
    have hx : 0 ≤ t[sn] + (c + d1) := by omega
    generalize t[sn] + (c + d1) = x at hx
    have e1 : l.map PyData.int ++ [PyData.int x] = (l ++ [x]).map .int := by simp
    have stay := k _ ⟨l ++ [x], .val d, .val (.int sn), .val (.int (c + d1)), fun y hy => by
      rcases List.mem_append.mp hy with z | z
      · exact hl y z
      · rw [List.mem_singleton.mp z]; exact hx, by simp; omega, rfl⟩
    refine ⟨shaped_intsL, ?_⟩
    by_cases q : l = []
    · subst q
      exact .inl ⟨rfl, by simpa using stay⟩
    · refine .inr ⟨by simpa using q, fun u u0 u1 => ?_⟩
      by_cases z : u = 2
      · rw [if_pos z]
        obtain ⟨l0, y, rfl⟩ : ∃ l0 y, l = l0 ++ [y] := ⟨_, _, (List.dropLast_concat_getLast q).symm⟩
        refine ⟨.int y, by simpa using atI_m2 (l0.map PyData.int) (.int y) (.int x), fun w w0 w1 => ⟨y, rfl, ?_⟩⟩
        refine ⟨_, ixN_m1 _, ?_⟩
        have hz : 0 ≤ (if 3 < y + w then y + w - 3 else 0) := by split <;> omega
        generalize (if 3 < y + w then y + w - 3 else 0) = z at hz
        have e2 : ((l0 ++ [y]).map PyData.int ++ [PyData.int x]).set (l0 ++ [y]).length (.int z) = ((l0 ++ [y]) ++ [z]).map .int := by
          rw [List.set_append_right _ _ (by simp)]
          simp
        rw [e2]
        exact k _ ⟨(l0 ++ [y]) ++ [z], .val d, .val (.int sn), .val (.int (c + d1)), fun y' hy => by
          rcases List.mem_append.mp hy with z' | z'
          · exact hl y' z'
          · rw [List.mem_singleton.mp z']; exact hz, by simp at hlen2 ⊢; omega, rfl⟩
      · rw [if_neg z]
        simpa using stay
  · rintro e ⟨l, x4, x5, x6, hl, hlen, rfl⟩
    have hlen2 : l.length = (1 + v).toNat := by simpa using hlen
    have hh : ∀ (l' : List Int), l'.length = l.length → ∀ ns : List Int, OkTune ns → ns.length = l'.length → R (.list (ns.map .int)) := fun l' e1 ns o e2 => h ns o (by omega)
    simp
    intro u u0 u1
    split
    · intro w w0 w1
      refine ⟨by omega, by omega, fun j j0 j1 => ?_⟩
      obtain ⟨jn, rfl⟩ : ∃ jn : Nat, j = jn := ⟨j.toNat, by omega⟩
      refine ⟨jn, ixN_of (by omega), by omega, ?_⟩
      have e : (l.map PyData.int).set jn (.int w) = (l.set jn w).map .int := by rw [List.map_set]
      rw [e]
      refine tune_fin (fun _ => rfl) (by simp; omega) (by simp; omega) (fun y hy => ?_) (hh _ (by simp))
      rcases List.mem_or_eq_of_mem_set hy with z | z
      · exact hl y z
      · rw [z]; exact w0
    · exact ⟨by omega, tune_fin (fun _ => rfl) (by omega) (by omega) hl (hh _ rfl)⟩
section
variable {P : Program} {w : World} {g : Glb} {mg : Str → Option Value} {base : Heap}
theorem ok_law_tune {f : Addr} {fd : FuncData} (F : FunP g.K "_law_tune" s_law_tune f fd) (mgf : mg "_law_tune" = some (.ref f)) (T : Txt mg) (C_law_taken : C8.Cal P w g.K mg base 1 "_law_taken" (spD g f_law_taken) []) : C8.Cal P w g.K mg base 2 "_law_tune" (spD g f_law_tune) [] :=
  calD (N := ["_law_row", "_law_neck_here", "_law_most", "_law_found", "_law_k", "_law_string", "_law_place", "_law_note"]) (ps := ["_law_row", "_law_neck_here", "_law_most"]) (k := 1) (wb := W_law_tune) F mgf (F.bindsN fun _ _ _ _ _ _ us hl => match us, hl with | [_, _, _], _ => rfl) sc_law_tune len_law_tune (fun cdv A outer s H E r a ns hr =>
    (pssd_cons (ps_w (ps_set (i := 3) sc_law_tune.nd rfl (.inl rfl) (pe_w (pe_lst (pa_w pa_nil xa_nil)) xn_lst)) xs_own) (pssd_cons (ps_w (ps_for (g := gName 4) PassesOwn.never rfl (pi_w (pi_range1 (by rfl) T.m_range (pa_w (pa_cons (pe_w (pe_op op_add (pe_w pe_int (xd_c fun _ => .int)) (pe_w (C8.pe_c C_law_taken hr (by decide) (by rfl) (pa_w (pa_cons (pe_w (pv 0) xd_var) (pa_w (pa_cons (pe_w (pv 2) xd_var) (pa_w pa_nil xa_nil)) xa_cons)) xa_cons)) xd_call)) (xd_op od_add)) (pa_w pa_nil xa_nil)) xa_cons)) xi_rng1) (pg_name (i := 4) sc_law_tune.nd rfl (.inl rfl)) (pssd_cons (ps_w (ps_set (i := 5) sc_law_tune.nd rfl (.inl rfl) (pe_w (C8.pe_c C_law_taken hr (by decide) (by rfl) (pa_w (pa_cons (pe_w (pv 0) xd_var) (pa_w (pa_cons (pe_w (pe_callB call_len_seq (by rfl) T.m_len PySem.boot_len (pa_w (pa_cons (pe_w (pe_ix ix_lt (pe_w (pv 1) xd_var) (pe_w pe_int (xd_c fun _ => .int)) (fun _ _ => rfl)) (xd_op od_ixL)) (pa_w pa_nil xa_nil)) xa_cons)) (xd_cb cd_len)) (pa_w pa_nil xa_nil)) xa_cons)) xa_cons)) xd_call)) xs_asg) (pssd_cons (ps_w (ps_set (i := 6) sc_law_tune.nd rfl (.inl rfl) (pe_w (pe_op op_add (pe_w (pe_ix ix_lt (pe_w (pv 1) xd_var) (pe_w pe_int (xd_c fun _ => .int)) (fun _ _ => rfl)) (xd_op od_ixL)) (pe_w (C8.pe_c C_law_taken hr (by decide) (by rfl) (pa_w (pa_cons (pe_w (pv 0) xd_var) (pa_w (pa_cons (pe_w (pe_op op_add (pe_w (pe_op op_sub (pe_w (pe_ix ix_lt (pe_w (pv 1) xd_var) (pe_w pe_int (xd_c fun _ => .int)) (fun _ _ => rfl)) (xd_op od_ixL)) (pe_w (pe_ix ix_lt (pe_w (pv 1) xd_var) (pe_w pe_int (xd_c fun _ => .int)) (fun _ _ => rfl)) (xd_op od_ixL))) (xd_op od_sub)) (pe_w pe_int (xd_c fun _ => .int))) (xd_op od_add)) (pa_w pa_nil xa_nil)) xa_cons)) xa_cons)) xd_call)) (xd_op od_add))) xs_asg) (pssd_cons (ps_w (ps_expr (pe_bm PySem.F.plainAttrs_list PySem.F.slot_list_append PySem.F.type_list_append mt_append (pv 3) (pa_cons (pe_w (pe_op op_add (pe_w (pe_ix ix_lt (pe_w (pe_ix ix_lt (pe_w (pv 1) xd_var) (pe_w pe_int (xd_c fun _ => .int)) (fun _ _ => rfl)) (xd_op od_ixL)) (pe_w (pv 5) xd_var) (fun _ _ => rfl)) (xd_op od_ixL)) (pe_w (pv 6) xd_var)) (xd_op od_add)) pa_nil))) xs_app) (pssd_one (ps_w (ps_if (pt_w (PW.pt (pw_w (pw_and (pt_w (pt_cmpR (op_neD hr.units) (pe_w (pe_slice sl_list (pe_w (pv 3) xd_var) (po_w po_none xo_none) (po_w (po_some (pe_w (pe_un un_neg (pe_w pe_int (xd_c fun _ => .int))) xd_neg)) xo_some)) xd_slL) (pe_w (pe_lst (pa_w pa_nil xa_nil)) xd_lst) (nomark _)) (xt_cmp od_ne)) (pw_and1 (pt_w (pt_cmpR (op_eqD hr.units) (pe_w (C8.pe_c C_law_taken hr (by decide) (by rfl) (pa_w (pa_cons (pe_w (pv 0) xd_var) (pa_w (pa_cons (pe_w pe_int (xd_c fun _ => .int)) (pa_w pa_nil xa_nil)) xa_cons)) xa_cons)) xd_call) (pe_w pe_int (xd_c fun _ => .int)) (nomark _)) (xt_cmp od_eq)))) xt_and)) xt_peek) (pssd_one (ps_w (ps_asg (pe_w (pe_callB (call_max2 (by rfl)) (by rfl) T.m_max (by decide +kernel) (pa_w (pa_cons (pe_w pe_int (xd_c fun _ => .int)) (pa_w (pa_cons (pe_w (pe_op op_sub (pe_w (pe_op op_add (pe_w (pe_ix ix_lt (pv 3) (pe_w (pe_un un_neg (pe_w pe_int (xd_c fun _ => .int))) xd_neg) (fun _ _ => rfl)) xd_ownIx) (pe_w (C8.pe_c C_law_taken hr (by decide) (by rfl) (pa_w (pa_cons (pe_w (pv 0) xd_var) (pa_w (pa_cons (pe_w pe_int (xd_c fun _ => .int)) (pa_w pa_nil xa_nil)) xa_cons)) xa_cons)) xd_call)) (xd_op od_add)) (pe_w pe_int (xd_c fun _ => .int))) (xd_op od_sub)) (pa_w pa_nil xa_nil)) xa_cons)) xa_cons)) (xd_cb cd_max2)) (pg_sub (pv 3) (pe_w (pe_un un_neg (pe_w pe_int (xd_c fun _ => .int))) xd_neg) set_list)) xs_setI)) pssd_nil) xs_if)))))) (xs_for gd_name)) (pssd_cons (ps_w (ps_if (pt_w (pt_cmpR (op_eqD hr.units) (pe_w (C8.pe_c C_law_taken hr (by decide) (by rfl) (pa_w (pa_cons (pe_w (pv 0) xd_var) (pa_w (pa_cons (pe_w pe_int (xd_c fun _ => .int)) (pa_w pa_nil xa_nil)) xa_cons)) xa_cons)) xd_call) (pe_w pe_int (xd_c fun _ => .int)) (nomark _)) (xt_cmp od_eq)) (pssd_one (ps_w (ps_asg (pe_w (C8.pe_c C_law_taken hr (by decide) (by rfl) (pa_w (pa_cons (pe_w (pv 0) xd_var) (pa_w (pa_cons (pe_w pe_int (xd_c fun _ => .int)) (pa_w pa_nil xa_nil)) xa_cons)) xa_cons)) xd_call) (pg_sub (pv 3) (pe_w (C8.pe_c C_law_taken hr (by decide) (by rfl) (pa_w (pa_cons (pe_w (pv 0) xd_var) (pa_w (pa_cons (pe_w (pe_callB call_len_seq (by rfl) T.m_len PySem.boot_len (pa_cons (pv 3) pa_nil)) xd_ownLen) (pa_w pa_nil xa_nil)) xa_cons)) xa_cons)) xd_call) set_list)) xs_setI)) pssd_nil) xs_if) (pss_w (pssd_one (ps_w (ps_ret (pe_w (pe_w (pe_lc (own := [("_law_note", 7)]) (g := gName 7) rfl sc_law_tune.nd (pi_w (pi_list (pe_w (pv 3) xd_var)) xi_list) (blkOk_by (own := [("_law_note", 7)]) (N := ["_law_row", "_law_neck_here", "_law_most", "_law_found", "_law_k", "_law_string", "_law_place", "_law_note"]) (sc := (defScope s_law_tune)) (by decide +kernel)) (fun _ _ _ _ _ => (pg_name (i := 7) sc_law_tune.nd rfl (.inl rfl))) (fun _ _ _ _ _ => (pts_w pts_nil xt_yes)) (fun _ _ _ _ _ => (pe_w (pe_callB (call_min2 (by rfl)) (by rfl) T.m_min (by decide +kernel) (pa_w (pa_cons (pe_w pe_int (xd_c fun _ => .int)) (pa_w (pa_cons (pe_w (pv 7) xd_var) (pa_w pa_nil xa_nil)) xa_cons)) xa_cons)) (xd_cb cd_min2)))) (xn_lc gd_name stores_name)) xd_N)) xs_ret)) xs_frz))))) pure_law_tune
end

/-! ### what the position goes up or down, the law's way -/
def f_law_moved : Fd := fun ds R => ∃ pl : List (Int × Int × Int), ds = [.list (pl.map trD)] ∧ pl.length ≤ 1000 ∧ R (.int (moveL (posOf pl)))
theorem len_law_moved : ∀ ds R, f_law_moved ds R → ds.length = 1 := by
  rintro ds R ⟨pl, rfl, _⟩; rfl
theorem trD_inj : ∀ {l m : List (Int × Int × Int)}, l.map trD = m.map trD → l = m
  | [], [], _ => rfl
  | [], _ :: _, h => by simp at h
  | _ :: _, [], h => by simp at h
  | (a, b, c) :: l, (a', b', c') :: m, h => by
    simp only [List.map_cons, List.cons.injEq] at h
    obtain ⟨h1, h2⟩ := h
    simp [trD] at h1
    obtain ⟨rfl, rfl, rfl⟩ := h1
    rw [trD_inj h2]
@[simp] theorem law_moved_iff {pl : List (Int × Int × Int)} {R : D → Prop} : f_law_moved [.list (pl.map trD)] R ↔ pl.length ≤ 1000 ∧ R (.int (moveL (posOf pl))) := by
  constructor
  · rintro ⟨a, e, h⟩
    simp at e
    rw [trD_inj e]; exact h
  · intro h; exact ⟨pl, rfl, h⟩
@[simp] theorem movement_iff {pl : List (Int × Int × Int)} {R : D → Prop} : f_movement [.list (pl.map trD)] R ↔ pl.length ≤ 1000 ∧ R (.int (moveL (posOf pl))) := by
  constructor
  · rintro ⟨a, e, h⟩
    simp at e
    rw [trD_inj e]; exact h
  · intro h; exact ⟨pl, rfl, h⟩
theorem moveL_step (l : List Int) {k : Nat} (h : k + 1 < l.length) : moveL (l.take (k + 2)) = moveL (l.take (k + 1)) + absI (l[k + 1] - l[k]) := by
  have e0 : l.take (k + 1) = l.take k ++ [l[k]] := by rw [List.take_succ, List.getElem?_eq_getElem (by omega)]; rfl
  have e1 : l.take (k + 2) = l.take k ++ [l[k], l[k + 1]] := by
    rw [List.take_succ, List.getElem?_eq_getElem h, e0, List.append_assoc]
    rfl
  rw [e0, e1, moveL_app]
def W_law_moved : WS := (dSeq (dAsg 1 (dC (.int 0))) (dSeq (dFor (iR2 (aCons (dC (.int 1)) (aCons (dCall rdLen (aCons (dVar 0) aNil)) aNil))) (tgN 2) (dAsg 1 (dOp rdAdd (dVar 1) (dCall rdAbs (aCons (dOp rdSub (dOp rdIx (dOp rdIx (dVar 0) (dVar 2)) (dC (.int 2))) (dOp rdIx (dOp rdIx (dVar 0) (dOp rdSub (dVar 2) (dC (.int 1)))) (dC (.int 2)))) aNil))))) (dRet (dVar 1))))
def N_law_moved : List Str := ["_law_playing", "_law_found", "_law_k"]
theorem sc_law_moved : FnScope ["_law_playing", "_law_found", "_law_k"] ["_law_playing"] (defScope s_law_moved) := ⟨rfl, rfl, rfl, by decide +kernel, rfl, by decide +kernel, by decide +kernel⟩
theorem pure_law_moved : ∀ ds R, f_law_moved ds R → W_law_moved { nx := fun _ => R .none, rt := R } (startD N_law_moved ds) := by
  rintro ds R ⟨pl, rfl, hl, h⟩
  simp [W_law_moved, N_law_moved]
  refine ⟨_, _, ⟨rfl, rfl⟩, ⟨by omega, by omega, by omega, by omega⟩, ?_⟩
  unfold rngD
  have en : ((pl.length : Int) - 1).toNat = pl.length - 1 := by omega
  rw [en]
  have hp : (posOf pl).length = pl.length := by simp [posOf]
  refine forRun_ix (fun k e => ∃ x : Sl, e = [.val (.list (pl.map trD)), .val (.int (moveL ((posOf pl).take (k + 1)))), x]) (fun k e N hk he kn => ?_) (fun e he => ?_) _ ⟨.un, ?_⟩
  · obtain ⟨x, rfl⟩ := he
    have h1 : k + 1 < pl.length := by omega
    have g1 := atI_map (f := trD) (List.getElem?_eq_getElem h1)
    have g0 := atI_map (f := trD) (List.getElem?_eq_getElem (show k < pl.length by omega))
    have ek : ((k + 1 : Nat) : Int) = 1 + (k : Int) := by omega
    have ek0 : 1 + (k : Int) - 1 = (k : Int) := by omega
    rw [ek] at g1
    simp [ek0, g1, g0]
    simp [trD]
    have := kn [.val (.list (pl.map trD)), .val (.int (moveL ((posOf pl).take (k + 1 + 1)))), .val (.int (1 + (k : Int)))] ⟨_, rfl⟩
    rw [moveL_step (posOf pl) (by omega)] at this
    simpa [posOf] using this
  · obtain ⟨x, rfl⟩ := he
    rw [List.take_of_length_le (by omega)]
    simpa using h
  · match pl with
    | [] => rfl
    | [a] => rfl
    | a :: b :: l => rfl
section
variable {P : Program} {w : World} {g : Glb} {mg : Str → Option Value} {base : Heap}
theorem ok_law_moved {f : Addr} {fd : FuncData} (F : FunP g.K "_law_moved" s_law_moved f fd) (mgf : mg "_law_moved" = some (.ref f)) (T : Txt mg)  : C8.Cal P w g.K mg base 1 "_law_moved" (spD g f_law_moved) [] :=
  calD (N := ["_law_playing", "_law_found", "_law_k"]) (ps := ["_law_playing"]) (k := 0) (wb := W_law_moved) F mgf (F.bindsN fun _ _ _ _ _ _ us hl => match us, hl with | [_], _ => rfl) sc_law_moved len_law_moved (fun cdv A outer s H E r a ns hr =>
    (pssd_cons (ps_w (ps_set (i := 1) sc_law_moved.nd rfl (.inl rfl) (pe_w pe_int (xd_c fun _ => .int))) xs_asg) (pssd_cons (ps_w (ps_for (g := gName 2) PassesOwn.never rfl (pi_w (pi_range2 (by rfl) T.m_range (pa_w (pa_cons (pe_w pe_int (xd_c fun _ => .int)) (pa_w (pa_cons (pe_w (pe_callB call_len_seq (by rfl) T.m_len PySem.boot_len (pa_w (pa_cons (pe_w (pv 0) xd_var) (pa_w pa_nil xa_nil)) xa_cons)) (xd_cb cd_len)) (pa_w pa_nil xa_nil)) xa_cons)) xa_cons)) xi_rng2) (pg_name (i := 2) sc_law_moved.nd rfl (.inl rfl)) (pssd_one (ps_w (ps_set (i := 1) sc_law_moved.nd rfl (.inl rfl) (pe_w (pe_op op_add (pe_w (pv 1) xd_var) (pe_w (pe_callB call_abs (by rfl) T.m_abs (by decide +kernel) (pa_w (pa_cons (pe_w (pe_op op_sub (pe_w (pe_ix ix_lt (pe_w (pe_ix ix_lt (pe_w (pv 0) xd_var) (pe_w (pv 2) xd_var) (fun _ _ => rfl)) (xd_op od_ixL)) (pe_w pe_int (xd_c fun _ => .int)) (fun _ _ => rfl)) (xd_op od_ixL)) (pe_w (pe_ix ix_lt (pe_w (pe_ix ix_lt (pe_w (pv 0) xd_var) (pe_w (pe_op op_sub (pe_w (pv 2) xd_var) (pe_w pe_int (xd_c fun _ => .int))) (xd_op od_sub)) (fun _ _ => rfl)) (xd_op od_ixL)) (pe_w pe_int (xd_c fun _ => .int)) (fun _ _ => rfl)) (xd_op od_ixL))) (xd_op od_sub)) (pa_w pa_nil xa_nil)) xa_cons)) (xd_cb cd_abs))) (xd_op od_add))) xs_asg))) (xs_for gd_name)) (pssd_one (ps_w (ps_ret (pe_w (pv 1) xd_var)) xs_ret))))) pure_law_moved
end

/-! ### a playing, by the law's own look -/
def f_law_is_playing : Fd := fun ds R => ∃ (t : List Int) (f c : Int) (ns : List Int) (r : Int) (pl : List (Int × Int × Int)), ds = [neckD t f c, .list (ns.map PyData.int), .int r, .list (pl.map trD)] ∧ OkNeck t f c ∧ OkTune ns ∧ IsPlay t f c r ns pl ∧ R (.bool true)
theorem len_law_is_playing : ∀ ds R, f_law_is_playing ds R → ds.length = 4 := by
  rintro ds R ⟨t, f, c, ns, r, pl, rfl, _⟩; rfl
@[simp] theorem law_is_playing_iff {t ns : List Int} {f c r : Int} {pl : List (Int × Int × Int)} {R : D → Prop} : f_law_is_playing [neckD t f c, .list (ns.map .int), .int r, .list (pl.map trD)] R ↔ OkNeck t f c ∧ OkTune ns ∧ IsPlay t f c r ns pl ∧ R (.bool true) := by
  constructor
  · rintro ⟨t', f', c', n', r', p', e, h⟩
    simp at e
    obtain ⟨⟨rfl, rfl, rfl⟩, rfl, rfl, e⟩ := e
    rw [trD_inj e]
    exact h
  · intro h; exact ⟨_, _, _, _, _, _, rfl, h⟩
def W_law_is_playing : WS := (dSeq (dIfS (bOr (bNot (bTru (dIsi "list" (dVar 3)))) (bB (dOp rdNe (dCall rdLen (aCons (dVar 3) aNil)) (dCall rdLen (aCons (dVar 1) aNil))))) (dRet (dC (.bool false))) dNext) (dSeq (dFor (iR1 (aCons (dCall rdLen (aCons (dVar 1) aNil)) aNil)) (tgN 4) (dSeq (dAsg 5 (dOp rdIx (dVar 3) (dVar 4))) (dSeq (dIfS (bOr (bNot (bTru (dIsi "tuple" (dVar 5)))) (bB (dOp rdNe (dCall rdLen (aCons (dVar 5) aNil)) (dC (.int 3))))) (dRet (dC (.bool false))) dNext) (dSeq (dIfS (bB (dOp rdNe (dN (dLcW (iTpl (dVar 5)) (tgN 9) (bOr (bNot (bTru (dIsi "int" (dVar 9)))) (bTru (dIsi "bool" (dVar 9)))) (dVar 9) [9])) (dLst aNil))) (dRet (dC (.bool false))) dNext) (dSeq (dUnp [6, 7, 8] (dVar 5)) (dSeq (dIfS (bOr (bNot (bB (dChain rdLe rdLt (dC (.int 0)) (dVar 6) (dCall rdLen (aCons (dOp rdIx (dVar 0) (dC (.int 0))) aNil))))) (bB (dOp (rdInI true) (dVar 8) (dCall f_law_positions (aCons (dVar 0) aNil))))) (dRet (dC (.bool false))) dNext) (dIfS (bNot (bTru (dCall f_law_plays (aCons (dVar 0) (aCons (dOp rdIx (dVar 1) (dVar 4)) (aCons (dVar 2) (aCons (dVar 7) (aCons (dVar 6) (aCons (dVar 8) aNil))))))))) (dRet (dC (.bool false))) dNext))))))) (dRet (dC (.bool true)))))
def N_law_is_playing : List Str := ["_law_neck_here", "_law_tune_here", "_law_reach", "_law_playing", "_law_k", "_law_one", "_law_string", "_law_place", "_law_position", "_law_part"]
theorem sc_law_is_playing : FnScope ["_law_neck_here", "_law_tune_here", "_law_reach", "_law_playing", "_law_k", "_law_one", "_law_string", "_law_place", "_law_position", "_law_part"] ["_law_neck_here", "_law_tune_here", "_law_reach", "_law_playing"] (defScope s_law_is_playing) := ⟨rfl, rfl, rfl, by decide +kernel, rfl, by decide +kernel, by decide +kernel⟩
theorem pure_law_is_playing : ∀ ds R, f_law_is_playing ds R → W_law_is_playing { nx := fun _ => R .none, rt := R } (startD N_law_is_playing ds) := by
  rintro ds R ⟨t, f, c, ns, r, pl, rfl, ok, okt, hp, h⟩
  have hl := hp.len
  have l30 := okt.l2
  have c0 := ok.c0
  have c1 := ok.c1
  have f1 := ok.f1
  simp [W_law_is_playing, N_law_is_playing, tyN, isN, hl]
  refine ⟨by omega, ?_⟩
  unfold rngD
  refine forRun_ix (fun k e => ∃ x4 x5 x6 x7 x8 x9 : Sl, e = [.val (neckD t f c), .val (.list (ns.map .int)), .val (.int r), .val (.list (pl.map trD)), x4, x5, x6, x7, x8, x9]) (fun k e N hk he kn => ?_) (fun e he => ?_) _ ⟨_, _, _, _, _, _, rfl⟩
  · obtain ⟨x4, x5, x6, x7, x8, x9, rfl⟩ := he
    have hk2 : k < pl.length := by omega
    have g1 := atI_map (f := trD) (List.getElem?_eq_getElem hk2)
    have g0 := atI_map (f := PyData.int) (List.getElem?_eq_getElem hk)
    obtain ⟨q1, s, q2, x, q3, q4, q5⟩ := hp.ok k ns[k] pl[k] (List.getElem?_eq_getElem hk) (List.getElem?_eq_getElem hk2)
    generalize pl[k] = z at g1 q1 q2 q3 q4 q5
    generalize ns[k] = n at g0 q4 q5
    obtain ⟨z1, z2, z3⟩ := z
    simp only at q1 q2 q4 q5
    subst q2
    have hs : s < t.length := (List.getElem?_eq_some_iff.mp q3).1
    simp [g1]
    simp [trD, tyN, isN]
    refine lcRun_ints (ns := [(s : Int), z2, z3]) (fun _ => false) (fun p => .int p) (fun p _ K kk => ?_) ?_
    · simp [tyN, isN]
      simpa using kk
    · refine ⟨shaped_intsL (l := []), .inl ⟨rfl, .inr (.inr ⟨hs, c0, f1, c1, z3, _, rfl, .lst _, ?_⟩)⟩⟩
      have hz : z3 ∈ posL f c := q1
      simp [hz]
      refine ⟨_, g0, t, f, c, n, r, z2, s, z3, x, rfl, q3, ?_⟩
      have e2 : decide (x + z2 = n) = true := by simp; omega
      have e3 : (isPlace f c z2 && decide (x + z2 = n) && (decide (z2 = c) || decide (z3 ≤ z2) && decide (z2 ≤ z3 + r))) = true := by
        rw [e2, Bool.and_true, q4]
        exact q5
      rw [e3]
      simp
      exact kn _ ⟨_, _, _, _, _, _, rfl⟩
  · obtain ⟨x4, x5, x6, x7, x8, x9, rfl⟩ := he
    simpa using h
section
variable {P : Program} {w : World} {g : Glb} {mg : Str → Option Value} {base : Heap}
theorem ok_law_is_playing {f : Addr} {fd : FuncData} (F : FunP g.K "_law_is_playing" s_law_is_playing f fd) (mgf : mg "_law_is_playing" = some (.ref f)) (T : Txt mg) (C_law_plays : C8.Cal P w g.K mg base 1 "_law_plays" (spD g f_law_plays) []) (C_law_positions : C8.Cal P w g.K mg base 1 "_law_positions" (spD g f_law_positions) []) : C8.Cal P w g.K mg base 2 "_law_is_playing" (spD g f_law_is_playing) [] :=
  calD (N := ["_law_neck_here", "_law_tune_here", "_law_reach", "_law_playing", "_law_k", "_law_one", "_law_string", "_law_place", "_law_position", "_law_part"]) (ps := ["_law_neck_here", "_law_tune_here", "_law_reach", "_law_playing"]) (k := 1) (wb := W_law_is_playing) F mgf (F.bindsN fun _ _ _ _ _ _ us hl => match us, hl with | [_, _, _, _], _ => rfl) sc_law_is_playing len_law_is_playing (fun cdv A outer s H E r a ns hr =>
    (pssd_cons (ps_w (ps_if (PW.pt (pw_w (pw_or (pt_w (pt_not (pt_w (pt_truth (pe_w (pe_callB call_isi (by rfl) T.m_isinstance (by decide +kernel) (pa_cons (pe_w (pv 3) xd_var) (pa_cons (pe_bltn (v := .ty "list") (by rfl) T.m_list (by decide +kernel) rfl) pa_nil))) (xd_isi (by decide))) (by intro _; rfl)) xt_tru)) xt_not) (pw_or1 (pt_w (pt_cmpR (op_neD hr.units) (pe_w (pe_callB call_len_seq (by rfl) T.m_len PySem.boot_len (pa_w (pa_cons (pe_w (pv 3) xd_var) (pa_w pa_nil xa_nil)) xa_cons)) (xd_cb cd_len)) (pe_w (pe_callB call_len_seq (by rfl) T.m_len PySem.boot_len (pa_w (pa_cons (pe_w (pv 1) xd_var) (pa_w pa_nil xa_nil)) xa_cons)) (xd_cb cd_len)) (nomark _)) (xt_cmp od_ne)))) xt_or)) (pssd_one (ps_w (ps_ret (pe_w pe_bl (xd_c fun _ => .bl))) xs_ret)) pssd_nil) xs_if) (pssd_cons (ps_w (ps_for (g := gName 4) PassesOwn.never rfl (pi_w (pi_range1 (by rfl) T.m_range (pa_w (pa_cons (pe_w (pe_callB call_len_seq (by rfl) T.m_len PySem.boot_len (pa_w (pa_cons (pe_w (pv 1) xd_var) (pa_w pa_nil xa_nil)) xa_cons)) (xd_cb cd_len)) (pa_w pa_nil xa_nil)) xa_cons)) xi_rng1) (pg_name (i := 4) sc_law_is_playing.nd rfl (.inl rfl)) (pssd_cons (ps_w (ps_set (i := 5) sc_law_is_playing.nd rfl (.inl rfl) (pe_w (pe_ix ix_lt (pe_w (pv 3) xd_var) (pe_w (pv 4) xd_var) (fun _ _ => rfl)) (xd_op od_ixL))) xs_asg) (pssd_cons (ps_w (ps_if (PW.pt (pw_w (pw_or (pt_w (pt_not (pt_w (pt_truth (pe_w (pe_callB call_isi (by rfl) T.m_isinstance (by decide +kernel) (pa_cons (pe_w (pv 5) xd_var) (pa_cons (pe_bltn (v := .ty "tuple") (by rfl) T.m_tuple (by decide +kernel) rfl) pa_nil))) (xd_isi (by decide))) (by intro _; rfl)) xt_tru)) xt_not) (pw_or1 (pt_w (pt_cmpR (op_neD hr.units) (pe_w (pe_callB call_len_seq (by rfl) T.m_len PySem.boot_len (pa_w (pa_cons (pe_w (pv 5) xd_var) (pa_w pa_nil xa_nil)) xa_cons)) (xd_cb cd_len)) (pe_w pe_int (xd_c fun _ => .int)) (nomark _)) (xt_cmp od_ne)))) xt_or)) (pssd_one (ps_w (ps_ret (pe_w pe_bl (xd_c fun _ => .bl))) xs_ret)) pssd_nil) xs_if) (pssd_cons (ps_w (ps_if (pt_w (pt_cmpR (op_neD hr.units) (pe_w (pe_w (pe_lc (own := [("_law_part", 9)]) (g := gName 9) rfl sc_law_is_playing.nd (pi_w (pi_tup (pe_w (pv 5) xd_var)) xi_tup) (blkOk_by (own := [("_law_part", 9)]) (N := ["_law_neck_here", "_law_tune_here", "_law_reach", "_law_playing", "_law_k", "_law_one", "_law_string", "_law_place", "_law_position", "_law_part"]) (sc := (defScope s_law_is_playing)) (by decide +kernel)) (fun _ _ _ _ _ => (pg_name (i := 9) sc_law_is_playing.nd rfl (.inl rfl))) (fun _ _ _ _ _ => (pts_one (PW.pt (pw_w (pw_or (pt_w (pt_not (pt_w (pt_truth (pe_w (pe_callB call_isi (by rfl) T.m_isinstance (by decide +kernel) (pa_cons (pe_w (pv 9) xd_var) (pa_cons (pe_bltn (v := .ty "int") (by rfl) T.m_int (by decide +kernel) rfl) pa_nil))) (xd_isi (by decide))) (by intro _; rfl)) xt_tru)) xt_not) (pw_or1 (pt_w (pt_truth (pe_w (pe_callB call_isi (by rfl) T.m_isinstance (by decide +kernel) (pa_cons (pe_w (pv 9) xd_var) (pa_cons (pe_bltn (v := .ty "bool") (by rfl) T.m_bool (by decide +kernel) rfl) pa_nil))) (xd_isi (by decide))) (by intro _; rfl)) xt_tru))) xt_or)))) (fun _ _ _ _ _ => (pe_w (pv 9) xd_var))) (xn_lc gd_name stores_name)) xd_N) (pe_w (pe_lst (pa_w pa_nil xa_nil)) xd_lst) (nomark _)) (xt_cmp od_ne)) (pssd_one (ps_w (ps_ret (pe_w pe_bl (xd_c fun _ => .bl))) xs_ret)) pssd_nil) xs_if) (pssd_cons (ps_w (ps_asg (pe_w (pv 5) xd_var) (pg_tup rfl (pgs_cons (pg_name (i := 6) sc_law_is_playing.nd rfl (.inl rfl)) (pgs_cons (pg_name (i := 7) sc_law_is_playing.nd rfl (.inl rfl)) (pgs_cons (pg_name (i := 8) sc_law_is_playing.nd rfl (.inl rfl)) pgs_nil))))) (xs_unp (is := [6, 7, 8]) rfl)) (pssd_cons (ps_w (ps_if (PW.pt (pw_w (pw_or (pt_w (pt_not (pt_w (pt_chain op_le op_lt (pe_w pe_int (xd_c fun _ => .int)) (pe_w (pv 6) xd_var) (pe_w (pe_callB call_len_seq (by rfl) T.m_len PySem.boot_len (pa_w (pa_cons (pe_w (pe_ix ix_lt (pe_w (pv 0) xd_var) (pe_w pe_int (xd_c fun _ => .int)) (fun _ _ => rfl)) (xd_op od_ixL)) (pa_w pa_nil xa_nil)) xa_cons)) (xd_cb cd_len))) (xt_chain od_le od_lt))) xt_not) (pw_or1 (pt_w (pt_cmpR op_notIn_seq (pe_w (pv 8) xd_var) (pe_w (C8.pe_c C_law_positions hr (by decide) (by rfl) (pa_w (pa_cons (pe_w (pv 0) xd_var) (pa_w pa_nil xa_nil)) xa_cons)) xd_call) (by rfl)) (xt_cmp od_inI)))) xt_or)) (pssd_one (ps_w (ps_ret (pe_w pe_bl (xd_c fun _ => .bl))) xs_ret)) pssd_nil) xs_if) (pssd_one (ps_w (ps_if (pt_w (pt_not (pt_w (pt_truth (pe_w (C8.pe_c C_law_plays hr (by decide) (by rfl) (pa_w (pa_cons (pe_w (pv 0) xd_var) (pa_w (pa_cons (pe_w (pe_ix ix_lt (pe_w (pv 1) xd_var) (pe_w (pv 4) xd_var) (fun _ _ => rfl)) (xd_op od_ixL)) (pa_w (pa_cons (pe_w (pv 2) xd_var) (pa_w (pa_cons (pe_w (pv 7) xd_var) (pa_w (pa_cons (pe_w (pv 6) xd_var) (pa_w (pa_cons (pe_w (pv 8) xd_var) (pa_w pa_nil xa_nil)) xa_cons)) xa_cons)) xa_cons)) xa_cons)) xa_cons)) xa_cons)) xd_call) (by intro _; rfl)) xt_tru)) xt_not) (pssd_one (ps_w (ps_ret (pe_w pe_bl (xd_c fun _ => .bl))) xs_ret)) pssd_nil) xs_if)))))))) (xs_for gd_name)) (pssd_one (ps_w (ps_ret (pe_w pe_bl (xd_c fun _ => .bl))) xs_ret))))) pure_law_is_playing
end

/-! ### is it a number -/
def f_law_is_number : Fd := fun ds R => ∃ i : Int, ds = [.int i] ∧ R (.bool true)
theorem len_law_is_number : ∀ ds R, f_law_is_number ds R → ds.length = 1 := by
  rintro ds R ⟨i, rfl, _⟩; rfl
@[simp] theorem law_is_number_iff {i : Int} {R : D → Prop} : f_law_is_number [.int i] R ↔ R (.bool true) := ⟨fun ⟨_, _, h⟩ => h, fun h => ⟨i, rfl, h⟩⟩
def W_law_is_number : WS := (dRet (dAnd (dIsi "int" (dVar 0)) (dNot (dIsi "bool" (dVar 0)))))
def N_law_is_number : List Str := ["_law_thing"]
theorem sc_law_is_number : FnScope ["_law_thing"] ["_law_thing"] (defScope s_law_is_number) := ⟨rfl, rfl, rfl, by decide +kernel, rfl, by decide +kernel, by decide +kernel⟩
theorem pure_law_is_number : ∀ ds R, f_law_is_number ds R → W_law_is_number { nx := fun _ => R .none, rt := R } (startD N_law_is_number ds) := by
  rintro ds R ⟨i, rfl, h⟩
  simp [W_law_is_number, N_law_is_number, tyN, isN]
  exact h
section
variable {P : Program} {w : World} {g : Glb} {mg : Str → Option Value} {base : Heap}
theorem ok_law_is_number {f : Addr} {fd : FuncData} (F : FunP g.K "_law_is_number" s_law_is_number f fd) (mgf : mg "_law_is_number" = some (.ref f)) (T : Txt mg)  : C8.Cal P w g.K mg base 1 "_law_is_number" (spD g f_law_is_number) [] :=
  calD (N := ["_law_thing"]) (ps := ["_law_thing"]) (k := 0) (wb := W_law_is_number) F mgf (F.bindsN fun _ _ _ _ _ _ us hl => match us, hl with | [_], _ => rfl) sc_law_is_number len_law_is_number (fun cdv A outer s H E r a ns hr =>
    (pssd_one (ps_w (ps_ret (pe_w (pe_and (pe_w (pe_callB call_isi (by rfl) T.m_isinstance (by decide +kernel) (pa_cons (pe_w (pv 0) xd_var) (pa_cons (pe_bltn (v := .ty "int") (by rfl) T.m_int (by decide +kernel) rfl) pa_nil))) (xd_isi (by decide))) (pe_one (pe_w (pe_not (pe_w (pe_callB call_isi (by rfl) T.m_isinstance (by decide +kernel) (pa_cons (pe_w (pv 0) xd_var) (pa_cons (pe_bltn (v := .ty "bool") (by rfl) T.m_bool (by decide +kernel) rfl) pa_nil))) (xd_isi (by decide)))) xd_not))) xd_and)) xs_ret))) pure_law_is_number
end

/-! ### a table, by the law's own look -/
def f_law_shows : Fd := fun ds R => ∃ (t : List Int) (f c : Int) (ns : List Int) (r : Int), ds = [neckD t f c, .list (ns.map PyData.int), .int r, .list (rowsD t f c r ns)] ∧ OkNeck t f c ∧ OkTune ns ∧ (∀ n ∈ ns, playB t f c r n = true) ∧ R (.bool true)
theorem len_law_shows : ∀ ds R, f_law_shows ds R → ds.length = 4 := by
  rintro ds R ⟨t, f, c, ns, r, rfl, _⟩; rfl
section
variable {t : List Int} {f c r : Int}
theorem rowsRev_at : ∀ (ns : List Int) (j : Nat), j < ns.length → (rowsRev t f c r ns)[j]? = some (rowAt t f c r (ns.drop j))
  | [], j, h => by simp at h
  | n :: ns, 0, _ => rfl
  | n :: ns, j + 1, h => by
    show (rowsRev t f c r ns)[j]? = _
    rw [rowsRev_at ns j (by simpa using h)]
    rfl
theorem rows_at {ns : List Int} {k : Nat} (h : k < ns.length) : (rowsD t f c r ns)[k]? = some (rowD (rowAt t f c r (ns.take (k + 1)).reverse)) := by
  unfold rowsD
  rw [List.getElem?_map]
  have hl : (rowsRev t f c r ns.reverse).length = ns.length := by rw [rowsRev_len, List.length_reverse]
  rw [List.getElem?_reverse (by omega), hl, rowsRev_at _ _ (by rw [List.length_reverse]; omega), List.drop_reverse]
  have : ns.length - (ns.length - 1 - k) = k + 1 := by omega
  rw [this]
  rfl
theorem rows_len {ns : List Int} : (rowsD t f c r ns).length = ns.length := by
  unfold rowsD
  rw [List.length_map, List.length_reverse, rowsRev_len, List.length_reverse]
theorem take_rev {ns : List Int} {k : Nat} (h : k < ns.length) : (ns.take (k + 1)).reverse = ns[k] :: (ns.take k).reverse := by
  rw [List.take_succ, List.getElem?_eq_getElem h]
  simp
theorem row_ge : ∀ (ns : List Int) (v : Int), v ∈ rowAt t f c r ns → -1 ≤ v
  | [], v, h => by
    obtain ⟨p, _, rfl⟩ := List.mem_map.mp h
    decide
  | n :: ns, v, h => by
    obtain ⟨p, _, rfl⟩ := List.mem_map.mp h
    have := arr_nonneg (rowAt_nonneg (t := t) (f := f) (c := c) (r := r) ns) p
    split <;> omega
end
/-- what stands ahead, the law's way -/
def aheadL (ps row : List Int) (p : Int) : List Int := ((List.range ps.length).filter fun j => decide (row.getD j 0 ≥ 0)).map fun j => row.getD j 0 + absI (ps.getD j 0 - p)
theorem cand_at {ps row : List Int} {j : Nat} (hj : j < ps.length) (hr : j < row.length) (h : row.getD j 0 ≥ 0) : (ps.getD j 0, row.getD j 0) ∈ cand ps row := by
  unfold cand
  rw [List.mem_filter]
  refine ⟨?_, by simp only [decide_eq_true_eq]; omega⟩
  have e1 : ps.getD j 0 = ps[j] := by rw [List.getD_eq_getElem?_getD, List.getElem?_eq_getElem hj]; rfl
  have e2 : row.getD j 0 = row[j] := by rw [List.getD_eq_getElem?_getD, List.getElem?_eq_getElem hr]; rfl
  rw [e1, e2]
  refine List.mem_iff_getElem?.mpr ⟨j, ?_⟩
  rw [List.getElem?_zip_eq_some]
  exact ⟨List.getElem?_eq_getElem hj, List.getElem?_eq_getElem hr⟩
theorem ahead_ne {ps row : List Int} {p : Int} (h : ∃ q v, (q, v) ∈ cand ps row ∧ 0 ≤ v) : 0 < (aheadL ps row p).length := by
  obtain ⟨q, v, hq, hv⟩ := h
  obtain ⟨hz, _⟩ := List.mem_filter.mp hq
  obtain ⟨j, hj⟩ := List.mem_iff_getElem?.mp hz
  rw [List.getElem?_zip_eq_some] at hj
  have hjl := (List.getElem?_eq_some_iff.mp hj.1).1
  have : j ∈ (List.range ps.length).filter fun j => decide (row.getD j 0 ≥ 0) := by
    rw [List.mem_filter]
    refine ⟨List.mem_range.mpr hjl, ?_⟩
    rw [List.getD_eq_getElem?_getD, hj.2]
    simpa using hv
  unfold aheadL
  rw [List.length_map]
  exact List.length_pos_of_mem this
theorem ahead_ge {ps row : List Int} {p m : Int} (hl : row.length = ps.length) (h : m ∈ aheadL ps row p) : arrV ps row p ≤ m := by
  obtain ⟨j, hj, rfl⟩ := List.mem_map.mp h
  obtain ⟨h1, h2⟩ := List.mem_filter.mp hj
  have h1 := List.mem_range.mp h1
  have h2 : row.getD j 0 ≥ 0 := by simpa using h2
  have := arr_le (p := p) (cand_at h1 (by omega) h2)
  rw [absI_sub] at this
  exact this
def W_law_shows_b_3 : WS := (dRet (dC (.bool true)))
def W_law_shows_b_2 : WS := (dSeq (dFor (iR1 (aCons (dCall rdLen (aCons (dVar 1) aNil)) aNil)) (tgN 5) (dSeq (dAsg 6 (dOp rdIx (dVar 3) (dVar 5))) (dSeq (dIfS (bOr (bNot (bTru (dIsi "list" (dVar 6)))) (bB (dOp rdNe (dCall rdLen (aCons (dVar 6) aNil)) (dCall rdLen (aCons (dVar 4) aNil))))) (dRet (dC (.bool false))) dNext) (dSeq (dIfS (bB (dOp rdNe (dN (dLcW (iLst (dVar 6)) (tgN 9) (bOr (bNot (bTru (dCall f_law_is_number (aCons (dVar 9) aNil)))) (bB (dOp rdLt (dVar 9) (dOp rdSub (dC (.int 0)) (dC (.int 1)))))) (dVar 9) [9])) (dLst aNil))) (dRet (dC (.bool false))) dNext) (dFor (iR1 (aCons (dCall rdLen (aCons (dVar 4) aNil)) aNil)) (tgN 7) (dSeq (dIfS (bB (dOp rdEq (dOp rdEq (dOp rdIx (dVar 6) (dVar 7)) (dOp rdSub (dC (.int 0)) (dC (.int 1)))) (dCall f_law_can (aCons (dVar 0) (aCons (dOp rdIx (dVar 1) (dVar 5)) (aCons (dVar 2) (aCons (dOp rdIx (dVar 4) (dVar 7)) aNil))))))) (dRet (dC (.bool false))) dNext) (dSeq (dAsg 8 (dIf (bB (dOp rdEq (dVar 5) (dC (.int 0)))) (dLst (aCons (dC (.int 0)) aNil)) (dLst aNil))) (dSeq (dIfS (bB (dOp rdGt (dVar 5) (dC (.int 0)))) (dAsg 8 (dN (dLcW (iR1 (aCons (dCall rdLen (aCons (dVar 4) aNil)) aNil)) (tgN 10) (bB (dOp rdGe (dOp rdIx (dOp rdIx (dVar 3) (dOp rdSub (dVar 5) (dC (.int 1)))) (dVar 10)) (dC (.int 0)))) (dOp rdAdd (dOp rdIx (dOp rdIx (dVar 3) (dOp rdSub (dVar 5) (dC (.int 1)))) (dVar 10)) (dCall rdAbs (aCons (dOp rdSub (dOp rdIx (dVar 4) (dVar 10)) (dOp rdIx (dVar 4) (dVar 7))) aNil))) [10]))) dNext) (dIfS (bB (dOp rdGt (dOp rdIx (dVar 6) (dVar 7)) (dCall rdMinL (aCons (dVar 8) aNil)))) (dRet (dC (.bool false))) dNext))))))))) W_law_shows_b_3)
def W_law_shows_b_1 : WS := (dSeq (dIfS (bOr (bNot (bTru (dIsi "list" (dVar 3)))) (bB (dOp rdNe (dCall rdLen (aCons (dVar 3) aNil)) (dCall rdLen (aCons (dVar 1) aNil))))) (dRet (dC (.bool false))) dNext) W_law_shows_b_2)
def W_law_shows_b_0 : WS := (dSeq (dAsg 4 (dCall f_law_positions (aCons (dVar 0) aNil))) W_law_shows_b_1)
def W_law_shows : WS := (dSeq (dAsg 4 (dCall f_law_positions (aCons (dVar 0) aNil))) (dSeq (dIfS (bOr (bNot (bTru (dIsi "list" (dVar 3)))) (bB (dOp rdNe (dCall rdLen (aCons (dVar 3) aNil)) (dCall rdLen (aCons (dVar 1) aNil))))) (dRet (dC (.bool false))) dNext) (dSeq (dFor (iR1 (aCons (dCall rdLen (aCons (dVar 1) aNil)) aNil)) (tgN 5) (dSeq (dAsg 6 (dOp rdIx (dVar 3) (dVar 5))) (dSeq (dIfS (bOr (bNot (bTru (dIsi "list" (dVar 6)))) (bB (dOp rdNe (dCall rdLen (aCons (dVar 6) aNil)) (dCall rdLen (aCons (dVar 4) aNil))))) (dRet (dC (.bool false))) dNext) (dSeq (dIfS (bB (dOp rdNe (dN (dLcW (iLst (dVar 6)) (tgN 9) (bOr (bNot (bTru (dCall f_law_is_number (aCons (dVar 9) aNil)))) (bB (dOp rdLt (dVar 9) (dOp rdSub (dC (.int 0)) (dC (.int 1)))))) (dVar 9) [9])) (dLst aNil))) (dRet (dC (.bool false))) dNext) (dFor (iR1 (aCons (dCall rdLen (aCons (dVar 4) aNil)) aNil)) (tgN 7) (dSeq (dIfS (bB (dOp rdEq (dOp rdEq (dOp rdIx (dVar 6) (dVar 7)) (dOp rdSub (dC (.int 0)) (dC (.int 1)))) (dCall f_law_can (aCons (dVar 0) (aCons (dOp rdIx (dVar 1) (dVar 5)) (aCons (dVar 2) (aCons (dOp rdIx (dVar 4) (dVar 7)) aNil))))))) (dRet (dC (.bool false))) dNext) (dSeq (dAsg 8 (dIf (bB (dOp rdEq (dVar 5) (dC (.int 0)))) (dLst (aCons (dC (.int 0)) aNil)) (dLst aNil))) (dSeq (dIfS (bB (dOp rdGt (dVar 5) (dC (.int 0)))) (dAsg 8 (dN (dLcW (iR1 (aCons (dCall rdLen (aCons (dVar 4) aNil)) aNil)) (tgN 10) (bB (dOp rdGe (dOp rdIx (dOp rdIx (dVar 3) (dOp rdSub (dVar 5) (dC (.int 1)))) (dVar 10)) (dC (.int 0)))) (dOp rdAdd (dOp rdIx (dOp rdIx (dVar 3) (dOp rdSub (dVar 5) (dC (.int 1)))) (dVar 10)) (dCall rdAbs (aCons (dOp rdSub (dOp rdIx (dVar 4) (dVar 10)) (dOp rdIx (dVar 4) (dVar 7))) aNil))) [10]))) dNext) (dIfS (bB (dOp rdGt (dOp rdIx (dVar 6) (dVar 7)) (dCall rdMinL (aCons (dVar 8) aNil)))) (dRet (dC (.bool false))) dNext))))))))) (dRet (dC (.bool true))))))
theorem eq_law_shows : W_law_shows = W_law_shows_b_0 := rfl
def N_law_shows : List Str := ["_law_neck_here", "_law_tune_here", "_law_reach", "_law_told", "_law_some", "_law_k", "_law_line", "_law_at", "_law_ahead", "_law_one", "_law_j"]
theorem sc_law_shows : FnScope ["_law_neck_here", "_law_tune_here", "_law_reach", "_law_told", "_law_some", "_law_k", "_law_line", "_law_at", "_law_ahead", "_law_one", "_law_j"] ["_law_neck_here", "_law_tune_here", "_law_reach", "_law_told"] (defScope s_law_shows) := ⟨rfl, rfl, rfl, by decide +kernel, rfl, by decide +kernel, by decide +kernel⟩
theorem pure_law_shows : ∀ ds R, f_law_shows ds R → W_law_shows { nx := fun _ => R .none, rt := R } (startD N_law_shows ds) := by
  rintro ds R ⟨t, f, c, ns, r, rfl, ok, okt, hp, h⟩
  have l30 := okt.l2
  have c0 := ok.c0
  have c1 := ok.c1
  have f1 := ok.f1
  have l6 := ok.l2
  have hpn := posN_le f1 c0
  rw [eq_law_shows]
  simp [W_law_shows_b_0, N_law_shows]
  refine ⟨c0, f1, c1, ?_⟩
  simp [W_law_shows_b_1, tyN, isN, rows_len]
  rw [W_law_shows_b_2]
  simp
  refine ⟨by omega, ?_⟩
  unfold rngD
  refine forRun_ix (fun k e => ∃ x5 x6 x7 x8 x9 x10 : Sl, e = [.val (neckD t f c), .val (.list (ns.map .int)), .val (.int r), .val (.list (rowsD t f c r ns)), .val (.list ((posL f c).map .int)), x5, x6, x7, x8, x9, x10]) (fun k e N hk he kn => ?_) (fun e he => ?_) _ ⟨_, _, _, _, _, _, rfl⟩
  · obtain ⟨x5, x6, x7, x8, x9, x10, rfl⟩ := he
    have hn : playB t f c r ns[k] = true := hp _ (List.getElem_mem hk)
    have g0 := atI_map (f := PyData.int) (List.getElem?_eq_getElem hk)
    have g3 : atI (rowsD t f c r ns) (k : Int) = some (rowD (rowAt t f c r (ns[k] :: (ns.take k).reverse))) := by
      have := rows_at (t := t) (f := f) (c := c) (r := r) hk
      rw [take_rev hk] at this
      exact atI_nat this
    have g4 : 0 < k → atI (rowsD t f c r ns) ((k : Int) - 1) = some (rowD (rowAt t f c r (ns.take k).reverse)) := fun k0 => by
      have := rows_at (t := t) (f := f) (c := c) (r := r) (ns := ns) (k := k - 1) (by omega)
      rw [(by omega : k - 1 + 1 = k)] at this
      have e : ((k : Int) - 1) = ((k - 1 : Nat) : Int) := by omega
      rw [e]
      exact atI_nat this
    have hcr : ∃ q v, (q, v) ∈ cand (posL f c) (rowAt t f c r (ns.take k).reverse) ∧ 0 ≤ v := by
      have ne : cand (posL f c) (rowAt t f c r (ns.take k).reverse) ≠ [] := by
        cases q : (ns.take k).reverse with
        | nil => exact cand_ne0
        | cons a l => exact cand_ne (hp a (List.mem_of_mem_take (List.mem_reverse.mp (by rw [q]; exact List.mem_cons_self))))
      obtain ⟨⟨q, v⟩, hq⟩ := List.exists_mem_of_ne_nil _ ne
      exact ⟨q, v, hq, rowAt_nonneg _ q v hq⟩
    have hz : k = 0 → rowAt t f c r (ns.take k).reverse = rowAt t f c r [] := fun z => by subst z; rfl
    have lr := rowAt_len (t := t) (f := f) (c := c) (r := r) (ns.take k).reverse
    have ll := rowAt_len (t := t) (f := f) (c := c) (r := r) (ns[k] :: (ns.take k).reverse)
    have lo0 := arr_nonneg (rowAt_nonneg (t := t) (f := f) (c := c) (r := r) (ns.take k).reverse)
    have lz : k = 0 → ∀ p ∈ posL f c, arrV (posL f c) (rowAt t f c r (ns.take k).reverse) p = 0 := fun z p hp => by
      rw [hz z]
      exact arr_first hp
    have lge := row_ge (t := t) (f := f) (c := c) (r := r) (ns[k] :: (ns.take k).reverse)
    have el : rowAt t f c r (ns[k] :: (ns.take k).reverse) = nextR t f c r ns[k] (rowAt t f c r (ns.take k).reverse) := rfl
    generalize rowAt t f c r (ns[k] :: (ns.take k).reverse) = line at *
    generalize rowAt t f c r (ns.take k).reverse = row at *
    generalize ns[k] = n at *
    simp only [Int.zero_add]
    simp [g3]
    simp [rowD, tyN, isN, ll, posL_len]
    refine ⟨by omega, lcRun_ints (fun _ => false) (fun v => .int v) line (fun v hv K kk => ?_) ?_⟩
    · have := lge v hv
      simp
      exact .inl ⟨by omega, by simpa using kk⟩
    · have e0 : List.map (fun v => PyData.int v) (List.filter (fun _ => false) line) = [] := by simp
      rw [e0]
      refine ⟨shaped_nilL, .inl ⟨by simp, by omega, ?_⟩⟩
      unfold rngD
      refine forRun_ix (fun _ e => ∃ x7 x8 x9 x10 : Sl, e = [.val (neckD t f c), .val (.list (ns.map .int)), .val (.int r), .val (.list (rowsD t f c r ns)), .val (.list ((posL f c).map .int)), .val (.int k), .val (.list (line.map .int)), x7, x8, x9, x10]) (fun a e N ha he an => ?_) (fun e he => ?_) _ ⟨_, _, _, _, rfl⟩
      · obtain ⟨x7, x8, x9, x10, rfl⟩ := he
        have hal : a < line.length := by omega
        have hap : a < (posL f c).length := by rw [posL_len]; exact ha
        have g6 := atI_map (f := PyData.int) (List.getElem?_eq_getElem hal)
        have gp := atI_map (f := PyData.int) (List.getElem?_eq_getElem hap)
        have lv : line[a] = if canB t f c n r (posL f c)[a] = true then arrV (posL f c) row (posL f c)[a] else -1 := by
          simp only [el, nextR, List.getElem_map]
        have lo : 0 ≤ arrV (posL f c) row (posL f c)[a] := lo0 _
        have l0 : k = 0 → line[a] ≤ 0 := fun z => by
          have := lz z _ (List.getElem_mem hap)
          rw [lv]
          split <;> omega
        have le : ∀ m ∈ aheadL (posL f c) row (posL f c)[a], line[a] ≤ m := by
          intro m hm
          have := ahead_ge (by rw [lr, posL_len]) hm
          rw [lv]
          split <;> omega
        generalize line[a] = v at *
        generalize (posL f c)[a] = p at *
        simp only [Int.zero_add]
        simp [g6, gp, g0, l6]
        have hne : ¬ decide (v = -1) = canB t f c n r p := by
          cases q : canB t f c n r p with
          | true =>
            rw [q, if_pos rfl] at lv
            rw [decide_eq_false (by omega)]
            decide
          | false =>
            rw [q, if_neg (by decide)] at lv
            rw [decide_eq_true lv]
            decide
        rw [if_neg hne]
        by_cases k0 : k = 0
        · rw [if_pos k0]
          refine .inl ⟨k0, (rdMinL_iff (ns := [0])).mpr ⟨by simp, fun m hm _ => ⟨m, rfl, .inl ⟨?_, an _ ⟨_, _, _, _, rfl⟩⟩⟩⟩⟩
          have : m = 0 := by simpa using hm
          have := l0 k0
          omega
        · rw [if_neg k0]
          refine .inr ⟨by omega, by rw [posL_len]; omega, by rw [posL_len]; omega, ?_⟩
          unfold rngD
          refine lcRun_map (φ := fun j : Nat => PyData.int (0 + (j : Int))) (fun j => decide (row.getD j 0 ≥ 0)) (fun j => .int (row.getD j 0 + absI ((posL f c).getD j 0 - p))) _ [] (fun j hj K kk => ?_) ?_
          · have hj' := List.mem_range.mp hj
            have i1 := atI_map (f := PyData.int) (show row[j]? = some (row.getD j 0) by rw [List.getD_eq_getElem?_getD, List.getElem?_eq_getElem (by rw [lr, ← posL_len]; exact hj')]; rfl)
            have i2 := atI_map (f := PyData.int) (show (posL f c)[j]? = some ((posL f c).getD j 0) by rw [List.getD_eq_getElem?_getD, List.getElem?_eq_getElem hj']; rfl)
            have i3 := g4 (by omega)
            simp only [Int.zero_add]
            simp [i3]
            simp [rowD, i1, i2, gp]
            simp only [List.getD_eq_getElem?_getD] at kk
            by_cases z : 0 ≤ row[j]?.getD 0
            · have z' : row[j]?.getD 0 ≥ 0 := z
              rw [decide_eq_true z', if_pos rfl] at kk
              exact .inr ⟨z, kk⟩
            · have z' : ¬ row[j]?.getD 0 ≥ 0 := z
              rw [decide_eq_false z', if_neg (by decide)] at kk
              exact .inl ⟨by omega, kk⟩
          · have e : (((List.range (posL f c).length).filter fun j => decide (row.getD j 0 ≥ 0)).map fun j => PyData.int (row.getD j 0 + absI ((posL f c).getD j 0 - p))) = (aheadL (posL f c) row p).map .int := by
              unfold aheadL
              rw [List.map_map]
              rfl
            rw [List.nil_append, e]
            refine rdMinL_iff.mpr ⟨ahead_ne hcr, fun m hm _ => ⟨m, rfl, .inl ⟨le m hm, an _ ⟨_, _, _, _, rfl⟩⟩⟩⟩
      · obtain ⟨x7, x8, x9, x10, rfl⟩ := he
        exact kn _ ⟨_, _, _, _, _, _, rfl⟩
  · obtain ⟨x5, x6, x7, x8, x9, x10, rfl⟩ := he
    simpa [W_law_shows_b_3] using h
section
variable {P : Program} {w : World} {g : Glb} {mg : Str → Option Value} {base : Heap}
theorem ok_law_shows {f : Addr} {fd : FuncData} (F : FunP g.K "_law_shows" s_law_shows f fd) (mgf : mg "_law_shows" = some (.ref f)) (T : Txt mg) (C_law_positions : C8.Cal P w g.K mg base 1 "_law_positions" (spD g f_law_positions) []) (C_law_can : C8.Cal P w g.K mg base 2 "_law_can" (spD g f_law_can) []) (C_law_is_number : C8.Cal P w g.K mg base 1 "_law_is_number" (spD g f_law_is_number) []) : C8.Cal P w g.K mg base 3 "_law_shows" (spD g f_law_shows) [] :=
  calD (N := ["_law_neck_here", "_law_tune_here", "_law_reach", "_law_told", "_law_some", "_law_k", "_law_line", "_law_at", "_law_ahead", "_law_one", "_law_j"]) (ps := ["_law_neck_here", "_law_tune_here", "_law_reach", "_law_told"]) (k := 2) (wb := W_law_shows) F mgf (F.bindsN fun _ _ _ _ _ _ us hl => match us, hl with | [_, _, _, _], _ => rfl) sc_law_shows len_law_shows (fun cdv A outer s H E r a ns hr =>
    (pssd_cons (ps_w (ps_set (i := 4) sc_law_shows.nd rfl (.inr rfl) (pe_w (C8.pe_c C_law_positions hr (by decide) (by rfl) (pa_w (pa_cons (pe_w (pv 0) xd_var) (pa_w pa_nil xa_nil)) xa_cons)) xd_call)) xs_asg) (pssd_cons (ps_w (ps_if (PW.pt (pw_w (pw_or (pt_w (pt_not (pt_w (pt_truth (pe_w (pe_callB call_isi (by rfl) T.m_isinstance (by decide +kernel) (pa_cons (pe_w (pv 3) xd_var) (pa_cons (pe_bltn (v := .ty "list") (by rfl) T.m_list (by decide +kernel) rfl) pa_nil))) (xd_isi (by decide))) (by intro _; rfl)) xt_tru)) xt_not) (pw_or1 (pt_w (pt_cmpR (op_neD hr.units) (pe_w (pe_callB call_len_seq (by rfl) T.m_len PySem.boot_len (pa_w (pa_cons (pe_w (pv 3) xd_var) (pa_w pa_nil xa_nil)) xa_cons)) (xd_cb cd_len)) (pe_w (pe_callB call_len_seq (by rfl) T.m_len PySem.boot_len (pa_w (pa_cons (pe_w (pv 1) xd_var) (pa_w pa_nil xa_nil)) xa_cons)) (xd_cb cd_len)) (nomark _)) (xt_cmp od_ne)))) xt_or)) (pssd_one (ps_w (ps_ret (pe_w pe_bl (xd_c fun _ => .bl))) xs_ret)) pssd_nil) xs_if) (pssd_cons (ps_w (ps_for (g := gName 5) PassesOwn.never rfl (pi_w (pi_range1 (by rfl) T.m_range (pa_w (pa_cons (pe_w (pe_callB call_len_seq (by rfl) T.m_len PySem.boot_len (pa_w (pa_cons (pe_w (pv 1) xd_var) (pa_w pa_nil xa_nil)) xa_cons)) (xd_cb cd_len)) (pa_w pa_nil xa_nil)) xa_cons)) xi_rng1) (pg_name (i := 5) sc_law_shows.nd rfl (.inr rfl)) (pssd_cons (ps_w (ps_set (i := 6) sc_law_shows.nd rfl (.inl rfl) (pe_w (pe_ix ix_lt (pe_w (pv 3) xd_var) (pe_w (pv 5) xd_var) (fun _ _ => rfl)) (xd_op od_ixL))) xs_asg) (pssd_cons (ps_w (ps_if (PW.pt (pw_w (pw_or (pt_w (pt_not (pt_w (pt_truth (pe_w (pe_callB call_isi (by rfl) T.m_isinstance (by decide +kernel) (pa_cons (pe_w (pv 6) xd_var) (pa_cons (pe_bltn (v := .ty "list") (by rfl) T.m_list (by decide +kernel) rfl) pa_nil))) (xd_isi (by decide))) (by intro _; rfl)) xt_tru)) xt_not) (pw_or1 (pt_w (pt_cmpR (op_neD hr.units) (pe_w (pe_callB call_len_seq (by rfl) T.m_len PySem.boot_len (pa_w (pa_cons (pe_w (pv 6) xd_var) (pa_w pa_nil xa_nil)) xa_cons)) (xd_cb cd_len)) (pe_w (pe_callB call_len_seq (by rfl) T.m_len PySem.boot_len (pa_w (pa_cons (pe_w (pv 4) xd_var) (pa_w pa_nil xa_nil)) xa_cons)) (xd_cb cd_len)) (nomark _)) (xt_cmp od_ne)))) xt_or)) (pssd_one (ps_w (ps_ret (pe_w pe_bl (xd_c fun _ => .bl))) xs_ret)) pssd_nil) xs_if) (pssd_cons (ps_w (ps_if (pt_w (pt_cmpR (op_neD hr.units) (pe_w (pe_w (pe_lc (own := [("_law_one", 9)]) (g := gName 9) rfl sc_law_shows.nd (pi_w (pi_list (pe_w (pv 6) xd_var)) xi_list) (blkOk_by (own := [("_law_one", 9)]) (N := ["_law_neck_here", "_law_tune_here", "_law_reach", "_law_told", "_law_some", "_law_k", "_law_line", "_law_at", "_law_ahead", "_law_one", "_law_j"]) (sc := (defScope s_law_shows)) (by decide +kernel)) (fun _ _ _ _ _ => (pg_name (i := 9) sc_law_shows.nd rfl (.inl rfl))) (fun _ _ _ _ _ => (pts_one (PW.pt (pw_w (pw_or (pt_w (pt_not (pt_w (pt_truth (pe_w (C8.pe_c C_law_is_number hr (by decide) (by rfl) (pa_w (pa_cons (pe_w (pv 9) xd_var) (pa_w pa_nil xa_nil)) xa_cons)) xd_call) (by intro _; rfl)) xt_tru)) xt_not) (pw_or1 (pt_w (pt_cmpR op_lt (pe_w (pv 9) xd_var) (pe_w (pe_op op_sub (pe_w pe_int (xd_c fun _ => .int)) (pe_w pe_int (xd_c fun _ => .int))) (xd_op od_sub)) (nomark _)) (xt_cmp od_lt)))) xt_or)))) (fun _ _ _ _ _ => (pe_w (pv 9) xd_var))) (xn_lc gd_name stores_name)) xd_N) (pe_w (pe_lst (pa_w pa_nil xa_nil)) xd_lst) (nomark _)) (xt_cmp od_ne)) (pssd_one (ps_w (ps_ret (pe_w pe_bl (xd_c fun _ => .bl))) xs_ret)) pssd_nil) xs_if) (pssd_one (ps_w (ps_for (g := gName 7) PassesOwn.never rfl (pi_w (pi_range1 (by rfl) T.m_range (pa_w (pa_cons (pe_w (pe_callB call_len_seq (by rfl) T.m_len PySem.boot_len (pa_w (pa_cons (pe_w (pv 4) xd_var) (pa_w pa_nil xa_nil)) xa_cons)) (xd_cb cd_len)) (pa_w pa_nil xa_nil)) xa_cons)) xi_rng1) (pg_name (i := 7) sc_law_shows.nd rfl (.inr rfl)) (pssd_cons (ps_w (ps_if (pt_w (pt_cmpR (op_eqD hr.units) (pe_w (pe_cmpR (op_eqD hr.units) (pe_w (pe_ix ix_lt (pe_w (pv 6) xd_var) (pe_w (pv 7) xd_var) (fun _ _ => rfl)) (xd_op od_ixL)) (pe_w (pe_op op_sub (pe_w pe_int (xd_c fun _ => .int)) (pe_w pe_int (xd_c fun _ => .int))) (xd_op od_sub)) (nomark _)) (xd_op od_eq)) (pe_w (C8.pe_c C_law_can hr (by decide) (by rfl) (pa_w (pa_cons (pe_w (pv 0) xd_var) (pa_w (pa_cons (pe_w (pe_ix ix_lt (pe_w (pv 1) xd_var) (pe_w (pv 5) xd_var) (fun _ _ => rfl)) (xd_op od_ixL)) (pa_w (pa_cons (pe_w (pv 2) xd_var) (pa_w (pa_cons (pe_w (pe_ix ix_lt (pe_w (pv 4) xd_var) (pe_w (pv 7) xd_var) (fun _ _ => rfl)) (xd_op od_ixL)) (pa_w pa_nil xa_nil)) xa_cons)) xa_cons)) xa_cons)) xa_cons)) xd_call) (nomark _)) (xt_cmp od_eq)) (pssd_one (ps_w (ps_ret (pe_w pe_bl (xd_c fun _ => .bl))) xs_ret)) pssd_nil) xs_if) (pssd_cons (ps_w (ps_set (i := 8) sc_law_shows.nd rfl (.inl rfl) (pe_w (pe_ifExp (pt_w (pt_cmpR (op_eqD hr.units) (pe_w (pv 5) xd_var) (pe_w pe_int (xd_c fun _ => .int)) (nomark _)) (xt_cmp od_eq)) (pe_w (pe_lst (pa_w (pa_cons (pe_w pe_int (xd_c fun _ => .int)) (pa_w pa_nil xa_nil)) xa_cons)) xd_lst) (pe_w (pe_lst (pa_w pa_nil xa_nil)) xd_lst)) xd_if)) xs_asg) (pssd_cons (ps_w (ps_if (pt_w (pt_cmpR op_gt (pe_w (pv 5) xd_var) (pe_w pe_int (xd_c fun _ => .int)) (nomark _)) (xt_cmp od_gt)) (pssd_one (ps_w (ps_setLc (i := 8) (own := [("_law_j", 10)]) (g := gName 10) rfl sc_law_shows.nd rfl rfl (sw_true rfl rfl rfl (by decide +kernel)) (pi_w (pi_range1 (by rfl) T.m_range (pa_w (pa_cons (pe_w (pe_callB call_len_seq (by rfl) T.m_len PySem.boot_len (pa_w (pa_cons (pe_w (pv 4) xd_var) (pa_w pa_nil xa_nil)) xa_cons)) (xd_cb cd_len)) (pa_w pa_nil xa_nil)) xa_cons)) xi_rng1) (blkOk_by (own := [("_law_j", 10)]) (N := ["_law_neck_here", "_law_tune_here", "_law_reach", "_law_told", "_law_some", "_law_k", "_law_line", "_law_at", "_law_ahead", "_law_one", "_law_j"]) (sc := (defScope s_law_shows)) (by decide +kernel)) (fun _ _ _ _ _ => (pg_name (i := 10) sc_law_shows.nd rfl (.inl rfl))) (fun _ _ _ _ _ => (pts_one (pt_w (pt_cmpR op_ge (pe_w (pe_ix ix_lt (pe_w (pe_ix ix_lt (pe_w (pv 3) xd_var) (pe_w (pe_op op_sub (pe_w (pv 5) xd_var) (pe_w pe_int (xd_c fun _ => .int))) (xd_op od_sub)) (fun _ _ => rfl)) (xd_op od_ixL)) (pe_w (pv 10) xd_var) (fun _ _ => rfl)) (xd_op od_ixL)) (pe_w pe_int (xd_c fun _ => .int)) (nomark _)) (xt_cmp od_ge)))) (fun _ _ _ _ _ => (pe_w (pe_op op_add (pe_w (pe_ix ix_lt (pe_w (pe_ix ix_lt (pe_w (pv 3) xd_var) (pe_w (pe_op op_sub (pe_w (pv 5) xd_var) (pe_w pe_int (xd_c fun _ => .int))) (xd_op od_sub)) (fun _ _ => rfl)) (xd_op od_ixL)) (pe_w (pv 10) xd_var) (fun _ _ => rfl)) (xd_op od_ixL)) (pe_w (pe_callB call_abs (by rfl) T.m_abs (by decide +kernel) (pa_w (pa_cons (pe_w (pe_op op_sub (pe_w (pe_ix ix_lt (pe_w (pv 4) xd_var) (pe_w (pv 10) xd_var) (fun _ _ => rfl)) (xd_op od_ixL)) (pe_w (pe_ix ix_lt (pe_w (pv 4) xd_var) (pe_w (pv 7) xd_var) (fun _ _ => rfl)) (xd_op od_ixL))) (xd_op od_sub)) (pa_w pa_nil xa_nil)) xa_cons)) (xd_cb cd_abs))) (xd_op od_add)))) (xs_asgLc gd_name stores_name))) pssd_nil) xs_if) (pssd_one (ps_w (ps_if (pt_w (pt_cmpR op_gt (pe_w (pe_ix ix_lt (pe_w (pv 6) xd_var) (pe_w (pv 7) xd_var) (fun _ _ => rfl)) (xd_op od_ixL)) (pe_w (pe_callB (cr_min (by rfl)) (by rfl) T.m_min (by decide +kernel) (pa_w (pa_cons (pe_w (pv 8) xd_var) (pa_w pa_nil xa_nil)) xa_cons)) (xd_cb cd_minL)) (nomark _)) (xt_cmp od_gt)) (pssd_one (ps_w (ps_ret (pe_w pe_bl (xd_c fun _ => .bl))) xs_ret)) pssd_nil) xs_if)))))) (xs_for gd_name))))))) (xs_for gd_name)) (pssd_one (ps_w (ps_ret (pe_w pe_bl (xd_c fun _ => .bl))) xs_ret)))))) pure_law_shows
end

/-! ### the law of k08 -/
def W_law_in_7 : WS := (dIfS (bNot (bTru (dCall f_law_shows (aCons (dVar 3) (aCons (dVar 4) (aCons (dVar 5) (aCons (dCall f_table (aCons (dVar 3) (aCons (dVar 4) (aCons (dVar 5) aNil)))) aNil))))))) (dRet (dC (.bool false))) dNext)
def W_law_in_6 : WS := (dSeq (dRevO 8) W_law_in_7)
def W_law_in_5 : WS := (dSeq (dForApp 8 10 0) W_law_in_6)
def W_law_in_4 : WS := (dSeq (dIfS (bOr (bNot (bTru (dCall f_law_alike (aCons (dOp rdIx (dVar 7) (dC (.int 0))) (aCons (dVar 9) aNil))))) (bB (dOp rdNe (dCall f_law_moved (aCons (dOp rdIx (dVar 7) (dC (.int 1))) aNil)) (dVar 9)))) (dRet (dC (.bool false))) dNext) W_law_in_5)
def W_law_in_3 : WS := (dSeq (dAsg 9 (dCall rdMinL (aCons (dN (dLcW (iLst (dOp rdIx (dVar 8) (dNeg (dC (.int 1))))) (tgN 12) (bB (dOp rdGe (dVar 12) (dC (.int 0)))) (dVar 12) [12])) aNil))) W_law_in_4)
def W_law_in_2 : WS := (dSeq (dIfS (bOr (bNot (bTru (dCall f_law_shows (aCons (dVar 3) (aCons (dVar 4) (aCons (dVar 5) (aCons (dVar 8) aNil))))))) (bNot (bTru (dCall f_law_is_playing (aCons (dVar 3) (aCons (dVar 4) (aCons (dVar 5) (aCons (dOp rdIx (dVar 7) (dC (.int 1))) aNil)))))))) (dRet (dC (.bool false))) dNext) W_law_in_3)
def W_law_in_1 : WS := (dPin [3, 4] (dSeq (dAsgF 8 3 f_table (aCons (dVar 3) (aCons (dVar 4) (aCons (dVar 5) aNil)))) W_law_in_2))
def W_law_in_0 : WS := (dSeq (dAsg 7 (dCall f_played (aCons (dVar 3) (aCons (dVar 4) (aCons (dVar 5) aNil))))) W_law_in_1)
def W_law_turn_5 : WS := (dIfS (bB (dOp rdNe (dVar 4) (dLst aNil))) W_law_in_0 dNext)
def W_law_turn_4 : WS := (dSeq (dAsg 4 (dN (dLcW (iLst (dVar 4)) (tgN 11) (bB (dOp rdNe (dN (dLcW (iLst (dVar 6)) (tgN 13) (bTru (dCall f_law_can (aCons (dVar 3) (aCons (dVar 11) (aCons (dVar 5) (aCons (dVar 13) aNil)))))) (dVar 13) [13])) (dLst aNil))) (dVar 11) [11]))) W_law_turn_5)
def W_law_turn_3 : WS := (dSeq (dAsg 6 (dCall f_law_positions (aCons (dVar 3) aNil))) W_law_turn_4)
def W_law_turn_2 : WS := (dSeq (dAsg 5 (dOp rdIx (dLst (aCons (dC (.int 3)) (aCons (dC (.int 0)) (aCons (dC (.int 1)) (aCons (dCall f_law_taken (aCons (dVar 1) (aCons (dC (.int 7)) aNil))) aNil))))) (dCall f_law_taken (aCons (dVar 1) (aCons (dC (.int 4)) aNil))))) W_law_turn_3)
def W_law_turn_1 : WS := (dSeq (dAsg 4 (dCall f_law_tune (aCons (dVar 1) (aCons (dVar 3) (aCons (dC (.int 30)) aNil))))) W_law_turn_2)
def W_law_turn_0 : WS := (dSeq (dAsg 3 (dCall f_law_neck (aCons (dVar 1) (aCons (dC (.int 6)) aNil)))) W_law_turn_1)
def W_law : WS := (dSeq (dForR (iR1 (aCons (dC (.int 3)) aNil)) (tgN 2) W_law_turn_0) (dRet (dC (.bool true))))
def N_law : List Str := ["_law_script", "_law_row", "_law_turn", "_law_neck_here", "_law_tune_here", "_law_reach", "_law_some", "_law_told", "_law_found", "_law_least", "_law_line", "_law_note", "_law_number", "_law_one"]
theorem sc_law : FnScope ["_law_script", "_law_row", "_law_turn", "_law_neck_here", "_law_tune_here", "_law_reach", "_law_some", "_law_told", "_law_found", "_law_least", "_law_line", "_law_note", "_law_number", "_law_one"] ["_law_script"] (defScope s_law) := ⟨rfl, rfl, rfl, by decide +kernel, rfl, by decide +kernel, by decide +kernel⟩
@[simp] theorem atomD_int {i : Int} : atomD (.int i) = true := rfl
@[simp] theorem atomD_row : atomD (.dict []) = true := rfl
@[simp] theorem atomD_list {l : List D} : atomD (.list l) = false := rfl
@[simp] theorem atomD_tup {l : List D} : atomD (.tuple l) = false := rfl
theorem walk_ex {t : List Int} {f c r : Int} : ∀ (ns : List Int) (n q v : Int), (∀ m ∈ ns, playB t f c r m = true) → (q, v) ∈ cand (posL f c) (rowAt t f c r (n :: ns)) → ∃ hs, Val t f c r (n :: ns) (q :: hs) ∧ moveL (q :: hs) = v
  | [], n, q, v, _, h => by
    obtain ⟨h1, h2, h3⟩ := cand_next.mp h
    refine ⟨[], Val.cons.mpr ⟨⟨h1, h2⟩, Val.nil⟩, ?_⟩
    rw [h3, arr_first h1]
    rfl
  | m :: ns, n, q, v, hp, h => by
    obtain ⟨h1, h2, h3⟩ := cand_next.mp h
    obtain ⟨a, w, h4, h5⟩ := cand_some (cand_ne (ns := ns) (hp m List.mem_cons_self)) q
    obtain ⟨hs, h6, h7⟩ := walk_ex ns m a w (fun x hx => hp x (List.mem_cons_of_mem _ hx)) h4
    refine ⟨a :: hs, Val.cons.mpr ⟨⟨h1, h2⟩, h6⟩, ?_⟩
    show absI (a - q) + moveL (a :: hs) = v
    rw [h7, h3, ← h5, absI_sub]
    omega
theorem rows_each {t : List Int} {f c r : Int} : ∀ (ns : List Int) (l : List Int), l ∈ rowsRev t f c r ns → l.length = posN f c
  | [], l, h => by cases h
  | n :: ns, l, h => by
    rcases List.mem_cons.mp h with z | z
    · rw [z]; exact rowAt_len _
    · exact rows_each ns l z
theorem cand_nonneg {f c : Int} {row : List Int} (hl : row.length = (posL f c).length) {v : Int} (hv : v ∈ row) (h0 : 0 ≤ v) : ∃ q, (q, v) ∈ cand (posL f c) row := by
  obtain ⟨j, hj⟩ := List.mem_iff_getElem?.mp hv
  have hjl := (List.getElem?_eq_some_iff.mp hj).1
  refine ⟨(posL f c)[j]'(by omega), ?_⟩
  unfold cand
  rw [List.mem_filter]
  refine ⟨List.mem_iff_getElem?.mpr ⟨j, ?_⟩, by simp only [decide_eq_true_eq]; omega⟩
  rw [List.getElem?_zip_eq_some]
  exact ⟨List.getElem?_eq_getElem (by omega), hj⟩
theorem cand_mem {ps row : List Int} {q v : Int} (h : (q, v) ∈ cand ps row) : v ∈ row := (List.of_mem_zip (List.mem_filter.mp h).1).2
/-- the least of the last row is the least movement -/
theorem least_row {t : List Int} {f c r : Int} {ns : List Int} (h1 : ns ≠ []) (hp : ∀ n ∈ ns, playB t f c r n = true) {M m : Int} (hM : IsLeast t f c r ns M) (hm : m ∈ (rowAt t f c r ns.reverse).filter fun v => decide (0 ≤ v)) (hl : ∀ y ∈ (rowAt t f c r ns.reverse).filter fun v => decide (0 ≤ v), m ≤ y) : M = m := by
  have hM := hM.rev
  obtain ⟨n, rs, e⟩ : ∃ n rs, ns.reverse = n :: rs := by
    cases q : ns.reverse with
    | nil => exact absurd (List.reverse_eq_nil_iff.mp q) h1
    | cons n rs => exact ⟨n, rs, rfl⟩
  have hp' : ∀ x ∈ n :: rs, playB t f c r x = true := fun x hx => hp x (List.mem_reverse.mp (by rw [e]; exact hx))
  rw [e] at hM hm hl
  obtain ⟨m1, m2⟩ := List.mem_filter.mp hm
  have m2 : 0 ≤ m := by simpa using m2
  obtain ⟨q, hq⟩ := cand_nonneg (by rw [rowAt_len, posL_len]) m1 m2
  obtain ⟨hs, k1, k2⟩ := walk_ex rs n q m (fun x hx => hp' x (List.mem_cons_of_mem _ hx)) hq
  have a1 := hM.le _ k1
  obtain ⟨qs, b1, b2⟩ := hM.ex
  cases qs with
  | nil => have := b1.len; simp at this
  | cons q' qs =>
    obtain ⟨v, c1, c2⟩ := low_bound n rs q' qs b1
    have c3 := rowAt_nonneg _ q' v c1
    have := hl v (List.mem_filter.mpr ⟨cand_mem c1, by simpa using c3⟩)
    omega
section
variable {De : EndsD} (hpin : De.pin = true) {t : List Int} {f c : Int} (ok : OkNeck t f c) {ns : List Int} (okt : OkTune ns) {r : Int} (r0 : 0 ≤ r) (r6 : r ≤ 6) (hp : ∀ n ∈ ns, playB t f c r n = true) {v2 : Int}
include ok okt r0 r6 hp
theorem k08_in7 {x6 x7 x8 x9 x10 : Sl} (hn : De.nx [.un, .val (.dict []), .val (.int v2), .val (neckD t f c), .val (.list (ns.map .int)), .val (.int r), x6, x7, x8, x9, x10, .un, .un, .un]) :
    W_law_in_7 De [.un, .val (.dict []), .val (.int v2), .val (neckD t f c), .val (.list (ns.map .int)), .val (.int r), x6, x7, x8, x9, x10, .un, .un, .un] := by
  have hr : 0 ≤ r ∧ r ≤ 6 := ⟨r0, r6⟩
  simp [W_law_in_7, ok, okt, hr]
  refine ⟨fun n h q => absurd (hp n h) (by simp [q]), fun _ => ?_⟩
  exact ⟨t, f, c, ns, r, rfl, ok, okt, hp, by simpa using hn⟩
theorem k08_in5 {Fb : Hp} (hb : De.base Fb) {x6 x7 x9 : Sl} (h6 : x6 = .un ∨ ∃ d, x6 = .val d) (h7 : x7 = .un ∨ ∃ d, x7 = .val d) (h9 : x9 = .un ∨ ∃ d, x9 = .val d) {x10 : Sl} (h10 : x10 = .un ∨ ∃ d, x10 = .val d) (hn : ∀ x6 x7 x8 x9 : Sl, De.nx [.un, .val (.dict []), .val (.int v2), .val (neckD t f c), .val (.list (ns.map .int)), .val (.int r), x6, x7, x8, x9, .un, .un, .un, .un]) :
    W_law_in_5 De [.un, .val (.dict []), .val (.int v2), .fix false Fb (neckD t f c), .fix false Fb (.list (ns.map .int)), .val (.int r), x6, x7, .fix true Fb (.list (rowsD t f c r ns)), x9, x10, .un, .un, .un] := by
  have l30 := okt.l2
  have l1 := okt.l1
  have hpn := posN_le ok.f1 ok.c0
  have e : rowsD t f c r ns = (rowsRev t f c r ns.reverse).reverse.map intsL := rfl
  simp only [W_law_in_5, W_law_in_6, dSeq, dForApp, dRevO]
  refine ⟨Fb, (rowsRev t f c r ns.reverse).reverse, by rw [← e]; rfl, hb, ?_, by decide, by simp, ?_, ?_, fun l hl => ?_, fun rows' => ⟨_, rfl, ?_⟩⟩
  · have key : ∀ {x : Sl} {l : Sg}, (x = .un ∨ ∃ d, x = .val d) → allPin Fb l → allPin Fb (x :: l) := fun {x l} h k => by
      rcases h with rfl | ⟨d, rfl⟩ <;> exact k
    exact ⟨rfl, rfl, key (x := .val (.int r)) (.inr ⟨_, rfl⟩) (key h6 (key h7 ⟨rfl, key h9 (key h10 trivial)⟩))⟩
  · rw [List.length_reverse, rowsRev_len, List.length_reverse]; omega
  · rw [List.length_reverse, rowsRev_len, List.length_reverse]; omega
  · have := rows_each _ l (List.mem_reverse.mp hl)
    omega
  · simp only [unpin, unpin1, atomD_int, atomD_row, if_true, List.set_cons_succ, List.set_cons_zero]
    exact k08_in7 ok okt r0 r6 hp (hn _ _ _ _)
theorem k08_in3 {Fb : Hp} (hb : De.base Fb) {pl : List (Int × Int × Int)} (hpl : IsPlay t f c r ns pl) (hle : IsLeast t f c r ns (moveL (posOf pl))) {x6 x9 x10 : Sl} (h6 : x6 = .un ∨ ∃ d, x6 = .val d) (h10 : x10 = .un ∨ ∃ d, x10 = .val d) (hn : ∀ x6 x7 x8 x9 : Sl, De.nx [.un, .val (.dict []), .val (.int v2), .val (neckD t f c), .val (.list (ns.map .int)), .val (.int r), x6, x7, x8, x9, .un, .un, .un, .un]) :
    W_law_in_3 De [.un, .val (.dict []), .val (.int v2), .fix false Fb (neckD t f c), .fix false Fb (.list (ns.map .int)), .val (.int r), x6, .val (.tuple [.int (moveL (posOf pl)), .list (pl.map trD)]), .fix true Fb (.list (rowsD t f c r ns)), x9, x10, .un, .un, .un] := by
  have l30 := okt.l2
  have l1 := okt.l1
  have hpn := posN_le ok.f1 ok.c0
  have ne : ns ≠ [] := fun z => by rw [z] at l1; simp at l1
  have last : atI (rowsD t f c r ns) (-1) = some (rowD (rowAt t f c r ns.reverse)) := by
    have h := rows_at (t := t) (f := f) (c := c) (r := r) (ns := ns) (k := ns.length - 1) (by omega)
    rw [(by omega : ns.length - 1 + 1 = ns.length), List.take_length] at h
    have hl := rows_len (t := t) (f := f) (c := c) (r := r) (ns := ns)
    have ei : ixN (rowsD t f c r ns).length (-1) = some (ns.length - 1) := by
      rw [hl]
      unfold ixN
      simp
      omega
    unfold atI
    rw [ei]
    exact h
  simp [W_law_in_3, last, rowD]
  refine ⟨by rw [rowAt_len]; omega, lcRun_ints (fun v => decide (0 ≤ v)) (fun v => .int v) _ (fun v hv K k => ?_) ?_⟩
  · simp
    rcases Int.lt_or_le v 0 with z | z
    · exact .inl ⟨z, by simpa [Int.not_le.mpr z] using k⟩
    · exact .inr ⟨z, by simpa [z] using k⟩
  · have pos : 0 < ((rowAt t f c r ns.reverse).filter fun v => decide (0 ≤ v)).length := by
      cases q : ns.reverse with
      | nil => exact absurd (List.reverse_eq_nil_iff.mp q) ne
      | cons n rs =>
        obtain ⟨v, hv, h0⟩ := play_some (ns := rs) (hp n (List.mem_reverse.mp (by rw [q]; exact List.mem_cons_self)))
        exact List.length_pos_of_mem (List.mem_filter.mpr ⟨hv, by simpa using h0⟩)
    simp [pos]
    intro m hm1 hm0 hml
    simp [W_law_in_4]
    have em : moveL (posOf pl) = m := least_row ne hp hle (List.mem_filter.mpr ⟨hm1, by simpa using hm0⟩) fun y hy => hml y (List.mem_filter.mp hy).1 (by simpa using (List.mem_filter.mp hy).2)
    refine ⟨em, .int _, by rw [hpl.len]; omega, .inl ⟨em, ?_⟩⟩
    exact k08_in5 ok okt r0 r6 hp hb h6 (.inr ⟨_, rfl⟩) (.inr ⟨_, rfl⟩) h10 hn
include hpin
theorem k08_5 {x6 x7 x8 x9 x10 : Sl} (h6 : x6 = .un ∨ ∃ d, x6 = .val d) (h10 : x10 = .un ∨ ∃ d, x10 = .val d) (hn : ∀ x3 x4 x5 x6 x7 x8 x9 : Sl, De.nx [.un, .val (.dict []), .val (.int v2), x3, x4, x5, x6, x7, x8, x9, .un, .un, .un, .un]) :
    W_law_turn_5 De [.un, .val (.dict []), .val (.int v2), .val (neckD t f c), .val (.list (ns.map .int)), .val (.int r), x6, x7, x8, x9, x10, .un, .un, .un] := by
  have l30 := okt.l2
  have l1 := okt.l1
  have ne : ns ≠ [] := fun z => by rw [z] at l1; simp at l1
  have hr : 0 ≤ r ∧ r ≤ 6 := ⟨r0, r6⟩
  simp [W_law_turn_5, W_law_in_0, ne, ok, okt, hr]
  refine ⟨fun n h q => absurd (hp n h) (by simp [q]), fun _ pl hpl hle => ?_⟩
  refine ⟨hpin, fun Fb hb => ?_⟩
  simp [ok, okt, hr]
  refine ⟨fun n h q => absurd (hp n h) (by simp [q]), fun _ => ?_⟩
  simp [W_law_in_2]
  exact ⟨t, f, c, ns, r, rfl, ok, okt, hp, by
    simp
    exact ⟨ok, okt, hpl, k08_in3 ok okt r0 r6 hp hb hpl hle h6 h10 fun _ _ _ _ => hn _ _ _ _ _ _ _⟩⟩
end
section
variable {De : EndsD} (hpin : De.pin = true) {t : List Int} {f c : Int} (ok : OkNeck t f c) {ns : List Int} (okt : OkTune ns) {r : Int} (r0 : 0 ≤ r) (r6 : r ≤ 6) {v2 : Int}
include hpin ok okt r0 r6
theorem k08_4 {x7 x8 x9 x10 : Sl} (h10 : x10 = .un ∨ ∃ d, x10 = .val d) (hn : ∀ x3 x4 x5 x6 x7 x8 x9 x10 : Sl, (x10 = .un ∨ ∃ d, x10 = .val d) → De.nx [.un, .val (.dict []), .val (.int v2), x3, x4, x5, x6, x7, x8, x9, x10, .un, .un, .un]) :
    W_law_turn_4 De [.un, .val (.dict []), .val (.int v2), .val (neckD t f c), .val (.list (ns.map .int)), .val (.int r), .val (.list ((posL f c).map .int)), x7, x8, x9, x10, .un, .un, .un] := by
  have l30 := okt.l2
  have l6 := ok.l2
  have c0 := ok.c0
  have f1 := ok.f1
  have hpn := posN_le f1 c0
  simp [W_law_turn_4]
  refine ⟨by omega, lcRun_ints (fun n => playB t f c r n) (fun n => .int n) ns (fun n hm K k => ?_) ?_⟩
  · simp
    refine ⟨by rw [posL_len]; omega, lcRun_ints (fun p => canB t f c n r p) (fun p => .int p) _ (fun p hp K2 k2 => ?_) ?_⟩
    · simp [l6]
      cases z : canB t f c n r p with
      | true => simpa [z] using k2
      | false => simpa [z] using k2
    · have e : (((posL f c).filter fun p => canB t f c n r p).map fun p => PyData.int p).isEmpty = !playB t f c r n := by
        unfold playB
        rw [Bool.eq_iff_iff, List.isEmpty_iff, List.map_eq_nil_iff, List.filter_eq_nil_iff, Bool.not_eq_true', List.any_eq_false]
      refine ⟨shaped_intsL, ?_⟩
      cases z : playB t f c r n with
      | true =>
        rw [z] at e k
        exact .inr ⟨fun q => (by rw [q] at e; cases e), by simpa using k⟩
      | false =>
        rw [z] at e k
        exact .inl ⟨List.isEmpty_iff.mp e, by simpa using k⟩
  · have e : ((ns.filter fun n => playB t f c r n).map fun n => PyData.int n) = (ns.filter fun n => playB t f c r n).map .int := rfl
    rw [e]
    cases q : (ns.filter fun n => playB t f c r n).isEmpty with
    | true =>
      rw [List.isEmpty_iff.mp q]
      simp [W_law_turn_5]
      exact hn _ _ _ _ _ _ _ _ h10
    | false =>
      have h1 := List.length_filter_le (fun n => playB t f c r n) ns
      have h2 : 0 < (ns.filter fun n => playB t f c r n).length := List.length_pos_iff.mpr fun z => by rw [z] at q; cases q
      have okt' : OkTune (ns.filter fun n => playB t f c r n) := ⟨h2, by omega, fun x hx => okt.n x (List.mem_filter.mp hx).1⟩
      exact k08_5 hpin ok okt' r0 r6 (fun n hn => (List.mem_filter.mp hn).2) (.inr ⟨_, rfl⟩) h10 fun _ _ _ _ _ _ _ => hn _ _ _ _ _ _ _ _ (.inl rfl)
end
theorem rng_ints (n : Nat) : ∀ d ∈ rngD 0 n, ∃ i : Int, d = .int i := fun d hd => by
  unfold rngD at hd
  obtain ⟨k, _, rfl⟩ := List.mem_map.mp hd
  exact ⟨_, rfl⟩
theorem pure_law (B : Hp → Prop) : W_law { nx := fun _ => False, rt := fun d => d = .bool true, base := B, pin := true } (.un :: .val (.dict []) :: List.replicate 12 .un) := by
  simp [W_law]
  refine forRunR_go (fun ds e => (∀ d ∈ ds, ∃ i : Int, d = .int i) ∧ ∃ x2 x3 x4 x5 x6 x7 x8 x9 x10 : Sl, (x10 = .un ∨ ∃ d, x10 = .val d) ∧ e = [.un, .val (.dict []), x2, x3, x4, x5, x6, x7, x8, x9, x10, .un, .un, .un]) ?_ ?_ _ _ ⟨rng_ints 3, _, _, _, _, _, _, _, _, _, .inl rfl, rfl⟩
  · rintro d ds e N ⟨hds, x2, x3, x4, x5, x6, x7, x8, x9, x10, h10, rfl⟩ k
    obtain ⟨v2, rfl⟩ := hds d List.mem_cons_self
    have hn : ∀ x3 x4 x5 x6 x7 x8 x9 x10 : Sl, (x10 = .un ∨ ∃ d, x10 = .val d) → N [.un, .val (.dict []), .val (.int v2), x3, x4, x5, x6, x7, x8, x9, x10, .un, .un, .un] := fun x3 x4 x5 x6 x7 x8 x9 x10 h => k _ ⟨fun d hd => hds d (List.mem_cons_of_mem _ hd), _, _, _, _, _, _, _, _, _, h, rfl⟩
    simp [W_law_turn_0]
    intro t f c ok hlen
    simp [W_law_turn_1]
    refine ⟨ok, fun ns okt _ => ?_⟩
    simp [W_law_turn_2]
    intro v v0 v1 i i0 i1
    obtain ⟨r, e, hr⟩ := atI_in (l := [PyData.int 3, PyData.int 0, PyData.int 1, PyData.int v]) i0 (by simpa using i1)
    obtain ⟨r', rfl, hr0, hr6⟩ : ∃ r' : Int, r = .int r' ∧ 0 ≤ r' ∧ r' ≤ 6 := by
      simp at hr
      rcases hr with rfl | rfl | rfl | rfl
      · exact ⟨3, rfl, by decide, by decide⟩
      · exact ⟨0, rfl, by decide, by decide⟩
      · exact ⟨1, rfl, by decide, by decide⟩
      · exact ⟨v, rfl, v0, by omega⟩
    refine ⟨_, e, ?_⟩
    simp [W_law_turn_3, ok.c0, ok.c1, ok.f1]
    exact k08_4 rfl ok okt hr0 hr6 h10 hn
  · rintro e ⟨_, x2, x3, x4, x5, x6, x7, x8, x9, x10, h10, rfl⟩
    simp
section
variable {P : Program} {w : World} {g : Glb} {mg : Str → Option Value} {base : Heap}
theorem ok_law {f : Addr} {fd : FuncData} (F : FunP g.K "law" s_law f fd) (T : Txt mg) (C_law_neck : C8.Cal P w g.K mg base 2 "_law_neck" (spD g f_law_neck) []) (C_law_tune : C8.Cal P w g.K mg base 2 "_law_tune" (spD g f_law_tune) []) (C_law_positions : C8.Cal P w g.K mg base 1 "_law_positions" (spD g f_law_positions) []) (C_law_taken : C8.Cal P w g.K mg base 1 "_law_taken" (spD g f_law_taken) []) (C_played : C8.Cal P w g.K mg base 7 "played" (spD g f_played) []) (C_table : C8.Cal P w g.K mg base 6 "table" (spF g f_table) []) (C_law_shows : C8.Cal P w g.K mg base 3 "_law_shows" (spD g f_law_shows) []) (C_law_is_playing : C8.Cal P w g.K mg base 2 "_law_is_playing" (spD g f_law_is_playing) []) (C_law_alike : C8.Cal P w g.K mg base 4 "_law_alike" (spD g f_law_alike) []) (C_law_moved : C8.Cal P w g.K mg base 1 "_law_moved" (spD g f_law_moved) []) (C_law_can : C8.Cal P w g.K mg base 2 "_law_can" (spD g f_law_can) []) : FnOk P w g.K mg base CX0 8 f fd ["_law_script"] (spLaw g) := by
  refine F.ok (k := 7) sc_law (fun vs H Q E h => ?_) (fun cdv A outer s H vs Q E hr h => ?_)
  · obtain ⟨a, ns, rfl, _⟩ := h
    rfl
  · obtain ⟨a, ns, rfl, hP, hs, k⟩ := h
    refine ⟨_, PSs.nox (pss_cons (ps_set (i := 1) sc_law.nd rfl (.inl rfl) (pe_lst (pa_cons (pv 0) (pa_cons pe_int (pa_cons pe_int (pa_cons pe_int pa_nil)))))) (pss_any (g := g) (E := E) (w := W_law) fun r a ns =>
      (pssd_cons (ps_w (ps_for (g := gName 2) PassesOwn.never rfl (pi_w (pi_range1 (by rfl) T.m_range (pa_w (pa_cons (pe_w pe_int (xd_c fun _ => .int)) (pa_w pa_nil xa_nil)) xa_cons)) xi_rng1R) (pg_name (i := 2) sc_law.nd rfl (.inl rfl)) (pssd_cons (ps_w (ps_set (i := 3) sc_law.nd rfl (.inr rfl) (pe_w (C8.pe_c C_law_neck hr (by decide) (by rfl) (pa_w (pa_cons (pe_w (pv 1) xd_var) (pa_w (pa_cons (pe_w pe_int (xd_c fun _ => .int)) (pa_w pa_nil xa_nil)) xa_cons)) xa_cons)) xd_call)) xs_asg) (pssd_cons (ps_w (ps_set (i := 4) sc_law.nd rfl (.inl rfl) (pe_w (C8.pe_c C_law_tune hr (by decide) (by rfl) (pa_w (pa_cons (pe_w (pv 1) xd_var) (pa_w (pa_cons (pe_w (pv 3) xd_var) (pa_w (pa_cons (pe_w pe_int (xd_c fun _ => .int)) (pa_w pa_nil xa_nil)) xa_cons)) xa_cons)) xa_cons)) xd_call)) xs_asg) (pssd_cons (ps_w (ps_set (i := 5) sc_law.nd rfl (.inr rfl) (pe_w (pe_ix ix_lt (pe_w (pe_lst (pa_w (pa_cons (pe_w pe_int (xd_c fun _ => .int)) (pa_w (pa_cons (pe_w pe_int (xd_c fun _ => .int)) (pa_w (pa_cons (pe_w pe_int (xd_c fun _ => .int)) (pa_w (pa_cons (pe_w (C8.pe_c C_law_taken hr (by decide) (by rfl) (pa_w (pa_cons (pe_w (pv 1) xd_var) (pa_w (pa_cons (pe_w pe_int (xd_c fun _ => .int)) (pa_w pa_nil xa_nil)) xa_cons)) xa_cons)) xd_call) (pa_w pa_nil xa_nil)) xa_cons)) xa_cons)) xa_cons)) xa_cons)) xd_lst) (pe_w (C8.pe_c C_law_taken hr (by decide) (by rfl) (pa_w (pa_cons (pe_w (pv 1) xd_var) (pa_w (pa_cons (pe_w pe_int (xd_c fun _ => .int)) (pa_w pa_nil xa_nil)) xa_cons)) xa_cons)) xd_call) (fun _ _ => rfl)) (xd_op od_ixL))) xs_asg) (pssd_cons (ps_w (ps_set (i := 6) sc_law.nd rfl (.inr rfl) (pe_w (C8.pe_c C_law_positions hr (by decide) (by rfl) (pa_w (pa_cons (pe_w (pv 3) xd_var) (pa_w pa_nil xa_nil)) xa_cons)) xd_call)) xs_asg) (pssd_cons (ps_w (ps_setLc (i := 4) (own := [("_law_note", 11)]) (g := gName 11) rfl sc_law.nd rfl rfl (sw_true rfl rfl rfl (by decide +kernel)) (pi_w (pi_list (pe_w (pv 4) xd_var)) xi_list) (blkOk_by (own := [("_law_note", 11)]) (N := ["_law_script", "_law_row", "_law_turn", "_law_neck_here", "_law_tune_here", "_law_reach", "_law_some", "_law_told", "_law_found", "_law_least", "_law_line", "_law_note", "_law_number", "_law_one"]) (sc := (defScope s_law)) (by decide +kernel)) (fun _ _ _ _ _ => (pg_name (i := 11) sc_law.nd rfl (.inr rfl))) (fun _ _ _ _ _ => (pts_one (pt_w (pt_cmpR (op_neD hr.units) (pe_w (pe_w (pe_lc (own := [("_law_one", 13)]) (g := gName 13) rfl sc_law.nd (pi_w (pi_list (pe_w (pv 6) xd_var)) xi_list) (blkOk_by (own := [("_law_one", 13)]) (N := ["_law_script", "_law_row", "_law_turn", "_law_neck_here", "_law_tune_here", "_law_reach", "_law_some", "_law_told", "_law_found", "_law_least", "_law_line", "_law_note", "_law_number", "_law_one"]) (sc := (relS ({ kind := .function, names := [(".0", .local), ("_law_note", .cell), ("_law_neck_here", .free), ("_law_reach", .free), ("_law_some", .free)], isGenerator := false, isCoroutine := false } : Scope) (defScope s_law))) (by decide +kernel)) (fun _ _ _ _ _ => (pg_name (i := 13) sc_law.nd rfl (.inl rfl))) (fun _ _ _ _ _ => (pts_one (pt_w (pt_truth (pe_w (C8.pe_c C_law_can hr (by decide) (by rfl) (pa_w (pa_cons (pe_w (pv 3) xd_var) (pa_w (pa_cons (pe_w (pv 11) xd_var) (pa_w (pa_cons (pe_w (pv 5) xd_var) (pa_w (pa_cons (pe_w (pv 13) xd_var) (pa_w pa_nil xa_nil)) xa_cons)) xa_cons)) xa_cons)) xa_cons)) xd_call) (by intro _; rfl)) xt_tru))) (fun _ _ _ _ _ => (pe_w (pv 13) xd_var))) (xn_lc gd_name stores_name)) xd_N) (pe_w (pe_lst (pa_w pa_nil xa_nil)) xd_lst) (nomark _)) (xt_cmp od_ne)))) (fun _ _ _ _ _ => (pe_w (pv 11) xd_var))) (xs_asgLc gd_name stores_name)) (pssd_one (ps_w (ps_if (pt_w (pt_cmpR (op_neD hr.units) (pe_w (pv 4) xd_var) (pe_w (pe_lst (pa_w pa_nil xa_nil)) xd_lst) (nomark _)) (xt_cmp od_ne)) (pssd_cons (ps_w (ps_set (i := 7) sc_law.nd rfl (.inl rfl) (pe_w (C8.pe_c C_played hr (by decide) (by rfl) (pa_w (pa_cons (pe_w (pv 3) xd_var) (pa_w (pa_cons (pe_w (pv 4) xd_var) (pa_w (pa_cons (pe_w (pv 5) xd_var) (pa_w pa_nil xa_nil)) xa_cons)) xa_cons)) xa_cons)) xd_call)) xs_asg) (pss_w (pssd_cons (ps_w (ps_set (i := 8) sc_law.nd rfl (.inl rfl) (C8.pe_c C_table hr (by decide) (by rfl) (pa_w (pa_cons (pe_w (pv 3) xd_var) (pa_w (pa_cons (pe_w (pv 4) xd_var) (pa_w (pa_cons (pe_w (pv 5) xd_var) (pa_w pa_nil xa_nil)) xa_cons)) xa_cons)) xa_cons))) xs_asgF) (pssd_cons (ps_w (ps_if (PW.pt (pw_w (pw_or (pt_w (pt_not (pt_w (pt_truth (pe_w (C8.pe_c C_law_shows hr (by decide) (by rfl) (pa_w (pa_cons (pe_w (pv 3) xd_var) (pa_w (pa_cons (pe_w (pv 4) xd_var) (pa_w (pa_cons (pe_w (pv 5) xd_var) (pa_w (pa_cons (pe_w (pv 8) xd_var) (pa_w pa_nil xa_nil)) xa_cons)) xa_cons)) xa_cons)) xa_cons)) xd_call) (by intro _; rfl)) xt_tru)) xt_not) (pw_or1 (pt_w (pt_not (pt_w (pt_truth (pe_w (C8.pe_c C_law_is_playing hr (by decide) (by rfl) (pa_w (pa_cons (pe_w (pv 3) xd_var) (pa_w (pa_cons (pe_w (pv 4) xd_var) (pa_w (pa_cons (pe_w (pv 5) xd_var) (pa_w (pa_cons (pe_w (pe_ix ix_lt (pe_w (pv 7) xd_var) (pe_w pe_int (xd_c fun _ => .int)) (fun _ _ => rfl)) (xd_op od_ixL)) (pa_w pa_nil xa_nil)) xa_cons)) xa_cons)) xa_cons)) xa_cons)) xd_call) (by intro _; rfl)) xt_tru)) xt_not))) xt_or)) (pssd_one (ps_w (ps_ret (pe_w pe_bl (xd_c fun _ => .bl))) xs_ret)) pssd_nil) xs_if) (pssd_cons (ps_w (ps_set (i := 9) sc_law.nd rfl (.inl rfl) (pe_w (pe_callB (cr_min (by rfl)) (by rfl) T.m_min (by decide +kernel) (pa_w (pa_cons (pe_w (pe_w (pe_lc (own := [("_law_number", 12)]) (g := gName 12) rfl sc_law.nd (pi_w (pi_list (pe_w (pe_ix ix_lt (pe_w (pv 8) xd_var) (pe_w (pe_un un_neg (pe_w pe_int (xd_c fun _ => .int))) xd_neg) (fun _ _ => rfl)) (xd_op od_ixL))) xi_list) (blkOk_by (own := [("_law_number", 12)]) (N := ["_law_script", "_law_row", "_law_turn", "_law_neck_here", "_law_tune_here", "_law_reach", "_law_some", "_law_told", "_law_found", "_law_least", "_law_line", "_law_note", "_law_number", "_law_one"]) (sc := (defScope s_law)) (by decide +kernel)) (fun _ _ _ _ _ => (pg_name (i := 12) sc_law.nd rfl (.inl rfl))) (fun _ _ _ _ _ => (pts_one (pt_w (pt_cmpR op_ge (pe_w (pv 12) xd_var) (pe_w pe_int (xd_c fun _ => .int)) (nomark _)) (xt_cmp od_ge)))) (fun _ _ _ _ _ => (pe_w (pv 12) xd_var))) (xn_lc gd_name stores_name)) xd_N) (pa_w pa_nil xa_nil)) xa_cons)) (xd_cb cd_minL))) xs_asg) (pssd_cons (ps_w (ps_if (PW.pt (pw_w (pw_or (pt_w (pt_not (pt_w (pt_truth (pe_w (C8.pe_c C_law_alike hr (by decide) (by rfl) (pa_w (pa_cons (pe_w (pe_ix ix_lt (pe_w (pv 7) xd_var) (pe_w pe_int (xd_c fun _ => .int)) (fun _ _ => rfl)) (xd_op od_ixL)) (pa_w (pa_cons (pe_w (pv 9) xd_var) (pa_w pa_nil xa_nil)) xa_cons)) xa_cons)) xd_call) (by intro _; rfl)) xt_tru)) xt_not) (pw_or1 (pt_w (pt_cmpR (op_neD hr.units) (pe_w (C8.pe_c C_law_moved hr (by decide) (by rfl) (pa_w (pa_cons (pe_w (pe_ix ix_lt (pe_w (pv 7) xd_var) (pe_w pe_int (xd_c fun _ => .int)) (fun _ _ => rfl)) (xd_op od_ixL)) (pa_w pa_nil xa_nil)) xa_cons)) xd_call) (pe_w (pv 9) xd_var) (nomark _)) (xt_cmp od_ne)))) xt_or)) (pssd_one (ps_w (ps_ret (pe_w pe_bl (xd_c fun _ => .bl))) xs_ret)) pssd_nil) xs_if) (pssd_cons (ps_w (ps_for (g := gName 10) PassesOwn.never rfl (pi_list (pv 8)) (pg_name (i := 10) sc_law.nd rfl (.inl rfl)) (pss_one (ps_expr (pe_bm PySem.F.plainAttrs_list PySem.F.slot_list_append PySem.F.type_list_append mt_append (pv 10) (pa_cons pe_int pa_nil))))) xs_forApp) (pssd_cons (ps_w (ps_expr (pe_bm0 PySem.F.plainAttrs_list PySem.F.slot_list_reverse PySem.F.type_list_reverse mt_reverse (pv 8))) xs_revO) (pssd_one (ps_w (ps_if (pt_w (pt_not (pt_w (pt_truth (pe_w (C8.pe_c C_law_shows hr (by decide) (by rfl) (pa_w (pa_cons (pe_w (pv 3) xd_var) (pa_w (pa_cons (pe_w (pv 4) xd_var) (pa_w (pa_cons (pe_w (pv 5) xd_var) (pa_w (pa_cons (pe_w (C8.pe_c C_table hr (by decide) (by rfl) (pa_w (pa_cons (pe_w (pv 3) xd_var) (pa_w (pa_cons (pe_w (pv 4) xd_var) (pa_w (pa_cons (pe_w (pv 5) xd_var) (pa_w pa_nil xa_nil)) xa_cons)) xa_cons)) xa_cons)) xd_callF) (pa_w pa_nil xa_nil)) xa_cons)) xa_cons)) xa_cons)) xa_cons)) xd_call) (by intro _; rfl)) xt_tru)) xt_not) (pssd_one (ps_w (ps_ret (pe_w pe_bl (xd_c fun _ => .bl))) xs_ret)) pssd_nil) xs_if)))))))) xs_pin)) pssd_nil) xs_if)))))))) (xs_forR gd_name)) (pssd_one (ps_w (ps_ret (pe_w pe_bl (xd_c fun _ => .bl))) xs_ret))))), ?_⟩
    exact ⟨_, rfl, len_le (by show 4 ≤ 1000000; decide), law_startB (n := 12) hP hs k pure_law⟩
end

end FW
namespace FW
open PySem PySem.Spec PyProof.Rows L2
def d_all_within : He.DefD := ⟨("all_within", none), "all_within", "all_within", defArgs s_all_within, defBody s_all_within, defScope s_all_within, [], []⟩
def d_is_place : He.DefD := ⟨("is_place", none), "is_place", "is_place", defArgs s_is_place, defBody s_is_place, defScope s_is_place, [], []⟩
def d_check_neck : He.DefD := ⟨("check_neck", none), "check_neck", "check_neck", defArgs s_check_neck, defBody s_check_neck, defScope s_check_neck, [], []⟩
def d_check_reach : He.DefD := ⟨("check_reach", none), "check_reach", "check_reach", defArgs s_check_reach, defBody s_check_reach, defScope s_check_reach, [], []⟩
def d_check_tune : He.DefD := ⟨("check_tune", none), "check_tune", "check_tune", defArgs s_check_tune, defBody s_check_tune, defScope s_check_tune, [], []⟩
def d_places : He.DefD := ⟨("places", none), "places", "places", defArgs s_places, defBody s_places, defScope s_places, [], []⟩
def d_played : He.DefD := ⟨("played", none), "played", "played", defArgs s_played, defBody s_played, defScope s_played, [], []⟩
def d_table : He.DefD := ⟨("table", none), "table", "table", defArgs s_table, defBody s_table, defScope s_table, [], []⟩
def d_movement : He.DefD := ⟨("movement", none), "movement", "movement", defArgs s_movement, defBody s_movement, defScope s_movement, [], []⟩
def d_positions : He.DefD := ⟨("_positions", none), "_positions", "_positions", defArgs s_positions, defBody s_positions, defScope s_positions, [], []⟩
def d_place_from : He.DefD := ⟨("_place_from", none), "_place_from", "_place_from", defArgs s_place_from, defBody s_place_from, defScope s_place_from, [], []⟩
def d_next_row : He.DefD := ⟨("_next_row", none), "_next_row", "_next_row", defArgs s_next_row, defBody s_next_row, defScope s_next_row, [], []⟩
def d_arrival : He.DefD := ⟨("_arrival", none), "_arrival", "_arrival", defArgs s_arrival, defBody s_arrival, defScope s_arrival, [], []⟩
def d_walk : He.DefD := ⟨("_walk", none), "_walk", "_walk", defArgs s_walk, defBody s_walk, defScope s_walk, [], []⟩
def d_law_taken : He.DefD := ⟨("_law_taken", none), "_law_taken", "_law_taken", defArgs s_law_taken, defBody s_law_taken, defScope s_law_taken, [], []⟩
def d_law_alike : He.DefD := ⟨("_law_alike", none), "_law_alike", "_law_alike", defArgs s_law_alike, defBody s_law_alike, defScope s_law_alike, [], []⟩
def d_law_neck : He.DefD := ⟨("_law_neck", none), "_law_neck", "_law_neck", defArgs s_law_neck, defBody s_law_neck, defScope s_law_neck, [], []⟩
def d_law_places : He.DefD := ⟨("_law_places", none), "_law_places", "_law_places", defArgs s_law_places, defBody s_law_places, defScope s_law_places, [], []⟩
def d_law_shape : He.DefD := ⟨("_law_shape", none), "_law_shape", "_law_shape", defArgs s_law_shape, defBody s_law_shape, defScope s_law_shape, [], []⟩
def d_law_hand : He.DefD := ⟨("_law_hand", none), "_law_hand", "_law_hand", defArgs s_law_hand, defBody s_law_hand, defScope s_law_hand, [], []⟩
def d_law_sounds : He.DefD := ⟨("_law_sounds", none), "_law_sounds", "_law_sounds", defArgs s_law_sounds, defBody s_law_sounds, defScope s_law_sounds, [], []⟩
def d_law_positions : He.DefD := ⟨("_law_positions", none), "_law_positions", "_law_positions", defArgs s_law_positions, defBody s_law_positions, defScope s_law_positions, [], []⟩
def d_law_plays : He.DefD := ⟨("_law_plays", none), "_law_plays", "_law_plays", defArgs s_law_plays, defBody s_law_plays, defScope s_law_plays, [], []⟩
def d_law_can : He.DefD := ⟨("_law_can", none), "_law_can", "_law_can", defArgs s_law_can, defBody s_law_can, defScope s_law_can, [], []⟩
def d_law_tune : He.DefD := ⟨("_law_tune", none), "_law_tune", "_law_tune", defArgs s_law_tune, defBody s_law_tune, defScope s_law_tune, [], []⟩
def d_law_is_playing : He.DefD := ⟨("_law_is_playing", none), "_law_is_playing", "_law_is_playing", defArgs s_law_is_playing, defBody s_law_is_playing, defScope s_law_is_playing, [], []⟩
def d_law_moved : He.DefD := ⟨("_law_moved", none), "_law_moved", "_law_moved", defArgs s_law_moved, defBody s_law_moved, defScope s_law_moved, [], []⟩
def d_law_is_number : He.DefD := ⟨("_law_is_number", none), "_law_is_number", "_law_is_number", defArgs s_law_is_number, defBody s_law_is_number, defScope s_law_is_number, [], []⟩
def d_law_shows : He.DefD := ⟨("_law_shows", none), "_law_shows", "_law_shows", defArgs s_law_shows, defBody s_law_shows, defScope s_law_shows, [], []⟩
def d_law : He.DefD := ⟨("law", none), "law", "law", defArgs s_law, defBody s_law, defScope s_law, [], []⟩
def fnL : List He.DefD := d_all_within :: d_is_place :: d_check_neck :: d_check_reach :: d_check_tune :: d_places :: d_played :: d_table :: d_movement :: d_positions :: d_place_from :: d_next_row :: d_arrival :: d_walk :: d_law_taken :: d_law_alike :: d_law_neck :: d_law_places :: d_law_shape :: d_law_hand :: d_law_sounds :: d_law_positions :: d_law_plays :: d_law_can :: d_law_tune :: d_law_is_playing :: d_law_moved :: d_law_is_number :: d_law_shows :: d_law :: []
def faL : List He.Fa := (.glo "all_within") :: (.glo "is_place") :: (.glo "check_neck") :: (.glo "check_reach") :: (.glo "check_tune") :: (.glo "places") :: (.glo "played") :: (.glo "table") :: (.glo "movement") :: (.glo "_positions") :: (.glo "_place_from") :: (.glo "_next_row") :: (.glo "_arrival") :: (.glo "_walk") :: (.glo "_law_taken") :: (.glo "_law_alike") :: (.glo "_law_neck") :: (.glo "_law_places") :: (.glo "_law_shape") :: (.glo "_law_hand") :: (.glo "_law_sounds") :: (.glo "_law_positions") :: (.glo "_law_plays") :: (.glo "_law_can") :: (.glo "_law_tune") :: (.glo "_law_is_playing") :: (.glo "_law_moved") :: (.glo "_law_is_number") :: (.glo "_law_shows") :: (.glo "law") :: (.glo "NeckError") :: (.glo "BadNeck") :: (.glo "BadHand") :: (.glo "BadTune") :: (.free "all") :: (.free "len") :: (.free "range") :: (.free "tuple") :: (.free "list") :: (.free "zip") :: (.free "enumerate") :: (.free "min") :: (.free "max") :: (.free "isinstance") :: (.free "int") :: (.free "str") :: (.free "bool") :: (.free "sum") :: (.free "abs") :: (.free "reversed") :: (.free "ValueError") :: (.int "MOST_STRINGS" (6)) :: (.int "HIGHEST_TUNING" (60)) :: (.int "MOST_FRETS" (20)) :: (.int "MOST_OF_HAND" (6)) :: (.int "HIGHEST_NOTE" (80)) :: (.int "LONGEST_TUNE" (30)) :: (.int "CANNOT" (-1)) :: []
def tfL : List He.Defn := [("all_within", none)]
def exL : PySem.W.Frag → Bool := fun _ => true
abbrev R : PySem.W.OpenRow := PySem.W.OpenLaw.row PySem.Challenge.rw_fretways_k08_whole_no_less_movement
abbrev hk : PySem.W.Hook := He.hookX 4 faL fnL [] tfL exL
def ob (s : PySem.W.SharedT) : He.AlX := He.obsX 4 faL fnL [] tfL exL (HandSHeadRun.getT s)
theorem ob_eq (s : PySem.W.SharedT) : ob s = hk.obs s.abs := He.obsX_eq (HandSHeadRun.getT_eq s)
def looseL : List PySem.Str := ("NeckError" : PySem.Str) :: ("BadNeck" : PySem.Str) :: ("BadHand" : PySem.Str) :: ("BadTune" : PySem.Str) :: ("MOST_STRINGS" : PySem.Str) :: ("HIGHEST_TUNING" : PySem.Str) :: ("MOST_FRETS" : PySem.Str) :: ("MOST_OF_HAND" : PySem.Str) :: ("HIGHEST_NOTE" : PySem.Str) :: ("LONGEST_TUNE" : PySem.Str) :: ("all_within" : PySem.Str) :: ("is_place" : PySem.Str) :: ("check_neck" : PySem.Str) :: ("check_reach" : PySem.Str) :: ("check_tune" : PySem.Str) :: ("places" : PySem.Str) :: ("CANNOT" : PySem.Str) :: ("played" : PySem.Str) :: ("table" : PySem.Str) :: ("movement" : PySem.Str) :: ("_positions" : PySem.Str) :: ("_place_from" : PySem.Str) :: ("_next_row" : PySem.Str) :: ("_arrival" : PySem.Str) :: ("_walk" : PySem.Str) :: ("_law_taken" : PySem.Str) :: ("_law_alike" : PySem.Str) :: ("_law_neck" : PySem.Str) :: ("_law_places" : PySem.Str) :: ("_law_shape" : PySem.Str) :: ("_law_hand" : PySem.Str) :: ("_law_sounds" : PySem.Str) :: ("_law_positions" : PySem.Str) :: ("_law_plays" : PySem.Str) :: ("_law_can" : PySem.Str) :: ("_law_tune" : PySem.Str) :: ("_law_is_playing" : PySem.Str) :: ("_law_moved" : PySem.Str) :: ("_law_is_number" : PySem.Str) :: ("_law_shows" : PySem.Str) :: []
theorem run (w : World) : HandSHeadRun.RunEq R (PySem.W.view R.prog [45]) hk ob 4000 looseL w := by
  intro os
  kernel_rfl
section
variable {P : Program} {w : World} {K : PySem.W.Frag} {h : Heap} {mg : Str → Option Value}
theorem txt_ok (X : K.In h) (G : h.Ns mainGlobals mg) (c : He.SaysD faL fnL K) : Txt mg :=
  ⟨He.free_ok X G (He.SaysD.fact (f := .free "all") c 34 (by rfl)), He.free_ok X G (He.SaysD.fact (f := .free "len") c 35 (by rfl)), He.free_ok X G (He.SaysD.fact (f := .free "range") c 36 (by rfl)), He.free_ok X G (He.SaysD.fact (f := .free "tuple") c 37 (by rfl)), He.free_ok X G (He.SaysD.fact (f := .free "list") c 38 (by rfl)), He.free_ok X G (He.SaysD.fact (f := .free "zip") c 39 (by rfl)), He.free_ok X G (He.SaysD.fact (f := .free "enumerate") c 40 (by rfl)), He.free_ok X G (He.SaysD.fact (f := .free "min") c 41 (by rfl)), He.free_ok X G (He.SaysD.fact (f := .free "max") c 42 (by rfl)), He.free_ok X G (He.SaysD.fact (f := .free "isinstance") c 43 (by rfl)), He.free_ok X G (He.SaysD.fact (f := .free "int") c 44 (by rfl)), He.free_ok X G (He.SaysD.fact (f := .free "str") c 45 (by rfl)), He.free_ok X G (He.SaysD.fact (f := .free "bool") c 46 (by rfl)), He.free_ok X G (He.SaysD.fact (f := .free "sum") c 47 (by rfl)), He.free_ok X G (He.SaysD.fact (f := .free "abs") c 48 (by rfl)), He.free_ok X G (He.SaysD.fact (f := .free "reversed") c 49 (by rfl)), He.free_ok X G (He.SaysD.fact (f := .free "ValueError") c 50 (by rfl)), He.int_ok X G (He.SaysD.fact (f := .int "MOST_STRINGS" (6)) c 51 (by rfl)), He.int_ok X G (He.SaysD.fact (f := .int "HIGHEST_TUNING" (60)) c 52 (by rfl)), He.int_ok X G (He.SaysD.fact (f := .int "MOST_FRETS" (20)) c 53 (by rfl)), He.int_ok X G (He.SaysD.fact (f := .int "MOST_OF_HAND" (6)) c 54 (by rfl)), He.int_ok X G (He.SaysD.fact (f := .int "HIGHEST_NOTE" (80)) c 55 (by rfl)), He.int_ok X G (He.SaysD.fact (f := .int "LONGEST_TUNE" (30)) c 56 (by rfl)), He.int_ok X G (He.SaysD.fact (f := .int "CANNOT" (-1)) c 57 (by rfl)), trivial⟩
def cs (K : PySem.W.Frag) : List (Addr × Addr) := tfL.map (He.cT K)
def glb (K : PySem.W.Frag) : Glb := ⟨K, (cs K).map (·.2), He.ga K⟩
theorem law_at (X : K.In h) (G : h.Ns mainGlobals mg) {fa : Addr} (hfa : mg ("law" : Str) = some (.ref fa)) (c : He.SaysX faL fnL [] tfL exL w h K) : LamX.LawAtS PySem.Challenge.rw_fretways_k08_whole_no_less_movement w K CX0 8 63 "_law_script" mg fa h := by
  have cd := c.t.d
  have e := hfa.symm.trans (He.glo_ok X G (He.SaysD.fact (f := .glo "law") cd 29 (by rfl)))
  cases e
  have T := txt_ok X G cd
  obtain ⟨fd_all_within, F_all_within⟩ := cd.defs (d := d_all_within) (by simp only [fnL, List.mem_cons, true_or, or_true])
  obtain ⟨fd_is_place, F_is_place⟩ := cd.defs (d := d_is_place) (by simp only [fnL, List.mem_cons, true_or, or_true])
  obtain ⟨fd_check_neck, F_check_neck⟩ := cd.defs (d := d_check_neck) (by simp only [fnL, List.mem_cons, true_or, or_true])
  obtain ⟨fd_check_tune, F_check_tune⟩ := cd.defs (d := d_check_tune) (by simp only [fnL, List.mem_cons, true_or, or_true])
  obtain ⟨fd_check_reach, F_check_reach⟩ := cd.defs (d := d_check_reach) (by simp only [fnL, List.mem_cons, true_or, or_true])
  obtain ⟨fd_places, F_places⟩ := cd.defs (d := d_places) (by simp only [fnL, List.mem_cons, true_or, or_true])
  obtain ⟨fd_positions, F_positions⟩ := cd.defs (d := d_positions) (by simp only [fnL, List.mem_cons, true_or, or_true])
  obtain ⟨fd_place_from, F_place_from⟩ := cd.defs (d := d_place_from) (by simp only [fnL, List.mem_cons, true_or, or_true])
  obtain ⟨fd_arrival, F_arrival⟩ := cd.defs (d := d_arrival) (by simp only [fnL, List.mem_cons, true_or, or_true])
  obtain ⟨fd_next_row, F_next_row⟩ := cd.defs (d := d_next_row) (by simp only [fnL, List.mem_cons, true_or, or_true])
  obtain ⟨fd_table, F_table⟩ := cd.defs (d := d_table) (by simp only [fnL, List.mem_cons, true_or, or_true])
  obtain ⟨fd_walk, F_walk⟩ := cd.defs (d := d_walk) (by simp only [fnL, List.mem_cons, true_or, or_true])
  obtain ⟨fd_movement, F_movement⟩ := cd.defs (d := d_movement) (by simp only [fnL, List.mem_cons, true_or, or_true])
  obtain ⟨fd_played, F_played⟩ := cd.defs (d := d_played) (by simp only [fnL, List.mem_cons, true_or, or_true])
  obtain ⟨fd_law_taken, F_law_taken⟩ := cd.defs (d := d_law_taken) (by simp only [fnL, List.mem_cons, true_or, or_true])
  obtain ⟨fd_law_alike, F_law_alike⟩ := cd.defs (d := d_law_alike) (by simp only [fnL, List.mem_cons, true_or, or_true])
  obtain ⟨fd_law_neck, F_law_neck⟩ := cd.defs (d := d_law_neck) (by simp only [fnL, List.mem_cons, true_or, or_true])
  obtain ⟨fd_law_positions, F_law_positions⟩ := cd.defs (d := d_law_positions) (by simp only [fnL, List.mem_cons, true_or, or_true])
  obtain ⟨fd_law_plays, F_law_plays⟩ := cd.defs (d := d_law_plays) (by simp only [fnL, List.mem_cons, true_or, or_true])
  obtain ⟨fd_law_can, F_law_can⟩ := cd.defs (d := d_law_can) (by simp only [fnL, List.mem_cons, true_or, or_true])
  obtain ⟨fd_law_tune, F_law_tune⟩ := cd.defs (d := d_law_tune) (by simp only [fnL, List.mem_cons, true_or, or_true])
  obtain ⟨fd_law_moved, F_law_moved⟩ := cd.defs (d := d_law_moved) (by simp only [fnL, List.mem_cons, true_or, or_true])
  obtain ⟨fd_law_is_playing, F_law_is_playing⟩ := cd.defs (d := d_law_is_playing) (by simp only [fnL, List.mem_cons, true_or, or_true])
  obtain ⟨fd_law_is_number, F_law_is_number⟩ := cd.defs (d := d_law_is_number) (by simp only [fnL, List.mem_cons, true_or, or_true])
  obtain ⟨fd_law_shows, F_law_shows⟩ := cd.defs (d := d_law_shows) (by simp only [fnL, List.mem_cons, true_or, or_true])
  obtain ⟨fd_law, F_law⟩ := cd.defs (d := d_law) (by simp only [fnL, List.mem_cons, true_or, or_true])
  have b := FunD.bindsA (ps := ["_law_script"]) F_law fun _ _ _ _ _ _ us hl => match us, hl with | [_], _ => rfl
  refine ⟨fd_law, cs K, spLaw (glb K), fun p hp => ?_, fun p hp => ?_, fun p hp => ?_, fun s v => b s [v] rfl, fun H a ns _ _ hP hS => ⟨a, ns, rfl, fun P hp => ?_, hS, fun _ => rfl⟩, fun base _ _ TB => ?_⟩
  · obtain ⟨q, hq, rfl⟩ := List.mem_map.mp hp
    exact c.empty q hq
  · obtain ⟨q, hq, rfl⟩ := List.mem_map.mp hp
    exact c.out q hq
  · obtain ⟨q, hq, rfl⟩ := List.mem_map.mp hp
    exact PySem.W.codeHd_of_K X (c.hd q hq)
  · obtain ⟨q, hq, rfl⟩ := List.mem_map.mp hp
    exact hP q hq
  have tb_all_within : He.cT K ("all_within", none) ∈ cs K := List.mem_map.mpr ⟨_, by simp only [tfL, List.mem_cons, true_or, or_true], rfl⟩
  have C_all_within := ok_all_within (P := PySem.Challenge.rw_fretways_k08_whole_no_less_movement.prog) (w := w) (g := glb K) (mg := mg) (base := base) F_all_within (He.glo_ok X G (He.SaysD.fact (f := .glo "all_within") cd 0 (by rfl))) T ⟨(TB _ tb_all_within).code, (TB _ tb_all_within).bm, (TB _ tb_all_within).gP⟩ (List.mem_map.mpr ⟨_, tb_all_within, rfl⟩)
  have C_is_place := ok_is_place (P := PySem.Challenge.rw_fretways_k08_whole_no_less_movement.prog) (w := w) (g := glb K) (mg := mg) (base := base) F_is_place (He.glo_ok X G (He.SaysD.fact (f := .glo "is_place") cd 1 (by rfl))) T
  have C_check_neck := ok_check_neck (P := PySem.Challenge.rw_fretways_k08_whole_no_less_movement.prog) (w := w) (g := glb K) (mg := mg) (base := base) F_check_neck (He.glo_ok X G (He.SaysD.fact (f := .glo "check_neck") cd 2 (by rfl))) T C_all_within
  have C_check_tune := ok_check_tune (P := PySem.Challenge.rw_fretways_k08_whole_no_less_movement.prog) (w := w) (g := glb K) (mg := mg) (base := base) F_check_tune (He.glo_ok X G (He.SaysD.fact (f := .glo "check_tune") cd 4 (by rfl))) T C_all_within
  have C_check_reach := ok_check_reach (P := PySem.Challenge.rw_fretways_k08_whole_no_less_movement.prog) (w := w) (g := glb K) (mg := mg) (base := base) F_check_reach (He.glo_ok X G (He.SaysD.fact (f := .glo "check_reach") cd 3 (by rfl))) T
  have C_places := ok_places (P := PySem.Challenge.rw_fretways_k08_whole_no_less_movement.prog) (w := w) (g := glb K) (mg := mg) (base := base) F_places (He.glo_ok X G (He.SaysD.fact (f := .glo "places") cd 5 (by rfl))) T C_check_neck C_is_place
  have C_positions := ok_positions (P := PySem.Challenge.rw_fretways_k08_whole_no_less_movement.prog) (w := w) (g := glb K) (mg := mg) (base := base) F_positions (He.glo_ok X G (He.SaysD.fact (f := .glo "_positions") cd 9 (by rfl))) T
  have C_place_from := ok_place_from (P := PySem.Challenge.rw_fretways_k08_whole_no_less_movement.prog) (w := w) (g := glb K) (mg := mg) (base := base) F_place_from (He.glo_ok X G (He.SaysD.fact (f := .glo "_place_from") cd 10 (by rfl))) T C_places
  have C_arrival := ok_arrival (P := PySem.Challenge.rw_fretways_k08_whole_no_less_movement.prog) (w := w) (g := glb K) (mg := mg) (base := base) F_arrival (He.glo_ok X G (He.SaysD.fact (f := .glo "_arrival") cd 12 (by rfl))) T
  have C_next_row := ok_next_row (P := PySem.Challenge.rw_fretways_k08_whole_no_less_movement.prog) (w := w) (g := glb K) (mg := mg) (base := base) F_next_row (He.glo_ok X G (He.SaysD.fact (f := .glo "_next_row") cd 11 (by rfl))) T C_positions C_place_from C_arrival
  have C_table := ok_table (P := PySem.Challenge.rw_fretways_k08_whole_no_less_movement.prog) (w := w) (g := glb K) (mg := mg) (base := base) F_table (He.glo_ok X G (He.SaysD.fact (f := .glo "table") cd 7 (by rfl))) T C_check_neck C_check_tune C_check_reach C_next_row C_positions
  have C_walk := ok_walk (P := PySem.Challenge.rw_fretways_k08_whole_no_less_movement.prog) (w := w) (g := glb K) (mg := mg) (base := base) F_walk (He.glo_ok X G (He.SaysD.fact (f := .glo "_walk") cd 13 (by rfl))) T C_arrival
  have C_movement := ok_movement (P := PySem.Challenge.rw_fretways_k08_whole_no_less_movement.prog) (w := w) (g := glb K) (mg := mg) (base := base) F_movement (He.glo_ok X G (He.SaysD.fact (f := .glo "movement") cd 8 (by rfl))) T
  have C_played := ok_played (P := PySem.Challenge.rw_fretways_k08_whole_no_less_movement.prog) (w := w) (g := glb K) (mg := mg) (base := base) F_played (He.glo_ok X G (He.SaysD.fact (f := .glo "played") cd 6 (by rfl))) T C_table C_walk C_place_from C_movement C_positions
  have C_law_taken := ok_law_taken (P := PySem.Challenge.rw_fretways_k08_whole_no_less_movement.prog) (w := w) (g := glb K) (mg := mg) (base := base) F_law_taken (He.glo_ok X G (He.SaysD.fact (f := .glo "_law_taken") cd 14 (by rfl))) T
  have C_law_alike := ok_law_alike (P := PySem.Challenge.rw_fretways_k08_whole_no_less_movement.prog) (w := w) (g := glb K) (mg := mg) (base := base) F_law_alike (He.glo_ok X G (He.SaysD.fact (f := .glo "_law_alike") cd 15 (by rfl))) T
  have C_law_neck := ok_law_neck (P := PySem.Challenge.rw_fretways_k08_whole_no_less_movement.prog) (w := w) (g := glb K) (mg := mg) (base := base) F_law_neck (He.glo_ok X G (He.SaysD.fact (f := .glo "_law_neck") cd 16 (by rfl))) T C_law_taken
  have C_law_positions := ok_law_positions (P := PySem.Challenge.rw_fretways_k08_whole_no_less_movement.prog) (w := w) (g := glb K) (mg := mg) (base := base) F_law_positions (He.glo_ok X G (He.SaysD.fact (f := .glo "_law_positions") cd 21 (by rfl))) T
  have C_law_plays := ok_law_plays (P := PySem.Challenge.rw_fretways_k08_whole_no_less_movement.prog) (w := w) (g := glb K) (mg := mg) (base := base) F_law_plays (He.glo_ok X G (He.SaysD.fact (f := .glo "_law_plays") cd 22 (by rfl))) T
  have C_law_can := ok_law_can (P := PySem.Challenge.rw_fretways_k08_whole_no_less_movement.prog) (w := w) (g := glb K) (mg := mg) (base := base) F_law_can (He.glo_ok X G (He.SaysD.fact (f := .glo "_law_can") cd 23 (by rfl))) T C_law_plays
  have C_law_tune := ok_law_tune (P := PySem.Challenge.rw_fretways_k08_whole_no_less_movement.prog) (w := w) (g := glb K) (mg := mg) (base := base) F_law_tune (He.glo_ok X G (He.SaysD.fact (f := .glo "_law_tune") cd 24 (by rfl))) T C_law_taken
  have C_law_moved := ok_law_moved (P := PySem.Challenge.rw_fretways_k08_whole_no_less_movement.prog) (w := w) (g := glb K) (mg := mg) (base := base) F_law_moved (He.glo_ok X G (He.SaysD.fact (f := .glo "_law_moved") cd 26 (by rfl))) T
  have C_law_is_playing := ok_law_is_playing (P := PySem.Challenge.rw_fretways_k08_whole_no_less_movement.prog) (w := w) (g := glb K) (mg := mg) (base := base) F_law_is_playing (He.glo_ok X G (He.SaysD.fact (f := .glo "_law_is_playing") cd 25 (by rfl))) T C_law_plays C_law_positions
  have C_law_is_number := ok_law_is_number (P := PySem.Challenge.rw_fretways_k08_whole_no_less_movement.prog) (w := w) (g := glb K) (mg := mg) (base := base) F_law_is_number (He.glo_ok X G (He.SaysD.fact (f := .glo "_law_is_number") cd 27 (by rfl))) T
  have C_law_shows := ok_law_shows (P := PySem.Challenge.rw_fretways_k08_whole_no_less_movement.prog) (w := w) (g := glb K) (mg := mg) (base := base) F_law_shows (He.glo_ok X G (He.SaysD.fact (f := .glo "_law_shows") cd 28 (by rfl))) T C_law_positions C_law_can C_law_is_number
  exact ok_law (g := glb K) F_law T C_law_neck C_law_tune C_law_positions C_law_taken C_played C_table C_law_shows C_law_is_playing C_law_alike C_law_moved C_law_can
end
end FW
open PySem PySem.W PySem.Calls PyProof.Rows
theorem PySem.Challenge.cw_fretways_k08_whole_no_less_movement_holds : PySem.Challenge.rw_fretways_k08_whole_no_less_movement.Holds := by
  w_on; o_law
  refine HandSHeadRun.head_any (r := OpenLaw.row PySem.Challenge.rw_fretways_k08_whole_no_less_movement) (q := view (OpenLaw.row PySem.Challenge.rw_fretways_k08_whole_no_less_movement).prog [45]) (H := FW.hk) (ob := FW.ob) (M := 4000) (loose := FW.looseL) (d := HandSHeadRun.topDef (OpenLaw.row PySem.Challenge.rw_fretways_k08_whole_no_less_movement).prog 45) (kwd := []) FW.ob_eq
    (by kernel_rfl) (fun s => by kernel_rfl) FW.run (by kernel_rfl) (by kernel_rfl) (by kernel_rfl) (by rfl) (by first | assumption | decide +kernel) (by decide +kernel) ⟨rfl, rfl, rfl, rfl, rfl, by decide +kernel⟩ ?hw ?hc
  case hw => w_witness2
  case hc =>
    refine LamX.walk_ofTsE (l := PySem.Challenge.rw_fretways_k08_whole_no_less_movement) (n := 63) (k := 8) (x := "_law_script") (CX := fun _ => L2.CX0) rfl (by decide) (by kernel_rfl) ⟨rfl, by decide, by decide⟩ ?F (fun _ _ _ _ _ z => z)
    intro w mg fa h Y G hmg0
    obtain ⟨K, KX, c⟩ := Y
    have hmg : mg ("law" : PySem.Str) = some (.ref fa) := by
      have e : (HandSHeadRun.topDef (OpenLaw.row PySem.Challenge.rw_fretways_k08_whole_no_less_movement).prog 45).name = ("law" : PySem.Str) := by kernel_rfl
      rw [← e]
      exact hmg0
    exact ⟨K, KX, FW.law_at KX G hmg c⟩
