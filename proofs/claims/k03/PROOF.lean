import PyProof.Rows.All
import Wide.All
import OpenK.AllK
import Wide.FinOn
import HandS.ForMost
import HandS.AnyAll
import HandS.Codes
import HandS.IsInst
import HandS.SortInts
import HandS.Zip
import HandS.TupAny
import HandS.Conv
import HandS.Defaults
import HandS.HeadHook4
import HandS.EndTab
import HandS.HeadWalk
import KE.KStateDown
import HandS.Exc
import HandS.More
import HandS.Words
import HandS.WordsExc
import HandS.Head0
import HandS.Head1
import HandS.Head2
import HandS.HeadEnd
import HandS.HeadHook1
import HandS.HeadHook2
import HandS.HeadHook3
import PySem.Challenge.RW_fretways_k03_shapes_slid
set_option Elab.async false
set_option linter.all false
set_option maxRecDepth 100000
set_option maxHeartbeats 4000000
/-! FW0: data instead of heaps. A value stands for a datum (PyData); what does not change stands in a frozen part F of the heap; a reading of the layer becomes a predicate over data. -/
namespace FW
open PySem PySem.Spec PyProof.Rows L2
abbrev D := PyData
theorem same_t {K : PySem.W.Frag} {F H : Hp} {a : Addr} {xs : List V} (e : Same F H) (h : SqT K F a xs) : SqT K H a xs := by
  rcases h with (h | ⟨o, h⟩) | h
  · exact .inl (.inl (e _ _ h))
  · exact .inl (.inr ⟨o, e _ _ h⟩)
  · exact .inr h
/-! ### data: as the layer's Dp, but a list stands in the frozen part itself -/
mutual
inductive Rp (K : PySem.W.Frag) (F : Hp) : V → D → Prop
  | non : Rp K F .non .none
  | bl (b : Bool) : Rp K F (.bl b) (.bool b)
  | int (i : Int) : Rp K F (.int i) (.int i)
  | str (x : Str) : Rp K F (.str x) (.str x)
  | lst {a : Addr} {xs : List V} {ds : List D} : F a = some (.lst xs) → RpAll K F xs ds → Rp K F (.ref a) (.list ds)
  | tup {a : Addr} {xs : List V} {ds : List D} : SqT K F a xs → RpAll K F xs ds → Rp K F (.ref a) (.tuple ds)
inductive RpAll (K : PySem.W.Frag) (F : Hp) : List V → List D → Prop
  | nil : RpAll K F [] []
  | cons {v : V} {vs : List V} {d : D} {ds : List D} : Rp K F v d → RpAll K F vs ds → RpAll K F (v :: vs) (d :: ds)
end
mutual
theorem dp_same {K : PySem.W.Frag} {F H : Hp} (e : Same F H) : ∀ (d : D) (v : V), Rp K F v d → Rp K H v d
  | .none, _, h => by cases h; exact .non
  | .bool b, _, h => by cases h; exact .bl b
  | .int i, _, h => by cases h; exact .int i
  | .str x, _, h => by cases h; exact .str x
  | .list ds, _, h => by
    cases h with
    | lst hs ha => exact .lst (e _ _ hs) (dpAll_same e ds _ ha)
  | .tuple ds, _, h => by
    cases h with
    | tup hs ha => exact .tup (same_t e hs) (dpAll_same e ds _ ha)
  | .dict _, _, h => by cases h
theorem dpAll_same {K : PySem.W.Frag} {F H : Hp} (e : Same F H) : ∀ (ds : List D) (vs : List V), RpAll K F vs ds → RpAll K H vs ds
  | [], _, h => by cases h; exact .nil
  | d :: ds, _, h => by
    cases h with
    | cons h1 h2 => exact .cons (dp_same e d _ h1) (dpAll_same e ds _ h2)
end
mutual
theorem rp_dp {K : PySem.W.Frag} {F : Hp} : ∀ (d : D) (v : V), Rp K F v d → Dp K F v d
  | .none, _, h => by cases h; exact .non
  | .bool b, _, h => by cases h; exact .bl b
  | .int i, _, h => by cases h; exact .int i
  | .str x, _, h => by cases h; exact .str x
  | .list ds, _, h => by
    cases h with
    | lst hs ha => exact .lst (SqL.of hs) (rpAll_dp ds _ ha)
  | .tuple ds, _, h => by
    cases h with
    | tup hs ha => exact .tup hs (rpAll_dp ds _ ha)
  | .dict _, _, h => by cases h
theorem rpAll_dp {K : PySem.W.Frag} {F : Hp} : ∀ (ds : List D) (vs : List V), RpAll K F vs ds → DpAll K F vs ds
  | [], _, h => by cases h; exact .nil
  | d :: ds, _, h => by
    cases h with
    | cons h1 h2 => exact .cons (rp_dp d _ h1) (rpAll_dp ds _ h2)
end
/-! ### what stands around: the row of draws, the tables of code objects -/
structure Glb where
  K : PySem.W.Frag
  Ps : List Addr
  cls : Str → Addr
structure Amb where
  g : Glb
  r : Addr
  a : Addr
  ns : List Int
abbrev Amb.K (c : Amb) : PySem.W.Frag := c.g.K
abbrev Amb.Ps (c : Amb) : List Addr := c.g.Ps
def RowOk (c : Amb) (H : Hp) : Prop := ∃ i x k : Int, H c.r = some (.lst [.ref c.a, .int i, .int x, .int k]) ∧ 0 ≤ i ∧ 0 ≤ x ∧ x < 2147483647 ∧ SqL c.K H c.a (c.ns.map V.int)
structure Wok (c : Amb) (H F : Hp) : Prop where
  sub : Same F H
  row : RowOk c H
  rF : F c.r = none
  tab : ∀ P ∈ c.Ps, GxR.TabG H P ∧ F P = none
structure Ext (c : Amb) (H F H' F' : Hp) : Prop where
  ok : Wok c H' F'
  grow : Same F F'
  keep : ∀ b o, H b = some o → b ≠ c.r → b ∉ c.Ps → H' b = some o
  new : ∀ b, F b = none → F' b ≠ none → H b = none
  pre : SqL c.K H c.a (c.ns.map V.int)
theorem RowOk.sq {c : Amb} {H : Hp} (h : RowOk c H) : SqL c.K H c.a (c.ns.map V.int) := let ⟨_, _, _, _, _, _, _, h⟩ := h; h
section
variable {c : Amb} {H F H1 F1 H2 F2 H' F' : Hp}
theorem Ext.refl (W : Wok c H F) : Ext c H F H F := ⟨W, fun _ _ h => h, fun _ _ h _ _ => h, fun _ h h' => absurd h h', W.row.sq⟩
theorem Wok.rH (W : Wok c H F) : H c.r ≠ none := by
  obtain ⟨i, x, k, h, _⟩ := W.row
  rw [h]; simp
theorem Ext.free (x : Ext c H F H' F') {b : Addr} (h : H' b = none) : H b = none := by
  cases q : H b with
  | none => rfl
  | some o =>
    by_cases hr : b = c.r
    · rw [hr] at h; exact absurd h x.ok.rH
    · by_cases hp : b ∈ c.Ps
      · obtain ⟨⟨ps, e, _⟩, _⟩ := x.ok.tab b hp
        rw [e] at h; cases h
      · rw [x.keep b o q hr hp] at h; cases h
theorem Ext.trans (a : Ext c H F H1 F1) (b : Ext c H1 F1 H2 F2) : Ext c H F H2 F2 where
  ok := b.ok
  grow := a.grow.trans b.grow
  keep := fun x o h hr hp => b.keep x o (a.keep x o h hr hp) hr hp
  new := fun x h h' => by
    by_cases q : F1 x = none
    · exact a.free (b.new x q h')
    · exact a.new x h q
  pre := a.pre
theorem RowOk.keep (h : RowOk c H) (k : ∀ b o, H b = some o → b ∉ c.Ps → H' b = some o) (ht : ∀ P ∈ c.Ps, GxR.TabG H P) : RowOk c H' := by
  obtain ⟨i, x, n, h1, h2, h3, h4, h5⟩ := h
  have nt : ∀ b o, H b = some o → (∀ ps, o ≠ .tbl ps) → H' b = some o := fun b o e ne => k b o e fun hb => by
    obtain ⟨ps, e', _⟩ := ht b hb
    rw [e] at e'; exact ne ps (Option.some.inj e')
  refine ⟨i, x, n, nt _ _ h1 (fun ps z => by cases z), h2, h3, h4, ?_⟩
  rcases h5 with (h5 | ⟨o, h5⟩) | h5
  · exact .inl (.inl (nt _ _ h5 fun ps z => by cases z))
  · exact .inl (.inr ⟨o, nt _ _ h5 fun ps z => by cases z⟩)
  · exact .inr h5
theorem upd_keep {p : Addr} {o : HO} (hp : H p = none) : ∀ b u, H b = some u → upd H p o b = some u := fun b u e => by
  rw [upd_ne (ne_of_none e hp)]; exact e
theorem TabG.keep {P : Addr} (h : GxR.TabG H P) (k : ∀ b o, H b = some o → H' b = some o) : GxR.TabG H' P := by
  obtain ⟨ps, e, t⟩ := h
  exact ⟨ps, k _ _ e, t⟩
/-- a new object, frozen -/
theorem Ext.laid (W : Wok c H F) {p : Addr} (o : HO) (hp : H p = none) : Ext c H F (upd H p o) (upd F p o) := by
  have hF : F p = none := by
    cases q : F p with
    | none => rfl
    | some u => rw [W.sub p u q] at hp; cases hp
  have np : ∀ b, H b ≠ none → b ≠ p := fun b h z => h (by rw [z]; exact hp)
  refine ⟨⟨fun b u e => ?_, W.row.keep (fun b u e _ => upd_keep hp b u e) (fun P h => (W.tab P h).1), ?_, fun P h => ⟨TabG.keep (W.tab P h).1 (upd_keep hp), ?_⟩⟩, upd_keep hF, fun b u e _ _ => upd_keep hp b u e, fun b h h' => ?_, W.row.sq⟩
  · by_cases hb : b = p
    · rw [hb, upd_same] at e ⊢; exact e
    · rw [upd_ne hb] at e ⊢; exact W.sub b u e
  · rw [upd_ne (np _ W.rH)]; exact W.rF
  · obtain ⟨⟨ps, e, _⟩, z⟩ := W.tab P h
    rw [upd_ne (np _ (by rw [e]; simp))]; exact z
  · by_cases hb : b = p
    · rw [hb]; exact hp
    · rw [upd_ne hb] at h'; exact absurd h h'
/-- a new object, not frozen -/
theorem Ext.loose (W : Wok c H F) {p : Addr} (o : HO) (hp : H p = none) : Ext c H F (upd H p o) F :=
  ⟨⟨fun b u e => upd_keep hp b u (W.sub b u e), W.row.keep (fun b u e _ => upd_keep hp b u e) (fun P h => (W.tab P h).1), W.rF, fun P h => ⟨TabG.keep (W.tab P h).1 (upd_keep hp), (W.tab P h).2⟩⟩, fun _ _ h => h, fun b u e _ _ => upd_keep hp b u e, fun b h h' => absurd h h', W.row.sq⟩
/-- an object that stands already in the heap and is nobody's is frozen -/
theorem Wok.freeze (W : Wok c H F) {p : Addr} {o : HO} (hp : H p = some o) (hr : p ≠ c.r) (ht : ∀ ps, o ≠ .tbl ps) : Wok c H (upd F p o) := by
  refine ⟨fun b u e => ?_, W.row, ?_, fun P h => ⟨(W.tab P h).1, ?_⟩⟩
  · by_cases hb : b = p
    · rw [hb, upd_same] at e; rw [hb, hp]; exact e
    · rw [upd_ne hb] at e; exact W.sub b u e
  · rw [upd_ne (fun z => hr z.symm)]; exact W.rF
  · obtain ⟨⟨ps, e, _⟩, z⟩ := W.tab P h
    rw [upd_ne (fun q => ?_)]
    · exact z
    · rw [q, hp] at e; exact ht ps (Option.some.inj e)
/-- an object that is new and not frozen is changed -/
theorem Ext.mut (x : Ext c H F H' F') {L : Addr} {ws : List V} (h0 : H L = none) (h2 : H' L = some (.lst ws)) (n2 : F' L = none) (nr : L ≠ c.r) (ws' : List V) : Ext c H F (upd H' L (.lst ws')) F' := by
  have np : L ∉ c.Ps := fun hp => by
    obtain ⟨⟨ps, q, _⟩, _⟩ := x.ok.tab L hp
    rw [h2] at q; cases q
  refine ⟨⟨fun b o eb => ?_, ?_, x.ok.rF, fun P hP => ⟨?_, (x.ok.tab P hP).2⟩⟩, x.grow, fun b o eb hr hp => ?_, x.new, x.pre⟩
  · rw [upd_ne (fun z => by rw [z, n2] at eb; cases eb)]; exact x.ok.sub b o eb
  · obtain ⟨i, y, n, h1, h3, h4, h5, h6⟩ := x.ok.row
    refine ⟨i, y, n, by rw [upd_ne (fun z => nr z.symm)]; exact h1, h3, h4, h5, ?_⟩
    rcases h6 with (h6 | ⟨o, h6⟩) | h6
    · by_cases hz : c.a = L
      · rcases x.pre with (p | ⟨o, p⟩) | p
        · rw [hz, h0] at p; cases p
        · rw [hz, h0] at p; cases p
        · exact .inr p
      · exact .inl (.inl (by rw [upd_ne hz]; exact h6))
    · exact .inl (.inr ⟨o, by rw [upd_ne (fun z => by rw [z, h2] at h6; cases h6)]; exact h6⟩)
    · exact .inr h6
  · obtain ⟨ps, e1, t1⟩ := (x.ok.tab P hP).1
    exact ⟨ps, by rw [upd_ne (fun (z : P = L) => np (z ▸ hP))]; exact e1, t1⟩
  · rw [upd_ne (fun z => by rw [z, h0] at eb; cases eb)]
    exact x.keep b o eb hr hp
/-! ### a datum of a value; the row is told as the empty dict -/
def RepV (c : Amb) (F : Hp) (v : V) (d : D) : Prop := Rp c.K F v d ∨ (d = .dict [] ∧ v = .ref c.r)
theorem RepV.grow {v : V} {d : D} (h : RepV c F v d) (e : Same F F') : RepV c F' v d := by
  rcases h with h | h
  · exact .inl (dp_same e _ _ h)
  · exact .inr h
theorem RepV.dp {v : V} {d : D} (h : RepV c F v d) (hd : d ≠ .dict []) : Rp c.K F v d := by
  rcases h with h | h
  · exact h
  · exact absurd h.1 hd
theorem RepV.int {i : Int} : RepV c F (.int i) (.int i) := .inl (.int i)
theorem RepV.bl {b : Bool} : RepV c F (.bl b) (.bool b) := .inl (.bl b)
theorem RepV.non : RepV c F .non .none := .inl .non
theorem RepV.str {x : Str} : RepV c F (.str x) (.str x) := .inl (.str x)
theorem RepV.int_inv {v : V} {i : Int} (h : RepV c F v (.int i)) : v = .int i := by
  have h := h.dp (by intro z; cases z)
  cases h; rfl
theorem RepV.bl_inv {v : V} {b : Bool} (h : RepV c F v (.bool b)) : v = .bl b := by
  have h := h.dp (by intro z; cases z)
  cases h; rfl
theorem RepV.non_inv {v : V} (h : RepV c F v .none) : v = .non := by
  have h := h.dp (by intro z; cases z)
  cases h; rfl
theorem RepV.str_inv {v : V} {x : Str} (h : RepV c F v (.str x)) : v = .str x := by
  have h := h.dp (by intro z; cases z)
  cases h; rfl
theorem RepV.row_inv {v : V} (h : RepV c F v (.dict [])) : v = .ref c.r := by
  rcases h with h | h
  · cases h
  · exact h.2
theorem RepV.list_inv {v : V} {ds : List D} (h : RepV c F v (.list ds)) : ∃ a vs, v = .ref a ∧ F a = some (.lst vs) ∧ RpAll c.K F vs ds := by
  have h := h.dp (by intro z; cases z)
  cases h with
  | lst hs ha => exact ⟨_, _, rfl, hs, ha⟩
theorem RepV.tup_inv {v : V} {ds : List D} (h : RepV c F v (.tuple ds)) : ∃ a vs, v = .ref a ∧ SqT c.K F a vs ∧ RpAll c.K F vs ds := by
  have h := h.dp (by intro z; cases z)
  cases h with
  | tup hs ha => exact ⟨_, _, rfl, hs, ha⟩
theorem dpAll_length {K : PySem.W.Frag} : ∀ {vs : List V} {ds : List D}, RpAll K F vs ds → vs.length = ds.length
  | _, _, .nil => rfl
  | _, _, .cons _ t => congrArg (· + 1) (dpAll_length t)
theorem dpAll_get {K : PySem.W.Frag} : ∀ {vs : List V} {ds : List D} {i : Nat} {v : V}, RpAll K F vs ds → vs[i]? = some v → ∃ d, ds[i]? = some d ∧ Rp K F v d
  | _, _, _, _, .nil, h => by simp at h
  | _, _, 0, _, .cons h _, e => by simp at e; subst e; exact ⟨_, rfl, h⟩
  | _, _, i + 1, _, .cons _ t, e => by
    obtain ⟨d, h1, h2⟩ := dpAll_get (i := i) t (by simpa using e)
    exact ⟨d, by simpa using h1, h2⟩
theorem dpAll_at {K : PySem.W.Frag} : ∀ {vs : List V} {ds : List D} {i : Nat} {d : D}, RpAll K F vs ds → ds[i]? = some d → ∃ v, vs[i]? = some v ∧ Rp K F v d
  | _, _, _, _, .nil, h => by simp at h
  | _, _, 0, _, .cons h _, e => by simp at e; subst e; exact ⟨_, rfl, h⟩
  | _, _, i + 1, _, .cons _ t, e => by
    obtain ⟨d, h1, h2⟩ := dpAll_at (i := i) t (by simpa using e)
    exact ⟨d, by simpa using h1, h2⟩
theorem dpAll_app {K : PySem.W.Frag} : ∀ {vs ws : List V} {ds es : List D}, RpAll K F vs ds → RpAll K F ws es → RpAll K F (vs ++ ws) (ds ++ es)
  | _, _, _, _, .nil, h => h
  | _, _, _, _, .cons h t, h2 => .cons h (dpAll_app t h2)
theorem dpAll_drop {K : PySem.W.Frag} : ∀ {vs : List V} {ds : List D} (n : Nat), RpAll K F vs ds → RpAll K F (vs.drop n) (ds.drop n)
  | _, _, 0, h => h
  | _, _, _ + 1, .nil => .nil
  | _, _, n + 1, .cons _ t => dpAll_drop n t
theorem dpAll_take {K : PySem.W.Frag} : ∀ {vs : List V} {ds : List D} (n : Nat), RpAll K F vs ds → RpAll K F (vs.take n) (ds.take n)
  | _, _, 0, _ => .nil
  | _, _, _ + 1, .nil => .nil
  | _, _, n + 1, .cons h t => .cons h (dpAll_take n t)
theorem dpAll_set {K : PySem.W.Frag} {v : V} {d : D} (h : Rp K F v d) : ∀ {vs : List V} {ds : List D} (i : Nat), RpAll K F vs ds → RpAll K F (vs.set i v) (ds.set i d)
  | _, _, _, .nil => .nil
  | _, _, 0, .cons _ t => .cons h t
  | _, _, i + 1, .cons q t => .cons q (dpAll_set h i t)
theorem dpAll_rev {K : PySem.W.Frag} : ∀ {vs : List V} {ds : List D}, RpAll K F vs ds → RpAll K F vs.reverse ds.reverse
  | _, _, .nil => .nil
  | _, _, .cons h t => by
    simp only [List.reverse_cons]
    exact dpAll_app (dpAll_rev t) (.cons h .nil)
theorem dpAll_ints {K : PySem.W.Frag} : ∀ (l : List Int), RpAll K F (l.map V.int) (l.map PyData.int)
  | [] => .nil
  | i :: l => .cons (.int i) (dpAll_ints l)
theorem dpAll_ints_inv {K : PySem.W.Frag} : ∀ (l : List Int) (vs : List V), RpAll K F vs (l.map PyData.int) → vs = l.map V.int
  | [], _, h => by cases h; rfl
  | i :: l, _, h => by
    cases h with
    | cons h1 h2 =>
      cases h1
      rw [dpAll_ints_inv l _ h2]; rfl
/-! ### the slots -/
inductive Sl where
  | un | val (d : D) | own (ds : List D) | exc (a : Addr)
abbrev Sg := List Sl
structure RepS (c : Amb) (H0 : Hp) (σ : L2.St) (H F : Hp) (e : Sg) : Prop where
  len : σ.length = e.length
  val : ∀ (i : Nat) (d : D), e[i]? = some (.val d) → ∃ v, σ[i]? = some (some v) ∧ RepV c F v d
  own : ∀ (i : Nat) (ds : List D), e[i]? = some (.own ds) → ∃ a vs, σ[i]? = some (some (.ref a)) ∧ H a = some (.lst vs) ∧ F a = none ∧ H0 a = none ∧ a ≠ c.r ∧ RpAll c.K F vs ds
  dist : ∀ (i j : Nat) (ds es : List D) (a : Addr), i ≠ j → e[i]? = some (.own ds) → e[j]? = some (.own es) → σ[i]? = some (some (.ref a)) → σ[j]? = some (some (.ref a)) → False
  exc : ∀ (i : Nat) (a : Addr), e[i]? = some (.exc a) → σ[i]? = some (some (.ref a))
/-- a slot is set, to what is no exception -/
theorem exc_set {e : Sg} {σ : L2.St} {i : Nat} {s : Sl} {o : Option V} (S : ∀ (i : Nat) (a : Addr), e[i]? = some (.exc a) → σ[i]? = some (some (.ref a))) (hs : ∀ a, s ≠ .exc a) (j : Nat) (a : Addr) (h : (e.set i s)[j]? = some (.exc a)) : (σ.set i o)[j]? = some (some (.ref a)) := by
  by_cases hij : i = j
  · subst hij
    by_cases hl : i < e.length
    · rw [List.getElem?_set_self hl] at h
      exact absurd (Option.some.inj h) (hs a)
    · rw [List.getElem?_eq_none (by simpa using hl)] at h; cases h
  · rw [List.getElem?_set_ne hij] at h ⊢
    exact S j a h
theorem exc_set0 {e : Sg} {σ : L2.St} {i : Nat} {s : Sl} (S : ∀ (i : Nat) (a : Addr), e[i]? = some (.exc a) → σ[i]? = some (some (.ref a))) (hs : ∀ a, s ≠ .exc a) (j : Nat) (a : Addr) (h : (e.set i s)[j]? = some (.exc a)) : σ[j]? = some (some (.ref a)) := by
  by_cases hij : i = j
  · subst hij
    by_cases hl : i < e.length
    · rw [List.getElem?_set_self hl] at h
      exact absurd (Option.some.inj h) (hs a)
    · rw [List.getElem?_eq_none (by simpa using hl)] at h; cases h
  · rw [List.getElem?_set_ne hij] at h
    exact S j a h
variable {H0 : Hp} {σ : L2.St} {e : Sg}
theorem Wok.noP (W : Wok c H F) {a : Addr} {vs : List V} (h : H a = some (.lst vs)) : a ∉ c.Ps := fun hp => by
  obtain ⟨⟨ps, q, _⟩, _⟩ := W.tab a hp
  rw [h] at q; cases q
theorem RepS.ext (S : RepS c H0 σ H F e) (W : Wok c H F) (x : Ext c H F H' F') : RepS c H0 σ H' F' e where
  exc := S.exc
  len := S.len
  val := fun i d h => by
    obtain ⟨v, h1, h2⟩ := S.val i d h
    exact ⟨v, h1, h2.grow x.grow⟩
  own := fun i ds h => by
    obtain ⟨a, vs, h1, h2, h3, h4, h5, h6⟩ := S.own i ds h
    refine ⟨a, vs, h1, x.keep a _ h2 h5 (W.noP h2), ?_, h4, h5, dpAll_same x.grow _ _ h6⟩
    cases q : F' a with
    | none => rfl
    | some u =>
      have := x.new a h3 (by rw [q]; simp)
      rw [h2] at this; cases this
  dist := S.dist
theorem RepS.set_val (S : RepS c H0 σ H F e) (i : Nat) {v : V} {d : D} (r : RepV c F v d) : RepS c H0 (σ.set i (some v)) H F (e.set i (.val d)) where
  exc := exc_set S.exc fun _ z => nomatch z
  len := by simp [S.len]
  val := fun j d' h => by
    by_cases hij : i = j
    · subst hij
      by_cases hl : i < e.length
      · rw [List.getElem?_set_self hl] at h
        cases h
        exact ⟨v, by rw [List.getElem?_set_self (by rw [S.len]; exact hl)], r⟩
      · rw [List.getElem?_eq_none (by simpa using hl)] at h; cases h
    · rw [List.getElem?_set_ne hij] at h ⊢
      exact S.val j d' h
  own := fun j ds h => by
    by_cases hij : i = j
    · subst hij
      by_cases hl : i < e.length
      · rw [List.getElem?_set_self hl] at h; cases h
      · rw [List.getElem?_eq_none (by simpa using hl)] at h; cases h
    · rw [List.getElem?_set_ne hij] at h ⊢
      exact S.own j ds h
  dist := fun j k ds es a hjk h1 h2 h3 h4 => by
    have f : ∀ (j : Nat) (ds : List D), (e.set i (.val d))[j]? = some (.own ds) → i ≠ j := fun j ds h z => by
      subst z
      by_cases hl : i < e.length
      · rw [List.getElem?_set_self hl] at h; cases h
      · rw [List.getElem?_eq_none (by simpa using hl)] at h; cases h
    have n1 := f j ds h1
    have n2 := f k es h2
    rw [List.getElem?_set_ne n1] at h1 h3
    rw [List.getElem?_set_ne n2] at h2 h4
    exact S.dist j k ds es a hjk h1 h2 h3 h4
theorem RepS.set_un (S : RepS c H0 σ H F e) (i : Nat) (o : Option V) : RepS c H0 (σ.set i o) H F (e.set i .un) where
  exc := exc_set S.exc fun _ z => nomatch z
  len := by simp [S.len]
  val := fun j d' h => by
    by_cases hij : i = j
    · subst hij
      by_cases hl : i < e.length
      · rw [List.getElem?_set_self hl] at h; cases h
      · rw [List.getElem?_eq_none (by simpa using hl)] at h; cases h
    · rw [List.getElem?_set_ne hij] at h ⊢
      exact S.val j d' h
  own := fun j ds h => by
    by_cases hij : i = j
    · subst hij
      by_cases hl : i < e.length
      · rw [List.getElem?_set_self hl] at h; cases h
      · rw [List.getElem?_eq_none (by simpa using hl)] at h; cases h
    · rw [List.getElem?_set_ne hij] at h ⊢
      exact S.own j ds h
  dist := fun j k ds es a hjk h1 h2 h3 h4 => by
    have f : ∀ (j : Nat) (ds : List D), (e.set i Sl.un)[j]? = some (.own ds) → i ≠ j := fun j ds h z => by
      subst z
      by_cases hl : i < e.length
      · rw [List.getElem?_set_self hl] at h; cases h
      · rw [List.getElem?_eq_none (by simpa using hl)] at h; cases h
    have n1 := f j ds h1
    have n2 := f k es h2
    rw [List.getElem?_set_ne n1] at h1 h3
    rw [List.getElem?_set_ne n2] at h2 h4
    exact S.dist j k ds es a hjk h1 h2 h3 h4
/-- a slot gets a list of its own at p -/
theorem RepS.set_own (S : RepS c H0 σ H F e) (i : Nat) {p : Addr} {vs : List V} {ds : List D} (hp : H p = some (.lst vs)) (hF : F p = none) (h0 : H0 p = none) (hr : p ≠ c.r) (hd : RpAll c.K F vs ds)
    (hn : ∀ (j : Nat) (es : List D), j ≠ i → e[j]? = some (.own es) → σ[j]? ≠ some (some (.ref p))) : RepS c H0 (σ.set i (some (.ref p))) H F (e.set i (.own ds)) where
  exc := exc_set S.exc fun _ z => nomatch z
  len := by simp [S.len]
  val := fun j d' h => by
    by_cases hij : i = j
    · subst hij
      by_cases hl : i < e.length
      · rw [List.getElem?_set_self hl] at h; cases h
      · rw [List.getElem?_eq_none (by simpa using hl)] at h; cases h
    · rw [List.getElem?_set_ne hij] at h ⊢
      exact S.val j d' h
  own := fun j es h => by
    by_cases hij : i = j
    · subst hij
      by_cases hl : i < e.length
      · rw [List.getElem?_set_self hl] at h
        cases h
        exact ⟨p, vs, by rw [List.getElem?_set_self (by rw [S.len]; exact hl)], hp, hF, h0, hr, hd⟩
      · rw [List.getElem?_eq_none (by simpa using hl)] at h; cases h
    · rw [List.getElem?_set_ne hij] at h ⊢
      exact S.own j es h
  dist := fun j k es fs a hjk h1 h2 h3 h4 => by
    by_cases n1 : i = j
    · subst n1
      have n2 : i ≠ k := hjk
      rw [List.getElem?_set_ne n2] at h2 h4
      have : a = p := by
        by_cases hl : i < σ.length
        · rw [List.getElem?_set_self hl] at h3; cases h3; rfl
        · rw [List.getElem?_eq_none (by simpa using hl)] at h3; cases h3
      subst this
      exact hn k fs (fun z => n2 z.symm) h2 h4
    · by_cases n2 : i = k
      · subst n2
        rw [List.getElem?_set_ne n1] at h1 h3
        have : a = p := by
          by_cases hl : i < σ.length
          · rw [List.getElem?_set_self hl] at h4; cases h4; rfl
          · rw [List.getElem?_eq_none (by simpa using hl)] at h4; cases h4
        subst this
        exact hn j es (fun z => n1 z.symm) h1 h3
      · rw [List.getElem?_set_ne n1] at h1 h3
        rw [List.getElem?_set_ne n2] at h2 h4
        exact S.dist j k es fs a hjk h1 h2 h3 h4
end
end FW
/-! FW1: readings over data: expressions, tests, arguments, statements. -/
namespace FW
open PySem PySem.Spec PyProof.Rows L2
/-! ### a judgement asks less where its reading asks more -/
section
variable {X : Cx}
theorem pe_w {e : Expr} {t t' : TE} (h : PE X e t) (k : ∀ σ H Q, t' σ H Q → t σ H Q) : PE X e t' := ⟨fun pins s σ H Q I q => h.run pins s σ H Q I (k σ H Q q)⟩
theorem pt_w {e : Expr} {t t' : TT} (h : PT X e t) (k : ∀ σ H Q, t' σ H Q → t σ H Q) : PT X e t' := ⟨fun pins s σ H Q I q => h.run pins s σ H Q I (k σ H Q q)⟩
theorem pw_w {e : Expr} {t t' : TT} (h : PW X e t) (k : ∀ σ H Q, t' σ H Q → t σ H Q) : PW X e t' := ⟨fun wh pins s σ H Q I q => h.run wh pins s σ H Q I (k σ H Q q)⟩
theorem pa_w {es : List Expr} {t t' : TA} (h : PA X es t) (k : ∀ σ H Q, t' σ H Q → t σ H Q) : PA X es t' := ⟨fun pos pins s σ H Q I q => h.run pos pins s σ H Q I (k σ H Q q)⟩
theorem ps_w {st : Stmt} {t t' : TS} (h : PS X st t) (k : ∀ D σ H, t' D σ H → t D σ H) : PS X st t' := ⟨fun pins s σ H D I q => h.run pins s σ H D I (k D σ H q)⟩
theorem pss_w {st : List Stmt} {t t' : TS} (h : PSs X st t) (k : ∀ D σ H, t' D σ H → t D σ H) : PSs X st t' := ⟨fun pins s σ H D I q => h.run pins s σ H D I (k D σ H q)⟩
theorem pts_w {es : List Expr} {t t' : TT} (h : PTs X es t) (k : ∀ σ H Q, t' σ H Q → t σ H Q) : PTs X es t' := ⟨fun pins s σ H Q I q => h.run pins s σ H Q I (k σ H Q q)⟩
theorem pi_w {tg it : Expr} {t t' : TI} (h : PI X tg it t) (k : ∀ σ H R, t' σ H R → t σ H R) : PI X tg it t' := ⟨fun pins s σ H R I q => h.run pins s σ H R I (k σ H R q)⟩
end
/-! ### readings over data -/
abbrev W := Sg → (D → Prop) → Prop
abbrev WT := Sg → (Bool → Prop) → Prop
abbrev WA := Sg → (List D → Prop) → Prop
abbrev RepVs (c : Amb) (F : Hp) : List V → List D → Prop := Paired (RepV c F)
section
variable (c : Amb)
def Post (H F : Hp) (R : D → Prop) (Q : VK) : Prop := ∀ d v H' F', R d → Ext c H F H' F' → RepV c F' v d → Q v H'
def tD (w : W) : TE := fun σ H Q => ∃ e F H0 R, Wok c H F ∧ RepS c H0 σ H F e ∧ w e R ∧ Post c H F R Q
def tT (w : WT) : TT := fun σ H Q => ∃ e F H0 R, Wok c H F ∧ RepS c H0 σ H F e ∧ w e R ∧ ∀ b H' F', R b → Ext c H F H' F' → Q b H'
def tA (w : WA) : TA := fun σ H Q => ∃ e F H0 R, Wok c H F ∧ RepS c H0 σ H F e ∧ w e R ∧ ∀ ds vs H' F', R ds → Ext c H F H' F' → RepVs c F' vs ds → Q vs H'
/-- a new list, nobody's yet -/
def tN (w : WA) : TE := fun σ H Q => ∃ e F H0 R, Wok c H F ∧ RepS c H0 σ H F e ∧ w e R ∧ ∀ ds p vs H' F', R ds → Ext c H F H' F' → H p = none → H' p = some (.lst vs) → F' p = none → p ≠ c.r → RpAll c.K F' vs ds → Q (.ref p) H'
end
section
variable {c : Amb} {H F H1 F1 H' F' : Hp} {σ : L2.St} {X : Cx}
theorem Post.ext {R : D → Prop} {Q : VK} (P : Post c H F R Q) (x : Ext c H F H1 F1) : Post c H1 F1 R Q := fun d v H' F' r x' rv => P d v H' F' r (x.trans x') rv
theorem Post.here {R : D → Prop} {Q : VK} (P : Post c H F R Q) (W : Wok c H F) {d : D} {v : V} (r : R d) (rv : RepV c F v d) : Q v H := P d v H F r (Ext.refl W) rv
theorem repVs_grow : ∀ {vs : List V} {ds : List D}, RepVs c F vs ds → Same F F' → RepVs c F' vs ds
  | _, _, .nil, _ => .nil
  | _, _, .cons h t, e => .cons (h.grow e) (repVs_grow t e)
theorem repVs_dp : ∀ {vs : List V} {ds : List D}, RepVs c F vs ds → (∀ d ∈ ds, d ≠ .dict []) → RpAll c.K F vs ds
  | _, _, .nil, _ => .nil
  | _, _, .cons h t, k => .cons (h.dp (k _ List.mem_cons_self)) (repVs_dp t fun d hd => k d (List.mem_cons_of_mem _ hd))
theorem dpAll_rep : ∀ {vs : List V} {ds : List D}, RpAll c.K F vs ds → RepVs c F vs ds
  | _, _, .nil => .nil
  | _, _, .cons h t => .cons (.inl h) (dpAll_rep t)
/-! ### values -/
@[simp] def dVar (i : Nat) : W := fun e R => ∃ d, e[i]? = some (.val d) ∧ R d
@[simp] def dC (d : D) : W := fun _ R => R d
theorem xd_var {i : Nat} : ∀ σ H Q, tD c (dVar i) σ H Q → tVar i σ H Q := fun σ H Q ⟨e, F, H0, R, W, S, ⟨d, h, r⟩, P⟩ => by
  obtain ⟨v, h1, h2⟩ := S.val i d h
  exact ⟨v, h1, P.here W r h2⟩
theorem xd_c {v : V} {d : D} (h : ∀ F, RepV c F v d) : ∀ σ H Q, tD c (dC d) σ H Q → tC v σ H Q := fun σ H Q ⟨e, F, H0, R, W, S, r, P⟩ => P.here W r (h F)
def OpD (c : Amb) (r : R2) (rd : D → D → (D → Prop) → Prop) : Prop := ∀ H F x y d e R Q, Wok c H F → RepV c F x d → RepV c F y e → rd d e R → Post c H F R Q → r x y H Q
@[simp] def dOp (rd : D → D → (D → Prop) → Prop) (wa wb : W) : W := fun e R => wa e fun x => wb e fun y => rd x y R
theorem xd_op {r : R2} {rd : D → D → (D → Prop) → Prop} (hd : OpD c r rd) {wa wb : W} : ∀ σ H Q, tD c (dOp rd wa wb) σ H Q → tOp r (tD c wa) (tD c wb) σ H Q := fun σ H Q ⟨e, F, H0, R, W, S, q, P⟩ =>
  ⟨e, F, H0, _, W, S, q, fun d v H1 F1 q1 x1 r1 => ⟨e, F1, H0, _, x1.ok, S.ext W x1, q1, fun d2 v2 H2 F2 q2 x2 r2 =>
    hd H2 F2 v v2 d d2 R Q x2.ok (r1.grow x2.grow) r2 q2 (P.ext (x1.trans x2))⟩⟩
@[simp] def rdI (g : Int → Int → D) : D → D → (D → Prop) → Prop := fun x y R => ∃ i j, x = .int i ∧ y = .int j ∧ R (g i j)
@[simp] def rdC (C : Int → Int → Prop) (g : Int → Int → D) : D → D → (D → Prop) → Prop := fun x y R => ∃ i j, x = .int i ∧ y = .int j ∧ C i j ∧ R (g i j)
theorem od_I0 {g : Int → Int → V} {gd : Int → Int → D} (h : ∀ F i j, RepV c F (g i j) (gd i j)) : OpD c (rI0 g) (rdI gd) := by
  rintro H F x y d e R Q W rx ry ⟨i, j, rfl, rfl, r⟩ P
  exact ⟨i, j, rx.int_inv, ry.int_inv, P.here W r (h F i j)⟩
theorem od_I {C : Int → Int → Prop} {g : Int → Int → V} {gd : Int → Int → D} (h : ∀ F i j, RepV c F (g i j) (gd i j)) : OpD c (rI C g) (rdC C gd) := by
  rintro H F x y d e R Q W rx ry ⟨i, j, rfl, rfl, hc, r⟩ P
  exact ⟨i, j, rx.int_inv, ry.int_inv, hc, P.here W r (h F i j)⟩
abbrev rdAdd := rdI fun i j => .int (i + j)
abbrev rdSub := rdI fun i j => .int (i - j)
abbrev rdLt := rdI fun i j => .bool (decide (i < j))
abbrev rdLe := rdI fun i j => .bool (decide (i ≤ j))
abbrev rdGt := rdI fun i j => .bool (decide (j < i))
abbrev rdGe := rdI fun i j => .bool (decide (j ≤ i))
abbrev rdMul := rdC CMul fun i j => .int (i * j)
abbrev rdDiv := rdC CDivN fun i j => .int (i.fdiv j)
abbrev rdMod := rdC (fun _ j => j ≠ 0) fun i j => .int (i.fmod j)
abbrev rdPow := rdC CPow fun i j => .int (i ^ j.toNat)
theorem od_add : OpD c (rI0 fun i j => .int (i + j)) rdAdd := od_I0 fun _ _ _ => .int
theorem od_sub : OpD c (rI0 fun i j => .int (i - j)) rdSub := od_I0 fun _ _ _ => .int
theorem od_lt : OpD c (rI0 fun i j => .bl (decide (i < j))) rdLt := od_I0 fun _ _ _ => .bl
theorem od_le : OpD c (rI0 fun i j => .bl (decide (i ≤ j))) rdLe := od_I0 fun _ _ _ => .bl
theorem od_gt : OpD c (rI0 fun i j => .bl (decide (j < i))) rdGt := od_I0 fun _ _ _ => .bl
theorem od_ge : OpD c (rI0 fun i j => .bl (decide (j ≤ i))) rdGe := od_I0 fun _ _ _ => .bl
theorem od_mul : OpD c (rI CMul fun i j => .int (i * j)) rdMul := od_I fun _ _ _ => .int
theorem od_div : OpD c (rI CDivN fun i j => .int (i.fdiv j)) rdDiv := od_I fun _ _ _ => .int
theorem od_mod : OpD c (rI (fun _ j => j ≠ 0) fun i j => .int (i.fmod j)) rdMod := od_I fun _ _ _ => .int
theorem od_pow : OpD c (rI CPow fun i j => .int (i ^ j.toNat)) rdPow := od_I fun _ _ _ => .int
/-- == and != of any data -/
@[simp] def rdEq : D → D → (D → Prop) → Prop := fun x y R => SeqAt.shaped x = true ∧ SeqAt.shaped y = true ∧ x ≠ .dict [] ∧ y ≠ .dict [] ∧ R (.bool (PyData.eqv x y))
@[simp] def rdNe : D → D → (D → Prop) → Prop := fun x y R => SeqAt.shaped x = true ∧ SeqAt.shaped y = true ∧ x ≠ .dict [] ∧ y ≠ .dict [] ∧ R (.bool (!PyData.eqv x y))
theorem od_eq : OpD c (rEqD c.K) rdEq := by
  rintro H F x y d e R Q W rx ry ⟨h1, h2, h3, h4, r⟩ P
  exact ⟨d, e, rp_dp _ _ (dp_same W.sub _ _ (rx.dp h3)), rp_dp _ _ (dp_same W.sub _ _ (ry.dp h4)), h1, h2, P.here W r .bl⟩
theorem od_ne : OpD c (rNeD c.K) rdNe := by
  rintro H F x y d e R Q W rx ry ⟨h1, h2, h3, h4, r⟩ P
  exact ⟨d, e, rp_dp _ _ (dp_same W.sub _ _ (rx.dp h3)), rp_dp _ _ (dp_same W.sub _ _ (ry.dp h4)), h1, h2, P.here W r .bl⟩
/-- is None -/
def isNone : D → Bool
  | .none => true
  | _ => false
@[simp] def dIsN (w : W) : W := fun e R => w e fun d => R (.bool (isNone d))
@[simp] def dNotN (w : W) : W := fun e R => w e fun d => R (.bool (!isNone d))
theorem isN_eq {v : V} {d : D} (r : RepV c F v d) : decide (v = .non) = isNone d := by
  rcases r with h | ⟨rfl, rfl⟩
  · cases h <;> simp [isNone]
  · simp [isNone]
theorem xd_isN {w : W} : ∀ σ H Q, tD c (dIsN w) σ H Q → tIsN (tD c w) σ H Q := fun σ H Q ⟨e, F, H0, R, W, S, q, P⟩ =>
  ⟨e, F, H0, _, W, S, q, fun d v H1 F1 q1 x1 r1 => by show Q (.bl (decide (v = .non))) H1; rw [isN_eq r1]; exact P _ _ _ _ q1 x1 .bl⟩
theorem xd_notN {w : W} : ∀ σ H Q, tD c (dNotN w) σ H Q → tNotN (tD c w) σ H Q := fun σ H Q ⟨e, F, H0, R, W, S, q, P⟩ =>
  ⟨e, F, H0, _, W, S, q, fun d v H1 F1 q1 x1 r1 => by
    show Q (.bl (!decide (v = .non))) H1
    rw [isN_eq r1]
    exact P _ _ _ _ q1 x1 .bl⟩
@[simp] def dNeg (w : W) : W := fun e R => w e fun d => ∃ i, d = .int i ∧ R (.int (-i))
theorem xd_neg {w : W} : ∀ σ H Q, tD c (dNeg w) σ H Q → tUn (rU fun i => .int (-i)) (tD c w) σ H Q := fun σ H Q ⟨e, F, H0, R, W, S, q, P⟩ =>
  ⟨e, F, H0, _, W, S, q, fun d v H1 F1 ⟨i, hi, q1⟩ x1 r1 => by subst hi; exact ⟨i, r1.int_inv, P _ _ _ _ q1 x1 .int⟩⟩
/-! ### tests -/
@[simp] def bB (w : W) : WT := fun e R => w e fun d => ∃ b, d = .bool b ∧ R b
theorem xt_test {w : W} : ∀ σ H Q, tT c (bB w) σ H Q → tTest (tD c w) σ H Q := fun σ H Q ⟨e, F, H0, R, W, S, q, P⟩ =>
  ⟨e, F, H0, _, W, S, q, fun d v H1 F1 ⟨b, hb, q1⟩ x1 r1 => by subst hb; exact ⟨b, r1.bl_inv, P _ _ _ q1 x1⟩⟩
theorem xt_B {w : W} : ∀ σ H Q, tT c (bB w) σ H Q → tB (tD c w) σ H Q := xt_test
@[simp] def tru : D → Bool
  | .none => false
  | .bool b => b
  | .int i => i != 0
  | .str _ => true
  | .list ds => !ds.isEmpty
  | .tuple ds => !ds.isEmpty
  | .dict _ => true
/-- truth of what is no text -/
@[simp] def bTru (w : W) : WT := fun e R => w e fun d => (∀ x, d ≠ .str x) ∧ d ≠ .dict [] ∧ R (tru d)
theorem isEmpty_len {α β : Type} {xs : List α} {ys : List β} (h : xs.length = ys.length) : xs.isEmpty = ys.isEmpty := by
  cases xs <;> cases ys <;> simp_all
theorem xt_tru {w : W} : ∀ σ H Q, tT c (bTru w) σ H Q → (fun σ H Q => tD c w σ H fun x H' => ∃ k, TruV c.K x H' k ∧ Q k H') σ H Q := fun σ H Q ⟨e, F, H0, R, W, S, q, P⟩ =>
  ⟨e, F, H0, _, W, S, q, fun d v H1 F1 ⟨n1, n2, q1⟩ x1 r1 => ⟨tru d, by
    have h := r1.dp n2
    cases h with
    | non => exact rfl
    | bl b => exact rfl
    | int i => exact rfl
    | str x => exact absurd rfl (n1 x)
    | lst hs ha => exact .inl ⟨_, SqL.of (x1.ok.sub _ _ hs), by show (!_) = (!_); rw [isEmpty_len (dpAll_length ha)]⟩
    | tup hs ha => exact .inr (.inl ⟨_, same_t x1.ok.sub hs, by show (!_) = (!_); rw [isEmpty_len (dpAll_length ha)]⟩), P _ _ _ q1 x1⟩⟩
@[simp] def bAnd (a b : WT) : WT := fun e R => a e fun x => if x = true then b e R else R false
@[simp] def bOr (a b : WT) : WT := fun e R => a e fun x => if x = true then R true else b e R
@[simp] def bNot (a : WT) : WT := fun e R => a e fun x => R (!x)
theorem xt_and {a b : WT} : ∀ σ H Q, tT c (bAnd a b) σ H Q → tAnd (tT c a) (tT c b) σ H Q := fun σ H Q ⟨e, F, H0, R, W, S, q, P⟩ =>
  ⟨e, F, H0, _, W, S, q, fun x H1 F1 q1 x1 => by
    cases x with
    | true => exact ⟨e, F1, H0, R, x1.ok, S.ext W x1, by simpa using q1, fun b H2 F2 r x2 => P b H2 F2 r (x1.trans x2)⟩
    | false => exact P false H1 F1 (by simpa using q1) x1⟩
theorem xt_or {a b : WT} : ∀ σ H Q, tT c (bOr a b) σ H Q → tOr (tT c a) (tT c b) σ H Q := fun σ H Q ⟨e, F, H0, R, W, S, q, P⟩ =>
  ⟨e, F, H0, _, W, S, q, fun x H1 F1 q1 x1 => by
    cases x with
    | true => exact P true H1 F1 (by simpa using q1) x1
    | false => exact ⟨e, F1, H0, R, x1.ok, S.ext W x1, by simpa using q1, fun b H2 F2 r x2 => P b H2 F2 r (x1.trans x2)⟩⟩
theorem xt_not {a : WT} : ∀ σ H Q, tT c (bNot a) σ H Q → tNot (tT c a) σ H Q := fun σ H Q ⟨e, F, H0, R, W, S, q, P⟩ =>
  ⟨e, F, H0, _, W, S, q, fun x H1 F1 q1 x1 => P _ H1 F1 q1 x1⟩
theorem xt_yes : ∀ σ H Q, tT c (fun _ R => R true) σ H Q → tYes σ H Q := fun σ H Q ⟨e, F, H0, R, W, S, q, P⟩ => P true H F q (Ext.refl W)
/-- and, or, not of truth values, as values -/
@[simp] def dAnd (a b : W) : W := fun e R => a e fun x => ∃ k, x = .bool k ∧ if k = true then b e R else R (.bool false)
@[simp] def dOr (a b : W) : W := fun e R => a e fun x => ∃ k, x = .bool k ∧ if k = true then R (.bool true) else b e R
@[simp] def dNot (a : W) : W := fun e R => a e fun x => ∃ k, x = .bool k ∧ R (.bool (!k))
theorem xd_and {a b : W} : ∀ σ H Q, tD c (dAnd a b) σ H Q → tAndV (tD c a) (tD c b) σ H Q := fun σ H Q ⟨e, F, H0, R, W, S, q, P⟩ =>
  ⟨e, F, H0, _, W, S, q, fun d v H1 F1 ⟨k, hk, q1⟩ x1 r1 => by
    subst hk
    refine ⟨k, r1.bl_inv, ?_⟩
    cases k with
    | true => exact ⟨e, F1, H0, R, x1.ok, S.ext W x1, by simpa using q1, P.ext x1⟩
    | false => exact P _ _ H1 F1 (by simpa using q1) x1 .bl⟩
theorem xd_or {a b : W} : ∀ σ H Q, tD c (dOr a b) σ H Q → tOrV (tD c a) (tD c b) σ H Q := fun σ H Q ⟨e, F, H0, R, W, S, q, P⟩ =>
  ⟨e, F, H0, _, W, S, q, fun d v H1 F1 ⟨k, hk, q1⟩ x1 r1 => by
    subst hk
    refine ⟨k, r1.bl_inv, ?_⟩
    cases k with
    | true => exact P _ _ H1 F1 (by simpa using q1) x1 .bl
    | false => exact ⟨e, F1, H0, R, x1.ok, S.ext W x1, by simpa using q1, P.ext x1⟩⟩
theorem xd_not {a : W} : ∀ σ H Q, tD c (dNot a) σ H Q → tNotV (tD c a) σ H Q := fun σ H Q ⟨e, F, H0, R, W, S, q, P⟩ =>
  ⟨e, F, H0, _, W, S, q, fun d v H1 F1 ⟨k, hk, q1⟩ x1 r1 => by
    subst hk
    exact ⟨k, r1.bl_inv, P _ _ H1 F1 q1 x1 .bl⟩⟩
@[simp] def dIf (t : WT) (a b : W) : W := fun e R => t e fun x => if x = true then a e R else b e R
theorem xd_if {t : WT} {a b : W} : ∀ σ H Q, tD c (dIf t a b) σ H Q → tIf (tT c t) (tD c a) (tD c b) σ H Q := fun σ H Q ⟨e, F, H0, R, W, S, q, P⟩ =>
  ⟨e, F, H0, _, W, S, q, fun x H1 F1 q1 x1 => by
    cases x with
    | true => exact ⟨e, F1, H0, R, x1.ok, S.ext W x1, by simpa using q1, P.ext x1⟩
    | false => exact ⟨e, F1, H0, R, x1.ok, S.ext W x1, by simpa using q1, P.ext x1⟩⟩
@[simp] def dChain (r r' : D → D → (D → Prop) → Prop) (wa wb wc : W) : W := fun e R => wa e fun x => wb e fun y => r x y fun z => ∃ k, z = .bool k ∧ if k = true then wc e fun u => r' y u R else R (.bool false)
theorem xd_chain {r r' : R2} {rd rd' : D → D → (D → Prop) → Prop} (h : OpD c r rd) (h' : OpD c r' rd') {wa wb wc : W} : ∀ σ H Q, tD c (dChain rd rd' wa wb wc) σ H Q → tChain r r' (tD c wa) (tD c wb) (tD c wc) σ H Q :=
  fun σ H Q ⟨e, F, H0, R, W, S, q, P⟩ => ⟨e, F, H0, _, W, S, q, fun d v H1 F1 q1 x1 r1 => ⟨e, F1, H0, _, x1.ok, S.ext W x1, q1, fun d2 v2 H2 F2 q2 x2 r2 =>
    h H2 F2 v v2 d d2 _ _ x2.ok (r1.grow x2.grow) r2 q2 fun d3 v3 H3 F3 ⟨k, hk, q3⟩ x3 r3 => by
      subst hk
      refine ⟨k, r3.bl_inv, ?_⟩
      have x13 := (x1.trans x2).trans x3
      cases k with
      | true => exact ⟨e, F3, H0, _, x3.ok, S.ext W x13, by simpa using q3, fun d4 v4 H4 F4 q4 x4 r4 => h' H4 F4 v2 v4 d2 d4 R Q x4.ok (r2.grow (x3.trans x4).grow) r4 q4 (P.ext (x13.trans x4))⟩
      | false => exact P _ _ H3 F3 (by simpa using q3) x13 .bl⟩⟩
/-! ### arguments, displays -/
@[simp] def aNil : WA := fun _ R => R []
@[simp] def aCons (w : W) (r : WA) : WA := fun e R => w e fun d => r e fun ds => R (d :: ds)
theorem xa_nil : ∀ σ H Q, tA c aNil σ H Q → tNil σ H Q := fun σ H Q ⟨e, F, H0, R, W, S, q, P⟩ => P [] [] H F q (Ext.refl W) .nil
theorem xa_cons {w : W} {r : WA} : ∀ σ H Q, tA c (aCons w r) σ H Q → tCons (tD c w) (tA c r) σ H Q := fun σ H Q ⟨e, F, H0, R, W, S, q, P⟩ =>
  ⟨e, F, H0, _, W, S, q, fun d v H1 F1 q1 x1 r1 => ⟨e, F1, H0, _, x1.ok, S.ext W x1, q1, fun ds vs H2 F2 q2 x2 r2 => P _ _ H2 F2 q2 (x1.trans x2) (.cons (r1.grow x2.grow) r2)⟩⟩
theorem Wok.newR (W : Wok c H F) {p : Addr} (h : H p = none) : p ≠ c.r := fun z => W.rH (by rw [← z]; exact h)
theorem Wok.newF (W : Wok c H F) {p : Addr} (h : H p = none) : F p = none := by
  cases q : F p with
  | none => rfl
  | some u => rw [W.sub p u q] at h; cases h
theorem repLst {p : Addr} {vs : List V} {ds : List D} (h : F p = some (.lst vs)) (k : RpAll c.K F vs ds) : RepV c F (.ref p) (.list ds) := .inl (.lst h k)
theorem repTup {p : Addr} {vs : List V} {ds : List D} (h : F p = some (.tup vs)) (k : RpAll c.K F vs ds) : RepV c F (.ref p) (.tuple ds) := .inl (.tup (SqT.of h) k)
/-- a new tuple of these -/
theorem Post.newTup {R : D → Prop} {Q : VK} (P : Post c H F R Q) (W : Wok c H F) {vs : List V} {ds : List D} (k : RpAll c.K F vs ds) (r : R (.tuple ds)) : ∀ p, H p = none → Q (.ref p) (upd H p (.tup vs)) := fun p hp =>
  P _ _ _ _ r (Ext.laid W _ hp) (repTup upd_same (dpAll_same (upd_keep (W.newF hp)) _ _ k))
theorem Post.newLst {R : D → Prop} {Q : VK} (P : Post c H F R Q) (W : Wok c H F) {vs : List V} {ds : List D} (k : RpAll c.K F vs ds) (r : R (.list ds)) : ∀ p, H p = none → Q (.ref p) (upd H p (.lst vs)) := fun p hp =>
  P _ _ _ _ r (Ext.laid W _ hp) (repLst upd_same (dpAll_same (upd_keep (W.newF hp)) _ _ k))
theorem len_le {n : Nat} (h : n ≤ 1000000) : n ≤ sizeLine := Nat.le_trans h (by rw [sizeLine_eq]; decide)
theorem len_lt {n : Nat} (h : n < 1000000) : n < sizeLine := Nat.lt_of_lt_of_le h (by rw [sizeLine_eq]; decide)
/-- no item is the row -/
def noRow (ds : List D) : Prop := ∀ d ∈ ds, d ≠ .dict []
@[simp] def dTup (w : WA) : W := fun e R => w e fun ds => ds.length ≤ 1000000 ∧ noRow ds ∧ R (.tuple ds)
@[simp] def dLst (w : WA) : W := fun e R => w e fun ds => ds.length ≤ 1000000 ∧ noRow ds ∧ R (.list ds)
theorem paired_len {α β : Type} {G : α → β → Prop} {xs : List α} {ys : List β} (h : Paired G xs ys) : xs.length = ys.length := h.length
theorem xd_tup {w : WA} : ∀ σ H Q, tD c (dTup w) σ H Q → tTup (tA c w) σ H Q := fun σ H Q ⟨e, F, H0, R, W, S, q, P⟩ =>
  ⟨e, F, H0, _, W, S, q, fun ds vs H1 F1 ⟨hl, hn, q1⟩ x1 r1 => ⟨by rw [r1.length]; exact len_le hl, (P.ext x1).newTup x1.ok (repVs_dp r1 hn) q1⟩⟩
theorem xd_lst {w : WA} : ∀ σ H Q, tD c (dLst w) σ H Q → tLst (tA c w) σ H Q := fun σ H Q ⟨e, F, H0, R, W, S, q, P⟩ =>
  ⟨e, F, H0, _, W, S, q, fun ds vs H1 F1 ⟨hl, hn, q1⟩ x1 r1 => ⟨by rw [r1.length]; exact len_le hl, (P.ext x1).newLst x1.ok (repVs_dp r1 hn) q1⟩⟩
/-- a new list that is nobody's yet -/
@[simp] def nLst (w : WA) : WA := fun e R => w e fun ds => ds.length ≤ 1000000 ∧ noRow ds ∧ R ds
theorem xn_lst {w : WA} : ∀ σ H Q, tN c (nLst w) σ H Q → tLst (tA c w) σ H Q := fun σ H Q ⟨e, F, H0, R, W, S, q, P⟩ =>
  ⟨e, F, H0, _, W, S, q, fun ds vs H1 F1 ⟨hl, hn, q1⟩ x1 r1 => ⟨by rw [r1.length]; exact len_le hl, fun p hp =>
    have x2 := Ext.loose x1.ok (.lst vs) hp
    P ds p vs _ _ q1 (x1.trans x2) (x1.free hp) upd_same (x1.ok.newF hp) (x1.ok.newR hp) (repVs_dp r1 hn)⟩⟩
/-- a new list is a list -/
@[simp] def dN (w : WA) : W := fun e R => w e fun ds => R (.list ds)
theorem Post.frozen {R : D → Prop} {Q : VK} (P : Post c H F R Q) (x : Ext c H F H1 F1) {p : Addr} {vs : List V} {ds : List D} (h0 : H p = none) (h1 : H1 p = some (.lst vs)) (hr : p ≠ c.r) (hF : F1 p = none) (k : RpAll c.K F1 vs ds) (r : R (.list ds)) : Q (.ref p) H1 := by
  refine P _ _ H1 (upd F1 p (.lst vs)) r ⟨x.ok.freeze h1 hr (fun ps z => by cases z), fun b o e => upd_keep hF b o (x.grow b o e), x.keep, fun b hb hb' => ?_, x.pre⟩ (repLst upd_same (dpAll_same (upd_keep hF) _ _ k))
  by_cases hp : b = p
  · rw [hp]; exact h0
  · rw [upd_ne hp] at hb'; exact x.new b hb hb'
theorem xd_N {w : WA} : ∀ σ H Q, tD c (dN w) σ H Q → tN c w σ H Q := fun σ H Q ⟨e, F, H0, R, W, S, q, P⟩ =>
  ⟨e, F, H0, _, W, S, q, fun ds p vs H1 F1 r x h0 h1 hF hr k => P.frozen x h0 h1 hr hF k r⟩
/-! ### calls of values -/
def CallD (c : Amb) (r : List V → Hp → VK → Prop) (rd : List D → (D → Prop) → Prop) : Prop := ∀ H F vs ds R Q, Wok c H F → RepVs c F vs ds → rd ds R → Post c H F R Q → r vs H Q
@[simp] def dCall (rd : List D → (D → Prop) → Prop) (w : WA) : W := fun e R => w e fun ds => rd ds R
theorem xd_cb {r : List V → Hp → VK → Prop} {rd : List D → (D → Prop) → Prop} (h : CallD c r rd) {w : WA} : ∀ σ H Q, tD c (dCall rd w) σ H Q → tCB r (tA c w) σ H Q := fun σ H Q ⟨e, F, H0, R, W, S, q, P⟩ =>
  ⟨e, F, H0, _, W, S, q, fun ds vs H1 F1 q1 x1 r1 => h H1 F1 vs ds R Q x1.ok r1 q1 (P.ext x1)⟩
/-- a def's promise over data -/
abbrev Fd := List D → (D → Prop) → Prop
abbrev Fn := List D → (List D → Prop) → Prop
def spD (g : Glb) (f : Fd) : Sp := fun vs H Q _ => ∃ (c : Amb) (F : Hp) (ds : List D) (R : D → Prop), c.g = g ∧ Wok c H F ∧ RepVs c F vs ds ∧ f ds R ∧ Post c H F R Q
def spN (g : Glb) (f : Fn) : Sp := fun vs H Q _ => ∃ (c : Amb) (F : Hp) (ds : List D) (R : List D → Prop), c.g = g ∧ Wok c H F ∧ RepVs c F vs ds ∧ f ds R ∧
  ∀ ds p vs H' F', R ds → Ext c H F H' F' → H p = none → H' p = some (.lst vs) → F' p = none → p ≠ c.r → RpAll c.K F' vs ds → Q (.ref p) H'
theorem xd_call {f : Fd} {w : WA} : ∀ σ H Q, tD c (dCall f w) σ H Q → tCall (spD c.g f) [] E0 (tA c w) σ H Q := fun σ H Q ⟨e, F, H0, R, W, S, q, P⟩ =>
  ⟨e, F, H0, _, W, S, q, fun ds vs H1 F1 q1 x1 r1 => ⟨c, F1, ds, R, rfl, x1.ok, by rw [List.append_nil]; exact r1, q1, P.ext x1⟩⟩
@[simp] def nCall (f : Fn) (w : WA) : WA := fun e R => w e fun ds => f ds R
theorem xn_call {f : Fn} {w : WA} : ∀ σ H Q, tN c (nCall f w) σ H Q → tCall (spN c.g f) [] E0 (tA c w) σ H Q := fun σ H Q ⟨e, F, H0, R, W, S, q, P⟩ =>
  ⟨e, F, H0, _, W, S, q, fun ds vs H1 F1 q1 x1 r1 => ⟨c, F1, ds, R, rfl, x1.ok, by rw [List.append_nil]; exact r1, q1, fun es p us H' F' r x h0 h1 hF hr k => P es p us H' F' r (x1.trans x) (x1.free h0) h1 hF hr k⟩⟩
end
end FW
/-! FW2: statements, targets, loops, comprehensions over data; lists of one's own. -/
namespace FW
open PySem PySem.Spec PyProof.Rows L2
abbrev Exc := Str × Option Int
structure EndsD where
  nx : Sg → Prop
  rt : D → Prop
  rn : List D → Prop := fun _ => False
  bk : Sg → Prop := fun _ => False
  ct : Sg → Prop := fun _ => False
  ex : Exc → Prop := fun _ => False
abbrev WS := EndsD → Sg → Prop
def ExcAt (c : Amb) (E : XK) (H : Hp) : Exc → Prop
  | (n, none) => E (.ref (c.g.cls n)) none H
  | (n, some k) => ∃ d, H d = some (.xd [(("number" : Str), .int k)]) ∧ E (.ref (c.g.cls n)) (some d) H
structure EndsOk (c : Amb) (E : XK) (H0 F0 : Hp) (De : EndsD) (Dn : Ends) : Prop where
  nx : ∀ e σ H F, De.nx e → Ext c H0 F0 H F → RepS c H0 σ H F e → Dn.nx σ H
  rt : ∀ d v H F, De.rt d → Ext c H0 F0 H F → RepV c F v d → Dn.rt v H
  rn : ∀ ds p vs H F, De.rn ds → Ext c H0 F0 H F → H0 p = none → H p = some (.lst vs) → F p = none → p ≠ c.r → RpAll c.K F vs ds → Dn.rt (.ref p) H
  bk : ∀ e σ H F, De.bk e → Ext c H0 F0 H F → RepS c H0 σ H F e → Dn.bk σ H
  ct : ∀ e σ H F, De.ct e → Ext c H0 F0 H F → RepS c H0 σ H F e → Dn.ct σ H
  ex : ∀ x H F, De.ex x → Ext c H0 F0 H F → ExcAt c E H x
def sD (c : Amb) (E : XK) (w : WS) : TS := fun Dn σ H => ∃ e F H0 F0 De, Ext c H0 F0 H F ∧ RepS c H0 σ H F e ∧ w De e ∧ EndsOk c E H0 F0 De Dn
section
variable {c : Amb} {E : XK} {H F H0 F0 H1 F1 : Hp} {σ : L2.St} {X : Cx} {De : EndsD} {Dn : Ends}
theorem EndsOk.next (h : EndsOk c E H0 F0 De Dn) {n : Sg → Prop} {N : L2.St → Hp → Prop} (k : ∀ e σ H F, n e → Ext c H0 F0 H F → RepS c H0 σ H F e → N σ H) : EndsOk c E H0 F0 { De with nx := n } { Dn with nx := N } := ⟨k, h.rt, h.rn, h.bk, h.ct, h.ex⟩
@[simp] def dNext : WS := fun De e => De.nx e
@[simp] def dSeq (w1 w2 : WS) : WS := fun De e => w1 { De with nx := w2 De } e
theorem xs_next : ∀ Dn σ H, sD c E dNext Dn σ H → tNext Dn σ H := fun Dn σ H ⟨e, F, H0, F0, De, x, S, q, K⟩ => K.nx e σ H F q x S
theorem xs_seq {w1 w2 : WS} : ∀ Dn σ H, sD c E (dSeq w1 w2) Dn σ H → tSeq (sD c E w1) (sD c E w2) Dn σ H := fun Dn σ H ⟨e, F, H0, F0, De, x, S, q, K⟩ =>
  ⟨e, F, H0, F0, _, x, S, q, K.next fun e' σ' H' F' n x' S' => ⟨e', F', H0, F0, De, x', S', n, K⟩⟩
theorem pssd_nil : PSs X [] (sD c E dNext) := pss_w pss_nil xs_next
theorem pssd_cons {st : Stmt} {rest : List Stmt} {w1 w2 : WS} (h1 : PS X st (sD c E w1)) (h2 : PSs X rest (sD c E w2)) : PSs X (st :: rest) (sD c E (dSeq w1 w2)) := pss_w (pss_cons h1 h2) xs_seq
theorem pssd_one {st : Stmt} {w1 : WS} (h1 : PS X st (sD c E w1)) : PSs X [st] (sD c E w1) := pss_one h1
/-! ### assignment to names -/
@[simp] def dAsg (i : Nat) (w : W) : WS := fun De e => w e fun d => De.nx (e.set i (.val d))
theorem xs_asg {i : Nat} {w : W} : ∀ Dn σ H, sD c E (dAsg i w) Dn σ H → tAsg (tD c w) (gName i) Dn σ H := fun Dn σ H ⟨e, F, H0, F0, De, x, S, q, K⟩ =>
  ⟨e, F, H0, _, x.ok, S, q, fun d v H' F' r x' rv => K.nx _ _ _ _ r (x.trans x') ((S.ext x.ok x').set_val i rv)⟩
@[simp] def dOwn (i : Nat) (w : WA) : WS := fun De e => w e fun ds => De.nx (e.set i (.own ds))
theorem xs_own {i : Nat} {w : WA} : ∀ Dn σ H, sD c E (dOwn i w) Dn σ H → tAsg (tN c w) (gName i) Dn σ H := fun Dn σ H ⟨e, F, H0, F0, De, x, S, q, K⟩ =>
  ⟨e, F, H0, _, x.ok, S, q, fun ds p vs H' F' r x' hp hp' hF hr k => K.nx _ _ _ _ r (x.trans x') ((S.ext x.ok x').set_own i hp' hF (x.free hp) hr k fun j es _ hj z => by
    obtain ⟨a, ws, h1, h2, _⟩ := S.own j es hj
    rw [h1] at z
    cases z
    rw [hp] at h2; cases h2)⟩
@[simp] def dDrop (w : W) : WS := fun De e => w e fun _ => De.nx e
theorem xs_drop {w : W} : ∀ Dn σ H, sD c E (dDrop w) Dn σ H → tDrop (tD c w) Dn σ H := fun Dn σ H ⟨e, F, H0, F0, De, x, S, q, K⟩ =>
  ⟨e, F, H0, _, x.ok, S, q, fun d v H' F' r x' rv => K.nx _ _ _ _ r (x.trans x') (S.ext x.ok x')⟩
@[simp] def dRet (w : W) : WS := fun De e => w e De.rt
theorem xs_ret {w : W} : ∀ Dn σ H, sD c E (dRet w) Dn σ H → tRet (tD c w) Dn σ H := fun Dn σ H ⟨e, F, H0, F0, De, x, S, q, K⟩ =>
  ⟨e, F, H0, _, x.ok, S, q, fun d v H' F' r x' rv => K.rt d v H' F' r (x.trans x') rv⟩
@[simp] def dRetL (w : WA) : WS := fun De e => w e De.rn
theorem xs_retL {w : WA} : ∀ Dn σ H, sD c E (dRetL w) Dn σ H → tRet (tN c w) Dn σ H := fun Dn σ H ⟨e, F, H0, F0, De, x, S, q, K⟩ =>
  ⟨e, F, H0, _, x.ok, S, q, fun ds p vs H' F' r x' hp hp' hF hr k => K.rn ds p vs H' F' r (x.trans x') (x.free hp) hp' hF hr k⟩
/-- return of a slot's own list -/
@[simp] def dRetO (i : Nat) : WS := fun De e => ∃ ds, e[i]? = some (.own ds) ∧ De.rn ds
theorem xs_retO {i : Nat} : ∀ Dn σ H, sD c E (dRetO i) Dn σ H → tRet (tVar i) Dn σ H := fun Dn σ H ⟨e, F, H0, F0, De, x, S, ⟨ds, h, q⟩, K⟩ => by
  obtain ⟨a, vs, h1, h2, h3, h4, h5, h6⟩ := S.own i ds h
  exact ⟨_, h1, K.rn ds a vs H F q x h4 h2 h3 h5 h6⟩
@[simp] def dRetN : WS := fun De _ => De.rt .none
theorem xs_retN : ∀ Dn σ H, sD c E dRetN Dn σ H → tRetN Dn σ H := fun Dn σ H ⟨e, F, H0, F0, De, x, S, q, K⟩ => K.rt _ _ H F q x .non
@[simp] def dIfS (t : WT) (a b : WS) : WS := fun De e => t e fun k => if k = true then a De e else b De e
theorem xs_if {t : WT} {a b : WS} : ∀ Dn σ H, sD c E (dIfS t a b) Dn σ H → tIfS (tT c t) (sD c E a) (sD c E b) Dn σ H := fun Dn σ H ⟨e, F, H0, F0, De, x, S, q, K⟩ =>
  ⟨e, F, H0, _, x.ok, S, q, fun k H' F' r x' => by
    cases k with
    | true => exact ⟨e, F', H0, F0, De, x.trans x', S.ext x.ok x', by simpa using r, K⟩
    | false => exact ⟨e, F', H0, F0, De, x.trans x', S.ext x.ok x', by simpa using r, K⟩⟩
@[simp] def dBreak : WS := fun De e => De.bk e
@[simp] def dCont : WS := fun De e => De.ct e
theorem xs_break : ∀ Dn σ H, sD c E dBreak Dn σ H → tBreak Dn σ H := fun Dn σ H ⟨e, F, H0, F0, De, x, S, q, K⟩ => K.bk e σ H F q x S
theorem xs_cont : ∀ Dn σ H, sD c E dCont Dn σ H → tCont Dn σ H := fun Dn σ H ⟨e, F, H0, F0, De, x, S, q, K⟩ => K.ct e σ H F q x S
@[simp] def dNever : WS := fun _ _ => False
theorem xs_never : ∀ Dn σ H, sD c E dNever Dn σ H → tNever Dn σ H := fun Dn σ H ⟨e, F, H0, F0, De, x, S, q, K⟩ => q.elim
/-- a slot's own list is its own no more: from here on it is data -/
@[simp] def dFrz (i : Nat) (w : WS) : WS := fun De e => ∃ ds, e[i]? = some (.own ds) ∧ w De (e.set i (.val (.list ds)))
theorem RepS.frz {e : Sg} (S : RepS c H0 σ H F e) {i : Nat} {ds : List D} (h : e[i]? = some (.own ds)) {a : Addr} {vs : List V} (h1 : σ[i]? = some (some (.ref a))) (h2 : H a = some (.lst vs)) (h3 : F a = none) (k : RpAll c.K F vs ds) :
    RepS c H0 σ H (upd F a (.lst vs)) (e.set i (.val (.list ds))) where
  exc := exc_set0 S.exc fun _ z => nomatch z
  len := by simp [S.len]
  val := fun j d hj => by
    by_cases hij : i = j
    · subst hij
      have hl := (List.getElem?_eq_some_iff.mp h).1
      rw [List.getElem?_set_self hl] at hj
      cases hj
      exact ⟨_, h1, repLst upd_same (dpAll_same (upd_keep h3) _ _ k)⟩
    · rw [List.getElem?_set_ne hij] at hj
      obtain ⟨v, h5, h6⟩ := S.val j d hj
      exact ⟨v, h5, h6.grow (upd_keep h3)⟩
  own := fun j es hj => by
    by_cases hij : i = j
    · subst hij
      have hl := (List.getElem?_eq_some_iff.mp h).1
      rw [List.getElem?_set_self hl] at hj
      cases hj
    · rw [List.getElem?_set_ne hij] at hj
      obtain ⟨b, ws, g1, g2, g3, g4, g5, g6⟩ := S.own j es hj
      refine ⟨b, ws, g1, g2, ?_, g4, g5, dpAll_same (upd_keep h3) _ _ g6⟩
      rw [upd_ne (fun z => ?_)]
      · exact g3
      · rw [z] at g1
        exact S.dist i j ds es a hij h hj h1 g1
  dist := fun j k es fs b hjk q1 q2 q3 q4 => by
    have f : ∀ (j : Nat) (es : List D), (e.set i (.val (.list ds)))[j]? = some (.own es) → i ≠ j := fun j es hj z => by
      subst z
      have hl := (List.getElem?_eq_some_iff.mp h).1
      rw [List.getElem?_set_self hl] at hj
      cases hj
    rw [List.getElem?_set_ne (f j es q1)] at q1
    rw [List.getElem?_set_ne (f k fs q2)] at q2
    exact S.dist j k es fs b hjk q1 q2 q3 q4
theorem Ext.frz (x : Ext c H0 F0 H F) {a : Addr} {vs : List V} (h2 : H a = some (.lst vs)) (h3 : F a = none) (h4 : H0 a = none) (h5 : a ≠ c.r) : Ext c H0 F0 H (upd F a (.lst vs)) :=
  ⟨x.ok.freeze h2 h5 (fun ps z => by cases z), fun b o e => upd_keep h3 b o (x.grow b o e), x.keep, fun b hb hb' => by
    by_cases hp : b = a
    · rw [hp]; exact h4
    · rw [upd_ne hp] at hb'; exact x.new b hb hb', x.pre⟩
theorem xs_frz {i : Nat} {w : WS} : ∀ Dn σ H, sD c E (dFrz i w) Dn σ H → sD c E w Dn σ H := fun Dn σ H ⟨e, F, H0, F0, De, x, S, ⟨ds, h, q⟩, K⟩ => by
  obtain ⟨a, vs, h1, h2, h3, h4, h5, h6⟩ := S.own i ds h
  exact ⟨_, _, H0, F0, De, x.frz h2 h3 h4 h5, S.frz h h1 h2 h3 h6, q, K⟩
/-! ### targets -/
@[simp] def setAll : Sg → List Nat → List D → Sg
  | e, i :: is, d :: ds => setAll (e.set i (.val d)) is ds
  | e, _, _ => e
def gNames : List Nat → TGs
  | [] => gNil
  | i :: is => gCons (gName i) (gNames is)
theorem gNames_ok : ∀ (is : List Nat) {vs : List V} {ds : List D} {σ : L2.St} {e : Sg} {Q : L2.St → Hp → Prop}, RepS c H0 σ H F e → RpAll c.K F vs ds → ds.length = is.length →
    (∀ σ', RepS c H0 σ' H F (setAll e is ds) → Q σ' H) → gNames is vs σ H Q
  | [], _, _, _, _, _, S, k, hl, q => by
    cases k with
    | nil => exact ⟨rfl, q _ S⟩
    | cons _ _ => simp at hl
  | i :: is, _, _, _, _, _, S, k, hl, q => by
    cases k with
    | nil => simp at hl
    | cons h t => exact ⟨_, _, rfl, gNames_ok is (S.set_val i (.inl h)) t (by simpa using hl) q⟩
@[simp] def dUnp (is : List Nat) (w : W) : WS := fun De e => w e fun d => ∃ ds, d = .tuple ds ∧ ds.length = is.length ∧ De.nx (setAll e is ds)
theorem xs_unp {is : List Nat} {n : Nat} (hn : n = is.length) {w : W} : ∀ Dn σ H, sD c E (dUnp is w) Dn σ H → tAsg (tD c w) (gTup c.K n (gNames is)) Dn σ H := fun Dn σ H ⟨e, F, H0, F0, De, x, S, q, K⟩ =>
  ⟨e, F, H0, _, x.ok, S, q, fun d v H' F' ⟨ds, hd, hl, r⟩ x' rv => by
    subst hd
    obtain ⟨a, vs, rfl, ht, k⟩ := rv.tup_inv
    exact ⟨a, vs, rfl, same_t x'.ok.sub ht, by rw [dpAll_length k, hl, hn], gNames_ok is (S.ext x.ok x') k hl fun σ' S' => K.nx _ _ _ _ r (x.trans x') S'⟩⟩
/-! ### what is walked -/
structure Yields (c : Amb) (J : It) (F1 : Hp) (ds : List D) : Prop where
  go : ∀ i H F, i < ds.length → Wok c H F → Same F1 F → J.go i H
  yld : ∀ (i : Nat) d H F x H', ds[i]? = some d → Wok c H F → Same F1 F → J.yld i H x H' → ∃ F', Ext c H F H' F' ∧ RepV c F' x d
  stop : ∀ H F, Wok c H F → Same F1 F → J.stop ds.length H
theorem Yields.grow {J : It} {ds : List D} (Y : Yields c J F ds) (e : Same F F1) : Yields c J F1 ds :=
  ⟨fun i H F hi W s => Y.go i H F hi W (e.trans s), fun i d H F x H' hd W s y => Y.yld i d H F x H' hd W (e.trans s) y, fun H F W s => Y.stop H F W (e.trans s)⟩
def tI (c : Amb) (w : WA) : TI := fun σ H R => ∃ e F H0 Rd, Wok c H F ∧ RepS c H0 σ H F e ∧ w e Rd ∧ ∀ ds J H' F', Rd ds → Ext c H F H' F' → Yields c J F' ds → R J H'
@[simp] def iLst (w : W) : WA := fun e R => w e fun d => ∃ ds, d = .list ds ∧ R ds
@[simp] def iTpl (w : W) : WA := fun e R => w e fun d => ∃ ds, d = .tuple ds ∧ R ds
theorem yields_list {a : Addr} {vs : List V} {ds : List D} (h : F a = some (.lst vs)) (k : RpAll c.K F vs ds) : Yields c (Itl c.K a) F ds where
  go := fun i H G hi W s => by
    have hl := dpAll_length k
    exact ⟨vs, vs[i]'(by omega), SqL.of (W.sub _ _ (s _ _ h)), List.getElem?_eq_getElem _⟩
  yld := fun i d H G x H' hd W s ⟨e, y⟩ => by
    subst e
    have hx := y vs (SqL.of (W.sub _ _ (s _ _ h)))
    obtain ⟨d', h1, h2⟩ := dpAll_get k hx
    rw [hd] at h1
    cases h1
    exact ⟨G, Ext.refl W, .inl (dp_same s _ _ h2)⟩
  stop := fun H G W s => ⟨vs, SqL.of (W.sub _ _ (s _ _ h)), Nat.le_of_eq (dpAll_length k)⟩
theorem yields_tup {a : Addr} {vs : List V} {ds : List D} (h : SqT c.K F a vs) (k : RpAll c.K F vs ds) : Yields c (Itt c.K a) F ds where
  go := fun i H G hi W s => by
    have hl := dpAll_length k
    exact ⟨vs, vs[i]'(by omega), same_t (s.trans W.sub) h, List.getElem?_eq_getElem _⟩
  yld := fun i d H G x H' hd W s ⟨e, y⟩ => by
    subst e
    have hx := y vs (same_t (s.trans W.sub) h)
    obtain ⟨d', h1, h2⟩ := dpAll_get k hx
    rw [hd] at h1
    cases h1
    exact ⟨G, Ext.refl W, .inl (dp_same s _ _ h2)⟩
  stop := fun H G W s => ⟨vs, same_t (s.trans W.sub) h, Nat.le_of_eq (dpAll_length k)⟩
def rngD (lo : Int) (n : Nat) : List D := (List.range n).map fun k => .int (lo + (k : Nat))
theorem rngD_length {lo : Int} {n : Nat} : (rngD lo n).length = n := by simp [rngD]
theorem rngD_get {lo : Int} {n i : Nat} {d : D} (h : (rngD lo n)[i]? = some d) : i < n ∧ d = .int (lo + (i : Nat)) := by
  unfold rngD at h
  rw [List.getElem?_map] at h
  cases q : (List.range n)[i]? with
  | none => rw [q] at h; cases h
  | some j =>
    rw [q] at h
    cases h
    obtain ⟨hi, e⟩ := List.getElem?_eq_some_iff.mp q
    rw [List.getElem_range] at e
    subst e
    exact ⟨by simpa using hi, rfl⟩
theorem yields_rng {lo : Int} {n : Nat} : Yields c (Itr lo n) F (rngD lo n) where
  go := fun i H G hi W s => by rw [rngD_length] at hi; exact hi
  yld := fun i d H G x H' hd W s ⟨e, y⟩ => by
    subst e
    obtain ⟨_, rfl⟩ := rngD_get hd
    rw [y]
    exact ⟨G, Ext.refl W, .int⟩
  stop := fun H G W s => by rw [rngD_length]; exact Nat.le_refl n
theorem xi_list {w : W} : ∀ σ H R, tI c (iLst w) σ H R → iList c.K (tD c w) σ H R := fun σ H R ⟨e, F, H0, Rd, W, S, q, P⟩ =>
  ⟨e, F, H0, _, W, S, q, fun d v H' F' ⟨ds, hd, r⟩ x rv => by
    subst hd
    obtain ⟨a, vs, rfl, h, k⟩ := rv.list_inv
    exact ⟨a, rfl, ⟨vs, SqL.of (x.ok.sub _ _ h)⟩, P ds _ H' F' r x (yields_list h k)⟩⟩
theorem xi_tup {w : W} : ∀ σ H R, tI c (iTpl w) σ H R → iTup c.K (tD c w) σ H R := fun σ H R ⟨e, F, H0, Rd, W, S, q, P⟩ =>
  ⟨e, F, H0, _, W, S, q, fun d v H' F' ⟨ds, hd, r⟩ x rv => by
    subst hd
    obtain ⟨a, vs, rfl, h, k⟩ := rv.tup_inv
    exact ⟨a, rfl, ⟨vs, same_t x.ok.sub h⟩, P ds _ H' F' r x (yields_tup h k)⟩⟩
theorem repVs_ints_inv : ∀ {vs : List V} {l : List Int}, RepVs c F vs (l.map PyData.int) → vs = l.map V.int
  | _, [], .nil => rfl
  | _, _ :: _, .cons h t => by rw [repVs_ints_inv t, h.int_inv]; rfl
@[simp] def iR1 (w : WA) : WA := fun e R => w e fun ds => ∃ j : Int, ds = [.int j] ∧ -(2 ^ 62) ≤ j ∧ j < 2 ^ 62 ∧ R (rngD 0 j.toNat)
@[simp] def iR2 (w : WA) : WA := fun e R => w e fun ds => ∃ i j : Int, ds = [.int i, .int j] ∧ (-(2 ^ 62) ≤ i ∧ i < 2 ^ 62 ∧ -(2 ^ 62) ≤ j ∧ j < 2 ^ 62) ∧ R (rngD i (j - i).toNat)
theorem xi_rng1 {w : WA} : ∀ σ H R, tI c (iR1 w) σ H R → iRng1 (tA c w) σ H R := fun σ H R ⟨e, F, H0, Rd, W, S, q, P⟩ =>
  ⟨e, F, H0, _, W, S, q, fun ds vs H' F' ⟨j, hd, h1, h2, r⟩ x rv => by
    subst hd
    exact ⟨j, repVs_ints_inv (l := [j]) rv, h1, h2, P _ _ H' F' r x yields_rng⟩⟩
theorem xi_rng2 {w : WA} : ∀ σ H R, tI c (iR2 w) σ H R → iRng2 (tA c w) σ H R := fun σ H R ⟨e, F, H0, Rd, W, S, q, P⟩ =>
  ⟨e, F, H0, _, W, S, q, fun ds vs H' F' ⟨i, j, hd, h1, r⟩ x rv => by
    subst hd
    exact ⟨i, j, repVs_ints_inv (l := [i, j]) rv, h1, P _ _ H' F' r x yields_rng⟩⟩
/-! ### for -/
abbrev WG := D → Sg → (Sg → Prop) → Prop
/-- a target's reading: where it stores a datum -/
def gD (c : Amb) (wg : WG) (g : TG) : Prop := ∀ (v : V) (d : D) (σ : L2.St) (H F H0 : Hp) (e : Sg) (R : Sg → Prop) (Q : L2.St → Hp → Prop), Wok c H F → RepS c H0 σ H F e → RepV c F v d → wg d e R → (∀ σ' e', R e' → RepS c H0 σ' H F e' → Q σ' H) → g v σ H Q
@[simp] def tgN (i : Nat) : WG := fun d e R => R (e.set i (.val d))
@[simp] def tgT (is : List Nat) : WG := fun d e R => ∃ ds, d = .tuple ds ∧ ds.length = is.length ∧ R (setAll e is ds)
theorem gd_name {i : Nat} : gD c (tgN i) (gName i) := fun v d σ H F H0 e R Q W S rv r k => k _ _ r (S.set_val i rv)
theorem gd_tup {is : List Nat} {n : Nat} (hn : n = is.length) : gD c (tgT is) (gTup c.K n (gNames is)) := fun v d σ H F H0 e R Q W S rv ⟨ds, hd, hl, r⟩ k => by
  subst hd
  obtain ⟨a, vs, rfl, ht, kk⟩ := rv.tup_inv
  exact ⟨a, vs, rfl, same_t W.sub ht, by rw [dpAll_length kk, hl, hn], gNames_ok is S kk hl fun σ' S' => k _ _ r S'⟩
/-- a for over these, one after another -/
def forRun (wg : WG) (wb : WS) (De : EndsD) : List D → Sg → Prop
  | [], e => De.nx e
  | d :: ds, e => wg d e fun e' => wb { De with nx := fun e2 => forRun wg wb De ds e2, ct := fun e2 => forRun wg wb De ds e2, bk := De.nx } e'
@[simp] def dFor (wi : WA) (wg : WG) (wb : WS) : WS := fun De e => wi e fun ds => forRun wg wb De ds e
theorem drop_at {α : Type} {l : List α} {i : Nat} (h : i < l.length) : l.drop i = l[i] :: l.drop (i + 1) := List.drop_eq_getElem_cons h
theorem xs_for {wi : WA} {wg : WG} {wb : WS} {g : TG} (hg : gD c wg g) : ∀ Dn σ H, sD c E (dFor wi wg wb) Dn σ H → tFor (tI c wi) g (sD c E wb) Dn σ H := fun Dn σ H ⟨e, F, H0, F0, De, x, S, q, K⟩ =>
  ⟨e, F, H0, _, x.ok, S, q, fun ds J H1 F1 i0 x1 Y => by
    refine ⟨fun i m σ H => m = ds.length - i ∧ i ≤ ds.length ∧ ∃ e F, Ext c H0 F0 H F ∧ RepS c H0 σ H F e ∧ Same F1 F ∧ forRun wg wb De (ds.drop i) e, ⟨_, rfl, Nat.zero_le _, e, F1, x.trans x1, S.ext x.ok x1, fun _ _ h => h, i0⟩, ?_⟩
    rintro i m σ' H' ⟨rfl, hi, e', F', x', S', s', h'⟩
    by_cases hlt : i < ds.length
    · refine .inr ⟨Y.go i H' F' hlt x'.ok s', fun σ2 H2 => ∃ e F, Ext c H0 F0 H2 F ∧ RepS c H0 σ2 H2 F e ∧ Same F1 F ∧ forRun wg wb De (ds.drop (i + 1)) e, fun σ2 H2 ⟨e2, F2, a, b, d, f⟩ => ⟨ds.length - (i + 1), by omega, rfl, hlt, e2, F2, a, b, d, f⟩, fun v H2 y => ?_⟩
      have hd : ds[i]? = some ds[i] := List.getElem?_eq_getElem hlt
      rw [drop_at hlt] at h'
      obtain ⟨F2, x2, rv⟩ := Y.yld i _ H' F' v H2 hd x'.ok s' y
      refine hg v _ σ' H2 F2 H0 e' _ _ x2.ok (S'.ext x'.ok x2) rv h' fun σ3 e3 r3 S3 => ?_
      -- the frozen part has grown since the loop's start: it is carried in what is kept
      refine ⟨e3, F2, H0, F2, _, ⟨x2.ok, fun _ _ h => h, (x'.trans x2).keep, fun b h h' => absurd h h', x.pre⟩, S3, r3, ?_⟩
      have up : ∀ {H3 F3 : Hp}, Ext c H0 F2 H3 F3 → Ext c H0 F0 H3 F3 := fun {H3 F3} z => ⟨z.ok, fun b o h => z.grow b o ((x'.trans x2).grow b o h), z.keep, fun b h h' => by
        by_cases q2 : F2 b = none
        · exact z.new b q2 h'
        · exact (x'.trans x2).new b h q2, x.pre⟩
      refine ⟨fun e4 σ4 H4 F4 n z S4 => ⟨e4, F4, up z, S4, (s'.trans x2.grow).trans z.grow, n⟩, fun d4 v4 H4 F4 n z rv => K.rt d4 v4 H4 F4 n (up z) rv, fun ds4 p vs4 H4 F4 n z h0 h1 h2 h3 k4 => K.rn ds4 p vs4 H4 F4 n (up z) h0 h1 h2 h3 k4,
        fun e4 σ4 H4 F4 n z S4 => K.nx e4 σ4 H4 F4 n (up z) S4, fun e4 σ4 H4 F4 n z S4 => ⟨e4, F4, up z, S4, (s'.trans x2.grow).trans z.grow, n⟩, fun x4 H4 F4 n z => K.ex x4 H4 F4 n (up z)⟩
    · have he : i = ds.length := by omega
      subst he
      rw [List.drop_length] at h'
      exact .inl ⟨Y.stop H' F' x'.ok s', K.nx e' σ' H' F' h' x' S'⟩⟩
/-! ### comprehensions -/
@[simp] def wipeS : Sg → List Nat → Sg
  | e, [] => e
  | e, v :: vs => (wipeS e vs).set v .un
theorem RepS.wipe {e : Sg} (S : RepS c H0 σ H F e) : ∀ vs : List Nat, RepS c H0 (wipe σ vs) H F (wipeS e vs)
  | [] => S
  | v :: vs => (S.wipe vs).set_un v none
/-- the slots that a target stores: what they forget again is as before -/
def Stores (g : TG) (vs : List Nat) : Prop := ∀ (v : V) (σ : L2.St) (H : Hp) (Q : L2.St → Hp → Prop), g v (wipe σ vs) H Q → g v (wipe σ vs) H fun σ2 H2 => wipe σ2 vs = wipe σ vs ∧ Q σ2 H2
theorem stores_name {i : Nat} : Stores (gName i) [i] := fun v σ H Q h => ⟨by simp [L2.wipe], h⟩
/-- a comprehension over these, one after another; acc: what is made so far -/
def lcRun (g : D → (Sg → Prop) → Prop) (wt : WT) (we : W) (R : List D → Prop) : List D → List D → Prop
  | [], acc => R acc
  | d :: ds, acc => g d fun e' => wt e' fun b => if b = true then we e' fun y => y ≠ .dict [] ∧ lcRun g wt we R ds (acc ++ [y]) else lcRun g wt we R ds acc
@[simp] def dLcW (wi : WA) (wg : WG) (wt : WT) (we : W) (vs : List Nat) : WA := fun e R => wi e fun ds => ds.length ≤ 1000000 ∧ lcRun (fun d k => wg d (wipeS e vs) k) wt we R ds []
theorem xn_lc {wi : WA} {wg : WG} {wt : WT} {we : W} {g : TG} {vs : List Nat} (hg : gD c wg g) (hs : Stores g vs) : ∀ σ H Q, tN c (dLcW wi wg wt we vs) σ H Q → tLc (tI c wi) g (tT c wt) (tD c we) vs σ H Q := fun σ H Q ⟨e, F, H0, R, W, S, q, P⟩ =>
  ⟨e, F, H0, _, W, S, q, fun ds J H1 F1 ⟨hlen, i0⟩ x1 Y => fun L hL => by
    have n0 : F1 L = none := x1.ok.newF hL
    have nr : L ≠ c.r := x1.ok.newR hL
    have h0 : H L = none := x1.free hL
    refine ⟨fun i m H2 => m = ds.length - i ∧ i ≤ ds.length ∧ ∃ F2 ws acc, Ext c H F H2 F2 ∧ Same F1 F2 ∧ H2 L = some (.lst ws) ∧ F2 L = none ∧ RpAll c.K F2 ws acc ∧ acc.length ≤ i ∧ lcRun (fun d k => wg d (wipeS e vs) k) wt we R (ds.drop i) acc,
      ⟨_, rfl, Nat.zero_le _, F1, [], [], x1.trans (Ext.loose x1.ok _ hL), fun _ _ h => h, upd_same, n0, .nil, Nat.le_refl _, i0⟩, ?_⟩
    rintro i m H2 ⟨rfl, hi, F2, ws, acc, x2, s2, hL2, n2, k2, ha, hI⟩
    by_cases hlt : i < ds.length
    · refine .inr ⟨Y.go i H2 F2 hlt x2.ok s2, fun H3 => ∃ F3 ws acc, Ext c H F H3 F3 ∧ Same F1 F3 ∧ H3 L = some (.lst ws) ∧ F3 L = none ∧ RpAll c.K F3 ws acc ∧ acc.length ≤ i + 1 ∧ lcRun (fun d k => wg d (wipeS e vs) k) wt we R (ds.drop (i + 1)) acc,
        fun H3 ⟨F3, ws3, acc3, a1, a2, a3, a4, a5, a6, a7⟩ => ⟨ds.length - (i + 1), by omega, rfl, hlt, F3, ws3, acc3, a1, a2, a3, a4, a5, a6, a7⟩, fun v H3 y => ?_⟩
      have hd : ds[i]? = some ds[i] := List.getElem?_eq_getElem hlt
      rw [drop_at hlt] at hI
      obtain ⟨F3, x3, rv⟩ := Y.yld i _ H2 F2 v H3 hd x2.ok s2 y
      have still : ∀ {H4 F4 : Hp}, Ext c H2 F2 H4 F4 → H4 L = some (.lst ws) ∧ F4 L = none ∧ RpAll c.K F4 ws acc := fun {H4 F4} z => by
        refine ⟨z.keep L _ hL2 nr (x2.ok.noP hL2), ?_, dpAll_same z.grow _ _ k2⟩
        cases q4 : F4 L with
        | none => exact rfl
        | some u =>
          have := z.new L n2 (by rw [q4]; simp)
          rw [hL2] at this; cases this
      refine hs v σ H3 _ (hg v _ _ H3 F3 H0 _ _ _ x3.ok ((S.wipe vs).ext W (x2.trans x3)) rv hI fun σ4 e4 r4 S4 => ?_)
      refine ⟨e4, F3, H0, _, x3.ok, S4, r4, fun b H5 F5 r5 x5 => ?_⟩
      have x35 := x3.trans x5
      cases b with
      | false =>
        obtain ⟨b1, b2, b3⟩ := still x35
        exact ⟨F5, ws, acc, x2.trans x35, (s2.trans x35.grow), b1, b2, b3, by omega, by simpa using r5⟩
      | true =>
        refine ⟨e4, F5, H0, fun y => y ≠ .dict [] ∧ lcRun (fun d k => wg d (wipeS e vs) k) wt we R (ds.drop (i + 1)) (acc ++ [y]), x5.ok, S4.ext x3.ok x5, by simpa using r5, fun y v6 H6 F6 ⟨hy, r6⟩ x6 rv6 => ?_⟩
        have x36 := x35.trans x6
        obtain ⟨b1, b2, b3⟩ := still x36
        have hz : ws.length = acc.length := dpAll_length k2
        refine ⟨ws, b1, len_lt (by omega), ⟨F6, ws ++ [v6], acc ++ [y], ?_, s2.trans x36.grow, upd_same, b2, dpAll_app b3 (.cons (rv6.dp hy) .nil), by simp; omega, r6⟩⟩
        exact (x2.trans x36).mut h0 b1 b2 nr _
    · have he : i = ds.length := by omega
      subst he
      rw [List.drop_length] at hI
      exact .inl ⟨Y.stop H2 F2 x2.ok s2, P acc L ws H2 F2 hI x2 h0 hL2 n2 nr k2⟩⟩
end
end FW
/-! FW3: built-ins, subscripts, slices, a slot's own list, defs. -/
namespace FW
open PySem PySem.Spec PyProof.Rows L2
section
variable {c : Amb} {E : XK} {H F H0 F0 H1 F1 : Hp} {σ : L2.St} {X : Cx}
theorem pe_gint {x : Str} {i : Int} {pos : Pos} (hg : Gl X x) (h : ∃ t, X.mg x = some (.int i t)) (hd : (x == ("__debug__" : Str)) = false := by decide) : PE X (.Name x pos) (tC (.int i)) := by
  obtain ⟨t, e⟩ := h
  exact pe_glob hg e ⟨t, rfl⟩ hd
/-! ### sequences read -/
inductive IsSeq : D → List D → Prop
  | lst (ds : List D) : IsSeq (.list ds) ds
  | tup (ds : List D) : IsSeq (.tuple ds) ds
theorem seq_inv {d : D} {ds : List D} (h : IsSeq d ds) {v : V} (r : RepV c F v d) (s : Same F H) : ∃ a vs, v = .ref a ∧ (SqL c.K H a vs ∨ SqT c.K H a vs) ∧ RpAll c.K F vs ds := by
  cases h with
  | lst =>
    obtain ⟨a, vs, e, h1, h2⟩ := r.list_inv
    exact ⟨a, vs, e, .inl (SqL.of (s _ _ h1)), h2⟩
  | tup =>
    obtain ⟨a, vs, e, h1, h2⟩ := r.tup_inv
    exact ⟨a, vs, e, .inr (same_t s h1), h2⟩
theorem reps1 {vs : List V} {d : D} (r : RepVs c F vs [d]) : ∃ v, vs = [v] ∧ RepV c F v d := by
  cases r with
  | cons h t => cases t; exact ⟨_, rfl, h⟩
theorem reps2 {vs : List V} {d e : D} (r : RepVs c F vs [d, e]) : ∃ v u, vs = [v, u] ∧ RepV c F v d ∧ RepV c F u e := by
  cases r with
  | cons h t =>
    obtain ⟨u, rfl, q⟩ := reps1 t
    exact ⟨_, _, rfl, h, q⟩
@[simp] def rdLen : List D → (D → Prop) → Prop := fun ds R => ∃ d xs, ds = [d] ∧ IsSeq d xs ∧ R (.int (xs.length : Nat))
theorem cd_len : CallD c (fun xs H Q => ∃ p ys, xs = [.ref p] ∧ (SqL c.K H p ys ∨ SqT c.K H p ys) ∧ Q (.int ys.length) H) rdLen := by
  rintro H F vs ds R Q W rv ⟨d, xs, rfl, hs, r⟩ P
  obtain ⟨v, rfl, q⟩ := reps1 rv
  obtain ⟨a, ws, rfl, h1, h2⟩ := seq_inv hs q W.sub
  refine ⟨a, ws, rfl, h1, P.here W r ?_⟩
  rw [dpAll_length h2]; exact .int
@[simp] def rdTuple : List D → (D → Prop) → Prop := fun ds R => ∃ d xs, ds = [d] ∧ IsSeq d xs ∧ R (.tuple xs)
theorem cd_tuple : CallD c (fun xs H Q => ∃ p ys, xs = [.ref p] ∧ ((SqL c.K H p ys ∧ ∀ l, H l = none → Q (.ref l) (upd H l (.tup ys))) ∨ (SqT c.K H p ys ∧ Q (.ref p) H))) rdTuple := by
  rintro H F vs ds R Q W rv ⟨d, xs, rfl, hs, r⟩ P
  obtain ⟨v, rfl, q⟩ := reps1 rv
  cases hs with
  | lst =>
    obtain ⟨a, ws, rfl, h1, h2⟩ := q.list_inv
    exact ⟨a, ws, rfl, .inl ⟨SqL.of (W.sub _ _ h1), P.newTup W h2 r⟩⟩
  | tup =>
    obtain ⟨a, ws, rfl, h1, h2⟩ := q.tup_inv
    exact ⟨a, ws, rfl, .inr ⟨same_t W.sub h1, P.here W r (.inl (.tup h1 h2))⟩⟩
@[simp] def rdList : List D → (D → Prop) → Prop := fun ds R => ∃ d xs, ds = [d] ∧ IsSeq d xs ∧ R (.list xs)
theorem cd_list : CallD c (fun xs H Q => ∃ p ys, xs = [.ref p] ∧ (SqL c.K H p ys ∨ SqT c.K H p ys) ∧ ∀ l, H l = none → Q (.ref l) (upd H l (.lst ys))) rdList := by
  rintro H F vs ds R Q W rv ⟨d, xs, rfl, hs, r⟩ P
  obtain ⟨v, rfl, q⟩ := reps1 rv
  obtain ⟨a, ws, rfl, h1, h2⟩ := seq_inv hs q W.sub
  exact ⟨a, ws, rfl, h1, P.newLst W h2 r⟩
def rdMax2 : List D → (D → Prop) → Prop := fun ds R => ∃ i j, ds = [.int i, .int j] ∧ R (.int (if j > i then j else i))
def rdMin2 : List D → (D → Prop) → Prop := fun ds R => ∃ i j, ds = [.int i, .int j] ∧ R (.int (if j < i then j else i))
theorem cd_max2 : CallD c (fun xs H Q => ∃ i j, xs = [.int i, .int j] ∧ Q (.int (if j > i then j else i)) H) rdMax2 := by
  rintro H F vs ds R Q W rv ⟨i, j, rfl, r⟩ P
  exact ⟨i, j, repVs_ints_inv (l := [i, j]) rv, P.here W r .int⟩
theorem cd_min2 : CallD c (fun xs H Q => ∃ i j, xs = [.int i, .int j] ∧ Q (.int (if j < i then j else i)) H) rdMin2 := by
  rintro H F vs ds R Q W rv ⟨i, j, rfl, r⟩ P
  exact ⟨i, j, repVs_ints_inv (l := [i, j]) rv, P.here W r .int⟩
def rdInt1 : List D → (D → Prop) → Prop := fun ds R => (∃ i, ds = [.int i] ∧ R (.int i)) ∨ ∃ k, ds = [.bool k] ∧ R (.int (if k then 1 else 0))
theorem cd_int1 : CallD c (fun xs H Q => (∃ i, xs = [.int i] ∧ Q (.int i) H) ∨ ∃ k, xs = [.bl k] ∧ Q (.int (if k then 1 else 0)) H) rdInt1 := by
  rintro H F vs ds R Q W rv (⟨i, rfl, r⟩ | ⟨k, rfl, r⟩) P
  · obtain ⟨v, rfl, q⟩ := reps1 rv
    exact .inl ⟨i, by rw [q.int_inv], P.here W r .int⟩
  · obtain ⟨v, rfl, q⟩ := reps1 rv
    exact .inr ⟨k, by rw [q.bl_inv], P.here W r .int⟩
def rdMaxL : List D → (D → Prop) → Prop := fun ds R => ∃ ns : List Int, ds = [.list (ns.map .int)] ∧ 0 < ns.length ∧ ∀ m, m ∈ ns → (∀ y, y ∈ ns → y ≤ m) → R (.int m)
def rdMinL : List D → (D → Prop) → Prop := fun ds R => ∃ ns : List Int, ds = [.list (ns.map .int)] ∧ 0 < ns.length ∧ ∀ m, m ∈ ns → (∀ y, y ∈ ns → m ≤ y) → R (.int m)
theorem cd_maxL : CallD c (rMax c.K) rdMaxL := by
  rintro H F vs ds R Q W rv ⟨ns, rfl, h, r⟩ P
  obtain ⟨v, rfl, q⟩ := reps1 rv
  obtain ⟨a, ws, rfl, h1, h2⟩ := q.list_inv
  have e := dpAll_ints_inv ns ws h2
  subst e
  exact ⟨a, ns, rfl, SqL.of (W.sub _ _ h1), h, fun m hm hle => P.here W (r m hm hle) .int⟩
theorem cd_minL : CallD c (rMin c.K) rdMinL := by
  rintro H F vs ds R Q W rv ⟨ns, rfl, h, r⟩ P
  obtain ⟨v, rfl, q⟩ := reps1 rv
  obtain ⟨a, ws, rfl, h1, h2⟩ := q.list_inv
  have e := dpAll_ints_inv ns ws h2
  subst e
  exact ⟨a, ns, rfl, SqL.of (W.sub _ _ h1), h, fun m hm hle => P.here W (r m hm hle) .int⟩
/-- sorted of ints -/
def rdSortI : List D → (D → Prop) → Prop := fun ds R => ∃ ns : List Int, ds = [.list (ns.map .int)] ∧ ∀ ns' : List Int, ns'.Perm ns → ns'.Pairwise (· ≤ ·) → R (.list (ns'.map .int))
theorem cd_sortI : CallD c (rSortedI c.K) rdSortI := by
  rintro H F vs ds R Q W rv ⟨ns, rfl, r⟩ P
  obtain ⟨v, rfl, q⟩ := reps1 rv
  obtain ⟨a, ws, rfl, h1, h2⟩ := q.list_inv
  have e := dpAll_ints_inv ns ws h2
  subst e
  exact ⟨a, ns, rfl, SqL.of (W.sub _ _ h1), fun ns' p hp hs hn => P.newLst W (dpAll_ints ns') (r ns' hp hs) p hn⟩
/-! ### a[i] -/
@[simp] def rdIx : D → D → (D → Prop) → Prop := fun x y R => ∃ ds i d, IsSeq x ds ∧ y = .int i ∧ atI ds i = some d ∧ R d
theorem atI_dp {K : PySem.W.Frag} {vs : List V} {ds : List D} {i : Int} {d : D} (k : RpAll K F vs ds) (h : atI ds i = some d) : ∃ v, atI vs i = some v ∧ Rp K F v d := by
  unfold atI at h ⊢
  rw [dpAll_length k]
  cases q : ixN ds.length i with
  | none => rw [q] at h; cases h
  | some j =>
    rw [q] at h
    exact dpAll_at k h
theorem od_ixL : OpD c (fun x y H Q => rIxL c.K x y H Q ∨ rIxT c.K x y H Q) rdIx := by
  rintro H F x y d e R Q W rx ry ⟨ds, i, d', hs, rfl, hi, r⟩ P
  cases hs with
  | lst =>
    obtain ⟨a, ws, rfl, h1, h2⟩ := rx.list_inv
    obtain ⟨v, e1, e2⟩ := atI_dp h2 hi
    exact .inl ⟨a, ws, i, v, rfl, ry.int_inv, SqL.of (W.sub _ _ h1), e1, P.here W r (.inl e2)⟩
  | tup =>
    obtain ⟨a, ws, rfl, h1, h2⟩ := rx.tup_inv
    obtain ⟨v, e1, e2⟩ := atI_dp h2 hi
    exact .inr ⟨a, ws, i, v, rfl, ry.int_inv, same_t W.sub h1, e1, P.here W r (.inl e2)⟩
theorem ix_lt : IxR X (fun x y H Q => rIxL X.K x y H Q ∨ rIxT X.K x y H Q) := ix_list.or ix_tup
/-! ### a[lo:hi] -/
abbrev WO := Sg → (Option Int → Prop) → Prop
def tO (c : Amb) (w : WO) : TO := fun σ H Q => ∃ e F H0 R, Wok c H F ∧ RepS c H0 σ H F e ∧ w e R ∧ ∀ o H' F', R o → Ext c H F H' F' → Q o H'
theorem po_w {X : Cx} {o : Option Expr} {t t' : TO} (h : PO X o t) (k : ∀ σ H Q, t' σ H Q → t σ H Q) : PO X o t' := ⟨fun pins s σ H Q I q => h.run pins s σ H Q I (k σ H Q q)⟩
@[simp] def oNone : WO := fun _ R => R none
@[simp] def oSome (w : W) : WO := fun e R => w e fun d => ∃ i, d = .int i ∧ R (some i)
theorem xo_none : ∀ σ H Q, tO c oNone σ H Q → tNoPart σ H Q := fun σ H Q ⟨e, F, H0, R, W, S, q, P⟩ => P none H F q (Ext.refl W)
theorem xo_some {w : W} : ∀ σ H Q, tO c (oSome w) σ H Q → tPart (tD c w) σ H Q := fun σ H Q ⟨e, F, H0, R, W, S, q, P⟩ =>
  ⟨e, F, H0, _, W, S, q, fun d v H1 F1 ⟨i, hi, q1⟩ x1 r1 => by subst hi; exact ⟨i, r1.int_inv, P _ H1 F1 q1 x1⟩⟩
def cutD (ds : List D) (lo hi : Option Int) : List D := (ds.drop (HT.sIx ds.length 0 lo)).take (HT.sIx ds.length ds.length hi - HT.sIx ds.length 0 lo)
theorem cut_dp {K : PySem.W.Frag} {vs : List V} {ds : List D} (k : RpAll K F vs ds) (lo hi : Option Int) : RpAll K F (cutV vs lo hi) (cutD ds lo hi) := by
  unfold cutV cutD
  rw [dpAll_length k]
  exact dpAll_take _ (dpAll_drop _ k)
@[simp] def dSl (w : W) (lo hi : WO) (mk : List D → D) : W := fun e R => w e fun d => lo e fun l => hi e fun h => ∃ ds, d = mk ds ∧ R (mk (cutD ds l h))
theorem xd_slT {w : W} {lo hi : WO} : ∀ σ H Q, tD c (dSl w lo hi .tuple) σ H Q → tSl (rSlA c.K) (tD c w) (tO c lo) (tO c hi) σ H Q := fun σ H Q ⟨e, F, H0, R, W, S, q, P⟩ =>
  ⟨e, F, H0, _, W, S, q, fun d v H1 F1 q1 x1 r1 => ⟨e, F1, H0, _, x1.ok, S.ext W x1, q1, fun l H2 F2 q2 x2 => ⟨e, F2, H0, _, x2.ok, (S.ext W x1).ext x1.ok x2, q2, fun h H3 F3 ⟨ds, hd, q3⟩ x3 => by
    subst hd
    have x13 := (x1.trans x2).trans x3
    obtain ⟨a, vs, rfl, h1, h2⟩ := (r1.grow (x2.trans x3).grow).tup_inv
    refine ⟨a, vs, rfl, same_t x3.ok.sub h1, fun hw => ?_, fun _ => (P.ext x13).newTup x3.ok (cut_dp h2 l h) q3⟩
    have e1 : cutD ds l h = ds := by
      unfold cutD
      rw [← dpAll_length h2, hw.1, hw.2]
      simp [dpAll_length h2]
    rw [e1] at q3
    exact P _ _ _ _ q3 x13 (.inl (.tup h1 h2))⟩⟩⟩
theorem xd_slL {w : W} {lo hi : WO} : ∀ σ H Q, tD c (dSl w lo hi .list) σ H Q → tSl (rSlL c.K) (tD c w) (tO c lo) (tO c hi) σ H Q := fun σ H Q ⟨e, F, H0, R, W, S, q, P⟩ =>
  ⟨e, F, H0, _, W, S, q, fun d v H1 F1 q1 x1 r1 => ⟨e, F1, H0, _, x1.ok, S.ext W x1, q1, fun l H2 F2 q2 x2 => ⟨e, F2, H0, _, x2.ok, (S.ext W x1).ext x1.ok x2, q2, fun h H3 F3 ⟨ds, hd, q3⟩ x3 => by
    subst hd
    have x13 := (x1.trans x2).trans x3
    obtain ⟨a, vs, rfl, h1, h2⟩ := (r1.grow (x2.trans x3).grow).list_inv
    exact ⟨a, vs, rfl, SqL.of (x3.ok.sub _ _ h1), (P.ext x13).newLst x3.ok (cut_dp h2 l h) q3⟩⟩⟩⟩
/-! ### + and * of sequences -/
@[simp] def rdCatT : D → D → (D → Prop) → Prop := fun x y R => ∃ xs ys, x = .tuple xs ∧ y = .tuple ys ∧ xs.length + ys.length ≤ 1000000 ∧ R (.tuple (xs ++ ys))
theorem od_catT : OpD c (rCatA c.K) rdCatT := by
  rintro H F x y d e R Q W rx ry ⟨xs, ys, rfl, rfl, hl, r⟩ P
  obtain ⟨a, vs, rfl, h1, h2⟩ := rx.tup_inv
  obtain ⟨b, us, rfl, g1, g2⟩ := ry.tup_inv
  have l1 := dpAll_length h2
  have l2 := dpAll_length g2
  refine ⟨a, b, vs, us, rfl, rfl, same_t W.sub h1, same_t W.sub g1, len_le (by omega), fun z => ?_, fun _ z => ?_, fun _ _ => P.newTup W (dpAll_app h2 g2) r⟩
  · subst z
    cases h2
    exact P.here W r (.inl (.tup g1 g2))
  · subst z
    cases g2
    rw [List.append_nil] at r
    exact P.here W r (.inl (.tup h1 h2))
@[simp] def rdCatL : D → D → (D → Prop) → Prop := fun x y R => ∃ xs ys, x = .list xs ∧ y = .list ys ∧ xs.length + ys.length ≤ 1000000 ∧ R (.list (xs ++ ys))
theorem od_catL : OpD c rCat rdCatL := by
  rintro H F x y d e R Q W rx ry ⟨xs, ys, rfl, rfl, hl, r⟩ P
  obtain ⟨a, vs, rfl, h1, h2⟩ := rx.list_inv
  obtain ⟨b, us, rfl, g1, g2⟩ := ry.list_inv
  have l1 := dpAll_length h2
  have l2 := dpAll_length g2
  exact ⟨a, b, vs, us, rfl, rfl, W.sub _ _ h1, W.sub _ _ g1, len_le (by omega), P.newLst W (dpAll_app h2 g2) r⟩
/-! ### in, not in, of flat data -/
def flatD : D → Bool
  | .none => true
  | .bool _ => true
  | .int _ => true
  | .str _ => true
  | _ => false
theorem flat_rp {K : PySem.W.Frag} {v : V} {d : D} (h : Rp K F v d) (hd : flatD d = true) : flatV v = true := by
  cases h <;> first | rfl | cases hd
theorem flat_all {K : PySem.W.Frag} : ∀ {vs : List V} {ds : List D}, RpAll K F vs ds → ds.all flatD = true → vs.all flatV = true
  | _, _, .nil, _ => rfl
  | _, _, .cons h t, e => by
    rw [List.all_cons, Bool.and_eq_true] at e ⊢
    exact ⟨flat_rp h e.1, flat_all t e.2⟩
def intsOf : List D → Option (List Int)
  | [] => some []
  | .int i :: r => (intsOf r).map (i :: ·)
  | _ => none
theorem inV_ints (i : Int) : ∀ l : List Int, inV (.int i) (l.map V.int) = decide (i ∈ l)
  | [] => rfl
  | j :: l => by
    have h := inV_ints i l
    unfold inV at h ⊢
    rw [List.map_cons, List.any_cons, h]
    have e : eqV (.int j) (.int i) = decide (j = i) := by
      show (j == i) = _
      exact Bool.beq_eq_decide_eq j i
    rw [e]
    by_cases q : i = j
    · subst q; simp
    · have q' : ¬ j = i := fun z => q z.symm
      simp [q, q']
theorem flat_ints : ∀ l : List Int, (l.map V.int).all flatV = true
  | [] => rfl
  | _ :: l => by rw [List.map_cons, List.all_cons, flat_ints l]; rfl
/-- an int in a sequence of ints -/
def rdInI (neg : Bool) : D → D → (D → Prop) → Prop := fun x y R => ∃ (i : Int) (ns : List Int), x = .int i ∧ (IsSeq y (ns.map PyData.int)) ∧ R (.bool (if neg = true then !decide (i ∈ ns) else decide (i ∈ ns)))
theorem od_inI {neg : Bool} : OpD c (rIn c.K neg) (rdInI neg) := by
  rintro H F x y d e R Q W rx ry ⟨i, ns, rfl, hs, r⟩ P
  have ex := rx.int_inv
  subst ex
  obtain ⟨a, vs, rfl, h1, h2⟩ := seq_inv hs ry W.sub
  have ev := dpAll_ints_inv ns vs h2
  subst ev
  refine ⟨a, _, rfl, h1, rfl, flat_ints ns, ?_⟩
  rw [inV_ints]
  exact P.here W r .bl
/-! ### list(range(..)) -/
def tRgD (c : Amb) (w : Sg → (Int → Int → Prop) → Prop) : L2.St → Hp → (Int → Int → Hp → Prop) → Prop := fun σ H Q => ∃ e F H0 R, Wok c H F ∧ RepS c H0 σ H F e ∧ w e R ∧ ∀ a b H' F', R a b → Ext c H F H' F' → Q a b H'
theorem prg_w {x : Expr} {t t' : L2.St → Hp → (Int → Int → Hp → Prop) → Prop} (h : PRg X x t) (k : ∀ σ H Q, t' σ H Q → t σ H Q) : PRg X x t' := fun pins s σ H Q I q => h pins s σ H Q I (k σ H Q q)
@[simp] def gRg2 (wa wb : W) : Sg → (Int → Int → Prop) → Prop := fun e R => wa e fun x => wb e fun y => ∃ i j, x = .int i ∧ y = .int j ∧ R i j
@[simp] def gRg1 (wa : W) : Sg → (Int → Int → Prop) → Prop := fun e R => wa e fun x => ∃ i, x = .int i ∧ R 0 i
theorem xg_rg2 {wa wb : W} : ∀ σ H Q, tRgD c (gRg2 wa wb) σ H Q → tRg2 (tD c wa) (tD c wb) σ H Q := fun σ H Q ⟨e, F, H0, R, W, S, q, P⟩ =>
  ⟨e, F, H0, _, W, S, q, fun d v H1 F1 q1 x1 r1 => ⟨e, F1, H0, _, x1.ok, S.ext W x1, q1, fun d2 v2 H2 F2 ⟨i, j, h1, h2, r⟩ x2 r2 => by
    subst h1 h2
    exact ⟨i, j, r1.int_inv, r2.int_inv, P i j H2 F2 r (x1.trans x2)⟩⟩⟩
theorem xg_rg1 {wa : W} : ∀ σ H Q, tRgD c (gRg1 wa) σ H Q → tRg1 (tD c wa) σ H Q := fun σ H Q ⟨e, F, H0, R, W, S, q, P⟩ =>
  ⟨e, F, H0, _, W, S, q, fun d v H1 F1 ⟨i, h1, r⟩ x1 r1 => by
    subst h1
    exact ⟨i, r1.int_inv, P 0 i H1 F1 r x1⟩⟩
@[simp] def dLstRg (w : Sg → (Int → Int → Prop) → Prop) : W := fun e R => w e fun a b => RgOk a b ∧ R (.list (rngD a (b - a).toNat))
theorem rgV_dp {K : PySem.W.Frag} (a b : Int) : RpAll K F (rgV a b) (rngD a (b - a).toNat) := by
  unfold rgV rngD
  have e1 : ∀ n : List Nat, n.map (fun i => V.int (a + (i : Nat))) = (n.map fun i => a + (i : Nat)).map V.int := fun n => by rw [List.map_map]; rfl
  have e2 : ∀ n : List Nat, n.map (fun i => PyData.int (a + (i : Nat))) = (n.map fun i => a + (i : Nat)).map PyData.int := fun n => by rw [List.map_map]; rfl
  rw [e1, e2]
  exact dpAll_ints _
theorem xd_lstRg {w : Sg → (Int → Int → Prop) → Prop} : ∀ σ H Q, tD c (dLstRg w) σ H Q → tLstRg (tRgD c w) σ H Q := fun σ H Q ⟨e, F, H0, R, W, S, q, P⟩ =>
  ⟨e, F, H0, _, W, S, q, fun a b H1 F1 ⟨h, r⟩ x1 => ⟨h, (P.ext x1).newLst x1.ok (rgV_dp a b) r⟩⟩
/-! ### zip of two tuples, a pair as the target -/
def rdZip (ds : List D) (R : List D → Prop) : Prop := ∃ xs ys, ds = [.tuple xs, .tuple ys] ∧ R ((xs.zip ys).map fun p => .tuple [p.1, p.2])
@[simp] def iZip (w : WA) : WA := fun e R => w e fun ds => rdZip ds R
theorem yields_zip {a b : Addr} {vs us : List V} {xs ys : List D} (h : SqT c.K F a vs) (k : RpAll c.K F vs xs) (h' : SqT c.K F b us) (k' : RpAll c.K F us ys) : Yields c (RZ.ItzT c.K a b) F ((xs.zip ys).map fun p => .tuple [p.1, p.2]) where
  go := fun i H G hi W s => by
    have hl := dpAll_length k
    have hl' := dpAll_length k'
    simp at hi
    exact ⟨vs, us, vs[i]'(by omega), us[i]'(by omega), same_t (s.trans W.sub) h, same_t (s.trans W.sub) h', List.getElem?_eq_getElem _, List.getElem?_eq_getElem _⟩
  yld := fun i d H G x H' hd W s ⟨T, x1, x2, e, hT, hH, q1, q2⟩ => by
    subst e hH
    obtain ⟨d1, e1, r1⟩ := dpAll_get k (q1 vs (same_t (s.trans W.sub) h))
    obtain ⟨d2, e2, r2⟩ := dpAll_get k' (q2 us (same_t (s.trans W.sub) h'))
    have e3 : ((xs.zip ys).map fun p => PyData.tuple [p.1, p.2])[i]? = some (.tuple [d1, d2]) := by
      rw [List.getElem?_map, List.getElem?_zip_eq_some (z := (d1, d2)) |>.mpr ⟨e1, e2⟩]; rfl
    rw [hd] at e3
    cases e3
    exact ⟨_, Ext.laid W _ hT, repTup upd_same (.cons (dp_same (s.trans (upd_keep (W.newF hT))) _ _ r1) (.cons (dp_same (s.trans (upd_keep (W.newF hT))) _ _ r2) .nil))⟩
  stop := fun H G W s => by
    have hl := dpAll_length k
    have hl' := dpAll_length k'
    refine ⟨vs, us, same_t (s.trans W.sub) h, same_t (s.trans W.sub) h', ?_⟩
    simp
    omega
theorem xi_zip {w : WA} : ∀ σ H R, tI c (iZip w) σ H R → RZ.iZipA c.K (tA c w) σ H R := fun σ H R ⟨e, F, H0, Rd, W, S, q, P⟩ =>
  ⟨e, F, H0, _, W, S, q, fun ds vs H' F' ⟨xs, ys, hd, r⟩ x rv => by
    subst hd
    obtain ⟨v, u, rfl, r1, r2⟩ := reps2 rv
    obtain ⟨a, us, rfl, h1, h2⟩ := r1.tup_inv
    obtain ⟨b, ws, rfl, g1, g2⟩ := r2.tup_inv
    exact ⟨a, b, us, ws, rfl, .inr ⟨same_t x.ok.sub h1, same_t x.ok.sub g1, P _ _ H' F' r x (yields_zip h1 h2 g1 g2)⟩⟩⟩
theorem stores_pair {K : PySem.W.Frag} {i j : Nat} : Stores (gTup K 2 (gNames [i, j])) [i, j] := fun v σ H Q ⟨a, xs, h1, h2, h3, x, r, h4, y, r', h5, h6, q⟩ =>
  ⟨a, xs, h1, h2, h3, x, r, h4, y, r', h5, h6, by
    simp [L2.wipe]
    apply List.ext_getElem?
    intro k
    simp only [List.getElem?_set, List.length_set]
    split <;> split <;> simp_all, q⟩
/-! ### a slot's own list -/
/-- x[k] -/
@[simp] def dOwnIx (i : Nat) (w : W) : W := fun e R => ∃ ds, e[i]? = some (.own ds) ∧ w e fun k => ∃ n d, k = .int n ∧ atI ds n = some d ∧ R d
theorem xd_ownIx {i : Nat} {w : W} : ∀ σ H Q, tD c (dOwnIx i w) σ H Q → tOp (fun x y H Q => rIxL c.K x y H Q ∨ rIxT c.K x y H Q) (tVar i) (tD c w) σ H Q := fun σ H Q ⟨e, F, H0, R, W, S, ⟨ds, h, q⟩, P⟩ => by
  obtain ⟨a, vs, h1, h2, h3, h4, h5, h6⟩ := S.own i ds h
  refine ⟨.ref a, h1, e, F, H0, _, W, S, q, fun d v H1 F1 ⟨n, d', g2, g3, r⟩ x1 rv => ?_⟩
  subst g2
  obtain ⟨v', e1, e2⟩ := atI_dp (dpAll_same x1.grow _ _ h6) g3
  exact .inl ⟨a, vs, n, v', rfl, rv.int_inv, SqL.of (x1.keep a _ h2 h5 (W.noP h2)), e1, P _ _ H1 F1 r x1 (.inl e2)⟩
/-- len(x) -/
@[simp] def dOwnLen (i : Nat) : W := fun e R => ∃ ds, e[i]? = some (.own ds) ∧ R (.int (ds.length : Nat))
theorem xd_ownLen {i : Nat} : ∀ σ H Q, tD c (dOwnLen i) σ H Q → tCB (fun xs H Q => ∃ p ys, xs = [.ref p] ∧ (SqL c.K H p ys ∨ SqT c.K H p ys) ∧ Q (.int ys.length) H) (tCons (tVar i) tNil) σ H Q := fun σ H Q ⟨e, F, H0, R, W, S, ⟨ds, h, q⟩, P⟩ => by
  obtain ⟨a, vs, h1, h2, h3, h4, h5, h6⟩ := S.own i ds h
  refine ⟨.ref a, h1, a, vs, rfl, .inl (SqL.of h2), P.here W q ?_⟩
  rw [dpAll_length h6]; exact .int
/-- the list of slot i becomes another one -/
theorem RepS.mut {e : Sg} (S : RepS c H0 σ H F e) {i : Nat} {ds : List D} (h : e[i]? = some (.own ds)) {a : Addr} {vs : List V} (h1 : σ[i]? = some (some (.ref a))) (h3 : F a = none) (h4 : H0 a = none) (h5 : a ≠ c.r) {ds' : List D} (k : RpAll c.K F vs ds') :
    RepS c H0 σ (upd H a (.lst vs)) F (e.set i (.own ds')) where
  exc := exc_set0 S.exc fun _ z => nomatch z
  len := by simp [S.len]
  val := fun j d hj => by
    by_cases hij : i = j
    · subst hij
      have hl := (List.getElem?_eq_some_iff.mp h).1
      rw [List.getElem?_set_self hl] at hj
      cases hj
    · rw [List.getElem?_set_ne hij] at hj
      exact S.val j d hj
  own := fun j es hj => by
    by_cases hij : i = j
    · subst hij
      have hl := (List.getElem?_eq_some_iff.mp h).1
      rw [List.getElem?_set_self hl] at hj
      cases hj
      exact ⟨a, vs, h1, upd_same, h3, h4, h5, k⟩
    · rw [List.getElem?_set_ne hij] at hj
      obtain ⟨b, ws, g1, g2, g3, g4, g5, g6⟩ := S.own j es hj
      refine ⟨b, ws, g1, ?_, g3, g4, g5, g6⟩
      rw [upd_ne (fun z => ?_)]
      · exact g2
      · rw [z] at g1
        exact S.dist i j ds es a hij h hj h1 g1
  dist := fun j k' es fs b hjk q1 q2 q3 q4 => by
    have f : ∀ (j : Nat) (es : List D), (e.set i (.own ds'))[j]? = some (.own es) → ∃ es', e[j]? = some (.own es') := fun j es hj => by
      by_cases hij : i = j
      · subst hij
        exact ⟨ds, h⟩
      · rw [List.getElem?_set_ne hij] at hj
        exact ⟨es, hj⟩
    obtain ⟨es1, p1⟩ := f j es q1
    obtain ⟨es2, p2⟩ := f k' fs q2
    exact S.dist j k' es1 es2 b hjk p1 p2 q3 q4
/-- x.append(e) -/
@[simp] def dApp (i : Nat) (w : W) : WS := fun De e => ∃ ds, e[i]? = some (.own ds) ∧ w e fun d => d ≠ .dict [] ∧ ds.length < 1000000 ∧ De.nx (e.set i (.own (ds ++ [d])))
theorem xs_app {i : Nat} {w : W} : ∀ Dn σ H, sD c E (dApp i w) Dn σ H → tDrop (tBM c.K "list" rAppend (tVar i) (tCons (tD c w) tNil)) Dn σ H := fun Dn σ H ⟨e, F, H0, F0, De, x, S, ⟨ds, h, q⟩, K⟩ => by
  obtain ⟨a, vs, h1, h2, h3, h4, h5, h6⟩ := S.own i ds h
  refine ⟨.ref a, h1, .inl ⟨rfl, vs, SqL.of h2⟩, e, F, H0, _, x.ok, S, q, fun d v H1 F1 ⟨hd, hl, r⟩ x1 rv => ?_⟩
  have g2 := x1.keep a _ h2 h5 (x.ok.noP h2)
  have g3 : F1 a = none := by
    obtain ⟨b, ws, e1, e2, e3, _⟩ := (S.ext x.ok x1).own i ds h
    rw [h1] at e1; cases e1; exact e3
  have kk := dpAll_app (dpAll_same x1.grow _ _ h6) (.cons (rv.dp hd) .nil)
  refine ⟨a, vs, v, rfl, rfl, g2, len_lt (by rw [dpAll_length h6]; exact hl), ?_⟩
  exact K.nx _ _ _ _ r ((x.trans x1).mut h4 g2 g3 h5 _) ((S.ext x.ok x1).mut h h1 g3 h4 h5 kk)
/-- x.extend(e) -/
@[simp] def dExt (i : Nat) (w : W) : WS := fun De e => ∃ ds, e[i]? = some (.own ds) ∧ w e fun d => ∃ es, d = .list es ∧ ds.length + es.length ≤ 1000000 ∧ De.nx (e.set i (.own (ds ++ es)))
theorem xs_ext {i : Nat} {w : W} : ∀ Dn σ H, sD c E (dExt i w) Dn σ H → tDrop (tBM c.K "list" rExtend (tVar i) (tCons (tD c w) tNil)) Dn σ H := fun Dn σ H ⟨e, F, H0, F0, De, x, S, ⟨ds, h, q⟩, K⟩ => by
  obtain ⟨a, vs, h1, h2, h3, h4, h5, h6⟩ := S.own i ds h
  refine ⟨.ref a, h1, .inl ⟨rfl, vs, SqL.of h2⟩, e, F, H0, _, x.ok, S, q, fun d v H1 F1 ⟨es, hd, hl, r⟩ x1 rv => ?_⟩
  subst hd
  obtain ⟨b, us, rfl, b1, b2⟩ := rv.list_inv
  have g2 := x1.keep a _ h2 h5 (x.ok.noP h2)
  have g3 : F1 a = none := by
    obtain ⟨b, ws, e1, e2, e3, _⟩ := (S.ext x.ok x1).own i ds h
    rw [h1] at e1; cases e1; exact e3
  have kk := dpAll_app (dpAll_same x1.grow _ _ h6) b2
  refine ⟨a, b, vs, us, rfl, rfl, g2, x1.ok.sub _ _ b1, len_le (by rw [dpAll_length h6, dpAll_length b2]; exact hl), ?_⟩
  exact K.nx _ _ _ _ r ((x.trans x1).mut h4 g2 g3 h5 _) ((S.ext x.ok x1).mut h h1 g3 h4 h5 kk)
/-- x[k] = e -/
@[simp] def dSetI (i : Nat) (w wk : W) : WS := fun De e => w e fun d => ∃ ds, e[i]? = some (.own ds) ∧ wk e fun k => ∃ n j, k = .int n ∧ ixN ds.length n = some j ∧ d ≠ .dict [] ∧ De.nx (e.set i (.own (ds.set j d)))
theorem xs_setI {i : Nat} {w wk : W} : ∀ Dn σ H, sD c E (dSetI i w wk) Dn σ H → tAsg (tD c w) (gSub (tVar i) (tD c wk) rSetL) Dn σ H := fun Dn σ H ⟨e, F, H0, F0, De, x, S, q, K⟩ => by
  refine ⟨e, F, H0, _, x.ok, S, q, fun d v H1 F1 ⟨ds, h, q1⟩ x1 rv => ?_⟩
  have S1 := S.ext x.ok x1
  obtain ⟨a, vs, h1, h2, h3, h4, h5, h6⟩ := S1.own i ds h
  refine ⟨.ref a, h1, e, F1, H0, _, x1.ok, S1, q1, fun k u H2 F2 ⟨n, j, hk, hj, hd, r⟩ x2 ru => ?_⟩
  subst hk
  have g2 := x2.keep a _ h2 h5 (x1.ok.noP h2)
  have g3 : F2 a = none := by
    obtain ⟨b, ws, e1, e2, e3, _⟩ := (S1.ext x1.ok x2).own i ds h
    rw [h1] at e1; cases e1; exact e3
  have kk := dpAll_set ((rv.grow x2.grow).dp hd) j (dpAll_same x2.grow _ _ h6)
  refine ⟨a, vs, n, j, rfl, ru.int_inv, g2, by rw [dpAll_length h6]; exact hj, ?_⟩
  exact K.nx _ _ _ _ r (((x.trans x1).trans x2).mut h4 g2 g3 h5 _) ((S1.ext x1.ok x2).mut h h1 g3 h4 h5 kk)
/-- [v] * n, nobody's yet -/
@[simp] def nRep (w : WA) (wn : W) : WA := fun e R => w e fun ds => ds.length ≤ 1000 ∧ noRow ds ∧ wn e fun y => ∃ k : Int, y = .int k ∧ 0 ≤ k ∧ k ≤ 1000 ∧ R (List.replicate k.toNat ds).flatten
end
/-! ### defs -/
/-- a def of the top, as the head tells it -/
abbrev FunP (K : PySem.W.Frag) (x : Str) (st : Stmt) (f : Addr) (fd : FuncData) : Prop := FunD K x x (defArgs st) (defBody st) (defScope st) [] [] f fd
@[simp] def startD (N : List Str) (ds : List D) : Sg := ds.map .val ++ List.replicate (N.length - ds.length) .un
theorem rep_start {c : Amb} {H F : Hp} {N : List Str} : ∀ {vs : List V} {ds : List D}, RepVs c F vs ds → RepS c H (L2.start N vs) H F (startD N ds) := fun {vs ds} r => by
  have hl := r.length
  have vals : ∀ {vs : List V} {ds : List D}, RepVs c F vs ds → ∀ (i : Nat) (d : D), ds[i]? = some d → ∃ v, vs[i]? = some v ∧ RepV c F v d := by
    intro vs ds r
    induction r with
    | nil => intro i d h; simp at h
    | cons h t ih =>
      intro i d e
      cases i with
      | zero => simp at e; subst e; exact ⟨_, rfl, h⟩
      | succ i => obtain ⟨v, h1, h2⟩ := ih i d (by simpa using e); exact ⟨v, by simpa using h1, h2⟩
  have noOwn : ∀ (i : Nat) (es : List D), (startD N ds)[i]? ≠ some (.own es) := fun i es h => by
    unfold startD at h
    by_cases hi : i < ds.length
    · rw [List.getElem?_append_left (by simpa using hi), List.getElem?_map] at h
      cases q : ds[i]? with
      | none => rw [q] at h; cases h
      | some d => rw [q] at h; cases h
    · rw [List.getElem?_append_right (by simpa using hi), List.getElem?_replicate] at h
      split at h <;> cases h
  have noExc : ∀ (i : Nat) (a : Addr), (startD N ds)[i]? ≠ some (.exc a) := fun i a h => by
    unfold startD at h
    by_cases hi : i < ds.length
    · rw [List.getElem?_append_left (by simpa using hi), List.getElem?_map] at h
      cases q : ds[i]? with
      | none => rw [q] at h; cases h
      | some d => rw [q] at h; cases h
    · rw [List.getElem?_append_right (by simpa using hi), List.getElem?_replicate] at h
      split at h <;> cases h
  refine ⟨by unfold L2.start startD; simp [hl], fun i d h => ?_, fun i es h => absurd h (noOwn i es), fun i j es fs a _ h => absurd h (noOwn i es), fun i a h => absurd h (noExc i a)⟩
  unfold startD at h
  by_cases hi : i < ds.length
  · rw [List.getElem?_append_left (by simpa using hi), List.getElem?_map] at h
    cases q : ds[i]? with
    | none => rw [q] at h; cases h
    | some d' =>
      rw [q] at h
      cases h
      obtain ⟨v, h1, h2⟩ := vals r i d q
      refine ⟨v, ?_, h2⟩
      unfold L2.start
      rw [List.getElem?_append_left (by simp; omega), List.getElem?_map, h1]; rfl
  · rw [List.getElem?_append_right (by simpa using hi), List.getElem?_replicate] at h
    split at h <;> cases h
section
variable {P : Program} {w : World} {g : Glb} {mg : Str → Option Value} {base : Heap} {x : Str} {st : Stmt} {f : Addr} {fd : FuncData} {N ps : List Str} {k : Nat} {wb : WS}
/-- THE RULE for a def: its body over data -/
theorem calD {f0 : Fd} (Fn : FunP g.K x st f fd) (mgf : mg x = some (.ref f)) (b : Binds g.K fd ps []) (S : FnScope N ps (defScope st)) (hlen : ∀ ds R, f0 ds R → ds.length = ps.length)
    (hb : ∀ (cdv : Value) (A : Around) (outer : List PySem.Env) (s : Shared) (H : Hp) (E : XK) (r a : Addr) (ns : List Int), Room k (A.deeper (envOfC x (defScope st) s.heap.objs.size f cdv)) →
      PSs (cxOf CX0 P w g.K mg base N x (defScope st) f cdv A outer s H E).nox (defBody st) (sD ⟨g, r, a, ns⟩ E wb))
    (hp : ∀ ds R, f0 ds R → wb { nx := fun _ => R .none, rt := R } (startD N ds)) : C8.Cal P w g.K mg base (k + 1) x (spD g f0) [] := by
  refine ⟨f, fd, ps, [], Fn.ok S (fun vs H Q E h => ?_) (fun cdv A outer s H vs Q E hr h => ?_), mgf, Fn.kp, b, .nil⟩
  · obtain ⟨c, F, ds, R, _, _, rv, h, _⟩ := h
    rw [rv.length]; exact hlen ds R h
  · obtain ⟨⟨g', r, a, ns⟩, F, ds, R, hg, W, rv, h, P'⟩ := h
    have hg' : g' = g := hg
    subst hg'
    refine ⟨_, (hb cdv A outer s H E r a ns hr).nox, startD N ds, F, H, F, _, Ext.refl W, rep_start rv, hp ds R h, ?_⟩
    exact ⟨fun e σ H' F' q x S' => P' _ _ H' F' q x .non, fun d v H' F' q x rv => P' d v H' F' q x rv, fun _ _ _ _ _ z => z.elim, fun _ _ _ _ z => z.elim, fun _ _ _ _ z => z.elim, fun _ _ _ z => z.elim⟩
/-- .. that hands back a new list -/
theorem calN {f0 : Fn} (Fn : FunP g.K x st f fd) (mgf : mg x = some (.ref f)) (b : Binds g.K fd ps []) (S : FnScope N ps (defScope st)) (hlen : ∀ ds R, f0 ds R → ds.length = ps.length)
    (hb : ∀ (cdv : Value) (A : Around) (outer : List PySem.Env) (s : Shared) (H : Hp) (E : XK) (r a : Addr) (ns : List Int), Room k (A.deeper (envOfC x (defScope st) s.heap.objs.size f cdv)) →
      PSs (cxOf CX0 P w g.K mg base N x (defScope st) f cdv A outer s H E).nox (defBody st) (sD ⟨g, r, a, ns⟩ E wb))
    (hp : ∀ ds R, f0 ds R → wb { nx := fun _ => False, rt := fun _ => False, rn := R } (startD N ds)) : C8.Cal P w g.K mg base (k + 1) x (spN g f0) [] := by
  refine ⟨f, fd, ps, [], Fn.ok S (fun vs H Q E h => ?_) (fun cdv A outer s H vs Q E hr h => ?_), mgf, Fn.kp, b, .nil⟩
  · obtain ⟨c, F, ds, R, _, _, rv, h, _⟩ := h
    rw [rv.length]; exact hlen ds R h
  · obtain ⟨⟨g', r, a, ns⟩, F, ds, R, hg, W, rv, h, P'⟩ := h
    have hg' : g' = g := hg
    subst hg'
    refine ⟨_, (hb cdv A outer s H E r a ns hr).nox, startD N ds, F, H, F, _, Ext.refl W, rep_start rv, hp ds R h, ?_⟩
    exact ⟨fun _ _ _ _ z => z.elim, fun _ _ _ _ z => z.elim, fun ds p vs H' F' q x h0 h1 h2 h3 kk => P' ds p vs H' F' q x h0 h1 h2 h3 kk, fun _ _ _ _ z => z.elim, fun _ _ _ _ z => z.elim, fun _ _ _ z => z.elim⟩
/-- a new list is a list -/
theorem calN_D {f0 : Fn} (C : C8.Cal P w g.K mg base k x (spN g f0) []) : C8.Cal P w g.K mg base k x (spD g fun ds R => f0 ds fun es => R (.list es)) [] := by
  obtain ⟨f, fd, ps, ds, F, h⟩ := C.ex
  refine ⟨f, fd, ps, ds, F.imp fun vs H Q E ⟨c, F, ds, R, hg, W, rv, h, P'⟩ => ⟨c, F, ds, _, hg, W, rv, h, fun es p us H' F' r x h0 h1 h2 h3 kk => Post.frozen P' x h0 h1 h3 h2 kk r⟩, h⟩
end
/-! ### tests and stores by one more step -/
section
variable {c : Amb} {E : XK} {H F H0 F0 : Hp} {σ : L2.St}
theorem xt_cmp {r : R2} {rd : D → D → (D → Prop) → Prop} (hd : OpD c r rd) {wa wb : W} : ∀ σ H Q, tT c (bB (dOp rd wa wb)) σ H Q → tTest (tOp r (tD c wa) (tD c wb)) σ H Q := fun σ H Q h => xd_op hd σ H _ (xt_test σ H Q h)
theorem xt_chain {r r' : R2} {rd rd' : D → D → (D → Prop) → Prop} (h : OpD c r rd) (h' : OpD c r' rd') {wa wb wc : W} : ∀ σ H Q, tT c (bB (dChain rd rd' wa wb wc)) σ H Q → tTest (tChain r r' (tD c wa) (tD c wb) (tD c wc)) σ H Q := fun σ H Q z => xd_chain h h' σ H _ (xt_test σ H Q z)
theorem xt_isN {w : W} : ∀ σ H Q, tT c (bB (dIsN w)) σ H Q → tB (tIsN (tD c w)) σ H Q := fun σ H Q z => xd_isN σ H _ (xt_test σ H Q z)
theorem xt_notN {w : W} : ∀ σ H Q, tT c (bB (dNotN w)) σ H Q → tB (tNotN (tD c w)) σ H Q := fun σ H Q z => xd_notN σ H _ (xt_test σ H Q z)
theorem xs_ownLc {i : Nat} {wi : WA} {wg : WG} {wt : WT} {we : W} {g : TG} {vs : List Nat} (hg : gD c wg g) (hs : Stores g vs) : ∀ Dn σ H, sD c E (dOwn i (dLcW wi wg wt we vs)) Dn σ H → tAsg (tLc (tI c wi) g (tT c wt) (tD c we) vs) (gName i) Dn σ H := fun Dn σ H z => xn_lc hg hs σ H _ (xs_own Dn σ H z)
theorem xs_asgLc {i : Nat} {wi : WA} {wg : WG} {wt : WT} {we : W} {g : TG} {vs : List Nat} (hg : gD c wg g) (hs : Stores g vs) : ∀ Dn σ H, sD c E (dAsg i (dN (dLcW wi wg wt we vs))) Dn σ H → tAsg (tLc (tI c wi) g (tT c wt) (tD c we) vs) (gName i) Dn σ H := fun Dn σ H z => xn_lc hg hs σ H _ (xd_N σ H _ (xs_asg Dn σ H z))
theorem flat_rep {vs : List V} {ds : List D} {K : PySem.W.Frag} (k : RpAll K F vs ds) : ∀ n : Nat, RpAll K F (List.replicate n vs).flatten (List.replicate n ds).flatten
  | 0 => .nil
  | n + 1 => by
    rw [List.replicate_succ, List.replicate_succ, List.flatten_cons, List.flatten_cons]
    exact dpAll_app k (flat_rep k n)
theorem xn_rep {w : WA} {wn : W} : ∀ σ H Q, tN c (nRep w wn) σ H Q → tOp rRep (tLst (tA c w)) (tD c wn) σ H Q := fun σ H Q ⟨e, F, H0, R, W, S, q, P⟩ =>
  ⟨e, F, H0, _, W, S, q, fun ds vs H1 F1 ⟨h3, hn, q1⟩ x1 r1 => by
    have hl : vs.length = ds.length := r1.length
    refine ⟨len_le (by omega), fun p hp => ?_⟩
    have x1' := Ext.loose x1.ok (.lst vs) hp
    have np := x1.ok.newR hp
    refine ⟨e, F1, H0, _, x1'.ok, S.ext W (x1.trans x1'), q1, fun d v H2 F2 ⟨k, hk, h1, h2, r⟩ x2 rv => ?_⟩
    subst hk
    have g2 := x2.keep p _ upd_same np (x1'.ok.noP upd_same)
    have hk2 : vs.length * k.toNat ≤ 1000000 := Nat.le_trans (Nat.mul_le_mul (show vs.length ≤ 1000 by omega) (show k.toNat ≤ 1000 by omega)) (by decide)
    refine ⟨p, k, vs, rfl, rv.int_inv, g2, by omega, by omega, len_le hk2, fun p2 hp2 => ?_⟩
    have xx := (x1.trans x1').trans x2
    exact P _ p2 _ _ _ r (xx.trans (Ext.loose x2.ok _ hp2)) (xx.free hp2) upd_same (x2.ok.newF hp2) (x2.ok.newR hp2) (flat_rep (dpAll_same (x1'.trans x2).grow _ _ (repVs_dp r1 hn)) _)⟩
end
end FW
/-! FWG: all(test of x for x in numbers), numbers a list or a tuple of ints; the test may look at names that the def holds in cells. -/
namespace FWG
open PySem PySem.Spec PyProof.Rows L2
section
variable {prog : Program} {w : World} {A : Around} {E : Value → Shared → Prop} {s : Shared}
/-- the code object of a generator expression: found in the table, or made and laid there -/
theorem gen_code {env : PySem.Env} {c P : Addr} {ps : Array Value} {pos : Pos} {qual : Str} {scope : Scope} {Q : Value → Shared → Prop} (hc : env.code = .ref c) (cd : PySem.W.CodeHd s.heap c P)
    (hP : s.heap.get? P = some { cls := .none, data := .fields ps }) (ht : TriplesOk ps.toList)
    (k : ∀ (code : Value) (h3 : Heap) (tk : Nat) (more : Array Value), Heap.ExtBut P s.heap h3 → s.heap.objs.size ≤ h3.objs.size → h3.get? P = some { cls := .none, data := .fields (ps ++ more) } → TriplesOk (ps ++ more).toList → Q code { s with heap := h3, toks := tk }) :
    wpAny (model prog w) A (genexprCode env pos qual scope) Q E s := by
  cases hf : codeAmong pos ps.toList with
  | some cv =>
    refine wpAny_genexprCode_hit hc (cd.code hP ht) hf ?_
    have e : ps ++ #[] = ps := by simp
    exact k cv s.heap s.toks #[] (Heap.ExtBut.refl _ _) (Nat.le_refl _) (by rw [e]; exact hP) (by rw [e]; exact ht)
  | none =>
    refine wpAny_genexprCodeX hc (cd.code hP ht) (cd.tab hP) hf fun c' h' tk hx hge hlt hco _ htab _ => ?_
    obtain ⟨_, _, _, _, _, _, _, _, _, _, _, _, _, _, _, _, _, _, _, htr, _⟩ := hco
    exact k _ h' tk _ hx (Nat.le_trans hge (Nat.le_of_lt hlt)) htab.2 htr
end
/-- a list or a tuple -/
def SqA (K : PySem.W.Frag) (H : Hp) (a : Addr) (xs : List V) : Prop := SqL K H a xs ∨ SqT K H a xs
/-- the element as a test of an int, where the cells of h stand as they stood -/
def ElI (X : Cx) (scope : Scope) (x : Str) (elt : Expr) (pb : Int → Bool) (h : Heap) : Prop :=
  ∀ (cenv : PySem.Env) (A' : Around) (E' : Value → Shared → Prop) (n : Int) (t : Tok) (s2 : Shared) (m2 : Str → Option Value), cenv.scope = scope → cenv.cells = cloFrom X.env.cells scope.names [] → s2.heap.Ns cenv.locals m2 → m2 x = some (.int n t) →
    (∀ b v, h.IsCell b (some v) → s2.heap.IsCell b (some v)) → wpAny (model X.prog X.w) A' (eval elt cenv) (fun y s3 => y = .bool (pb n) ∧ Keeps s2 s3) E' s2
def atB (pb : Int → Bool) (ns : List Int) (i : Nat) : Bool := match ns[i]? with
  | some n => pb n
  | none => false
theorem all_atB (pb : Int → Bool) : ∀ ns : List Int, (List.range ns.length).all (atB pb ns) = ns.all pb := fun ns => by
  rw [Bool.eq_iff_iff, List.all_eq_true, List.all_eq_true]
  constructor
  · intro h b hb
    obtain ⟨j, hj, e⟩ := List.getElem_of_mem hb
    have q := h j (List.mem_range.mpr hj)
    unfold atB at q
    rw [List.getElem?_eq_getElem hj, e] at q
    exact q
  · intro h j hj
    have hj' := List.mem_range.mp hj
    unfold atB
    rw [List.getElem?_eq_getElem hj']
    exact h _ (List.getElem_mem hj')
/-- a generator at g over the tests of ns, to be walked from s5 on -/
def Gen (X : Cx) (pins : List (Addr × Obj)) (σ : L2.St) (H1 : Hp) (P : Addr) (ns : List Int) (pb : Int → Bool) (g : Addr) (s5 : Shared) : Prop :=
  ∃ (fp wr : List Addr) (G : Array GenState → Array GenState → Prop) (Fv : Nat → Value → Prop) (St : Nat → Shared → Prop), WalksS X.prog X.w X.A.in1 g fp wr G ns.length Fv St ∧ St 0 s5 ∧
    TruthOf X.prog X.w X.A.in1 Fv (atB pb ns) ∧ ∀ s', Moved wr G s5 s' → ∃ H2, GxR.Tabbed P H1 H2 ∧ Inv X pins σ H2 s'
section
variable {X : Cx} {pins : List (Addr × Obj)} {σ : L2.St} {H1 : Hp} {s1 : Shared}
/-- from the iterator on: it stands at the heap's end, over the items of a -/
theorem gen_from {c P a : Addr} {elt : Expr} {x : Str} {gpos : Pos} {scope : Scope} {pb : Int → Bool} {k : Nat} {ns : List Int} {its : List Value} {o : Obj} {ps : Array Value} {St0 : Nat → Heap → Prop} {Q' : Value → Shared → Prop}
    (hr : Room k X.A) (TB : GxR.TabB X.base X.mg c P) (hcode : X.env.code = .ref c) (I1 : Inv X pins σ H1 s1) (rv : Vals (ns.map V.int) its) (hel : ElI X scope x elt pb s1.heap) (hP : H1 P = some (.tbl ps)) (ht : TriplesOk ps.toList)
    (ha : a < s1.heap.objs.size) (haP : a ≠ P) (W : ∀ A' : Around, A'.handled = none → Walks X.prog X.w A' s1.heap.objs.size [s1.heap.objs.size, a] [s1.heap.objs.size] its.toArray.size (fun i v => its.toArray[i]? = some v) St0)
    (hst : St0 0 (s1.heap.push o)) (hQ : ∀ g s5, Gen X pins σ H1 P ns pb g s5 → Q' (.ref g) s5) :
    wpAny (model X.prog X.w) X.A (genexprCode X.env gpos (X.env.qual ++ "<genexpr>") scope) (fun code s3 => wpAny (model X.prog X.w) X.A (builtinsFor X.env.globals X.env.builtins) (fun bi s4 =>
      ∃ Ia fp wr n₀ Pf St₀ pz F, Value.ref s1.heap.objs.size = .ref Ia ∧ (∀ A' : Around, A'.handled = none → Walks X.prog X.w A' Ia fp wr n₀ Pf St₀) ∧ St₀ 0 s4.heap ∧ (∀ b ∈ fp, b < s4.heap.objs.size) ∧ s4.heap.NoLimit ∧ cStatics ∉ wr ∧
        (∀ href : Heap, (∀ b o, s4.heap.get? b = some o → href.get? b = some o) → QuietGen X.prog X.w (genEnv scope (cloFrom X.env.cells scope.names []) s4.heap.objs.size code bi X.env) x [] elt (List.range s4.heap.objs.size) wr Pf pz F href) ∧
        (∀ a h5 tk gs, gs.bare = true → s4.heap.objs.size < a → h5.objs.size = a + 1 → (∀ b o, s4.heap.get? b = some o → h5.get? b = some o) →
          WalksS X.prog X.w X.A.in4 a (a :: s4.heap.objs.size :: List.range s4.heap.objs.size) (s4.heap.objs.size :: wr) (GenOnlyQ s4.gens.size) (passing pz n₀ 0).length (fun j y => ∃ i, (passing pz n₀ 0)[j]? = some i ∧ F i y)
            (GenAt X.prog X.w X.A.in4 a s4.gens.size s4.heap.objs.size (List.range s4.heap.objs.size) wr pz n₀ F) →
          GenAt X.prog X.w X.A.in4 a s4.gens.size s4.heap.objs.size (List.range s4.heap.objs.size) wr pz n₀ F 0 { s4 with gens := s4.gens.push gs, toks := tk, heap := h5 } →
          Q' (.ref a) { s4 with gens := s4.gens.push gs, toks := tk, heap := h5 })) X.xe s3) X.xe { s1 with heap := s1.heap.push o } := by
  have hPs : s1.heap.get? P = some { cls := .none, data := .fields ps } := I1.hok P _ hP
  have ltP : P < s1.heap.objs.size := Heap.lt_size hPs
  have kp : ∀ b u, s1.heap.get? b = some u → (s1.heap.push o).get? b = some u := fun b u e => Heap.get?_push_of_some _ e
  have sz : (s1.heap.push o).objs.size = s1.heap.objs.size + 1 := Heap.size_push ..
  refine gen_code hcode (TB.code.keeps fun b u e => kp b u (I1.bk b u e)) (kp _ _ hPs) ht fun code h3 tk more hx hge hP3 ht3 => ?_
  have hge3 : s1.heap.objs.size + 1 ≤ h3.objs.size := by rw [← sz]; exact hge
  have k3 : ∀ b u, b ≠ P → s1.heap.get? b = some u → h3.get? b = some u := fun b u hb e => hx b u hb (kp b u e)
  have hst3 : St0 0 h3 := (W X.A hr.hd).frame _ _ _ hst fun b hb u e => hx b u (fun z => by
    rcases List.mem_cons.mp hb with q | q
    · rw [q] at z; rw [← z] at ltP; exact Nat.lt_irrefl _ ltP
    · rw [List.mem_singleton.mp q] at z; exact haP z) e
  obtain ⟨bm, ob, e1, e2, e3, e4, e5, e6, e7, e8⟩ := TB.bm
  have hcl : cStatics < s1.heap.objs.size := let ⟨_, hns, _⟩ := I1.nolimit; hns.lt
  have hcP : cStatics ≠ P := fun e => by
    obtain ⟨_, ⟨o', es, ep, ho, hd, _⟩, _⟩ := I1.nolimit
    rw [e, hPs] at ho
    cases ho
    cases hd
  have lim3 : h3.NoLimit := (I1.nolimit.push o).extBut hx hcP
  refine wpAny_builtinsFor (m := X.mg) (by rw [I1.ok.glob]; exact ((I1.mod.glob.keeps I1.bk).push o).extBut hx TB.gP) e1 e2 (k3 _ _ e4 (I1.bk _ _ e5)) e6 e7 e8 ?_
  have hlen : its.toArray.size = ns.length := by rw [List.size_toArray, ← rv.length, List.length_map]
  refine ⟨s1.heap.objs.size, [s1.heap.objs.size, a], [s1.heap.objs.size], its.toArray.size, fun i v => its.toArray[i]? = some v, St0, fun _ => true, fun i y => ∃ n, ns[i]? = some n ∧ y = .bool (pb n), rfl, W, hst3, ?_, lim3, ?_, ?_, ?_⟩
  · intro b hb
    show b < h3.objs.size
    rcases List.mem_cons.mp hb with z | z
    · rw [z]; exact hge3
    · rw [List.mem_singleton.mp z]; exact Nat.lt_of_lt_of_le ha (Nat.le_trans (Nat.le_succ _) hge3)
  · intro z
    rw [List.mem_singleton.mp z] at hcl
    exact Nat.lt_irrefl _ hcl
  · -- the element: no tests stand ahead of it, the cells are as they were
    intro href hhref
    refine ⟨fun A' E' i v s2 m2 _ _ _ _ _ => ?_, fun A' E' i v s2 m2 hA hv _ hn hm hk => ?_⟩
    · rw [List.forIn_nil]
      exact wpAny_pure ⟨rfl, GxR.keeps_refl _⟩
    · have hv' : its[i]? = some v := by simpa using hv
      have hi : i < ns.length := by rw [← hlen]; exact (Array.getElem?_eq_some_iff.mp hv).1
      have hb : (ns.map V.int)[i]? = some (V.int ns[i]) := by rw [List.getElem?_map, List.getElem?_eq_getElem hi]; rfl
      obtain ⟨u, hu, t, rfl⟩ := rv.get hb
      rw [hv'] at hu
      cases hu
      refine wpAny_mono (hel _ A' E' _ t s2 m2 rfl rfl hn hm fun b v hc => ?_) (fun y s3 r => ⟨⟨_, List.getElem?_eq_getElem hi, r.1⟩, r.2⟩) fun _ _ e => e
      obtain ⟨oc, ho, hd⟩ := hc
      have hbP : b ≠ P := fun z => by rw [z, hPs] at ho; cases ho; cases hd
      exact ⟨oc, hk b (List.mem_range.mpr (Nat.lt_of_lt_of_le (Heap.lt_size ho) (Nat.le_trans (Nat.le_succ _) hge3))) (fun z => by
        rw [List.mem_singleton.mp z] at ho; exact Nat.lt_irrefl _ (Heap.lt_size ho)) oc (hhref _ _ (k3 b oc hbP ho)), hd⟩
  · intro g h5 tk5 gs hgb hlt hsz5 hk5 W5 hat
    simp only [GxR.passing_true, List.length_range] at W5
    rw [hlen] at W5 hat
    refine hQ g _ ⟨_, _, _, _, _, W5.in4_1, hat, ?_, fun s' hm => ?_⟩
    · rintro j y sj Qj Ej ⟨i, hij, n, hn, rfl⟩ hq
      obtain ⟨_, ej⟩ := List.getElem?_eq_some_iff.mp hij
      rw [List.getElem_range] at ej
      subst ej
      have e9 : atB pb ns j = pb n := by unfold atB; rw [hn]
      rw [e9] at hq
      exact wpAny_truthy_bool hq
    · have out : ∀ b u, s1.heap.get? b = some u → b ∉ h3.objs.size :: [s1.heap.objs.size] := fun b u e hb => by
        have hl := Heap.lt_size e
        rcases List.mem_cons.mp hb with z | z
        · rw [z] at hl; exact absurd (Nat.lt_of_lt_of_le hl (Nat.le_trans (Nat.le_succ _) hge3)) (Nat.lt_irrefl _)
        · rw [List.mem_singleton.mp z] at hl; exact Nat.lt_irrefl _ hl
      have J := GxR.inv_tab (more := more) (h' := s'.heap) (g' := s'.gens) (d' := s'.drawn) (t' := s'.toks) I1 hP (fun b u hb e => hm.heap b u (out b u e) (hk5 b u (k3 b u hb e))) (hm.heap P _ (out P _ hPs) (hk5 P _ hP3)) (AllBare.movedS (I1.bare.push hgb) hm)
      rw [GxR.sh_eta s1 s' hm.os] at J
      exact ⟨_, ⟨⟨ps ++ more, upd_same, ht3⟩, fun b hb => upd_ne hb⟩, J⟩
theorem gen_ints {c P : Addr} {elt iter : Expr} {x : Str} {px gpos : Pos} {scope : Scope} {pb : Int → Bool} {te : TE} {k : Nat} {Q' : Value → Shared → Prop} {R : List Int → Hp → Prop} {H : Hp} {s : Shared}
    (hr : Room k X.A) (TB : GxR.TabB X.base X.mg c P) (hcode : X.env.code = .ref c) (S : GxR.GenS X.env scope x) (hi : PE X iter te) (hel : ∀ H1 s1, Inv X pins σ H1 s1 → ElI X scope x elt pb s1.heap)
    (hs : ∀ v, genFold iter X.env v = pure v) (I : Inv X pins σ H s) (h : te σ H fun v H1 => ∃ (a : Addr) (ns : List Int), v = .ref a ∧ SqA X.K H1 a (ns.map V.int) ∧ GxR.TabG H1 P ∧ R ns H1)
    (hQ : ∀ ns H1 g s5, R ns H1 → Gen X pins σ H1 P ns pb g s5 → Q' (.ref g) s5) :
    wpAny (model X.prog X.w) X.A (eval (.GeneratorExp elt [⟨.Name x px, iter, [], 0⟩] scope gpos) X.env) Q' X.xe s := by
  refine wpAny_GeneratorExp_walksQ hr.hd S.co (closure_ok S.free) S.cell S.dot S.loc S.kind (Nat.lt_of_le_of_lt (Nat.le_trans (Nat.le_add_right _ _) (Nat.le_add_right _ 5)) hr.dp) ?_ hs
  refine thn (hi.run pins s σ H _ I h) fun xv s1 ⟨v, H1, I1, r1, a, ns, e, hsq, ⟨ps, hP, ht⟩, q1⟩ => ?_
  subst e
  obtain rfl : xv = Value.ref a := r1
  rcases hsq with hsq | hsq
  · obtain ⟨its, rv, pl, _⟩ := I1.list hsq
    have hIL := pl.isList
    have hlt : a < s1.heap.objs.size := let ⟨_, e, _⟩ := hIL; Heap.lt_size e
    have haP : a ≠ P := fun z => by
      obtain ⟨oo, e, hc1, _⟩ := hIL
      rw [z, show s1.heap.get? P = _ from I1.hok P _ hP] at e
      cases e; cases hc1
    refine wpAny_pyIter_list hIL ⟨I1.nolimit.push _, ?_⟩
    exact gen_from hr TB hcode I1 rv (hel H1 s1 I1) hP ht hlt haP (fun A' hA => Walks.list hA _ _ (Nat.ne_of_lt hlt) _) ⟨⟨_, Heap.get?_push_size _ rfl, rfl, rfl⟩, hIL.push _⟩ fun g s5 G => hQ ns H1 g s5 q1 G
  · obtain ⟨its, rv, pl, _⟩ := I1.tuple hsq
    have hlt : a < s1.heap.objs.size := pl.lt
    have haP : a ≠ P := fun z => by
      obtain ⟨oo, e, hc1, _⟩ := pl
      rw [z, show s1.heap.get? P = _ from I1.hok P _ hP] at e
      cases e; cases hc1
    refine wpAny_pyIter_tuple (items := its.toArray) pl ⟨I1.nolimit.push _, ?_⟩
    exact gen_from hr TB hcode I1 rv (hel H1 s1 I1) hP ht hlt haP (fun A' hA => Walks.tuple hA _ _ (Nat.ne_of_lt hlt) _) ⟨⟨_, Heap.get?_push_size _ rfl, rfl, rfl⟩, pl.push _⟩ fun g s5 G => hQ ns H1 g s5 q1 G
/-- all(..): behind it the def's table may have grown -/
def tAll (K : PySem.W.Frag) (P : Addr) (pb : L2.St → Int → Bool) (te : TE) : TE := fun σ H Q => te σ H fun v H1 => ∃ (a : Addr) (ns : List Int), v = .ref a ∧ SqA K H1 a (ns.map V.int) ∧ GxR.TabG H1 P ∧ ∀ H2, GxR.Tabbed P H1 H2 → Q (.bl (ns.all (pb σ))) H2
theorem pe_all {c P : Addr} {elt iter : Expr} {x : Str} {px p pos gpos : Pos} {scope : Scope} {pb : L2.St → Int → Bool} {te : TE} {k : Nat}
    (hr : Room k X.A) (hg : Gl X "all") (hm : X.mg "all" = none) (hb : bootBuiltins "all" = some (.builtin "all")) (TB : GxR.TabB X.base X.mg c P) (hcode : X.env.code = .ref c) (S : GxR.GenS X.env scope x) (hi : PE X iter te)
    {Pre : L2.St → Prop} (hel : ∀ pins σ H1 s1, Pre σ → Inv X pins σ H1 s1 → ElI X scope x elt (pb σ) s1.heap) (hs : ∀ v, genFold iter X.env v = pure v)
    (he : starEach [.GeneratorExp elt [⟨.Name x px, iter, [], 0⟩] scope gpos] X.env = (false, eval (.GeneratorExp elt [⟨.Name x px, iter, [], 0⟩] scope gpos) X.env) :: starEach [] X.env := by rfl) :
    PE X (.Call (.Name "all" p) [.GeneratorExp elt [⟨.Name x px, iter, [], 0⟩] scope gpos] [] pos) (fun σ H Q => Pre σ ∧ tAll X.K P pb te σ H Q) := by
  refine ⟨fun pins s σ H Q I h => ?_⟩
  obtain ⟨hpre, h⟩ := h
  refine wpAny_Call_Name_kw (ld_blt I hg hm hb ?_)
  refine PyProof.Rows.callWith_builtin1 ?_ he (by rfl)
  rw [he]
  show wpAny _ _ (spliced ((false, eval _ X.env) :: backTo pos (starEach [] X.env))) _ _ s
  refine Calls.spliced_cons (gen_ints (R := fun ns H1 => ∀ H2, GxR.Tabbed P H1 H2 → Q (.bl (ns.all (pb σ))) H2) hr TB hcode S hi (fun H1 s1 I1 => hel pins σ H1 s1 hpre I1) hs I h fun ns H1 g s5 hR hG => Calls.spliced_nil ?_)
  obtain ⟨fp, wr, G, Fv, St, W, hst, htr, hI⟩ := hG
  refine call_all_walkS (W.self 0 _ _ _ hst ⟨g, fp, wr, G, _, Fv, St, _, rfl, W, hst, htr, fun s' hmv => ?_⟩)
  obtain ⟨H2, hT, J⟩ := hI s' hmv
  exact ⟨.bl _, H2, J, rfl, by rw [all_atB (pb σ) ns]; exact hR H2 hT⟩
end
/-- lo <= x <= hi, both ends captured -/
theorem el_between {X : Cx} {scope : Scope} {h : Heap} {x y z : Str} {lo hi : Int} {tl th : Tok} {cl ch : Addr} {p1 p2 p3 p4 : Pos} (hk : scope.kind = .function) (hx : scope.names.lookup x = some .local) (hl : scope.names.lookup y = some .free) (hh : scope.names.lookup z = some .free)
    (e1 : (cloFrom X.env.cells scope.names []).lookup y = some cl) (e2 : (cloFrom X.env.cells scope.names []).lookup z = some ch) (v1 : h.IsCell cl (some (.int lo tl))) (v2 : h.IsCell ch (some (.int hi th)))
    (dx : (x == ("__debug__" : Str)) = false) (dy : (y == ("__debug__" : Str)) = false) (dz : (z == ("__debug__" : Str)) = false) (cy : (y == ("__classdict__" : Str)) = false) (cz : (z == ("__classdict__" : Str)) = false) :
    ElI X scope x (.Compare (.Name y p1) [.LtE, .LtE] [.Name x p2, .Name z p3] p4) (fun n => decide (lo ≤ n) && decide (n ≤ hi)) h := by
  intro cenv A' E' n t s2 m2 hs hc hn hm hcell
  have kk : cenv.scope.kind = .function := by rw [hs]; exact hk
  refine Compare_chain (wpAny_Name (wpAny_loadName_free (c := cl) kk (show cenv.scope.names.lookup y = _ by rw [hs]; exact hl) (by rw [hc]; exact e1) (hcell _ _ v1) ?_ cy) dy) (by rfl)
  refine chain_link (wpAny_Name (wpAny_loadName_local kk (show cenv.scope.names.lookup x = _ by rw [hs]; exact hx) hn hm ?_) dx)
  refine le_int (wpAny_truthy_bool ?_)
  by_cases q : lo ≤ n
  · rw [decide_eq_true q]
    refine ite_tt (chain_last (wpAny_Name (wpAny_loadName_free (c := ch) kk (show cenv.scope.names.lookup z = _ by rw [hs]; exact hh) (by rw [hc]; exact e2) (hcell _ _ v2) ?_ cz) dz))
    exact le_int ⟨by simp [q], GxR.keeps_refl _⟩
  · rw [decide_eq_false q]
    exact ite_ff ⟨by simp [q], GxR.keeps_refl _⟩
end FWG
namespace FW
open PySem PySem.Spec PyProof.Rows L2
section
variable {c : Amb} {H F H2 : Hp}
/-- a table has grown: nothing else has changed -/
theorem Ext.tabbed (W : Wok c H F) {P : Addr} (hP : P ∈ c.Ps) (T : GxR.Tabbed P H H2) : Ext c H F H2 F := by
  obtain ⟨t1, t2⟩ := T
  have ht := (W.tab P hP).1
  have ne : ∀ b o, H b = some o → (∀ ps, o ≠ .tbl ps) → b ≠ P := fun b o e k z => by
    obtain ⟨ps, q, _⟩ := ht
    rw [z, q] at e
    exact k ps (Option.some.inj e).symm
  have nt : ∀ b o, H b = some o → b ∉ c.Ps → H2 b = some o := fun b o e nb => by
    rw [t2 b (fun z => nb (z ▸ hP))]; exact e
  refine ⟨⟨fun b o e => ?_, W.row.keep (fun b o e nb => nt b o e nb) (fun P h => (W.tab P h).1), W.rF, fun P' hP' => ⟨?_, (W.tab P' hP').2⟩⟩, fun _ _ h => h, fun b o e _ nb => nt b o e nb, fun _ h h' => absurd h h', W.row.sq⟩
  · rw [t2 b (fun z => by rw [z, (W.tab P hP).2] at e; cases e)]; exact W.sub b o e
  · by_cases z : P' = P
    · rw [z]; exact t1
    · obtain ⟨ps, q, r⟩ := (W.tab P' hP').1
      exact ⟨ps, by rw [t2 _ z]; exact q, r⟩
def pbT (i j : Nat) (σ : L2.St) (n : Int) : Bool := match σ[i]?, σ[j]? with
  | some (some (.int lo)), some (some (.int hi)) => decide (lo ≤ n) && decide (n ≤ hi)
  | _, _ => false
def dAllW (i j : Nat) (w : W) : W := fun e R => ∃ lo hi : Int, e[i]? = some (.val (.int lo)) ∧ e[j]? = some (.val (.int hi)) ∧ w e fun d => ∃ ns : List Int, IsSeq d (ns.map PyData.int) ∧ R (.bool (ns.all fun n => decide (lo ≤ n) && decide (n ≤ hi)))
theorem xd_allW {i j : Nat} {w : W} {P : Addr} (hP : P ∈ c.Ps) : ∀ σ H Q, tD c (dAllW i j w) σ H Q → ((∃ lo hi : Int, σ[i]? = some (some (V.int lo)) ∧ σ[j]? = some (some (V.int hi))) ∧ FWG.tAll c.K P (pbT i j) (tD c w) σ H Q) := by
  rintro σ H Q ⟨e, F, H0, R, W, S, ⟨lo, hi, h1, h2, q⟩, P'⟩
  obtain ⟨v1, a1, b1⟩ := S.val i _ h1
  obtain ⟨v2, a2, b2⟩ := S.val j _ h2
  rw [b1.int_inv] at a1
  rw [b2.int_inv] at a2
  refine ⟨⟨lo, hi, a1, a2⟩, e, F, H0, _, W, S, q, fun d v H1 F1 ⟨ns, hs, r⟩ x1 rv => ?_⟩
  obtain ⟨a, vs, rfl, g1, g2⟩ := seq_inv hs rv x1.ok.sub
  have ev := dpAll_ints_inv ns vs g2
  subst ev
  refine ⟨a, ns, rfl, g1, (x1.ok.tab P hP).1, fun H2 T => ?_⟩
  have ep : pbT i j σ = fun n => decide (lo ≤ n) && decide (n ≤ hi) := by
    funext n
    unfold pbT
    rw [a1, a2]
  rw [ep]
  exact P' _ _ H2 F1 r (x1.trans (Ext.tabbed x1.ok hP T)) .bl
end
/-- THE RULE for a def whose body asks for its own code object -/
theorem calDc {P : Program} {w : World} {g : Glb} {mg : Str → Option Value} {base : Heap} {x : Str} {st : Stmt} {fd : FuncData} {N ps : List Str} {k : Nat} {wb : WS} {f0 : Fd} (Fn : FunP g.K x st (He.fAd g.K (x, none)) fd) (mgf : mg x = some (.ref (He.fAd g.K (x, none)))) (b : Binds g.K fd ps [])
    (S : FnScope N ps (defScope st)) (hlen : ∀ ds R, f0 ds R → ds.length = ps.length)
    (hb : ∀ (cdv : Value) (A : Around) (outer : List PySem.Env) (s : Shared) (H : Hp) (E : XK) (r a : Addr) (ns : List Int), cdv = .ref (He.codeOf g.K (x, none)) → Room k (A.deeper (envOfC x (defScope st) s.heap.objs.size (He.fAd g.K (x, none)) cdv)) →
      PSs (cxOf CX0 P w g.K mg base N x (defScope st) (He.fAd g.K (x, none)) cdv A outer s H E).nox (defBody st) (sD ⟨g, r, a, ns⟩ E wb))
    (hp : ∀ ds R, f0 ds R → wb { nx := fun _ => R .none, rt := R } (startD N ds)) : C8.Cal P w g.K mg base (k + 1) x (spD g f0) [] := by
  obtain ⟨oc, od, dV, kV, doc, pm, an, cdv, ct, osl, rfl, lk, hcd, _, _⟩ := Fn.ex
  obtain ⟨cc, rfl⟩ := He.codeIn_ref hcd
  have ec := He.codeOf_eq (K := g.K) (p := (x, none)) lk rfl
  refine ⟨_, _, ps, [], fn_of lk hcd S (fun vs H Q E h => ?_) (fun A outer s H vs Q E hr h => ?_), mgf, Fn.kp, b, .nil⟩
  · obtain ⟨c, F, ds, R, _, _, rv, h, _⟩ := h
    rw [rv.length]; exact hlen ds R h
  · obtain ⟨⟨g', r, a, ns⟩, F, ds, R, hg, W, rv, h, P'⟩ := h
    have hg' : g' = g := hg
    subst hg'
    refine ⟨_, (hb _ A outer s H E r a ns (by rw [ec]) hr).nox, startD N ds, F, H, F, _, Ext.refl W, rep_start rv, hp ds R h, ?_⟩
    exact ⟨fun e σ H' F' q x S' => P' _ _ H' F' q x .non, fun d v H' F' q x rv => P' d v H' F' q x rv, fun _ _ _ _ _ z => z.elim, fun _ _ _ _ z => z.elim, fun _ _ _ _ z => z.elim, fun _ _ _ z => z.elim⟩
end FW
/-! FWL: plain facts about the readings. -/
namespace FW
open PySem PySem.Spec PyProof.Rows L2
@[simp] theorem isSeq_tup {xs ys : List D} : IsSeq (.tuple xs) ys ↔ ys = xs := by
  constructor
  · intro h; cases h; rfl
  · intro h; subst h; exact .tup _
@[simp] theorem isSeq_lst {xs ys : List D} : IsSeq (.list xs) ys ↔ ys = xs := by
  constructor
  · intro h; cases h; rfl
  · intro h; subst h; exact .lst _
@[simp] theorem mapInt_inj {l m : List Int} : l.map PyData.int = m.map PyData.int ↔ l = m := by
  constructor
  · intro h
    have : ∀ {l m : List Int}, l.map PyData.int = m.map PyData.int → l = m := by
      intro l
      induction l with
      | nil => intro m h; cases m with
        | nil => rfl
        | cons => simp at h
      | cons a l ih => intro m h; cases m with
        | nil => simp at h
        | cons b m =>
          simp only [List.map_cons, List.cons.injEq, PyData.int.injEq] at h
          rw [h.1, ih h.2]
    exact this h
  · intro h; rw [h]
/-- a comprehension without draws: what each item gives -/
theorem lcRun_det {g : D → (Sg → Prop) → Prop} {wt : WT} {we : W} {R : List D → Prop} (h : D → Option D) : ∀ (ds acc : List D),
    (∀ d ∈ ds, ∀ K : Option D → Prop, K (h d) → g d fun e' => wt e' fun b => if b = true then we e' fun y => y ≠ .dict [] ∧ K (some y) else K none) → R (acc ++ ds.filterMap h) → lcRun g wt we R ds acc
  | [], acc, _, r => by simpa [lcRun] using r
  | d :: ds, acc, ht, r => by
    unfold lcRun
    refine ht d List.mem_cons_self (fun o => match o with
      | some y => lcRun g wt we R ds (acc ++ [y])
      | none => lcRun g wt we R ds acc) ?_
    cases q : h d with
    | some y =>
      refine lcRun_det h ds _ (fun d' hd => ht d' (List.mem_cons_of_mem _ hd)) ?_
      simpa [List.filterMap_cons, q] using r
    | none =>
      refine lcRun_det h ds _ (fun d' hd => ht d' (List.mem_cons_of_mem _ hd)) ?_
      simpa [List.filterMap_cons, q] using r
def optI (p : Int → Bool) (f : Int → D) : D → Option D
  | .int n => if p n = true then some (f n) else none
  | _ => none
theorem filterMap_optI (p : Int → Bool) (f : Int → D) : ∀ l : List Int, (l.map PyData.int).filterMap (optI p f) = (l.filter p).map f
  | [] => rfl
  | a :: l => by
    rw [List.map_cons, List.filterMap_cons, filterMap_optI p f l]
    by_cases q : p a = true
    · simp [optI, q]
    · simp [optI, q]
/-- .. over ints -/
theorem lcRun_ints {g : D → (Sg → Prop) → Prop} {wt : WT} {we : W} {R : List D → Prop} (p : Int → Bool) (f : Int → D) (ns : List Int) (ht : ∀ n ∈ ns, ∀ K : Option D → Prop, K (if p n = true then some (f n) else none) → g (.int n) fun e' => wt e' fun b => if b = true then we e' fun y => y ≠ .dict [] ∧ K (some y) else K none)
    (r : R ((ns.filter p).map f)) : lcRun g wt we R (ns.map PyData.int) [] := by
  refine lcRun_det (optI p f) _ _ (fun d hd K k => ?_) ?_
  · obtain ⟨n, hn, rfl⟩ := List.mem_map.mp hd
    exact ht n hn K k
  · rw [List.nil_append, filterMap_optI]; exact r
/-- each item gives something of a kind -/
theorem lcRun_each {g : D → (Sg → Prop) → Prop} {wt : WT} {we : W} {R : List D → Prop} (Pd : D → Prop) : ∀ (ds acc : List D),
    (∀ d ∈ ds, ∀ K : Option D → Prop, (∀ y, Pd y → K (some y)) → g d fun e' => wt e' fun b => if b = true then we e' fun y => y ≠ .dict [] ∧ K (some y) else K none) → (∀ zs : List D, zs.length = ds.length → (∀ z ∈ zs, Pd z) → R (acc ++ zs)) → lcRun g wt we R ds acc
  | [], acc, _, r => by
    have := r [] rfl (fun z hz => absurd hz (by simp))
    simpa [lcRun] using this
  | d :: ds, acc, ht, r => by
    unfold lcRun
    refine ht d List.mem_cons_self (fun o => match o with
      | some y => lcRun g wt we R ds (acc ++ [y])
      | none => lcRun g wt we R ds acc) (fun y hy => ?_)
    refine lcRun_each Pd ds _ (fun d' hd => ht d' (List.mem_cons_of_mem _ hd)) (fun zs hl hz => ?_)
    have := r (y :: zs) (by simp [hl]) (fun z h => by rcases List.mem_cons.mp h with h | h; · rw [h]; exact hy
                                                      · exact hz z h)
    simpa using this
/-- a for whose turns go on: what holds between them -/
theorem forRun_inv {wg : WG} {wb : WS} {De : EndsD} (I : List D → Sg → Prop) (ht : ∀ d ds e, I (d :: ds) e → (∀ e2, I ds e2 → forRun wg wb De ds e2) → wg d e fun e' => wb { De with nx := fun e2 => forRun wg wb De ds e2, ct := fun e2 => forRun wg wb De ds e2, bk := De.nx } e') (he : ∀ e, I [] e → De.nx e) :
    ∀ ds e, I ds e → forRun wg wb De ds e
  | [], e, h => he e h
  | d :: ds, e, h => ht d ds e h fun e2 h2 => forRun_inv I ht he ds e2 h2
/-! ### == -/
def Sh (n : Nat) (d : D) : Prop := PyData.canLay0 d = true ∧ PyData.depth d ≤ n
theorem Sh.int {n : Nat} {i : Int} : Sh n (.int i) := ⟨by simp [PyData.canLay0], by simp [PyData.depth]⟩
theorem Sh.bool {n : Nat} {i : Bool} : Sh n (.bool i) := ⟨by simp [PyData.canLay0], by simp [PyData.depth]⟩
theorem Sh.none {n : Nat} : Sh n .none := ⟨by simp [PyData.canLay0], by simp [PyData.depth]⟩
theorem Sh.mono {n m : Nat} {d : D} (h : Sh n d) (k : n ≤ m) : Sh m d := ⟨h.1, Nat.le_trans h.2 k⟩
theorem sh_all {n : Nat} : ∀ {xs : List D}, (∀ x ∈ xs, Sh n x) → PyData.canLayAll0 xs = true ∧ PyData.depthAll xs ≤ n
  | [], _ => ⟨by simp [PyData.canLayAll0], by simp [PyData.depthAll]⟩
  | x :: xs, h => by
    obtain ⟨h1, h2⟩ := sh_all (xs := xs) fun y hy => h y (List.mem_cons_of_mem _ hy)
    obtain ⟨g1, g2⟩ := h x List.mem_cons_self
    exact ⟨by simp [PyData.canLayAll0, g1, h1], by simp [PyData.depthAll]; omega⟩
theorem Sh.tup {n : Nat} {xs : List D} (h : ∀ x ∈ xs, Sh n x) : Sh (n + 1) (.tuple xs) := by
  obtain ⟨h1, h2⟩ := sh_all h
  exact ⟨by simp [PyData.canLay0, h1], by simp [PyData.depth]; omega⟩
theorem Sh.lst {n : Nat} {xs : List D} (h : ∀ x ∈ xs, Sh n x) : Sh (n + 1) (.list xs) := by
  obtain ⟨h1, h2⟩ := sh_all h
  exact ⟨by simp [PyData.canLay0, h1], by simp [PyData.depth]; omega⟩
theorem Sh.ints {n : Nat} {l : List Int} : ∀ x ∈ l.map PyData.int, Sh n x := fun x hx => by
  obtain ⟨i, _, rfl⟩ := List.mem_map.mp hx
  exact Sh.int
theorem Sh.ok {n : Nat} {d : D} (h : Sh n d) (k : n ≤ 64 := by decide) : SeqAt.shaped d = true := by
  unfold SeqAt.shaped
  simp [h.1, Nat.le_trans h.2 k]
@[simp] theorem shaped_int {i : Int} : SeqAt.shaped (.int i) = true := (Sh.int (n := 0)).ok
@[simp] theorem shaped_bool {i : Bool} : SeqAt.shaped (.bool i) = true := (Sh.bool (n := 0)).ok
@[simp] theorem shaped_none : SeqAt.shaped .none = true := (Sh.none (n := 0)).ok
@[simp] theorem shaped_ints {l : List Int} : SeqAt.shaped (.tuple (l.map PyData.int)) = true := (Sh.tup (n := 0) Sh.ints).ok
@[simp] theorem shaped_intsL {l : List Int} : SeqAt.shaped (.list (l.map PyData.int)) = true := (Sh.lst (n := 0) Sh.ints).ok
@[simp] theorem shaped_nilL : SeqAt.shaped (.list []) = true := (Sh.lst (n := 0) (xs := []) (by simp)).ok
@[simp] theorem shaped_nilT : SeqAt.shaped (.tuple []) = true := (Sh.tup (n := 0) (xs := []) (by simp)).ok
@[simp] theorem eqv_int {i j : Int} : PyData.eqv (.int i) (.int j) = decide (i = j) := by
  show (i == j) = _
  exact Bool.beq_eq_decide_eq i j
@[simp] theorem eqv_bool {i j : Bool} : PyData.eqv (.bool i) (.bool j) = (i == j) := rfl
@[simp] theorem eqv_none : PyData.eqv .none .none = true := rfl
@[simp] theorem eqv_tup_none {xs : List D} : PyData.eqv (.tuple xs) .none = false := rfl
@[simp] theorem eqv_none_tup {xs : List D} : PyData.eqv .none (.tuple xs) = false := rfl
@[simp] theorem eqv_int_none {i : Int} : PyData.eqv (.int i) .none = false := rfl
@[simp] theorem eqv_none_int {i : Int} : PyData.eqv .none (.int i) = false := rfl
mutual
/-- no truth values, texts, dicts inside -/
def plainD : D → Bool
  | .none => true
  | .int _ => true
  | .list xs => plainAll xs
  | .tuple xs => plainAll xs
  | _ => false
def plainAll : List D → Bool
  | [] => true
  | x :: xs => plainD x && plainAll xs
end
mutual
theorem eqv_plain : ∀ (d e : D), plainD d = true → plainD e = true → (PyData.eqv d e = true ↔ d = e)
  | .none, e, _, h => by cases e <;> simp_all [PyData.eqv, plainD]
  | .int i, e, _, h => by cases e <;> simp_all [PyData.eqv, plainD]
  | .bool _, _, h, _ => by simp [plainD] at h
  | .str _, _, h, _ => by simp [plainD] at h
  | .dict _, _, h, _ => by simp [plainD] at h
  | .list xs, e, h, h' => by
    cases e with
    | list ys => simpa [PyData.eqv] using eqv_plainAll xs ys (by simpa [plainD] using h) (by simpa [plainD] using h')
    | _ => simp_all [PyData.eqv, plainD]
  | .tuple xs, e, h, h' => by
    cases e with
    | tuple ys => simpa [PyData.eqv] using eqv_plainAll xs ys (by simpa [plainD] using h) (by simpa [plainD] using h')
    | _ => simp_all [PyData.eqv, plainD]
theorem eqv_plainAll : ∀ (xs ys : List D), plainAll xs = true → plainAll ys = true → (PyData.eqvAll xs ys = true ↔ xs = ys)
  | [], ys, _, _ => by cases ys <;> simp [PyData.eqvAll]
  | x :: xs, ys, h, h' => by
    cases ys with
    | nil => simp [PyData.eqvAll]
    | cons y ys =>
      simp only [plainAll, Bool.and_eq_true] at h h'
      simp [PyData.eqvAll, eqv_plain x y h.1 h'.1, eqv_plainAll xs ys h.2 h'.2]
end
theorem plain_map {α : Type} {f : α → D} (h : ∀ a, plainD (f a) = true) : ∀ l : List α, plainAll (l.map f) = true
  | [] => rfl
  | a :: l => by simp [plainAll, h a, plain_map h l]
theorem plain_all : ∀ {l : List D}, (∀ d ∈ l, plainD d = true) → plainAll l = true
  | [], _ => rfl
  | a :: l, h => by simp [plainAll, h a List.mem_cons_self, plain_all fun d hd => h d (List.mem_cons_of_mem _ hd)]
@[simp] theorem plain_int {i : Int} : plainD (.int i) = true := rfl
@[simp] theorem plain_none : plainD .none = true := rfl
@[simp] theorem plain_ints {l : List Int} : plainD (.tuple (l.map PyData.int)) = true := by
  show plainAll _ = true
  exact plain_map (fun _ => rfl) l
@[simp] theorem plain_intsL {l : List Int} : plainD (.list (l.map PyData.int)) = true := by
  show plainAll _ = true
  exact plain_map (fun _ => rfl) l
theorem eqv_dec {d e : D} (h : plainD d = true) (h' : plainD e = true) {b : Bool} (k : b = true ↔ d = e) : PyData.eqv d e = b := by
  rw [Bool.eq_iff_iff, eqv_plain d e h h', k]
@[simp] theorem eqv_ints {l m : List Int} : PyData.eqv (.tuple (l.map PyData.int)) (.tuple (m.map PyData.int)) = decide (l = m) := eqv_dec plain_ints plain_ints (by simp)
@[simp] theorem eqv_intsL {l m : List Int} : PyData.eqv (.list (l.map PyData.int)) (.list (m.map PyData.int)) = decide (l = m) := eqv_dec plain_intsL plain_intsL (by simp)
theorem filterMap_nothing {α β : Type} : ∀ l : List α, l.filterMap (fun _ => (none : Option β)) = []
  | [] => rfl
  | a :: l => by rw [List.filterMap_cons]; exact filterMap_nothing l
theorem atI_z {α : Type} {l : List α} {i : Nat} {x : α} (h : l[i]? = some x) : atI l (0 + (i : Int)) = some x := by
  rw [Int.zero_add]; exact atI_nat h
@[simp] theorem noRow_nil : noRow [] := fun d h => absurd h (by simp)
@[simp] theorem noRow_cons {d : D} {ds : List D} : noRow (d :: ds) ↔ d ≠ .dict [] ∧ noRow ds := by
  constructor
  · intro h
    exact ⟨h d List.mem_cons_self, fun x hx => h x (List.mem_cons_of_mem _ hx)⟩
  · rintro ⟨h1, h2⟩ x hx
    rcases List.mem_cons.mp hx with z | z
    · rw [z]; exact h1
    · exact h2 x z
@[simp] theorem eqv_nilL : PyData.eqv (.list []) (.list []) = true := rfl
@[simp] theorem rngD_len {lo : Int} {n : Nat} : (rngD lo n).length = n := rngD_length
@[simp] theorem rdMax2_iff {i j : Int} {R : D → Prop} : rdMax2 [.int i, .int j] R ↔ R (.int (if j > i then j else i)) := by
  constructor
  · rintro ⟨a, b, e, h⟩; simp at e; rw [e.1, e.2]; exact h
  · intro h; exact ⟨i, j, rfl, h⟩
@[simp] theorem rdMin2_iff {i j : Int} {R : D → Prop} : rdMin2 [.int i, .int j] R ↔ R (.int (if j < i then j else i)) := by
  constructor
  · rintro ⟨a, b, e, h⟩; simp at e; rw [e.1, e.2]; exact h
  · intro h; exact ⟨i, j, rfl, h⟩
@[simp] theorem rdInt1_bool {k : Bool} {R : D → Prop} : rdInt1 [.bool k] R ↔ R (.int (if k then 1 else 0)) := by
  constructor
  · rintro (⟨a, e, h⟩ | ⟨a, e, h⟩)
    · simp at e
    · simp at e; rw [e]; exact h
  · intro h; exact .inr ⟨k, rfl, h⟩
@[simp] theorem rdInt1_int {k : Int} {R : D → Prop} : rdInt1 [.int k] R ↔ R (.int k) := by
  constructor
  · rintro (⟨a, e, h⟩ | ⟨a, e, h⟩)
    · simp at e; rw [e]; exact h
    · simp at e
  · intro h; exact .inl ⟨k, rfl, h⟩
@[simp] theorem rdZip_iff {xs ys : List D} {R : List D → Prop} : rdZip [.tuple xs, .tuple ys] R ↔ R ((xs.zip ys).map fun p => .tuple [p.1, p.2]) := by
  constructor
  · rintro ⟨a, b, e, h⟩; simp at e; rw [e.1, e.2]; exact h
  · intro h; exact ⟨xs, ys, rfl, h⟩
@[simp] theorem atI_0 {α : Type} {a : α} {l : List α} : atI (a :: l) 0 = some a := atI_nat (j := 0) rfl
@[simp] theorem atI_1 {α : Type} {a b : α} {l : List α} : atI (a :: b :: l) 1 = some b := atI_nat (j := 1) rfl
@[simp] theorem atI_2 {α : Type} {a b c : α} {l : List α} : atI (a :: b :: c :: l) 2 = some c := atI_nat (j := 2) rfl
@[simp] theorem atI_3 {α : Type} {a b c d : α} {l : List α} : atI (a :: b :: c :: d :: l) 3 = some d := atI_nat (j := 3) rfl
@[simp] theorem eqv_list_nil {xs : List D} : PyData.eqv (.list xs) (.list []) = xs.isEmpty := by cases xs <;> rfl
/-- the places at which something is bad -/
def badAt (bad : Nat → Bool) : D → Option D
  | .int i => if bad i.toNat = true then some (.int i) else none
  | _ => none
theorem badAt_list (bad : Nat → Bool) (n : Nat) : ((rngD 0 n).filterMap (badAt bad)).isEmpty = (List.range n).all fun k => !bad k := by
  unfold rngD
  rw [List.filterMap_map]
  have : ∀ l : List Nat, (l.filterMap (badAt bad ∘ fun k => PyData.int (0 + (k : Nat)))).isEmpty = l.all fun k => !bad k := by
    intro l
    induction l with
    | nil => rfl
    | cons a l ih =>
      rw [List.filterMap_cons, List.all_cons]
      by_cases q : bad a = true
      · simp [badAt, q]
      · simp [badAt, q]
        simpa using ih
  exact this _
theorem badAt_nil (bad : Nat → Bool) (n : Nat) : (rngD 0 n).filterMap (badAt bad) = [] ↔ ((List.range n).all fun k => !bad k) = true := by
  rw [← badAt_list, List.isEmpty_iff]
theorem badAt_sh (bad : Nat → Bool) (l : List D) : SeqAt.shaped (.list (l.filterMap (badAt bad))) = true := by
  refine (Sh.lst (n := 0) fun x hx => ?_).ok
  obtain ⟨d, _, e⟩ := List.mem_filterMap.mp hx
  cases d with
  | int i =>
    have e : (if bad i.toNat = true then some (PyData.int i) else none) = some x := e
    by_cases q : bad i.toNat = true
    · rw [if_pos q] at e; rw [← Option.some.inj e]; exact Sh.int
    · rw [if_neg q] at e; cases e
  | _ => cases e
/-- a comprehension over range(n) that gathers bad places -/
theorem lcRun_bad {g : D → (Sg → Prop) → Prop} {wt : WT} {we : W} {R : List D → Prop} (bad : Nat → Bool) (n : Nat) (ht : ∀ k : Nat, k < n → ∀ K : Option D → Prop, K (if bad k = true then some (.int k) else none) → g (.int k) fun e' => wt e' fun b => if b = true then we e' fun y => y ≠ .dict [] ∧ K (some y) else K none)
    (r : R ((rngD 0 n).filterMap (badAt bad))) : lcRun g wt we R (rngD 0 n) [] := by
  refine lcRun_det (badAt bad) _ _ (fun d hd K k => ?_) (by simpa using r)
  unfold rngD at hd
  obtain ⟨i, hi, rfl⟩ := List.mem_map.mp hd
  rw [Int.zero_add] at k ⊢
  exact ht i (List.mem_range.mp hi) K (by simpa [badAt] using k)
theorem atI_map {α β : Type} {l : List α} {f : α → β} {i : Nat} {x : α} (h : l[i]? = some x) : atI (l.map f) (i : Int) = some (f x) := atI_nat (by rw [List.getElem?_map, h]; rfl)
theorem all_range {α : Type} (p : α → Bool) (l : List α) (bad : Nat → Bool) (h : ∀ (i : Nat) x, l[i]? = some x → bad i = !p x) : ((List.range l.length).all fun k => !bad k) = l.all p := by
  rw [Bool.eq_iff_iff, List.all_eq_true, List.all_eq_true]
  constructor
  · intro k x hx
    obtain ⟨i, hi, e⟩ := List.getElem_of_mem hx
    have := k i (List.mem_range.mpr hi)
    rw [h i x (by rw [List.getElem?_eq_getElem hi, e])] at this
    simpa using this
  · intro k i hi
    have hi' := List.mem_range.mp hi
    rw [h i _ (List.getElem?_eq_getElem hi'), k _ (List.getElem_mem hi')]
    rfl
@[simp] theorem isNone_none : isNone .none = true := rfl
@[simp] theorem isNone_int {i : Int} : isNone (.int i) = false := rfl
@[simp] theorem isNone_bool {i : Bool} : isNone (.bool i) = false := rfl
@[simp] theorem isNone_str {i : Str} : isNone (.str i) = false := rfl
@[simp] theorem isNone_list {i : List D} : isNone (.list i) = false := rfl
@[simp] theorem isNone_tup {i : List D} : isNone (.tuple i) = false := rfl
end FW
/-! FWR: the row of draws. -/
namespace FW
open PySem PySem.Spec PyProof.Rows L2
section
variable {c : Amb} {H F H' : Hp}
/-- the row has changed, nothing else -/
theorem Ext.rowed (W : Wok c H F) {i x k : Int} (hi : 0 ≤ i) (hx : 0 ≤ x) (hx2 : x < 2147483647) (h1 : H' c.r = some (.lst [.ref c.a, .int i, .int x, .int k])) (h2 : ∀ b, b ≠ c.r → H' b = H b) : Ext c H F H' F := by
  obtain ⟨i0, x0, k0, g1, _, _, _, g5⟩ := W.row
  have hr : ∀ P ∈ c.Ps, P ≠ c.r := fun P hP z => by
    obtain ⟨ps, q, _⟩ := (W.tab P hP).1
    rw [z, g1] at q; cases q
  refine ⟨⟨fun b o e => ?_, ⟨i, x, k, h1, hi, hx, hx2, ?_⟩, W.rF, fun P hP => ⟨?_, (W.tab P hP).2⟩⟩, fun _ _ h => h, fun b o e hb _ => by rw [h2 b hb]; exact e, fun _ h h' => absurd h h', W.row.sq⟩
  · rw [h2 b (fun z => by rw [z, W.rF] at e; cases e)]; exact W.sub b o e
  · have ne : ∀ u, H c.a = some u → (∀ o, u ≠ .lst (V.ref c.a :: o)) → c.a ≠ c.r := fun u e k z => by
      rw [z, g1] at e
      exact k _ (by rw [← Option.some.inj e, z])
    rcases g5 with (g5 | ⟨o, g5⟩) | g5
    · refine .inl (.inl ?_)
      rw [h2 c.a (ne _ g5 fun o z => ?_)]
      · exact g5
      · have z' := HO.lst.inj z
        cases q : c.ns with
        | nil => rw [q] at z'; cases z'
        | cons a l => rw [q] at z'; cases z'
    · exact .inl (.inr ⟨o, by rw [h2 c.a (ne _ g5 fun o z => by cases z)]; exact g5⟩)
    · exact .inr g5
  · obtain ⟨ps, q, r⟩ := (W.tab P hP).1
    exact ⟨ps, by rw [h2 P (hr P hP)]; exact q, r⟩
end
/-- a draw: some number below m -/
def f_law_taken : Fd := fun ds R => ∃ m : Int, ds = [.dict [], .int m] ∧ 0 < m ∧ m < 1073741824 ∧ ∀ v : Int, 0 ≤ v → v < m → R (.int v)
theorem len_law_taken : ∀ ds R, f_law_taken ds R → ds.length = 2 := by
  rintro ds R ⟨m, rfl, _⟩; rfl
theorem fmod_lt {a m : Int} (h : 0 < m) : 0 ≤ a.fmod m ∧ a.fmod m < m := ⟨Int.fmod_nonneg_of_pos a h, Int.fmod_lt_of_pos a h⟩
/-! ### isinstance -/
def tyN : D → String
  | .none => "NoneType"
  | .bool _ => "bool"
  | .int _ => "int"
  | .str _ => "str"
  | .list _ => "list"
  | .tuple _ => "tuple"
  | .dict _ => "dict"
def isN (a t : String) : Bool := decide (a = t) || (decide (a = "bool") && decide (t = "int"))
def tyNs : List String := ["NoneType", "bool", "int", "str", "list", "tuple"]
def clsNs : List String := ["tuple", "list", "bool", "str", "int"]
theorem kit_all : ∀ a ∈ tyNs, ∀ t ∈ clsNs, kitB a t = some (isN a t) := by decide +kernel
theorem tyN_mem {d : D} (h : ∀ k, d ≠ .dict k) : tyN d ∈ tyNs := by
  cases d <;> first | (simp [tyN, tyNs]; done) | exact absurd rfl (h _)
theorem kit_d {K : PySem.W.Frag} {d : D} (h : ∀ k, d ≠ .dict k) {t : String} (ht : t ∈ clsNs) : PySem.W.kitOne K (.type (tyN d)) (.type t) = some (isN (tyN d) t) := kit_ty (kit_all _ (tyN_mem h) t ht)
theorem ty_rp {K : PySem.W.Frag} {F H : Hp} (e : Same F H) {v : V} {d : D} (h : Rp K F v d) : TyX K H v (.type (tyN d)) ∧ ∀ k, d ≠ .dict k := by
  cases h with
  | non => exact ⟨.base .non, fun k z => by cases z⟩
  | bl b => exact ⟨.base (.bl b), fun k z => by cases z⟩
  | int i => exact ⟨.base (.int i), fun k z => by cases z⟩
  | str x => exact ⟨.base (.str x), fun k z => by cases z⟩
  | lst hs _ => exact ⟨.base (.lst (e _ _ hs)), fun k z => by cases z⟩
  | tup hs _ =>
    refine ⟨?_, fun k z => by cases z⟩
    rcases hs with (hs | ⟨o, hs⟩) | ⟨o, its, n, hs, hc, _⟩
    · exact .base (.tup (e _ _ hs))
    · exact .fTuple (e _ _ hs)
    · exact .kTuple hs hc
@[simp] def dIsi (t : String) (w : W) : W := fun e R => w e fun d => d ≠ .dict [] ∧ R (.bool (isN (tyN d) t))
section
variable {c : Amb} {H F H' : Hp}
theorem xd_isi {t : String} (ht : t ∈ clsNs) {w : W} : ∀ σ H Q, tD c (dIsi t w) σ H Q → tCB (rIsi c.K) (tCons (tD c w) (tCons (tC (.ty t)) tNil)) σ H Q := fun σ H Q ⟨e, F, H0, R, W, S, q, P⟩ =>
  ⟨e, F, H0, _, W, S, q, fun d v H1 F1 ⟨hd, r⟩ x1 rv => by
    obtain ⟨ty, nd⟩ := ty_rp x1.ok.sub (rv.dp hd)
    exact ⟨v, .ty t, _, _, _, rfl, .ty t, ty, kit_d nd ht, P _ _ H1 F1 r x1 .bl⟩⟩
/-- isinstance(x, (tuple, list)) -/
@[simp] def dIsi2 (t u : String) (w : W) : W := fun e R => w e fun d => d ≠ .dict [] ∧ R (.bool (isN (tyN d) t || isN (tyN d) u))
theorem xd_isi2 {t u : String} (ht : t ∈ clsNs) (hu : u ∈ clsNs) {w : W} : ∀ σ H Q, tD c (dIsi2 t u w) σ H Q → tCB (rIsiT c.K) (tCons (tD c w) (tCons (tTup (tCons (tC (.ty t)) (tCons (tC (.ty u)) tNil))) tNil)) σ H Q := fun σ H Q ⟨e, F, H0, R, W, S, q, P⟩ =>
  ⟨e, F, H0, _, W, S, q, fun d v H1 F1 ⟨hd, r⟩ x1 rv => ⟨len_le (by simp), fun p hp => by
    have x2 := Ext.loose x1.ok (.tup [.ty t, .ty u]) hp
    obtain ⟨ty, nd⟩ := ty_rp x2.ok.sub (rv.dp hd)
    refine ⟨v, p, _, _, [.type t, .type u], _, rfl, upd_same, .cons (.ty t) (.cons (.ty u) .nil), ty, kitAny_cons (r := isN (tyN d) t || isN (tyN d) u) (kit_d nd ht) (fun h => ?_) (fun h => by rw [h]; rfl), P _ _ _ _ r (x1.trans x2) .bl⟩
    rw [h, Bool.false_or]
    exact kitAny_cons (kit_d nd hu) (fun h => by rw [h]; exact kitAny_nil) (fun h => h)⟩⟩
end
/-! ### draws -/
theorem taken_ok {m : Int} {R : D → Prop} (h : 0 < m) (h2 : m < 1073741824) (k : ∀ v : Int, 0 ≤ v → v < m → R (.int v)) : f_law_taken [.dict [], .int m] R := ⟨m, rfl, h, h2, k⟩
@[simp] theorem taken_iff {m : Int} {R : D → Prop} : f_law_taken [.dict [], .int m] R ↔ 0 < m ∧ m < 1073741824 ∧ ∀ v : Int, 0 ≤ v → v < m → R (.int v) := by
  constructor
  · rintro ⟨m', e, h⟩
    simp at e
    subst e
    exact h
  · rintro ⟨h1, h2, h3⟩; exact ⟨m, rfl, h1, h2, h3⟩
theorem atI_in {α : Type} {l : List α} {v : Int} (h0 : 0 ≤ v) (h1 : v < l.length) : ∃ d, atI l v = some d ∧ d ∈ l := by
  obtain ⟨n, rfl⟩ : ∃ n : Nat, v = n := ⟨v.toNat, by omega⟩
  have hn : n < l.length := by omega
  exact ⟨l[n], atI_nat (List.getElem?_eq_getElem hn), List.getElem_mem hn⟩
end FW
/-! FWE: the law itself: its first statement makes the row. -/
namespace FW
open PySem PySem.Spec PyProof.Rows L2
section
variable {X : Cx} {g : Glb} {E : XK}
/-- the rest of the law, whatever the row's address is -/
def sAny (g : Glb) (E : XK) (w : WS) : TS := fun D σ H => ∃ (r a : Addr) (ns : List Int), sD ⟨g, r, a, ns⟩ E w D σ H
theorem pss_any {st : List Stmt} {w : WS} (h : ∀ r a ns, PSs X st (sD ⟨g, r, a, ns⟩ E w)) : PSs X st (sAny g E w) := ⟨fun pins s σ H D I ⟨r, a, ns, q⟩ => (h r a ns).run pins s σ H D I q⟩
end
def spLaw (g : Glb) : Sp := fun vs H Q _ => ∃ (a : Addr) (ns : List Int), vs = [.ref a] ∧ (∀ P ∈ g.Ps, H P = some (.tbl #[])) ∧ SqL g.K H a (ns.map V.int) ∧ ∀ H', Q (.bl true) H'
/-- where the row has been made: the rest may run -/
theorem law_start {g : Glb} {E : XK} {H : Hp} {a : Addr} {ns : List Int} {w : WS} {Q : VK} {n : Nat} (hP : ∀ P ∈ g.Ps, H P = some (.tbl #[])) (hs : SqL g.K H a (ns.map V.int)) (k : ∀ H', Q (.bl true) H')
    (hw : w { nx := fun _ => False, rt := fun d => d = .bool true } (.un :: .val (.dict []) :: List.replicate n .un)) : ∀ p, H p = none →
      sAny g E w { nx := fun _ H' => Q .non H', rt := Q } (some (.ref a) :: some (.ref p) :: List.replicate n none) (upd H p (.lst [.ref a, .int 0, .int 0, .int 0])) := fun p hp => by
  refine ⟨p, a, ns, .un :: .val (.dict []) :: List.replicate n .un, fun _ => none, upd H p (.lst [.ref a, .int 0, .int 0, .int 0]), fun _ => none, _, Ext.refl ?_, ?_, hw, ?_⟩
  · refine ⟨fun b o e => (by cases e), ⟨0, 0, 0, upd_same, Int.le_refl _, Int.le_refl _, by decide, ?_⟩, rfl, fun P h => ⟨⟨#[], ?_, trivial⟩, rfl⟩⟩
    · rcases hs with (h | ⟨o, h⟩) | h
      · exact .inl (.inl (by rw [upd_ne (ne_of_none h hp)]; exact h))
      · exact .inl (.inr ⟨o, by rw [upd_ne (ne_of_none h hp)]; exact h⟩)
      · exact .inr h
    · rw [upd_ne (ne_of_none (hP P h) hp)]; exact hP P h
  · have noE : ∀ (i : Nat) (b : Addr), (Sl.un :: Sl.val (.dict []) :: List.replicate n Sl.un)[i]? ≠ some (.exc b) := fun i b h => by
      match i with
      | 0 => cases h
      | 1 => cases h
      | i + 2 =>
        simp only [List.getElem?_cons_succ, List.getElem?_replicate] at h
        split at h <;> cases h
    have noO : ∀ (i : Nat) (es : List D), (Sl.un :: Sl.val (.dict []) :: List.replicate n Sl.un)[i]? ≠ some (.own es) := fun i es h => by
      match i with
      | 0 => cases h
      | 1 => cases h
      | i + 2 =>
        simp only [List.getElem?_cons_succ, List.getElem?_replicate] at h
        split at h <;> cases h
    refine ⟨by simp, fun i d h => ?_, fun i es h => absurd h (noO i es), fun i j es fs b _ h => absurd h (noO i es), fun i b h => absurd h (noE i b)⟩
    match i with
    | 0 => cases h
    | 1 =>
      simp at h
      subst h
      exact ⟨_, rfl, .inr ⟨rfl, rfl⟩⟩
    | i + 2 =>
      simp only [List.getElem?_cons_succ, List.getElem?_replicate] at h
      split at h <;> cases h
  · refine ⟨fun _ _ _ _ z => z.elim, fun d v H' F' q _ rv => ?_, fun _ _ _ _ _ z => z.elim, fun _ _ _ _ z => z.elim, fun _ _ _ _ z => z.elim, fun _ _ _ z => z.elim⟩
    have q : d = .bool true := q
    subst q
    rw [rv.bl_inv]
    exact k H'
end FW
namespace FW
open PySem PySem.Spec PyProof.Rows L2
def top (i : Nat) : Stmt := PySem.Challenge.pw_fretways_k03_shapes_slid.main.body.getD i (.Pass ⟨0, 0, 0, 0⟩)
abbrev s_all_within : Stmt := top 9
abbrev s_is_place : Stmt := top 10
abbrev s_check_neck : Stmt := top 11
abbrev s_check_shape : Stmt := top 12
abbrev s_slid : Stmt := top 14
abbrev s_apart : Stmt := top 15
abbrev s_is_pressed : Stmt := top 16
abbrev s_moved : Stmt := top 17
abbrev s_first_step : Stmt := top 18
abbrev s_law_taken : Stmt := top 20
abbrev s_law_alike : Stmt := top 21
abbrev s_law_neck : Stmt := top 22
abbrev s_law_places : Stmt := top 23
abbrev s_law_shape : Stmt := top 24
abbrev s_law_hand : Stmt := top 25
abbrev s_law_sounds : Stmt := top 26
abbrev s_law_slid : Stmt := top 27
abbrev s_law_apart : Stmt := top 28
abbrev s_law : Stmt := top 29
structure Txt (mg : Str → Option Value) : Prop where
  m_all : mg "all" = none
  m_len : mg "len" = none
  m_range : mg "range" = none
  m_tuple : mg "tuple" = none
  m_list : mg "list" = none
  m_zip : mg "zip" = none
  m_min : mg "min" = none
  m_max : mg "max" = none
  m_isinstance : mg "isinstance" = none
  m_int : mg "int" = none
  m_str : mg "str" = none
  m_bool : mg "bool" = none
  m_ValueError : mg "ValueError" = none
  c_SILENT : ∃ t, mg "SILENT" = some (.int (-1) t)
  c_MOST_STRINGS : ∃ t, mg "MOST_STRINGS" = some (.int (6) t)
  c_HIGHEST_TUNING : ∃ t, mg "HIGHEST_TUNING" = some (.int (60) t)
  c_MOST_FRETS : ∃ t, mg "MOST_FRETS" = some (.int (20) t)
  ok_ : True
/-! ### the data of the program -/
def intsD (l : List Int) : D := .tuple (l.map PyData.int)
def neckD (t : List Int) (f c : Int) : D := .tuple [intsD t, .int f, .int c]
structure OkNeck (t : List Int) (f c : Int) : Prop where
  l1 : 1 ≤ t.length
  l2 : t.length ≤ 6
  n : ∀ x ∈ t, 0 ≤ x ∧ x ≤ 60
  f0 : 0 ≤ f
  f1 : f ≤ 20
  c0 : 0 ≤ c
  c1 : c ≤ f
structure OkShape (t : List Int) (f c : Int) (s : List Int) : Prop where
  len : s.length = t.length
  at_ : ∀ p ∈ s, p = -1 ∨ (c ≤ p ∧ p ≤ f)
@[simp] theorem shaped_intsD {l : List Int} : SeqAt.shaped (intsD l) = true := shaped_ints
@[simp] theorem eqv_intsD {l m : List Int} : PyData.eqv (intsD l) (intsD m) = decide (l = m) := eqv_ints
@[simp] theorem eqv_none_intsD {l : List Int} : PyData.eqv .none (intsD l) = false := rfl
@[simp] theorem eqv_intsD_none {l : List Int} : PyData.eqv (intsD l) .none = false := rfl
@[simp] theorem intsD_ne {l : List Int} : intsD l ≠ .dict [] := fun z => by cases z
@[simp] theorem intsD_str {l : List Int} {x : Str} : intsD l ≠ .str x := fun z => by cases z
@[simp] theorem seq_intsD {l : List Int} {xs : List D} : IsSeq (intsD l) xs ↔ xs = l.map PyData.int := isSeq_tup
@[simp] theorem intsD_inj {l m : List Int} : intsD l = intsD m ↔ l = m := by simp [intsD]
@[simp] theorem intsD_tup {l : List Int} {xs : List D} : intsD l = .tuple xs ↔ xs = l.map PyData.int := by
  constructor
  · intro h; cases h; rfl
  · intro h; rw [h]; rfl
@[simp] theorem neckD_inj {t t' : List Int} {f f' c c' : Int} : neckD t f c = neckD t' f' c' ↔ t = t' ∧ f = f' ∧ c = c' := by simp [neckD]
@[simp] theorem neckD_ne {t : List Int} {f c : Int} : neckD t f c ≠ .dict [] := fun z => by cases z
@[simp] theorem neck_1 {t : List Int} {f c : Int} {R : D → Prop} : rdIx (neckD t f c) (.int 1) R ↔ R (.int f) := by simp [neckD]
@[simp] theorem neck_2 {t : List Int} {f c : Int} {R : D → Prop} : rdIx (neckD t f c) (.int 2) R ↔ R (.int c) := by simp [neckD]
@[simp] theorem neck_0 {t : List Int} {f c : Int} {R : D → Prop} : rdIx (neckD t f c) (.int 0) R ↔ R (intsD t) := by simp [neckD]
@[simp] theorem seq_neckD {t : List Int} {f c : Int} {xs : List D} : IsSeq (neckD t f c) xs ↔ xs = [intsD t, .int f, .int c] := isSeq_tup
@[simp] theorem isNone_intsD {l : List Int} : isNone (intsD l) = false := rfl

/-! ### all_within -/
def allIn (lo hi : Int) (ns : List Int) : Bool := ns.all fun n => decide (lo ≤ n) && decide (n ≤ hi)
def f_all_within : Fd := fun ds R => ∃ d ns lo hi, ds = [d, .int lo, .int hi] ∧ IsSeq d (ns.map PyData.int) ∧ R (.bool (allIn lo hi ns))
theorem len_all_within : ∀ ds R, f_all_within ds R → ds.length = 3 := by
  rintro ds R ⟨d, ns, lo, hi, rfl, _⟩
  exact rfl
def W_all_within : WS := dRet (dAllW 1 2 (dVar 0))
theorem pure_all_within : ∀ ds R, f_all_within ds R → W_all_within { nx := fun _ => R .none, rt := R } (startD ["numbers", "least", "greatest"] ds) := by
  rintro ds R ⟨d, ns, lo, hi, rfl, hs, h⟩
  exact ⟨lo, hi, rfl, rfl, _, rfl, ns, hs, h⟩
theorem sc_all_within : FnScope ["numbers", "least", "greatest"] ["numbers", "least", "greatest"] (defScope s_all_within) := ⟨rfl, rfl, rfl, by decide +kernel, rfl, by decide +kernel, by decide +kernel⟩
/-- the scope of the generator expression -/
def genScope (s : Stmt) : Scope := match defBody s with
  | [.Return (some (.Call _ [.GeneratorExp _ _ sc _] _ _)) _] => sc
  | _ => { kind := .function, names := [], isGenerator := false, isCoroutine := false }
theorem clo_within (cells : List (Str × Addr)) : cloFrom cells (genScope s_all_within).names [] = ([("least", (cells.lookup ("least" : Str)).getD 0), ("greatest", (cells.lookup ("greatest" : Str)).getD 0)] : List (Str × Addr)) := rfl
section
variable {P : Program} {w : World} {g : Glb} {mg : Str → Option Value} {base : Heap}
theorem ok_all_within {fd : FuncData} (F : FunP g.K "all_within" s_all_within (He.fAd g.K ("all_within", none)) fd) (mgf : mg "all_within" = some (.ref (He.fAd g.K ("all_within", none)))) (T : Txt mg)
    (TB : GxR.TabB base mg (He.codeOf g.K ("all_within", none)) (He.tabOf g.K (He.codeOf g.K ("all_within", none)))) (hP : He.tabOf g.K (He.codeOf g.K ("all_within", none)) ∈ g.Ps) : C8.Cal P w g.K mg base 1 "all_within" (spD g f_all_within) [] := by
  refine calDc (N := ["numbers", "least", "greatest"]) (ps := ["numbers", "least", "greatest"]) (k := 0) (wb := W_all_within) F mgf (F.bindsN fun _ _ _ _ _ _ us hl => match us, hl with | [_, _, _], _ => rfl) sc_all_within len_all_within (fun cdv A outer s H E r a ns hcd hr => ?_) pure_all_within
  have key : ∀ y : Str, (defScope s_all_within).names.lookup y = some .cell → ∃ c, (cellsFrom (s.heap.objs.size + 1) (defScope s_all_within).names []).lookup y = some c := fun y h => cell_has h
  refine pssd_one (ps_w (ps_ret (pe_w (FWG.pe_all (Pre := fun σ => ∃ lo hi : Int, σ[1]? = some (some (V.int lo)) ∧ σ[2]? = some (some (V.int hi))) hr (by rfl) T.m_all (by decide +kernel) TB hcd ⟨rfl, rfl, by decide +kernel, rfl, rfl, fun y hy hf => ?_⟩ (pe_w (pv 0) xd_var) (fun pins σ H1 s1 hpre I1 => ?_) (fun _ => rfl)) (xd_allW hP))) xs_ret)
  · have all : ∀ y ∈ (genScope s_all_within).names, y.2 = NameKind.free → (defScope s_all_within).names.lookup y.1 = some .cell := by decide +kernel
    exact key _ (all y hy hf)
  · obtain ⟨lo, hi, h1, h2⟩ := hpre
    obtain ⟨m, hn, hl⟩ := I1.loc
    obtain ⟨u1, ⟨t1, r1⟩, l1⟩ := hl 1 "least" (.int lo) rfl h1 (.inr (.inl rfl))
    obtain ⟨u2, ⟨t2, r2⟩, l2⟩ := hl 2 "greatest" (.int hi) rfl h2 (.inr (.inl rfl))
    rcases l1 with ⟨z, _⟩ | ⟨_, c1, hc1, v1⟩
    · exact nomatch (show (some NameKind.cell : Option NameKind) = some .local from z)
    rcases l2 with ⟨z, _⟩ | ⟨_, c2, hc2, v2⟩
    · exact nomatch (show (some NameKind.cell : Option NameKind) = some .local from z)
    rw [r1] at v1
    rw [r2] at v2
    have ep : pbT 1 2 σ = fun n => decide (lo ≤ n) && decide (n ≤ hi) := by
      funext n
      unfold pbT
      rw [h1, h2]
    rw [ep]
    refine FWG.el_between (cl := c1) (ch := c2) rfl rfl rfl rfl ?_ ?_ v1 v2 (by decide) (by decide) (by decide) (by decide) (by decide)
    · show List.lookup _ (cloFrom _ (genScope s_all_within).names []) = _
      rw [clo_within, hc1]
      rfl
    · show List.lookup _ (cloFrom _ (genScope s_all_within).names []) = _
      rw [clo_within, hc2]
      rfl
end

/-! ### is_place -/
def isPlace (f c p : Int) : Bool := decide (c ≤ p) && decide (p ≤ f)
def f_is_place : Fd := fun ds R => ∃ t f c p, ds = [neckD t f c, .int p] ∧ R (.bool (isPlace f c p))
theorem len_is_place : ∀ ds R, f_is_place ds R → ds.length = 2 := by
  rintro ds R ⟨t, f, c, p, rfl, _⟩; rfl
def W_is_place : WS := (dSeq (dUnp [2, 3, 4] (dVar 0)) (dRet (dChain rdLe rdLe (dVar 4) (dVar 1) (dVar 3))))
def N_is_place : List Str := ["neck", "fret", "_", "frets", "capo"]
theorem sc_is_place : FnScope ["neck", "fret", "_", "frets", "capo"] ["neck", "fret"] (defScope s_is_place) := ⟨rfl, rfl, rfl, by decide +kernel, rfl, by decide +kernel, by decide +kernel⟩
theorem pure_is_place : ∀ ds R, f_is_place ds R → W_is_place { nx := fun _ => R .none, rt := R } (startD ["neck", "fret", "_", "frets", "capo"] ds) := by
  rintro ds R ⟨t, f, c, p, rfl, h⟩
  refine ⟨_, rfl, _, rfl, rfl, ?_⟩
  refine ⟨_, rfl, _, rfl, _, _, rfl, rfl, _, rfl, ?_⟩
  unfold isPlace at h
  by_cases q : c ≤ p
  · rw [if_pos (decide_eq_true q)]
    refine ⟨_, rfl, _, _, rfl, rfl, ?_⟩
    simpa [q] using h
  · rw [if_neg (by simpa using q)]
    simpa [q] using h
section
variable {P : Program} {w : World} {g : Glb} {mg : Str → Option Value} {base : Heap}
theorem ok_is_place {f : Addr} {fd : FuncData} (F : FunP g.K "is_place" s_is_place f fd) (mgf : mg "is_place" = some (.ref f)) (T : Txt mg)  : C8.Cal P w g.K mg base 1 "is_place" (spD g f_is_place) [] :=
  calD (N := ["neck", "fret", "_", "frets", "capo"]) (ps := ["neck", "fret"]) (k := 0) (wb := W_is_place) F mgf (F.bindsN fun _ _ _ _ _ _ us hl => match us, hl with | [_, _], _ => rfl) sc_is_place len_is_place (fun cdv A outer s H E r a ns hr =>
    (pssd_cons (ps_w (ps_asg (pe_w (pv 0) xd_var) (pg_tup rfl (pgs_cons (pg_name (i := 2) sc_is_place.nd rfl (.inl rfl)) (pgs_cons (pg_name (i := 3) sc_is_place.nd rfl (.inl rfl)) (pgs_cons (pg_name (i := 4) sc_is_place.nd rfl (.inl rfl)) pgs_nil))))) (xs_unp (is := [2, 3, 4]) rfl)) (pssd_one (ps_w (ps_ret (pe_w (pe_chain op_le op_le (pe_w (pv 4) xd_var) (pe_w (pv 1) xd_var) (pe_w (pv 3) xd_var)) (xd_chain od_le od_le))) xs_ret)))) pure_is_place
end

/-! ### check_neck -/
def f_check_neck : Fd := fun ds R => ∃ t f c, ds = [neckD t f c] ∧ OkNeck t f c ∧ R .none
theorem len_check_neck : ∀ ds R, f_check_neck ds R → ds.length = 1 := by
  rintro ds R ⟨t, f, c, rfl, _⟩; rfl
theorem allIn_ok {lo hi : Int} {l : List Int} (h : ∀ x ∈ l, lo ≤ x ∧ x ≤ hi) : allIn lo hi l = true := by
  unfold allIn
  rw [List.all_eq_true]
  intro x hx
  simp [h x hx]
def W_check_neck : WS := (dSeq (dUnp [1, 2, 3] (dVar 0)) (dSeq (dIfS (bNot (bB (dChain rdLe rdLe (dC (.int 1)) (dCall rdLen (aCons (dVar 1) aNil)) (dC (.int 6))))) dNever dNext) (dSeq (dIfS (bNot (bTru (dCall f_all_within (aCons (dVar 1) (aCons (dC (.int 0)) (aCons (dC (.int 60)) aNil)))))) dNever dNext) (dSeq (dIfS (bNot (bB (dChain rdLe rdLe (dC (.int 0)) (dVar 2) (dC (.int 20))))) dNever dNext) (dIfS (bNot (bB (dChain rdLe rdLe (dC (.int 0)) (dVar 3) (dVar 2)))) dNever dNext)))))
def N_check_neck : List Str := ["neck", "tuning", "frets", "capo"]
theorem sc_check_neck : FnScope ["neck", "tuning", "frets", "capo"] ["neck"] (defScope s_check_neck) := ⟨rfl, rfl, rfl, by decide +kernel, rfl, by decide +kernel, by decide +kernel⟩
theorem pure_check_neck : ∀ ds R, f_check_neck ds R → W_check_neck { nx := fun _ => R .none, rt := R } (startD ["neck", "tuning", "frets", "capo"] ds) := by
  rintro ds R ⟨t, f, c, rfl, ok, h⟩
  have l1 : (1 : Int) ≤ t.length := by have := ok.l1; omega
  have l2 : (t.length : Int) ≤ 6 := by have := ok.l2; omega
  have a := allIn_ok ok.n
  simp [W_check_neck, neckD, intsD, l1, l2, ok.f0, ok.f1, ok.c0, ok.c1, f_all_within, h]
  exact ⟨_, t, 0, 60, ⟨rfl, rfl, rfl⟩, by simp, a⟩
section
variable {P : Program} {w : World} {g : Glb} {mg : Str → Option Value} {base : Heap}
theorem ok_check_neck {f : Addr} {fd : FuncData} (F : FunP g.K "check_neck" s_check_neck f fd) (mgf : mg "check_neck" = some (.ref f)) (T : Txt mg) (C_all_within : C8.Cal P w g.K mg base 1 "all_within" (spD g f_all_within) []) : C8.Cal P w g.K mg base 2 "check_neck" (spD g f_check_neck) [] :=
  calD (N := ["neck", "tuning", "frets", "capo"]) (ps := ["neck"]) (k := 1) (wb := W_check_neck) F mgf (F.bindsN fun _ _ _ _ _ _ us hl => match us, hl with | [_], _ => rfl) sc_check_neck len_check_neck (fun cdv A outer s H E r a ns hr =>
    (pssd_cons (ps_w (ps_asg (pe_w (pv 0) xd_var) (pg_tup rfl (pgs_cons (pg_name (i := 1) sc_check_neck.nd rfl (.inl rfl)) (pgs_cons (pg_name (i := 2) sc_check_neck.nd rfl (.inl rfl)) (pgs_cons (pg_name (i := 3) sc_check_neck.nd rfl (.inl rfl)) pgs_nil))))) (xs_unp (is := [1, 2, 3]) rfl)) (pssd_cons (ps_w (ps_if (pt_w (pt_not (pt_w (pt_chain op_le op_le (pe_w pe_int (xd_c fun _ => .int)) (pe_w (pe_callB call_len_seq (by rfl) T.m_len PySem.boot_len (pa_w (pa_cons (pe_w (pv 1) xd_var) (pa_w pa_nil xa_nil)) xa_cons)) (xd_cb cd_len)) (pe_w (pe_gint (by rfl) T.c_MOST_STRINGS) (xd_c fun _ => .int))) (xt_chain od_le od_le))) xt_not) (pssd_one (ps_w ps_never xs_never)) pssd_nil) xs_if) (pssd_cons (ps_w (ps_if (pt_w (pt_not (pt_w (pt_truth (pe_w (C8.pe_c C_all_within hr (by decide) (by rfl) (pa_w (pa_cons (pe_w (pv 1) xd_var) (pa_w (pa_cons (pe_w pe_int (xd_c fun _ => .int)) (pa_w (pa_cons (pe_w (pe_gint (by rfl) T.c_HIGHEST_TUNING) (xd_c fun _ => .int)) (pa_w pa_nil xa_nil)) xa_cons)) xa_cons)) xa_cons)) xd_call) (by intro _; rfl)) xt_tru)) xt_not) (pssd_one (ps_w ps_never xs_never)) pssd_nil) xs_if) (pssd_cons (ps_w (ps_if (pt_w (pt_not (pt_w (pt_chain op_le op_le (pe_w pe_int (xd_c fun _ => .int)) (pe_w (pv 2) xd_var) (pe_w (pe_gint (by rfl) T.c_MOST_FRETS) (xd_c fun _ => .int))) (xt_chain od_le od_le))) xt_not) (pssd_one (ps_w ps_never xs_never)) pssd_nil) xs_if) (pssd_one (ps_w (ps_if (pt_w (pt_not (pt_w (pt_chain op_le op_le (pe_w pe_int (xd_c fun _ => .int)) (pe_w (pv 3) xd_var) (pe_w (pv 2) xd_var)) (xt_chain od_le od_le))) xt_not) (pssd_one (ps_w ps_never xs_never)) pssd_nil) xs_if))))))) pure_check_neck
end

/-! ### check_shape -/
def f_check_shape : Fd := fun ds R => ∃ t f c s, ds = [neckD t f c, intsD s] ∧ OkShape t f c s ∧ R .none
theorem len_check_shape : ∀ ds R, f_check_shape ds R → ds.length = 2 := by
  rintro ds R ⟨t, f, c, s, rfl, _⟩; rfl
theorem isPlace_ok {f c p : Int} (h : c ≤ p ∧ p ≤ f) : isPlace f c p = true := by simp [isPlace, h]
def W_check_shape : WS := (dSeq (dUnp [2, 3, 3] (dVar 0)) (dSeq (dIfS (bB (dOp rdNe (dCall rdLen (aCons (dVar 1) aNil)) (dCall rdLen (aCons (dVar 2) aNil)))) dNever dNext) (dFor (iTpl (dVar 1)) (tgN 4) (dIfS (bAnd (bB (dOp rdNe (dVar 4) (dC (.int (-1))))) (bNot (bTru (dCall f_is_place (aCons (dVar 0) (aCons (dVar 4) aNil)))))) dNever dNext))))
def N_check_shape : List Str := ["neck", "shape", "tuning", "_", "fret"]
theorem sc_check_shape : FnScope ["neck", "shape", "tuning", "_", "fret"] ["neck", "shape"] (defScope s_check_shape) := ⟨rfl, rfl, rfl, by decide +kernel, rfl, by decide +kernel, by decide +kernel⟩
theorem pure_check_shape : ∀ ds R, f_check_shape ds R → W_check_shape { nx := fun _ => R .none, rt := R } (startD ["neck", "shape", "tuning", "_", "fret"] ds) := by
  rintro ds R ⟨t, f, c, s, rfl, ok, h⟩
  simp [W_check_shape, neckD, intsD, ok.len]
  refine forRun_inv (fun ds e => ∃ l x, ds = l.map PyData.int ∧ (∀ p ∈ l, p = -1 ∨ (c ≤ p ∧ p ≤ f)) ∧ e = [Sl.val (neckD t f c), .val (intsD s), .val (intsD t), .val (.int c), x]) ?_ (fun _ _ => h) _ _ ⟨s, .un, rfl, ok.at_, rfl⟩
  rintro d ds e ⟨l, x, hl, hp, rfl⟩ k
  cases l with
  | nil => simp at hl
  | cons p l =>
    simp at hl
    obtain ⟨rfl, rfl⟩ := hl
    have k' := k _ ⟨l, .val (.int p), rfl, fun q hq => hp q (List.mem_cons_of_mem _ hq), rfl⟩
    by_cases q : p = -1
    · subst q; simpa using k'
    · have := isPlace_ok ((hp p List.mem_cons_self).resolve_left q)
      simp [q, f_is_place]
      exact ⟨t, f, c, p, by simp, by simpa [this] using k'⟩
section
variable {P : Program} {w : World} {g : Glb} {mg : Str → Option Value} {base : Heap}
theorem ok_check_shape {f : Addr} {fd : FuncData} (F : FunP g.K "check_shape" s_check_shape f fd) (mgf : mg "check_shape" = some (.ref f)) (T : Txt mg) (C_is_place : C8.Cal P w g.K mg base 1 "is_place" (spD g f_is_place) []) : C8.Cal P w g.K mg base 2 "check_shape" (spD g f_check_shape) [] :=
  calD (N := ["neck", "shape", "tuning", "_", "fret"]) (ps := ["neck", "shape"]) (k := 1) (wb := W_check_shape) F mgf (F.bindsN fun _ _ _ _ _ _ us hl => match us, hl with | [_, _], _ => rfl) sc_check_shape len_check_shape (fun cdv A outer s H E r a ns hr =>
    (pssd_cons (ps_w (ps_asg (pe_w (pv 0) xd_var) (pg_tup rfl (pgs_cons (pg_name (i := 2) sc_check_shape.nd rfl (.inl rfl)) (pgs_cons (pg_name (i := 3) sc_check_shape.nd rfl (.inl rfl)) (pgs_cons (pg_name (i := 3) sc_check_shape.nd rfl (.inl rfl)) pgs_nil))))) (xs_unp (is := [2, 3, 3]) rfl)) (pssd_cons (ps_w (ps_if (pt_w (pt_cmpR (op_neD hr.units) (pe_w (pe_callB call_len_seq (by rfl) T.m_len PySem.boot_len (pa_w (pa_cons (pe_w (pv 1) xd_var) (pa_w pa_nil xa_nil)) xa_cons)) (xd_cb cd_len)) (pe_w (pe_callB call_len_seq (by rfl) T.m_len PySem.boot_len (pa_w (pa_cons (pe_w (pv 2) xd_var) (pa_w pa_nil xa_nil)) xa_cons)) (xd_cb cd_len)) (nomark _)) (xt_cmp od_ne)) (pssd_one (ps_w ps_never xs_never)) pssd_nil) xs_if) (pssd_one (ps_w (ps_for (g := gName 4) PassesOwn.never rfl (pi_w (pi_tup (pe_w (pv 1) xd_var)) xi_tup) (pg_name (i := 4) sc_check_shape.nd rfl (.inl rfl)) (pssd_one (ps_w (ps_if (PW.pt (pw_w (pw_and (pt_w (pt_cmpR (op_neD hr.units) (pe_w (pv 4) xd_var) (pe_w (pe_gint (by rfl) T.c_SILENT) (xd_c fun _ => .int)) (nomark _)) (xt_cmp od_ne)) (pw_and1 (pt_w (pt_not (pt_w (pt_truth (pe_w (C8.pe_c C_is_place hr (by decide) (by rfl) (pa_w (pa_cons (pe_w (pv 0) xd_var) (pa_w (pa_cons (pe_w (pv 4) xd_var) (pa_w pa_nil xa_nil)) xa_cons)) xa_cons)) xd_call) (by intro _; rfl)) xt_tru)) xt_not))) xt_and)) (pssd_one (ps_w ps_never xs_never)) pssd_nil) xs_if))) (xs_for gd_name)))))) pure_check_shape
end

/-! ### _is_pressed -/
def isPressed (f c p : Int) : Bool := (!decide (p = c)) && isPlace f c p
def f_is_pressed : Fd := fun ds R => ∃ t f c p, ds = [neckD t f c, .int p] ∧ R (.bool (isPressed f c p))
theorem len_is_pressed : ∀ ds R, f_is_pressed ds R → ds.length = 2 := by
  rintro ds R ⟨t, f, c, p, rfl, _⟩; rfl
def W_is_pressed : WS := (dSeq (dUnp [2, 2, 3] (dVar 0)) (dRet (dAnd (dOp rdNe (dVar 1) (dVar 3)) (dCall f_is_place (aCons (dVar 0) (aCons (dVar 1) aNil))))))
def N_is_pressed : List Str := ["neck", "fret", "_", "capo"]
theorem sc_is_pressed : FnScope ["neck", "fret", "_", "capo"] ["neck", "fret"] (defScope s_is_pressed) := ⟨rfl, rfl, rfl, by decide +kernel, rfl, by decide +kernel, by decide +kernel⟩
theorem pure_is_pressed : ∀ ds R, f_is_pressed ds R → W_is_pressed { nx := fun _ => R .none, rt := R } (startD ["neck", "fret", "_", "capo"] ds) := by
  rintro ds R ⟨t, f, c, p, rfl, h⟩
  simp [W_is_pressed, neckD, intsD]
  unfold isPressed at h
  by_cases q : p = c
  · simpa [q] using h
  · simp [q] at h ⊢
    exact ⟨t, f, c, p, rfl, h⟩
section
variable {P : Program} {w : World} {g : Glb} {mg : Str → Option Value} {base : Heap}
theorem ok_is_pressed {f : Addr} {fd : FuncData} (F : FunP g.K "_is_pressed" s_is_pressed f fd) (mgf : mg "_is_pressed" = some (.ref f)) (T : Txt mg) (C_is_place : C8.Cal P w g.K mg base 1 "is_place" (spD g f_is_place) []) : C8.Cal P w g.K mg base 2 "_is_pressed" (spD g f_is_pressed) [] :=
  calD (N := ["neck", "fret", "_", "capo"]) (ps := ["neck", "fret"]) (k := 1) (wb := W_is_pressed) F mgf (F.bindsN fun _ _ _ _ _ _ us hl => match us, hl with | [_, _], _ => rfl) sc_is_pressed len_is_pressed (fun cdv A outer s H E r a ns hr =>
    (pssd_cons (ps_w (ps_asg (pe_w (pv 0) xd_var) (pg_tup rfl (pgs_cons (pg_name (i := 2) sc_is_pressed.nd rfl (.inl rfl)) (pgs_cons (pg_name (i := 2) sc_is_pressed.nd rfl (.inl rfl)) (pgs_cons (pg_name (i := 3) sc_is_pressed.nd rfl (.inl rfl)) pgs_nil))))) (xs_unp (is := [2, 2, 3]) rfl)) (pssd_one (ps_w (ps_ret (pe_w (pe_and (pe_w (pe_cmpR (op_neD hr.units) (pe_w (pv 1) xd_var) (pe_w (pv 3) xd_var) (nomark _)) (xd_op od_ne)) (pe_one (pe_w (C8.pe_c C_is_place hr (by decide) (by rfl) (pa_w (pa_cons (pe_w (pv 0) xd_var) (pa_w (pa_cons (pe_w (pv 1) xd_var) (pa_w pa_nil xa_nil)) xa_cons)) xa_cons)) xd_call))) xd_and)) xs_ret)))) pure_is_pressed
end

/-! ### _moved -/
def stepOk (f c far p : Int) : Bool := decide (p = -1) || (isPressed f c p && isPressed f c (p + far))
def step1 (far p : Int) : Int := if p = -1 then p else p + far
def slidD (f c : Int) (s : List Int) (far : Int) : D := if s.all (stepOk f c far) = true then intsD (s.map (step1 far)) else .none
def f_moved : Fd := fun ds R => ∃ t f c s far, ds = [neckD t f c, intsD s, .int far] ∧ s.length ≤ 1000 ∧ R (slidD f c s far)
theorem len_moved : ∀ ds R, f_moved ds R → ds.length = 3 := by
  rintro ds R ⟨t, f, c, s, far, rfl, _⟩; rfl
def W_moved : WS := (dSeq (dFor (iTpl (dVar 1)) (tgN 3) (dIfS (bAnd (bB (dOp rdNe (dVar 3) (dC (.int (-1))))) (bNot (bAnd (bTru (dCall f_is_pressed (aCons (dVar 0) (aCons (dVar 3) aNil)))) (bTru (dCall f_is_pressed (aCons (dVar 0) (aCons (dOp rdAdd (dVar 3) (dVar 2)) aNil))))))) (dRet (dC .none)) dNext)) (dRet (dCall rdTuple (aCons (dN (dLcW (iTpl (dVar 1)) (tgN 3) (fun _ R => R true) (dIf (bB (dOp rdEq (dVar 3) (dC (.int (-1))))) (dVar 3) (dOp rdAdd (dVar 3) (dVar 2))) [3])) aNil))))
def N_moved : List Str := ["neck", "shape", "far", "fret"]
theorem sc_moved : FnScope ["neck", "shape", "far", "fret"] ["neck", "shape", "far"] (defScope s_moved) := ⟨rfl, rfl, rfl, by decide +kernel, rfl, by decide +kernel, by decide +kernel⟩
theorem moved_loop {t f c s far} {De : EndsD} : ∀ (l : List Int) (x : Sl), (l.all (stepOk f c far) = true → ∀ y, De.nx [Sl.val (neckD t f c), .val (intsD s), .val (.int far), y]) → (l.all (stepOk f c far) = false → De.rt .none) →
    forRun (tgN 3) (dIfS (bAnd (bB (dOp rdNe (dVar 3) (dC (.int (-1))))) (bNot (bAnd (bTru (dCall f_is_pressed (aCons (dVar 0) (aCons (dVar 3) aNil)))) (bTru (dCall f_is_pressed (aCons (dVar 0) (aCons (dOp rdAdd (dVar 3) (dVar 2)) aNil))))))) (dRet (dC .none)) dNext) De (l.map PyData.int) [Sl.val (neckD t f c), .val (intsD s), .val (.int far), x]
  | [], x, h1, _ => h1 rfl x
  | p :: l, x, h1, h2 => by
    have ih := moved_loop (De := De) (t := t) (f := f) (c := c) (s := s) (far := far) l (.val (.int p))
    rw [List.all_cons] at h1 h2
    simp only [List.map_cons, forRun]
    by_cases q : p = -1
    · subst q
      have e : stepOk f c far (-1) = true := rfl
      rw [e, Bool.true_and] at h1 h2
      simpa using ih h1 h2
    · simp [q]
      refine ⟨t, f, c, p, by simp, ?_⟩
      by_cases q1 : isPressed f c p = true
      · simp [q1]
        refine ⟨t, f, c, p + far, by simp, ?_⟩
        by_cases q2 : isPressed f c (p + far) = true
        · have e : stepOk f c far p = true := by simp [stepOk, q1, q2]
          rw [e, Bool.true_and] at h1 h2
          simpa [q2] using ih h1 h2
        · have e : stepOk f c far p = false := by simp [stepOk, q, q2]
          rw [e, Bool.false_and] at h2
          simpa [q2] using h2 rfl
      · have e : stepOk f c far p = false := by simp [stepOk, q, q1]
        rw [e, Bool.false_and] at h2
        simpa [q1] using h2 rfl
theorem pure_moved : ∀ ds R, f_moved ds R → W_moved { nx := fun _ => R .none, rt := R } (startD ["neck", "shape", "far", "fret"] ds) := by
  rintro ds R ⟨t, f, c, s, far, rfl, hl, h⟩
  simp [W_moved, intsD]
  refine moved_loop (t := t) (f := f) (c := c) (s := s) (far := far) s .un (fun hs y => ?_) (fun hs => by unfold slidD at h; rw [hs] at h; exact h)
  simp [intsD, neckD]
  refine ⟨by omega, ?_⟩
  refine lcRun_ints (fun _ => true) (fun p => .int (step1 far p)) s (fun p hp K k => ?_) ?_
  · by_cases q : p = -1
    · simpa [q, step1] using k
    · simpa [q, step1] using k
  · have e : s.map (fun p => PyData.int (step1 far p)) = (s.map (step1 far)).map PyData.int := by rw [List.map_map]; rfl
    unfold slidD at h
    rw [hs] at h
    rw [List.filter_eq_self.mpr (by simp), e]
    exact h
section
variable {P : Program} {w : World} {g : Glb} {mg : Str → Option Value} {base : Heap}
theorem ok_moved {f : Addr} {fd : FuncData} (F : FunP g.K "_moved" s_moved f fd) (mgf : mg "_moved" = some (.ref f)) (T : Txt mg) (C_is_pressed : C8.Cal P w g.K mg base 2 "_is_pressed" (spD g f_is_pressed) []) : C8.Cal P w g.K mg base 3 "_moved" (spD g f_moved) [] :=
  calD (N := ["neck", "shape", "far", "fret"]) (ps := ["neck", "shape", "far"]) (k := 2) (wb := W_moved) F mgf (F.bindsN fun _ _ _ _ _ _ us hl => match us, hl with | [_, _, _], _ => rfl) sc_moved len_moved (fun cdv A outer s H E r a ns hr =>
    (pssd_cons (ps_w (ps_for (g := gName 3) PassesOwn.never rfl (pi_w (pi_tup (pe_w (pv 1) xd_var)) xi_tup) (pg_name (i := 3) sc_moved.nd rfl (.inl rfl)) (pssd_one (ps_w (ps_if (PW.pt (pw_w (pw_and (pt_w (pt_cmpR (op_neD hr.units) (pe_w (pv 3) xd_var) (pe_w (pe_gint (by rfl) T.c_SILENT) (xd_c fun _ => .int)) (nomark _)) (xt_cmp od_ne)) (pw_and1 (pt_w (pt_not (PW.pt (pw_w (pw_and (pt_w (pt_truth (pe_w (C8.pe_c C_is_pressed hr (by decide) (by rfl) (pa_w (pa_cons (pe_w (pv 0) xd_var) (pa_w (pa_cons (pe_w (pv 3) xd_var) (pa_w pa_nil xa_nil)) xa_cons)) xa_cons)) xd_call) (by intro _; rfl)) xt_tru) (pw_and1 (pt_w (pt_truth (pe_w (C8.pe_c C_is_pressed hr (by decide) (by rfl) (pa_w (pa_cons (pe_w (pv 0) xd_var) (pa_w (pa_cons (pe_w (pe_op op_add (pe_w (pv 3) xd_var) (pe_w (pv 2) xd_var)) (xd_op od_add)) (pa_w pa_nil xa_nil)) xa_cons)) xa_cons)) xd_call) (by intro _; rfl)) xt_tru))) xt_and))) xt_not))) xt_and)) (pssd_one (ps_w (ps_ret (pe_w pe_non (xd_c fun _ => .non))) xs_ret)) pssd_nil) xs_if))) (xs_for gd_name)) (pssd_one (ps_w (ps_ret (pe_w (pe_callTy call_tuple_of (by rfl) T.m_tuple (by decide +kernel) (pa_w (pa_cons (pe_w (pe_w (pe_lc (own := [("fret", 3)]) (g := gName 3) rfl sc_moved.nd (pi_w (pi_tup (pe_w (pv 1) xd_var)) xi_tup) (blkOk_by (own := [("fret", 3)]) (N := ["neck", "shape", "far", "fret"]) (sc := defScope s_moved) (by decide +kernel)) (fun _ _ _ _ _ => (pg_name (i := 3) sc_moved.nd rfl (.inl rfl))) (fun _ _ _ _ _ => (pts_w pts_nil xt_yes)) (fun _ _ _ _ _ => (pe_w (pe_ifExp (pt_w (pt_cmpR (op_eqD hr.units) (pe_w (pv 3) xd_var) (pe_w (pe_gint (by rfl) T.c_SILENT) (xd_c fun _ => .int)) (nomark _)) (xt_cmp od_eq)) (pe_w (pv 3) xd_var) (pe_w (pe_op op_add (pe_w (pv 3) xd_var) (pe_w (pv 2) xd_var)) (xd_op od_add))) xd_if))) (xn_lc gd_name stores_name)) xd_N) (pa_w pa_nil xa_nil)) xa_cons)) (xd_cb cd_tuple))) xs_ret)))) pure_moved
end

/-! ### _first_step -/
def firstStep : List Int → List Int → Int
  | a :: as, b :: bs => if a = -1 then firstStep as bs else b - a
  | _, _ => 0
def f_first_step : Fd := fun ds R => ∃ a b, ds = [intsD a, intsD b] ∧ R (.int (firstStep a b))
theorem len_first_step : ∀ ds R, f_first_step ds R → ds.length = 2 := by
  rintro ds R ⟨a, b, rfl, _⟩; rfl
def W_first_step : WS := (dSeq (dFor (iZip (aCons (dVar 0) (aCons (dVar 1) aNil))) (tgT [2, 3]) (dIfS (bB (dOp rdNe (dVar 2) (dC (.int (-1))))) (dRet (dOp rdSub (dVar 3) (dVar 2))) dNext)) (dRet (dC (.int 0))))
def N_first_step : List Str := ["one", "other", "here", "there"]
theorem sc_first_step : FnScope ["one", "other", "here", "there"] ["one", "other"] (defScope s_first_step) := ⟨rfl, rfl, rfl, by decide +kernel, rfl, by decide +kernel, by decide +kernel⟩
theorem first_loop {De : EndsD} {x y : Sl} : ∀ (a b : List Int) (u v : Sl), (∀ z w, firstStep a b = 0 → De.nx [x, y, z, w]) → De.rt (.int (firstStep a b)) →
    forRun (tgT [2, 3]) (dIfS (bB (dOp rdNe (dVar 2) (dC (.int (-1))))) (dRet (dOp rdSub (dVar 3) (dVar 2))) dNext) De (((a.map PyData.int).zip (b.map PyData.int)).map fun p => .tuple [p.1, p.2]) [x, y, u, v]
  | [], _, u, v, h, _ => h u v rfl
  | _ :: _, [], u, v, h, _ => h u v rfl
  | p :: a, q :: b, u, v, h, r => by
    have ih := first_loop (De := De) (x := x) (y := y) a b (.val (.int p)) (.val (.int q))
    simp only [List.map_cons, List.zip_cons_cons, forRun]
    by_cases z : p = -1
    · subst z
      simp only [firstStep, if_true] at h r
      simpa using ih h r
    · simp only [firstStep, z, if_false] at r
      simpa [z] using r
theorem pure_first_step : ∀ ds R, f_first_step ds R → W_first_step { nx := fun _ => R .none, rt := R } (startD ["one", "other", "here", "there"] ds) := by
  rintro ds R ⟨a, b, rfl, h⟩
  simp [W_first_step, intsD]
  refine first_loop a b _ _ (fun z w e => ?_) h
  rw [e] at h
  simpa using h
section
variable {P : Program} {w : World} {g : Glb} {mg : Str → Option Value} {base : Heap}
theorem ok_first_step {f : Addr} {fd : FuncData} (F : FunP g.K "_first_step" s_first_step f fd) (mgf : mg "_first_step" = some (.ref f)) (T : Txt mg)  : C8.Cal P w g.K mg base 1 "_first_step" (spD g f_first_step) [] :=
  calD (N := ["one", "other", "here", "there"]) (ps := ["one", "other"]) (k := 0) (wb := W_first_step) F mgf (F.bindsN fun _ _ _ _ _ _ us hl => match us, hl with | [_, _], _ => rfl) sc_first_step len_first_step (fun cdv A outer s H E r a ns hr =>
    (pssd_cons (ps_w (ps_for (g := gTup _ 2 (gNames [2, 3])) PassesOwn.never rfl (pi_w (RZ.pi_zipA (by rfl) T.m_zip (pa_w (pa_cons (pe_w (pv 0) xd_var) (pa_w (pa_cons (pe_w (pv 1) xd_var) (pa_w pa_nil xa_nil)) xa_cons)) xa_cons)) xi_zip) (pg_tup rfl (pgs_cons (pg_name (i := 2) sc_first_step.nd rfl (.inl rfl)) (pgs_cons (pg_name (i := 3) sc_first_step.nd rfl (.inl rfl)) pgs_nil))) (pssd_one (ps_w (ps_if (pt_w (pt_cmpR (op_neD hr.units) (pe_w (pv 2) xd_var) (pe_w (pe_gint (by rfl) T.c_SILENT) (xd_c fun _ => .int)) (nomark _)) (xt_cmp od_ne)) (pssd_one (ps_w (ps_ret (pe_w (pe_op op_sub (pe_w (pv 3) xd_var) (pe_w (pv 2) xd_var)) (xd_op od_sub))) xs_ret)) pssd_nil) xs_if))) (xs_for (gd_tup (is := [2, 3]) rfl))) (pssd_one (ps_w (ps_ret (pe_w pe_int (xd_c fun _ => .int))) xs_ret)))) pure_first_step
end

/-! ### slid -/
def f_slid : Fd := fun ds R => ∃ t f c s far, ds = [neckD t f c, intsD s, .int far] ∧ OkNeck t f c ∧ OkShape t f c s ∧ R (slidD f c s far)
theorem len_slid : ∀ ds R, f_slid ds R → ds.length = 3 := by
  rintro ds R ⟨t, f, c, s, far, rfl, _⟩; rfl
@[simp] theorem slid_iff {t s : List Int} {f c far : Int} {R : D → Prop} : f_slid [neckD t f c, intsD s, .int far] R ↔ OkNeck t f c ∧ OkShape t f c s ∧ R (slidD f c s far) := by
  constructor
  · rintro ⟨t', f', c', s', far', e, h⟩; simp at e; obtain ⟨⟨rfl, rfl, rfl⟩, rfl, rfl⟩ := e; simpa [and_assoc] using h
  · intro h; exact ⟨_, _, _, _, _, rfl, by simpa [and_assoc] using h⟩
def W_slid : WS := (dSeq (dDrop (dCall f_check_neck (aCons (dVar 0) aNil))) (dSeq (dDrop (dCall f_check_shape (aCons (dVar 0) (aCons (dVar 1) aNil)))) (dRet (dCall f_moved (aCons (dVar 0) (aCons (dVar 1) (aCons (dVar 2) aNil)))))))
def N_slid : List Str := ["neck", "shape", "far"]
theorem sc_slid : FnScope ["neck", "shape", "far"] ["neck", "shape", "far"] (defScope s_slid) := ⟨rfl, rfl, rfl, by decide +kernel, rfl, by decide +kernel, by decide +kernel⟩
theorem pure_slid : ∀ ds R, f_slid ds R → W_slid { nx := fun _ => R .none, rt := R } (startD ["neck", "shape", "far"] ds) := by
  rintro ds R ⟨t, f, c, s, far, rfl, ok, os, h⟩
  simp [W_slid]
  have := ok.l2
  have := os.len
  exact ⟨t, f, c, rfl, ok, t, f, c, s, rfl, os, t, f, c, s, far, rfl, by omega, h⟩
section
variable {P : Program} {w : World} {g : Glb} {mg : Str → Option Value} {base : Heap}
theorem ok_slid {f : Addr} {fd : FuncData} (F : FunP g.K "slid" s_slid f fd) (mgf : mg "slid" = some (.ref f)) (T : Txt mg) (C_check_neck : C8.Cal P w g.K mg base 2 "check_neck" (spD g f_check_neck) []) (C_check_shape : C8.Cal P w g.K mg base 2 "check_shape" (spD g f_check_shape) []) (C_moved : C8.Cal P w g.K mg base 3 "_moved" (spD g f_moved) []) : C8.Cal P w g.K mg base 4 "slid" (spD g f_slid) [] :=
  calD (N := ["neck", "shape", "far"]) (ps := ["neck", "shape", "far"]) (k := 3) (wb := W_slid) F mgf (F.bindsN fun _ _ _ _ _ _ us hl => match us, hl with | [_, _, _], _ => rfl) sc_slid len_slid (fun cdv A outer s H E r a ns hr =>
    (pssd_cons (ps_w (ps_expr (pe_w (C8.pe_c C_check_neck hr (by decide) (by rfl) (pa_w (pa_cons (pe_w (pv 0) xd_var) (pa_w pa_nil xa_nil)) xa_cons)) xd_call)) xs_drop) (pssd_cons (ps_w (ps_expr (pe_w (C8.pe_c C_check_shape hr (by decide) (by rfl) (pa_w (pa_cons (pe_w (pv 0) xd_var) (pa_w (pa_cons (pe_w (pv 1) xd_var) (pa_w pa_nil xa_nil)) xa_cons)) xa_cons)) xd_call)) xs_drop) (pssd_one (ps_w (ps_ret (pe_w (C8.pe_c C_moved hr (by decide) (by rfl) (pa_w (pa_cons (pe_w (pv 0) xd_var) (pa_w (pa_cons (pe_w (pv 1) xd_var) (pa_w (pa_cons (pe_w (pv 2) xd_var) (pa_w pa_nil xa_nil)) xa_cons)) xa_cons)) xa_cons)) xd_call)) xs_ret))))) pure_slid
end

/-! ### apart -/
def apartD (f c : Int) (a b : List Int) : D := if a.all (stepOk f c (firstStep a b)) = true ∧ a.map (step1 (firstStep a b)) = b then .int (firstStep a b) else .none
def f_apart : Fd := fun ds R => ∃ t f c a b, ds = [neckD t f c, intsD a, intsD b] ∧ OkNeck t f c ∧ OkShape t f c a ∧ OkShape t f c b ∧ R (apartD f c a b)
theorem len_apart : ∀ ds R, f_apart ds R → ds.length = 3 := by
  rintro ds R ⟨t, f, c, a, b, rfl, _⟩; rfl
@[simp] theorem apart_iff {t a b : List Int} {f c : Int} {R : D → Prop} : f_apart [neckD t f c, intsD a, intsD b] R ↔ OkNeck t f c ∧ OkShape t f c a ∧ OkShape t f c b ∧ R (apartD f c a b) := by
  constructor
  · rintro ⟨t', f', c', a', b', e, h⟩; simp at e; obtain ⟨⟨rfl, rfl, rfl⟩, rfl, rfl⟩ := e; simpa [and_assoc] using h
  · intro h; exact ⟨_, _, _, _, _, rfl, by simpa [and_assoc] using h⟩
def W_apart : WS := (dSeq (dDrop (dCall f_check_neck (aCons (dVar 0) aNil))) (dSeq (dDrop (dCall f_check_shape (aCons (dVar 0) (aCons (dVar 1) aNil)))) (dSeq (dDrop (dCall f_check_shape (aCons (dVar 0) (aCons (dVar 2) aNil)))) (dSeq (dAsg 3 (dCall f_first_step (aCons (dVar 1) (aCons (dVar 2) aNil)))) (dSeq (dIfS (bB (dOp rdEq (dCall f_moved (aCons (dVar 0) (aCons (dVar 1) (aCons (dVar 3) aNil)))) (dVar 2))) (dRet (dVar 3)) dNext) (dRet (dC .none)))))))
def N_apart : List Str := ["neck", "one", "other", "far"]
theorem sc_apart : FnScope ["neck", "one", "other", "far"] ["neck", "one", "other"] (defScope s_apart) := ⟨rfl, rfl, rfl, by decide +kernel, rfl, by decide +kernel, by decide +kernel⟩
theorem pure_apart : ∀ ds R, f_apart ds R → W_apart { nx := fun _ => R .none, rt := R } (startD ["neck", "one", "other", "far"] ds) := by
  rintro ds R ⟨t, f, c, a, b, rfl, ok, oa, ob, h⟩
  simp [W_apart]
  have := ok.l2
  have := oa.len
  refine ⟨t, f, c, rfl, ok, t, f, c, a, rfl, oa, t, f, c, b, rfl, ob, a, b, rfl, t, f, c, a, _, rfl, by omega, ?_⟩
  unfold apartD at h
  unfold slidD
  by_cases e : a.all (stepOk f c (firstStep a b)) = true
  · rw [if_pos e]
    by_cases q : a.map (step1 (firstStep a b)) = b
    · rw [if_pos ⟨e, q⟩] at h
      simpa [q] using h
    · rw [if_neg (fun z => q z.2)] at h
      simpa [q] using h
  · rw [if_neg e]
    rw [if_neg (fun z => e z.1)] at h
    simpa using h
section
variable {P : Program} {w : World} {g : Glb} {mg : Str → Option Value} {base : Heap}
theorem ok_apart {f : Addr} {fd : FuncData} (F : FunP g.K "apart" s_apart f fd) (mgf : mg "apart" = some (.ref f)) (T : Txt mg) (C_check_neck : C8.Cal P w g.K mg base 2 "check_neck" (spD g f_check_neck) []) (C_check_shape : C8.Cal P w g.K mg base 2 "check_shape" (spD g f_check_shape) []) (C_first_step : C8.Cal P w g.K mg base 1 "_first_step" (spD g f_first_step) []) (C_moved : C8.Cal P w g.K mg base 3 "_moved" (spD g f_moved) []) : C8.Cal P w g.K mg base 4 "apart" (spD g f_apart) [] :=
  calD (N := ["neck", "one", "other", "far"]) (ps := ["neck", "one", "other"]) (k := 3) (wb := W_apart) F mgf (F.bindsN fun _ _ _ _ _ _ us hl => match us, hl with | [_, _, _], _ => rfl) sc_apart len_apart (fun cdv A outer s H E r a ns hr =>
    (pssd_cons (ps_w (ps_expr (pe_w (C8.pe_c C_check_neck hr (by decide) (by rfl) (pa_w (pa_cons (pe_w (pv 0) xd_var) (pa_w pa_nil xa_nil)) xa_cons)) xd_call)) xs_drop) (pssd_cons (ps_w (ps_expr (pe_w (C8.pe_c C_check_shape hr (by decide) (by rfl) (pa_w (pa_cons (pe_w (pv 0) xd_var) (pa_w (pa_cons (pe_w (pv 1) xd_var) (pa_w pa_nil xa_nil)) xa_cons)) xa_cons)) xd_call)) xs_drop) (pssd_cons (ps_w (ps_expr (pe_w (C8.pe_c C_check_shape hr (by decide) (by rfl) (pa_w (pa_cons (pe_w (pv 0) xd_var) (pa_w (pa_cons (pe_w (pv 2) xd_var) (pa_w pa_nil xa_nil)) xa_cons)) xa_cons)) xd_call)) xs_drop) (pssd_cons (ps_w (ps_set (i := 3) sc_apart.nd rfl (.inl rfl) (pe_w (C8.pe_c C_first_step hr (by decide) (by rfl) (pa_w (pa_cons (pe_w (pv 1) xd_var) (pa_w (pa_cons (pe_w (pv 2) xd_var) (pa_w pa_nil xa_nil)) xa_cons)) xa_cons)) xd_call)) xs_asg) (pssd_cons (ps_w (ps_if (pt_w (pt_cmpR (op_eqD hr.units) (pe_w (C8.pe_c C_moved hr (by decide) (by rfl) (pa_w (pa_cons (pe_w (pv 0) xd_var) (pa_w (pa_cons (pe_w (pv 1) xd_var) (pa_w (pa_cons (pe_w (pv 3) xd_var) (pa_w pa_nil xa_nil)) xa_cons)) xa_cons)) xa_cons)) xd_call) (pe_w (pv 2) xd_var) (nomark _)) (xt_cmp od_eq)) (pssd_one (ps_w (ps_ret (pe_w (pv 3) xd_var)) xs_ret)) pssd_nil) xs_if) (pssd_one (ps_w (ps_ret (pe_w pe_non (xd_c fun _ => .non))) xs_ret)))))))) pure_apart
end

/-! ### _law_taken: the row is read and written, so the layer's own words -/
section
variable {P : Program} {w : World} {g : Glb} {mg : Str → Option Value} {base : Heap}
theorem sc_law_taken : FnScope ["_law_row", "_law_many", "_law_found", "_law_cell"] ["_law_row", "_law_many"] (defScope s_law_taken) := ⟨rfl, rfl, rfl, by decide +kernel, rfl, by decide +kernel, by decide +kernel⟩
theorem ok_law_taken {f : Addr} {fd : FuncData} (Fn : FunP g.K "_law_taken" s_law_taken f fd) (mgf : mg "_law_taken" = some (.ref f)) (T : Txt mg) : C8.Cal P w g.K mg base 1 "_law_taken" (spD g f_law_taken) [] := by
  refine ⟨f, fd, ["_law_row", "_law_many"], [], Fn.ok (k := 0) sc_law_taken (fun vs H Q E h => ?_) (fun cdv A outer s H vs Q E hr h => ?_), mgf, Fn.kp, Fn.bindsN fun _ _ _ _ _ _ us hl => match us, hl with | [_, _], _ => rfl, .nil⟩
  · obtain ⟨c, F, ds, R, _, _, rv, h, _⟩ := h
    rw [rv.length]; exact len_law_taken ds R h
  · obtain ⟨c, F, ds, R, hg, W, rv, ⟨m, rfl, hm, hm2, hR⟩, P'⟩ := h
    subst hg
    obtain ⟨v1, v2, rfl, q1, q2⟩ := reps2 rv
    have e1 := q1.row_inv
    have e2 := q2.int_inv
    subst e1 e2
    obtain ⟨i, x, k, hrow, hi, hx, hx2, hsq⟩ := W.row
    -- what is asked of the end
    have fin : ∀ (i' x' k' v : Int) (H' : Hp), 0 ≤ i' → 0 ≤ x' → x' < 2147483647 → H' c.r = some (.lst [.ref c.a, .int i', .int x', .int k']) → (∀ b, b ≠ c.r → H' b = H b) → 0 ≤ v → v < m → Q (.int v) H' := fun i' x' k' v H' a1 a2 a3 a4 a5 a6 a7 =>
      P' _ _ H' F (hR v a6 a7) (Ext.rowed W a1 a2 a3 a4 a5) .int
    refine ⟨_, PSs.nox (pss_cons (ps_if (pt_cmpR op_gt (pe_ix ix_list (pv 0) pe_int (fun _ _ => rfl)) pe_int (nomark _))
        (pss_cons (ps_set (i := 2) sc_law_taken.nd rfl (.inl rfl) (pe_op op_modN (pe_ix ix_list (pv 0) pe_int (fun _ _ => rfl)) (pv 1)))
        (pss_cons (ps_asg (pe_op op_fdivN (pe_ix ix_list (pv 0) pe_int (fun _ _ => rfl)) (pv 1)) (pg_sub (pv 0) pe_int set_list))
        (pss_one (ps_ret (pv 2))))) pss_nil)
      (pss_cons (ps_asg (pe_op op_add (pe_ix ix_list (pv 0) pe_int (fun _ _ => rfl)) pe_int) (pg_sub (pv 0) pe_int set_list))
      (pss_cons (ps_if (pt_cmpR op_gt (pe_ix ix_list (pv 0) pe_int (fun _ _ => rfl)) (pe_callB call_len_seq (by rfl) T.m_len PySem.boot_len (pa_cons (pe_ix ix_list (pv 0) pe_int (fun _ _ => rfl)) pa_nil)) (nomark _))
        (pss_cons (ps_asg (pe_op op_modN (pe_op op_add (pe_op op_mul (pe_ix ix_list (pv 0) pe_int (fun _ _ => rfl)) pe_int) pe_int) pe_int) (pg_sub (pv 0) pe_int set_list))
        (pss_one (ps_ret (pe_op op_modN (pe_op op_fdivN (pe_ix ix_list (pv 0) pe_int (fun _ _ => rfl)) pe_int) (pv 1))))) pss_nil)
      (pss_cons (ps_set (i := 3) sc_law_taken.nd rfl (.inl rfl) (pe_ix ix_list (pe_ix ix_list (pv 0) pe_int (fun _ _ => rfl)) (pe_op op_sub (pe_ix ix_list (pv 0) pe_int (fun _ _ => rfl)) pe_int) (fun _ _ => rfl)))
      (pss_cons (ps_asg (pe_op op_modN (pe_op op_add (pe_op op_add (pe_op op_mul (pe_ix ix_list (pv 0) pe_int (fun _ _ => rfl)) pe_int) (pv 3)) pe_int) pe_int) (pg_sub (pv 0) pe_int set_list))
      (pss_cons (ps_if (pt_cmpR op_ge (pv 3) (pe_op op_pow pe_int pe_int) (nomark _))
        (pss_one (ps_asg (pe_op op_fdivN (pv 3) (pv 1)) (pg_sub (pv 0) pe_int set_list))) pss_nil)
      (pss_one (ps_ret (pe_op op_modN (pv 3) (pv 1)))))))))), ?_⟩
    have hz : m ≠ 0 := by omega
    have hd : m ≠ 0 ∧ m.natAbs < 1073741824 := ⟨hz, by omega⟩
    -- if row[3] > 0
    refine ⟨_, rfl, c.r, _, 3, .int k, rfl, rfl, SqL.of hrow, rfl, _, _, rfl, rfl, _, rfl, ?_⟩
    refine ite2 (fun _ => ?_) (fun _ => ?_)
    · refine ⟨_, rfl, c.r, _, 3, .int k, rfl, rfl, SqL.of hrow, rfl, _, rfl, _, _, rfl, rfl, hz, ?_⟩
      refine ⟨_, rfl, c.r, _, 3, .int k, rfl, rfl, SqL.of hrow, rfl, _, rfl, _, _, rfl, rfl, hd, _, rfl, c.r, _, 3, 3, rfl, rfl, hrow, rfl, _, rfl, ?_⟩
      exact fin i x _ _ _ hi hx hx2 upd_same (fun b hb => upd_ne hb) (fmod_lt hm).1 (fmod_lt hm).2
    · -- row[1] = row[1] + 1
      refine ⟨_, rfl, c.r, _, 1, .int i, rfl, rfl, SqL.of hrow, rfl, _, _, rfl, rfl, _, rfl, c.r, _, 1, 1, rfl, rfl, hrow, rfl, ?_⟩
      have row1 : upd H c.r (.lst [.ref c.a, .int (i + 1), .int x, .int k]) c.r = some (.lst [.ref c.a, .int (i + 1), .int x, .int k]) := upd_same
      have sq1 : SqL c.g.K (upd H c.r (.lst [.ref c.a, .int (i + 1), .int x, .int k])) c.a (c.ns.map V.int) := (Ext.rowed (k := k) W (show 0 ≤ i + 1 by omega) hx hx2 row1 (fun b hb => upd_ne hb)).ok.row.sq
      refine ⟨_, rfl, c.r, _, 1, .int (i + 1), rfl, rfl, SqL.of row1, rfl, _, rfl, c.r, _, 0, .ref c.a, rfl, rfl, SqL.of row1, rfl, c.a, _, rfl, .inl sq1, _, _, rfl, rfl, _, rfl, ?_⟩
      refine ite2 (fun _ => ?_) (fun hle => ?_)
      · refine ⟨_, rfl, c.r, _, 2, .int x, rfl, rfl, SqL.of row1, rfl, _, _, rfl, rfl, .inl ⟨by omega, by omega⟩, _, _, rfl, rfl, _, _, rfl, rfl, (show (2147483647 : Int) ≠ 0 by decide), _, rfl, c.r, _, 2, 2, rfl, rfl, row1, rfl, ?_⟩
        refine ⟨_, rfl, c.r, _, 2, _, rfl, rfl, SqL.of upd_same, rfl, _, _, rfl, rfl, ⟨by decide, by decide⟩, _, rfl, _, _, rfl, rfl, hz, ?_⟩
        have b := fmod_lt (a := x * 48271 + 11) (show (0 : Int) < 2147483647 by decide)
        exact fin (i + 1) _ k _ _ (by omega) b.1 b.2 upd_same (fun b hb => by rw [upd_ne hb, upd_ne hb]) (fmod_lt hm).1 (fmod_lt hm).2
      · -- the cell
        rw [List.length_map] at hle
        have hle2 : i < c.ns.length := by
          have := of_decide_eq_false (Bool.eq_false_iff.mpr hle)
          omega
        obtain ⟨n, hn⟩ : ∃ n : Nat, i = n := ⟨i.toNat, by omega⟩
        subst hn
        have hn3 : n < c.ns.length := by omega
        have at1 : atI (c.ns.map V.int) ((n : Int) + 1 - 1) = some (.int c.ns[n]) := by
          have e : ((n : Int) + 1 - 1) = (n : Int) := by omega
          rw [e]
          exact atI_nat (by rw [List.getElem?_map, List.getElem?_eq_getElem hn3]; rfl)
        refine ⟨_, rfl, c.r, _, 0, .ref c.a, rfl, rfl, SqL.of row1, rfl, _, rfl, c.r, _, 1, .int ((n : Int) + 1), rfl, rfl, SqL.of row1, rfl, _, _, rfl, rfl, c.a, _, _, _, rfl, rfl, sq1, at1, ?_⟩
        refine ⟨_, rfl, c.r, _, 2, .int x, rfl, rfl, SqL.of row1, rfl, _, _, rfl, rfl, .inl ⟨by omega, by omega⟩, _, rfl, _, _, rfl, rfl, _, _, rfl, rfl, _, _, rfl, rfl, (show (2147483647 : Int) ≠ 0 by decide), _, rfl, c.r, _, 2, 2, rfl, rfl, row1, rfl, ?_⟩
        have b := fmod_lt (a := x * 48271 + c.ns[n] + 11) (show (0 : Int) < 2147483647 by decide)
        refine ⟨_, rfl, _, _, rfl, rfl, ⟨by decide, by decide, by decide⟩, _, _, rfl, rfl, _, rfl, ?_⟩
        refine ite2 (fun _ => ?_) (fun _ => ?_)
        · refine ⟨_, rfl, _, rfl, _, _, rfl, rfl, hd, _, rfl, c.r, _, 3, 3, rfl, rfl, upd_same, rfl, ?_⟩
          refine ⟨_, rfl, _, rfl, _, _, rfl, rfl, hz, ?_⟩
          exact fin (n + 1) _ _ _ _ (by omega) b.1 b.2 upd_same (fun b hb => by rw [upd_ne hb, upd_ne hb, upd_ne hb]) (fmod_lt hm).1 (fmod_lt hm).2
        · refine ⟨_, rfl, _, rfl, _, _, rfl, rfl, hz, ?_⟩
          exact fin (n + 1) _ k _ _ (by omega) b.1 b.2 upd_same (fun b hb => by rw [upd_ne hb, upd_ne hb]) (fmod_lt hm).1 (fmod_lt hm).2
end

/-! ### _law_alike, by the depth of what is compared: of one and the same datum it is true -/
/-- data of this depth at most, of no great lists -/
inductive Al : Nat → D → Prop
  | non {n : Nat} : Al n .none
  | bool {n : Nat} (b : Bool) : Al n (.bool b)
  | int {n : Nat} (i : Int) : Al n (.int i)
  | lst {n : Nat} {xs : List D} : xs.length ≤ 1000000 → (∀ x ∈ xs, Al n x) → Al (n + 1) (.list xs)
  | tup {n : Nat} {xs : List D} : xs.length ≤ 1000000 → (∀ x ∈ xs, Al n x) → Al (n + 1) (.tuple xs)
def f_alike : Nat → Fd
  | 0 => fun _ _ => False
  | n + 1 => fun ds R => ∃ d, ds = [d, d] ∧ Al n d ∧ R (.bool true)
theorem len_alike (n : Nat) : ∀ ds R, f_alike n ds R → ds.length = 2 := by
  cases n with
  | zero => intro ds R h; exact h.elim
  | succ n => rintro ds R ⟨d, rfl, _⟩; rfl
def f_law_alike : Fd := f_alike 4
theorem len_law_alike : ∀ ds R, f_law_alike ds R → ds.length = 2 := len_alike 4
@[simp] theorem law_alike_iff {x y : D} {R : D → Prop} : f_law_alike [x, y] R ↔ x = y ∧ Al 3 y ∧ R (.bool true) := by
  constructor
  · rintro ⟨d, e, h⟩; simp at e; obtain ⟨rfl, rfl⟩ := e; exact ⟨rfl, h⟩
  · rintro ⟨rfl, h⟩; exact ⟨_, rfl, h⟩
theorem Al.ints {n : Nat} {l : List Int} (h : l.length ≤ 1000000) : Al (n + 1) (intsD l) := .tup (by simpa using h) fun x hx => by
  obtain ⟨i, _, rfl⟩ := List.mem_map.mp hx
  exact .int i
theorem Al.intsL {n : Nat} {l : List Int} (h : l.length ≤ 1000000) : Al (n + 1) (.list (l.map PyData.int)) := .lst (by simpa using h) fun x hx => by
  obtain ⟨i, _, rfl⟩ := List.mem_map.mp hx
  exact .int i
def W_law_alike (fa : Fd) : WS := (dSeq (dIfS (bOr (bTru (dIsi "tuple" (dVar 1))) (bTru (dIsi "list" (dVar 1)))) (dSeq (dIfS (bOr (bB (dOp rdNe (dIsi "tuple" (dVar 0)) (dIsi "tuple" (dVar 1)))) (bNot (bTru (dIsi2 "tuple" "list" (dVar 0))))) (dRet (dC (.bool false))) dNext) (dSeq (dIfS (bB (dOp rdNe (dCall rdLen (aCons (dVar 0) aNil)) (dCall rdLen (aCons (dVar 1) aNil)))) (dRet (dC (.bool false))) dNext) (dRet (dOp rdEq (dN (dLcW (iR1 (aCons (dCall rdLen (aCons (dVar 1) aNil)) aNil)) (tgN 2) (bNot (bTru (dCall fa (aCons (dOp rdIx (dVar 0) (dVar 2)) (aCons (dOp rdIx (dVar 1) (dVar 2)) aNil))))) (dVar 2) [2])) (dLst aNil))))) dNext) (dSeq (dIfS (bOr (bB (dIsN (dVar 1))) (bB (dIsN (dVar 0)))) (dRet (dAnd (dIsN (dVar 1)) (dIsN (dVar 0)))) dNext) (dSeq (dIfS (bOr (bTru (dIsi "bool" (dVar 1))) (bTru (dIsi "bool" (dVar 0)))) (dRet (dAnd (dIsi "bool" (dVar 1)) (dAnd (dIsi "bool" (dVar 0)) (dOp rdEq (dVar 0) (dVar 1))))) dNext) (dSeq (dIfS (bTru (dIsi "str" (dVar 1))) (dRet (dAnd (dIsi "str" (dVar 0)) (dOp rdEq (dVar 0) (dVar 1)))) dNext) (dRet (dAnd (dIsi "int" (dVar 0)) (dOp rdEq (dVar 0) (dVar 1))))))))
def N_law_alike : List Str := ["_law_found", "_law_due", "_law_k"]
theorem sc_law_alike : FnScope ["_law_found", "_law_due", "_law_k"] ["_law_found", "_law_due"] (defScope s_law_alike) := ⟨rfl, rfl, rfl, by decide +kernel, rfl, by decide +kernel, by decide +kernel⟩
theorem alike_items {n : Nat} (xs : List D) (hx : ∀ x ∈ xs, Al n x) {g : D → (Sg → Prop) → Prop} {wt : WT} {we : W} {R : List D → Prop} (hg : ∀ (i : Nat) x, xs[i]? = some x → ∀ K : Option D → Prop, K none → g (.int (0 + (i : Nat))) fun e' => wt e' fun b => if b = true then we e' fun y => y ≠ .dict [] ∧ K (some y) else K none) (r : R []) :
    lcRun g wt we R (rngD 0 xs.length) [] := by
  refine lcRun_det (fun _ => none) _ _ (fun d hd K k => ?_) ?_
  · unfold rngD at hd
    obtain ⟨i, hi, rfl⟩ := List.mem_map.mp hd
    have hi' := List.mem_range.mp hi
    exact hg i _ (List.getElem?_eq_getElem hi') K k
  · rw [List.nil_append, filterMap_nothing]; exact r
theorem pure_law_alike (n : Nat) : ∀ ds R, f_alike (n + 1) ds R → W_law_alike (f_alike n) { nx := fun _ => R .none, rt := R } (startD ["_law_found", "_law_due", "_law_k"] ds) := by
  rintro ds R ⟨d, rfl, hd, h⟩
  cases hd with
  | non => simp [W_law_alike, tyN, isN, isNone, h]
  | bool b => simp [W_law_alike, tyN, isN, isNone, h]
  | int i => simp [W_law_alike, tyN, isN, isNone, h]
  | @lst m xs hl hx =>
    simp [W_law_alike, tyN, isN, isNone]
    refine ⟨by omega, by omega, alike_items xs hx (fun i x hi K k => ?_) (by simpa using h)⟩
    have e := atI_z hi
    simp only [Int.zero_add] at e
    simp [e]
    exact ⟨x, rfl, hx x (List.mem_of_getElem? hi), by simpa using k⟩
  | @tup m xs hl hx =>
    simp [W_law_alike, tyN, isN, isNone]
    refine ⟨by omega, by omega, alike_items xs hx (fun i x hi K k => ?_) (by simpa using h)⟩
    have e := atI_z hi
    simp only [Int.zero_add] at e
    simp [e]
    exact ⟨x, rfl, hx x (List.mem_of_getElem? hi), by simpa using k⟩
section
variable {P : Program} {w : World} {g : Glb} {mg : Str → Option Value} {base : Heap}
theorem step_law_alike {f : Addr} {fd : FuncData} {k : Nat} {fa fb : Fd} (F : FunP g.K "_law_alike" s_law_alike f fd) (mgf : mg "_law_alike" = some (.ref f)) (T : Txt mg) (hlen : ∀ ds R, fb ds R → ds.length = 2) (C_law_alike : C8.Cal P w g.K mg base k "_law_alike" (spD g fa) [])
    (pure_ : ∀ ds R, fb ds R → W_law_alike fa { nx := fun _ => R .none, rt := R } (startD ["_law_found", "_law_due", "_law_k"] ds)) : C8.Cal P w g.K mg base (k + 1) "_law_alike" (spD g fb) [] :=
  calD (N := ["_law_found", "_law_due", "_law_k"]) (ps := ["_law_found", "_law_due"]) (k := k) (wb := W_law_alike fa) F mgf (F.bindsN fun _ _ _ _ _ _ us hl => match us, hl with | [_, _], _ => rfl) sc_law_alike hlen (fun cdv A outer s H E r a ns hr =>
    (pssd_cons (ps_w (ps_if (PW.pt (pw_w (pw_or (pt_w (pt_truth (pe_w (pe_callB call_isi (by rfl) T.m_isinstance (by decide +kernel) (pa_cons (pe_w (pv 1) xd_var) (pa_cons (pe_bltn (v := .ty "tuple") (by rfl) T.m_tuple (by decide +kernel) rfl) pa_nil))) (xd_isi (by decide))) (by intro _; rfl)) xt_tru) (pw_or1 (pt_w (pt_truth (pe_w (pe_callB call_isi (by rfl) T.m_isinstance (by decide +kernel) (pa_cons (pe_w (pv 1) xd_var) (pa_cons (pe_bltn (v := .ty "list") (by rfl) T.m_list (by decide +kernel) rfl) pa_nil))) (xd_isi (by decide))) (by intro _; rfl)) xt_tru))) xt_or)) (pssd_cons (ps_w (ps_if (PW.pt (pw_w (pw_or (pt_w (pt_cmpR (op_neD hr.units) (pe_w (pe_callB call_isi (by rfl) T.m_isinstance (by decide +kernel) (pa_cons (pe_w (pv 0) xd_var) (pa_cons (pe_bltn (v := .ty "tuple") (by rfl) T.m_tuple (by decide +kernel) rfl) pa_nil))) (xd_isi (by decide))) (pe_w (pe_callB call_isi (by rfl) T.m_isinstance (by decide +kernel) (pa_cons (pe_w (pv 1) xd_var) (pa_cons (pe_bltn (v := .ty "tuple") (by rfl) T.m_tuple (by decide +kernel) rfl) pa_nil))) (xd_isi (by decide))) (nomark _)) (xt_cmp od_ne)) (pw_or1 (pt_w (pt_not (pt_w (pt_truth (pe_w (pe_callB call_isiT (by rfl) T.m_isinstance (by decide +kernel) (pa_cons (pe_w (pv 0) xd_var) (pa_cons (pe_tup (pa_cons (pe_bltn (v := .ty "tuple") (by rfl) T.m_tuple (by decide +kernel) rfl) (pa_cons (pe_bltn (v := .ty "list") (by rfl) T.m_list (by decide +kernel) rfl) pa_nil))) pa_nil))) (xd_isi2 (by decide) (by decide))) (by intro _; rfl)) xt_tru)) xt_not))) xt_or)) (pssd_one (ps_w (ps_ret (pe_w pe_bl (xd_c fun _ => .bl))) xs_ret)) pssd_nil) xs_if) (pssd_cons (ps_w (ps_if (pt_w (pt_cmpR (op_neD hr.units) (pe_w (pe_callB call_len_seq (by rfl) T.m_len PySem.boot_len (pa_w (pa_cons (pe_w (pv 0) xd_var) (pa_w pa_nil xa_nil)) xa_cons)) (xd_cb cd_len)) (pe_w (pe_callB call_len_seq (by rfl) T.m_len PySem.boot_len (pa_w (pa_cons (pe_w (pv 1) xd_var) (pa_w pa_nil xa_nil)) xa_cons)) (xd_cb cd_len)) (nomark _)) (xt_cmp od_ne)) (pssd_one (ps_w (ps_ret (pe_w pe_bl (xd_c fun _ => .bl))) xs_ret)) pssd_nil) xs_if) (pssd_one (ps_w (ps_ret (pe_w (pe_cmpR (op_eqD hr.units) (pe_w (pe_w (pe_lc (own := [("_law_k", 2)]) (g := gName 2) rfl sc_law_alike.nd (pi_w (pi_range1 (by rfl) T.m_range (pa_w (pa_cons (pe_w (pe_callB call_len_seq (by rfl) T.m_len PySem.boot_len (pa_w (pa_cons (pe_w (pv 1) xd_var) (pa_w pa_nil xa_nil)) xa_cons)) (xd_cb cd_len)) (pa_w pa_nil xa_nil)) xa_cons)) xi_rng1) (blkOk_by (own := [("_law_k", 2)]) (N := ["_law_found", "_law_due", "_law_k"]) (sc := defScope s_law_alike) (by decide +kernel)) (fun _ _ _ _ _ => (pg_name (i := 2) sc_law_alike.nd rfl (.inl rfl))) (fun _ _ _ _ _ => (pts_one (pt_w (pt_not (pt_w (pt_truth (pe_w (C8.pe_c C_law_alike hr (Nat.le_refl _) (by rfl) (pa_w (pa_cons (pe_w (pe_ix ix_lt (pe_w (pv 0) xd_var) (pe_w (pv 2) xd_var) (fun _ _ => rfl)) (xd_op od_ixL)) (pa_w (pa_cons (pe_w (pe_ix ix_lt (pe_w (pv 1) xd_var) (pe_w (pv 2) xd_var) (fun _ _ => rfl)) (xd_op od_ixL)) (pa_w pa_nil xa_nil)) xa_cons)) xa_cons)) xd_call) (by intro _; rfl)) xt_tru)) xt_not))) (fun _ _ _ _ _ => (pe_w (pv 2) xd_var))) (xn_lc gd_name stores_name)) xd_N) (pe_w (pe_lst (pa_w pa_nil xa_nil)) xd_lst) (nomark _)) (xd_op od_eq))) xs_ret)))) pssd_nil) xs_if) (pssd_cons (ps_w (ps_if (PW.pt (pw_w (pw_or (pt_w (pt_cmp (pc_isN (pe_w (pv 1) xd_var))) xt_isN) (pw_or1 (pt_w (pt_cmp (pc_isN (pe_w (pv 0) xd_var))) xt_isN))) xt_or)) (pssd_one (ps_w (ps_ret (pe_w (pe_and (pe_w (pe_cmp (pc_isN (pe_w (pv 1) xd_var))) xd_isN) (pe_one (pe_w (pe_cmp (pc_isN (pe_w (pv 0) xd_var))) xd_isN))) xd_and)) xs_ret)) pssd_nil) xs_if) (pssd_cons (ps_w (ps_if (PW.pt (pw_w (pw_or (pt_w (pt_truth (pe_w (pe_callB call_isi (by rfl) T.m_isinstance (by decide +kernel) (pa_cons (pe_w (pv 1) xd_var) (pa_cons (pe_bltn (v := .ty "bool") (by rfl) T.m_bool (by decide +kernel) rfl) pa_nil))) (xd_isi (by decide))) (by intro _; rfl)) xt_tru) (pw_or1 (pt_w (pt_truth (pe_w (pe_callB call_isi (by rfl) T.m_isinstance (by decide +kernel) (pa_cons (pe_w (pv 0) xd_var) (pa_cons (pe_bltn (v := .ty "bool") (by rfl) T.m_bool (by decide +kernel) rfl) pa_nil))) (xd_isi (by decide))) (by intro _; rfl)) xt_tru))) xt_or)) (pssd_one (ps_w (ps_ret (pe_w (pe_and (pe_w (pe_callB call_isi (by rfl) T.m_isinstance (by decide +kernel) (pa_cons (pe_w (pv 1) xd_var) (pa_cons (pe_bltn (v := .ty "bool") (by rfl) T.m_bool (by decide +kernel) rfl) pa_nil))) (xd_isi (by decide))) (pe_w (pe_and (pe_w (pe_callB call_isi (by rfl) T.m_isinstance (by decide +kernel) (pa_cons (pe_w (pv 0) xd_var) (pa_cons (pe_bltn (v := .ty "bool") (by rfl) T.m_bool (by decide +kernel) rfl) pa_nil))) (xd_isi (by decide))) (pe_one (pe_w (pe_cmpR (op_eqD hr.units) (pe_w (pv 0) xd_var) (pe_w (pv 1) xd_var) (nomark _)) (xd_op od_eq)))) xd_and)) xd_and)) xs_ret)) pssd_nil) xs_if) (pssd_cons (ps_w (ps_if (pt_w (pt_truth (pe_w (pe_callB call_isi (by rfl) T.m_isinstance (by decide +kernel) (pa_cons (pe_w (pv 1) xd_var) (pa_cons (pe_bltn (v := .ty "str") (by rfl) T.m_str (by decide +kernel) rfl) pa_nil))) (xd_isi (by decide))) (by intro _; rfl)) xt_tru) (pssd_one (ps_w (ps_ret (pe_w (pe_and (pe_w (pe_callB call_isi (by rfl) T.m_isinstance (by decide +kernel) (pa_cons (pe_w (pv 0) xd_var) (pa_cons (pe_bltn (v := .ty "str") (by rfl) T.m_str (by decide +kernel) rfl) pa_nil))) (xd_isi (by decide))) (pe_one (pe_w (pe_cmpR (op_eqD hr.units) (pe_w (pv 0) xd_var) (pe_w (pv 1) xd_var) (nomark _)) (xd_op od_eq)))) xd_and)) xs_ret)) pssd_nil) xs_if) (pssd_one (ps_w (ps_ret (pe_w (pe_and (pe_w (pe_callB call_isi (by rfl) T.m_isinstance (by decide +kernel) (pa_cons (pe_w (pv 0) xd_var) (pa_cons (pe_bltn (v := .ty "int") (by rfl) T.m_int (by decide +kernel) rfl) pa_nil))) (xd_isi (by decide))) (pe_one (pe_w (pe_cmpR (op_eqD hr.units) (pe_w (pv 0) xd_var) (pe_w (pv 1) xd_var) (nomark _)) (xd_op od_eq)))) xd_and)) xs_ret))))))) pure_
theorem cal_none {x : Str} {st : Stmt} {f : Addr} {fd : FuncData} {ps : List Str} (F : FunP g.K x st f fd) (mgf : mg x = some (.ref f)) (b : Binds g.K fd ps []) : C8.Cal P w g.K mg base 0 x (spD g fun _ _ => False) [] :=
  ⟨f, fd, ps, [], ⟨fun vs H Q E ⟨_, _, _, _, _, _, _, h, _⟩ => h.elim, fun A outer s H args us vs Q E _ _ _ _ ⟨_, _, _, _, _, _, _, h, _⟩ => h.elim⟩, mgf, F.kp, b, .nil⟩
theorem alike_at {f : Addr} {fd : FuncData} (F : FunP g.K "_law_alike" s_law_alike f fd) (mgf : mg "_law_alike" = some (.ref f)) (T : Txt mg) : ∀ n : Nat, C8.Cal P w g.K mg base n "_law_alike" (spD g (f_alike n)) []
  | 0 => cal_none F mgf (F.bindsN (ps := ["_law_found", "_law_due"]) fun _ _ _ _ _ _ us hl => match us, hl with | [_, _], _ => rfl)
  | n + 1 => step_law_alike F mgf T (len_alike (n + 1)) (alike_at F mgf T n) (pure_law_alike n)
theorem ok_law_alike {f : Addr} {fd : FuncData} (F : FunP g.K "_law_alike" s_law_alike f fd) (mgf : mg "_law_alike" = some (.ref f)) (T : Txt mg) : C8.Cal P w g.K mg base 4 "_law_alike" (spD g f_law_alike) [] := alike_at F mgf T 4
end

/-! ### _law_neck -/
def f_law_neck : Fd := fun ds R => ∃ most : Int, ds = [.dict [], .int most] ∧ 1 ≤ most ∧ most ≤ 6 ∧ ∀ t f c, OkNeck t f c → (t.length : Int) ≤ most → R (neckD t f c)
theorem len_law_neck : ∀ ds R, f_law_neck ds R → ds.length = 2 := by
  rintro ds R ⟨m, rfl, _⟩; rfl
@[simp] theorem law_neck_iff {most : Int} {R : D → Prop} : f_law_neck [.dict [], .int most] R ↔ 1 ≤ most ∧ most ≤ 6 ∧ ∀ t f c, OkNeck t f c → (t.length : Int) ≤ most → R (neckD t f c) := by
  constructor
  · rintro ⟨m, e, h⟩; simp at e; rw [e]; exact h
  · intro h; exact ⟨_, rfl, h⟩
def W_law_neck : WS := (dSeq (dAsg 2 (dCall f_law_taken (aCons (dVar 0) (aCons (dC (.int 40)) aNil)))) (dSeq (dOwn 3 (nLst (aCons (dVar 2) aNil))) (dSeq (dFor (iR1 (aCons (dCall f_law_taken (aCons (dVar 0) (aCons (dVar 1) aNil))) aNil)) (tgN 4) (dApp 3 (dCall rdMin2 (aCons (dC (.int 60)) (aCons (dCall rdMax2 (aCons (dC (.int 0)) (aCons (dOp rdAdd (dOwnIx 3 (dNeg (dC (.int 1)))) (dOp rdIx (dLst (aCons (dC (.int 5)) (aCons (dC (.int 4)) (aCons (dC (.int 7)) (aCons (dC (.int 0)) (aCons (dOp rdSub (dCall f_law_taken (aCons (dVar 0) (aCons (dC (.int 14)) aNil))) (dC (.int 5))) aNil)))))) (dCall f_law_taken (aCons (dVar 0) (aCons (dC (.int 5)) aNil))))) aNil))) aNil))))) (dFrz 3 (dSeq (dIfS (bB (dOp rdEq (dCall f_law_taken (aCons (dVar 0) (aCons (dC (.int 6)) aNil))) (dC (.int 5)))) (dAsg 3 (dN (dLcW (iLst (dVar 3)) (tgN 7) (fun _ R => R true) (dCall f_law_taken (aCons (dVar 0) (aCons (dC (.int 61)) aNil))) [7]))) dNext) (dSeq (dAsg 5 (dOp rdIx (dLst (aCons (dC (.int 12)) (aCons (dC (.int 5)) (aCons (dC (.int 7)) (aCons (dCall f_law_taken (aCons (dVar 0) (aCons (dC (.int 21)) aNil))) aNil))))) (dCall f_law_taken (aCons (dVar 0) (aCons (dC (.int 4)) aNil))))) (dSeq (dAsg 6 (dOp rdIx (dLst (aCons (dC (.int 0)) (aCons (dC (.int 0)) (aCons (dCall f_law_taken (aCons (dVar 0) (aCons (dOp rdAdd (dVar 5) (dC (.int 1))) aNil))) aNil)))) (dCall f_law_taken (aCons (dVar 0) (aCons (dC (.int 3)) aNil))))) (dRet (dTup (aCons (dCall rdTuple (aCons (dVar 3) aNil)) (aCons (dVar 5) (aCons (dVar 6) aNil))))))))))))
def N_law_neck : List Str := ["_law_row", "_law_most", "_law_begin", "_law_tuning", "_law_k", "_law_frets", "_law_capo", "_law_note"]
theorem sc_law_neck : FnScope ["_law_row", "_law_most", "_law_begin", "_law_tuning", "_law_k", "_law_frets", "_law_capo", "_law_note"] ["_law_row", "_law_most"] (defScope s_law_neck) := ⟨rfl, rfl, rfl, by decide +kernel, rfl, by decide +kernel, by decide +kernel⟩
theorem neck_end {R : D → Prop} {most : Int} {a b c0 d0 e0 u7 : Sl} {l : List Int} (hl : 1 ≤ l.length) (hl6 : (l.length : Int) ≤ most) (h6 : most ≤ 6) (hn : ∀ y ∈ l, 0 ≤ y ∧ y ≤ 60) (hR : ∀ t f c, OkNeck t f c → (t.length : Int) ≤ most → R (neckD t f c)) :
    dSeq (dAsg 5 (dOp rdIx (dLst (aCons (dC (.int 12)) (aCons (dC (.int 5)) (aCons (dC (.int 7)) (aCons (dCall f_law_taken (aCons (dVar 0) (aCons (dC (.int 21)) aNil))) aNil))))) (dCall f_law_taken (aCons (dVar 0) (aCons (dC (.int 4)) aNil)))))
      (dSeq (dAsg 6 (dOp rdIx (dLst (aCons (dC (.int 0)) (aCons (dC (.int 0)) (aCons (dCall f_law_taken (aCons (dVar 0) (aCons (dOp rdAdd (dVar 5) (dC (.int 1))) aNil))) aNil)))) (dCall f_law_taken (aCons (dVar 0) (aCons (dC (.int 3)) aNil)))))
        (dRet (dTup (aCons (dCall rdTuple (aCons (dVar 3) aNil)) (aCons (dVar 5) (aCons (dVar 6) aNil)))))) { nx := fun _ => R .none, rt := R } [.val (.dict []), a, b, .val (.list (l.map PyData.int)), c0, d0, e0, u7] := by
  simp
  intro f0 hf0 hf1 i hi0 hi1
  obtain ⟨d, e, hd⟩ := atI_in (l := [PyData.int 12, PyData.int 5, PyData.int 7, PyData.int f0]) hi0 (by simpa using hi1)
  obtain ⟨f, rfl, g0, g1⟩ : ∃ f : Int, d = .int f ∧ 0 ≤ f ∧ f ≤ 20 := by
    simp at hd
    rcases hd with rfl | rfl | rfl | rfl
    · exact ⟨12, rfl, by omega, by omega⟩
    · exact ⟨5, rfl, by omega, by omega⟩
    · exact ⟨7, rfl, by omega, by omega⟩
    · exact ⟨f0, rfl, by omega, by omega⟩
  refine ⟨_, e, ?_⟩
  simp
  refine ⟨by omega, by omega, ?_⟩
  intro c1 hc0 hc1 j hj0 hj1
  obtain ⟨d, e, hd⟩ := atI_in (l := [PyData.int 0, PyData.int 0, PyData.int c1]) hj0 (by simpa using hj1)
  obtain ⟨c, rfl, k0, k1⟩ : ∃ c : Int, d = .int c ∧ 0 ≤ c ∧ c ≤ f := by
    simp at hd
    rcases hd with rfl | rfl
    · exact ⟨0, rfl, by omega, by omega⟩
    · exact ⟨c1, rfl, by omega, by omega⟩
  refine ⟨_, e, ?_⟩
  simp
  exact hR l f c ⟨hl, by omega, hn, g0, g1, k0, k1⟩ hl6
theorem pure_law_neck : ∀ ds R, f_law_neck ds R → W_law_neck { nx := fun _ => R .none, rt := R } (startD ["_law_row", "_law_most", "_law_begin", "_law_tuning", "_law_k", "_law_frets", "_law_capo", "_law_note"] ds) := by
  rintro ds R ⟨most, rfl, h1, h6, hR⟩
  simp [W_law_neck]
  intro v hv0 hv1
  refine ⟨by omega, by omega, ?_⟩
  intro n hn0 hn1
  refine ⟨by omega, by omega, ?_⟩
  refine forRun_inv (fun ds e => ∃ (l : List Int) (z : Int) (x : Sl), (∀ y ∈ l ++ [z], 0 ≤ y ∧ y ≤ 60) ∧ l.length + ds.length = n.toNat ∧ e = [Sl.val (.dict []), .val (.int most), .val (.int v), .own ((l ++ [z]).map PyData.int), x, .un, .un, .un]) ?_ ?_ _ _ ⟨[], v, .un, by simp; omega, by simp, rfl⟩
  · rintro d ds e ⟨l, z, x, hz, hl, rfl⟩ k
    simp
    refine ⟨_, atI_last _ _, ?_⟩
    simp
    intro w hw0 hw1 i hi0 hi1
    obtain ⟨d5, e5, hd⟩ := atI_in (l := [PyData.int 5, PyData.int 4, PyData.int 7, PyData.int 0, PyData.int (w - 5)]) hi0 (by simpa using hi1)
    obtain ⟨s, rfl⟩ : ∃ s : Int, d5 = .int s := by
      simp at hd
      rcases hd with rfl | rfl | rfl | rfl | rfl <;> exact ⟨_, rfl⟩
    refine ⟨_, e5, ?_⟩
    simp
    refine ⟨by simp at hl; omega, ?_⟩
    have hb : ∀ q : Int, 0 ≤ (if (if q > 0 then q else 0) < 60 then (if q > 0 then q else 0) else 60) ∧ (if (if q > 0 then q else 0) < 60 then (if q > 0 then q else 0) else 60) ≤ 60 := fun q => by split <;> split <;> omega
    have := k _ ⟨l ++ [z], (if (if z + s > 0 then z + s else 0) < 60 then (if z + s > 0 then z + s else 0) else 60), .val d, fun y hy => ?_, by simp at hl ⊢; omega, rfl⟩
    · simpa using this
    · rcases List.mem_append.mp hy with h | h
      · exact hz y h
      · rw [List.mem_singleton.mp h]
        exact hb (z + s)
  · rintro e ⟨l, z, x, hz, hl, rfl⟩
    simp only [dFrz, List.getElem?_cons_succ, List.getElem?_cons_zero, Option.some.injEq, Sl.own.injEq, exists_eq_left', List.set_cons_succ, List.set_cons_zero]
    have len1 : ((l ++ [z]).length : Int) ≤ most := by simp at hl ⊢; omega
    show dIfS _ _ _ _ _
    simp only [dIfS, bB, dOp, dCall, aCons, aNil, dVar, dC, List.getElem?_cons_succ, List.getElem?_cons_zero, Option.some.injEq, Sl.val.injEq, exists_eq_left', taken_iff]
    refine ⟨by omega, by omega, fun q hq0 hq1 => ?_⟩
    refine ⟨by simp, by simp, by simp, by simp, _, rfl, ?_⟩
    rw [eqv_int]
    by_cases h5 : q = 5
    · rw [if_pos (by simpa using h5)]
      simp only [dAsg, dN, dLcW, iLst, dVar, List.getElem?_cons_succ, List.getElem?_cons_zero, Option.some.injEq, Sl.val.injEq, exists_eq_left', PyData.list.injEq, List.length_map]
      refine ⟨by omega, lcRun_each (fun d => ∃ i : Int, d = .int i ∧ 0 ≤ i ∧ i ≤ 60) _ _ (fun d hd K k => ?_) fun zs hzl hzs => ?_⟩
      · simp
        intro u hu0 hu1
        exact k _ ⟨u, rfl, by omega, by omega⟩
      · obtain ⟨m, rfl, hm⟩ : ∃ m : List Int, zs = m.map PyData.int ∧ ∀ y ∈ m, 0 ≤ y ∧ y ≤ 60 := by
          clear hzl
          induction zs with
          | nil => exact ⟨[], rfl, by simp⟩
          | cons a zs ih =>
            obtain ⟨m, e, hm⟩ := ih fun z hz => hzs z (List.mem_cons_of_mem _ hz)
            obtain ⟨i, rfl, hi⟩ := hzs a List.mem_cons_self
            exact ⟨i :: m, by rw [e]; rfl, fun y hy => by
              rcases List.mem_cons.mp hy with h | h
              · rw [h]; exact hi
              · exact hm y h⟩
        rw [List.length_map] at hzl
        exact neck_end (by rw [hzl]; simp) (by rw [hzl]; simpa using len1) h6 hm hR
    · rw [if_neg (by simpa using h5)]
      exact neck_end (by simp) len1 h6 hz hR
section
variable {P : Program} {w : World} {g : Glb} {mg : Str → Option Value} {base : Heap}
theorem ok_law_neck {f : Addr} {fd : FuncData} (F : FunP g.K "_law_neck" s_law_neck f fd) (mgf : mg "_law_neck" = some (.ref f)) (T : Txt mg) (C_law_taken : C8.Cal P w g.K mg base 1 "_law_taken" (spD g f_law_taken) []) : C8.Cal P w g.K mg base 2 "_law_neck" (spD g f_law_neck) [] :=
  calD (N := ["_law_row", "_law_most", "_law_begin", "_law_tuning", "_law_k", "_law_frets", "_law_capo", "_law_note"]) (ps := ["_law_row", "_law_most"]) (k := 1) (wb := W_law_neck) F mgf (F.bindsN fun _ _ _ _ _ _ us hl => match us, hl with | [_, _], _ => rfl) sc_law_neck len_law_neck (fun cdv A outer s H E r a ns hr =>
    (pssd_cons (ps_w (ps_set (i := 2) sc_law_neck.nd rfl (.inl rfl) (pe_w (C8.pe_c C_law_taken hr (by decide) (by rfl) (pa_w (pa_cons (pe_w (pv 0) xd_var) (pa_w (pa_cons (pe_w pe_int (xd_c fun _ => .int)) (pa_w pa_nil xa_nil)) xa_cons)) xa_cons)) xd_call)) xs_asg) (pssd_cons (ps_w (ps_set (i := 3) sc_law_neck.nd rfl (.inl rfl) (pe_w (pe_lst (pa_w (pa_cons (pe_w (pv 2) xd_var) (pa_w pa_nil xa_nil)) xa_cons)) xn_lst)) xs_own) (pssd_cons (ps_w (ps_for (g := gName 4) PassesOwn.never rfl (pi_w (pi_range1 (by rfl) T.m_range (pa_w (pa_cons (pe_w (C8.pe_c C_law_taken hr (by decide) (by rfl) (pa_w (pa_cons (pe_w (pv 0) xd_var) (pa_w (pa_cons (pe_w (pv 1) xd_var) (pa_w pa_nil xa_nil)) xa_cons)) xa_cons)) xd_call) (pa_w pa_nil xa_nil)) xa_cons)) xi_rng1) (pg_name (i := 4) sc_law_neck.nd rfl (.inl rfl)) (pssd_one (ps_w (ps_expr (pe_bm PySem.F.plainAttrs_list PySem.F.slot_list_append PySem.F.type_list_append mt_append (pv 3) (pa_cons (pe_w (pe_callB (call_min2 (by rfl)) (by rfl) T.m_min (by decide +kernel) (pa_w (pa_cons (pe_w pe_int (xd_c fun _ => .int)) (pa_w (pa_cons (pe_w (pe_callB (call_max2 (by rfl)) (by rfl) T.m_max (by decide +kernel) (pa_w (pa_cons (pe_w pe_int (xd_c fun _ => .int)) (pa_w (pa_cons (pe_w (pe_op op_add (pe_w (pe_ix ix_lt (pv 3) (pe_w (pe_un un_neg (pe_w pe_int (xd_c fun _ => .int))) xd_neg) (fun _ _ => rfl)) xd_ownIx) (pe_w (pe_ix ix_lt (pe_w (pe_lst (pa_w (pa_cons (pe_w pe_int (xd_c fun _ => .int)) (pa_w (pa_cons (pe_w pe_int (xd_c fun _ => .int)) (pa_w (pa_cons (pe_w pe_int (xd_c fun _ => .int)) (pa_w (pa_cons (pe_w pe_int (xd_c fun _ => .int)) (pa_w (pa_cons (pe_w (pe_op op_sub (pe_w (C8.pe_c C_law_taken hr (by decide) (by rfl) (pa_w (pa_cons (pe_w (pv 0) xd_var) (pa_w (pa_cons (pe_w pe_int (xd_c fun _ => .int)) (pa_w pa_nil xa_nil)) xa_cons)) xa_cons)) xd_call) (pe_w pe_int (xd_c fun _ => .int))) (xd_op od_sub)) (pa_w pa_nil xa_nil)) xa_cons)) xa_cons)) xa_cons)) xa_cons)) xa_cons)) xd_lst) (pe_w (C8.pe_c C_law_taken hr (by decide) (by rfl) (pa_w (pa_cons (pe_w (pv 0) xd_var) (pa_w (pa_cons (pe_w pe_int (xd_c fun _ => .int)) (pa_w pa_nil xa_nil)) xa_cons)) xa_cons)) xd_call) (fun _ _ => rfl)) (xd_op od_ixL))) (xd_op od_add)) (pa_w pa_nil xa_nil)) xa_cons)) xa_cons)) (xd_cb cd_max2)) (pa_w pa_nil xa_nil)) xa_cons)) xa_cons)) (xd_cb cd_min2)) pa_nil))) xs_app))) (xs_for gd_name)) (pss_w (pssd_cons (ps_w (ps_if (pt_w (pt_cmpR (op_eqD hr.units) (pe_w (C8.pe_c C_law_taken hr (by decide) (by rfl) (pa_w (pa_cons (pe_w (pv 0) xd_var) (pa_w (pa_cons (pe_w pe_int (xd_c fun _ => .int)) (pa_w pa_nil xa_nil)) xa_cons)) xa_cons)) xd_call) (pe_w pe_int (xd_c fun _ => .int)) (nomark _)) (xt_cmp od_eq)) (pssd_one (ps_w (ps_setLc (i := 3) (own := [("_law_note", 7)]) (g := gName 7) rfl sc_law_neck.nd rfl rfl (sw_true rfl rfl rfl (by decide +kernel)) (pi_w (pi_list (pe_w (pv 3) xd_var)) xi_list) (blkOk_by (own := [("_law_note", 7)]) (N := ["_law_row", "_law_most", "_law_begin", "_law_tuning", "_law_k", "_law_frets", "_law_capo", "_law_note"]) (sc := defScope s_law_neck) (by decide +kernel)) (fun _ _ _ _ _ => (pg_name (i := 7) sc_law_neck.nd rfl (.inl rfl))) (fun _ _ _ _ _ => (pts_w pts_nil xt_yes)) (fun _ _ _ _ _ => (pe_w (C8.pe_c C_law_taken hr (by decide) (by rfl) (pa_w (pa_cons (pe_w (pv 0) xd_var) (pa_w (pa_cons (pe_w pe_int (xd_c fun _ => .int)) (pa_w pa_nil xa_nil)) xa_cons)) xa_cons)) xd_call))) (xs_asgLc gd_name stores_name))) pssd_nil) xs_if) (pssd_cons (ps_w (ps_set (i := 5) sc_law_neck.nd rfl (.inl rfl) (pe_w (pe_ix ix_lt (pe_w (pe_lst (pa_w (pa_cons (pe_w pe_int (xd_c fun _ => .int)) (pa_w (pa_cons (pe_w pe_int (xd_c fun _ => .int)) (pa_w (pa_cons (pe_w pe_int (xd_c fun _ => .int)) (pa_w (pa_cons (pe_w (C8.pe_c C_law_taken hr (by decide) (by rfl) (pa_w (pa_cons (pe_w (pv 0) xd_var) (pa_w (pa_cons (pe_w pe_int (xd_c fun _ => .int)) (pa_w pa_nil xa_nil)) xa_cons)) xa_cons)) xd_call) (pa_w pa_nil xa_nil)) xa_cons)) xa_cons)) xa_cons)) xa_cons)) xd_lst) (pe_w (C8.pe_c C_law_taken hr (by decide) (by rfl) (pa_w (pa_cons (pe_w (pv 0) xd_var) (pa_w (pa_cons (pe_w pe_int (xd_c fun _ => .int)) (pa_w pa_nil xa_nil)) xa_cons)) xa_cons)) xd_call) (fun _ _ => rfl)) (xd_op od_ixL))) xs_asg) (pssd_cons (ps_w (ps_set (i := 6) sc_law_neck.nd rfl (.inl rfl) (pe_w (pe_ix ix_lt (pe_w (pe_lst (pa_w (pa_cons (pe_w pe_int (xd_c fun _ => .int)) (pa_w (pa_cons (pe_w pe_int (xd_c fun _ => .int)) (pa_w (pa_cons (pe_w (C8.pe_c C_law_taken hr (by decide) (by rfl) (pa_w (pa_cons (pe_w (pv 0) xd_var) (pa_w (pa_cons (pe_w (pe_op op_add (pe_w (pv 5) xd_var) (pe_w pe_int (xd_c fun _ => .int))) (xd_op od_add)) (pa_w pa_nil xa_nil)) xa_cons)) xa_cons)) xd_call) (pa_w pa_nil xa_nil)) xa_cons)) xa_cons)) xa_cons)) xd_lst) (pe_w (C8.pe_c C_law_taken hr (by decide) (by rfl) (pa_w (pa_cons (pe_w (pv 0) xd_var) (pa_w (pa_cons (pe_w pe_int (xd_c fun _ => .int)) (pa_w pa_nil xa_nil)) xa_cons)) xa_cons)) xd_call) (fun _ _ => rfl)) (xd_op od_ixL))) xs_asg) (pssd_one (ps_w (ps_ret (pe_w (pe_tup (pa_w (pa_cons (pe_w (pe_callTy call_tuple_of (by rfl) T.m_tuple (by decide +kernel) (pa_w (pa_cons (pe_w (pv 3) xd_var) (pa_w pa_nil xa_nil)) xa_cons)) (xd_cb cd_tuple)) (pa_w (pa_cons (pe_w (pv 5) xd_var) (pa_w (pa_cons (pe_w (pv 6) xd_var) (pa_w pa_nil xa_nil)) xa_cons)) xa_cons)) xa_cons)) xd_tup)) xs_ret))))) xs_frz))))) pure_law_neck
end

/-! ### _law_shape -/
def f_law_shape : Fd := fun ds R => ∃ t f c, ds = [.dict [], neckD t f c] ∧ OkNeck t f c ∧ ∀ s, OkShape t f c s → R (intsD s)
theorem len_law_shape : ∀ ds R, f_law_shape ds R → ds.length = 2 := by
  rintro ds R ⟨t, f, c, rfl, _⟩; rfl
@[simp] theorem law_shape_iff {t : List Int} {f c : Int} {R : D → Prop} : f_law_shape [.dict [], neckD t f c] R ↔ OkNeck t f c ∧ ∀ s, OkShape t f c s → R (intsD s) := by
  constructor
  · rintro ⟨t', f', c', e, h⟩; simp at e; obtain ⟨rfl, rfl, rfl⟩ := e; exact h
  · intro h; exact ⟨_, _, _, rfl, h⟩
def W_law_shape : WS := (dSeq (dAsg 2 (dOp rdAdd (dOp rdIx (dVar 1) (dC (.int 2))) (dCall f_law_taken (aCons (dVar 0) (aCons (dOp rdAdd (dOp rdSub (dOp rdIx (dVar 1) (dC (.int 1))) (dOp rdIx (dVar 1) (dC (.int 2)))) (dC (.int 1))) aNil))))) (dSeq (dOwn 3 (nLst aNil)) (dSeq (dFor (iTpl (dOp rdIx (dVar 1) (dC (.int 0)))) (tgN 4) (dSeq (dAsg 5 (dCall rdMin2 (aCons (dOp rdIx (dVar 1) (dC (.int 1))) (aCons (dOp rdAdd (dVar 2) (dCall f_law_taken (aCons (dVar 0) (aCons (dC (.int 4)) aNil)))) aNil)))) (dSeq (dAsg 6 (dOp rdAdd (dOp rdIx (dVar 1) (dC (.int 2))) (dCall f_law_taken (aCons (dVar 0) (aCons (dOp rdAdd (dOp rdSub (dOp rdIx (dVar 1) (dC (.int 1))) (dOp rdIx (dVar 1) (dC (.int 2)))) (dC (.int 1))) aNil))))) (dApp 3 (dOp rdIx (dLst (aCons (dVar 5) (aCons (dVar 5) (aCons (dVar 5) (aCons (dOp rdSub (dC (.int 0)) (dC (.int 1))) (aCons (dOp rdIx (dVar 1) (dC (.int 2))) (aCons (dVar 6) aNil))))))) (dCall f_law_taken (aCons (dVar 0) (aCons (dC (.int 6)) aNil)))))))) (dFrz 3 (dRet (dCall rdTuple (aCons (dVar 3) aNil)))))))
def N_law_shape : List Str := ["_law_row", "_law_neck_here", "_law_low", "_law_found", "_law_note", "_law_near", "_law_any_place"]
theorem sc_law_shape : FnScope ["_law_row", "_law_neck_here", "_law_low", "_law_found", "_law_note", "_law_near", "_law_any_place"] ["_law_row", "_law_neck_here"] (defScope s_law_shape) := ⟨rfl, rfl, rfl, by decide +kernel, rfl, by decide +kernel, by decide +kernel⟩
theorem pure_law_shape : ∀ ds R, f_law_shape ds R → W_law_shape { nx := fun _ => R .none, rt := R } (startD ["_law_row", "_law_neck_here", "_law_low", "_law_found", "_law_note", "_law_near", "_law_any_place"] ds) := by
  rintro ds R ⟨t, f, c, rfl, ok, hR⟩
  obtain ⟨l1, l2, hn, f0, f1, c0, c1⟩ := ok
  simp [W_law_shape, neckD]
  refine ⟨by omega, by omega, fun v hv0 hv1 => ?_⟩
  refine forRun_inv (fun ds e => ∃ (l : List Int) (x y z : Sl), (∀ p ∈ l, p = -1 ∨ (c ≤ p ∧ p ≤ f)) ∧ l.length + ds.length = t.length ∧ e = [Sl.val (.dict []), .val (neckD t f c), .val (.int (c + v)), .own (l.map PyData.int), x, y, z]) ?_ ?_ _ _ ⟨[], .un, .un, .un, by simp, by simp, rfl⟩
  · rintro d ds e ⟨l, x, y, z, hl, hlen, rfl⟩ k
    simp [neckD]
    intro v1 h10 h11
    refine ⟨by omega, by omega, fun v2 h20 h21 v3 h30 h31 => ?_⟩
    generalize hnear : (if c + v + v1 < f then c + v + v1 else f) = near
    have hnear2 : c ≤ near ∧ near ≤ f := by rw [← hnear]; split <;> omega
    obtain ⟨d6, e6, hd⟩ := atI_in (l := [PyData.int near, PyData.int near, PyData.int near, PyData.int (-1), PyData.int c, PyData.int (c + v2)]) h30 (by simpa using h31)
    obtain ⟨p, rfl, hp⟩ : ∃ p : Int, d6 = .int p ∧ (p = -1 ∨ (c ≤ p ∧ p ≤ f)) := by
      simp at hd
      rcases hd with rfl | rfl | rfl | rfl
      · exact ⟨_, rfl, .inr hnear2⟩
      · exact ⟨_, rfl, .inl rfl⟩
      · exact ⟨_, rfl, .inr ⟨by omega, by omega⟩⟩
      · exact ⟨_, rfl, .inr ⟨by omega, by omega⟩⟩
    refine ⟨_, e6, ?_⟩
    simp
    refine ⟨by simp at hlen; omega, ?_⟩
    have := k _ ⟨l ++ [p], .val d, .val (.int near), .val (.int (c + v2)), fun q hq => ?_, by simp at hlen ⊢; omega, rfl⟩
    · simpa [neckD] using this
    · rcases List.mem_append.mp hq with h | h
      · exact hl q h
      · rw [List.mem_singleton.mp h]; exact hp
  · rintro e ⟨l, x, y, z, hl, hlen, rfl⟩
    simp
    exact hR l ⟨by simpa using hlen, hl⟩
section
variable {P : Program} {w : World} {g : Glb} {mg : Str → Option Value} {base : Heap}
theorem ok_law_shape {f : Addr} {fd : FuncData} (F : FunP g.K "_law_shape" s_law_shape f fd) (mgf : mg "_law_shape" = some (.ref f)) (T : Txt mg) (C_law_taken : C8.Cal P w g.K mg base 1 "_law_taken" (spD g f_law_taken) []) : C8.Cal P w g.K mg base 2 "_law_shape" (spD g f_law_shape) [] :=
  calD (N := ["_law_row", "_law_neck_here", "_law_low", "_law_found", "_law_note", "_law_near", "_law_any_place"]) (ps := ["_law_row", "_law_neck_here"]) (k := 1) (wb := W_law_shape) F mgf (F.bindsN fun _ _ _ _ _ _ us hl => match us, hl with | [_, _], _ => rfl) sc_law_shape len_law_shape (fun cdv A outer s H E r a ns hr =>
    (pssd_cons (ps_w (ps_set (i := 2) sc_law_shape.nd rfl (.inl rfl) (pe_w (pe_op op_add (pe_w (pe_ix ix_lt (pe_w (pv 1) xd_var) (pe_w pe_int (xd_c fun _ => .int)) (fun _ _ => rfl)) (xd_op od_ixL)) (pe_w (C8.pe_c C_law_taken hr (by decide) (by rfl) (pa_w (pa_cons (pe_w (pv 0) xd_var) (pa_w (pa_cons (pe_w (pe_op op_add (pe_w (pe_op op_sub (pe_w (pe_ix ix_lt (pe_w (pv 1) xd_var) (pe_w pe_int (xd_c fun _ => .int)) (fun _ _ => rfl)) (xd_op od_ixL)) (pe_w (pe_ix ix_lt (pe_w (pv 1) xd_var) (pe_w pe_int (xd_c fun _ => .int)) (fun _ _ => rfl)) (xd_op od_ixL))) (xd_op od_sub)) (pe_w pe_int (xd_c fun _ => .int))) (xd_op od_add)) (pa_w pa_nil xa_nil)) xa_cons)) xa_cons)) xd_call)) (xd_op od_add))) xs_asg) (pssd_cons (ps_w (ps_set (i := 3) sc_law_shape.nd rfl (.inl rfl) (pe_w (pe_lst (pa_w pa_nil xa_nil)) xn_lst)) xs_own) (pssd_cons (ps_w (ps_for (g := gName 4) PassesOwn.never rfl (pi_w (pi_tup (pe_w (pe_ix ix_lt (pe_w (pv 1) xd_var) (pe_w pe_int (xd_c fun _ => .int)) (fun _ _ => rfl)) (xd_op od_ixL))) xi_tup) (pg_name (i := 4) sc_law_shape.nd rfl (.inl rfl)) (pssd_cons (ps_w (ps_set (i := 5) sc_law_shape.nd rfl (.inl rfl) (pe_w (pe_callB (call_min2 (by rfl)) (by rfl) T.m_min (by decide +kernel) (pa_w (pa_cons (pe_w (pe_ix ix_lt (pe_w (pv 1) xd_var) (pe_w pe_int (xd_c fun _ => .int)) (fun _ _ => rfl)) (xd_op od_ixL)) (pa_w (pa_cons (pe_w (pe_op op_add (pe_w (pv 2) xd_var) (pe_w (C8.pe_c C_law_taken hr (by decide) (by rfl) (pa_w (pa_cons (pe_w (pv 0) xd_var) (pa_w (pa_cons (pe_w pe_int (xd_c fun _ => .int)) (pa_w pa_nil xa_nil)) xa_cons)) xa_cons)) xd_call)) (xd_op od_add)) (pa_w pa_nil xa_nil)) xa_cons)) xa_cons)) (xd_cb cd_min2))) xs_asg) (pssd_cons (ps_w (ps_set (i := 6) sc_law_shape.nd rfl (.inl rfl) (pe_w (pe_op op_add (pe_w (pe_ix ix_lt (pe_w (pv 1) xd_var) (pe_w pe_int (xd_c fun _ => .int)) (fun _ _ => rfl)) (xd_op od_ixL)) (pe_w (C8.pe_c C_law_taken hr (by decide) (by rfl) (pa_w (pa_cons (pe_w (pv 0) xd_var) (pa_w (pa_cons (pe_w (pe_op op_add (pe_w (pe_op op_sub (pe_w (pe_ix ix_lt (pe_w (pv 1) xd_var) (pe_w pe_int (xd_c fun _ => .int)) (fun _ _ => rfl)) (xd_op od_ixL)) (pe_w (pe_ix ix_lt (pe_w (pv 1) xd_var) (pe_w pe_int (xd_c fun _ => .int)) (fun _ _ => rfl)) (xd_op od_ixL))) (xd_op od_sub)) (pe_w pe_int (xd_c fun _ => .int))) (xd_op od_add)) (pa_w pa_nil xa_nil)) xa_cons)) xa_cons)) xd_call)) (xd_op od_add))) xs_asg) (pssd_one (ps_w (ps_expr (pe_bm PySem.F.plainAttrs_list PySem.F.slot_list_append PySem.F.type_list_append mt_append (pv 3) (pa_cons (pe_w (pe_ix ix_lt (pe_w (pe_lst (pa_w (pa_cons (pe_w (pv 5) xd_var) (pa_w (pa_cons (pe_w (pv 5) xd_var) (pa_w (pa_cons (pe_w (pv 5) xd_var) (pa_w (pa_cons (pe_w (pe_op op_sub (pe_w pe_int (xd_c fun _ => .int)) (pe_w pe_int (xd_c fun _ => .int))) (xd_op od_sub)) (pa_w (pa_cons (pe_w (pe_ix ix_lt (pe_w (pv 1) xd_var) (pe_w pe_int (xd_c fun _ => .int)) (fun _ _ => rfl)) (xd_op od_ixL)) (pa_w (pa_cons (pe_w (pv 6) xd_var) (pa_w pa_nil xa_nil)) xa_cons)) xa_cons)) xa_cons)) xa_cons)) xa_cons)) xa_cons)) xd_lst) (pe_w (C8.pe_c C_law_taken hr (by decide) (by rfl) (pa_w (pa_cons (pe_w (pv 0) xd_var) (pa_w (pa_cons (pe_w pe_int (xd_c fun _ => .int)) (pa_w pa_nil xa_nil)) xa_cons)) xa_cons)) xd_call) (fun _ _ => rfl)) (xd_op od_ixL)) pa_nil))) xs_app))))) (xs_for gd_name)) (pss_w (pssd_one (ps_w (ps_ret (pe_w (pe_callTy call_tuple_of (by rfl) T.m_tuple (by decide +kernel) (pa_w (pa_cons (pe_w (pv 3) xd_var) (pa_w pa_nil xa_nil)) xa_cons)) (xd_cb cd_tuple))) xs_ret)) xs_frz))))) pure_law_shape
end

/-! ### _law_slid -/
def okLaw (f c far p : Int) : Bool := !(decide (p ≥ 0) && (decide (p = c) || !(decide (c < p + far) && decide (p + far ≤ f))))
def lawSlid (f c : Int) (s : List Int) (far : Int) : D := if s.all (okLaw f c far) = true then intsD (s.map fun p => p + far * (if p ≥ 0 then 1 else 0)) else .none
def f_law_slid : Fd := fun ds R => ∃ t f c s far, ds = [neckD t f c, intsD s, .int far] ∧ s.length ≤ 1000 ∧ R (lawSlid f c s far)
theorem len_law_slid : ∀ ds R, f_law_slid ds R → ds.length = 3 := by
  rintro ds R ⟨t, f, c, s, far, rfl, _⟩; rfl
@[simp] theorem law_slid_iff {t s : List Int} {f c far : Int} {R : D → Prop} : f_law_slid [neckD t f c, intsD s, .int far] R ↔ s.length ≤ 1000 ∧ R (lawSlid f c s far) := by
  constructor
  · rintro ⟨t', f', c', s', far', e, h⟩; simp at e; obtain ⟨⟨rfl, rfl, rfl⟩, rfl, rfl⟩ := e; simpa [and_assoc] using h
  · intro h; exact ⟨_, _, _, _, _, rfl, by simpa [and_assoc] using h⟩
def W_law_slid : WS := (dSeq (dAsg 3 (dCall rdTuple (aCons (dN (dLcW (iTpl (dVar 1)) (tgN 6) (fun _ R => R true) (dOp rdAdd (dVar 6) (dOp rdMul (dVar 2) (dCall rdInt1 (aCons (dOp rdGe (dVar 6) (dC (.int 0))) aNil)))) [6])) aNil))) (dSeq (dAsg 4 (dN (dLcW (iR1 (aCons (dCall rdLen (aCons (dVar 1) aNil)) aNil)) (tgN 5) (bAnd (bB (dOp rdGe (dOp rdIx (dVar 1) (dVar 5)) (dC (.int 0)))) (bOr (bB (dOp rdEq (dOp rdIx (dVar 1) (dVar 5)) (dOp rdIx (dVar 0) (dC (.int 2))))) (bNot (bB (dChain rdLt rdLe (dOp rdIx (dVar 0) (dC (.int 2))) (dOp rdIx (dVar 3) (dVar 5)) (dOp rdIx (dVar 0) (dC (.int 1)))))))) (dVar 5) [5]))) (dRet (dIf (bB (dOp rdEq (dVar 4) (dLst aNil))) (dVar 3) (dC .none)))))
def N_law_slid : List Str := ["_law_neck_here", "_law_shape_here", "_law_far", "_law_found", "_law_bad", "_law_k", "_law_place"]
theorem sc_law_slid : FnScope ["_law_neck_here", "_law_shape_here", "_law_far", "_law_found", "_law_bad", "_law_k", "_law_place"] ["_law_neck_here", "_law_shape_here", "_law_far"] (defScope s_law_slid) := ⟨rfl, rfl, rfl, by decide +kernel, rfl, by decide +kernel, by decide +kernel⟩
def badSlid (f c far : Int) (s : List Int) (k : Nat) : Bool := match s[k]? with
  | some p => !okLaw f c far p
  | none => false
theorem pure_law_slid : ∀ ds R, f_law_slid ds R → W_law_slid { nx := fun _ => R .none, rt := R } (startD ["_law_neck_here", "_law_shape_here", "_law_far", "_law_found", "_law_bad", "_law_place", "_law_k"] ds) := by
  rintro ds R ⟨t, f, c, s, far, rfl, hl, h⟩
  simp [W_law_slid]
  refine ⟨by omega, lcRun_ints (fun _ => true) (fun p => .int (p + far * (if p ≥ 0 then 1 else 0))) s (fun p hp K k => ?_) ?_⟩
  · simp
    exact ⟨.inr (by split <;> decide), by simpa using k⟩
  · rw [List.filter_eq_self.mpr (by simp)]
    refine ⟨by omega, by omega, lcRun_bad (badSlid f c far s) s.length (fun k hk K q => ?_) ?_⟩
    · have e0 : s[k]? = some s[k] := List.getElem?_eq_getElem hk
      have e1 := atI_map (f := PyData.int) e0
      have e2 := atI_map (f := fun p : Int => PyData.int (p + far * (if p ≥ 0 then 1 else 0))) e0
      have e3 : badSlid f c far s k = !okLaw f c far s[k] := by unfold badSlid; rw [e0]
      rw [e3] at q
      generalize s[k] = p at *
      unfold okLaw at q
      by_cases z : 0 ≤ p
      · by_cases zc : p = c
        · subst zc
          simp [z] at q
          simp [neckD, e1]
          exact .inr ⟨z, q⟩
        · have e2' : atI (s.map fun p => PyData.int (p + far * if 0 ≤ p then 1 else 0)) (k : Int) = some (.int (p + far)) := by
            have z' : p ≥ 0 := z
            rw [if_pos z', Int.mul_one] at e2
            exact e2
          simp [neckD, e1, zc]
          refine .inr ⟨z, _, e2', _, rfl, ?_⟩
          by_cases a : c < p + far
          · refine .inr ⟨a, _, rfl, ?_⟩
            by_cases b : p + far ≤ f
            · simp [z, zc, a, b] at q
              exact .inr ⟨b, q⟩
            · simp [z, zc, a, b] at q
              exact .inl ⟨by omega, q⟩
          · simp [z, zc, a] at q
            exact .inl ⟨by omega, q⟩
      · simp [z] at q
        simp [neckD, e1]
        exact .inl ⟨by omega, q⟩
    · have hb := (badAt_nil (badSlid f c far s) s.length).trans (Bool.eq_iff_iff.mp (all_range (okLaw f c far) s (badSlid f c far s) (fun i x hi => by unfold badSlid; rw [hi])))
      refine ⟨badAt_sh _ _, ?_⟩
      unfold lawSlid at h
      have e : s.map (fun p => PyData.int (p + far * (if p ≥ 0 then 1 else 0))) = (s.map fun p => p + far * (if p ≥ 0 then 1 else 0)).map PyData.int := by rw [List.map_map]; rfl
      rw [e]
      by_cases q : s.all (okLaw f c far) = true
      · rw [if_pos (hb.mpr q)]
        rw [if_pos q] at h
        exact h
      · rw [if_neg (fun z => q (hb.mp z))]
        rw [if_neg q] at h
        exact h
section
variable {P : Program} {w : World} {g : Glb} {mg : Str → Option Value} {base : Heap}
theorem ok_law_slid {f : Addr} {fd : FuncData} (F : FunP g.K "_law_slid" s_law_slid f fd) (mgf : mg "_law_slid" = some (.ref f)) (T : Txt mg)  : C8.Cal P w g.K mg base 1 "_law_slid" (spD g f_law_slid) [] :=
  calD (N := ["_law_neck_here", "_law_shape_here", "_law_far", "_law_found", "_law_bad", "_law_k", "_law_place"]) (ps := ["_law_neck_here", "_law_shape_here", "_law_far"]) (k := 0) (wb := W_law_slid) F mgf (F.bindsN fun _ _ _ _ _ _ us hl => match us, hl with | [_, _, _], _ => rfl) sc_law_slid len_law_slid (fun cdv A outer s H E r a ns hr =>
    (pssd_cons (ps_w (ps_set (i := 3) sc_law_slid.nd rfl (.inr rfl) (pe_w (pe_callTy call_tuple_of (by rfl) T.m_tuple (by decide +kernel) (pa_w (pa_cons (pe_w (pe_w (pe_lc (own := [("_law_place", 6)]) (g := gName 6) rfl sc_law_slid.nd (pi_w (pi_tup (pe_w (pv 1) xd_var)) xi_tup) (blkOk_by (own := [("_law_place", 6)]) (N := ["_law_neck_here", "_law_shape_here", "_law_far", "_law_found", "_law_bad", "_law_k", "_law_place"]) (sc := defScope s_law_slid) (by decide +kernel)) (fun _ _ _ _ _ => (pg_name (i := 6) sc_law_slid.nd rfl (.inl rfl))) (fun _ _ _ _ _ => (pts_w pts_nil xt_yes)) (fun _ _ _ _ _ => (pe_w (pe_op op_add (pe_w (pv 6) xd_var) (pe_w (pe_op op_mul (pe_w (pv 2) xd_var) (pe_w (pe_callTy call_int1 (by rfl) T.m_int (by decide +kernel) (pa_w (pa_cons (pe_w (pe_cmpR op_ge (pe_w (pv 6) xd_var) (pe_w pe_int (xd_c fun _ => .int)) (nomark _)) (xd_op od_ge)) (pa_w pa_nil xa_nil)) xa_cons)) (xd_cb cd_int1))) (xd_op od_mul))) (xd_op od_add)))) (xn_lc gd_name stores_name)) xd_N) (pa_w pa_nil xa_nil)) xa_cons)) (xd_cb cd_tuple))) xs_asg) (pssd_cons (ps_w (ps_setLc (i := 4) (own := [("_law_k", 5)]) (g := gName 5) rfl sc_law_slid.nd rfl rfl (sw_true rfl rfl rfl (by decide +kernel)) (pi_w (pi_range1 (by rfl) T.m_range (pa_w (pa_cons (pe_w (pe_callB call_len_seq (by rfl) T.m_len PySem.boot_len (pa_w (pa_cons (pe_w (pv 1) xd_var) (pa_w pa_nil xa_nil)) xa_cons)) (xd_cb cd_len)) (pa_w pa_nil xa_nil)) xa_cons)) xi_rng1) (blkOk_by (own := [("_law_k", 5)]) (N := ["_law_neck_here", "_law_shape_here", "_law_far", "_law_found", "_law_bad", "_law_k", "_law_place"]) (sc := defScope s_law_slid) (by decide +kernel)) (fun _ _ _ _ _ => (pg_name (i := 5) sc_law_slid.nd rfl (.inl rfl))) (fun _ _ _ _ _ => (pts_one (PW.pt (pw_w (pw_and (pt_w (pt_cmpR op_ge (pe_w (pe_ix ix_lt (pe_w (pv 1) xd_var) (pe_w (pv 5) xd_var) (fun _ _ => rfl)) (xd_op od_ixL)) (pe_w pe_int (xd_c fun _ => .int)) (nomark _)) (xt_cmp od_ge)) (pw_and1 (PW.pt (pw_w (pw_or (pt_w (pt_cmpR (op_eqD hr.units) (pe_w (pe_ix ix_lt (pe_w (pv 1) xd_var) (pe_w (pv 5) xd_var) (fun _ _ => rfl)) (xd_op od_ixL)) (pe_w (pe_ix ix_lt (pe_w (pv 0) xd_var) (pe_w pe_int (xd_c fun _ => .int)) (fun _ _ => rfl)) (xd_op od_ixL)) (nomark _)) (xt_cmp od_eq)) (pw_or1 (pt_w (pt_not (pt_w (pt_chain op_lt op_le (pe_w (pe_ix ix_lt (pe_w (pv 0) xd_var) (pe_w pe_int (xd_c fun _ => .int)) (fun _ _ => rfl)) (xd_op od_ixL)) (pe_w (pe_ix ix_lt (pe_w (pv 3) xd_var) (pe_w (pv 5) xd_var) (fun _ _ => rfl)) (xd_op od_ixL)) (pe_w (pe_ix ix_lt (pe_w (pv 0) xd_var) (pe_w pe_int (xd_c fun _ => .int)) (fun _ _ => rfl)) (xd_op od_ixL))) (xt_chain od_lt od_le))) xt_not))) xt_or)))) xt_and)))) (fun _ _ _ _ _ => (pe_w (pv 5) xd_var))) (xs_asgLc gd_name stores_name)) (pssd_one (ps_w (ps_ret (pe_w (pe_ifExp (pt_w (pt_cmpR (op_eqD hr.units) (pe_w (pv 4) xd_var) (pe_w (pe_lst (pa_w pa_nil xa_nil)) xd_lst) (nomark _)) (xt_cmp od_eq)) (pe_w (pv 3) xd_var) (pe_w pe_non (xd_c fun _ => .non))) xd_if)) xs_ret))))) pure_law_slid
end

/-! ### _law_apart -/
def fars : List Int := 0 :: (List.range 43).map fun k => -21 + (k : Nat)
def isFar (f c : Int) (a b : List Int) (far : Int) : Bool := a.all (okLaw f c far) && decide ((a.map fun p => p + far * (if p ≥ 0 then 1 else 0)) = b)
def lawApart (f c : Int) (a b : List Int) : D := match fars.filter (isFar f c a b) with
  | [] => .none
  | x :: _ => .int x
def f_law_apart : Fd := fun ds R => ∃ t f c a b, ds = [neckD t f c, intsD a, intsD b] ∧ a.length ≤ 1000 ∧ R (lawApart f c a b)
theorem len_law_apart : ∀ ds R, f_law_apart ds R → ds.length = 3 := by
  rintro ds R ⟨t, f, c, a, b, rfl, _⟩; rfl
@[simp] theorem law_apart_iff {t a b : List Int} {f c : Int} {R : D → Prop} : f_law_apart [neckD t f c, intsD a, intsD b] R ↔ a.length ≤ 1000 ∧ R (lawApart f c a b) := by
  constructor
  · rintro ⟨t', f', c', a', b', e, h⟩; simp at e; obtain ⟨⟨rfl, rfl, rfl⟩, rfl, rfl⟩ := e; simpa [and_assoc] using h
  · intro h; exact ⟨_, _, _, _, _, rfl, by simpa [and_assoc] using h⟩
def W_law_apart : WS := (dSeq (dAsg 3 (dN (dLcW (iLst (dOp rdCatL (dLst (aCons (dC (.int 0)) aNil)) (dLstRg (gRg2 (dOp rdSub (dC (.int 0)) (dC (.int 21))) (dC (.int 22)))))) (tgN 4) (bB (dOp rdEq (dCall f_law_slid (aCons (dVar 0) (aCons (dVar 1) (aCons (dVar 4) aNil)))) (dVar 2))) (dVar 4) [4]))) (dRet (dOp rdIx (dOp rdCatL (dVar 3) (dLst (aCons (dC .none) aNil))) (dC (.int 0)))))
def N_law_apart : List Str := ["_law_neck_here", "_law_one", "_law_other", "_law_some", "_law_far"]
theorem sc_law_apart : FnScope ["_law_neck_here", "_law_one", "_law_other", "_law_some", "_law_far"] ["_law_neck_here", "_law_one", "_law_other"] (defScope s_law_apart) := ⟨rfl, rfl, rfl, by decide +kernel, rfl, by decide +kernel, by decide +kernel⟩
theorem isFar_eqv (f c : Int) (a b : List Int) (far : Int) : PyData.eqv (lawSlid f c a far) (intsD b) = isFar f c a b far := by
  unfold lawSlid isFar
  by_cases q : a.all (okLaw f c far) = true
  · rw [if_pos q, q]; simp
  · rw [if_neg q, Bool.eq_false_iff.mpr q]; simp
theorem lawSlid_sh (f c : Int) (a : List Int) (far : Int) : SeqAt.shaped (lawSlid f c a far) = true ∧ lawSlid f c a far ≠ .dict [] := by
  unfold lawSlid
  split
  · simp
  · simp
theorem fars_data : [PyData.int 0] ++ rngD (-21) (22 - -21).toNat = fars.map PyData.int := by
  show PyData.int 0 :: rngD (-21) 43 = _
  unfold fars rngD
  rw [List.map_cons, List.map_map]; rfl
theorem pure_law_apart : ∀ ds R, f_law_apart ds R → W_law_apart { nx := fun _ => R .none, rt := R } (startD ["_law_neck_here", "_law_one", "_law_other", "_law_some", "_law_far"] ds) := by
  rintro ds R ⟨t, f, c, a, b, rfl, hl, h⟩
  have hf := fars_data
  simp at hf
  simp [W_law_apart]
  refine ⟨by unfold RgOk; omega, ?_⟩
  rw [hf]
  refine lcRun_ints (isFar f c a b) (fun x => .int x) fars (fun n hn K k => ?_) ?_
  · simp
    obtain ⟨s1, s2⟩ := lawSlid_sh f c a n
    simp [hl, s1, s2, isFar_eqv]
    by_cases q : isFar f c a b n = true
    · simpa [q] using k
    · simpa [q] using k
  · have hlen : (fars.filter (isFar f c a b)).length ≤ 44 := by
      refine Nat.le_trans (List.length_filter_le _ _) ?_
      simp [fars]
    refine ⟨by simp; omega, ?_⟩
    unfold lawApart at h
    cases q : fars.filter (isFar f c a b) with
    | nil => rw [q] at h; simpa using h
    | cons x l => rw [q] at h; simpa using h
/-! the program's slid and apart are the law's -/
theorem okLaw_eq {f c far p : Int} (c0 : 0 ≤ c) (h : p = -1 ∨ (c ≤ p ∧ p ≤ f)) : okLaw f c far p = stepOk f c far p := by
  unfold okLaw stepOk isPressed isPlace
  rw [Bool.eq_iff_iff]
  simp
  omega
theorem step_eq {far p : Int} {c f : Int} (c0 : 0 ≤ c) (h : p = -1 ∨ (c ≤ p ∧ p ≤ f)) : p + far * (if p ≥ 0 then 1 else 0) = step1 far p := by
  unfold step1
  rcases h with h | h
  · subst h; simp
  · have h1 : p ≥ 0 := by omega
    have h2 : ¬ p = -1 := by omega
    rw [if_pos h1, if_neg h2, Int.mul_one]
theorem all_congr {α : Type} {p q : α → Bool} : ∀ {l : List α}, (∀ x ∈ l, p x = q x) → l.all p = l.all q
  | [], _ => rfl
  | x :: l, h => by rw [List.all_cons, List.all_cons, h x List.mem_cons_self, all_congr fun y hy => h y (List.mem_cons_of_mem _ hy)]
theorem slid_eq {t : List Int} {f c : Int} {s : List Int} (ok : OkNeck t f c) (os : OkShape t f c s) (far : Int) : lawSlid f c s far = slidD f c s far := by
  unfold lawSlid slidD
  rw [all_congr fun p hp => okLaw_eq ok.c0 (os.at_ p hp), List.map_congr_left fun p hp => step_eq ok.c0 (os.at_ p hp)]
theorem first_far {far : Int} : ∀ (a b : List Int), a.map (step1 far) = b → far = firstStep a b ∨ ∀ p ∈ a, p = -1
  | [], _, _ => .inr (by simp)
  | p :: a, b, h => by
    cases b with
    | nil => simp at h
    | cons q b =>
      simp at h
      obtain ⟨h1, h2⟩ := h
      by_cases z : p = -1
      · rcases first_far a b h2 with e | e
        · left; simp [firstStep, z, e]
        · right; intro x hx
          rcases List.mem_cons.mp hx with k | k
          · rw [k]; exact z
          · exact e x k
      · left
        simp [step1, z] at h1
        simp [firstStep, z]
        omega
theorem first_silent : ∀ (a b : List Int), (∀ p ∈ a, p = -1) → firstStep a b = 0
  | [], _, _ => rfl
  | p :: a, b, h => by
    cases b with
    | nil => rfl
    | cons q b =>
      simp [firstStep, h p List.mem_cons_self]
      exact first_silent a b fun x hx => h x (List.mem_cons_of_mem _ hx)
theorem filter_head {p : Int → Bool} {x : Int} : ∀ {l : List Int}, x ∈ l → p x = true → (∀ y ∈ l, p y = true → y = x) → ∃ r, l.filter p = x :: r
  | [], h, _, _ => absurd h (by simp)
  | y :: l, h, hp, hu => by
    by_cases q : p y = true
    · have e := hu y List.mem_cons_self q
      subst e
      exact ⟨l.filter p, by rw [List.filter_cons, if_pos q]⟩
    · rw [List.filter_cons, if_neg q]
      have hx : x ∈ l := by
        rcases List.mem_cons.mp h with z | z
        · rw [z] at hp; exact absurd hp q
        · exact z
      exact filter_head hx hp fun y hy => hu y (List.mem_cons_of_mem _ hy)
theorem apart_eq {t : List Int} {f c : Int} {a b : List Int} (ok : OkNeck t f c) (oa : OkShape t f c a) : lawApart f c a b = apartD f c a b := by
  have ef : ∀ far, isFar f c a b far = (a.all (stepOk f c far) && decide (a.map (step1 far) = b)) := fun far => by
    unfold isFar
    rw [all_congr fun p hp => okLaw_eq ok.c0 (oa.at_ p hp), List.map_congr_left fun p hp => step_eq ok.c0 (oa.at_ p hp)]
  unfold lawApart apartD
  by_cases silent : ∀ p ∈ a, p = -1
  · -- no string sounds: any way is none
    have e0 := first_silent a b silent
    have same : ∀ far, a.map (step1 far) = a := fun far => by
      conv => rhs; rw [← List.map_id a]
      exact List.map_congr_left fun p hp => by simp [step1, silent p hp]
    have okk : ∀ far, a.all (stepOk f c far) = true := fun far => List.all_eq_true.mpr fun p hp => by simp [stepOk, silent p hp]
    have e1 : isFar f c a b = fun _ => decide (a = b) := by
      funext far
      rw [ef, okk, same]; rfl
    rw [e0, okk, same, e1]
    by_cases q : a = b
    · simp [q, fars]
    · rw [show fars.filter (fun _ => decide (a = b)) = [] from List.filter_eq_nil_iff.mpr fun y _ => by simp [q]]
      simp [q]
  · obtain ⟨x, hx, hx1⟩ : ∃ x ∈ a, x ≠ -1 := Classical.byContradiction fun z => silent fun p hp => Classical.byContradiction fun k => z ⟨p, hp, k⟩
    have uniq : ∀ far, isFar f c a b far = true → far = firstStep a b := fun far h => by
      rw [ef] at h
      simp at h
      rcases first_far a b h.2 with e | e
      · exact e
      · exact absurd (e x hx) hx1
    by_cases q : isFar f c a b (firstStep a b) = true
    · have q' := q
      rw [ef, Bool.and_eq_true, decide_eq_true_eq] at q'
      have hin : firstStep a b ∈ fars := by
        have hs := List.all_eq_true.mp q'.1 x hx
        simp [stepOk, hx1, isPressed, isPlace] at hs
        have := ok.f1
        have := ok.c0
        unfold fars
        refine List.mem_cons_of_mem _ (List.mem_map.mpr ⟨(firstStep a b + 21).toNat, List.mem_range.mpr (by omega), by omega⟩)
      obtain ⟨r, hr⟩ := filter_head hin q fun y _ h => uniq y h
      rw [hr, if_pos q']
    · have e : fars.filter (isFar f c a b) = [] := List.filter_eq_nil_iff.mpr fun y _ h => q (by rw [← uniq y h]; exact h)
      rw [e, if_neg]
      intro z
      exact q (by rw [ef, Bool.and_eq_true, decide_eq_true_eq]; exact z)
theorem al_apart (n : Nat) (f c : Int) (a b : List Int) : Al n (lawApart f c a b) := by
  unfold lawApart
  split
  · exact .non
  · exact .int _
theorem al_slid {n : Nat} {f c : Int} {s : List Int} {far : Int} (h : s.length ≤ 1000) : Al (n + 1) (lawSlid f c s far) := by
  unfold lawSlid
  split
  · exact Al.ints (by simp; omega)
  · exact .non
/-- what is slid is a shape again -/
theorem slid_shape {t : List Int} {f c : Int} {s : List Int} {far : Int} (os : OkShape t f c s) (c0 : 0 ≤ c) (h : s.all (okLaw f c far) = true) : OkShape t f c (s.map fun p => p + far * (if p ≥ 0 then 1 else 0)) := by
  refine ⟨by rw [List.length_map]; exact os.len, fun q hq => ?_⟩
  obtain ⟨p, hp, rfl⟩ := List.mem_map.mp hq
  have h1 := List.all_eq_true.mp h p hp
  rcases os.at_ p hp with e | e
  · subst e; simp
  · have z : p ≥ 0 := by omega
    rw [if_pos z, Int.mul_one]
    simp [okLaw] at h1
    omega
section
variable {P : Program} {w : World} {g : Glb} {mg : Str → Option Value} {base : Heap}
theorem ok_law_apart {f : Addr} {fd : FuncData} (F : FunP g.K "_law_apart" s_law_apart f fd) (mgf : mg "_law_apart" = some (.ref f)) (T : Txt mg) (C_law_slid : C8.Cal P w g.K mg base 1 "_law_slid" (spD g f_law_slid) []) : C8.Cal P w g.K mg base 2 "_law_apart" (spD g f_law_apart) [] :=
  calD (N := ["_law_neck_here", "_law_one", "_law_other", "_law_some", "_law_far"]) (ps := ["_law_neck_here", "_law_one", "_law_other"]) (k := 1) (wb := W_law_apart) F mgf (F.bindsN fun _ _ _ _ _ _ us hl => match us, hl with | [_, _, _], _ => rfl) sc_law_apart len_law_apart (fun cdv A outer s H E r a ns hr =>
    (pssd_cons (ps_w (ps_setLc (i := 3) (own := [("_law_far", 4)]) (g := gName 4) rfl sc_law_apart.nd rfl rfl (sw_true rfl rfl rfl (by decide +kernel)) (pi_w (pi_list (pe_w (pe_op op_cat (pe_w (pe_lst (pa_w (pa_cons (pe_w pe_int (xd_c fun _ => .int)) (pa_w pa_nil xa_nil)) xa_cons)) xd_lst) (pe_w (pe_listRg (by rfl) (by rfl) T.m_list (prg_w (prg_2 (by rfl) T.m_range (pe_w (pe_op op_sub (pe_w pe_int (xd_c fun _ => .int)) (pe_w pe_int (xd_c fun _ => .int))) (xd_op od_sub)) (pe_w pe_int (xd_c fun _ => .int))) xg_rg2)) xd_lstRg)) (xd_op od_catL))) xi_list) (blkOk_by (own := [("_law_far", 4)]) (N := ["_law_neck_here", "_law_one", "_law_other", "_law_some", "_law_far"]) (sc := defScope s_law_apart) (by decide +kernel)) (fun _ _ _ _ _ => (pg_name (i := 4) sc_law_apart.nd rfl (.inl rfl))) (fun _ _ _ _ _ => (pts_one (pt_w (pt_cmpR (op_eqD hr.units) (pe_w (C8.pe_c C_law_slid hr (by decide) (by rfl) (pa_w (pa_cons (pe_w (pv 0) xd_var) (pa_w (pa_cons (pe_w (pv 1) xd_var) (pa_w (pa_cons (pe_w (pv 4) xd_var) (pa_w pa_nil xa_nil)) xa_cons)) xa_cons)) xa_cons)) xd_call) (pe_w (pv 2) xd_var) (nomark _)) (xt_cmp od_eq)))) (fun _ _ _ _ _ => (pe_w (pv 4) xd_var))) (xs_asgLc gd_name stores_name)) (pssd_one (ps_w (ps_ret (pe_w (pe_ix ix_lt (pe_w (pe_op op_cat (pe_w (pv 3) xd_var) (pe_w (pe_lst (pa_w (pa_cons (pe_w pe_non (xd_c fun _ => .non)) (pa_w pa_nil xa_nil)) xa_cons)) xd_lst)) (xd_op od_catL)) (pe_w pe_int (xd_c fun _ => .int)) (fun _ _ => rfl)) (xd_op od_ixL))) xs_ret)))) pure_law_apart
end

/-! ### the law of slid and apart -/
def W_law_turn_12 : WS := (dIfS (bNot (bTru (dCall f_law_alike (aCons (dCall f_slid (aCons (dVar 3) (aCons (dVar 4) (aCons (dVar 5) aNil)))) (aCons (dCall f_law_slid (aCons (dVar 3) (aCons (dVar 4) (aCons (dVar 5) aNil)))) aNil))))) (dRet (dC (.bool false))) dNext)
def W_law_turn_11 : WS := (dSeq (dAsg 5 (dOp rdIx (dLst (aCons (dC (.int 0)) (aCons (dOp rdAdd (dOp rdPow (dC (.int 10)) (dC (.int 6))) (dCall f_law_taken (aCons (dVar 1) (aCons (dC (.int 21)) aNil)))) (aCons (dOp rdSub (dOp rdSub (dC (.int 0)) (dOp rdPow (dC (.int 10)) (dC (.int 6)))) (dCall f_law_taken (aCons (dVar 1) (aCons (dC (.int 21)) aNil)))) aNil)))) (dCall f_law_taken (aCons (dVar 1) (aCons (dC (.int 3)) aNil))))) W_law_turn_12)
def W_law_turn_10 : WS := (dSeq (dIfS (bNot (bTru (dCall f_law_alike (aCons (dCall f_apart (aCons (dVar 3) (aCons (dVar 7) (aCons (dVar 4) aNil)))) (aCons (dCall f_law_apart (aCons (dVar 3) (aCons (dVar 7) (aCons (dVar 4) aNil)))) aNil))))) (dRet (dC (.bool false))) dNext) W_law_turn_11)
def W_law_turn_9 : WS := (dSeq (dIfS (bNot (bTru (dCall f_law_alike (aCons (dCall f_apart (aCons (dVar 3) (aCons (dVar 4) (aCons (dVar 7) aNil)))) (aCons (dCall f_law_apart (aCons (dVar 3) (aCons (dVar 4) (aCons (dVar 7) aNil)))) aNil))))) (dRet (dC (.bool false))) dNext) W_law_turn_10)
def W_law_turn_8 : WS := (dSeq (dIfS (bB (dOp rdEq (dCall f_law_taken (aCons (dVar 1) (aCons (dC (.int 4)) aNil))) (dC (.int 3)))) (dSeq (dAsg 8 (dCall f_law_taken (aCons (dVar 1) (aCons (dCall rdLen (aCons (dVar 7) aNil)) aNil)))) (dAsg 7 (dOp rdCatT (dOp rdCatT (dSl (dVar 7) oNone (oSome (dVar 8)) .tuple) (dTup (aCons (dOp rdIx (dLst (aCons (dOp rdSub (dC (.int 0)) (dC (.int 1))) (aCons (dOp rdIx (dVar 3) (dC (.int 1))) aNil))) (dCall f_law_taken (aCons (dVar 1) (aCons (dC (.int 2)) aNil)))) aNil))) (dSl (dVar 7) (oSome (dOp rdAdd (dVar 8) (dC (.int 1)))) oNone .tuple)))) dNext) W_law_turn_9)
def W_law_turn_7 : WS := (dSeq (dIfS (bOr (bB (dIsN (dVar 7))) (bB (dOp rdEq (dCall f_law_taken (aCons (dVar 1) (aCons (dC (.int 4)) aNil))) (dC (.int 3))))) (dAsg 7 (dCall f_law_shape (aCons (dVar 1) (aCons (dVar 3) aNil)))) dNext) W_law_turn_8)
def W_law_turn_6 : WS := (dSeq (dAsg 7 (dVar 6)) W_law_turn_7)
def W_law_turn_5 : WS := (dSeq (dIfS (bNot (bTru (dCall f_law_alike (aCons (dCall f_slid (aCons (dVar 3) (aCons (dVar 4) (aCons (dVar 5) aNil)))) (aCons (dVar 6) aNil))))) (dRet (dC (.bool false))) dNext) W_law_turn_6)
def W_law_turn_4 : WS := (dSeq (dAsg 6 (dCall f_law_slid (aCons (dVar 3) (aCons (dVar 4) (aCons (dVar 5) aNil))))) W_law_turn_5)
def W_law_turn_3 : WS := (dSeq (dAsg 5 (dOp rdSub (dOp rdSub (dCall f_law_taken (aCons (dVar 1) (aCons (dOp rdMul (dC (.int 2)) (dOp rdAdd (dOp rdIx (dVar 3) (dC (.int 1))) (dC (.int 3)))) aNil))) (dOp rdIx (dVar 3) (dC (.int 1)))) (dC (.int 3)))) W_law_turn_4)
def W_law_turn_2 : WS := (dSeq (dIfS (bAnd (bB (dOp rdGt (dCall f_law_taken (aCons (dVar 1) (aCons (dC (.int 3)) aNil))) (dC (.int 0)))) (bB (dOp rdGt (dOp rdIx (dVar 3) (dC (.int 1))) (dOp rdIx (dVar 3) (dC (.int 2)))))) (dAsg 4 (dCall rdTuple (aCons (dN (dLcW (iTpl (dVar 4)) (tgN 9) (fun _ R => R true) (dIf (bB (dOp rdGe (dVar 9) (dC (.int 0)))) (dCall rdMax2 (aCons (dVar 9) (aCons (dOp rdAdd (dOp rdIx (dVar 3) (dC (.int 2))) (dC (.int 1))) aNil))) (dVar 9)) [9])) aNil))) dNext) W_law_turn_3)
def W_law_turn_1 : WS := (dSeq (dAsg 4 (dCall f_law_shape (aCons (dVar 1) (aCons (dVar 3) aNil)))) W_law_turn_2)
def W_law_turn_0 : WS := (dSeq (dAsg 3 (dCall f_law_neck (aCons (dVar 1) (aCons (dC (.int 6)) aNil)))) W_law_turn_1)
def W_law : WS := (dSeq (dFor (iR1 (aCons (dC (.int 6)) aNil)) (tgN 2) W_law_turn_0) (dRet (dC (.bool true))))
def N_law : List Str := ["_law_script", "_law_row", "_law_turn", "_law_neck_here", "_law_shape_here", "_law_far", "_law_due", "_law_other", "_law_k", "_law_place"]
theorem sc_law : FnScope ["_law_script", "_law_row", "_law_turn", "_law_neck_here", "_law_shape_here", "_law_far", "_law_due", "_law_other", "_law_k", "_law_place"] ["_law_script"] (defScope s_law) := ⟨rfl, rfl, rfl, by decide +kernel, rfl, by decide +kernel, by decide +kernel⟩
theorem cut_take (l : List Int) {n : Nat} (h : n < l.length) : cutD (l.map PyData.int) none (some (n : Int)) = (l.take n).map PyData.int := by
  unfold cutD
  rw [HT.sIx_nat, HT.sIx_none, List.length_map, Nat.min_eq_left (Nat.le_of_lt h), List.map_take]
  rfl
theorem cut_drop (l : List Int) {n : Nat} (h : n < l.length) : cutD (l.map PyData.int) (some ((n : Int) + 1)) none = (l.drop (n + 1)).map PyData.int := by
  have z : ((n : Int) + 1) = ((n + 1 : Nat) : Int) := by omega
  unfold cutD
  rw [z, HT.sIx_nat, HT.sIx_none, List.length_map, Nat.min_eq_left h, List.map_drop]
  exact List.take_of_length_le (by simp)
section
variable {De : EndsD} (hn : ∀ a b c d f g h i : Sl, De.nx [.un, .val (.dict []), a, b, c, d, f, g, h, i]) {t : List Int} {f c : Int} (ok : OkNeck t f c)
include hn ok
theorem k03_11 {s : List Int} (os : OkShape t f c s) (x2 x5 x6 x7 x8 x9 : Sl) : W_law_turn_11 De [.un, .val (.dict []), x2, .val (neckD t f c), .val (intsD s), x5, x6, x7, x8, x9] := by
  have hl : s.length ≤ 1000 := by have := os.len; have := ok.l2; omega
  have hp : CPow 10 6 := ⟨by decide, by decide, by decide⟩
  simp [W_law_turn_11, W_law_turn_12, hp]
  intro v h0 h1 u g0 g1 i i0 i1
  obtain ⟨d, e, hd⟩ := atI_in (l := [PyData.int 0, PyData.int (1000000 + v), PyData.int (-1000000 - u)]) i0 (by simpa using i1)
  obtain ⟨far, rfl⟩ : ∃ far : Int, d = .int far := by
    simp at hd
    rcases hd with rfl | rfl | rfl <;> exact ⟨_, rfl⟩
  refine ⟨_, e, ?_⟩
  simp
  exact ⟨ok, os, hl, (slid_eq ok os far).symm, al_slid hl, hn _ _ _ _ _ _ _ _⟩
theorem k03_9 {s o : List Int} (os : OkShape t f c s) (oo : OkShape t f c o) (x2 x5 x6 x8 x9 : Sl) : W_law_turn_9 De [.un, .val (.dict []), x2, .val (neckD t f c), .val (intsD s), x5, x6, .val (intsD o), x8, x9] := by
  have hl : s.length ≤ 1000 := by have := os.len; have := ok.l2; omega
  have hlo : o.length ≤ 1000 := by have := oo.len; have := ok.l2; omega
  simp [W_law_turn_9, W_law_turn_10]
  refine ⟨ok, os, oo, hl, (apart_eq ok os).symm, al_apart _ _ _ _ _, ok, oo, os, hlo, (apart_eq ok oo).symm, al_apart _ _ _ _ _, ?_⟩
  exact k03_11 hn ok os _ _ _ _ _ _
theorem k03_8 {s o : List Int} (os : OkShape t f c s) (oo : OkShape t f c o) (x2 x5 x6 x8 x9 : Sl) : W_law_turn_8 De [.un, .val (.dict []), x2, .val (neckD t f c), .val (intsD s), x5, x6, .val (intsD o), x8, x9] := by
  simp [W_law_turn_8]
  intro v hv0 hv1
  by_cases q : v = 3
  · simp [q]
    have := ok.l1
    have := ok.l2
    have := oo.len
    refine ⟨by omega, by omega, fun k k0 k1 j j0 j1 => ?_⟩
    obtain ⟨n, rfl⟩ : ∃ n : Nat, k = n := ⟨k.toNat, by omega⟩
    have hn' : n < o.length := by omega
    obtain ⟨d, e, hd⟩ := atI_in (l := [PyData.int (-1), PyData.int f]) j0 (by simpa using j1)
    obtain ⟨p, rfl, hp⟩ : ∃ p : Int, d = .int p ∧ (p = -1 ∨ (c ≤ p ∧ p ≤ f)) := by
      simp at hd
      rcases hd with rfl | rfl
      · exact ⟨_, rfl, .inl rfl⟩
      · exact ⟨_, rfl, .inr ⟨ok.c1, Int.le_refl _⟩⟩
    refine ⟨_, e, ?_⟩
    rw [cut_take o hn', cut_drop o hn']
    simp
    refine ⟨by omega, by omega, ?_⟩
    have oo' : OkShape t f c (o.take n ++ p :: o.drop (n + 1)) := by
      refine ⟨by simp; omega, fun q hq => ?_⟩
      rcases List.mem_append.mp hq with h | h
      · exact oo.at_ q (List.mem_of_mem_take h)
      · rcases List.mem_cons.mp h with h | h
        · rw [h]; exact hp
        · exact oo.at_ q (List.mem_of_mem_drop h)
    have := k03_9 hn ok os oo' x2 x5 x6 (.val (.int n)) x9
    simpa [intsD] using this
  · simp [q]
    exact k03_9 hn ok os oo _ _ _ _ _
theorem k03_3 {s : List Int} (os : OkShape t f c s) (x2 x5 x6 x7 x8 x9 : Sl) : W_law_turn_3 De [.un, .val (.dict []), x2, .val (neckD t f c), .val (intsD s), x5, x6, x7, x8, x9] := by
  have hl : s.length ≤ 1000 := by have := os.len; have := ok.l2; omega
  have c0 := ok.c0
  have c1 := ok.c1
  have f1 := ok.f1
  simp [W_law_turn_3, W_law_turn_4, W_law_turn_5, W_law_turn_6]
  refine ⟨.inl (by omega), by omega, by omega, fun v v0 v1 => ⟨hl, ok, os, (slid_eq ok os _).symm, al_slid hl, ?_⟩⟩
  generalize v - f - 3 = far
  simp [W_law_turn_7]
  unfold lawSlid
  by_cases q : s.all (okLaw f c far) = true
  · rw [if_pos q]
    simp
    intro u u0 u1
    by_cases z : u = 3
    · rw [if_pos z]
      exact ⟨ok, fun o oo => k03_8 hn ok os oo _ _ _ _ _⟩
    · rw [if_neg z]
      exact k03_8 hn ok os (slid_shape os c0 q) _ _ _ _ _
  · rw [if_neg q]
    simp
    refine ⟨ok, fun o oo => ?_⟩
    exact k03_8 hn ok os oo _ _ _ _ _
end
theorem k03_turn {De : EndsD} (hn : ∀ a b c d f g h i : Sl, De.nx [.un, .val (.dict []), a, b, c, d, f, g, h, i]) (a b c d f g h i : Sl) : W_law_turn_0 De [.un, .val (.dict []), a, b, c, d, f, g, h, i] := by
  simp [W_law_turn_0, W_law_turn_1]
  intro t f c ok hlen
  refine ⟨ok, fun s os => ?_⟩
  simp [W_law_turn_2]
  intro v v0 v1
  by_cases z : v ≤ 0
  · exact .inl ⟨z, k03_3 hn ok os _ _ _ _ _ _⟩
  · refine .inr ⟨by omega, ?_⟩
    by_cases z : f ≤ c
    · exact .inl ⟨z, k03_3 hn ok os _ _ _ _ _ _⟩
    · have hl : s.length ≤ 1000 := by have := os.len; have := ok.l2; omega
      refine .inr ⟨by omega, by omega, lcRun_ints (fun _ => true) (fun p => .int (if p ≥ 0 then (if c + 1 > p then c + 1 else p) else p)) s (fun p hp K k => ?_) ?_⟩
      · by_cases y : 0 ≤ p
        · simp [y] at k
          simp
          exact .inr ⟨y, k⟩
        · simp [y] at k
          simp
          exact .inl ⟨by omega, k⟩
      · rw [List.filter_eq_self.mpr (by simp)]
        have e : s.map (fun p => PyData.int (if p ≥ 0 then (if c + 1 > p then c + 1 else p) else p)) = (s.map fun p => if p ≥ 0 then (if c + 1 > p then c + 1 else p) else p).map PyData.int := by rw [List.map_map]; rfl
        rw [e]
        refine k03_3 hn ok (s := s.map fun p => if p ≥ 0 then (if c + 1 > p then c + 1 else p) else p) ⟨by simp [os.len], fun q hq => ?_⟩ _ _ _ _ _ _
        obtain ⟨p, hp, rfl⟩ := List.mem_map.mp hq
        have := os.at_ p hp
        have := ok.c0
        split
        · split <;> omega
        · omega
theorem pure_law : W_law { nx := fun _ => False, rt := fun d => d = .bool true } (.un :: .val (.dict []) :: List.replicate 8 .un) := by
  simp [W_law]
  refine forRun_inv (fun _ e => ∃ a b c d f g h i : Sl, e = [.un, .val (.dict []), a, b, c, d, f, g, h, i]) ?_ ?_ _ _ ⟨_, _, _, _, _, _, _, _, rfl⟩
  · rintro d ds e ⟨a, b, c, d, f, g, h, i, rfl⟩ k
    exact k03_turn (fun a b c d f g h i => k _ ⟨a, b, c, d, f, g, h, i, rfl⟩) _ _ _ _ _ _ _ _
  · rintro e ⟨a, b, c, d, f, g, h, i, rfl⟩
    simp
section
variable {P : Program} {w : World} {g : Glb} {mg : Str → Option Value} {base : Heap}
theorem ok_law {f : Addr} {fd : FuncData} (F : FunP g.K "law" s_law f fd) (T : Txt mg) (C_law_neck : C8.Cal P w g.K mg base 2 "_law_neck" (spD g f_law_neck) []) (C_law_shape : C8.Cal P w g.K mg base 2 "_law_shape" (spD g f_law_shape) []) (C_law_slid : C8.Cal P w g.K mg base 1 "_law_slid" (spD g f_law_slid) []) (C_law_alike : C8.Cal P w g.K mg base 4 "_law_alike" (spD g f_law_alike) []) (C_law_taken : C8.Cal P w g.K mg base 1 "_law_taken" (spD g f_law_taken) []) (C_slid : C8.Cal P w g.K mg base 4 "slid" (spD g f_slid) []) (C_apart : C8.Cal P w g.K mg base 4 "apart" (spD g f_apart) []) (C_law_apart : C8.Cal P w g.K mg base 2 "_law_apart" (spD g f_law_apart) []) : FnOk P w g.K mg base CX0 6 f fd ["_law_script"] (spLaw g) := by
  refine F.ok (k := 5) sc_law (fun vs H Q E h => ?_) (fun cdv A outer s H vs Q E hr h => ?_)
  · obtain ⟨a, ns, rfl, _⟩ := h
    rfl
  · obtain ⟨a, ns, rfl, hP, hs, k⟩ := h
    refine ⟨_, PSs.nox (pss_cons (ps_set (i := 1) sc_law.nd rfl (.inl rfl) (pe_lst (pa_cons (pv 0) (pa_cons pe_int (pa_cons pe_int (pa_cons pe_int pa_nil)))))) (pss_any (g := g) (E := E) (w := W_law) fun r a ns =>
      (pssd_cons (ps_w (ps_for (g := gName 2) PassesOwn.never rfl (pi_w (pi_range1 (by rfl) T.m_range (pa_w (pa_cons (pe_w pe_int (xd_c fun _ => .int)) (pa_w pa_nil xa_nil)) xa_cons)) xi_rng1) (pg_name (i := 2) sc_law.nd rfl (.inl rfl)) (pssd_cons (ps_w (ps_set (i := 3) sc_law.nd rfl (.inr rfl) (pe_w (C8.pe_c C_law_neck hr (by decide) (by rfl) (pa_w (pa_cons (pe_w (pv 1) xd_var) (pa_w (pa_cons (pe_w pe_int (xd_c fun _ => .int)) (pa_w pa_nil xa_nil)) xa_cons)) xa_cons)) xd_call)) xs_asg) (pssd_cons (ps_w (ps_set (i := 4) sc_law.nd rfl (.inl rfl) (pe_w (C8.pe_c C_law_shape hr (by decide) (by rfl) (pa_w (pa_cons (pe_w (pv 1) xd_var) (pa_w (pa_cons (pe_w (pv 3) xd_var) (pa_w pa_nil xa_nil)) xa_cons)) xa_cons)) xd_call)) xs_asg) (pssd_cons (ps_w (ps_if (PW.pt (pw_w (pw_and (pt_w (pt_cmpR op_gt (pe_w (C8.pe_c C_law_taken hr (by decide) (by rfl) (pa_w (pa_cons (pe_w (pv 1) xd_var) (pa_w (pa_cons (pe_w pe_int (xd_c fun _ => .int)) (pa_w pa_nil xa_nil)) xa_cons)) xa_cons)) xd_call) (pe_w pe_int (xd_c fun _ => .int)) (nomark _)) (xt_cmp od_gt)) (pw_and1 (pt_w (pt_cmpR op_gt (pe_w (pe_ix ix_lt (pe_w (pv 3) xd_var) (pe_w pe_int (xd_c fun _ => .int)) (fun _ _ => rfl)) (xd_op od_ixL)) (pe_w (pe_ix ix_lt (pe_w (pv 3) xd_var) (pe_w pe_int (xd_c fun _ => .int)) (fun _ _ => rfl)) (xd_op od_ixL)) (nomark _)) (xt_cmp od_gt)))) xt_and)) (pssd_one (ps_w (ps_set (i := 4) sc_law.nd rfl (.inl rfl) (pe_w (pe_callTy call_tuple_of (by rfl) T.m_tuple (by decide +kernel) (pa_w (pa_cons (pe_w (pe_w (pe_lc (own := [("_law_place", 9)]) (g := gName 9) rfl sc_law.nd (pi_w (pi_tup (pe_w (pv 4) xd_var)) xi_tup) (blkOk_by (own := [("_law_place", 9)]) (N := ["_law_script", "_law_row", "_law_turn", "_law_neck_here", "_law_shape_here", "_law_far", "_law_due", "_law_other", "_law_k", "_law_place"]) (sc := defScope s_law) (by decide +kernel)) (fun _ _ _ _ _ => (pg_name (i := 9) sc_law.nd rfl (.inl rfl))) (fun _ _ _ _ _ => (pts_w pts_nil xt_yes)) (fun _ _ _ _ _ => (pe_w (pe_ifExp (pt_w (pt_cmpR op_ge (pe_w (pv 9) xd_var) (pe_w pe_int (xd_c fun _ => .int)) (nomark _)) (xt_cmp od_ge)) (pe_w (pe_callB (call_max2 (by rfl)) (by rfl) T.m_max (by decide +kernel) (pa_w (pa_cons (pe_w (pv 9) xd_var) (pa_w (pa_cons (pe_w (pe_op op_add (pe_w (pe_ix ix_lt (pe_w (pv 3) xd_var) (pe_w pe_int (xd_c fun _ => .int)) (fun _ _ => rfl)) (xd_op od_ixL)) (pe_w pe_int (xd_c fun _ => .int))) (xd_op od_add)) (pa_w pa_nil xa_nil)) xa_cons)) xa_cons)) (xd_cb cd_max2)) (pe_w (pv 9) xd_var)) xd_if))) (xn_lc gd_name stores_name)) xd_N) (pa_w pa_nil xa_nil)) xa_cons)) (xd_cb cd_tuple))) xs_asg)) pssd_nil) xs_if) (pssd_cons (ps_w (ps_set (i := 5) sc_law.nd rfl (.inl rfl) (pe_w (pe_op op_sub (pe_w (pe_op op_sub (pe_w (C8.pe_c C_law_taken hr (by decide) (by rfl) (pa_w (pa_cons (pe_w (pv 1) xd_var) (pa_w (pa_cons (pe_w (pe_op op_mul (pe_w pe_int (xd_c fun _ => .int)) (pe_w (pe_op op_add (pe_w (pe_ix ix_lt (pe_w (pv 3) xd_var) (pe_w pe_int (xd_c fun _ => .int)) (fun _ _ => rfl)) (xd_op od_ixL)) (pe_w pe_int (xd_c fun _ => .int))) (xd_op od_add))) (xd_op od_mul)) (pa_w pa_nil xa_nil)) xa_cons)) xa_cons)) xd_call) (pe_w (pe_ix ix_lt (pe_w (pv 3) xd_var) (pe_w pe_int (xd_c fun _ => .int)) (fun _ _ => rfl)) (xd_op od_ixL))) (xd_op od_sub)) (pe_w pe_int (xd_c fun _ => .int))) (xd_op od_sub))) xs_asg) (pssd_cons (ps_w (ps_set (i := 6) sc_law.nd rfl (.inl rfl) (pe_w (C8.pe_c C_law_slid hr (by decide) (by rfl) (pa_w (pa_cons (pe_w (pv 3) xd_var) (pa_w (pa_cons (pe_w (pv 4) xd_var) (pa_w (pa_cons (pe_w (pv 5) xd_var) (pa_w pa_nil xa_nil)) xa_cons)) xa_cons)) xa_cons)) xd_call)) xs_asg) (pssd_cons (ps_w (ps_if (pt_w (pt_not (pt_w (pt_truth (pe_w (C8.pe_c C_law_alike hr (by decide) (by rfl) (pa_w (pa_cons (pe_w (C8.pe_c C_slid hr (by decide) (by rfl) (pa_w (pa_cons (pe_w (pv 3) xd_var) (pa_w (pa_cons (pe_w (pv 4) xd_var) (pa_w (pa_cons (pe_w (pv 5) xd_var) (pa_w pa_nil xa_nil)) xa_cons)) xa_cons)) xa_cons)) xd_call) (pa_w (pa_cons (pe_w (pv 6) xd_var) (pa_w pa_nil xa_nil)) xa_cons)) xa_cons)) xd_call) (by intro _; rfl)) xt_tru)) xt_not) (pssd_one (ps_w (ps_ret (pe_w pe_bl (xd_c fun _ => .bl))) xs_ret)) pssd_nil) xs_if) (pssd_cons (ps_w (ps_set (i := 7) sc_law.nd rfl (.inl rfl) (pe_w (pv 6) xd_var)) xs_asg) (pssd_cons (ps_w (ps_if (PW.pt (pw_w (pw_or (pt_w (pt_cmp (pc_isN (pe_w (pv 7) xd_var))) xt_isN) (pw_or1 (pt_w (pt_cmpR (op_eqD hr.units) (pe_w (C8.pe_c C_law_taken hr (by decide) (by rfl) (pa_w (pa_cons (pe_w (pv 1) xd_var) (pa_w (pa_cons (pe_w pe_int (xd_c fun _ => .int)) (pa_w pa_nil xa_nil)) xa_cons)) xa_cons)) xd_call) (pe_w pe_int (xd_c fun _ => .int)) (nomark _)) (xt_cmp od_eq)))) xt_or)) (pssd_one (ps_w (ps_set (i := 7) sc_law.nd rfl (.inl rfl) (pe_w (C8.pe_c C_law_shape hr (by decide) (by rfl) (pa_w (pa_cons (pe_w (pv 1) xd_var) (pa_w (pa_cons (pe_w (pv 3) xd_var) (pa_w pa_nil xa_nil)) xa_cons)) xa_cons)) xd_call)) xs_asg)) pssd_nil) xs_if) (pssd_cons (ps_w (ps_if (pt_w (pt_cmpR (op_eqD hr.units) (pe_w (C8.pe_c C_law_taken hr (by decide) (by rfl) (pa_w (pa_cons (pe_w (pv 1) xd_var) (pa_w (pa_cons (pe_w pe_int (xd_c fun _ => .int)) (pa_w pa_nil xa_nil)) xa_cons)) xa_cons)) xd_call) (pe_w pe_int (xd_c fun _ => .int)) (nomark _)) (xt_cmp od_eq)) (pssd_cons (ps_w (ps_set (i := 8) sc_law.nd rfl (.inl rfl) (pe_w (C8.pe_c C_law_taken hr (by decide) (by rfl) (pa_w (pa_cons (pe_w (pv 1) xd_var) (pa_w (pa_cons (pe_w (pe_callB call_len_seq (by rfl) T.m_len PySem.boot_len (pa_w (pa_cons (pe_w (pv 7) xd_var) (pa_w pa_nil xa_nil)) xa_cons)) (xd_cb cd_len)) (pa_w pa_nil xa_nil)) xa_cons)) xa_cons)) xd_call)) xs_asg) (pssd_one (ps_w (ps_set (i := 7) sc_law.nd rfl (.inl rfl) (pe_w (pe_op op_catA (pe_w (pe_op op_catA (pe_w (pe_slice sl_tupA (pe_w (pv 7) xd_var) (po_w po_none xo_none) (po_w (po_some (pe_w (pv 8) xd_var)) xo_some)) xd_slT) (pe_w (pe_tup (pa_w (pa_cons (pe_w (pe_ix ix_lt (pe_w (pe_lst (pa_w (pa_cons (pe_w (pe_op op_sub (pe_w pe_int (xd_c fun _ => .int)) (pe_w pe_int (xd_c fun _ => .int))) (xd_op od_sub)) (pa_w (pa_cons (pe_w (pe_ix ix_lt (pe_w (pv 3) xd_var) (pe_w pe_int (xd_c fun _ => .int)) (fun _ _ => rfl)) (xd_op od_ixL)) (pa_w pa_nil xa_nil)) xa_cons)) xa_cons)) xd_lst) (pe_w (C8.pe_c C_law_taken hr (by decide) (by rfl) (pa_w (pa_cons (pe_w (pv 1) xd_var) (pa_w (pa_cons (pe_w pe_int (xd_c fun _ => .int)) (pa_w pa_nil xa_nil)) xa_cons)) xa_cons)) xd_call) (fun _ _ => rfl)) (xd_op od_ixL)) (pa_w pa_nil xa_nil)) xa_cons)) xd_tup)) (xd_op od_catT)) (pe_w (pe_slice sl_tupA (pe_w (pv 7) xd_var) (po_w (po_some (pe_w (pe_op op_add (pe_w (pv 8) xd_var) (pe_w pe_int (xd_c fun _ => .int))) (xd_op od_add))) xo_some) (po_w po_none xo_none)) xd_slT)) (xd_op od_catT))) xs_asg))) pssd_nil) xs_if) (pssd_cons (ps_w (ps_if (pt_w (pt_not (pt_w (pt_truth (pe_w (C8.pe_c C_law_alike hr (by decide) (by rfl) (pa_w (pa_cons (pe_w (C8.pe_c C_apart hr (by decide) (by rfl) (pa_w (pa_cons (pe_w (pv 3) xd_var) (pa_w (pa_cons (pe_w (pv 4) xd_var) (pa_w (pa_cons (pe_w (pv 7) xd_var) (pa_w pa_nil xa_nil)) xa_cons)) xa_cons)) xa_cons)) xd_call) (pa_w (pa_cons (pe_w (C8.pe_c C_law_apart hr (by decide) (by rfl) (pa_w (pa_cons (pe_w (pv 3) xd_var) (pa_w (pa_cons (pe_w (pv 4) xd_var) (pa_w (pa_cons (pe_w (pv 7) xd_var) (pa_w pa_nil xa_nil)) xa_cons)) xa_cons)) xa_cons)) xd_call) (pa_w pa_nil xa_nil)) xa_cons)) xa_cons)) xd_call) (by intro _; rfl)) xt_tru)) xt_not) (pssd_one (ps_w (ps_ret (pe_w pe_bl (xd_c fun _ => .bl))) xs_ret)) pssd_nil) xs_if) (pssd_cons (ps_w (ps_if (pt_w (pt_not (pt_w (pt_truth (pe_w (C8.pe_c C_law_alike hr (by decide) (by rfl) (pa_w (pa_cons (pe_w (C8.pe_c C_apart hr (by decide) (by rfl) (pa_w (pa_cons (pe_w (pv 3) xd_var) (pa_w (pa_cons (pe_w (pv 7) xd_var) (pa_w (pa_cons (pe_w (pv 4) xd_var) (pa_w pa_nil xa_nil)) xa_cons)) xa_cons)) xa_cons)) xd_call) (pa_w (pa_cons (pe_w (C8.pe_c C_law_apart hr (by decide) (by rfl) (pa_w (pa_cons (pe_w (pv 3) xd_var) (pa_w (pa_cons (pe_w (pv 7) xd_var) (pa_w (pa_cons (pe_w (pv 4) xd_var) (pa_w pa_nil xa_nil)) xa_cons)) xa_cons)) xa_cons)) xd_call) (pa_w pa_nil xa_nil)) xa_cons)) xa_cons)) xd_call) (by intro _; rfl)) xt_tru)) xt_not) (pssd_one (ps_w (ps_ret (pe_w pe_bl (xd_c fun _ => .bl))) xs_ret)) pssd_nil) xs_if) (pssd_cons (ps_w (ps_set (i := 5) sc_law.nd rfl (.inl rfl) (pe_w (pe_ix ix_lt (pe_w (pe_lst (pa_w (pa_cons (pe_w pe_int (xd_c fun _ => .int)) (pa_w (pa_cons (pe_w (pe_op op_add (pe_w (pe_op op_pow (pe_w pe_int (xd_c fun _ => .int)) (pe_w pe_int (xd_c fun _ => .int))) (xd_op od_pow)) (pe_w (C8.pe_c C_law_taken hr (by decide) (by rfl) (pa_w (pa_cons (pe_w (pv 1) xd_var) (pa_w (pa_cons (pe_w pe_int (xd_c fun _ => .int)) (pa_w pa_nil xa_nil)) xa_cons)) xa_cons)) xd_call)) (xd_op od_add)) (pa_w (pa_cons (pe_w (pe_op op_sub (pe_w (pe_op op_sub (pe_w pe_int (xd_c fun _ => .int)) (pe_w (pe_op op_pow (pe_w pe_int (xd_c fun _ => .int)) (pe_w pe_int (xd_c fun _ => .int))) (xd_op od_pow))) (xd_op od_sub)) (pe_w (C8.pe_c C_law_taken hr (by decide) (by rfl) (pa_w (pa_cons (pe_w (pv 1) xd_var) (pa_w (pa_cons (pe_w pe_int (xd_c fun _ => .int)) (pa_w pa_nil xa_nil)) xa_cons)) xa_cons)) xd_call)) (xd_op od_sub)) (pa_w pa_nil xa_nil)) xa_cons)) xa_cons)) xa_cons)) xd_lst) (pe_w (C8.pe_c C_law_taken hr (by decide) (by rfl) (pa_w (pa_cons (pe_w (pv 1) xd_var) (pa_w (pa_cons (pe_w pe_int (xd_c fun _ => .int)) (pa_w pa_nil xa_nil)) xa_cons)) xa_cons)) xd_call) (fun _ _ => rfl)) (xd_op od_ixL))) xs_asg) (pssd_one (ps_w (ps_if (pt_w (pt_not (pt_w (pt_truth (pe_w (C8.pe_c C_law_alike hr (by decide) (by rfl) (pa_w (pa_cons (pe_w (C8.pe_c C_slid hr (by decide) (by rfl) (pa_w (pa_cons (pe_w (pv 3) xd_var) (pa_w (pa_cons (pe_w (pv 4) xd_var) (pa_w (pa_cons (pe_w (pv 5) xd_var) (pa_w pa_nil xa_nil)) xa_cons)) xa_cons)) xa_cons)) xd_call) (pa_w (pa_cons (pe_w (C8.pe_c C_law_slid hr (by decide) (by rfl) (pa_w (pa_cons (pe_w (pv 3) xd_var) (pa_w (pa_cons (pe_w (pv 4) xd_var) (pa_w (pa_cons (pe_w (pv 5) xd_var) (pa_w pa_nil xa_nil)) xa_cons)) xa_cons)) xa_cons)) xd_call) (pa_w pa_nil xa_nil)) xa_cons)) xa_cons)) xd_call) (by intro _; rfl)) xt_tru)) xt_not) (pssd_one (ps_w (ps_ret (pe_w pe_bl (xd_c fun _ => .bl))) xs_ret)) pssd_nil) xs_if))))))))))))))) (xs_for gd_name)) (pssd_one (ps_w (ps_ret (pe_w pe_bl (xd_c fun _ => .bl))) xs_ret))))), ?_⟩
    exact ⟨_, rfl, len_le (by show 4 ≤ 1000000; decide), law_start (n := 8) hP hs k pure_law⟩
end

end FW
namespace FW
open PySem PySem.Spec PyProof.Rows L2
def d_all_within : He.DefD := ⟨("all_within", none), "all_within", "all_within", defArgs s_all_within, defBody s_all_within, defScope s_all_within, [], []⟩
def d_is_place : He.DefD := ⟨("is_place", none), "is_place", "is_place", defArgs s_is_place, defBody s_is_place, defScope s_is_place, [], []⟩
def d_check_neck : He.DefD := ⟨("check_neck", none), "check_neck", "check_neck", defArgs s_check_neck, defBody s_check_neck, defScope s_check_neck, [], []⟩
def d_check_shape : He.DefD := ⟨("check_shape", none), "check_shape", "check_shape", defArgs s_check_shape, defBody s_check_shape, defScope s_check_shape, [], []⟩
def d_slid : He.DefD := ⟨("slid", none), "slid", "slid", defArgs s_slid, defBody s_slid, defScope s_slid, [], []⟩
def d_apart : He.DefD := ⟨("apart", none), "apart", "apart", defArgs s_apart, defBody s_apart, defScope s_apart, [], []⟩
def d_is_pressed : He.DefD := ⟨("_is_pressed", none), "_is_pressed", "_is_pressed", defArgs s_is_pressed, defBody s_is_pressed, defScope s_is_pressed, [], []⟩
def d_moved : He.DefD := ⟨("_moved", none), "_moved", "_moved", defArgs s_moved, defBody s_moved, defScope s_moved, [], []⟩
def d_first_step : He.DefD := ⟨("_first_step", none), "_first_step", "_first_step", defArgs s_first_step, defBody s_first_step, defScope s_first_step, [], []⟩
def d_law_taken : He.DefD := ⟨("_law_taken", none), "_law_taken", "_law_taken", defArgs s_law_taken, defBody s_law_taken, defScope s_law_taken, [], []⟩
def d_law_alike : He.DefD := ⟨("_law_alike", none), "_law_alike", "_law_alike", defArgs s_law_alike, defBody s_law_alike, defScope s_law_alike, [], []⟩
def d_law_neck : He.DefD := ⟨("_law_neck", none), "_law_neck", "_law_neck", defArgs s_law_neck, defBody s_law_neck, defScope s_law_neck, [], []⟩
def d_law_places : He.DefD := ⟨("_law_places", none), "_law_places", "_law_places", defArgs s_law_places, defBody s_law_places, defScope s_law_places, [], []⟩
def d_law_shape : He.DefD := ⟨("_law_shape", none), "_law_shape", "_law_shape", defArgs s_law_shape, defBody s_law_shape, defScope s_law_shape, [], []⟩
def d_law_hand : He.DefD := ⟨("_law_hand", none), "_law_hand", "_law_hand", defArgs s_law_hand, defBody s_law_hand, defScope s_law_hand, [], []⟩
def d_law_sounds : He.DefD := ⟨("_law_sounds", none), "_law_sounds", "_law_sounds", defArgs s_law_sounds, defBody s_law_sounds, defScope s_law_sounds, [], []⟩
def d_law_slid : He.DefD := ⟨("_law_slid", none), "_law_slid", "_law_slid", defArgs s_law_slid, defBody s_law_slid, defScope s_law_slid, [], []⟩
def d_law_apart : He.DefD := ⟨("_law_apart", none), "_law_apart", "_law_apart", defArgs s_law_apart, defBody s_law_apart, defScope s_law_apart, [], []⟩
def d_law : He.DefD := ⟨("law", none), "law", "law", defArgs s_law, defBody s_law, defScope s_law, [], []⟩
def fnL : List He.DefD := [d_all_within, d_is_place, d_check_neck, d_check_shape, d_slid, d_apart, d_is_pressed, d_moved, d_first_step, d_law_taken, d_law_alike, d_law_neck, d_law_places, d_law_shape, d_law_hand, d_law_sounds, d_law_slid, d_law_apart, d_law]
def faL : List He.Fa := [.glo "all_within", .glo "is_place", .glo "check_neck", .glo "check_shape", .glo "slid", .glo "apart", .glo "_is_pressed", .glo "_moved", .glo "_first_step", .glo "_law_taken", .glo "_law_alike", .glo "_law_neck", .glo "_law_places", .glo "_law_shape", .glo "_law_hand", .glo "_law_sounds", .glo "_law_slid", .glo "_law_apart", .glo "law", .glo "NeckError", .glo "BadNeck", .glo "BadShape", .free "all", .free "len", .free "range", .free "tuple", .free "list", .free "zip", .free "min", .free "max", .free "isinstance", .free "int", .free "str", .free "bool", .free "ValueError", .int "SILENT" (-1), .int "MOST_STRINGS" (6), .int "HIGHEST_TUNING" (60), .int "MOST_FRETS" (20)]
def tfL : List He.Defn := [("all_within", none)]
def exL : PySem.W.Frag → Bool := fun _ => true
abbrev R : PySem.W.OpenRow := PySem.W.OpenLaw.row PySem.Challenge.rw_fretways_k03_shapes_slid
abbrev hk : PySem.W.Hook := He.hookX 4 faL fnL [] tfL exL
def ob (s : PySem.W.SharedT) : He.AlX := He.obsX 4 faL fnL [] tfL exL (HandSHeadRun.getT s)
theorem ob_eq (s : PySem.W.SharedT) : ob s = hk.obs s.abs := He.obsX_eq (HandSHeadRun.getT_eq s)
def looseL : List PySem.Str := ["NeckError", "BadNeck", "BadShape", "SILENT", "MOST_STRINGS", "HIGHEST_TUNING", "MOST_FRETS", "all_within", "is_place", "check_neck", "check_shape", "slid", "apart", "_is_pressed", "_moved", "_first_step", "_law_taken", "_law_alike", "_law_neck", "_law_places", "_law_shape", "_law_hand", "_law_sounds", "_law_slid", "_law_apart"]
theorem run (w : World) : HandSHeadRun.RunEq R (PySem.W.view R.prog [29]) hk ob 4000 looseL w := by
  intro os
  kernel_rfl
section
variable {P : Program} {w : World} {K : PySem.W.Frag} {h : Heap} {mg : Str → Option Value}
theorem txt_ok (X : K.In h) (G : h.Ns mainGlobals mg) (c : He.SaysD faL fnL K) : Txt mg :=
  ⟨He.free_ok X G (He.SaysD.fact (f := .free "all") c 22 (by rfl)), He.free_ok X G (He.SaysD.fact (f := .free "len") c 23 (by rfl)), He.free_ok X G (He.SaysD.fact (f := .free "range") c 24 (by rfl)), He.free_ok X G (He.SaysD.fact (f := .free "tuple") c 25 (by rfl)), He.free_ok X G (He.SaysD.fact (f := .free "list") c 26 (by rfl)), He.free_ok X G (He.SaysD.fact (f := .free "zip") c 27 (by rfl)), He.free_ok X G (He.SaysD.fact (f := .free "min") c 28 (by rfl)), He.free_ok X G (He.SaysD.fact (f := .free "max") c 29 (by rfl)), He.free_ok X G (He.SaysD.fact (f := .free "isinstance") c 30 (by rfl)), He.free_ok X G (He.SaysD.fact (f := .free "int") c 31 (by rfl)), He.free_ok X G (He.SaysD.fact (f := .free "str") c 32 (by rfl)), He.free_ok X G (He.SaysD.fact (f := .free "bool") c 33 (by rfl)), He.free_ok X G (He.SaysD.fact (f := .free "ValueError") c 34 (by rfl)), He.int_ok X G (He.SaysD.fact (f := .int "SILENT" (-1)) c 35 (by rfl)), He.int_ok X G (He.SaysD.fact (f := .int "MOST_STRINGS" (6)) c 36 (by rfl)), He.int_ok X G (He.SaysD.fact (f := .int "HIGHEST_TUNING" (60)) c 37 (by rfl)), He.int_ok X G (He.SaysD.fact (f := .int "MOST_FRETS" (20)) c 38 (by rfl)), trivial⟩
def cs (K : PySem.W.Frag) : List (Addr × Addr) := tfL.map (He.cT K)
def glb (K : PySem.W.Frag) : Glb := ⟨K, (cs K).map (·.2), He.ga K⟩
theorem law_at (X : K.In h) (G : h.Ns mainGlobals mg) {fa : Addr} (hfa : mg ("law" : Str) = some (.ref fa)) (c : He.SaysX faL fnL [] tfL exL w h K) : LamX.LawAtS PySem.Challenge.rw_fretways_k03_shapes_slid w K CX0 6 63 "_law_script" mg fa h := by
  have cd := c.t.d
  have e := hfa.symm.trans (He.glo_ok X G (He.SaysD.fact (f := .glo "law") cd 18 (by rfl)))
  cases e
  have T := txt_ok X G cd
  obtain ⟨fd_all_within, F_all_within⟩ := cd.defs (d := d_all_within) (by simp only [fnL, List.mem_cons, true_or, or_true])
  obtain ⟨fd_is_place, F_is_place⟩ := cd.defs (d := d_is_place) (by simp only [fnL, List.mem_cons, true_or, or_true])
  obtain ⟨fd_check_neck, F_check_neck⟩ := cd.defs (d := d_check_neck) (by simp only [fnL, List.mem_cons, true_or, or_true])
  obtain ⟨fd_check_shape, F_check_shape⟩ := cd.defs (d := d_check_shape) (by simp only [fnL, List.mem_cons, true_or, or_true])
  obtain ⟨fd_is_pressed, F_is_pressed⟩ := cd.defs (d := d_is_pressed) (by simp only [fnL, List.mem_cons, true_or, or_true])
  obtain ⟨fd_moved, F_moved⟩ := cd.defs (d := d_moved) (by simp only [fnL, List.mem_cons, true_or, or_true])
  obtain ⟨fd_first_step, F_first_step⟩ := cd.defs (d := d_first_step) (by simp only [fnL, List.mem_cons, true_or, or_true])
  obtain ⟨fd_slid, F_slid⟩ := cd.defs (d := d_slid) (by simp only [fnL, List.mem_cons, true_or, or_true])
  obtain ⟨fd_apart, F_apart⟩ := cd.defs (d := d_apart) (by simp only [fnL, List.mem_cons, true_or, or_true])
  obtain ⟨fd_law_taken, F_law_taken⟩ := cd.defs (d := d_law_taken) (by simp only [fnL, List.mem_cons, true_or, or_true])
  obtain ⟨fd_law_alike, F_law_alike⟩ := cd.defs (d := d_law_alike) (by simp only [fnL, List.mem_cons, true_or, or_true])
  obtain ⟨fd_law_neck, F_law_neck⟩ := cd.defs (d := d_law_neck) (by simp only [fnL, List.mem_cons, true_or, or_true])
  obtain ⟨fd_law_shape, F_law_shape⟩ := cd.defs (d := d_law_shape) (by simp only [fnL, List.mem_cons, true_or, or_true])
  obtain ⟨fd_law_slid, F_law_slid⟩ := cd.defs (d := d_law_slid) (by simp only [fnL, List.mem_cons, true_or, or_true])
  obtain ⟨fd_law_apart, F_law_apart⟩ := cd.defs (d := d_law_apart) (by simp only [fnL, List.mem_cons, true_or, or_true])
  obtain ⟨fd_law, F_law⟩ := cd.defs (d := d_law) (by simp only [fnL, List.mem_cons, true_or, or_true])
  have b := FunD.bindsA (ps := ["_law_script"]) F_law fun _ _ _ _ _ _ us hl => match us, hl with | [_], _ => rfl
  refine ⟨fd_law, cs K, spLaw (glb K), fun p hp => ?_, fun p hp => ?_, fun p hp => ?_, fun s v => b s [v] rfl, fun H a ns _ _ hP hS => ⟨a, ns, rfl, fun P hp => ?_, hS, fun _ => rfl⟩, fun base _ _ TB => ?_⟩
  · obtain ⟨q, hq, rfl⟩ := List.mem_map.mp hp
    exact c.empty q hq
  · obtain ⟨q, hq, rfl⟩ := List.mem_map.mp hp
    exact c.out q hq
  · obtain ⟨q, hq, rfl⟩ := List.mem_map.mp hp
    exact PySem.W.codeHd_of_K X (c.hd q hq)
  · obtain ⟨q, hq, rfl⟩ := List.mem_map.mp hp
    exact hP q hq
  have tb_all_within : He.cT K ("all_within", none) ∈ cs K := List.mem_map.mpr ⟨_, by simp only [tfL, List.mem_cons, true_or, or_true], rfl⟩
  have C_all_within := ok_all_within (P := PySem.Challenge.rw_fretways_k03_shapes_slid.prog) (w := w) (g := glb K) (mg := mg) (base := base) F_all_within (He.glo_ok X G (He.SaysD.fact (f := .glo "all_within") cd 0 (by rfl))) T ⟨(TB _ tb_all_within).code, (TB _ tb_all_within).bm, (TB _ tb_all_within).gP⟩ (List.mem_map.mpr ⟨_, tb_all_within, rfl⟩)
  have C_is_place := ok_is_place (P := PySem.Challenge.rw_fretways_k03_shapes_slid.prog) (w := w) (g := glb K) (mg := mg) (base := base) F_is_place (He.glo_ok X G (He.SaysD.fact (f := .glo "is_place") cd 1 (by rfl))) T
  have C_check_neck := ok_check_neck (P := PySem.Challenge.rw_fretways_k03_shapes_slid.prog) (w := w) (g := glb K) (mg := mg) (base := base) F_check_neck (He.glo_ok X G (He.SaysD.fact (f := .glo "check_neck") cd 2 (by rfl))) T C_all_within
  have C_check_shape := ok_check_shape (P := PySem.Challenge.rw_fretways_k03_shapes_slid.prog) (w := w) (g := glb K) (mg := mg) (base := base) F_check_shape (He.glo_ok X G (He.SaysD.fact (f := .glo "check_shape") cd 3 (by rfl))) T C_is_place
  have C_is_pressed := ok_is_pressed (P := PySem.Challenge.rw_fretways_k03_shapes_slid.prog) (w := w) (g := glb K) (mg := mg) (base := base) F_is_pressed (He.glo_ok X G (He.SaysD.fact (f := .glo "_is_pressed") cd 6 (by rfl))) T C_is_place
  have C_moved := ok_moved (P := PySem.Challenge.rw_fretways_k03_shapes_slid.prog) (w := w) (g := glb K) (mg := mg) (base := base) F_moved (He.glo_ok X G (He.SaysD.fact (f := .glo "_moved") cd 7 (by rfl))) T C_is_pressed
  have C_first_step := ok_first_step (P := PySem.Challenge.rw_fretways_k03_shapes_slid.prog) (w := w) (g := glb K) (mg := mg) (base := base) F_first_step (He.glo_ok X G (He.SaysD.fact (f := .glo "_first_step") cd 8 (by rfl))) T
  have C_slid := ok_slid (P := PySem.Challenge.rw_fretways_k03_shapes_slid.prog) (w := w) (g := glb K) (mg := mg) (base := base) F_slid (He.glo_ok X G (He.SaysD.fact (f := .glo "slid") cd 4 (by rfl))) T C_check_neck C_check_shape C_moved
  have C_apart := ok_apart (P := PySem.Challenge.rw_fretways_k03_shapes_slid.prog) (w := w) (g := glb K) (mg := mg) (base := base) F_apart (He.glo_ok X G (He.SaysD.fact (f := .glo "apart") cd 5 (by rfl))) T C_check_neck C_check_shape C_first_step C_moved
  have C_law_taken := ok_law_taken (P := PySem.Challenge.rw_fretways_k03_shapes_slid.prog) (w := w) (g := glb K) (mg := mg) (base := base) F_law_taken (He.glo_ok X G (He.SaysD.fact (f := .glo "_law_taken") cd 9 (by rfl))) T
  have C_law_alike := ok_law_alike (P := PySem.Challenge.rw_fretways_k03_shapes_slid.prog) (w := w) (g := glb K) (mg := mg) (base := base) F_law_alike (He.glo_ok X G (He.SaysD.fact (f := .glo "_law_alike") cd 10 (by rfl))) T
  have C_law_neck := ok_law_neck (P := PySem.Challenge.rw_fretways_k03_shapes_slid.prog) (w := w) (g := glb K) (mg := mg) (base := base) F_law_neck (He.glo_ok X G (He.SaysD.fact (f := .glo "_law_neck") cd 11 (by rfl))) T C_law_taken
  have C_law_shape := ok_law_shape (P := PySem.Challenge.rw_fretways_k03_shapes_slid.prog) (w := w) (g := glb K) (mg := mg) (base := base) F_law_shape (He.glo_ok X G (He.SaysD.fact (f := .glo "_law_shape") cd 13 (by rfl))) T C_law_taken
  have C_law_slid := ok_law_slid (P := PySem.Challenge.rw_fretways_k03_shapes_slid.prog) (w := w) (g := glb K) (mg := mg) (base := base) F_law_slid (He.glo_ok X G (He.SaysD.fact (f := .glo "_law_slid") cd 16 (by rfl))) T
  have C_law_apart := ok_law_apart (P := PySem.Challenge.rw_fretways_k03_shapes_slid.prog) (w := w) (g := glb K) (mg := mg) (base := base) F_law_apart (He.glo_ok X G (He.SaysD.fact (f := .glo "_law_apart") cd 17 (by rfl))) T C_law_slid
  exact ok_law (g := glb K) F_law T C_law_neck C_law_shape C_law_slid C_law_alike C_law_taken C_slid C_apart C_law_apart
end
end FW
open PySem PySem.W PySem.Calls PyProof.Rows
theorem PySem.Challenge.cw_fretways_k03_shapes_slid_holds : PySem.Challenge.rw_fretways_k03_shapes_slid.Holds := by
  w_on; o_law
  refine HandSHeadRun.head_any (r := OpenLaw.row PySem.Challenge.rw_fretways_k03_shapes_slid) (q := view (OpenLaw.row PySem.Challenge.rw_fretways_k03_shapes_slid).prog [29]) (H := FW.hk) (ob := FW.ob) (M := 4000) (loose := FW.looseL) (d := HandSHeadRun.topDef (OpenLaw.row PySem.Challenge.rw_fretways_k03_shapes_slid).prog 29) (kwd := []) FW.ob_eq
    (by kernel_rfl) (fun s => by kernel_rfl) FW.run (by kernel_rfl) (by kernel_rfl) (by kernel_rfl) (by rfl) (by first | assumption | decide +kernel) (by decide +kernel) ⟨rfl, rfl, rfl, rfl, rfl, by decide +kernel⟩ ?hw ?hc
  case hw => w_witness2
  case hc =>
    refine LamX.walk_ofTsE (l := PySem.Challenge.rw_fretways_k03_shapes_slid) (n := 63) (k := 6) (x := "_law_script") (CX := fun _ => L2.CX0) rfl (by decide) (by kernel_rfl) ⟨rfl, by decide, by decide⟩ ?F (fun _ _ _ _ _ z => z)
    intro w mg fa h Y G hmg0
    obtain ⟨K, KX, c⟩ := Y
    have hmg : mg ("law" : PySem.Str) = some (.ref fa) := by
      have e : (HandSHeadRun.topDef (OpenLaw.row PySem.Challenge.rw_fretways_k03_shapes_slid).prog 29).name = ("law" : PySem.Str) := by kernel_rfl
      rw [← e]
      exact hmg0
    exact ⟨K, KX, FW.law_at KX G hmg c⟩
