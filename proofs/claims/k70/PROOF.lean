import PyProof.Rows.All
import Wide.All
import OpenK.AllK
import Wide.FinOn
import HandS.Base
import HandS.Call
import HandS.List
import HandS.Comp
import HandS.Iter
import HandS.Walk
import HandS.Exc
import HandS.IsInst
import HandS.Deep
import HandS.Wide
import HandS.TupAny
import HandS.TupMul
import HandS.Ends
import HandS.Defaults
import HandS.TryOnly
import KE.SortData
import KE.DataMinMax
import HandS.Conv
import PyProof.ReprRoads
import HandS.Zip0
import KE.GoesEnum
import HandS.SetFor
import HandS.Strs
import HandS.Style
import HandS.EndBits
import HandS.HeadEnd
import HandS.Words
import HandS.WordsExc
import HandS.FStr
import HandS.Text
import PyProof.Rows.RegFStrParts
import PyProof.Rows.ReprOcc
import PyProof.Rows.StrJoinMade
import KE.KStateDown
import HandS.More
import HandS.Head0
import HandS.Head1
import HandS.Head2
import HandS.HeadHook1
import HandS.HeadHook2
import KE.KxLen
import PySem.Challenge.RW_outsoonest_k70_whole_houses_drawn
set_option Elab.async false
set_option linter.all false
set_option maxRecDepth 100000
set_option maxHeartbeats 4000000
/-! ZA: values as plain data, slots, what a step may change. -/
namespace Z
open PySem PySem.Spec L2
abbrev D := PyData
abbrev St := L2.St
/-- what a slot holds: nothing, data that stands still, a list that nobody else holds (p: a parameter, shared with the caller) -/
inductive Sl where
  | un
  | vl (d : D)
  | ow (p : Bool) (ds : List D)
abbrev En := List Sl
/-- a value handed on: data, or a list that nobody else holds -/
inductive Va where
  | fz (d : D)
  | fo (ds : List D)
def Va.d : Va → D
  | .fz d => d
  | .fo ds => .list ds

def Sub (F H : Hp) : Prop := ∀ a o, F a = some o → H a = some o
theorem Sub.rfl' {F : Hp} : Sub F F := fun _ _ h => h
theorem Sub.trans {F G H : Hp} (a : Sub F G) (b : Sub G H) : Sub F H := fun c o h => b c o (a c o h)
theorem Sub.rd {F H : Hp} {a : Addr} {u : HO} (e : Sub F H) (h : Rd F a u) : Rd H a u := h.imp (e _ _) fun ⟨o, q⟩ => ⟨o, e _ _ q⟩
theorem Sub.seqL {K : PySem.W.Frag} {F H : Hp} {a : Addr} {xs : List V} (e : Sub F H) (h : SqL K F a xs) : SqL K H a xs := h.imp e.rd id
theorem Sub.seqT {K : PySem.W.Frag} {F H : Hp} {a : Addr} {xs : List V} (e : Sub F H) (h : SqT K F a xs) : SqT K H a xs := h.imp e.rd id

mutual
inductive Dz (K : PySem.W.Frag) (F : Hp) : V → D → Prop
  | non : Dz K F .non .none
  | bl (b : Bool) : Dz K F (.bl b) (.bool b)
  | int (i : Int) : Dz K F (.int i) (.int i)
  | str (x : Str) : Dz K F (.str x) (.str x)
  | lst {a : Addr} {xs : List V} {ds : List D} : F a = some (.lst xs) → DzAll K F xs ds → Dz K F (.ref a) (.list ds)
  | scr {a : Addr} {ns : List Int} {ds : List D} : SqL K F a (ns.map V.int) → ds = ns.map PyData.int → Dz K F (.ref a) (.dict [(.none, .list ds)])
  | tup {a : Addr} {xs : List V} {ds : List D} : SqT K F a xs → DzAll K F xs ds → Dz K F (.ref a) (.tuple ds)
inductive DzAll (K : PySem.W.Frag) (F : Hp) : List V → List D → Prop
  | nil : DzAll K F [] []
  | cons {v : V} {vs : List V} {d : D} {ds : List D} : Dz K F v d → DzAll K F vs ds → DzAll K F (v :: vs) (d :: ds)
end

section
variable {K : PySem.W.Frag} {F G H : Hp}
mutual
theorem Dz.mono (e : Sub F G) : ∀ {d : D} {v : V}, Dz K F v d → Dz K G v d
  | .none, _, h => by cases h; exact .non
  | .bool b, _, h => by cases h; exact .bl b
  | .int i, _, h => by cases h; exact .int i
  | .str x, _, h => by cases h; exact .str x
  | .list ds, _, h => by
    cases h with
    | lst h1 h2 => exact .lst (e _ _ h1) (DzAll.mono e h2)
  | .tuple ds, _, h => by
    cases h with
    | tup h1 h2 => exact .tup (e.seqT h1) (DzAll.mono e h2)
  | .dict _, _, h => by
    cases h with
    | scr h1 h2 => exact .scr (e.seqL h1) h2
theorem DzAll.mono (e : Sub F G) : ∀ {ds : List D} {vs : List V}, DzAll K F vs ds → DzAll K G vs ds
  | [], _, h => by cases h; exact .nil
  | d :: ds, _, h => by
    cases h with
    | cons h1 h2 => exact .cons (Dz.mono e h1) (DzAll.mono e h2)
end
mutual
theorem Dz.dp (e : Sub F H) : ∀ {d : D} {v : V}, d.canLay0 = true → Dz K F v d → Dp K H v d
  | .none, _, _, h => by cases h; exact .non
  | .bool b, _, _, h => by cases h; exact .bl b
  | .int i, _, _, h => by cases h; exact .int i
  | .str x, _, _, h => by cases h; exact .str x
  | .list ds, _, c, h => by
    cases h with
    | lst h1 h2 => exact .lst (.inl (.inl (e _ _ h1))) (DzAll.dp e (by simpa [PyData.canLay0] using c) h2)
  | .tuple ds, _, c, h => by
    cases h with
    | tup h1 h2 => exact .tup (e.seqT h1) (DzAll.dp e (by simpa [PyData.canLay0] using c) h2)
  | .dict _, _, c, h => by simp [PyData.canLay0] at c
theorem DzAll.dp (e : Sub F H) : ∀ {ds : List D} {vs : List V}, PyData.canLayAll0 ds = true → DzAll K F vs ds → DpAll K H vs ds
  | [], _, _, h => by cases h; exact .nil
  | d :: ds, _, c, h => by
    cases h with
    | cons h1 h2 =>
      have c2 : d.canLay0 = true ∧ PyData.canLayAll0 ds = true := by simpa [PyData.canLayAll0] using c
      exact .cons (Dz.dp e c2.1 h1) (DzAll.dp e c2.2 h2)
end
theorem DzAll.len : ∀ {vs : List V} {ds : List D}, DzAll K F vs ds → vs.length = ds.length
  | _, _, .nil => rfl
  | _, _, .cons _ t => congrArg (· + 1) (DzAll.len t)
theorem DzAll.get : ∀ {vs : List V} {ds : List D} {i : Nat} {d : D}, DzAll K F vs ds → ds[i]? = some d → ∃ v, vs[i]? = some v ∧ Dz K F v d
  | _, _, _, _, .nil, e => by simp at e
  | _, _, 0, _, .cons r _, e => by simp at e; subst e; exact ⟨_, rfl, r⟩
  | _, _, i + 1, d, .cons _ t, e => by
    obtain ⟨u, h1, h2⟩ := DzAll.get (i := i) (d := d) t (by simpa using e)
    exact ⟨u, by simpa using h1, h2⟩
theorem DzAll.getV : ∀ {vs : List V} {ds : List D} {i : Nat} {v : V}, DzAll K F vs ds → vs[i]? = some v → ∃ d, ds[i]? = some d ∧ Dz K F v d
  | _, _, _, _, .nil, e => by simp at e
  | _, _, 0, _, .cons r _, e => by simp at e; subst e; exact ⟨_, rfl, r⟩
  | _, _, i + 1, d, .cons _ t, e => by
    obtain ⟨u, h1, h2⟩ := DzAll.getV (i := i) (v := d) t (by simpa using e)
    exact ⟨u, by simpa using h1, h2⟩
theorem DzAll.append : ∀ {xs ys : List V} {ds es : List D}, DzAll K F xs ds → DzAll K F ys es → DzAll K F (xs ++ ys) (ds ++ es)
  | _, _, _, _, .nil, s => s
  | _, _, _, _, .cons r t, s => .cons r (DzAll.append t s)
theorem DzAll.drop : ∀ {xs : List V} {ds : List D} (n : Nat), DzAll K F xs ds → DzAll K F (xs.drop n) (ds.drop n)
  | _, _, 0, r => r
  | _, _, _ + 1, .nil => .nil
  | _, _, n + 1, .cons _ t => DzAll.drop n t
theorem DzAll.take : ∀ {xs : List V} {ds : List D} (n : Nat), DzAll K F xs ds → DzAll K F (xs.take n) (ds.take n)
  | _, _, 0, r => .nil
  | _, _, _ + 1, .nil => .nil
  | _, _, n + 1, .cons r t => .cons r (DzAll.take n t)
theorem DzAll.set {v : V} {d : D} (r : Dz K F v d) : ∀ {xs : List V} {ds : List D} (i : Nat), DzAll K F xs ds → DzAll K F (xs.set i v) (ds.set i d)
  | _, _, _, .nil => .nil
  | _, _, 0, .cons _ t => .cons r t
  | _, _, i + 1, .cons q t => .cons q (DzAll.set r i t)
theorem DzAll.reverse : ∀ {xs : List V} {ds : List D}, DzAll K F xs ds → DzAll K F xs.reverse ds.reverse
  | _, _, .nil => .nil
  | _, _, .cons r t => by
    rw [List.reverse_cons, List.reverse_cons]
    exact DzAll.append (DzAll.reverse t) (.cons r .nil)
theorem DzAll.ints : ∀ {ns : List Int} {vs : List V}, DzAll K F vs (ns.map PyData.int) → vs = ns.map V.int
  | [], _, h => by cases h; rfl
  | n :: ns, _, h => by
    cases h with
    | cons a b =>
      cases a
      rw [DzAll.ints b]; rfl
theorem DzAll.bools : ∀ {ns : List Bool} {vs : List V}, DzAll K F vs (ns.map PyData.bool) → vs = ns.map V.bl
  | [], _, h => by cases h; rfl
  | n :: ns, _, h => by
    cases h with
    | cons a b =>
      cases a
      rw [DzAll.bools b]; rfl
theorem DzAll.ofInts : ∀ (ns : List Int), DzAll K F (ns.map V.int) (ns.map PyData.int)
  | [] => .nil
  | n :: ns => .cons (.int n) (DzAll.ofInts ns)
end

/-! ### slots -/
def Ow (ρ : En) (σ : St) (a : Addr) : Prop := ∃ (i : Nat) (p : Bool) (ds : List D), ρ[i]? = some (Sl.ow p ds) ∧ σ[i]? = some (some (.ref a))
def OwN (ρ : En) (σ : St) (a : Addr) : Prop := ∃ (i : Nat) (ds : List D), ρ[i]? = some (Sl.ow false ds) ∧ σ[i]? = some (some (.ref a))
theorem OwN.ow {ρ : En} {σ : St} {a : Addr} (h : OwN ρ σ a) : Ow ρ σ a := let ⟨i, ds, x, y⟩ := h; ⟨i, false, ds, x, y⟩
structure Rep (K : PySem.W.Frag) (ρ : En) (F : Hp) (σ : St) (H : Hp) : Prop where
  len : ρ.length = σ.length
  sub : Sub F H
  vl : ∀ (i : Nat) (d : D), ρ[i]? = some (Sl.vl d) → ∃ v, σ[i]? = some (some v) ∧ Dz K F v d
  ow : ∀ (i : Nat) (p : Bool) (ds : List D), ρ[i]? = some (Sl.ow p ds) → ∃ (a : Addr) (xs : List V), σ[i]? = some (some (.ref a)) ∧ H a = some (.lst xs) ∧ DzAll K F xs ds ∧ F a = none
  sep : ∀ (i j : Nat) (p q : Bool) (ds es : List D) (a : Addr), i ≠ j → ρ[i]? = some (Sl.ow p ds) → ρ[j]? = some (Sl.ow q es) → σ[i]? = some (some (.ref a)) → σ[j]? = some (some (.ref a)) → False
structure Nx (K : PySem.W.Frag) (ρ : En) (F : Hp) (σ : St) (H : Hp) (ρ' : En) (F' : Hp) (σ' : St) (H' : Hp) : Prop where
  rep : Rep K ρ' F' σ' H'
  ext : Sub F F'
  keep : ∀ a o, H a = some o → ¬ Ow ρ σ a → H' a = some o
  dom : ∀ a, H' a = none → H a = none
  own : ∀ a, Ow ρ' σ' a → Ow ρ σ a ∨ H a = none
  new : ∀ a o, F' a = some o → F a = some o ∨ H a = none ∨ OwN ρ σ a
  pin : ∀ (i : Nat) (ds : List D), ρ[i]? = some (Sl.ow true ds) → (∃ ds', ρ'[i]? = some (Sl.ow true ds')) ∧ σ'[i]? = σ[i]?

section
variable {K : PySem.W.Frag} {ρ ρ1 ρ2 ρ' : En} {F F1 F2 F' : Hp} {σ σ1 σ2 σ' : St} {H H1 H2 H' : Hp}
theorem Rep.owF (r : Rep K ρ F σ H) {a : Addr} (h : Ow ρ σ a) : F a = none ∧ ∃ xs, H a = some (.lst xs) := by
  obtain ⟨i, p, ds, h1, h2⟩ := h
  obtain ⟨a', xs, e1, e2, _, e4⟩ := r.ow i p ds h1
  rw [h2] at e1; cases e1
  exact ⟨e4, xs, e2⟩
theorem Nx.ownN (n : Nx K ρ F σ H ρ' F' σ' H') {a : Addr} (h : OwN ρ' σ' a) : OwN ρ σ a ∨ H a = none := by
  rcases n.own a h.ow with z | z
  · obtain ⟨i, p, ds, h1, h2⟩ := z
    cases p with
    | false => exact .inl ⟨i, ds, h1, h2⟩
    | true =>
      obtain ⟨j, es, g1, g2⟩ := h
      obtain ⟨⟨d', e1⟩, e2⟩ := n.pin i ds h1
      by_cases q : i = j
      · subst q; rw [e1] at g1; cases g1
      · exact (n.rep.sep i j _ _ _ _ a q e1 g1 (e2.trans h2) g2).elim
  · exact .inr z
theorem Nx.refl (r : Rep K ρ F σ H) : Nx K ρ F σ H ρ F σ H :=
  ⟨r, Sub.rfl', fun _ _ h _ => h, fun _ h => h, fun _ h => .inl h, fun _ _ h => .inl h, fun _ _ h => ⟨⟨_, h⟩, rfl⟩⟩
theorem Nx.trans (a : Nx K ρ F σ H ρ1 F1 σ1 H1) (b : Nx K ρ1 F1 σ1 H1 ρ2 F2 σ2 H2) : Nx K ρ F σ H ρ2 F2 σ2 H2 where
  rep := b.rep
  ext := a.ext.trans b.ext
  keep := fun c o h n => b.keep c o (a.keep c o h n) fun z => by
    rcases a.own c z with z | z
    · exact n z
    · rw [h] at z; cases z
  dom := fun c h => a.dom c (b.dom c h)
  own := fun c z => by
    rcases b.own c z with z | z
    · exact a.own c z
    · exact .inr (a.dom c z)
  new := fun c o z => by
    rcases b.new c o z with z | z | z
    · exact a.new c o z
    · exact .inr (.inl (a.dom c z))
    · rcases a.ownN z with z | z
      · exact .inr (.inr z)
      · exact .inr (.inl z)
  pin := fun i ds h => by
    obtain ⟨⟨d1, e1⟩, e2⟩ := a.pin i ds h
    obtain ⟨d2, e3⟩ := b.pin i d1 e1
    exact ⟨d2, e3.trans e2⟩

/-- a step that only makes new things -/
structure Ps (F H F' H' : Hp) : Prop where
  ext : Sub F F'
  sub : Sub F' H'
  keep : Sub H H'
  new : ∀ a o, F' a = some o → F a = some o ∨ H a = none
theorem Ps.refl (s : Sub F H) : Ps F H F H := ⟨Sub.rfl', s, Sub.rfl', fun _ _ h => .inl h⟩
theorem Ps.dom (p : Ps F H F' H') {a : Addr} (h : H' a = none) : H a = none := by
  cases q : H a with
  | none => rfl
  | some o => rw [p.keep a o q] at h; cases h
theorem Ps.trans (a : Ps F H F1 H1) (b : Ps F1 H1 F2 H2) : Ps F H F2 H2 :=
  ⟨a.ext.trans b.ext, b.sub, a.keep.trans b.keep, fun c o h => by
    rcases b.new c o h with z | z
    · exact a.new c o z
    · exact .inr (a.dom z)⟩
theorem none_of_sub (s : Sub F H) {p : Addr} (n : H p = none) : F p = none := by
  cases q : F p with
  | none => rfl
  | some o => rw [s p o q] at n; cases n
/-- a new thing at p, which is left alone from then on -/
theorem Ps.both (s : Sub F H) {p : Addr} {o : HO} (n : H p = none) : Ps F H (upd F p o) (upd H p o) := by
  have fn : F p = none := none_of_sub s n
  refine ⟨fun a u h => ?_, fun a u h => ?_, fun a u h => ?_, fun a u h => ?_⟩
  · rw [upd_ne (ne_of_none h fn)]; exact h
  · by_cases e : a = p
    · subst e; rw [upd_same] at h ⊢; exact h
    · rw [upd_ne e] at h ⊢; exact s a u h
  · rw [upd_ne (ne_of_none h n)]; exact h
  · by_cases e : a = p
    · subst e; exact .inr n
    · rw [upd_ne e] at h; exact .inl h
/-- a new thing at p, not left alone -/
theorem Ps.one (s : Sub F H) {p : Addr} {o : HO} (n : H p = none) : Ps F H F (upd H p o) :=
  ⟨Sub.rfl', fun a u h => by rw [upd_ne (ne_of_none (s a u h) n)]; exact s a u h, fun a u h => by rw [upd_ne (ne_of_none h n)]; exact h, fun _ _ h => .inl h⟩
theorem Ps.noF (p : Ps F H F' H') {a : Addr} {o : HO} (h : F a = none) (e : H a = some o) : F' a = none := by
  cases q : F' a with
  | none => rfl
  | some u =>
    rcases p.new a u q with z | z
    · rw [h] at z; cases z
    · rw [e] at z; cases z
theorem Rep.step (r : Rep K ρ F σ H) (p : Ps F H F' H') : Rep K ρ F' σ H' where
  len := r.len
  sub := p.sub
  vl := fun i d h => let ⟨v, e, z⟩ := r.vl i d h; ⟨v, e, z.mono p.ext⟩
  ow := fun i q ds h => let ⟨a, xs, e1, e2, e3, e4⟩ := r.ow i q ds h; ⟨a, xs, e1, p.keep _ _ e2, e3.mono p.ext, p.noF e4 e2⟩
  sep := r.sep
theorem Nx.step (r : Rep K ρ F σ H) (p : Ps F H F' H') : Nx K ρ F σ H ρ F' σ H' :=
  ⟨r.step p, p.ext, fun a o h _ => p.keep a o h, fun _ h => p.dom h, fun _ h => .inl h, fun a o h => (p.new a o h).imp_right .inl, fun _ _ h => ⟨⟨_, h⟩, rfl⟩⟩

/-- a list that nobody else holds is left alone from here on: put it into the still part -/
theorem upd_sub (s : Sub F H) {a : Addr} {o : HO} (h : H a = some o) : Sub (upd F a o) H := fun b u q => by
  by_cases z : b = a
  · subst z; rw [upd_same] at q; cases q; exact h
  · rw [upd_ne z] at q; exact s b u q
theorem sub_upd {a : Addr} {o : HO} (h : F a = none) : Sub F (upd F a o) := fun b u q => by rw [upd_ne (ne_of_none q h)]; exact q
theorem get_set_un {α : Type} {ρ : List α} {i j : Nat} {x y : α} (g : (ρ.set i y)[j]? = some x) : (j = i ∧ x = y) ∨ (j ≠ i ∧ ρ[j]? = some x) := by
  by_cases z : j = i
  · subst z
    have hi : j < ρ.length := by have := (List.getElem?_eq_some_iff.mp g).1; simpa using this
    rw [List.getElem?_set_self hi] at g; cases g
    exact .inl ⟨rfl, rfl⟩
  · rw [List.getElem?_set_ne (Ne.symm z)] at g; exact .inr ⟨z, g⟩

/-- the own list of slot i (no parameter's) stands still from here on -/
theorem freeze (r : Rep K ρ F σ H) {i : Nat} {ds : List D} (h : ρ[i]? = some (.ow false ds)) : ∃ a xs, σ[i]? = some (some (.ref a)) ∧ Nx K ρ F σ H (ρ.set i (.vl (.list ds))) (upd F a (.lst xs)) σ H ∧ Dz K (upd F a (.lst xs)) (.ref a) (.list ds) := by
  obtain ⟨a, xs, e1, e2, e3, e4⟩ := r.ow i false ds h
  have ext : Sub F (upd F a (.lst xs)) := sub_upd e4
  have hz : Dz K (upd F a (.lst xs)) (.ref a) (.list ds) := .lst upd_same (e3.mono ext)
  have back : ∀ (j : Nat) (p : Bool) (es : List D), (ρ.set i (Sl.vl (.list ds)))[j]? = some (Sl.ow p es) → j ≠ i ∧ ρ[j]? = some (Sl.ow p es) := fun j p es g => by
    rcases get_set_un g with ⟨_, z⟩ | z
    · cases z
    · exact z
  refine ⟨a, xs, e1, ⟨⟨by simpa using r.len, upd_sub r.sub e2, fun j d g => ?_, fun j q es g => ?_, fun j k q q' es es' c hjk g1 g2 g3 g4 => ?_⟩, ext, fun _ _ q _ => q, fun _ q => q, fun c q => ?_, fun c o q => ?_, fun j es g => ?_⟩, hz⟩
  · rcases get_set_un g with ⟨rfl, z⟩ | ⟨_, g⟩
    · cases z; exact ⟨_, e1, hz⟩
    · obtain ⟨v, q1, q2⟩ := r.vl j d g
      exact ⟨v, q1, q2.mono ext⟩
  · obtain ⟨z, g⟩ := back j q es g
    obtain ⟨b, ys, g1, g2, g3, g4⟩ := r.ow j q es g
    refine ⟨b, ys, g1, g2, g3.mono ext, ?_⟩
    rw [upd_ne fun z' => ?_]
    · exact g4
    · subst z'; exact r.sep j i _ _ _ _ b z g h g1 e1
  · exact r.sep j k _ _ _ _ c hjk (back _ _ _ g1).2 (back _ _ _ g2).2 g3 g4
  · obtain ⟨j, q', es, g1, g2⟩ := q
    exact .inl ⟨j, q', es, (back _ _ _ g1).2, g2⟩
  · by_cases z : c = a
    · subst z; exact .inr (.inr ⟨i, ds, h, e1⟩)
    · rw [upd_ne z] at q; exact .inl q
  · refine ⟨⟨es, ?_⟩, rfl⟩
    have hne : i ≠ j := fun z => by subst z; rw [h] at g; cases g
    rw [List.getElem?_set_ne hne]; exact g
end
end Z

/-! ZB: results, readings, judgements. -/
namespace Z
open PySem PySem.Spec L2
/-- an answer with the slots behind it; an error of the class c with its one field; no answer -/
inductive Rz (α : Type) where
  | ok (a : α) (ρ : En)
  | ex (c : Nat) (d : D) (ρ : En)
  | no
namespace Rz
def bind {α β : Type} : Rz α → (α → En → Rz β) → Rz β
  | .ok a ρ, k => k a ρ
  | .ex c d ρ, _ => .ex c d ρ
  | .no, _ => .no
def map {α β : Type} (f : α → β) : Rz α → Rz β
  | .ok a ρ => .ok (f a) ρ
  | .ex c d ρ => .ex c d ρ
  | .no => .no
def of {α : Type} (ρ : En) : Option α → Rz α
  | some a => .ok a ρ
  | none => .no
@[simp] theorem bind_ok {α β : Type} (a : α) (ρ : En) (k : α → En → Rz β) : (ok a ρ).bind k = k a ρ := rfl
@[simp] theorem bind_ex {α β : Type} (c : Nat) (d : D) (ρ : En) (k : α → En → Rz β) : (ex c d ρ : Rz α).bind k = ex c d ρ := rfl
@[simp] theorem bind_no {α β : Type} (k : α → En → Rz β) : (no : Rz α).bind k = no := rfl
@[simp] theorem map_ok {α β : Type} (f : α → β) (a : α) (ρ : En) : (ok a ρ).map f = ok (f a) ρ := rfl
@[simp] theorem map_ex {α β : Type} (f : α → β) (c : Nat) (d : D) (ρ : En) : (ex c d ρ : Rz α).map f = ex c d ρ := rfl
@[simp] theorem map_no {α β : Type} (f : α → β) : (no : Rz α).map f = no := rfl
@[simp] theorem of_some {α : Type} (ρ : En) (a : α) : of ρ (some a) = ok a ρ := rfl
@[simp] theorem of_none {α : Type} (ρ : En) : of ρ (none : Option α) = no := rfl
end Rz
/-- an operand: data, or the name of a slot that is read when all operands are there -/
inductive Od where
  | da (d : D)
  | sl (i : Nat)
def Sl.get : Sl → Option D
  | .un => none
  | .vl d => some d
  | .ow _ ds => some (.list ds)
def Od.get (ρ : En) : Od → Option D
  | .da d => some d
  | .sl i => match ρ[i]? with
    | some x => x.get
    | none => none
/-- what a program's text is run with: the written part, the error classes with the names of their fields -/
structure Pg where
  K : PySem.W.Frag
  ex : List (Value × Str)

section
variable (T : Pg) (W : WX)
/-- what r leads to, from here -/
def GX {α : Type} (ρ : En) (F : Hp) (σ : St) (H : Hp) (S : St → Prop) (P : α → En → Hp → St → Hp → Prop) : Rz α → Prop
  | .ok a ρ' => ∀ F' σ' H', S σ' → Nx T.K ρ F σ H ρ' F' σ' H' → P a ρ' F' σ' H'
  | .ex c d ρ' => ∀ F' σ' H' cv fl dx v, S σ' → T.ex[c]? = some (cv, fl) → Nx T.K ρ F σ H ρ' F' σ' H' → H' dx = some (.xd [(fl, v)]) → Dz T.K F' v d → W cv (some dx) σ' H'
  | .no => False
end
section
variable {T : Pg} {W : WX} {α β : Type} {ρ ρ1 : En} {F F1 : Hp} {σ σ1 : St} {H H1 : Hp} {S S1 : St → Prop} {P P' : β → En → Hp → St → Hp → Prop}
theorem GX.mono {r : Rz β} (h : GX T W ρ F σ H S P r) (hs : ∀ σ', S1 σ' → S σ') (i : ∀ a ρ' F' σ' H', S1 σ' → Nx T.K ρ F σ H ρ' F' σ' H' → P a ρ' F' σ' H' → P' a ρ' F' σ' H') : GX T W ρ F σ H S1 P' r := by
  cases r with
  | ok a ρ' => exact fun F' σ' H' s n => i a ρ' F' σ' H' s n (h F' σ' H' (hs _ s) n)
  | ex c d ρ' => exact fun F' σ' H' cv fl dx v s => h F' σ' H' cv fl dx v (hs _ s)
  | no => exact h
theorem GX.go {r : Rz β} (h : GX T W ρ F σ H S P r) (n : Nx T.K ρ F σ H ρ1 F1 σ1 H1) : GX T W ρ1 F1 σ1 H1 S P r := by
  cases r with
  | ok a ρ' => exact fun F' σ' H' s m => h F' σ' H' s (n.trans m)
  | ex c d ρ' => exact fun F' σ' H' cv fl dx v s e m => h F' σ' H' cv fl dx v s e (n.trans m)
  | no => exact h
theorem GX.bind {r : Rz α} {k : α → En → Rz β} (h : GX T W ρ F σ H S P (r.bind k)) (hs : ∀ σ', S1 σ' → S σ') :
    GX T W ρ F σ H S1 (fun a ρ' F' σ' H' => S1 σ' ∧ Nx T.K ρ F σ H ρ' F' σ' H' ∧ GX T W ρ' F' σ' H' S P (k a ρ')) r := by
  cases r with
  | ok a ρ' => exact fun F' σ' H' s n => ⟨s, n, GX.go (r := k a ρ') h n⟩
  | ex c d ρ' => exact fun F' σ' H' cv fl dx v s => h F' σ' H' cv fl dx v (hs _ s)
  | no => exact h
theorem GX.bind0 {r : Rz α} {k : α → En → Rz β} (h : GX T W ρ F σ H S P (r.bind k)) (hs : ∀ σ', S1 σ' → S σ') :
    GX T W ρ F σ H S1 (fun a ρ' _ _ _ => GX T W ρ F σ H S P (k a ρ')) r := by
  cases r with
  | ok a ρ' => exact fun F' σ' H' s n => h
  | ex c d ρ' => exact fun F' σ' H' cv fl dx v s => h F' σ' H' cv fl dx v (hs _ s)
  | no => exact h
theorem GX.map {r : Rz α} {f : α → β} (h : GX T W ρ F σ H S P (r.map f)) : GX T W ρ F σ H S (fun a => P (f a)) r := by
  cases r with
  | ok a ρ' => exact h
  | ex c d ρ' => exact h
  | no => exact h
theorem GX.of {o : Option β} (h : GX T W ρ F σ H S P (Rz.of ρ1 o)) : ∃ a, o = some a ∧ GX T W ρ F σ H S P (.ok a ρ1) := by
  cases o with
  | none => exact h.elim
  | some a => exact ⟨a, rfl, h⟩
end

/-! ### how values lie -/
def OdR (K : PySem.W.Frag) (F : Hp) (σ : St) (v : V) : Od → Prop
  | .da d => Dz K F v d
  | .sl i => σ[i]? = some (some v)
/-- readable now: still data, or a list of its own -/
def Dq (K : PySem.W.Frag) (F H : Hp) (v : V) (d : D) : Prop := Dz K F v d ∨ ∃ a xs ds, v = .ref a ∧ d = .list ds ∧ H a = some (.lst xs) ∧ DzAll K F xs ds
def VaR (K : PySem.W.Frag) (ρ : En) (σ : St) (H : Hp) (ρ' : En) (F' : Hp) (σ' : St) (H' : Hp) (v : V) : Va → Prop
  | .fz d => Dz K F' v d
  | .fo ds => ∃ a xs, v = .ref a ∧ H' a = some (.lst xs) ∧ DzAll K F' xs ds ∧ F' a = none ∧ ¬ Ow ρ' σ' a ∧ (H a = none ∨ OwN ρ σ a)
/-- a new value of a step that only makes new things -/
def VaN (K : PySem.W.Frag) (F' H H' : Hp) (v : V) : Va → Prop
  | .fz d => Dz K F' v d
  | .fo ds => ∃ a xs, v = .ref a ∧ H' a = some (.lst xs) ∧ DzAll K F' xs ds ∧ F' a = none ∧ H a = none
section
variable {K : PySem.W.Frag} {ρ ρ' ρ1 : En} {F F' F1 : Hp} {σ σ' σ1 : St} {H H' H1 : Hp} {v : V} {o : Od} {d : D} {va : Va}
theorem OdR.mono (h : OdR K F σ v o) (e : Sub F F') : OdR K F' σ v o := by
  cases o with
  | da d => exact Dz.mono e h
  | sl i => exact h
theorem Dq.mono (h : Dq K F H v d) (e : Sub F F') (k : Sub H H') : Dq K F' H' v d := by
  rcases h with h | ⟨a, xs, ds, e1, e2, e3, e4⟩
  · exact .inl (h.mono e)
  · exact .inr ⟨a, xs, ds, e1, e2, k _ _ e3, e4.mono e⟩
theorem OdR.dq (r : Rep K ρ F σ H) (h : OdR K F σ v o) (g : o.get ρ = some d) : Dq K F H v d := by
  cases o with
  | da d' => cases g; exact .inl h
  | sl i =>
    have h : σ[i]? = some (some v) := h
    cases e : ρ[i]? with
    | none => simp only [Od.get, e] at g; cases g
    | some x =>
      simp only [Od.get, e] at g
      cases x with
      | un => cases g
      | vl d' =>
        cases g
        obtain ⟨u, e1, e2⟩ := r.vl i _ e
        rw [h] at e1; cases e1
        exact .inl e2
      | ow p ds =>
        cases g
        obtain ⟨a, xs, e1, e2, e3, _⟩ := r.ow i p ds e
        rw [h] at e1; cases e1
        exact .inr ⟨a, xs, ds, rfl, rfl, e2, e3⟩
theorem Dq.dp (h : Dq K F H v d) (s : Sub F H) (c : d.canLay0 = true) : Dp K H v d := by
  rcases h with h | ⟨a, xs, ds, e1, e2, e3, e4⟩
  · exact Dz.dp s c h
  · subst e1; subst e2
    exact .lst (.inl (.inl e3)) (DzAll.dp s (by simpa [PyData.canLay0] using c) e4)
/-- a list of its own stands still from here on -/
theorem Nx.still (n : Nx K ρ F σ H ρ' F' σ' H') {a : Addr} {xs : List V} (h : H' a = some (.lst xs)) (f : F' a = none) (no : ¬ Ow ρ' σ' a) (ol : H a = none ∨ OwN ρ σ a) : Nx K ρ F σ H ρ' (upd F' a (.lst xs)) σ' H' where
  rep := { len := n.rep.len, sub := upd_sub n.rep.sub h, vl := fun i d e => let ⟨v, e1, e2⟩ := n.rep.vl i d e; ⟨v, e1, e2.mono (sub_upd f)⟩, sep := n.rep.sep
           ow := fun i p ds e => by
            obtain ⟨b, ys, e1, e2, e3, e4⟩ := n.rep.ow i p ds e
            refine ⟨b, ys, e1, e2, e3.mono (sub_upd f), ?_⟩
            rw [upd_ne fun z => no (by subst z; exact ⟨i, p, ds, e, e1⟩)]
            exact e4 }
  ext := n.ext.trans (sub_upd f)
  keep := n.keep
  dom := n.dom
  own := n.own
  new := fun b o e => by
    by_cases z : b = a
    · subst z; exact .inr ol
    · rw [upd_ne z] at e; exact n.new b o e
  pin := n.pin
theorem VaR.fix (n : Nx K ρ F σ H ρ' F' σ' H') (h : VaR K ρ σ H ρ' F' σ' H' v va) : ∃ F1, Nx K ρ F σ H ρ' F1 σ' H' ∧ Dz K F1 v va.d := by
  cases va with
  | fz d => exact ⟨F', n, h⟩
  | fo ds =>
    obtain ⟨a, xs, e1, e2, e3, e4, e5, e6⟩ := h
    subst e1
    exact ⟨_, n.still e2 e4 e5 e6, .lst upd_same (e3.mono (sub_upd e4))⟩
theorem VaN.vaR (r : Rep K ρ F σ H) (p : Ps F H F' H') (h : VaN K F' H H' v va) : VaR K ρ σ H ρ F' σ H' v va := by
  cases va with
  | fz d => exact h
  | fo ds =>
    obtain ⟨a, xs, e1, e2, e3, e4, e5⟩ := h
    refine ⟨a, xs, e1, e2, e3, e4, fun z => ?_, .inl e5⟩
    obtain ⟨_, ys, q⟩ := r.owF z
    rw [e5] at q; cases q
end

/-! ### readings and judgements -/
section
variable (T : Pg) (W : WX)
def tX (f : En → Rz Od) : TE := fun σ H Q => ∃ ρ F, Rep T.K ρ F σ H ∧ GX T W ρ F σ H (· = σ) (fun o _ F' _ H' => ∀ v, OdR T.K F' σ v o → Q v H') (f ρ)
def tO (f : En → Rz Va) : TE := fun σ H Q => ∃ ρ F, Rep T.K ρ F σ H ∧ GX T W ρ F σ H (· = σ) (fun va ρ' F' σ' H' => ∀ v, VaR T.K ρ σ H ρ' F' σ' H' v va → Q v H') (f ρ)
def tB (f : En → Rz Bool) : TT := fun σ H Q => ∃ ρ F, Rep T.K ρ F σ H ∧ GX T W ρ F σ H (· = σ) (fun b _ _ _ H' => Q b H') (f ρ)
inductive OdAll (K : PySem.W.Frag) (F : Hp) (σ : St) : List V → List Od → Prop
  | nil : OdAll K F σ [] []
  | cons {v : V} {vs : List V} {o : Od} {os : List Od} : OdR K F σ v o → OdAll K F σ vs os → OdAll K F σ (v :: vs) (o :: os)
def tA (f : En → Rz (List Od)) : TA := fun σ H Q => ∃ ρ F, Rep T.K ρ F σ H ∧ GX T W ρ F σ H (· = σ) (fun os _ F' _ H' => ∀ vs, OdAll T.K F' σ vs os → Q vs H') (f ρ)
structure DX (X : Cx) (e : Expr) (f : En → Rz Od) : Prop where
  run : PE X e (tX T W f)
structure DO (X : Cx) (e : Expr) (f : En → Rz Va) : Prop where
  run : PE X e (tO T W f)
structure DB (X : Cx) (e : Expr) (f : En → Rz Bool) : Prop where
  run : PT X e (tB T W f)
structure DA (X : Cx) (es : List Expr) (f : En → Rz (List Od)) : Prop where
  run : PA X es (tA T W f)
end
theorem OdAll.mono {K : PySem.W.Frag} {F F' : Hp} {σ : St} (e : Sub F F') : ∀ {vs : List V} {os : List Od}, OdAll K F σ vs os → OdAll K F' σ vs os
  | _, _, .nil => .nil
  | _, _, .cons a b => .cons (a.mono e) (OdAll.mono e b)
section
variable {X : Cx} {e : Expr} {es : List Expr}
theorem pe_imp {t t' : TE} (h : PE X e t) (i : ∀ σ H Q, t' σ H Q → t σ H Q) : PE X e t' := ⟨fun pins s σ H Q I w => h.run pins s σ H Q I (i _ _ _ w)⟩
theorem pt_imp {t t' : TT} (h : PT X e t) (i : ∀ σ H Q, t' σ H Q → t σ H Q) : PT X e t' := ⟨fun pins s σ H Q I w => h.run pins s σ H Q I (i _ _ _ w)⟩
theorem pa_imp {t t' : TA} (h : PA X es t) (i : ∀ σ H Q, t' σ H Q → t σ H Q) : PA X es t' := ⟨fun p pins s σ H Q I w => h.run p pins s σ H Q I (i _ _ _ w)⟩
end
section
variable {T : Pg} {W : WX} {X : Cx} {e : Expr} {es : List Expr} {α : Type} {β : Type}
/-- a value handed on is data from here on -/
theorem tO_fix {f : En → Rz Va} {k : Va → En → Rz β} {ρ : En} {F : Hp} {σ : St} {H : Hp} {S : St → Prop} {P : β → En → Hp → St → Hp → Prop} {Q : VK} (r : Rep T.K ρ F σ H) (h : GX T W ρ F σ H S P ((f ρ).bind k)) (hS : S σ)
    (q : ∀ va ρ' F' H' v, Nx T.K ρ F σ H ρ' F' σ H' → Dz T.K F' v va.d → GX T W ρ F σ H S P (k va ρ') → Q v H') : tO T W f σ H Q :=
  ⟨ρ, F, r, (h.bind0 (S1 := (· = σ)) fun _ z => by subst z; exact hS).mono (fun _ z => z) fun va ρ' F' σ' H' es n g v hv => by
    subst es
    obtain ⟨F1, n1, z⟩ := hv.fix n
    exact q va ρ' F1 H' v n1 z g⟩
theorem tX_fix {f : En → Rz Od} {k : Od → En → Rz β} {ρ : En} {F : Hp} {σ : St} {H : Hp} {S : St → Prop} {P : β → En → Hp → St → Hp → Prop} {Q : VK} (r : Rep T.K ρ F σ H) (h : GX T W ρ F σ H S P ((f ρ).bind k)) (hS : S σ)
    (q : ∀ o ρ' F' H' v, Nx T.K ρ F σ H ρ' F' σ H' → OdR T.K F' σ v o → GX T W ρ F σ H S P (k o ρ') → Q v H') : tX T W f σ H Q :=
  ⟨ρ, F, r, (h.bind0 (S1 := (· = σ)) fun _ z => by subst z; exact hS).mono (fun _ z => z) fun o ρ' F' σ' H' es n g v hv => by
    subst es
    exact q o ρ' F' H' v n hv g⟩
theorem tB_fix {f : En → Rz Bool} {k : Bool → En → Rz β} {ρ : En} {F : Hp} {σ : St} {H : Hp} {S : St → Prop} {P : β → En → Hp → St → Hp → Prop} {Q : Bool → Hp → Prop} (r : Rep T.K ρ F σ H) (h : GX T W ρ F σ H S P ((f ρ).bind k)) (hS : S σ)
    (q : ∀ b ρ' F' H', Nx T.K ρ F σ H ρ' F' σ H' → GX T W ρ F σ H S P (k b ρ') → Q b H') : tB T W f σ H Q :=
  ⟨ρ, F, r, (h.bind0 (S1 := (· = σ)) fun _ z => by subst z; exact hS).mono (fun _ z => z) fun b ρ' F' σ' H' es n g => by
    subst es
    exact q b ρ' F' H' n g⟩
theorem tA_fix {f : En → Rz (List Od)} {k : List Od → En → Rz β} {ρ : En} {F : Hp} {σ : St} {H : Hp} {S : St → Prop} {P : β → En → Hp → St → Hp → Prop} {Q : List V → Hp → Prop} (r : Rep T.K ρ F σ H) (h : GX T W ρ F σ H S P ((f ρ).bind k)) (hS : S σ)
    (q : ∀ os ρ' F' H' vs, Nx T.K ρ F σ H ρ' F' σ H' → OdAll T.K F' σ vs os → GX T W ρ F σ H S P (k os ρ') → Q vs H') : tA T W f σ H Q :=
  ⟨ρ, F, r, (h.bind0 (S1 := (· = σ)) fun _ z => by subst z; exact hS).mono (fun _ z => z) fun os ρ' F' σ' H' es n g vs hv => by
    subst es
    exact q os ρ' F' H' vs n hv g⟩
/-- an operand that is an expression -/
def xO (f : En → Rz Va) : En → Rz Od := fun ρ => (f ρ).bind fun va ρ' => .ok (Od.da va.d) ρ'
theorem DO.dx {f : En → Rz Va} (h : DO T W X e f) : DX T W X e (xO f) := ⟨pe_imp h.run fun σ H Q ⟨ρ, F, r, g⟩ =>
  tO_fix r g rfl fun va ρ' F' H' v n z q => q F' σ H' rfl n v z⟩
/-- an operand that is a name -/
def xVar (i : Nat) : En → Rz Od := fun ρ => match (Od.sl i).get ρ with
  | some _ => .ok (.sl i) ρ
  | none => .no
theorem Rep.var {K : PySem.W.Frag} {ρ : En} {F : Hp} {σ : St} {H : Hp} (r : Rep K ρ F σ H) {i : Nat} {d : D} (g : (Od.sl i).get ρ = some d) : ∃ v, σ[i]? = some (some v) := by
  cases e : ρ[i]? with
  | none => simp only [Od.get, e] at g; cases g
  | some x =>
    simp only [Od.get, e] at g
    cases x with
    | un => cases g
    | vl d' => obtain ⟨v, h, _⟩ := r.vl i _ e; exact ⟨v, h⟩
    | ow p ds => obtain ⟨a, xs, h, _⟩ := r.ow i p ds e; exact ⟨_, h⟩
theorem dx_pv {i : Nat} (h : PE X e (tVar i)) : DX T W X e (xVar i) := ⟨pe_imp h fun σ H Q ⟨ρ, F, r, g⟩ => by
  unfold xVar at g
  cases q : (Od.sl i).get ρ with
  | none => rw [q] at g; exact g.elim
  | some d =>
    rw [q] at g
    obtain ⟨v, hv⟩ := r.var q
    exact ⟨v, hv, g F σ H rfl (.refl r) v hv⟩⟩
/-- a name as a value -/
def oVar (i : Nat) : En → Rz Va := fun ρ => match ρ[i]? with
  | some (.vl d) => .ok (.fz d) ρ
  | some (.ow false ds) => .ok (.fz (.list ds)) (ρ.set i (.vl (.list ds)))
  | _ => .no
theorem do_pv {i : Nat} (h : PE X e (tVar i)) : DO T W X e (oVar i) := ⟨pe_imp h fun σ H Q ⟨ρ, F, r, g⟩ => by
  unfold oVar at g
  split at g
  · rename_i d he
    obtain ⟨v, h1, h2⟩ := r.vl i _ he
    exact ⟨v, h1, g F σ H rfl (.refl r) v h2⟩
  · rename_i ds he
    obtain ⟨a, xs, h1, h2, h3⟩ := freeze r he
    exact ⟨_, h1, g _ σ H rfl h2 _ h3⟩
  · exact g.elim⟩
def oC (d : D) : En → Rz Va := fun ρ => .ok (.fz d) ρ
theorem do_C {v : V} {d : D} (h : PE X e (tC v)) (z : ∀ F, Dz T.K F v d) : DO T W X e (oC d) := ⟨pe_imp h fun σ H Q ⟨ρ, F, r, g⟩ => g F σ H rfl (.refl r) v (z F)⟩
end
end Z

/-! ZC: operators and built-ins as functions of data. -/
namespace Z
open PySem PySem.Spec L2
section
variable {K : PySem.W.Frag} {F H F' H' : Hp} {v x y : V} {d d1 d2 : D} {va : Va}
theorem Dq.int {i : Int} (h : Dq K F H v (.int i)) : v = .int i := by
  rcases h with h | ⟨_, _, _, _, e, _⟩
  · cases h; rfl
  · cases e
theorem Dq.bool {b : Bool} (h : Dq K F H v (.bool b)) : v = .bl b := by
  rcases h with h | ⟨_, _, _, _, e, _⟩
  · cases h; rfl
  · cases e
theorem Dq.non (h : Dq K F H v .none) : v = .non := by
  rcases h with h | ⟨_, _, _, _, e, _⟩
  · cases h; rfl
  · cases e
theorem Dq.str {s : Str} (h : Dq K F H v (.str s)) : v = .str s := by
  rcases h with h | ⟨_, _, _, _, e, _⟩
  · cases h; rfl
  · cases e
theorem Dq.list {ds : List D} (h : Dq K F H v (.list ds)) (s : Sub F H) : ∃ a xs, v = .ref a ∧ H a = some (.lst xs) ∧ DzAll K F xs ds := by
  rcases h with h | ⟨a, xs, es, e1, e, e3, e4⟩
  · cases h with
    | lst h1 h2 => exact ⟨_, _, rfl, s _ _ h1, h2⟩
  · cases e; exact ⟨a, xs, e1, e3, e4⟩
theorem Dq.tup {ds : List D} (h : Dq K F H v (.tuple ds)) (s : Sub F H) : ∃ a xs, v = .ref a ∧ SqT K F a xs ∧ SqT K H a xs ∧ DzAll K F xs ds := by
  rcases h with h | ⟨_, _, _, _, e, _⟩
  · cases h with
    | tup h1 h2 => exact ⟨_, _, rfl, h1, s.seqT h1, h2⟩
  · cases e
theorem Dq.scr {ds : List D} (h : Dq K F H v (.dict [(.none, .list ds)])) (s : Sub F H) : ∃ (a : Addr) (ns : List Int), v = .ref a ∧ SqL K H a (ns.map V.int) ∧ ds = ns.map PyData.int := by
  rcases h with h | ⟨_, _, _, _, e, _⟩
  · cases h with
    | scr h1 h2 => exact ⟨_, _, rfl, s.seqL h1, h2⟩
  · cases e
/-- only the script's form of a dict is a value -/
theorem Dz.noDict {kvs : List (PyData × PyData)} (h : Dz K F v (.dict kvs)) : ∃ ds, kvs = [(.none, .list ds)] := by
  cases h with
  | scr h1 h2 => exact ⟨_, rfl⟩
end
/-- r does what p tells -/
structure Im2 (K : PySem.W.Frag) (r : R2) (p : D → D → Option Va) : Prop where
  run : ∀ (F H : Hp) (x y : V) (d1 d2 : D) (va : Va) (Q : VK), Sub F H → Dq K F H x d1 → Dq K F H y d2 → p d1 d2 = some va → (∀ v F' H', Ps F H F' H' → VaN K F' H H' v va → Q v H') → r x y H Q
structure Im1 (K : PySem.W.Frag) (r : V → Hp → VK → Prop) (p : D → Option Va) : Prop where
  run : ∀ (F H : Hp) (x : V) (d : D) (va : Va) (Q : VK), Sub F H → Dq K F H x d → p d = some va → (∀ v F' H', Ps F H F' H' → VaN K F' H H' v va → Q v H') → r x H Q
inductive DqAll (K : PySem.W.Frag) (F H : Hp) : List V → List D → Prop
  | nil : DqAll K F H [] []
  | cons {v : V} {vs : List V} {d : D} {ds : List D} : Dq K F H v d → DqAll K F H vs ds → DqAll K F H (v :: vs) (d :: ds)
structure ImL (K : PySem.W.Frag) (r : List V → Hp → VK → Prop) (p : List D → Option Va) : Prop where
  run : ∀ (F H : Hp) (vs : List V) (ds : List D) (va : Va) (Q : VK), Sub F H → DqAll K F H vs ds → p ds = some va → (∀ v F' H', Ps F H F' H' → VaN K F' H H' v va → Q v H') → r vs H Q
/-! ### the rules -/
def ap2 (p : D → D → Option Va) (o1 o2 : Od) (ρ : En) : Rz Va := match o1.get ρ, o2.get ρ with
  | some a, some b => .of ρ (p a b)
  | _, _ => .no
def f2 (p : D → D → Option Va) (fa fb : En → Rz Od) : En → Rz Va := fun ρ => (fa ρ).bind fun o1 ρ1 => (fb ρ1).bind fun o2 ρ2 => ap2 p o1 o2 ρ2
def ap1 (p : D → Option Va) (o : Od) (ρ : En) : Rz Va := match o.get ρ with
  | some a => .of ρ (p a)
  | none => .no
def f1 (p : D → Option Va) (fa : En → Rz Od) : En → Rz Va := fun ρ => (fa ρ).bind fun o ρ1 => ap1 p o ρ1
def getAll (ρ : En) : List Od → Option (List D)
  | [] => some []
  | o :: os => match o.get ρ, getAll ρ os with
    | some a, some b => some (a :: b)
    | _, _ => none
def apL (p : List D → Option Va) (os : List Od) (ρ : En) : Rz Va := match getAll ρ os with
  | some ds => .of ρ (p ds)
  | none => .no
def fL (p : List D → Option Va) (fa : En → Rz (List Od)) : En → Rz Va := fun ρ => (fa ρ).bind fun os ρ1 => apL p os ρ1
section
variable {T : Pg} {W : WX} {X : Cx} {ρ ρ1 ρ2 : En} {F F1 F2 : Hp} {σ : St} {H H1 H2 : Hp} {Q : VK} {va : Va}
abbrev PO (T : Pg) (ρ : En) (σ : St) (H : Hp) (Q : VK) : Va → En → Hp → St → Hp → Prop := fun va ρ' F' σ' H' => ∀ v, VaR T.K ρ σ H ρ' F' σ' H' v va → Q v H'
theorem VaN.vaR' {K : PySem.W.Frag} (n : Nx K ρ F σ H ρ2 F2 σ H2) {F' H' : Hp} {v : V} (h : VaN K F' H2 H' v va) : VaR K ρ σ H ρ2 F' σ H' v va := by
  cases va with
  | fz d => exact h
  | fo ds =>
    obtain ⟨a, xs, e1, e2, e3, e4, e5⟩ := h
    refine ⟨a, xs, e1, e2, e3, e4, fun z => ?_, .inl (n.dom _ e5)⟩
    obtain ⟨_, ys, q⟩ := n.rep.owF z
    rw [e5] at q; cases q
theorem fin_of (n : Nx T.K ρ F σ H ρ1 F1 σ H1) (m : Nx T.K ρ1 F1 σ H1 ρ2 F2 σ H2) (g : GX T W ρ1 F1 σ H1 (· = σ) (PO T ρ σ H Q) (.ok va ρ2)) : ∀ v F' H', Ps F2 H2 F' H' → VaN T.K F' H2 H' v va → Q v H' :=
  fun v F' H' ps hv => g F' σ H' rfl (m.trans (Nx.step m.rep ps)) v (VaN.vaR' (n.trans m) hv)
theorem t_op {r : R2} {p : D → D → Option Va} (im : Im2 T.K r p) {fa fb : En → Rz Od} (h : tO T W (f2 p fa fb) σ H Q) : tOp r (tX T W fa) (tX T W fb) σ H Q := by
  obtain ⟨ρ, F, rep, g⟩ := h
  refine tX_fix rep g rfl fun o1 ρ1 F1 H1 v1 n1 z1 g1 => ?_
  refine tX_fix n1.rep (g1.go n1) rfl fun o2 ρ2 F2 H2 v2 n2 z2 g2 => ?_
  unfold ap2 at g2
  split at g2
  · rename_i a b e1 e2
    obtain ⟨va, hp, g3⟩ := g2.of
    exact im.run F2 H2 v1 v2 a b va Q n2.rep.sub ((z1.mono n2.ext).dq n2.rep e1) (z2.dq n2.rep e2) hp (fin_of n1 n2 g3)
  · exact g2.elim
theorem t_un {r : V → Hp → VK → Prop} {p : D → Option Va} (im : Im1 T.K r p) {fa : En → Rz Od} (h : tO T W (f1 p fa) σ H Q) : tUn r (tX T W fa) σ H Q := by
  obtain ⟨ρ, F, rep, g⟩ := h
  refine tX_fix rep g rfl fun o1 ρ1 F1 H1 v1 n1 z1 g1 => ?_
  unfold ap1 at g1
  split at g1
  · rename_i a e1
    obtain ⟨va, hp, g3⟩ := g1.of
    exact im.run F1 H1 v1 a va Q n1.rep.sub (z1.dq n1.rep e1) hp (fin_of (.refl rep) n1 g3)
  · exact g1.elim
theorem getAll_dq {K : PySem.W.Frag} (r : Rep K ρ F σ H) : ∀ {vs : List V} {os : List Od} {ds : List D}, OdAll K F σ vs os → getAll ρ os = some ds → DqAll K F H vs ds
  | _, _, _, .nil, e => by cases e; exact .nil
  | _, _, ds, .cons a b, e => by
    unfold getAll at e
    split at e
    · rename_i x y e1 e2
      cases e
      exact .cons (a.dq r e1) (getAll_dq r b e2)
    · cases e
theorem t_cb {r : List V → Hp → VK → Prop} {p : List D → Option Va} (im : ImL T.K r p) {fa : En → Rz (List Od)} (h : tO T W (fL p fa) σ H Q) : tCB r (tA T W fa) σ H Q := by
  obtain ⟨ρ, F, rep, g⟩ := h
  refine tA_fix rep g rfl fun os ρ1 F1 H1 vs n1 z1 g1 => ?_
  unfold apL at g1
  split at g1
  · rename_i ds e1
    obtain ⟨va, hp, g3⟩ := g1.of
    exact im.run F1 H1 vs ds va Q n1.rep.sub (getAll_dq n1.rep z1 e1) hp (fin_of (.refl rep) n1 g3)
  · exact g1.elim
variable {a b e : Expr} {es : List Expr} {fa fb : En → Rz Od} {pos : Pos} {p : D → D → Option Va} {r : R2}
theorem do_op {op : Operator} (ho : OpR X (binaryOp op) r) (im : Im2 T.K r p) (ha : DX T W X a fa) (hb : DX T W X b fb) : DO T W X (.BinOp a op b pos) (f2 p fa fb) := ⟨pe_imp (pe_op ho ha.run hb.run) fun _ _ _ h => t_op im h⟩
theorem do_cmp {op : CmpOp} (ho : OpR X (compareOp op) r) (im : Im2 T.K r p) (ha : DX T W X a fa) (hb : DX T W X b fb) (hm : behindInMarks op b = false) : DO T W X (.Compare a [op] [b] pos) (f2 p fa fb) := ⟨pe_imp (pe_cmpR ho ha.run hb.run hm) fun _ _ _ h => t_op im h⟩
theorem do_ix (ho : IxR X r) (im : Im2 T.K r p) (ha : DX T W X a fa) (hb : DX T W X b fb) (hm : PlainIx b) : DO T W X (.Subscript a b pos) (f2 p fa fb) := ⟨pe_imp (pe_ix ho ha.run hb.run hm) fun _ _ _ h => t_op im h⟩
theorem do_un {op : UnaryOp} {r : V → Hp → VK → Prop} {p : D → Option Va} (ho : UnR X (unaryOp op) r) (im : Im1 T.K r p) (ha : DX T W X a fa) : DO T W X (.UnaryOp op a pos) (f1 p fa) := ⟨pe_imp (pe_un ho ha.run) fun _ _ _ h => t_un im h⟩
theorem da_nil : DA T W X [] (fun ρ => .ok [] ρ) := ⟨pa_imp pa_nil fun σ H Q ⟨ρ, F, r, g⟩ => g F σ H rfl (.refl r) [] .nil⟩
def aCons (fa : En → Rz Od) (fr : En → Rz (List Od)) : En → Rz (List Od) := fun ρ => (fa ρ).bind fun o ρ1 => (fr ρ1).bind fun os ρ2 => .ok (o :: os) ρ2
theorem da_cons {fr : En → Rz (List Od)} (ha : DX T W X e fa) (hr : DA T W X es fr) (hs : starEach (e :: es) X.env = (false, eval e X.env) :: starEach es X.env) : DA T W X (e :: es) (aCons fa fr) := ⟨pa_imp (pa_cons ha.run hr.run hs) fun σ H Q ⟨ρ, F, rep, g⟩ => by
  refine tX_fix rep g rfl fun o1 ρ1 F1 H1 v1 n1 z1 g1 => ?_
  refine tA_fix n1.rep (g1.go n1) rfl fun os ρ2 F2 H2 vs n2 z2 g2 => ?_
  exact g2 F2 σ H2 rfl n2 (v1 :: vs) (.cons (z1.mono n2.ext) z2)⟩
end
end Z

/-! ZD: what operators do to data. -/
namespace Z
open PySem PySem.Spec L2
theorem opr_or {X : Cx} {f : Value → Value → Sem Value} {r r' : R2} (a : OpR X f r) (b : OpR X f r') : OpR X f (fun x y H Q => r x y H Q ∨ r' x y H Q) :=
  fun pins s σ H x y v u Q I e1 e2 h => h.elim (a pins s σ H x y v u Q I e1 e2) (b pins s σ H x y v u Q I e1 e2)
theorem callr_or {X : Cx} {f : Value} {r r' : List V → Hp → VK → Prop} (a : CallR X f r) (b : CallR X f r') : CallR X f (fun xs H Q => r xs H Q ∨ r' xs H Q) :=
  fun pins s σ H xs us Q I e h => h.elim (a pins s σ H xs us Q I e) (b pins s σ H xs us Q I e)
section
variable {K : PySem.W.Frag} {F H : Hp} {Q : VK} {p : Addr} {xs : List V} {ds : List D}
/-- behind a new list, a new tuple -/
theorem k_lst (s : Sub F H) (z : DzAll K F xs ds) (k : ∀ v F' H', Ps F H F' H' → VaN K F' H H' v (.fo ds) → Q v H') (np : H p = none) : Q (.ref p) (upd H p (.lst xs)) :=
  k _ F _ (Ps.one s np) ⟨p, xs, rfl, upd_same, z, none_of_sub s np, np⟩
theorem k_tup (s : Sub F H) (z : DzAll K F xs ds) (k : ∀ v F' H', Ps F H F' H' → VaN K F' H H' v (.fz (.tuple ds)) → Q v H') (np : H p = none) : Q (.ref p) (upd H p (.tup xs)) :=
  k _ (upd F p (.tup xs)) _ (Ps.both s np) (.tup (.inl (.inl upd_same)) (z.mono (sub_upd (none_of_sub s np))))
theorem k_v {v : V} {d : D} (s : Sub F H) (z : Dz K F v d) (k : ∀ v F' H', Ps F H F' H' → VaN K F' H H' v (.fz d) → Q v H') : Q v H := k v F H (Ps.refl s) z
end

def pAdd : D → D → Option Va
  | .int i, .int j => some (.fz (.int (i + j)))
  | .list a, .list b => if a.length + b.length ≤ sizeLine then some (.fo (a ++ b)) else none
  | .tuple a, .tuple b => if a.length + b.length ≤ sizeLine then some (.fz (.tuple (a ++ b))) else none
  | .str a, .str b => if a.length + b.length ≤ sizeLine then some (.fz (.str (a ++ b))) else none
  | _, _ => none
abbrev rAddZ (K : PySem.W.Frag) : R2 := fun x y H Q => rI0 (fun i j => .int (i + j)) x y H Q ∨ rCat x y H Q ∨ rCatA K x y H Q ∨ ∃ i j, x = .str i ∧ y = .str j ∧ i.length + j.length ≤ sizeLine ∧ Q (.str (i ++ j)) H
theorem or_add {X : Cx} : OpR X (binaryOp .Add) (rAddZ X.K) := opr_or op_add (opr_or op_cat (opr_or op_catA op_add_str))
theorem im_add {K : PySem.W.Frag} : Im2 K (rAddZ K) pAdd := ⟨fun F H x y d1 d2 va Q s h1 h2 hp k => by
  unfold pAdd at hp
  split at hp
  · cases hp
    exact .inl ⟨_, _, h1.int, h2.int, k_v s (.int _) k⟩
  · split at hp
    · rename_i hl
      cases hp
      obtain ⟨a, xs, rfl, e1, z1⟩ := h1.list s
      obtain ⟨b, ys, rfl, e2, z2⟩ := h2.list s
      exact .inr (.inl ⟨a, b, xs, ys, rfl, rfl, e1, e2, by rw [z1.len, z2.len]; exact hl, fun p np => k_lst s (z1.append z2) k np⟩)
    · cases hp
  · split at hp
    · rename_i hl
      cases hp
      obtain ⟨a, xs, rfl, f1, e1, z1⟩ := h1.tup s
      obtain ⟨b, ys, rfl, f2, e2, z2⟩ := h2.tup s
      refine .inr (.inr (.inl ⟨a, b, xs, ys, rfl, rfl, e1, e2, by rw [z1.len, z2.len]; exact hl, fun e => ?_, fun _ e => ?_, fun _ _ p np => k_tup s (z1.append z2) k np⟩))
      · subst e; cases z1; exact k_v s (.tup f2 z2) k
      · subst e; cases z2; exact k_v s (.tup f1 (by rw [List.append_nil]; exact z1)) k
    · cases hp
  · split at hp
    · rename_i hl
      cases hp
      exact .inr (.inr (.inr ⟨_, _, h1.str, h2.str, hl, k_v s (.str _) k⟩))
    · cases hp
  · cases hp⟩

def pSub : D → D → Option Va
  | .int i, .int j => some (.fz (.int (i - j)))
  | _, _ => none
theorem im_sub {K : PySem.W.Frag} : Im2 K (rI0 fun i j => .int (i - j)) pSub := ⟨fun F H x y d1 d2 va Q s h1 h2 hp k => by
  unfold pSub at hp
  split at hp
  · cases hp
    exact ⟨_, _, h1.int, h2.int, k_v s (.int _) k⟩
  · cases hp⟩
def pMul : D → D → Option Va
  | .int i, .int j => if i.natAbs.log2 + j.natAbs.log2 < 1000000 then some (.fz (.int (i * j))) else none
  | .list a, .int j => if -(2 ^ 63) ≤ j ∧ j < 2 ^ 63 ∧ a.length * j.toNat ≤ sizeLine then some (.fo (List.replicate j.toNat a).flatten) else none
  | .tuple a, .int j => if a ≠ [] ∧ 2 ≤ j ∧ j ≤ 1000 ∧ a.length ≤ 1000 then some (.fz (.tuple (List.replicate j.toNat a).flatten)) else none
  | _, _ => none
abbrev rMulZ (K : PySem.W.Frag) : R2 := fun x y H Q => rI CMulW (fun i j => .int (i * j)) x y H Q ∨ rRep x y H Q ∨ rRepT K x y H Q
theorem or_mul {X : Cx} : OpR X (binaryOp .Mult) (rMulZ X.K) := opr_or op_mulW (opr_or op_rep op_repT)
theorem DzAll.rep {K : PySem.W.Frag} {F : Hp} {xs : List V} {ds : List D} (z : DzAll K F xs ds) : ∀ n : Nat, DzAll K F (List.replicate n xs).flatten (List.replicate n ds).flatten
  | 0 => .nil
  | n + 1 => by
    rw [List.replicate_succ, List.replicate_succ, List.flatten_cons, List.flatten_cons]
    exact z.append (DzAll.rep z n)
theorem DzAll.ne {K : PySem.W.Frag} {F : Hp} {xs : List V} {ds : List D} (z : DzAll K F xs ds) (h : ds ≠ []) : xs ≠ [] := fun e => by
  subst e; cases z; exact h rfl
theorem im_mul {K : PySem.W.Frag} : Im2 K (rMulZ K) pMul := ⟨fun F H x y d1 d2 va Q s h1 h2 hp k => by
  unfold pMul at hp
  split at hp
  · split at hp
    · rename_i hl
      cases hp
      exact .inl ⟨_, _, h1.int, h2.int, hl, k_v s (.int _) k⟩
    · cases hp
  · split at hp
    · rename_i hl
      cases hp
      obtain ⟨a, xs, rfl, e1, z1⟩ := h1.list s
      exact .inr (.inl ⟨a, _, xs, rfl, h2.int, e1, hl.1, hl.2.1, by rw [z1.len]; exact hl.2.2, fun p np => k_lst s (z1.rep _) k np⟩)
    · cases hp
  · split at hp
    · rename_i hl
      cases hp
      obtain ⟨a, xs, rfl, f1, e1, z1⟩ := h1.tup s
      exact .inr (.inr ⟨a, _, xs, rfl, h2.int, e1, z1.ne hl.1, hl.2.1, hl.2.2.1, by rw [z1.len]; exact hl.2.2.2, fun p np => k_tup s (z1.rep _) k np⟩)
    · cases hp
  · cases hp⟩
def pMod : D → D → Option Va
  | .int i, .int j => if j ≠ 0 then some (.fz (.int (i.fmod j))) else none
  | _, _ => none
theorem im_mod {K : PySem.W.Frag} : Im2 K (rI (fun _ j => j ≠ 0) fun i j => .int (i.fmod j)) pMod := ⟨fun F H x y d1 d2 va Q s h1 h2 hp k => by
  unfold pMod at hp
  split at hp
  · split at hp
    · rename_i hl
      cases hp
      exact ⟨_, _, h1.int, h2.int, hl, k_v s (.int _) k⟩
    · cases hp
  · cases hp⟩
def pDiv : D → D → Option Va
  | .int i, .int j => if 0 < j ∧ j.natAbs.log2 < 9000 then some (.fz (.int (i / j))) else none
  | _, _ => none
theorem im_div {K : PySem.W.Frag} : Im2 K (rI CDivW fun i j => .int (i / j)) pDiv := ⟨fun F H x y d1 d2 va Q s h1 h2 hp k => by
  unfold pDiv at hp
  split at hp
  · split at hp
    · rename_i hl
      cases hp
      exact ⟨_, _, h1.int, h2.int, hl, k_v s (.int _) k⟩
    · cases hp
  · cases hp⟩
def pPow : D → D → Option Va
  | .int i, .int j => if 0 ≤ j ∧ j ≤ 1000000 ∧ i.natAbs < 2 ^ 64 then some (.fz (.int (i ^ j.toNat))) else none
  | _, _ => none
theorem im_pow {K : PySem.W.Frag} : Im2 K (rI CPow fun i j => .int (i ^ j.toNat)) pPow := ⟨fun F H x y d1 d2 va Q s h1 h2 hp k => by
  unfold pPow at hp
  split at hp
  · split at hp
    · rename_i hl
      cases hp
      exact ⟨_, _, h1.int, h2.int, hl, k_v s (.int _) k⟩
    · cases hp
  · cases hp⟩
def pEq (a b : D) : Option Va := if SeqAt.shaped a = true ∧ SeqAt.shaped b = true then some (.fz (.bool (PyData.eqv a b))) else none
def pNe (a b : D) : Option Va := if SeqAt.shaped a = true ∧ SeqAt.shaped b = true then some (.fz (.bool (!PyData.eqv a b))) else none
theorem im_eq {K : PySem.W.Frag} : Im2 K (rEqD K) pEq := ⟨fun F H x y d1 d2 va Q s h1 h2 hp k => by
  unfold pEq at hp
  split at hp
  · rename_i c
    cases hp
    exact ⟨d1, d2, h1.dp s (SeqAt.canLay_of_shaped c.1), h2.dp s (SeqAt.canLay_of_shaped c.2), c.1, c.2, k_v s (.bl _) k⟩
  · cases hp⟩
theorem im_ne {K : PySem.W.Frag} : Im2 K (rNeD K) pNe := ⟨fun F H x y d1 d2 va Q s h1 h2 hp k => by
  unfold pNe at hp
  split at hp
  · rename_i c
    cases hp
    exact ⟨d1, d2, h1.dp s (SeqAt.canLay_of_shaped c.1), h2.dp s (SeqAt.canLay_of_shaped c.2), c.1, c.2, k_v s (.bl _) k⟩
  · cases hp⟩
def pCmp (c : Int → Int → Bool) : D → D → Option Va
  | .int i, .int j => some (.fz (.bool (c i j)))
  | _, _ => none
theorem im_cmp {K : PySem.W.Frag} {c : Int → Int → Bool} : Im2 K (rI0 fun i j => .bl (c i j)) (pCmp c) := ⟨fun F H x y d1 d2 va Q s h1 h2 hp k => by
  unfold pCmp at hp
  split at hp
  · cases hp
    exact ⟨_, _, h1.int, h2.int, k_v s (.bl _) k⟩
  · cases hp⟩
def flat : D → Bool
  | .none | .bool _ | .int _ | .str _ => true
  | _ => false
theorem flat_v {K : PySem.W.Frag} {F H : Hp} {v : V} {d : D} (h : Dq K F H v d) (f : flat d = true) : flatV v = true := by
  cases d with
  | none => rw [h.non]; rfl
  | bool b => rw [h.bool]; rfl
  | int b => rw [h.int]; rfl
  | str b => rw [h.str]; rfl
  | _ => cases f
theorem eq_flat {K : PySem.W.Frag} {F H : Hp} {v u : V} {d e : D} (h : Dq K F H v d) (f : flat d = true) (h' : Dq K F H u e) (f' : flat e = true) : eqV v u = PyData.eqv d e := by
  cases d with
  | none => rw [h.non]; cases e with
    | none => rw [h'.non]; rfl
    | bool b => rw [h'.bool]; rfl
    | int b => rw [h'.int]; rfl
    | str b => rw [h'.str]; rfl
    | _ => cases f'
  | bool b => rw [h.bool]; cases e with
    | none => rw [h'.non]; rfl
    | bool b => rw [h'.bool]; rfl
    | int b => rw [h'.int]; rfl
    | str b => rw [h'.str]; rfl
    | _ => cases f'
  | int b => rw [h.int]; cases e with
    | none => rw [h'.non]; rfl
    | bool b => rw [h'.bool]; rfl
    | int b => rw [h'.int]; rfl
    | str b => rw [h'.str]; rfl
    | _ => cases f'
  | str b => rw [h.str]; cases e with
    | none => rw [h'.non]; rfl
    | bool b => rw [h'.bool]; rfl
    | int b => rw [h'.int]; rfl
    | str b => rw [h'.str]; rfl
    | _ => cases f'
  | _ => cases f
theorem any_flat {K : PySem.W.Frag} {F H : Hp} {v : V} {d : D} (h : Dq K F H v d) (f : flat d = true) : ∀ {xs : List V} {ds : List D}, DzAll K F xs ds → ds.all flat = true → xs.all flatV = true ∧ inV v xs = ds.any fun z => PyData.eqv z d
  | _, _, .nil, _ => ⟨rfl, rfl⟩
  | _, _, .cons (v := u) (d := e) a b, g => by
    rw [List.all_cons, Bool.and_eq_true] at g
    obtain ⟨q1, q2⟩ := any_flat h f b g.2
    refine ⟨by rw [List.all_cons, flat_v (.inl a : Dq K F H _ _) g.1, q1]; rfl, ?_⟩
    unfold inV at q2 ⊢
    rw [List.any_cons, List.any_cons, q2, eq_flat (.inl a : Dq K F H _ _) g.1 h f]
/-- x in xs: a list of any data, a tuple of flat ones -/
def inD (d : D) : D → Option Bool
  | .list ds => if SeqAt.shaped d = true ∧ SeqAt.shaped (.list ds) = true then some (ds.any fun z => PyData.eqv z d) else none
  | .tuple ds => if flat d = true ∧ ds.all flat = true then some (ds.any fun z => PyData.eqv z d) else none
  | _ => none
def pIn (a b : D) : Option Va := (inD a b).map fun c => .fz (.bool c)
def pNotIn (a b : D) : Option Va := (inD a b).map fun c => .fz (.bool (!c))
abbrev rInZ (K : PySem.W.Frag) : R2 := fun x y H Q => rInD K x y H Q ∨ rIn K false x y H Q
abbrev rNotInZ (K : PySem.W.Frag) : R2 := fun x y H Q => rNotInD K x y H Q ∨ rIn K true x y H Q
theorem or_in {X : Cx} (hu : X.A.units + 65 < cLine) : OpR X (compareOp .In) (rInZ X.K) := opr_or (op_inD hu) op_in_seq
theorem or_notIn {X : Cx} (hu : X.A.units + 65 < cLine) : OpR X (compareOp .NotIn) (rNotInZ X.K) := opr_or (op_notInD hu) op_notIn_seq
theorem im_in {K : PySem.W.Frag} : Im2 K (rInZ K) pIn := ⟨fun F H x y d1 d2 va Q s h1 h2 hp k => by
  unfold pIn inD at hp
  split at hp
  · split at hp
    · rename_i c
      cases hp
      exact .inl ⟨d1, _, h1.dp s (SeqAt.canLay_of_shaped c.1), h2.dp s (SeqAt.canLay_of_shaped c.2), c.1, c.2, k_v s (.bl _) k⟩
    · cases hp
  · split at hp
    · rename_i c
      cases hp
      obtain ⟨b, ys, rfl, f2, e2, z2⟩ := h2.tup s
      obtain ⟨q1, q2⟩ := any_flat h1 c.1 z2 c.2
      refine .inr ⟨b, ys, rfl, .inr e2, flat_v h1 c.1, q1, ?_⟩
      simp only [Bool.false_eq_true, if_false, q2]
      exact k_v s (.bl _) k
    · cases hp
  · cases hp⟩
theorem im_notIn {K : PySem.W.Frag} : Im2 K (rNotInZ K) pNotIn := ⟨fun F H x y d1 d2 va Q s h1 h2 hp k => by
  unfold pNotIn inD at hp
  split at hp
  · split at hp
    · rename_i c
      cases hp
      exact .inl ⟨d1, _, h1.dp s (SeqAt.canLay_of_shaped c.1), h2.dp s (SeqAt.canLay_of_shaped c.2), c.1, c.2, k_v s (.bl _) k⟩
    · cases hp
  · split at hp
    · rename_i c
      cases hp
      obtain ⟨b, ys, rfl, f2, e2, z2⟩ := h2.tup s
      obtain ⟨q1, q2⟩ := any_flat h1 c.1 z2 c.2
      refine .inr ⟨b, ys, rfl, .inr e2, flat_v h1 c.1, q1, ?_⟩
      simp only [if_true, q2]
      exact k_v s (.bl _) k
    · cases hp
  · cases hp⟩
def isN : D → Bool
  | .none => true
  | _ => false
theorem non_iff {K : PySem.W.Frag} {F H : Hp} {v : V} {d : D} (h : Dq K F H v d) : decide (v = .non) = isN d := by
  rcases h with h | ⟨a, xs, ds, rfl, rfl, _⟩
  · cases h <;> rfl
  · rfl
def pIs (a : D) : D → Option Va
  | .none => some (.fz (.bool (isN a)))
  | _ => none
def pIsNot (a : D) : D → Option Va
  | .none => some (.fz (.bool (!isN a)))
  | _ => none
theorem im_is {K : PySem.W.Frag} : Im2 K (fun x y H Q => y = .non ∧ Q (.bl (decide (x = .non))) H) pIs := ⟨fun F H x y d1 d2 va Q s h1 h2 hp k => by
  unfold pIs at hp
  split at hp
  · cases hp
    exact ⟨h2.non, by rw [non_iff h1]; exact k_v s (.bl _) k⟩
  · cases hp⟩
theorem im_isNot {K : PySem.W.Frag} : Im2 K (fun x y H Q => y = .non ∧ Q (.bl (!decide (x = .non))) H) pIsNot := ⟨fun F H x y d1 d2 va Q s h1 h2 hp k => by
  unfold pIsNot at hp
  split at hp
  · cases hp
    exact ⟨h2.non, by rw [non_iff h1]; exact k_v s (.bl _) k⟩
  · cases hp⟩
/-- xs[i] -/
def pIx : D → D → Option Va
  | .list ds, .int i => (atI ds i).map .fz
  | .tuple ds, .int i => (atI ds i).map .fz
  | .dict [(.none, .list ds)], .int i => (atI ds i).map .fz
  | _, _ => none
theorem DzAll.atI {K : PySem.W.Frag} {F : Hp} {xs : List V} {ds : List D} (z : DzAll K F xs ds) {i : Int} {d : D} (h : L2.atI ds i = some d) : ∃ v, L2.atI xs i = some v ∧ Dz K F v d := by
  unfold L2.atI at h ⊢
  rw [z.len]
  cases e : ixN ds.length i with
  | none => rw [e] at h; cases h
  | some j =>
    rw [e] at h
    exact z.get (i := j) h
theorem im_ix {K : PySem.W.Frag} : Im2 K (rIx K) pIx := ⟨fun F H x y d1 d2 va Q s h1 h2 hp k => by
  unfold pIx at hp
  split at hp
  · obtain ⟨d, e, rfl⟩ := Option.map_eq_some_iff.mp hp
    obtain ⟨a, xs, rfl, e1, z1⟩ := h1.list s
    obtain ⟨v, q1, q2⟩ := z1.atI e
    exact .inl ⟨a, xs, _, v, rfl, h2.int, .inl (.inl e1), q1, k_v s q2 k⟩
  · obtain ⟨d, e, rfl⟩ := Option.map_eq_some_iff.mp hp
    obtain ⟨a, xs, rfl, f1, e1, z1⟩ := h1.tup s
    obtain ⟨v, q1, q2⟩ := z1.atI e
    exact .inr (.inl ⟨a, xs, _, v, rfl, h2.int, e1, q1, k_v s q2 k⟩)
  · obtain ⟨d, e, rfl⟩ := Option.map_eq_some_iff.mp hp
    obtain ⟨a, ns, rfl, e1, rfl⟩ := h1.scr s
    obtain ⟨v, q1, q2⟩ := (DzAll.ofInts (K := K) (F := F) ns).atI e
    exact .inl ⟨a, _, _, v, rfl, h2.int, e1, q1, k_v s q2 k⟩
  · cases hp⟩
def pNeg : D → Option Va
  | .int i => some (.fz (.int (-i)))
  | _ => none
theorem im_neg {K : PySem.W.Frag} : Im1 K (rU fun i => .int (-i)) pNeg := ⟨fun F H x d va Q s h hp k => by
  unfold pNeg at hp
  split at hp
  · cases hp
    exact ⟨_, h.int, k_v s (.int _) k⟩
  · cases hp⟩
end Z

/-! ZE: displays, tests, chains, slices, isinstance, built-in functions. -/
namespace Z
open PySem PySem.Spec L2
def datas : List Od → Option (List D)
  | [] => some []
  | .da d :: os => (datas os).map (d :: ·)
  | .sl _ :: _ => none
theorem datas_z {K : PySem.W.Frag} {F : Hp} {σ : St} : ∀ {vs : List V} {os : List Od} {ds : List D}, OdAll K F σ vs os → datas os = some ds → DzAll K F vs ds
  | _, _, _, .nil, e => by cases e; exact .nil
  | _, _, ds, .cons (o := o) a b, e => by
    cases o with
    | da d =>
      obtain ⟨es, e1, rfl⟩ := Option.map_eq_some_iff.mp e
      exact .cons a (datas_z b e1)
    | sl i => cases e
def oSeq (mk : List D → Va) (fa : En → Rz (List Od)) : En → Rz Va := fun ρ => (fa ρ).bind fun os ρ1 => match datas os with
  | some ds => if ds.length ≤ sizeLine then .ok (mk ds) ρ1 else .no
  | none => .no
def oTup (fa : En → Rz (List Od)) : En → Rz Va := oSeq (fun ds => .fz (.tuple ds)) fa
def oLst (fa : En → Rz (List Od)) : En → Rz Va := oSeq .fo fa
section
variable {T : Pg} {W : WX} {X : Cx} {ρ ρ1 ρ2 : En} {F F1 F2 : Hp} {σ : St} {H H1 H2 : Hp} {Q : VK} {va : Va}
variable {a b c e : Expr} {es : List Expr} {fa fb fc : En → Rz Od} {pos : Pos} {f g : En → Rz Va} {fl : En → Rz (List Od)}
theorem oSeq_inv {mk : List D → Va} {β : Type} {S : St → Prop} {P : Va → En → Hp → St → Hp → Prop} {os : List Od} (h : GX T W ρ F σ H S P (match datas os with
  | some ds => if ds.length ≤ sizeLine then .ok (mk ds) ρ1 else .no
  | none => .no)) : ∃ ds, datas os = some ds ∧ ds.length ≤ sizeLine ∧ GX T W ρ F σ H S P (.ok (mk ds) ρ1) := by
  split at h
  · rename_i ds e
    split at h
    · rename_i hl
      exact ⟨ds, e, hl, h⟩
    · exact h.elim
  · exact h.elim
theorem do_tup {k : Nat} (ha : DA T W X es fl) : DO T W X (.Tuple es k pos) (oTup fl) := ⟨pe_imp (pe_tup ha.run) fun σ H Q ⟨ρ, F, rep, g⟩ => by
  refine tA_fix rep g rfl fun os ρ1 F1 H1 vs n1 z1 g1 => ?_
  obtain ⟨ds, e1, hl, g2⟩ := oSeq_inv (mk := fun ds => .fz (.tuple ds)) (β := Va) g1
  have z := datas_z z1 e1
  exact ⟨by rw [z.len]; exact hl, fun p np => k_tup n1.rep.sub z (fin_of (.refl rep) n1 g2) np⟩⟩
theorem do_lst (ha : DA T W X es fl) : DO T W X (.List es pos) (oLst fl) := ⟨pe_imp (pe_lst ha.run) fun σ H Q ⟨ρ, F, rep, g⟩ => by
  refine tA_fix rep g rfl fun os ρ1 F1 H1 vs n1 z1 g1 => ?_
  obtain ⟨ds, e1, hl, g2⟩ := oSeq_inv (mk := .fo) (β := Va) g1
  have z := datas_z z1 e1
  exact ⟨by rw [z.len]; exact hl, fun p np => k_lst n1.rep.sub z (fin_of (.refl rep) n1 g2) np⟩⟩
/-! ### tests -/
def truth : D → Option Bool
  | .none => some false
  | .bool b => some b
  | .int i => some (i != 0)
  | .str x => if x.length ≤ sizeLine then some ((x.length : Int) != 0) else none
  | .list ds => some (!ds.isEmpty)
  | .tuple ds => some (!ds.isEmpty)
  | .dict _ => none
theorem tru_of {K : PySem.W.Frag} {v : V} {d : D} {k : Bool} (s : Sub F H) (h : Dq K F H v d) (e : truth d = some k) : TruV K v H k := by
  unfold truth at e
  split at e
  · cases e; rw [h.non]; rfl
  · cases e; rw [h.bool]; rfl
  · cases e; rw [h.int]; rfl
  · split at e
    · rename_i hl
      cases e; rw [h.str]; exact ⟨hl, rfl⟩
    · cases e
  · cases e
    obtain ⟨a, xs, rfl, e1, z1⟩ := h.list s
    refine .inl ⟨xs, .inl (.inl e1), ?_⟩
    cases z1 <;> rfl
  · cases e
    obtain ⟨a, xs, rfl, f1, e1, z1⟩ := h.tup s
    refine .inr (.inl ⟨xs, e1, ?_⟩)
    cases z1 <;> rfl
  · cases e
def bX (f : En → Rz Od) : En → Rz Bool := fun ρ => (f ρ).bind fun o ρ1 => match o.get ρ1 with
  | some d => .of ρ1 (truth d)
  | none => .no
/-- an expression as a test, by its truth -/
theorem db_x (ha : DX T W X e fa) (hw : ∀ (whole : Sem Value), PySem.isTrue e X.env whole = do
    let v ← whole
    standAt e.pos
    holding [v] (truthy v)) (hK : T.K = X.K) : DB T W X e (bX fa) := ⟨pt_imp (pt_truth ha.run hw) fun σ H Q ⟨ρ, F, rep, g⟩ => by
  refine tX_fix rep g rfl fun o1 ρ1 F1 H1 v1 n1 z1 g1 => ?_
  split at g1
  · rename_i d e1
    obtain ⟨k, hk, g2⟩ := g1.of
    exact ⟨k, hK ▸ tru_of n1.rep.sub (z1.dq n1.rep e1) hk, g2 F1 σ H1 rfl n1⟩
  · exact g1.elim⟩
def bNot (f : En → Rz Bool) : En → Rz Bool := fun ρ => (f ρ).bind fun b ρ1 => .ok (!b) ρ1
def bAnd (f g : En → Rz Bool) : En → Rz Bool := fun ρ => (f ρ).bind fun b ρ1 => if b = true then g ρ1 else .ok false ρ1
def bOr (f g : En → Rz Bool) : En → Rz Bool := fun ρ => (f ρ).bind fun b ρ1 => if b = true then .ok true ρ1 else g ρ1
theorem db_not {f : En → Rz Bool} (ha : DB T W X e f) : DB T W X (.UnaryOp .Not e pos) (bNot f) := ⟨pt_imp (pt_not ha.run) fun σ H Q ⟨ρ, F, rep, g⟩ =>
  tB_fix rep g rfl fun b ρ1 F1 H1 n1 g1 => g1 F1 σ H1 rfl n1⟩
structure DW (T : Pg) (W : WX) (X : Cx) (e : Expr) (f : En → Rz Bool) : Prop where
  run : PW X e (tB T W f)
theorem DW.db {f : En → Rz Bool} (h : DW T W X e f) : DB T W X e f := ⟨h.run.pt⟩
theorem pw_imp {t t' : TT} (h : PW X e t) (i : ∀ σ H Q, t' σ H Q → t σ H Q) : PW X e t' := ⟨fun wh pins s σ H Q I w => h.run wh pins s σ H Q I (i _ _ _ w)⟩
theorem dw_and1 {f : En → Rz Bool} (ha : DB T W X a f) : DW T W X (.BoolOp .And [a] pos) f := ⟨pw_and1 ha.run⟩
theorem dw_or1 {f : En → Rz Bool} (ha : DB T W X a f) : DW T W X (.BoolOp .Or [a] pos) f := ⟨pw_or1 ha.run⟩
theorem dw_and {f g : En → Rz Bool} (ha : DB T W X a f) (hb : DW T W X (.BoolOp .And (b :: es) pos) g) : DW T W X (.BoolOp .And (a :: b :: es) pos) (bAnd f g) := ⟨pw_imp (pw_and ha.run hb.run) fun σ H Q ⟨ρ, F, rep, g⟩ => by
  refine tB_fix rep g rfl fun k ρ1 F1 H1 n1 g1 => ?_
  cases k with
  | true => exact ⟨ρ1, F1, n1.rep, g1.go n1⟩
  | false => exact g1 F1 σ H1 rfl n1⟩
theorem dw_or {f g : En → Rz Bool} (ha : DB T W X a f) (hb : DW T W X (.BoolOp .Or (b :: es) pos) g) : DW T W X (.BoolOp .Or (a :: b :: es) pos) (bOr f g) := ⟨pw_imp (pw_or ha.run hb.run) fun σ H Q ⟨ρ, F, rep, g⟩ => by
  refine tB_fix rep g rfl fun k ρ1 F1 H1 n1 g1 => ?_
  cases k with
  | true => exact g1 F1 σ H1 rfl n1
  | false => exact ⟨ρ1, F1, n1.rep, g1.go n1⟩⟩
/-! ### and, or, not as values: of True and False -/
def boolV : D → Option Bool
  | .bool b => some b
  | _ => none
def oAnd (f g : En → Rz Va) : En → Rz Va := fun ρ => (f ρ).bind fun va ρ1 => match boolV va.d with
  | some true => g ρ1
  | some false => .ok (.fz (.bool false)) ρ1
  | none => .no
def oOr (f g : En → Rz Va) : En → Rz Va := fun ρ => (f ρ).bind fun va ρ1 => match boolV va.d with
  | some true => .ok (.fz (.bool true)) ρ1
  | some false => g ρ1
  | none => .no
def oNot (f : En → Rz Va) : En → Rz Va := fun ρ => (f ρ).bind fun va ρ1 => match boolV va.d with
  | some b => .ok (.fz (.bool (!b))) ρ1
  | none => .no
theorem boolV_eq {K : PySem.W.Frag} {v : V} {d : D} {b : Bool} (h : Dz K F v d) (e : boolV d = some b) : v = .bl b ∧ d = .bool b := by
  cases h <;> cases e
  exact ⟨rfl, rfl⟩
/-- going on from a later state: the wish speaks of the first one -/
theorem tO_go {f : En → Rz Va} (n : Nx T.K ρ F σ H ρ1 F1 σ H1) (g : GX T W ρ F σ H (· = σ) (PO T ρ σ H Q) (f ρ1)) : tO T W f σ H1 Q :=
  ⟨ρ1, F1, n.rep, (g.go n).mono (fun _ z => z) fun va ρ' F' σ' H' es m q v hv => q v (by
    cases va with
    | fz d => exact hv
    | fo ds =>
      obtain ⟨a, xs, e1, e2, e3, e4, e5, e6⟩ := hv
      refine ⟨a, xs, e1, e2, e3, e4, e5, ?_⟩
      rcases e6 with z | z
      · exact .inl (n.dom _ z)
      · exact (n.ownN z).symm)⟩
theorem do_and1 (ha : DO T W X a f) {op : BoolOp} : DO T W X (.BoolOp op [a] pos) f := ⟨pe_one ha.run⟩
theorem do_and (ha : DO T W X a f) (hb : DO T W X (.BoolOp .And (b :: es) pos) g) : DO T W X (.BoolOp .And (a :: b :: es) pos) (oAnd f g) := ⟨pe_imp (pe_and ha.run hb.run) fun σ H Q ⟨ρ, F, rep, g⟩ => by
  refine tO_fix rep g rfl fun va ρ1 F1 H1 v n1 z g1 => ?_
  split at g1
  · rename_i e1
    exact ⟨true, (boolV_eq z e1).1, tO_go n1 g1⟩
  · rename_i e1
    exact ⟨false, (boolV_eq z e1).1, g1 F1 σ H1 rfl n1 _ (Dz.bl false)⟩
  · exact g1.elim⟩
theorem do_or (ha : DO T W X a f) (hb : DO T W X (.BoolOp .Or (b :: es) pos) g) : DO T W X (.BoolOp .Or (a :: b :: es) pos) (oOr f g) := ⟨pe_imp (pe_or ha.run hb.run) fun σ H Q ⟨ρ, F, rep, g⟩ => by
  refine tO_fix rep g rfl fun va ρ1 F1 H1 v n1 z g1 => ?_
  split at g1
  · rename_i e1
    exact ⟨true, (boolV_eq z e1).1, g1 F1 σ H1 rfl n1 _ (Dz.bl true)⟩
  · rename_i e1
    exact ⟨false, (boolV_eq z e1).1, tO_go n1 g1⟩
  · exact g1.elim⟩
theorem do_not (ha : DO T W X a f) : DO T W X (.UnaryOp .Not a pos) (oNot f) := ⟨pe_imp (pe_not ha.run) fun σ H Q ⟨ρ, F, rep, g⟩ => by
  refine tO_fix rep g rfl fun va ρ1 F1 H1 v n1 z g1 => ?_
  split at g1
  · rename_i b e1
    exact ⟨b, (boolV_eq z e1).1, g1 F1 σ H1 rfl n1 _ (Dz.bl _)⟩
  · exact g1.elim⟩
def oIte (c : En → Rz Bool) (f g : En → Rz Va) : En → Rz Va := fun ρ => (c ρ).bind fun b ρ1 => if b = true then f ρ1 else g ρ1
theorem do_ite {k : En → Rz Bool} (hc : DB T W X c k) (ha : DO T W X a f) (hb : DO T W X b g) : DO T W X (.IfExp c a b pos) (oIte k f g) := ⟨pe_imp (pe_ifExp hc.run ha.run hb.run) fun σ H Q ⟨ρ, F, rep, g⟩ => by
  refine tB_fix rep g rfl fun k ρ1 F1 H1 n1 g1 => ?_
  cases k with
  | true => exact tO_go n1 g1
  | false => exact tO_go n1 g1⟩
/-! ### a < b < c -/
def oChn (p q : D → D → Option Va) (fa fb fc : En → Rz Od) : En → Rz Va := fun ρ => (fa ρ).bind fun o1 ρ1 => (fb ρ1).bind fun o2 ρ2 => (ap2 p o1 o2 ρ2).bind fun va ρ3 => match boolV va.d with
  | some true => (fc ρ3).bind fun o3 ρ4 => ap2 q o2 o3 ρ4
  | some false => .ok (.fz (.bool false)) ρ3
  | none => .no
theorem t_chn {r r' : R2} {p q : D → D → Option Va} (im : Im2 T.K r p) (im' : Im2 T.K r' q) (h : tO T W (oChn p q fa fb fc) σ H Q) : tChain r r' (tX T W fa) (tX T W fb) (tX T W fc) σ H Q := by
  obtain ⟨ρ, F, rep, g⟩ := h
  refine tX_fix rep g rfl fun o1 ρ1 F1 H1 v1 n1 z1 g1 => ?_
  refine tX_fix n1.rep (g1.go n1) rfl fun o2 ρ2 F2 H2 v2 n2 z2 g2 => ?_
  cases e1 : o1.get ρ2 with
  | none => simp only [ap2, e1] at g2; exact g2.elim
  | some d1 =>
  cases e2 : o2.get ρ2 with
  | none => simp only [ap2, e1, e2] at g2; exact g2.elim
  | some d2 =>
  simp only [ap2, e1, e2] at g2
  cases e3 : p d1 d2 with
  | none => rw [e3] at g2; exact g2.elim
  | some va =>
  rw [e3] at g2
  simp only [Rz.of_some, Rz.bind_ok] at g2
  refine im.run F2 H2 v1 v2 d1 d2 va _ n2.rep.sub ((z1.mono n2.ext).dq n2.rep e1) (z2.dq n2.rep e2) e3 fun v F3 H3 ps hv => ?_
  have n12 := n1.trans n2
  have n3 : Nx T.K ρ2 F2 σ H2 ρ2 F3 σ H3 := Nx.step n2.rep ps
  have vb : ∀ {k : Bool}, boolV va.d = some k → v = .bl k := fun {k} ek => by
    cases va with
    | fz d => exact (boolV_eq (show Dz T.K F3 v d from hv) ek).1
    | fo ds => cases ek
  split at g2
  · rename_i ek
    refine ⟨true, vb ek, ?_⟩
    refine tX_fix (ρ := ρ2) (F := F3) n3.rep ((g2.go (n2.trans n3))) rfl fun o3 ρ4 F4 H4 v3 n4 z3 g4 => ?_
    unfold ap2 at g4
    split at g4
    · rename_i x y e4 e5
      obtain ⟨va', hp, g5⟩ := g4.of
      exact im'.run F4 H4 v2 v3 x y va' Q n4.rep.sub ((z2.mono (n3.ext.trans n4.ext)).dq n4.rep e4) (z3.dq n4.rep e5) hp (fin_of (n12.trans n3) n4 g5)
    · exact g4.elim
  · rename_i ek
    exact ⟨false, vb ek, g2 F3 σ H3 rfl (n2.trans n3) _ (Dz.bl false)⟩
  · exact g2.elim
theorem do_chn {op op' : CmpOp} {r r' : R2} {p q : D → D → Option Va} (ho : OpR X (compareOp op) r) (ho' : OpR X (compareOp op') r') (im : Im2 T.K r p) (im' : Im2 T.K r' q) (ha : DX T W X a fa) (hb : DX T W X b fb) (hc : DX T W X c fc) (hm : lastMarks [op, op'] [b, c] = false) :
    DO T W X (.Compare a [op, op'] [b, c] pos) (oChn p q fa fb fc) := ⟨pe_imp (pe_chain ho ho' ha.run hb.run hc.run hm) fun _ _ _ h => t_chn im im' h⟩
end
end Z

/-! ZF: statements' readings, defs and their calls. -/
namespace Z
open PySem PySem.Spec L2
/-- how a block ends -/
inductive Fl where
  | nx
  | rt (va : Va)
  | bk
  | ct
def PF (T : Pg) (D : Ends) (ρ : En) (σ : St) (H : Hp) : Fl → En → Hp → St → Hp → Prop
  | .nx, _, _, σ', H' => D.nx σ' H'
  | .rt va, ρ', F', σ', H' => ∀ v, VaR T.K ρ σ H ρ' F' σ' H' v va → D.rt v H'
  | .bk, _, _, σ', H' => D.bk σ' H'
  | .ct, _, _, σ', H' => D.ct σ' H'
abbrev Any (_ : St) : Prop := True
def tS (T : Pg) (W : WX) (f : En → Rz Fl) : TS := fun D σ H => ∃ ρ F, Rep T.K ρ F σ H ∧ GX T W ρ F σ H Any (PF T D ρ σ H) (f ρ)
structure DS (T : Pg) (W : WX) (X : Cx) (st : Stmt) (f : En → Rz Fl) : Prop where
  run : PS X st (tS T W f)
structure DSs (T : Pg) (W : WX) (X : Cx) (st : List Stmt) (f : En → Rz Fl) : Prop where
  run : PSs X st (tS T W f)
theorem ps_imp {X : Cx} {st : Stmt} {t t' : TS} (h : PS X st t) (i : ∀ D σ H, t' D σ H → t D σ H) : PS X st t' := ⟨fun pins s σ H D I w => h.run pins s σ H D I (i _ _ _ w)⟩
theorem pss_imp {X : Cx} {st : List Stmt} {t t' : TS} (h : PSs X st t) (i : ∀ D σ H, t' D σ H → t D σ H) : PSs X st t' := ⟨fun pins s σ H D I w => h.run pins s σ H D I (i _ _ _ w)⟩
section
variable {T : Pg} {W : WX} {X : Cx} {ρ ρ1 : En} {F F1 : Hp} {σ σ1 : St} {H H1 : Hp} {D : Ends} {f g : En → Rz Fl}
theorem VaR.back {K : PySem.W.Frag} {ρ' : En} {F' : Hp} {σ' : St} {H' : Hp} {v : V} {va : Va} (n : Nx K ρ F σ H ρ1 F1 σ1 H1) (h : VaR K ρ1 σ1 H1 ρ' F' σ' H' v va) : VaR K ρ σ H ρ' F' σ' H' v va := by
  cases va with
  | fz d => exact h
  | fo ds =>
    obtain ⟨a, xs, e1, e2, e3, e4, e5, e6⟩ := h
    refine ⟨a, xs, e1, e2, e3, e4, e5, ?_⟩
    rcases e6 with z | z
    · exact .inl (n.dom _ z)
    · exact (n.ownN z).symm
theorem PF.back {fl : Fl} {ρ' : En} {F' : Hp} {σ' : St} {H' : Hp} (n : Nx T.K ρ F σ H ρ1 F1 σ1 H1) (h : PF T D ρ σ H fl ρ' F' σ' H') : PF T D ρ1 σ1 H1 fl ρ' F' σ' H' := by
  cases fl with
  | nx => exact h
  | rt va => exact fun v q => h v (q.back n)
  | bk => exact h
  | ct => exact h
/-- a statement from a later state -/
theorem tS_go (n : Nx T.K ρ F σ H ρ1 F1 σ1 H1) (g : GX T W ρ F σ H Any (PF T D ρ σ H) (f ρ1)) : tS T W f D σ1 H1 :=
  ⟨ρ1, F1, n.rep, (g.go n).mono (fun _ z => z) fun fl ρ' F' σ' H' _ m q => q.back n⟩
end
/-! ### what a def is handed, what it gives -/
inductive Av where
  | v (d : D)
  | o (ds : List D)
inductive Rc where
  | ok (va : Va) (outs : List Av)
  | ex (c : Nat) (d : D) (outs : List Av)
  | no
def Av.sl : Av → Sl
  | .v d => .vl d
  | .o ds => .ow true ds
structure ArgR (K : PySem.W.Frag) (F H : Hp) (vs : List V) (as : List Av) : Prop where
  sub : Sub F H
  len : vs.length = as.length
  v : ∀ (i : Nat) (d : D), as[i]? = some (.v d) → ∃ v, vs[i]? = some v ∧ Dz K F v d
  o : ∀ (i : Nat) (ds : List D), as[i]? = some (.o ds) → ∃ (a : Addr) (xs : List V), vs[i]? = some (.ref a) ∧ H a = some (.lst xs) ∧ DzAll K F xs ds ∧ F a = none
  sep : ∀ (i j : Nat) (ds es : List D) (a : Addr), i ≠ j → as[i]? = some (.o ds) → as[j]? = some (.o es) → vs[i]? = some (.ref a) → vs[j]? = some (.ref a) → False
def OA (vs : List V) (as : List Av) (a : Addr) : Prop := ∃ (i : Nat) (ds : List D), as[i]? = some (.o ds) ∧ vs[i]? = some (.ref a)
structure CN (K : PySem.W.Frag) (F H : Hp) (vs : List V) (as : List Av) (F' H' : Hp) (outs : List Av) : Prop where
  ext : Sub F F'
  sub : Sub F' H'
  keep : ∀ a o, H a = some o → ¬ OA vs as a → H' a = some o
  dom : ∀ a, H' a = none → H a = none
  new : ∀ a o, F' a = some o → F a = some o ∨ H a = none
  outs : ∀ (i : Nat) (ds : List D), outs[i]? = some (.o ds) → ∃ (a : Addr) (xs : List V), vs[i]? = some (.ref a) ∧ H' a = some (.lst xs) ∧ DzAll K F' xs ds ∧ F' a = none
def spZ (T : Pg) (n : Nat) (φ : List Av → Rc) : Sp := fun vs H Q E => ∃ F as, ArgR T.K F H vs as ∧ as.length = n ∧ match φ as with
  | .ok va outs => ∀ v F' H', CN T.K F H vs as F' H' outs → VaN T.K F' H H' v va → Q v H'
  | .ex c d outs => ∀ F' H' cv fl dx v, T.ex[c]? = some (cv, fl) → CN T.K F H vs as F' H' outs → H' dx = some (.xd [(fl, v)]) → Dz T.K F' v d → E cv (some dx) H'
  | .no => False
def entry (m : Nat) (as : List Av) : En := as.map Av.sl ++ List.replicate (m - as.length) .un
def outsOf : List Av → En → List Av
  | .v d :: as, _ :: ρ => .v d :: outsOf as ρ
  | .o _ :: as, .ow _ ds :: ρ => .o ds :: outsOf as ρ
  | .o _ :: as, _ :: ρ => .v .none :: outsOf as ρ
  | _, _ => []
def runF (m : Nat) (body : En → Rz Fl) (as : List Av) : Rc := match body (entry m as) with
  | .ok .nx ρ' => .ok (.fz .none) (outsOf as ρ')
  | .ok (.rt va) ρ' => .ok va (outsOf as ρ')
  | .ex c d ρ' => .ex c d (outsOf as ρ')
  | _ => .no
theorem outsOf_get : ∀ {as : List Av} {ρ : En} {i : Nat} {ds : List D}, (outsOf as ρ)[i]? = some (.o ds) → (∃ es, as[i]? = some (.o es)) ∧ ∃ p, ρ[i]? = some (.ow p ds)
  | .v d :: as, s :: ρ, i, ds, h => by
    cases i with
    | zero => cases h
    | succ i => exact outsOf_get (as := as) (ρ := ρ) (i := i) (by simpa [outsOf] using h)
  | .o es :: as, .ow p ds' :: ρ, i, ds, h => by
    cases i with
    | zero =>
      have e : Av.o ds' = Av.o ds := by simpa [outsOf] using h
      cases e
      exact ⟨⟨es, rfl⟩, p, rfl⟩
    | succ i => exact outsOf_get (as := as) (ρ := ρ) (i := i) (by simpa [outsOf] using h)
  | .o es :: as, .un :: ρ, i, ds, h => by
    cases i with
    | zero => cases h
    | succ i => exact outsOf_get (as := as) (ρ := ρ) (i := i) (by simpa [outsOf] using h)
  | .o es :: as, .vl _ :: ρ, i, ds, h => by
    cases i with
    | zero => cases h
    | succ i => exact outsOf_get (as := as) (ρ := ρ) (i := i) (by simpa [outsOf] using h)
  | [], _, i, ds, h => by simp [outsOf] at h
  | .v _ :: _, [], i, ds, h => by simp [outsOf] at h
  | .o _ :: _, [], i, ds, h => by simp [outsOf] at h
theorem entry_get {m : Nat} {as : List Av} {i : Nat} {s : Sl} (h : (entry m as)[i]? = some s) : (∃ a, as[i]? = some a ∧ s = a.sl) ∨ (as.length ≤ i ∧ s = .un) := by
  unfold entry at h
  by_cases hi : i < as.length
  · rw [List.getElem?_append_left (by simpa using hi), List.getElem?_map, List.getElem?_eq_getElem hi] at h
    cases h
    exact .inl ⟨_, List.getElem?_eq_getElem hi, rfl⟩
  · rw [List.getElem?_append_right (by simpa using Nat.le_of_not_lt hi), List.getElem?_replicate] at h
    split at h
    · cases h; exact .inr ⟨Nat.le_of_not_lt hi, rfl⟩
    · cases h
theorem start_get {N : List Str} {vs : List V} {i : Nat} {v : V} (h : vs[i]? = some v) : (L2.start N vs)[i]? = some (some v) := by
  unfold L2.start
  have hi : i < vs.length := (List.getElem?_eq_some_iff.mp h).1
  rw [List.getElem?_append_left (by simpa using hi), List.getElem?_map, h]
  rfl
theorem start_inv {N : List Str} {vs : List V} {i : Nat} {v : V} (h : (L2.start N vs)[i]? = some (some v)) : vs[i]? = some v := by
  unfold L2.start at h
  by_cases hi : i < vs.length
  · rw [List.getElem?_append_left (by simpa using hi), List.getElem?_map] at h
    cases e : vs[i]? with
    | none => rw [e] at h; cases h
    | some a => rw [e] at h; cases h; rfl
  · rw [List.getElem?_append_right (by simpa using Nat.le_of_not_lt hi), List.getElem?_replicate] at h
    split at h <;> cases h
section
variable {K : PySem.W.Frag} {F H F' H' : Hp} {vs : List V} {as : List Av} {N : List Str} {ρ' : En} {σ' : St}
theorem rep_entry (a : ArgR K F H vs as) (hl : as.length ≤ N.length) : Rep K (entry N.length as) F (L2.start N vs) H where
  len := by
    unfold entry L2.start
    rw [List.length_append, List.length_append, List.length_map, List.length_map, List.length_replicate, List.length_replicate, a.len]
  sub := a.sub
  vl := fun i d h => by
    rcases entry_get h with ⟨b, e, z⟩ | ⟨_, z⟩
    · cases b with
      | v d' =>
        cases z
        obtain ⟨v, e1, e2⟩ := a.v i _ e
        exact ⟨v, start_get e1, e2⟩
      | o ds => cases z
    · cases z
  ow := fun i p ds h => by
    rcases entry_get h with ⟨b, e, z⟩ | ⟨_, z⟩
    · cases b with
      | v d' => cases z
      | o ds =>
        cases z
        obtain ⟨x, xs, e1, e2, e3, e4⟩ := a.o i _ e
        exact ⟨x, xs, start_get e1, e2, e3, e4⟩
    · cases z
  sep := fun i j p q ds es x hij h1 h2 g1 g2 => by
    rcases entry_get h1 with ⟨b, e, z⟩ | ⟨_, z⟩
    · rcases entry_get h2 with ⟨b', e', z'⟩ | ⟨_, z'⟩
      · cases b with
        | v d => cases z
        | o ds1 =>
          cases b' with
          | v d => cases z'
          | o ds2 => exact a.sep i j _ _ x hij e e' (start_inv g1) (start_inv g2)
      · cases z'
    · cases z
theorem ow_entry {a : Addr} (h : Ow (entry N.length as) (L2.start N vs) a) : OA vs as a := by
  obtain ⟨i, p, ds, h1, h2⟩ := h
  rcases entry_get h1 with ⟨b, e, z⟩ | ⟨_, z⟩
  · cases b with
    | v d => cases z
    | o ds => exact ⟨i, ds, e, start_inv h2⟩
  · cases z
theorem owN_entry {a : Addr} (h : OwN (entry N.length as) (L2.start N vs) a) : False := by
  obtain ⟨i, ds, h1, h2⟩ := h
  rcases entry_get h1 with ⟨b, e, z⟩ | ⟨_, z⟩
  · cases b <;> cases z
  · cases z
/-- a body's end, as the caller sees it -/
theorem cn_of (n : Nx K (entry N.length as) F (L2.start N vs) H ρ' F' σ' H') (hl : as.length ≤ N.length) : CN K F H vs as F' H' (outsOf as ρ') where
  ext := n.ext
  sub := n.rep.sub
  keep := fun a o h no => n.keep a o h fun z => no (ow_entry z)
  dom := n.dom
  new := fun a o h => by
    rcases n.new a o h with z | z | z
    · exact .inl z
    · exact .inr z
    · exact (owN_entry z).elim
  outs := fun i ds h => by
    obtain ⟨⟨es, e1⟩, p, e2⟩ := outsOf_get h
    obtain ⟨a, xs, g1, g2, g3, g4⟩ := n.rep.ow i p ds e2
    have e3 : (entry N.length as)[i]? = some (.ow true es) := by
      have hi := (List.getElem?_eq_some_iff.mp e1).1
      unfold entry
      rw [List.getElem?_append_left (by simpa using hi), List.getElem?_map, e1]
      rfl
    obtain ⟨_, e4⟩ := n.pin i es e3
    rw [e4] at g1
    exact ⟨a, xs, start_inv g1, g2, g3, g4⟩
theorem van_of {v : V} {va : Va} (h : VaR K (entry N.length as) (L2.start N vs) H ρ' F' σ' H' v va) : VaN K F' H H' v va := by
  cases va with
  | fz d => exact h
  | fo ds =>
    obtain ⟨a, xs, e1, e2, e3, e4, e5, e6⟩ := h
    exact ⟨a, xs, e1, e2, e3, e4, e6.elim id fun z => (owN_entry z).elim⟩
end
/-- a def keeps its promise wherever no container is being shown -/
structure FnG (P : Program) (w : World) (K : PySem.W.Frag) (mg : Str → Option Value) (base : Heap) (k : Nat) (f : Addr) (fd : FuncData) (ps : List Str) (sp : Sp) : Prop where
  len : ∀ vs H Q E, sp vs H Q E → vs.length = ps.length
  run : ∀ (A : Around) (outer : List Env) (s : Shared) (H : Hp) (args : Args) (us : List Value) (vs : List V) (Q : VK) (E : XK), A.guards = some [] → Room k A → Env0 P w K mg base A outer s H → BindsTo s fd args (ps.zip us) → Vals vs us →
    sp vs H Q E → codeAny (model P w) A (.call (.ref f) args) (CR (L2.CX P w) outer P w H s Q E) s
theorem FnG.mono {P : Program} {w : World} {K : PySem.W.Frag} {mg : Str → Option Value} {base : Heap} {j k : Nat} {f : Addr} {fd : FuncData} {ps : List Str} {sp : Sp} (G : FnG P w K mg base j f fd ps sp) (h : j ≤ k) : FnG P w K mg base k f fd ps sp :=
  ⟨G.len, fun A outer s H args us vs Q E g hr => G.run A outer s H args us vs Q E g (hr.mono h)⟩
section
variable {T : Pg} {W : WX} {X : Cx} {k : Nat} {f : Addr} {fd : FuncData} {ps : List Str} {sp : Sp} {σ : St} {H : Hp} {s : Shared} {pins : List (Addr × Obj)}
/-- the callee runs; what it lets out is taken at these slots -/
theorem call_g {Q : VK} {args : Args} {us : List Value} {vs : List V} (G : FnG X.prog X.w X.K X.mg X.base k f fd ps sp) (hg : X.A.guards = some []) (hr : Room k X.A) (tk : Takes X W) (I : Inv X pins σ H s)
    (hb : BindsTo s fd args (ps.zip us)) (r : Vals vs us) (h : sp vs H Q fun c d H' => W c d σ H') : codeAny (model X.prog X.w) X.A (.call (.ref f) args) (fun r s' => match r with
      | .ok (.ret u) => EP X pins σ Q u s'
      | .ok _ => False
      | .error e => X.xe e s') s := by
  refine codeAny_mono (G.run X.A X.stack s H args us vs Q _ hg hr I.env0 hb r h) fun r s' hq => ?_
  match r, hq with
  | .error e, hq => exact tk e s' (XE.of_call I (fun _ _ _ z => z) hq)
  | .ok (.ret u), hq => exact I.after hq
  | .ok .next, hq => exact hq.elim
  | .ok .brk, hq => exact hq.elim
  | .ok .cont, hq => exact hq.elim
end
end Z

/-! ZG: a def by its body; calls. -/
namespace Z
open PySem PySem.Spec L2 PyProof.Rows
section
variable {P : Program} {w : World} {K : PySem.W.Frag} {mg : Str → Option Value} {base : Heap} {f : Addr} {name qual : Str} {params : Arguments} {body : List Stmt} {scope : Scope} {dvs : List V} {kws : List (Str × V)} {fd : FuncData} {N ps : List Str} {sp : Sp} {k : Nat}
theorem guards_deeper {A : Around} {env : Env} (h : A.guards = some []) : (A.deeper env).guards = some [] := by
  obtain ⟨hd, d, fr, gs, u⟩ := A
  cases h
  first
    | rfl
    | simp [Around.deeper]
theorem fnG_of (Fd : FunD K name qual params body scope dvs kws f fd) (S : FnScope N ps scope) (len : ∀ vs H Q E, sp vs H Q E → vs.length = ps.length)
    (hbody : ∀ (cdv : Value) (A : Around) (outer : List Env) (s : Shared) (H : Hp) (vs : List V) (Q : VK) (E : XK), (A.deeper (envOfC qual scope s.heap.objs.size f cdv)).guards = some [] →
      Room k (A.deeper (envOfC qual scope s.heap.objs.size f cdv)) → sp vs H Q E →
      ∃ t, PSs (cxOf (L2.CX P w) P w K mg base N qual scope f cdv A outer s H E) body t ∧ t { nx := fun _ H' => Q .non H', rt := Q } (L2.start N vs) H) : FnG P w K mg base (k + 1) f fd ps sp := by
  obtain ⟨oc, od, dV, kV, doc, pm, an, cdv, ct, osl, rfl, lk, hcd, _, _⟩ := Fd.ex
  constructor
  · exact len
  intro A outer s H args us vs Q E hg hr e0 hb r hsp
  have lenV := len _ _ _ _ hsp
  have kept : ∀ b o, base.get? b = some o → s.heap.get? b = some o := fun b o e => (e0.bs b o e).1
  have Kin : K.In s.heap := e0.mod.kin.keeps kept
  have noLim : s.heap.NoLimit := e0.mod.nolimit.keeps kept
  have kinds : ∀ y ∈ ps.zip us, scope.names.lookup y.1 = some .local ∨ (scope.names.lookup y.1 = some .cell ∧ ((cellsFrom (s.heap.objs.size + 1) scope.names []).lookup y.1).isSome = true) := by
    rintro ⟨n, v⟩ hy
    have hn := S.par n (List.of_mem_zip hy).1
    exact hn.imp id fun q => ⟨q, PySem.W.cellsFrom_some _ _ _ (Or.inl q)⟩
  apply codeAny_call_function hr.depth (Kin _ _ lk) rfl S.co S.gen rfl (PySem.W.codeRec_of Kin hcd)
  apply hb
  refine wpAny_newFunctionEnv_cells S.kind kinds ?_
  rintro _ rfl s1 x
  refine ⟨noLim.keeps x.toInCall.keep, ?_⟩
  apply codeAny_func
  obtain ⟨t, ht, hq⟩ := hbody cdv A outer s H vs Q E (guards_deeper hg) (hr.deeper _) hsp
  have I := inv_start (P := P) (w := w) (mg := mg) (CX := L2.CX P w) (E := E) S hr.hd e0 lenV r x
  refine wpAny_mono (ht.run [] s1 (L2.start N vs) H _ I hq) ?_ fun e s' z => z
  intro fl s' hs
  match fl, hs with
  | .ret u, ⟨v, σ', H', J, rv, q⟩ => exact ⟨v, H', J.os, J.bare, J.base, J.hok, rv, q⟩
  | .next, ⟨σ', H', J, q⟩ => exact ⟨.non, H', J.os, J.bare, J.base, J.hok, rfl, q⟩
  | .brk, ⟨_, _, _, q⟩ => exact q.elim
  | .cont, ⟨_, _, _, q⟩ => exact q.elim
/-- a def is what runF makes of its body's reading -/
theorem fnZ_of {T : Pg} {g : En → Rz Fl} (hK : T.K = K) (Fd : FunD K name qual params body scope dvs kws f fd) (S : FnScope N ps scope) (hl : ps.length ≤ N.length)
    (hbody : ∀ (cdv : Value) (A : Around) (outer : List Env) (s : Shared) (H : Hp) (E : XK), (A.deeper (envOfC qual scope s.heap.objs.size f cdv)).guards = some [] →
      Room k (A.deeper (envOfC qual scope s.heap.objs.size f cdv)) → DSs T (fun c d _ H => E c d H) (cxOf (L2.CX P w) P w K mg base N qual scope f cdv A outer s H E) body g) :
    FnG P w K mg base (k + 1) f fd ps (spZ T ps.length (runF N.length g)) := by
  refine fnG_of Fd S (fun vs H Q E h => ?_) fun cdv A outer s H vs Q E hg hr h => ⟨_, (hbody cdv A outer s H E hg hr).run, ?_⟩
  · obtain ⟨F, as, a, hn, _⟩ := h
    rw [a.len, hn]
  · obtain ⟨F, as, a, hn, h⟩ := h
    have hl' : as.length ≤ N.length := by omega
    refine ⟨entry N.length as, F, rep_entry a hl', ?_⟩
    unfold runF at h
    cases e : g (entry N.length as) with
    | no => rw [e] at h; exact h
    | ex c d ρ' =>
      rw [e] at h
      exact fun F' σ' H' cv fl dx v _ e1 n e2 z => h F' H' cv fl dx v e1 (cn_of n hl') e2 z
    | ok fl ρ' =>
      rw [e] at h
      intro F' σ' H' _ n
      cases fl with
      | nx => exact h .non F' H' (cn_of n hl') Dz.non
      | rt va => exact fun v hv => h v F' H' (cn_of n hl') (van_of hv)
      | bk => exact h
      | ct => exact h
end
/-! ### calls -/
def avOf (ρ : En) : List Od → Option (List Av)
  | [] => some []
  | .da d :: os => (avOf ρ os).map (.v d :: ·)
  | .sl i :: os => match ρ[i]? with
    | some (.ow _ ds) => (avOf ρ os).map (.o ds :: ·)
    | _ => none
def odSl : List Od → List Nat
  | [] => []
  | .da _ :: os => odSl os
  | .sl i :: os => i :: odSl os
def setOuts (ρ : En) : List Od → List Av → Option En
  | [], _ => some ρ
  | .da _ :: os, _ :: avs => setOuts ρ os avs
  | .sl i :: os, .o ds :: avs => match ρ[i]? with
    | some (.ow p _) => setOuts (ρ.set i (.ow p ds)) os avs
    | _ => none
  | _, _ => none
def aft (ρ : En) (os : List Od) : Rc → Rz Va
  | .ok va outs => match setOuts ρ os outs with
    | some ρ' => .ok va ρ'
    | none => .no
  | .ex c d outs => match setOuts ρ os outs with
    | some ρ' => .ex c d ρ'
    | none => .no
  | .no => .no
def apF (n : Nat) (φ : List Av → Rc) (os : List Od) (ρ : En) : Rz Va := match avOf ρ os with
  | some as => if as.length = n ∧ (odSl os).Nodup then aft ρ os (φ as) else .no
  | none => .no
section
variable {K : PySem.W.Frag} {ρ ρ' : En} {F F' : Hp} {σ : St} {H H' : Hp} {vs : List V} {os : List Od} {as outs : List Av}
theorem avOf_len : ∀ {os : List Od} {as : List Av}, avOf ρ os = some as → as.length = os.length
  | [], as, h => by cases h; rfl
  | .da d :: os, as, h => by
    obtain ⟨bs, e, rfl⟩ := Option.map_eq_some_iff.mp h
    exact congrArg (· + 1) (avOf_len e)
  | .sl i :: os, as, h => by
    unfold avOf at h
    split at h
    · obtain ⟨bs, e, rfl⟩ := Option.map_eq_some_iff.mp h
      exact congrArg (· + 1) (avOf_len e)
    · cases h
theorem avOf_v : ∀ {os : List Od} {as : List Av} {vs : List V} {i : Nat} {d : D}, avOf ρ os = some as → OdAll K F σ vs os → as[i]? = some (.v d) → ∃ v, vs[i]? = some v ∧ Dz K F v d
  | [], as, _, i, d, h, _, e => by cases h; simp at e
  | .da d' :: os, as, _, i, d, h, .cons a b, e => by
    obtain ⟨bs, e1, rfl⟩ := Option.map_eq_some_iff.mp h
    cases i with
    | zero => simp at e; subst e; exact ⟨_, rfl, a⟩
    | succ i =>
      obtain ⟨v, q1, q2⟩ := avOf_v (i := i) (d := d) e1 b (by simpa using e)
      exact ⟨v, by simpa using q1, q2⟩
  | .sl j :: os, as, _, i, d, h, .cons a b, e => by
    unfold avOf at h
    split at h
    · obtain ⟨bs, e1, rfl⟩ := Option.map_eq_some_iff.mp h
      cases i with
      | zero => simp at e
      | succ i =>
        obtain ⟨v, q1, q2⟩ := avOf_v (i := i) (d := d) e1 b (by simpa using e)
        exact ⟨v, by simpa using q1, q2⟩
    · cases h
theorem avOf_o : ∀ {os : List Od} {as : List Av} {vs : List V} {i : Nat} {ds : List D}, avOf ρ os = some as → OdAll K F σ vs os → as[i]? = some (.o ds) → ∃ (j : Nat) (p : Bool) (v : V), os[i]? = some (.sl j) ∧ ρ[j]? = some (.ow p ds) ∧ vs[i]? = some v ∧ σ[j]? = some (some v)
  | [], as, _, i, d, h, _, e => by cases h; simp at e
  | .da d' :: os, as, _, i, d, h, .cons a b, e => by
    obtain ⟨bs, e1, rfl⟩ := Option.map_eq_some_iff.mp h
    cases i with
    | zero => simp at e
    | succ i =>
      obtain ⟨j, p, v, q1, q2, q3, q4⟩ := avOf_o (i := i) (ds := d) e1 b (by simpa using e)
      exact ⟨j, p, v, by simpa using q1, q2, by simpa using q3, q4⟩
  | .sl j :: os, as, _, i, d, h, .cons (v := u) a b, e => by
    unfold avOf at h
    split at h
    · rename_i p ds' hρ
      obtain ⟨bs, e1, rfl⟩ := Option.map_eq_some_iff.mp h
      cases i with
      | zero => simp at e; subst e; exact ⟨j, p, u, rfl, hρ, rfl, a⟩
      | succ i =>
        obtain ⟨j', p, v, q1, q2, q3, q4⟩ := avOf_o (i := i) (ds := d) e1 b (by simpa using e)
        exact ⟨j', p, v, by simpa using q1, q2, by simpa using q3, q4⟩
    · cases h
theorem odSl_ne : ∀ {os : List Od} {i j a b : Nat}, (odSl os).Nodup → i ≠ j → os[i]? = some (.sl a) → os[j]? = some (.sl b) → a ≠ b
  | [], i, j, a, b, _, _, h, _ => by simp at h
  | .da d :: os, i, j, a, b, nd, hij, h1, h2 => by
    cases i with
    | zero => simp at h1
    | succ i =>
      cases j with
      | zero => simp at h2
      | succ j => exact odSl_ne (os := os) (i := i) (j := j) nd (by omega) (by simpa using h1) (by simpa using h2)
  | .sl c :: os, i, j, a, b, nd, hij, h1, h2 => by
    have nd' := List.nodup_cons.mp (show (c :: odSl os).Nodup from nd)
    have mem : ∀ {os : List Od} {i a : Nat}, os[i]? = some (Od.sl a) → a ∈ odSl os := by
      intro os
      induction os with
      | nil => intro i a h; simp at h
      | cons o os ih =>
        intro i a h
        cases i with
        | zero => simp at h; subst h; exact List.mem_cons_self
        | succ i =>
          have q := ih (i := i) (a := a) (by simpa using h)
          cases o with
          | da d => exact q
          | sl c => exact List.mem_cons_of_mem _ q
    cases i with
    | zero =>
      cases j with
      | zero => exact absurd rfl hij
      | succ j =>
        simp at h1; subst h1
        intro e; subst e
        exact nd'.1 (mem (i := j) (by simpa using h2))
    | succ i =>
      cases j with
      | zero =>
        simp at h2; subst h2
        intro e; subst e
        exact nd'.1 (mem (i := i) (by simpa using h1))
      | succ j => exact odSl_ne (os := os) (i := i) (j := j) nd'.2 (by omega) (by simpa using h1) (by simpa using h2)
theorem argR_of (r : Rep K ρ F σ H) (h : avOf ρ os = some as) (z : OdAll K F σ vs os) (nd : (odSl os).Nodup) : ArgR K F H vs as where
  sub := r.sub
  len := by
    rw [avOf_len h]
    clear h nd r
    induction z with
    | nil => rfl
    | cons a b ih => exact congrArg (· + 1) ih
  v := fun i d e => avOf_v h z e
  o := fun i ds e => by
    obtain ⟨j, p, v, q1, q2, q3, q4⟩ := avOf_o h z e
    obtain ⟨a, xs, e1, e2, e3, e4⟩ := r.ow j p ds q2
    rw [q4] at e1; cases e1
    exact ⟨a, xs, q3, e2, e3, e4⟩
  sep := fun i j ds es a hij h1 h2 g1 g2 => by
    obtain ⟨j1, p1, v1, q1, q2, q3, q4⟩ := avOf_o h z h1
    obtain ⟨j2, p2, v2, w1, w2, w3, w4⟩ := avOf_o h z h2
    rw [g1] at q3; cases q3
    rw [g2] at w3; cases w3
    exact r.sep j1 j2 _ _ _ _ a (odSl_ne nd hij q1 w1) q2 w2 q4 w4
theorem oa_ow (h : avOf ρ os = some as) (z : OdAll K F σ vs os) {a : Addr} (q : OA vs as a) : Ow ρ σ a := by
  obtain ⟨i, ds, e1, e2⟩ := q
  obtain ⟨j, p, v, q1, q2, q3, q4⟩ := avOf_o h z e1
  rw [e2] at q3; cases q3
  exact ⟨j, p, ds, q2, q4⟩
/-- what slots hold when the changed lists are told, one by one -/
theorem set_outs : ∀ {os : List Od} {outs : List Av} {ρ : En}, setOuts ρ os outs = some ρ' →
    ρ'.length = ρ.length ∧ (∀ (i : Nat) (d : D), ρ'[i]? = some (.vl d) → ρ[i]? = some (.vl d)) ∧ (∀ (i : Nat) (p : Bool) (ds : List D), ρ'[i]? = some (.ow p ds) →
      (∃ es, ρ[i]? = some (.ow p es)) ∧ ((ρ[i]? = some (.ow p ds) ∧ i ∉ odSl os) ∨ ∃ j : Nat, os[j]? = some (Od.sl i) ∧ outs[j]? = some (Av.o ds))) ∧ ∀ (i : Nat) (p : Bool) (es : List D), ρ[i]? = some (.ow p es) → ∃ ds, ρ'[i]? = some (.ow p ds)
  | [], _, ρ, h => by
    cases h
    exact ⟨rfl, fun _ _ e => e, fun i p ds e => ⟨⟨ds, e⟩, .inl ⟨e, by simp [odSl]⟩⟩, fun _ _ _ e => ⟨_, e⟩⟩
  | .da d :: os, o :: outs, ρ, h => by
    obtain ⟨h1, h2, h3, h4⟩ := set_outs (os := os) (outs := outs) (ρ := ρ) (by simpa [setOuts] using h)
    refine ⟨h1, h2, fun i p ds e => ?_, h4⟩
    obtain ⟨q1, q2⟩ := h3 i p ds e
    refine ⟨q1, q2.imp id ?_⟩
    rintro ⟨j, w1, w2⟩
    exact ⟨j + 1, by simpa using w1, by simpa using w2⟩
  | .sl c :: os, .o ds' :: outs, ρ, h => by
    unfold setOuts at h
    split at h
    · rename_i p0 es0 hρ
      obtain ⟨h1, h2, h3, h4⟩ := set_outs (os := os) (outs := outs) h
      have hc : c < ρ.length := (List.getElem?_eq_some_iff.mp hρ).1
      refine ⟨by rw [h1, List.length_set], fun i d e => ?_, fun i p ds e => ?_, fun i p es e => ?_⟩
      · rcases get_set_un (h2 i d e) with ⟨_, z⟩ | ⟨_, z⟩
        · cases z
        · exact z
      · obtain ⟨⟨es, q1⟩, q2⟩ := h3 i p ds e
        have own : ∃ es, ρ[i]? = some (.ow p es) := by
          rcases get_set_un q1 with ⟨z1, z⟩ | ⟨_, z⟩
          · cases z; subst z1; exact ⟨_, hρ⟩
          · exact ⟨_, z⟩
        refine ⟨own, ?_⟩
        rcases q2 with ⟨q2, q3⟩ | ⟨j, w1, w2⟩
        · rcases get_set_un q2 with ⟨z1, z⟩ | ⟨z1, z⟩
          · cases z; subst z1
            exact .inr ⟨0, rfl, rfl⟩
          · refine .inl ⟨z, fun m => ?_⟩
            rcases List.mem_cons.mp (show i ∈ c :: odSl os from m) with m | m
            · exact z1 m
            · exact q3 m
        · exact .inr ⟨j + 1, by simpa using w1, by simpa using w2⟩
      · by_cases hi : i = c
        · subst hi
          rw [hρ] at e; cases e
          exact h4 i p0 ds' (List.getElem?_set_self hc)
        · exact h4 i p es (by rw [List.getElem?_set_ne (Ne.symm hi)]; exact e)
    · cases h
  | .da d :: os, [], ρ, h => by simp [setOuts] at h
  | .sl c :: os, [], ρ, h => by simp [setOuts] at h
  | .sl c :: os, .v d :: outs, ρ, h => by simp [setOuts] at h
/-- behind a call -/
theorem nx_call (r : Rep K ρ F σ H) (h : avOf ρ os = some as) (z : OdAll K F σ vs os) (c : CN K F H vs as F' H' outs) (so : setOuts ρ os outs = some ρ') : Nx K ρ F σ H ρ' F' σ H' := by
  obtain ⟨s1, s2, s3, s4⟩ := set_outs so
  have own : ∀ a, Ow ρ' σ a → Ow ρ σ a := fun a ⟨i, p, ds, e1, e2⟩ => let ⟨⟨es, q⟩, _⟩ := s3 i p ds e1; ⟨i, p, es, q, e2⟩
  have os_v : ∀ {os : List Od} {vs : List V} {j i : Nat}, OdAll K F σ vs os → os[j]? = some (Od.sl i) → ∃ v, vs[j]? = some v ∧ σ[i]? = some (some v) := by
    intro os vs j i z
    induction z generalizing j with
    | nil => intro e; simp at e
    | cons a b ih =>
      intro e
      cases j with
      | zero => simp at e; subst e; exact ⟨_, rfl, a⟩
      | succ j => obtain ⟨v, q1, q2⟩ := ih (j := j) (by simpa using e); exact ⟨v, by simpa using q1, q2⟩
  have in_od : ∀ {os : List Od} {as : List Av} {i : Nat} {d : Nat}, avOf ρ os = some as → os[i]? = some (Od.sl d) → d ∈ odSl os := by
    intro os
    induction os with
    | nil => intro as i d _ e; simp at e
    | cons o os ih =>
      intro as i d h e
      cases i with
      | zero => simp at e; subst e; exact List.mem_cons_self
      | succ i =>
        cases o with
        | da x =>
          obtain ⟨bs, e1, _⟩ := Option.map_eq_some_iff.mp h
          exact ih (i := i) e1 (by simpa using e)
        | sl x =>
          unfold avOf at h
          split at h
          · obtain ⟨bs, e1, _⟩ := Option.map_eq_some_iff.mp h
            exact List.mem_cons_of_mem _ (ih (i := i) e1 (by simpa using e))
          · cases h
  refine ⟨⟨by rw [s1]; exact r.len, c.sub, fun i d e => ?_, fun i p ds e => ?_, fun i j p q ds es a hij e1 e2 => ?_⟩, c.ext, fun a o e no => c.keep a o e fun q => no (oa_ow h z q), c.dom, fun a q => .inl (own a q), fun a o e => (c.new a o e).imp_right .inl, fun i ds e => ⟨s4 i true ds e, rfl⟩⟩
  · obtain ⟨v, q1, q2⟩ := r.vl i d (s2 i d e)
    exact ⟨v, q1, q2.mono c.ext⟩
  · obtain ⟨⟨es, q1⟩, q2⟩ := s3 i p ds e
    rcases q2 with ⟨q2, q3⟩ | ⟨j, w1, w2⟩
    · obtain ⟨a, xs, e1, e2, e3, e4⟩ := r.ow i p ds q2
      have nOA : ¬ OA vs as a := fun ⟨j, ds', g1, g2⟩ => by
        obtain ⟨j', p', v, t1, t2, t3, t4⟩ := avOf_o h z g1
        rw [g2] at t3; cases t3
        by_cases hj : j' = i
        · subst hj; exact q3 (in_od h t1)
        · exact r.sep j' i _ _ _ _ a hj t2 q2 t4 e1
      refine ⟨a, xs, e1, c.keep a _ e2 nOA, e3.mono c.ext, ?_⟩
      cases q : F' a with
      | none => rfl
      | some o =>
        rcases c.new a o q with w | w
        · rw [e4] at w; cases w
        · rw [e2] at w; cases w
    · obtain ⟨a, xs, g1, g2, g3, g4⟩ := c.outs j ds w2
      obtain ⟨v, t1, t2⟩ := os_v z w1
      rw [g1] at t1; cases t1
      exact ⟨a, xs, t2, g2, g3, g4⟩
  · obtain ⟨⟨ds0, q1⟩, _⟩ := s3 i p ds e1
    obtain ⟨⟨es0, q2⟩, _⟩ := s3 j q es e2
    exact r.sep i j p q ds0 es0 a hij q1 q2
end
section
variable {T : Pg} {W : WX} {X : Cx} {k n : Nat} {f : Addr} {fd : FuncData} {ps : List Str} {φ : List Av → Rc} {ρ ρ1 : En} {F F1 : Hp} {σ : St} {H H1 : Hp} {Q : VK} {vs : List V} {os : List Od}
/-- a call's wish, from the caller's -/
theorem sp_call (nn : Nx T.K ρ F σ H ρ1 F1 σ H1) (z : OdAll T.K F1 σ vs os) (g : GX T W ρ F σ H (· = σ) (PO T ρ σ H Q) (apF n φ os ρ1)) : spZ T n φ vs H1 Q fun c d H' => W c d σ H' := by
  unfold apF at g
  split at g
  · rename_i as e1
    split at g
    · rename_i hn
      refine ⟨F1, as, argR_of nn.rep e1 z hn.2, hn.1, ?_⟩
      cases e : φ as with
      | no => rw [e] at g; exact g
      | ok va outs =>
        rw [e] at g
        unfold aft at g
        intro v F' H' c hv
        dsimp only at g
        split at g
        · rename_i ρ' so
          have m := nx_call nn.rep e1 z c so
          refine g F' σ H' rfl (nn.trans m) v ?_
          cases va with
          | fz d => exact hv
          | fo ds =>
            obtain ⟨a, xs, q1, q2, q3, q4, q5⟩ := hv
            refine ⟨a, xs, q1, q2, q3, q4, fun o => ?_, .inl (nn.dom _ q5)⟩
            rcases m.own a o with w | w
            · obtain ⟨_, ys, u⟩ := nn.rep.owF w
              rw [q5] at u; cases u
            · obtain ⟨i, p, es, o1, o2⟩ := o
              obtain ⟨⟨es', so1⟩, _⟩ := (set_outs so).2.2.1 i p es o1
              obtain ⟨_, ys, u⟩ := nn.rep.owF ⟨i, p, es', so1, o2⟩
              rw [q5] at u; cases u
        · exact g.elim
      | ex c d outs =>
        rw [e] at g
        unfold aft at g
        intro F' H' cv fl dx v e2 cn e3 z3
        dsimp only at g
        split at g
        · rename_i ρ' so
          exact g F' σ H' cv fl dx v rfl e2 (nn.trans (nx_call nn.rep e1 z cn so)) e3 z3
        · exact g.elim
    · exact g.elim
  · exact g.elim
def oApp (n : Nat) (φ : List Av → Rc) (fa : En → Rz (List Od)) : En → Rz Va := fun ρ => (fa ρ).bind fun os ρ1 => apF n φ os ρ1
variable {x : Str} {p pos : Pos} {e : Expr} {es : List Expr} {fa : En → Rz (List Od)}
/-- f(e, ..) of a def of the text, all its parameters written -/
theorem do_app (G : FnG X.prog X.w X.K X.mg X.base k f fd ps (spZ T n φ)) (hG : X.A.guards = some []) (hr : Room k X.A) (hg : Gl X x) (hm : X.mg x = some (.ref f)) (hk : PySem.W.keepIn X.K (.ref f) = true) (hb : Binds X.K fd ps []) (tk : Takes X W)
    (ha : DA T W X (e :: es) fa) (hdb : (x == ("__debug__" : Str)) = false) (he : starEach (e :: es) X.env = (false, eval e X.env) :: starEach es X.env) (hpl : (backTo pos (starEach es X.env)).any (·.1) = false) :
    DO T W X (.Call (.Name x p) (e :: es) [] pos) (oApp n φ fa) := ⟨⟨fun pins s σ H Q I h => by
  obtain ⟨ρ, F, rep, g⟩ := h
  have args := tA_fix (Q := fun vs H1 => spZ T n φ vs H1 Q fun c d H' => W c d σ H') rep g rfl fun os ρ1 F1 H1 vs n1 z1 g1 => sp_call n1 z1 g1
  apply wpAny_Call_Name_kw
  apply ld_glob I hg hm _ hdb
  apply PySem.W.callWith_K (h₀ := X.base) I.ok.mod.kin hk _ he hpl
  refine thn (ha.run.run pos pins s σ H _ I args) ?_
  rintro us s1 ⟨vs, H1, I1, r, q⟩
  refine ⟨I1.kIn, ?_⟩
  have l : (us ++ []).length = ps.length := by rw [List.append_nil, ← r.length]; exact G.len _ _ _ _ q
  have b := hb s1 us I1.kIn l
  rw [List.append_nil] at b
  exact wpAny_call (codeAny_mono (call_g G hG hr tk I1 b r q) fun r s' hq => by
    match r, hq with
    | .error e, hq => exact hq
    | .ok (.ret u), hq => exact hq
    | .ok .next, hq => exact hq.elim
    | .ok .brk, hq => exact hq.elim
    | .ok .cont, hq => exact hq.elim)⟩⟩
end
end Z

/-! ZH: targets, statements. -/
namespace Z
open PySem PySem.Spec L2
def Va.sl : Va → Sl
  | .fz d => .vl d
  | .fo ds => .ow false ds
/-- slot i is given a value (no parameter that the caller shares) -/
def setV (ρ : En) (i : Nat) (va : Va) : Option En := match ρ[i]? with
  | some (.ow true _) => none
  | some _ => some (ρ.set i va.sl)
  | none => none
theorem setV_some {ρ ρ' : En} {i : Nat} {va : Va} (h : setV ρ i va = some ρ') : i < ρ.length ∧ (∀ ds, ρ[i]? ≠ some (.ow true ds)) ∧ ρ' = ρ.set i va.sl := by
  unfold setV at h
  split at h
  · cases h
  · rename_i s hn hs
    cases h
    exact ⟨(List.getElem?_eq_some_iff.mp hs).1, fun ds z => by rw [z] at hs; cases hs; exact hn ds rfl, rfl⟩
  · cases h
/-- the slots that may differ -/
def Off (ts : List Nat) (σ σ' : St) : Prop := σ'.length = σ.length ∧ ∀ j, j ∉ ts → σ'[j]? = σ[j]?
theorem Off.refl {ts : List Nat} {σ : St} : Off ts σ σ := ⟨rfl, fun _ _ => rfl⟩
theorem Off.trans {ts us : List Nat} {σ σ1 σ2 : St} (a : Off ts σ σ1) (b : Off us σ1 σ2) : Off (ts ++ us) σ σ2 :=
  ⟨b.1.trans a.1, fun j h => (b.2 j fun z => h (List.mem_append_right _ z)).trans (a.2 j fun z => h (List.mem_append_left _ z))⟩
theorem Off.set {σ : St} {i : Nat} {v : Option V} : Off [i] σ (σ.set i v) := ⟨by simp, fun j h => List.getElem?_set_ne (by intro z; subst z; simp at h)⟩
section
variable {K : PySem.W.Frag} {ρ ρ' : En} {F F' : Hp} {σ σ' : St} {H H' : Hp} {i : Nat} {va : Va} {v : V}
/-- a slot is set, H and F as they are; the list (if it is one) is of the step's own making -/
theorem Nx.setV (n : Nx K ρ F σ H ρ' F' σ' H') (h : Z.setV ρ' i va = some ρ1) (r : VaR K ρ σ H ρ' F' σ' H' v va) : Nx K ρ F σ H ρ1 F' (σ'.set i (some v)) H' := by
  obtain ⟨hi, np, rfl⟩ := setV_some h
  have hσ : i < σ'.length := by rw [← n.rep.len]; exact hi
  have look : ∀ {j : Nat}, j ≠ i → (σ'.set i (some v))[j]? = σ'[j]? := fun h => List.getElem?_set_ne (Ne.symm h)
  have lookI : (σ'.set i (some v))[i]? = some (some v) := List.getElem?_set_self hσ
  have ownNew : ∀ {a : Addr}, Ow (ρ'.set i va.sl) (σ'.set i (some v)) a → Ow ρ' σ' a ∨ (∃ ds, va = .fo ds ∧ v = .ref a) := fun {a} ⟨j, p, ds, e1, e2⟩ => by
    rcases get_set_un e1 with ⟨rfl, z⟩ | ⟨hj, z⟩
    · cases va with
      | fz d => cases z
      | fo es => rw [lookI] at e2; cases e2; exact .inr ⟨es, rfl, rfl⟩
    · rw [look hj] at e2; exact .inl ⟨j, p, ds, z, e2⟩
  refine ⟨⟨by simpa using n.rep.len, n.rep.sub, fun j d e => ?_, fun j p ds e => ?_, fun j k p q ds es a hjk e1 e2 g1 g2 => ?_⟩, n.ext, n.keep, n.dom, fun a o => ?_, n.new, fun j ds e => ?_⟩
  · rcases get_set_un e with ⟨rfl, z⟩ | ⟨hj, z⟩
    · cases va with
      | fz d' => cases z; exact ⟨v, lookI, r⟩
      | fo es => cases z
    · obtain ⟨u, e1, e2⟩ := n.rep.vl j d z
      exact ⟨u, by rw [look hj]; exact e1, e2⟩
  · rcases get_set_un e with ⟨rfl, z⟩ | ⟨hj, z⟩
    · cases va with
      | fz d' => cases z
      | fo es =>
        cases z
        obtain ⟨a, xs, rfl, e2, e3, e4, _, _⟩ := r
        exact ⟨a, xs, lookI, e2, e3, e4⟩
    · obtain ⟨a, xs, e1, e2⟩ := n.rep.ow j p ds z
      exact ⟨a, xs, by rw [look hj]; exact e1, e2⟩
  · have one : ∀ {j k : Nat} {q : Bool} {es : List D}, j = i → k ≠ i → (ρ'.set i va.sl)[j]? = some (.ow p ds) → (ρ'.set i va.sl)[k]? = some (.ow q es) → (σ'.set i (some v))[j]? = some (some (.ref a)) → (σ'.set i (some v))[k]? = some (some (.ref a)) → False := by
      intro j k q es hj hk e1 e2 g1 g2
      subst hj
      rcases get_set_un e1 with ⟨_, z⟩ | ⟨z, _⟩
      · cases va with
        | fz d' => cases z
        | fo fs =>
          obtain ⟨b, xs, rfl, _, _, _, no, _⟩ := r
          rw [lookI] at g1; cases g1
          rcases get_set_un e2 with ⟨w, _⟩ | ⟨_, w⟩
          · exact hk w
          · rw [look hk] at g2
            exact no ⟨k, q, es, w, g2⟩
      · exact z rfl
    by_cases hj : j = i
    · exact one hj (fun z => hjk (hj.trans z.symm)) e1 e2 g1 g2
    · by_cases hk : k = i
      · have one' := @one
        rcases get_set_un e2 with ⟨_, z⟩ | ⟨z, _⟩
        · cases va with
          | fz d' => cases z
          | fo fs =>
            obtain ⟨b, xs, rfl, _, _, _, no, _⟩ := r
            subst hk
            rw [lookI] at g2; cases g2
            rcases get_set_un e1 with ⟨w, _⟩ | ⟨_, w⟩
            · exact hj w
            · rw [look hj] at g1
              exact no ⟨j, p, ds, w, g1⟩
        · exact z hk
      · rcases get_set_un e1 with ⟨w, _⟩ | ⟨_, w1⟩
        · exact hj w
        · rcases get_set_un e2 with ⟨w, _⟩ | ⟨_, w2⟩
          · exact hk w
          · rw [look hj] at g1; rw [look hk] at g2
            exact n.rep.sep j k p q ds es a hjk w1 w2 g1 g2
  · rcases ownNew o with z | ⟨ds, rfl, rfl⟩
    · exact n.own a z
    · obtain ⟨b, xs, e, _, _, _, _, e6⟩ := r
      cases e
      exact (e6.imp id OwN.ow).symm
  · obtain ⟨⟨ds', e1⟩, e2⟩ := n.pin j ds e
    have hj : j ≠ i := fun z => by subst z; exact np _ e1
    exact ⟨⟨ds', by rw [List.getElem?_set_ne (Ne.symm hj)]; exact e1⟩, by rw [look hj]; exact e2⟩
end
/-! ### targets: of data -/
def tG (T : Pg) (ts : List Nat) (g : D → En → Option En) : TG := fun v σ H Q => ∃ ρ F d ρ', Rep T.K ρ F σ H ∧ Dz T.K F v d ∧ g d ρ = some ρ' ∧ ∀ σ', Off ts σ σ' → Nx T.K ρ F σ H ρ' F σ' H → Q σ' H
def tGs (T : Pg) (ts : List Nat) (g : List D → En → Option En) : TGs := fun vs σ H Q => ∃ ρ F ds ρ', Rep T.K ρ F σ H ∧ DzAll T.K F vs ds ∧ g ds ρ = some ρ' ∧ ∀ σ', Off ts σ σ' → Nx T.K ρ F σ H ρ' F σ' H → Q σ' H
structure DG (T : Pg) (X : Cx) (tg : Expr) (ts : List Nat) (g : D → En → Option En) : Prop where
  run : PG X tg (tG T ts g)
structure DGs (T : Pg) (X : Cx) (es : List Expr) (ts : List Nat) (g : List D → En → Option En) : Prop where
  run : PGs X es (tGs T ts g)
def gN (i : Nat) : D → En → Option En := fun d ρ => setV ρ i (.fz d)
def gNilZ : List D → En → Option En
  | [], ρ => some ρ
  | _ :: _, _ => none
def gConsZ (g : D → En → Option En) (gs : List D → En → Option En) : List D → En → Option En
  | d :: ds, ρ => (g d ρ).bind fun ρ1 => gs ds ρ1
  | [], _ => none
def gTupZ (n : Nat) (gs : List D → En → Option En) : D → En → Option En
  | .tuple ds, ρ => if ds.length = n then gs ds ρ else none
  | .list ds, ρ => if ds.length = n then gs ds ρ else none
  | _, _ => none
theorem pg_imp {X : Cx} {tg : Expr} {t t' : TG} (h : PG X tg t) (i : ∀ v σ H Q, t' v σ H Q → t v σ H Q) : PG X tg t' := ⟨fun pins s σ H v u Q I r w => h.run pins s σ H v u Q I r (i _ _ _ _ w)⟩
theorem pgs_imp {X : Cx} {tg : List Expr} {t t' : TGs} (h : PGs X tg t) (i : ∀ v σ H Q, t' v σ H Q → t v σ H Q) : PGs X tg t' := ⟨fun pins s σ H v u Q I r w => h.run pins s σ H v u Q I r (i _ _ _ _ w)⟩
theorem pg_or {X : Cx} {tg : Expr} {t t' : TG} (a : PG X tg t) (b : PG X tg t') : PG X tg (fun v σ H Q => t v σ H Q ∨ t' v σ H Q) := ⟨fun pins s σ H v u Q I r w => w.elim (a.run pins s σ H v u Q I r) (b.run pins s σ H v u Q I r)⟩
section
variable {T : Pg} {W : WX} {X : Cx} {e : Expr} {es : List Expr} {i : Nat} {x : Str} {pos : Pos} {ts us : List Nat} {g : D → En → Option En} {gs : List D → En → Option En}
theorem dg_name (hN : X.N.Nodup) (hi : X.N[i]? = some x) (hl : Loc X.env.scope x) (hf : X.fn x = true ∨ X.env.scope.names.lookup x = some .local) : DG T X (.Name x pos) [i] (gN i) := ⟨pg_imp (pg_name hN hi hl hf) fun v σ H Q ⟨ρ, F, d, ρ', r, z, e, q⟩ =>
  q _ Off.set ((Nx.refl r).setV (va := .fz d) e z)⟩
theorem dgs_nil : DGs T X [] [] gNilZ := ⟨pgs_imp pgs_nil fun vs σ H Q ⟨ρ, F, ds, ρ', r, z, e, q⟩ => by
  cases z with
  | nil => cases e; exact ⟨rfl, q σ Off.refl (.refl r)⟩
  | cons a b => cases e⟩
theorem dgs_cons (h : DG T X e ts g) (t : DGs T X es us gs) (hm : (assignEach (e :: es) X.env).map (·.2) = assign e X.env :: (assignEach es X.env).map (·.2)) : DGs T X (e :: es) (ts ++ us) (gConsZ g gs) := ⟨pgs_imp (pgs_cons h.run t.run hm) fun vs σ H Q ⟨ρ, F, ds, ρ', r, z, e, q⟩ => by
  cases z with
  | nil => cases e
  | cons a b =>
    obtain ⟨ρ1, e1, e2⟩ := Option.bind_eq_some_iff.mp e
    refine ⟨_, _, rfl, ρ, F, _, ρ1, r, a, e1, fun σ1 o1 n1 => ?_⟩
    exact ⟨ρ1, F, _, ρ', n1.rep, b, e2, fun σ2 o2 n2 => q σ2 (o1.trans o2) (n1.trans n2)⟩⟩
theorem dg_tup {n k : Nat} (hK : T.K = X.K) (hc : X.calm = true) (h : DGs T X es ts gs) (hl : (assignEach es X.env).length = n) (hs : (assignEach es X.env).findIdx? (·.1) = none) : DG T X (.Tuple es k pos) ts (gTupZ n gs) := ⟨pg_imp (pg_or (pg_tup hc h.run hl hs) (pg_lst hc h.run hl hs)) fun v σ H Q ⟨ρ, F, d, ρ', r, z, e, q⟩ => by
  unfold gTupZ at e
  split at e
  · split at e
    · rename_i hn
      cases z with
      | tup h1 h2 => exact .inl ⟨_, _, rfl, hK ▸ r.sub.seqT h1, by rw [h2.len]; exact hn, ρ, F, _, ρ', r, h2, e, q⟩
    · cases e
  · split at e
    · rename_i hn
      cases z with
      | lst h1 h2 => exact .inr ⟨_, _, rfl, .inl (.inl (r.sub _ _ h1)), by rw [h2.len]; exact hn, ρ, F, _, ρ', r, h2, e, q⟩
    · cases e
  · cases e⟩
/-! ### statements -/
variable {D : Ends} {f f' : En → Rz Fl} {fe fv : En → Rz Va} {fc : En → Rz Bool} {st : Stmt} {sts sts' : List Stmt} {ρ ρ1 : En} {F F1 : Hp} {σ σ1 : St} {H H1 : Hp}
def sNil : En → Rz Fl := fun ρ => .ok .nx ρ
def sSeq (f g : En → Rz Fl) : En → Rz Fl := fun ρ => (f ρ).bind fun fl ρ1 => match fl with
  | .nx => g ρ1
  | fl => .ok fl ρ1
theorem ds_nil : DSs T W X [] sNil := ⟨pss_imp pss_nil fun D σ H ⟨ρ, F, r, g⟩ => g F σ H trivial (.refl r)⟩
theorem ds_cons (h : DS T W X st f) (t : DSs T W X sts f') : DSs T W X (st :: sts) (sSeq f f') := ⟨pss_imp (pss_cons h.run t.run) fun D σ H ⟨ρ, F, r, g⟩ => by
  refine ⟨ρ, F, r, (GX.bind0 (S1 := Any) g fun _ z => z).mono (fun _ z => z) fun fl ρ1 F1 σ1 H1 _ n1 g1 => ?_⟩
  cases fl with
  | nx => exact tS_go n1 g1
  | rt va => exact g1 F1 σ1 H1 trivial n1
  | bk => exact g1 F1 σ1 H1 trivial n1
  | ct => exact g1 F1 σ1 H1 trivial n1⟩
theorem ds_pass : DS T W X (.Pass pos) sNil := ⟨ps_imp ps_pass fun D σ H ⟨ρ, F, r, g⟩ => g F σ H trivial (.refl r)⟩
theorem ds_break : DS T W X (.Break pos) (fun ρ => .ok .bk ρ) := ⟨ps_imp ps_break fun D σ H ⟨ρ, F, r, g⟩ => g F σ H trivial (.refl r)⟩
theorem ds_cont : DS T W X (.Continue pos) (fun ρ => .ok .ct ρ) := ⟨ps_imp ps_continue fun D σ H ⟨ρ, F, r, g⟩ => g F σ H trivial (.refl r)⟩
theorem ds_retN : DS T W X (.Return none pos) (fun ρ => .ok (.rt (.fz .none)) ρ) := ⟨ps_imp ps_retN fun D σ H ⟨ρ, F, r, g⟩ => g F σ H trivial (.refl r) .non Dz.non⟩
def sRet (fe : En → Rz Va) : En → Rz Fl := fun ρ => (fe ρ).bind fun va ρ1 => .ok (.rt va) ρ1
/-- an expression's value, as it is handed on -/
theorem tO_raw {fe : En → Rz Va} {β : Type} {k : Va → En → Rz β} {P : β → En → Hp → St → Hp → Prop} {S : St → Prop} {Q : VK} (r : Rep T.K ρ F σ H) (h : GX T W ρ F σ H S P ((fe ρ).bind k)) (hS : S σ)
    (q : ∀ va ρ' F' H' v, Nx T.K ρ F σ H ρ' F' σ H' → VaR T.K ρ σ H ρ' F' σ H' v va → GX T W ρ F σ H S P (k va ρ') → Q v H') : tO T W fe σ H Q :=
  ⟨ρ, F, r, (h.bind0 (S1 := (· = σ)) fun _ z => by subst z; exact hS).mono (fun _ z => z) fun va ρ' F' σ' H' es n g v hv => by
    subst es
    exact q va ρ' F' H' v n hv g⟩
theorem ds_ret (he : DO T W X e fe) : DS T W X (.Return (some e) pos) (sRet fe) := ⟨ps_imp (ps_ret he.run) fun D σ H ⟨ρ, F, r, g⟩ =>
  tO_raw r g trivial fun va ρ1 F1 H1 v n1 hv g1 => g1 F1 σ H1 trivial n1 v hv⟩
/-- return x: a list of the def's own goes out with it -/
def sRetV (i : Nat) : En → Rz Fl := fun ρ => match ρ[i]? with
  | some (.vl d) => .ok (.rt (.fz d)) ρ
  | some (.ow false ds) => .ok (.rt (.fo ds)) (ρ.set i .un)
  | _ => .no
theorem forget {K : PySem.W.Frag} (r : Rep K ρ F σ H) {ds : List PyData} (h : ρ[i]? = some (.ow false ds)) : ∃ a, σ[i]? = some (some (.ref a)) ∧ Nx K ρ F σ H (ρ.set i .un) F σ H ∧ VaR K ρ σ H (ρ.set i .un) F σ H (.ref a) (.fo ds) := by
  obtain ⟨a, xs, e1, e2, e3, e4⟩ := r.ow i false ds h
  have back : ∀ {j : Nat} {p : Bool} {es : List PyData}, (ρ.set i .un)[j]? = some (.ow p es) → j ≠ i ∧ ρ[j]? = some (.ow p es) := fun g => by
    rcases get_set_un g with ⟨_, z⟩ | z
    · cases z
    · exact z
  refine ⟨a, e1, ⟨⟨by simpa using r.len, r.sub, fun j d e => ?_, fun j p es e => r.ow j p es (back e).2, fun j k p q es fs b hjk g1 g2 => r.sep j k p q es fs b hjk (back g1).2 (back g2).2⟩, Sub.rfl', fun _ _ z _ => z, fun _ z => z, fun b ⟨j, p, es, g1, g2⟩ => .inl ⟨j, p, es, (back g1).2, g2⟩, fun _ _ z => .inl z, fun j es e => ⟨⟨es, ?_⟩, rfl⟩⟩, a, xs, rfl, e2, e3, e4, fun ⟨j, p, es, g1, g2⟩ => r.sep j i p false es ds a (back g1).1 (back g1).2 h g2 e1, .inr ⟨i, ds, h, e1⟩⟩
  · rcases get_set_un e with ⟨_, z⟩ | ⟨_, z⟩
    · cases z
    · exact r.vl j d z
  · have hj : i ≠ j := fun z => by subst z; rw [h] at e; cases e
    rw [List.getElem?_set_ne hj]; exact e
theorem ds_retV {e : Expr} (h : PE X e (tVar i)) : DS T W X (.Return (some e) pos) (sRetV i) := ⟨ps_imp (ps_ret h) fun D σ H ⟨ρ, F, r, g⟩ => by
  unfold sRetV at g
  split at g
  · rename_i d he
    obtain ⟨v, h1, h2⟩ := r.vl i _ he
    exact ⟨v, h1, g F σ H trivial (.refl r) v h2⟩
  · rename_i ds he
    obtain ⟨a, h1, h2, h3⟩ := forget r he
    exact ⟨_, h1, g F σ H trivial h2 _ h3⟩
  · exact g.elim⟩
def sExp (fe : En → Rz Va) : En → Rz Fl := fun ρ => (fe ρ).bind fun _ ρ1 => .ok .nx ρ1
theorem ds_exp (he : DO T W X e fe) (hs : swapsWith e none pos.line X.env = pure false) : DS T W X (.Expr e pos) (sExp fe) := ⟨ps_imp (ps_expr he.run hs) fun D σ H ⟨ρ, F, r, g⟩ =>
  tO_raw r g trivial fun va ρ1 F1 H1 v n1 hv g1 => g1 F1 σ H1 trivial n1⟩
def sIf (fc : En → Rz Bool) (f g : En → Rz Fl) : En → Rz Fl := fun ρ => (fc ρ).bind fun b ρ1 => if b = true then f ρ1 else g ρ1
theorem ds_if {c : Expr} (hc : DB T W X c fc) (h : DSs T W X sts f) (h' : DSs T W X sts' f') : DS T W X (.If c sts sts' pos) (sIf fc f f') := ⟨ps_imp (ps_if hc.run h.run h'.run) fun D σ H ⟨ρ, F, r, g⟩ =>
  tB_fix r g trivial fun b ρ1 F1 H1 n1 g1 => by
    cases b with
    | true => exact tS_go n1 g1
    | false => exact tS_go n1 g1⟩
/-- x = e -/
def sSet (i : Nat) (fe : En → Rz Va) : En → Rz Fl := fun ρ => (fe ρ).bind fun va ρ1 => (Rz.of ρ1 (setV ρ1 i va)).bind fun ρ2 _ => .ok .nx ρ2
theorem ds_set {pos' : Pos} (hN : X.N.Nodup) (hi : X.N[i]? = some x) (hl : Loc X.env.scope x) (he : DO T W X e fe) (hs : swapsWith e (some (.Name x pos')) pos.line X.env = pure false) (hf : X.fn x = true ∨ X.env.scope.names.lookup x = some .local) :
    DS T W X (.Assign [.Name x pos'] e pos) (sSet i fe) := ⟨ps_imp (ps_set hN hi hl he.run hs hf) fun D σ H ⟨ρ, F, r, g⟩ =>
  tO_raw r g trivial fun va ρ1 F1 H1 v n1 hv g1 => by
    cases q : setV ρ1 i va with
    | none => rw [q] at g1; exact g1.elim
    | some ρ2 =>
      rw [q] at g1
      exact g1 F1 _ H1 trivial (n1.setV q hv)⟩
/-- a, b = e -/
def sAsg (g : PyData → En → Option En) (fe : En → Rz Va) : En → Rz Fl := fun ρ => (fe ρ).bind fun va ρ1 => (Rz.of ρ1 (g va.d ρ1)).bind fun ρ2 _ => .ok .nx ρ2
theorem ds_asg {tg : Expr} (he : DO T W X e fe) (hg : DG T X tg ts g) (h1 : swapsWithSole [tg] e pos.line X.env = pure false) (h2 : swappedStores [tg] e X.env = pure none) (h3 : (assignEach [tg] X.env).map (·.2) = [assign tg X.env]) :
    DS T W X (.Assign [tg] e pos) (sAsg g fe) := ⟨ps_imp (ps_asg he.run hg.run h1 h2 h3) fun D σ H ⟨ρ, F, r, gg⟩ =>
  tO_fix r gg trivial fun va ρ1 F1 H1 v n1 z g1 => by
    cases q : g va.d ρ1 with
    | none => rw [q] at g1; exact g1.elim
    | some ρ2 =>
      rw [q] at g1
      exact ⟨ρ1, F1, va.d, ρ2, n1.rep, z, q, fun σ' _ n2 => g1 F1 σ' H1 trivial (n1.trans n2)⟩⟩
end
end Z

/-! ZI: what is walked; loops; comprehensions. -/
namespace Z
open PySem PySem.Spec L2
/-- the iterator J gives the data ds, one by one, and makes only new things meanwhile -/
def Gives (K : PySem.W.Frag) (F : Hp) (J : It) (ds : List D) : Prop := ∃ G : Hp → Prop, (∀ H, Sub F H → G H) ∧ Walk J ds.length G fun i H x H' => ∃ d, ds[i]? = some d ∧ ∀ F1, Sub F F1 → Sub F1 H → ∃ F2, Ps F1 H F2 H' ∧ Dz K F2 x d
theorem Gives.mono {K : PySem.W.Frag} {F F' : Hp} {J : It} {ds : List D} (g : Gives K F J ds) (e : Sub F F') : Gives K F' J ds := by
  obtain ⟨G, hG, w⟩ := g
  refine ⟨G, fun H s => hG H (e.trans s), w.mono (fun _ z => z) fun i H x H' _ _ ⟨d, h1, h2⟩ => ⟨d, h1, fun F1 s1 s2 => h2 F1 (e.trans s1) s2⟩⟩
section
variable (T : Pg) (W : WX)
def tI (f : En → Rz (List D)) : TI := fun σ H R => ∃ ρ F, Rep T.K ρ F σ H ∧ GX T W ρ F σ H (· = σ) (fun ds _ F' _ H' => ∀ J, Gives T.K F' J ds → R J H') (f ρ)
structure DI (X : Cx) (tg e : Expr) (f : En → Rz (List D)) : Prop where
  run : PI X tg e (tI T W f)
end
theorem pi_imp {X : Cx} {tg e : Expr} {t t' : TI} (h : PI X tg e t) (i : ∀ σ H R, t' σ H R → t σ H R) : PI X tg e t' := ⟨fun pins s σ H R I w => h.run pins s σ H R I (i _ _ _ w)⟩
def loop (g : D → En → Option En) (body : En → Rz Fl) : List D → En → Rz Fl
  | [], ρ => .ok .nx ρ
  | d :: ds, ρ => (Rz.of ρ (g d ρ)).bind fun ρ1 _ => (body ρ1).bind fun fl ρ2 => match fl with
    | .nx => loop g body ds ρ2
    | .ct => loop g body ds ρ2
    | .bk => .ok .nx ρ2
    | .rt va => .ok (.rt va) ρ2
def sFor (fi : En → Rz (List D)) (g : D → En → Option En) (body : En → Rz Fl) : En → Rz Fl := fun ρ => (fi ρ).bind fun ds ρ1 => loop g body ds ρ1
section
variable {T : Pg} {W : WX} {X : Cx} {e tg : Expr} {pos : Pos} {ts : List Nat} {g : D → En → Option En} {body : En → Rz Fl} {fi : En → Rz (List D)} {st : List Stmt}
theorem drop_cons {α : Type} {l : List α} {i : Nat} {x : α} (h : l[i]? = some x) : l.drop i = x :: l.drop (i + 1) := by
  obtain ⟨hi, e⟩ := List.getElem?_eq_some_iff.mp h
  rw [List.drop_eq_getElem_cons hi, e]
theorem ds_for (hp : PassesOwn (model X.prog X.w) X.A X.env X.xe) (hc : X.calm = true) (hi : DI T W X tg e fi) (hg : DG T X tg ts g) (hb : DSs T W X st body) (hs : ∀ x, foldedSetIterable e X.env x = pure x) :
    DS T W X (.For tg e st [] pos) (sFor fi g body) := ⟨ps_imp (ps_for hp hc hi.run hg.run hb.run hs) fun D σ H ⟨ρ, F, r, gg⟩ => by
  refine ⟨ρ, F, r, (GX.bind0 (S1 := (· = σ)) gg fun _ _ => trivial).mono (fun _ z => z) fun ds ρ1 F1 σ1 H1 es n1 g1 J gv => ?_⟩
  subst es
  obtain ⟨G, hG, w⟩ := gv
  refine for_it w (fun i σi Hi => ∃ ρi Fi, Nx T.K ρ F σ1 H ρi Fi σi Hi ∧ Sub F1 Fi ∧ GX T W ρ F σ1 H Any (PF T D ρ σ1 H) (loop g body (ds.drop i) ρi)) ⟨ρ1, F1, n1, Sub.rfl', g1⟩ (fun i σi Hi _ ⟨ρi, Fi, n, s, _⟩ => hG Hi (s.trans n.rep.sub)) (fun i x σi Hi H' hi ⟨ρi, Fi, n, s, gi⟩ ⟨d, hd, y⟩ => ?_) fun σi Hi ⟨ρi, Fi, n, s, gi⟩ => ?_
  · obtain ⟨F2, ps, z⟩ := y Fi s n.rep.sub
    rw [drop_cons hd] at gi
    unfold loop at gi
    cases q : g d ρi with
    | none => rw [q] at gi; exact gi.elim
    | some ρ' =>
      rw [q] at gi
      have n' : Nx T.K ρ F σ1 H ρi F2 σi H' := n.trans (Nx.step n.rep ps)
      refine ⟨ρi, F2, d, ρ', n'.rep, z, q, fun σ' _ m => ⟨ρ', F2, m.rep, ?_⟩⟩
      have n2 := n'.trans m
      have g2 : GX T W ρ F σ1 H Any (PF T D ρ σ1 H) ((body ρ').bind fun fl ρ2 => match fl with
        | .nx => loop g body (ds.drop (i + 1)) ρ2
        | .ct => loop g body (ds.drop (i + 1)) ρ2
        | .bk => .ok .nx ρ2
        | .rt va => .ok (.rt va) ρ2) := gi
      refine ((GX.bind0 (S1 := Any) g2 fun _ z => z).go n2).mono (fun _ z => z) fun fl ρ3 F3 σ3 H3 _ n3 g3 => ?_
      have n4 := n2.trans n3
      have s4 : Sub F1 F3 := (s.trans ps.ext).trans n3.ext
      cases fl with
      | nx => exact ⟨ρ3, F3, n4, s4, g3⟩
      | ct => exact ⟨ρ3, F3, n4, s4, g3⟩
      | bk => exact g3 F3 σ3 H3 trivial n4
      | rt va => exact fun v hv => g3 F3 σ3 H3 trivial n4 v (hv.back n2)
  · rw [List.drop_length] at gi
    exact gi Fi σi Hi trivial n⟩
/-! ### what is walked -/
variable {fa fb : En → Rz Od} {fl : En → Rz (List Od)}
/-- the items of a list, a tuple -/
def itemsOf : D → Option (List D)
  | .list ds => some ds
  | .tuple ds => some ds
  | _ => none
/-- an operand that is walked stands still meanwhile: a slot's own list is left alone from there on -/
def iSeq (fe : En → Rz Va) : En → Rz (List D) := fun ρ => (fe ρ).bind fun va ρ1 => .of ρ1 (itemsOf va.d)
def iSeqT (K : PySem.W.Frag) (tl : TE) : TI := fun σ H R => tl σ H fun x H1 => ∃ a, x = .ref a ∧ (((∃ xs, SqL K H1 a xs) ∧ R (Itl K a) H1) ∨ ((∃ xs, SqT K H1 a xs) ∧ R (Itt K a) H1))
theorem pi_seq {tl : TE} (hl : PE X e tl) : PI X tg e (iSeqT X.K tl) := by
  constructor
  intro pins s σ H R I h
  refine thn (hl.run pins s σ H _ I h) ?_
  rintro v s1 ⟨x, H1, I1, r1, a, rfl, q⟩
  obtain rfl : v = .ref a := r1
  have fresh : ∀ {F : List Addr → Prop}, ∀ b ∈ [s1.heap.objs.size], FpOk X pins H1 b := fun b hb => by
    obtain rfl := List.mem_singleton.mp hb
    exact I1.fpOk (Nat.le_refl _) (I1.hok.fresh (Nat.le_refl _))
  rcases q with ⟨⟨xs, hq⟩, q⟩ | ⟨⟨xs, hq⟩, q⟩
  · obtain ⟨its, _, p, _⟩ := I1.list hq
    apply wpAny_pyIter_list p.isList
    exact ⟨_, [s1.heap.objs.size], _, _, H1, rfl, I1.kept (t' := s1.toks) fun _ _ z => Heap.get?_push_of_some _ z, turn_list a s1.heap.objs.size, ⟨_, Heap.get?_push_size _ rfl, rfl, rfl⟩, fresh (F := fun _ => True), q⟩
  · obtain ⟨its, _, p, _⟩ := I1.tuple hq
    apply wpAny_pyIter_tuple (show s1.heap.IsTuple a its.toArray from p)
    exact ⟨_, [s1.heap.objs.size], _, _, H1, rfl, I1.kept (t' := s1.toks) fun _ _ z => Heap.get?_push_of_some _ z, turn_tuple a s1.heap.objs.size, ⟨_, Heap.get?_push_size _ rfl, rfl, rfl⟩, fresh (F := fun _ => True), q⟩
theorem gives_list {K : PySem.W.Frag} {F : Hp} {a : Addr} {xs : List V} {ds : List D} (h : F a = some (.lst xs)) (z : DzAll K F xs ds) : Gives K F (Itl K a) ds := by
  refine ⟨fun H => SqL K H a xs, fun H s => .inl (.inl (s _ _ h)), ?_⟩
  rw [← z.len]
  refine walk_list.mono (fun _ q => q) ?_
  rintro i H x H' hi _ ⟨rfl, hx⟩
  obtain ⟨d, e, zd⟩ := z.getV hx
  exact ⟨d, e, fun F1 s1 s2 => ⟨F1, Ps.refl s2, zd.mono s1⟩⟩
theorem gives_tup {K : PySem.W.Frag} {F : Hp} {a : Addr} {xs : List V} {ds : List D} (h : SqT K F a xs) (z : DzAll K F xs ds) : Gives K F (Itt K a) ds := by
  refine ⟨fun H => SqT K H a xs, fun H s => s.seqT h, ?_⟩
  rw [← z.len]
  refine walk_tup.mono (fun _ q => q) ?_
  rintro i H x H' hi _ ⟨rfl, hx⟩
  obtain ⟨d, e, zd⟩ := z.getV hx
  exact ⟨d, e, fun F1 s1 s2 => ⟨F1, Ps.refl s2, zd.mono s1⟩⟩
theorem di_seq {fe : En → Rz Va} (hK : T.K = X.K) (he : DO T W X e fe) : DI T W X tg e (iSeq fe) := ⟨pi_imp (pi_seq he.run) fun σ H R ⟨ρ, F, r, g⟩ =>
  tO_fix r g rfl fun va ρ1 F1 H1 v n1 z g1 => by
    obtain ⟨ds, e1, g2⟩ := g1.of
    have q := g2 F1 σ H1 rfl n1
    generalize va.d = d at z e1
    cases z with
    | lst h1 h2 =>
      cases e1
      exact ⟨_, rfl, .inl ⟨⟨_, .inl (.inl (n1.rep.sub _ _ h1))⟩, q _ (hK ▸ gives_list (K := T.K) h1 h2)⟩⟩
    | tup h1 h2 =>
      cases e1
      exact ⟨_, rfl, .inr ⟨⟨_, hK ▸ n1.rep.sub.seqT h1⟩, q _ (hK ▸ gives_tup (K := T.K) h1 h2)⟩⟩
    | _ => cases e1⟩
/-- range(a), range(a, b) -/
def rngOf (lo hi : Int) : Option (List D) := if (-(2 ^ 62) ≤ lo ∧ lo < 2 ^ 62) ∧ -(2 ^ 62) ≤ hi ∧ hi < 2 ^ 62 then some ((List.range (hi - lo).toNat).map fun i => .int (lo + (i : Nat))) else none
def iRange1 : List D → Option (List D)
  | [.int n] => rngOf 0 n
  | _ => none
def iRange2 : List D → Option (List D)
  | [.int a, .int b] => rngOf a b
  | _ => none
def iArg (p : List D → Option (List D)) (fa : En → Rz (List Od)) : En → Rz (List D) := fun ρ => (fa ρ).bind fun os ρ1 => match getAll ρ1 os with
  | some ds => .of ρ1 (p ds)
  | none => .no
theorem gives_range {K : PySem.W.Frag} {F : Hp} {lo : Int} {n : Nat} : Gives K F (Itr lo n) ((List.range n).map fun i => .int (lo + (i : Nat))) := by
  refine ⟨fun _ => True, fun _ _ => trivial, ?_⟩
  rw [List.length_map, List.length_range]
  refine walk_range.mono (fun _ q => q) ?_
  rintro i H x H' hi _ ⟨rfl, rfl⟩
  exact ⟨_, by rw [List.getElem?_map, List.getElem?_range hi]; rfl, fun F1 s1 s2 => ⟨F1, Ps.refl s2, .int _⟩⟩
theorem rngOf_some {lo hi : Int} {ds : List D} (h : rngOf lo hi = some ds) : ((-(2 ^ 62) ≤ lo ∧ lo < 2 ^ 62) ∧ -(2 ^ 62) ≤ hi ∧ hi < 2 ^ 62) ∧ ds = (List.range (hi - lo).toNat).map fun i => .int (lo + (i : Nat)) := by
  unfold rngOf at h
  split at h
  · rename_i c; cases h; exact ⟨c, rfl⟩
  · cases h
variable {a b : Expr} {p : Pos}
theorem di_rng1 (hg : Gl X "range") (hm : X.mg "range" = none) (ha : DA T W X [a] fl) (hs : starEach [a] X.env = [(false, eval a X.env)]) : DI T W X tg (.Call (.Name "range" p) [a] [] pos) (iArg iRange1 fl) := ⟨pi_imp (pi_range1 hg hm ha.run hs) fun σ H R ⟨ρ, F, r, g⟩ =>
  tA_fix r g rfl fun os ρ1 F1 H1 vs n1 z g1 => by
    split at g1
    · rename_i ds e1
      obtain ⟨es, e2, g2⟩ := g1.of
      have q := getAll_dq n1.rep z e1
      unfold iRange1 at e2
      split at e2
      · cases q with
        | cons q1 q2 =>
          cases q2
          obtain ⟨c, rfl⟩ := rngOf_some e2
          refine ⟨_, by rw [q1.int], c.2.1, c.2.2, g2 F1 σ H1 rfl n1 _ ?_⟩
          rw [Int.sub_zero]
          exact gives_range
      · cases e2
    · exact g1.elim⟩
theorem di_rng2 (hg : Gl X "range") (hm : X.mg "range" = none) (ha : DA T W X [a, b] fl) (hs : starEach [a, b] X.env = [(false, eval a X.env), (false, eval b X.env)]) (hs2 : starEach [b] X.env = [(false, eval b X.env)]) :
    DI T W X tg (.Call (.Name "range" p) [a, b] [] pos) (iArg iRange2 fl) := ⟨pi_imp (pi_range2 hg hm ha.run hs hs2) fun σ H R ⟨ρ, F, r, g⟩ =>
  tA_fix r g rfl fun os ρ1 F1 H1 vs n1 z g1 => by
    split at g1
    · rename_i ds e1
      obtain ⟨es, e2, g2⟩ := g1.of
      have q := getAll_dq n1.rep z e1
      unfold iRange2 at e2
      split at e2
      · cases q with
        | cons q1 q2 =>
          cases q2 with
          | cons q2 q3 =>
            cases q3
            obtain ⟨c, rfl⟩ := rngOf_some e2
            exact ⟨_, _, by rw [q1.int, q2.int], ⟨c.1.1, c.1.2, c.2.1, c.2.2⟩, g2 F1 σ H1 rfl n1 _ gives_range⟩
      · cases e2
    · exact g1.elim⟩
theorem gives_pair {K : PySem.W.Frag} {F : Hp} {J : It} {n : Nat} {G : Hp → Prop} {xs ys : Nat → Option V} {ds : List D} (w : Walk J n G (YPair xs ys)) (hn : n = ds.length) (hG : ∀ H, Sub F H → G H)
    (hd : ∀ i x y, xs i = some x → ys i = some y → i < n → ∃ a b, ds[i]? = some (.tuple [a, b]) ∧ Dz K F x a ∧ Dz K F y b) : Gives K F J ds := by
  subst hn
  refine ⟨G, hG, w.mono (fun _ q => q) ?_⟩
  rintro i H v H' hi _ ⟨t, x, y, rfl, nt, rfl, hx, hy⟩
  obtain ⟨a, b, e, za, zb⟩ := hd i x y hx hy hi
  exact ⟨_, e, fun F1 s1 s2 => ⟨_, Ps.both s2 nt, .tup (.inl (.inl upd_same)) (.cons ((za.mono s1).mono (sub_upd (none_of_sub s2 nt))) (.cons ((zb.mono s1).mono (sub_upd (none_of_sub s2 nt))) .nil))⟩⟩
/-- enumerate(xs) of a list -/
def enumD : Nat → List D → List D
  | _, [] => []
  | i, d :: ds => .tuple [.int (i : Nat), d] :: enumD (i + 1) ds
theorem enumD_get : ∀ {ds : List D} {k i : Nat} {d : D}, ds[i]? = some d → (enumD k ds)[i]? = some (.tuple [.int ((k + i : Nat) : Int), d])
  | [], k, i, d, h => by simp at h
  | _ :: ds, k, 0, d, h => by simp at h; subst h; rfl
  | _ :: ds, k, i + 1, d, h => by
    have q := enumD_get (ds := ds) (k := k + 1) (i := i) (d := d) (by simpa using h)
    rw [show k + 1 + i = k + (i + 1) by omega] at q
    simpa [enumD] using q
theorem enumD_len : ∀ {ds : List D} {k : Nat}, (enumD k ds).length = ds.length
  | [], _ => rfl
  | _ :: ds, k => congrArg (· + 1) (enumD_len (ds := ds) (k := k + 1))
def iEnumL : List D → Option (List D)
  | [.list ds] => some (enumD 0 ds)
  | _ => none
/-- zip(xs, ys) -/
def zipD : List D → List D → List D
  | a :: as, b :: bs => .tuple [a, b] :: zipD as bs
  | _, _ => []
theorem zipD_get : ∀ {as bs : List D} {i : Nat} {a b : D}, as[i]? = some a → bs[i]? = some b → (zipD as bs)[i]? = some (.tuple [a, b])
  | [], _, i, a, b, h, _ => by simp at h
  | _ :: _, [], i, a, b, _, h => by simp at h
  | _ :: as, _ :: bs, 0, a, b, h, g => by simp at h g; subst h; subst g; rfl
  | _ :: as, _ :: bs, i + 1, a, b, h, g => by
    have q := zipD_get (as := as) (bs := bs) (i := i) (by simpa using h) (by simpa using g)
    simpa [zipD] using q
theorem zipD_len : ∀ {as bs : List D}, (zipD as bs).length = min as.length bs.length
  | [], _ => by simp [zipD]
  | _ :: _, [] => by simp [zipD]
  | _ :: as, _ :: bs => by
    simp only [zipD, List.length_cons, zipD_len (as := as) (bs := bs)]
    omega
end
end Z

/-! ZJ: comprehensions. -/
namespace Z
open PySem PySem.Spec L2
def wipeE (ρ : En) : List Nat → En
  | [] => ρ
  | v :: vs => (wipeE ρ vs).set v .un
def putBack (ρ ρ3 : En) : List Nat → En
  | [] => ρ3
  | v :: vs => match ρ[v]? with
    | some s => (putBack ρ ρ3 vs).set v s
    | none => putBack ρ ρ3 vs
theorem wipeE_len (ρ : En) : ∀ vs : List Nat, (wipeE ρ vs).length = ρ.length
  | [] => rfl
  | v :: vs => by unfold wipeE; rw [List.length_set, wipeE_len ρ vs]
theorem putBack_len {ρ ρ3 : En} : ∀ vs : List Nat, (putBack ρ ρ3 vs).length = ρ3.length
  | [] => rfl
  | v :: vs => by
    unfold putBack
    split
    · rw [List.length_set, putBack_len vs]
    · exact putBack_len vs
theorem wipeE_off {ρ : En} {j : Nat} : ∀ {vs : List Nat}, j ∉ vs → (wipeE ρ vs)[j]? = ρ[j]?
  | [], _ => rfl
  | v :: vs, h => by
    unfold wipeE
    rw [List.getElem?_set_ne (by intro z; subst z; simp at h), wipeE_off (by intro z; exact h (List.mem_cons_of_mem _ z))]
theorem wipe_off {σ : St} {j : Nat} : ∀ {vs : List Nat}, j ∉ vs → (wipe σ vs)[j]? = σ[j]?
  | [], _ => rfl
  | v :: vs, h => by
    unfold wipe
    rw [List.getElem?_set_ne (by intro z; subst z; simp at h), wipe_off (by intro z; exact h (List.mem_cons_of_mem _ z))]
theorem wipeE_in {ρ : En} {j : Nat} {s : Sl} : ∀ {vs : List Nat}, j ∈ vs → (wipeE ρ vs)[j]? = some s → s = .un
  | v :: vs, h, e => by
    unfold wipeE at e
    rcases get_set_un e with ⟨_, z⟩ | ⟨hj, z⟩
    · exact z
    · rcases List.mem_cons.mp h with w | w
      · exact absurd w hj
      · exact wipeE_in w z
theorem wipe_in {σ : St} {j : Nat} : ∀ {vs : List Nat}, j ∈ vs → j < σ.length → (wipe σ vs)[j]? = some none
  | v :: vs, h, hl => by
    unfold wipe
    by_cases hj : j = v
    · subst hj; rw [List.getElem?_set_self (by rw [wipe_length]; exact hl)]
    · rw [List.getElem?_set_ne (Ne.symm hj)]
      exact wipe_in ((List.mem_cons.mp h).resolve_left hj) hl
theorem putBack_off {ρ ρ3 : En} {j : Nat} : ∀ {vs : List Nat}, j ∉ vs → (putBack ρ ρ3 vs)[j]? = ρ3[j]?
  | [], _ => rfl
  | v :: vs, h => by
    have h1 : j ∉ vs := fun z => h (List.mem_cons_of_mem _ z)
    unfold putBack
    split
    · rw [List.getElem?_set_ne (by intro z; subst z; simp at h), putBack_off h1]
    · exact putBack_off h1
theorem putBack_in {ρ ρ3 : En} {j : Nat} (hl : ρ3.length = ρ.length) : ∀ {vs : List Nat}, j ∈ vs → (putBack ρ ρ3 vs)[j]? = ρ[j]?
  | v :: vs, h => by
    unfold putBack
    by_cases hj : j = v
    · subst hj
      split
      · rename_i s e
        have : j < ρ.length := (List.getElem?_eq_some_iff.mp e).1
        rw [List.getElem?_set_self (by rw [putBack_len, hl]; exact this), e]
      · rename_i e
        have : ρ.length ≤ j := List.getElem?_eq_none_iff.mp e
        rw [e]
        exact List.getElem?_eq_none_iff.mpr (by rw [putBack_len, hl]; exact this)
    · have hm := (List.mem_cons.mp h).resolve_left hj
      split
      · rw [List.getElem?_set_ne (Ne.symm hj)]; exact putBack_in hl hm
      · exact putBack_in hl hm
theorem wipe_same {σ σ2 : St} {vs ts : List Nat} (o : Off ts (wipe σ vs) σ2) (hts : ∀ t ∈ ts, t ∈ vs) : wipe σ2 vs = wipe σ vs := by
  have hl : σ2.length = σ.length := o.1.trans (wipe_length σ vs)
  refine List.ext_getElem? fun j => ?_
  by_cases hj : j ∈ vs
  · by_cases hs : j < σ.length
    · rw [wipe_in hj (by rw [hl]; exact hs), wipe_in hj hs]
    · rw [List.getElem?_eq_none (by rw [wipe_length, hl]; omega), List.getElem?_eq_none (by rw [wipe_length]; omega)]
  · rw [wipe_off hj, o.2 j fun z => hj (hts j z)]
section
variable {K : PySem.W.Frag} {ρ ρ' ρ3 : En} {F F' F3 : Hp} {σ σ' σ3 : St} {H H' H3 : Hp} {vs : List Nat}
theorem ow_wipe {a : Addr} (h : Ow (wipeE ρ vs) (wipe σ vs) a) : ∃ (i : Nat) (p : Bool) (ds : List D), i ∉ vs ∧ ρ[i]? = some (.ow p ds) ∧ σ[i]? = some (some (.ref a)) := by
  obtain ⟨i, p, ds, h1, h2⟩ := h
  by_cases hi : i ∈ vs
  · cases wipeE_in hi h1
  · exact ⟨i, p, ds, hi, by rw [← wipeE_off hi]; exact h1, by rw [← wipe_off hi]; exact h2⟩
theorem owN_wipe {a : Addr} (h : OwN (wipeE ρ vs) (wipe σ vs) a) : ∃ (i : Nat) (ds : List D), i ∉ vs ∧ ρ[i]? = some (.ow false ds) ∧ σ[i]? = some (some (.ref a)) := by
  obtain ⟨i, ds, h1, h2⟩ := h
  by_cases hi : i ∈ vs
  · cases wipeE_in hi h1
  · exact ⟨i, ds, hi, by rw [← wipeE_off hi]; exact h1, by rw [← wipe_off hi]; exact h2⟩
theorem blk_in (r : Rep K ρ F σ H) : Rep K (wipeE ρ vs) F (wipe σ vs) H where
  len := by rw [wipeE_len, wipe_length]; exact r.len
  sub := r.sub
  vl := fun i d h => by
    by_cases hi : i ∈ vs
    · cases wipeE_in hi h
    · rw [wipeE_off hi] at h; rw [wipe_off hi]; exact r.vl i d h
  ow := fun i p ds h => by
    by_cases hi : i ∈ vs
    · cases wipeE_in hi h
    · rw [wipeE_off hi] at h; rw [wipe_off hi]; exact r.ow i p ds h
  sep := fun i j p q ds es a hij h1 h2 g1 g2 => by
    by_cases hi : i ∈ vs
    · cases wipeE_in hi h1
    · by_cases hj : j ∈ vs
      · cases wipeE_in hj h2
      · rw [wipeE_off hi] at h1; rw [wipe_off hi] at g1; rw [wipeE_off hj] at h2; rw [wipe_off hj] at g2
        exact r.sep i j p q ds es a hij h1 h2 g1 g2
/-- behind a turn of a comprehension the names of its own are as they were -/
theorem blk_out (r : Rep K ρ F σ H) (m : Nx K (wipeE ρ vs) F (wipe σ vs) H ρ3 F3 σ3 H3) (o : Off vs (wipe σ vs) σ3) : Nx K ρ F σ H (putBack ρ ρ3 vs) F3 σ H3 := by
  have l3 : ρ3.length = ρ.length := by rw [m.rep.len, o.1, wipe_length, r.len]
  have s3 : ∀ {j : Nat}, j ∉ vs → σ3[j]? = σ[j]? := fun h => (o.2 _ h).trans (wipe_off h)
  -- a list of a hidden name is not within reach
  have hid : ∀ {i : Nat} {p : Bool} {ds : List D} {a : Addr}, i ∈ vs → ρ[i]? = some (.ow p ds) → σ[i]? = some (some (.ref a)) → ¬ Ow (wipeE ρ vs) (wipe σ vs) a := fun {i p ds a} hi h1 h2 q => by
    obtain ⟨k, q', es, hk, g1, g2⟩ := ow_wipe q
    exact r.sep i k p q' ds es a (fun z => hk (z ▸ hi)) h1 g1 h2 g2
  refine ⟨⟨by rw [putBack_len, l3]; exact r.len, m.rep.sub, fun j d h => ?_, fun j p ds h => ?_, fun j k p q ds es a hjk h1 h2 g1 g2 => ?_⟩, m.ext, fun a ob h no => m.keep a ob h fun q => ?_, m.dom, fun a q => ?_, fun a ob h => ?_, fun i ds h => ?_⟩
  · by_cases hj : j ∈ vs
    · rw [putBack_in l3 hj] at h
      obtain ⟨v, e1, e2⟩ := r.vl j d h
      exact ⟨v, e1, e2.mono m.ext⟩
    · rw [putBack_off hj] at h; rw [← s3 hj]; exact m.rep.vl j d h
  · by_cases hj : j ∈ vs
    · rw [putBack_in l3 hj] at h
      obtain ⟨a, xs, e1, e2, e3, e4⟩ := r.ow j p ds h
      have no := hid hj h e1
      refine ⟨a, xs, e1, m.keep a _ e2 no, e3.mono m.ext, ?_⟩
      cases q : F3 a with
      | none => rfl
      | some ob =>
        rcases m.new a ob q with z | z | z
        · rw [e4] at z; cases z
        · rw [e2] at z; cases z
        · exact (no z.ow).elim
    · rw [putBack_off hj] at h; rw [← s3 hj]; exact m.rep.ow j p ds h
  · have one : ∀ {j k : Nat} {p q : Bool} {ds es : List D}, j ∈ vs → k ∉ vs → (putBack ρ ρ3 vs)[j]? = some (.ow p ds) → (putBack ρ ρ3 vs)[k]? = some (.ow q es) → σ[j]? = some (some (.ref a)) → σ[k]? = some (some (.ref a)) → False := by
      intro j k p q ds es hj hk h1 h2 g1 g2
      rw [putBack_in l3 hj] at h1; rw [putBack_off hk] at h2
      obtain ⟨_, xs, e1, e2, _, _⟩ := r.ow j p ds h1
      rw [g1] at e1; cases e1
      rcases m.own a ⟨k, q, es, h2, by rw [s3 hk]; exact g2⟩ with z | z
      · exact hid hj h1 g1 z
      · rw [e2] at z; cases z
    by_cases hj : j ∈ vs
    · by_cases hk : k ∈ vs
      · rw [putBack_in l3 hj] at h1; rw [putBack_in l3 hk] at h2
        exact r.sep j k p q ds es a hjk h1 h2 g1 g2
      · exact one hj hk h1 h2 g1 g2
    · by_cases hk : k ∈ vs
      · exact one hk hj h2 h1 g2 g1
      · rw [putBack_off hj] at h1; rw [putBack_off hk] at h2
        exact m.rep.sep j k p q ds es a hjk h1 h2 (by rw [s3 hj]; exact g1) (by rw [s3 hk]; exact g2)
  · obtain ⟨i, p, ds, hi, g1, g2⟩ := ow_wipe q
    exact no ⟨i, p, ds, g1, g2⟩
  · obtain ⟨j, p, ds, h1, h2⟩ := q
    by_cases hj : j ∈ vs
    · rw [putBack_in l3 hj] at h1
      exact .inl ⟨j, p, ds, h1, h2⟩
    · rw [putBack_off hj] at h1
      rcases m.own a ⟨j, p, ds, h1, by rw [s3 hj]; exact h2⟩ with z | z
      · obtain ⟨i, p', ds', _, g1, g2⟩ := ow_wipe z
        exact .inl ⟨i, p', ds', g1, g2⟩
      · exact .inr z
  · rcases m.new a ob h with z | z | z
    · exact .inl z
    · exact .inr (.inl z)
    · obtain ⟨i, ds', _, g1, g2⟩ := owN_wipe z
      exact .inr (.inr ⟨i, ds', g1, g2⟩)
  · by_cases hi : i ∈ vs
    · exact ⟨⟨ds, by rw [putBack_in l3 hi]; exact h⟩, rfl⟩
    · obtain ⟨⟨ds', e1⟩, _⟩ := m.pin i ds (by rw [wipeE_off hi]; exact h)
      exact ⟨⟨ds', by rw [putBack_off hi]; exact e1⟩, rfl⟩
/-- a list in the making, which nobody holds, is changed -/
theorem Nx.poke (n : Nx K ρ F σ H ρ' F' σ' H') {a : Addr} {o ob : HO} (h0 : H a = none) (h1 : H' a = some ob) (f : F' a = none) (no : ¬ Ow ρ' σ' a) : Nx K ρ F σ H ρ' F' σ' (upd H' a o) where
  rep := { len := n.rep.len, sep := n.rep.sep, vl := n.rep.vl
           sub := fun b u e => by rw [upd_ne fun z => by subst z; rw [f] at e; cases e]; exact n.rep.sub b u e
           ow := fun i p ds e => by
            obtain ⟨b, xs, e1, e2, e3, e4⟩ := n.rep.ow i p ds e
            exact ⟨b, xs, e1, by rw [upd_ne fun z => no (by subst z; exact ⟨i, p, ds, e, e1⟩)]; exact e2, e3, e4⟩ }
  ext := n.ext
  keep := fun b u e nb => by rw [upd_ne (ne_of_none e h0)]; exact n.keep b u e nb
  dom := fun b e => n.dom b (by
    by_cases z : b = a
    · subst z; rw [upd_same] at e; cases e
    · rw [upd_ne z] at e; exact e)
  own := n.own
  new := n.new
  pin := n.pin
end
/-! ### the comprehension -/
def compL (g : D → En → Option En) (cond : En → Rz Bool) (elt : En → Rz Va) (vs : List Nat) : List D → En → List D → Rz (List D)
  | [], ρ, acc => .ok acc ρ
  | d :: ds, ρ, acc => match g d (wipeE ρ vs) with
    | none => .no
    | some ρ1 => match cond ρ1 with
      | .ok true ρ2 => match elt ρ2 with
        | .ok va ρ3 => if acc.length < sizeLine then compL g cond elt vs ds (putBack ρ ρ3 vs) (acc ++ [va.d]) else .no
        | _ => .no
      | .ok false ρ2 => compL g cond elt vs ds (putBack ρ ρ2 vs) acc
      | _ => .no
def oComp (fi : En → Rz (List D)) (g : D → En → Option En) (cond : En → Rz Bool) (elt : En → Rz Va) (vs : List Nat) : En → Rz Va := fun ρ => (fi ρ).bind fun ds ρ1 => (compL g cond elt vs ds ρ1 []).bind fun acc ρ2 => .ok (.fo acc) ρ2
abbrev W0 : WX := fun _ _ _ _ => False
section
variable {T : Pg} {W : WX} {X : Cx} {elt tg iter : Expr} {ifs : List Expr} {scope : Scope} {own : List (Str × Nat)} {pos : Pos} {ts : List Nat} {g : D → En → Option En} {cond : En → Rz Bool} {fe : En → Rz Va} {fi : En → Rz (List D)}
theorem t_comp {vs : List Nat} {σ : L2.St} {H : Hp} {Q : VK} (hts : ∀ t ∈ ts, t ∈ vs) (h : tO T W (oComp fi g cond fe vs) σ H Q) : tLc (tI T W fi) (tG T ts g) (tB T W0 cond) (tX T W0 (xO fe)) vs σ H Q := by
  obtain ⟨ρ, F, r, gg⟩ := h
  refine ⟨ρ, F, r, (GX.bind0 (S1 := (· = σ)) gg fun _ z => z).mono (fun _ z => z) fun ds ρ1 F1 σ1 H1 es n1 g1 J gv => ?_⟩
  subst es
  obtain ⟨G, hG, w⟩ := gv
  intro A nA
  have nA0 : H A = none := n1.dom A nA
  have m1 : Nx T.K ρ F σ1 H ρ1 F1 σ1 (upd H1 A (.lst [])) := n1.trans (Nx.step n1.rep (Ps.one n1.rep.sub nA))
  refine lc_it w (fun i Hi => ∃ ρi Fi acc xs, Nx T.K ρ F σ1 H ρi Fi σ1 Hi ∧ Sub F1 Fi ∧ Hi A = some (.lst xs) ∧ DzAll T.K Fi xs acc ∧ Fi A = none ∧ ¬ Ow ρi σ1 A ∧ GX T W ρ F σ1 H (· = σ1) (PO T ρ σ1 H Q) ((compL g cond fe vs (ds.drop i) ρi acc).bind fun acc ρ2 => .ok (.fo acc) ρ2))
    ⟨ρ1, F1, [], [], m1, Sub.rfl', upd_same, .nil, none_of_sub n1.rep.sub nA, fun z => ?_, g1⟩ (fun i Hi _ ⟨ρi, Fi, acc, xs, n, s, _⟩ => hG Hi (s.trans n.rep.sub)) (fun i x Hi H' hi ⟨ρi, Fi, acc, xs, n, s, hA, za, fA, oA, gi⟩ ⟨d, hd, y⟩ => ?_) fun Hi ⟨ρi, Fi, acc, xs, n, s, hA, za, fA, oA, gi⟩ => ?_
  · obtain ⟨_, ys, q⟩ := n1.rep.owF z
    rw [nA] at q; cases q
  · obtain ⟨F2, ps, z⟩ := y Fi s n.rep.sub
    rw [drop_cons hd] at gi
    unfold compL at gi
    cases q : g d (wipeE ρi vs) with
    | none => simp only [q] at gi; exact gi.elim
    | some ρ' =>
    simp only [q] at gi
    have n2 : Nx T.K ρ F σ1 H ρi F2 σ1 H' := n.trans (Nx.step n.rep ps)
    refine ⟨wipeE ρi vs, F2, d, ρ', blk_in n2.rep, z, q, fun σ2 off m => ⟨wipe_same off hts, ?_⟩⟩
    have offV : Off vs (wipe σ1 vs) σ2 := ⟨off.1, fun j hj => off.2 j fun t => hj (hts j t)⟩
    have hA2 : H' A = some (.lst xs) := ps.keep _ _ hA
    have fA2 : F2 A = none := ps.noF fA hA
    have oAw : ¬ Ow (wipeE ρi vs) (wipe σ1 vs) A := fun z => by
      obtain ⟨j, p, es, _, e1, e2⟩ := ow_wipe z
      exact oA ⟨j, p, es, e1, e2⟩
    -- what is so behind a turn, at any state that it may end in
    have fin : ∀ {ρ3 F3 H3}, Nx T.K (wipeE ρi vs) F2 (wipe σ1 vs) H' ρ3 F3 σ2 H3 → Nx T.K ρ F σ1 H (putBack ρi ρ3 vs) F3 σ1 H3 ∧ Sub F1 F3 ∧ H3 A = some (.lst xs) ∧ F3 A = none ∧ ¬ Ow (putBack ρi ρ3 vs) σ1 A ∧ Sub Fi F3 := fun {ρ3 F3 H3} k => by
      have b := blk_out n2.rep k offV
      refine ⟨n2.trans b, (s.trans ps.ext).trans k.ext, k.keep A _ hA2 oAw, ?_, fun o => ?_, ps.ext.trans k.ext⟩
      · cases q : F3 A with
        | none => rfl
        | some ob =>
          rcases k.new A ob q with z | z | z
          · rw [fA2] at z; cases z
          · rw [hA2] at z; cases z
          · exact (oAw z.ow).elim
      · rcases b.own A o with z | z
        · exact oA z
        · rw [hA2] at z; cases z
    cases qc : cond ρ' with
    | no => simp only [qc] at gi; exact gi.elim
    | ex c d ρ2 => simp only [qc] at gi; exact gi.elim
    | ok b ρ2 =>
    simp only [qc] at gi
    refine ⟨ρ', F2, m.rep, ?_⟩
    rw [qc]
    intro F3 σ3 H3 e3 n3
    subst e3
    cases b with
    | false =>
      obtain ⟨k1, k2, k3, k4, k5, k6⟩ := fin (m.trans n3)
      exact ⟨_, F3, acc, xs, k1, k2, k3, za.mono k6, k4, k5, gi⟩
    | true =>
      simp only [] at gi
      show tX T W0 (xO fe) _ H3 _
      cases qe : fe ρ2 with
      | no => simp only [qe] at gi; exact gi.elim
      | ex c d ρ4 => simp only [qe] at gi; exact gi.elim
      | ok va ρ4 =>
      simp only [qe] at gi
      refine ⟨ρ2, F3, n3.rep, ?_⟩
      unfold xO
      rw [qe]
      intro F4 σ4 H4 e4 n4 yv zy
      subst e4
      split at gi
      · rename_i hl
        obtain ⟨k1, k2, k3, k4, k5, k6⟩ := fin ((m.trans n3).trans n4)
        refine ⟨xs, k3, by rw [za.len]; exact hl, _, F4, acc ++ [va.d], xs ++ [yv], k1.poke nA0 k3 k4 k5, k2, upd_same, (za.mono k6).append (.cons zy .nil), k4, k5, gi⟩
      · exact gi.elim
  · rw [List.drop_length] at gi
    exact gi Fi σ1 Hi rfl n _ ⟨A, xs, rfl, hA, za, fA, oA, .inl nA0⟩
theorem do_comp (hc : X.calm = true) (hN : X.N.Nodup) (hi : DI T W X tg iter fi) (ok : BlkOk X.N X.env.scope scope own) (hts : ∀ t ∈ ts, t ∈ own.map (·.2))
    (hg : ∀ (s : Shared) (H : Hp) (C : Addr) (cl : List (Str × Addr)) (fp : List Addr), DG T (X.blk s H scope (compEnvC scope cl C X.env) fp) tg ts g) (ht : ∀ (s : Shared) (H : Hp) (C : Addr) (cl : List (Str × Addr)) (fp : List Addr), PTs (X.blk s H scope (compEnvC scope cl C X.env) fp) ifs (tB T W0 cond))
    (he : ∀ (s : Shared) (H : Hp) (C : Addr) (cl : List (Str × Addr)) (fp : List Addr), DO T W0 (X.blk s H scope (compEnvC scope cl C X.env) fp) elt fe) (hs : ∀ x, foldedSetIterable iter X.env x = pure x) :
    DO T W X (.ListComp elt [⟨tg, iter, ifs, 0⟩] scope pos) (oComp fi g cond fe (own.map (·.2))) :=
  ⟨pe_imp (pe_lc (te := tX T W0 (xO fe)) hc hN hi.run ok (fun s H C cl fp => (hg s H C cl fp).run) ht (fun s H C cl fp => (he s H C cl fp).dx.run) hs) fun _ _ _ h => t_comp hts h⟩
/-- x = [..] on one line, x a local name -/
theorem ds_setC {i : Nat} {y : Str} {py spos : Pos} (hc : X.calm = true) (hN : X.N.Nodup) (hy : X.N[i]? = some y) (hyl : X.env.scope.names.lookup y = some .local) (hsw : swapsWith (.ListComp elt [⟨tg, iter, ifs, 0⟩] scope pos) (some (.Name y py)) spos.line X.env = pure true)
    (hi : DI T W X tg iter fi) (ok : BlkOk X.N X.env.scope scope own) (hts : ∀ t ∈ ts, t ∈ own.map (·.2))
    (hg : ∀ (s : Shared) (H : Hp) (C : Addr) (cl : List (Str × Addr)) (fp : List Addr), DG T (X.blk s H scope (compEnvC scope cl C X.env) fp) tg ts g) (ht : ∀ (s : Shared) (H : Hp) (C : Addr) (cl : List (Str × Addr)) (fp : List Addr), PTs (X.blk s H scope (compEnvC scope cl C X.env) fp) ifs (tB T W0 cond))
    (he : ∀ (s : Shared) (H : Hp) (C : Addr) (cl : List (Str × Addr)) (fp : List Addr), DO T W0 (X.blk s H scope (compEnvC scope cl C X.env) fp) elt fe) (hs : ∀ x, foldedSetIterable iter X.env x = pure x) :
    DS T W X (.Assign [.Name y py] (.ListComp elt [⟨tg, iter, ifs, 0⟩] scope pos) spos) (sSet i (oComp fi g cond fe (own.map (·.2)))) :=
  ⟨ps_imp (ps_setLc (te := tX T W0 (xO fe)) hc hN hy hyl hsw hi.run ok (fun s H C cl fp => (hg s H C cl fp).run) ht (fun s H C cl fp => (he s H C cl fp).dx.run) hs) fun D σ H ⟨ρ, F, r, gg⟩ =>
    t_comp hts (tO_raw r gg trivial fun va ρ1 F1 H1 v n1 hv g1 => by
      cases q : setV ρ1 i va with
      | none => rw [q] at g1; exact g1.elim
      | some ρ2 =>
        rw [q] at g1
        exact g1 F1 _ H1 trivial (n1.setV q hv))⟩
end
end Z

/-! ZK: built-in functions of data. -/
namespace Z
open PySem PySem.Spec L2
section
variable {K : PySem.W.Frag} {F H : Hp}
theorem dq1 {v : V} {vs : List V} {d : D} {ds : List D} (h : DqAll K F H vs [d]) : ∃ v, vs = [v] ∧ Dq K F H v d := by
  cases h with
  | cons a b => cases b; exact ⟨_, rfl, a⟩
theorem dq2 {vs : List V} {d e : D} (h : DqAll K F H vs [d, e]) : ∃ v u, vs = [v, u] ∧ Dq K F H v d ∧ Dq K F H u e := by
  cases h with
  | cons a b =>
    cases b with
    | cons b c => cases c; exact ⟨_, _, rfl, a, b⟩
end
/-! ### len -/
def pLen : List D → Option Va
  | [.list ds] => some (.fz (.int (ds.length : Nat)))
  | [.tuple ds] => some (.fz (.int (ds.length : Nat)))
  | [.str x] => if x.length ≤ sizeLine then some (.fz (.int (x.length : Nat))) else none
  | [.dict [(.none, .list ds)]] => some (.fz (.int (ds.length : Nat)))
  | _ => none
theorem im_len {K : PySem.W.Frag} : ImL K (fun xs H Q => ∃ (x : V) (n : Nat), xs = [x] ∧ LenV K x H n ∧ Q (.int n) H) pLen := ⟨fun F H vs ds va Q s h hp k => by
  unfold pLen at hp
  split at hp
  · obtain ⟨v, rfl, q⟩ := dq1 (v := .non) (ds := []) h
    cases hp
    obtain ⟨a, xs, rfl, e1, z1⟩ := q.list s
    exact ⟨_, _, rfl, .inl ⟨xs, .inl (.inl e1), rfl⟩, by rw [z1.len]; exact k_v s (.int _) k⟩
  · obtain ⟨v, rfl, q⟩ := dq1 (v := .non) (ds := []) h
    cases hp
    obtain ⟨a, xs, rfl, f1, e1, z1⟩ := q.tup s
    exact ⟨_, _, rfl, .inr ⟨xs, e1, rfl⟩, by rw [z1.len]; exact k_v s (.int _) k⟩
  · split at hp
    · rename_i hl
      obtain ⟨v, rfl, q⟩ := dq1 (v := .non) (ds := []) h
      cases hp
      rw [q.str]
      exact ⟨_, _, rfl, ⟨hl, rfl⟩, k_v s (.int _) k⟩
    · cases hp
  · obtain ⟨v, rfl, q⟩ := dq1 (v := .non) (ds := []) h
    cases hp
    obtain ⟨a, ns, rfl, e1, rfl⟩ := q.scr s
    exact ⟨_, _, rfl, .inl ⟨_, e1, rfl⟩, by rw [List.length_map]; rw [List.length_map] at k; exact k_v s (.int _) k⟩
  · cases hp⟩
def pAbs : List D → Option Va
  | [.int i] => some (.fz (.int (if i < 0 then -i else i)))
  | _ => none
theorem im_abs {K : PySem.W.Frag} : ImL K (fun xs H Q => ∃ i, xs = [.int i] ∧ Q (.int (if i < 0 then -i else i)) H) pAbs := ⟨fun F H vs ds va Q s h hp k => by
  unfold pAbs at hp
  split at hp
  · obtain ⟨v, rfl, q⟩ := dq1 (v := .non) (ds := []) h
    cases hp
    exact ⟨_, by rw [q.int], k_v s (.int _) k⟩
  · cases hp⟩
def pInt : List D → Option Va
  | [.int i] => some (.fz (.int i))
  | [.bool b] => some (.fz (.int (if b = true then 1 else 0)))
  | _ => none
theorem im_int {K : PySem.W.Frag} : ImL K (fun xs H Q => (∃ i, xs = [.int i] ∧ Q (.int i) H) ∨ ∃ k, xs = [.bl k] ∧ Q (.int (if k = true then 1 else 0)) H) pInt := ⟨fun F H vs ds va Q s h hp k => by
  unfold pInt at hp
  split at hp
  · obtain ⟨v, rfl, q⟩ := dq1 (v := .non) (ds := []) h
    cases hp
    exact .inl ⟨_, by rw [q.int], k_v s (.int _) k⟩
  · obtain ⟨v, rfl, q⟩ := dq1 (v := .non) (ds := []) h
    cases hp
    exact .inr ⟨_, by rw [q.bool], k_v s (.int _) k⟩
  · cases hp⟩
def pList : List D → Option Va
  | [.list ds] => some (.fo ds)
  | [.tuple ds] => some (.fo ds)
  | _ => none
theorem im_list {K : PySem.W.Frag} : ImL K (fun xs H Q => ∃ (p : Addr) (ys : List V), xs = [.ref p] ∧ (SqL K H p ys ∨ SqT K H p ys) ∧ ∀ l, H l = none → Q (.ref l) (upd H l (.lst ys))) pList := ⟨fun F H vs ds va Q s h hp k => by
  unfold pList at hp
  split at hp
  · obtain ⟨v, rfl, q⟩ := dq1 (v := .non) (ds := []) h
    cases hp
    obtain ⟨a, xs, rfl, e1, z1⟩ := q.list s
    exact ⟨a, xs, rfl, .inl (.inl (.inl e1)), fun p np => k_lst s z1 k np⟩
  · obtain ⟨v, rfl, q⟩ := dq1 (v := .non) (ds := []) h
    cases hp
    obtain ⟨a, xs, rfl, f1, e1, z1⟩ := q.tup s
    exact ⟨a, xs, rfl, .inr e1, fun p np => k_lst s z1 k np⟩
  · cases hp⟩
def pTuple : List D → Option Va
  | [.list ds] => some (.fz (.tuple ds))
  | [.tuple ds] => some (.fz (.tuple ds))
  | _ => none
theorem im_tuple {K : PySem.W.Frag} : ImL K (fun xs H Q => ∃ (p : Addr) (ys : List V), xs = [.ref p] ∧ ((SqL K H p ys ∧ ∀ l, H l = none → Q (.ref l) (upd H l (.tup ys))) ∨ SqT K H p ys ∧ Q (.ref p) H)) pTuple := ⟨fun F H vs ds va Q s h hp k => by
  unfold pTuple at hp
  split at hp
  · obtain ⟨v, rfl, q⟩ := dq1 (v := .non) (ds := []) h
    cases hp
    obtain ⟨a, xs, rfl, e1, z1⟩ := q.list s
    exact ⟨a, xs, rfl, .inl ⟨.inl (.inl e1), fun p np => k_tup s z1 k np⟩⟩
  · obtain ⟨v, rfl, q⟩ := dq1 (v := .non) (ds := []) h
    cases hp
    obtain ⟨a, xs, rfl, f1, e1, z1⟩ := q.tup s
    exact ⟨a, xs, rfl, .inr ⟨e1, k_v s (.tup f1 z1) k⟩⟩
  · cases hp⟩
/-! ### sorted, min of data that are alike -/
def alikeB (ds : List D) : Bool := ds.all fun d => ds.all fun e => W.alike d e
theorem alikeB_ok {ds : List D} (h : alikeB ds = true) : W.AllAlike ds := fun d hd e he => List.all_eq_true.mp (List.all_eq_true.mp h d hd) e he
def tupNE : D → Bool
  | .tuple (_ :: _) => true
  | _ => false
def notTN : D → Bool
  | .none => false
  | .tuple _ => false
  | _ => true
def sortB (ds : List D) : Bool := ds.all tupNE || ds.all notTN
theorem sortB_ok {ds : List D} (h : sortB ds = true) : W.Sortable ds := by
  rcases Bool.or_eq_true_iff.mp h with h | h
  · refine .inl fun d hd => ?_
    have q := List.all_eq_true.mp h d hd
    unfold tupNE at q
    split at q
    · exact ⟨_, _, rfl⟩
    · cases q
  · refine .inr fun d hd => ?_
    have q := List.all_eq_true.mp h d hd
    unfold notTN at q
    split at q
    · cases q
    · cases q
    · rename_i h1 h2
      exact ⟨h1, h2⟩
def deepB (ds : List D) : Bool := ds.all fun d => decide (d.depth ≤ 64)
def sortD (ds : List D) : List D := ds.mergeSort (W.dataLe false id)
def rSortD (K : PySem.W.Frag) : List V → Hp → VK → Prop := fun vs H Q => ∃ (a : Addr) (xs : List V) (ds : List D), vs = [.ref a] ∧ SqL K H a xs ∧ xs.length = ds.length ∧ (∀ p ∈ xs.zip ds, Dp K H p.1 p.2) ∧ W.AllAlike ds ∧ W.Sortable ds ∧ (∀ d ∈ ds, d.depth ≤ 64) ∧
  ∀ p, H p = none → Q (.ref p) (upd H p (.lst (((xs.zip ds).mergeSort (W.dataLe false Prod.snd)).map Prod.fst)))
theorem each_of {R : V → Value → Prop} : ∀ {xs : List V} {us : List Value} {ds : List D}, Paired R xs us → xs.length = ds.length → W.EachIs (fun u (b : V × D) => R b.1 u) us (xs.zip ds)
  | _, _, [], .nil, _ => .nil
  | _, _, _ :: ds, .cons a b, h => .cons a (each_of b (by simpa using h))
theorem each_and {α β : Type} {R S : α → β → Prop} : ∀ {as : List α} {bs : List β}, W.EachIs R as bs → (∀ a b, b ∈ bs → R a b → S a b) → W.EachIs S as bs
  | _, _, .nil, _ => .nil
  | _, _, .cons a b, h => .cons (h _ _ List.mem_cons_self a) (each_and b fun x y m r => h x y (List.mem_cons_of_mem _ m) r)
theorem vals_each : ∀ {us : List Value} {bs : List (V × D)}, W.EachIs (fun u (b : V × D) => RelV b.1 u) us bs → Vals (bs.map Prod.fst) us
  | _, _, .nil => .nil
  | _, _, .cons a b => .cons a (vals_each b)
theorem zip_snd {α β : Type} : ∀ {xs : List α} {ds : List β}, xs.length = ds.length → (xs.zip ds).map Prod.snd = ds
  | [], [], _ => rfl
  | _ :: xs, d :: ds, h => by rw [List.zip_cons_cons, List.map_cons, zip_snd (by simpa using h)]
theorem cr_sortD {X : Cx} (hu : X.A.units + 70 < cLine) : CallR X (.builtin "sorted") (rSortD X.K) := by
  intro pins s σ H vs us Q I r h
  obtain ⟨a, xs, ds, rfl, hq, hl, hd, al, so, dp, q⟩ := h
  obtain ⟨its, rv, pl, hz⟩ := I.list hq
  rw [Vals.ref1 r]
  have e0 : W.EachIs (fun u (b : V × D) => RelV b.1 u) its (xs.zip ds) := each_of rv hl
  have e1 : W.EachIs (fun u (b : V × D) => ∃ as, Reads s.heap u b.2 as) its (xs.zip ds) := each_and e0 fun u b m rr => Dp.reads I b.2 b.1 u (hd b m) rr
  have ms : (xs.zip ds).map Prod.snd = ds := zip_snd hl
  have len : (xs.zip ds).length = xs.length := by rw [List.length_zip, hl, Nat.min_self]
  refine W.sorted_data (enc := Prod.snd) (R := fun u (b : V × D) => RelV b.1 u) pl.isList e0 e1 (by rw [ms]; exact al) (by rw [ms]; exact so) (by rw [len]; exact hz) (fun b hb => ?_) fun out ho eo => ?_
  · have : b.2 ∈ ds := (List.of_mem_zip hb).2
    have := dp _ this
    omega
  · obtain ⟨ep, he'⟩ := PyProof.Rows.sortedAll_at s.heap its (List.toArray out)
    have vo := vals_each eo
    have lo : (((xs.zip ds).mergeSort (W.dataLe false Prod.snd)).map Prod.fst).length ≤ sizeLine := by
      rw [vo.length, ho, len]
      exact hz
    exact ⟨.ref (s.heap.objs.size + 1), upd H (s.heap.objs.size + 1) (.lst (((xs.zip ds).mergeSort (W.dataLe false Prod.snd)).map Prod.fst)), I.laid (t' := s.toks) (fun _ _ => PyProof.Rows.sortedAll_old) (Nat.le_succ _) ⟨lo, out, ep, vo, he'⟩, rfl, q _ (I.hok.fresh (Nat.le_succ _))⟩
def pSorted : List D → Option Va
  | [.list ds] => if alikeB ds = true ∧ sortB ds = true ∧ deepB ds = true ∧ PyData.canLayAll0 ds = true then some (.fo (sortD ds)) else none
  | _ => none
theorem dz_zip {K : PySem.W.Frag} {F : Hp} : ∀ {xs : List V} {ds : List D}, DzAll K F xs ds → ∀ p ∈ xs.zip ds, Dz K F p.1 p.2
  | _, _, .nil, _, h => by simp at h
  | _, _, .cons a b, p, h => by
    rcases List.mem_cons.mp (by simpa using h) with rfl | h
    · exact a
    · exact dz_zip b p h
theorem dzAll_map {K : PySem.W.Frag} {F : Hp} : ∀ {l : List (V × D)}, (∀ p ∈ l, Dz K F p.1 p.2) → DzAll K F (l.map Prod.fst) (l.map Prod.snd)
  | [], _ => .nil
  | p :: l, h => .cons (h p List.mem_cons_self) (dzAll_map fun q hq => h q (List.mem_cons_of_mem _ hq))
theorem canLay_mem : ∀ {ds : List D} {d : D}, PyData.canLayAll0 ds = true → d ∈ ds → d.canLay0 = true
  | _ :: _, d, h, hd => by
    have h' := Bool.and_eq_true_iff.mp (show (PyData.canLay0 _ && PyData.canLayAll0 _) = true by simpa [PyData.canLayAll0] using h)
    rcases List.mem_cons.mp hd with rfl | hd
    · exact h'.1
    · exact canLay_mem h'.2 hd
theorem im_sorted {K : PySem.W.Frag} : ImL K (rSortD K) pSorted := ⟨fun F H vs ds va Q s h hp k => by
  unfold pSorted at hp
  split at hp
  · split at hp
    · rename_i es c
      obtain ⟨v, rfl, q⟩ := dq1 (v := .non) (ds := []) h
      cases hp
      obtain ⟨a, xs, rfl, e1, z1⟩ := q.list s
      refine ⟨a, xs, es, rfl, .inl (.inl e1), z1.len, fun p hp => (dz_zip z1 p hp).dp s (canLay_mem c.2.2.2 (List.of_mem_zip hp).2), alikeB_ok c.1, sortB_ok c.2.1, fun d hd => of_decide_eq_true (List.all_eq_true.mp c.2.2.1 d hd), fun p np => k_lst s ?_ k np⟩
      have z2 := dzAll_map (l := (xs.zip es).mergeSort (W.dataLe false Prod.snd)) fun p hp => dz_zip z1 p (List.mem_mergeSort.mp hp)
      have e : ((xs.zip es).mergeSort (W.dataLe false Prod.snd)).map Prod.snd = sortD es := by
        unfold sortD
        have m := List.map_mergeSort (r := W.dataLe false Prod.snd) (s := W.dataLe false id) (f := Prod.snd) (l := xs.zip es) (fun a _ b _ => rfl)
        rw [m, zip_snd z1.len]
      rw [e] at z2
      exact z2
    · cases hp
  · cases hp⟩
/-- min(xs): the first of the least -/
def pMin : List D → Option Va
  | [.list (d :: ds)] => if alikeB (d :: ds) = true ∧ (d :: ds).all (fun x => !isN x) = true ∧ deepB (d :: ds) = true ∧ PyData.canLayAll0 (d :: ds) = true then some (.fz (W.minD d ds)) else none
  | _ => none
def rMinD (K : PySem.W.Frag) : List V → Hp → VK → Prop := fun vs H Q => ∃ (a : Addr) (xs : List V) (d : D) (ds : List D), vs = [.ref a] ∧ SqL K H a xs ∧ DpAll K H xs (d :: ds) ∧ W.AlikeAll (d :: ds) ∧ PyData.depthAll (d :: ds) ≤ 64 ∧
  ∀ (i : Nat) (v : V), xs[i]? = some v → (d :: ds)[i]? = some (W.minD d ds) → Q v H
theorem depthAll_le {n : Nat} : ∀ {ds : List D}, (∀ d ∈ ds, d.depth ≤ n) → PyData.depthAll ds ≤ n
  | [], _ => Nat.zero_le _
  | d :: ds, h => by
    simp only [PyData.depthAll]
    exact Nat.max_le.mpr ⟨h d List.mem_cons_self, depthAll_le fun e he => h e (List.mem_cons_of_mem _ he)⟩
theorem dpAll_reads {X : Cx} {pins : List (Addr × Obj)} {σ : St} {H : Hp} {s : Shared} (I : Inv X pins σ H s) : ∀ {ds : List D} {vs : List V} {us : List Value}, DpAll X.K H vs ds → Vals vs us → ∃ as, ReadsAll s.heap us ds as
  | [], _, _, h, r => by cases h; cases r; exact ⟨_, .nil⟩
  | d :: ds, _, _, h, r => by
    cases h with
    | cons h1 h2 =>
      cases r with
      | cons r1 r2 =>
        obtain ⟨as, q1⟩ := Dp.reads I d _ _ h1 r1
        obtain ⟨bs, q2⟩ := dpAll_reads I h2 r2
        exact ⟨_, .cons q1 q2⟩
theorem dpAll_get {K : PySem.W.Frag} {H : Hp} : ∀ {vs : List V} {ds : List D} {i : Nat} {v : V}, DpAll K H vs ds → vs[i]? = some v → ∃ d, ds[i]? = some d ∧ Dp K H v d
  | _, _, _, _, .nil, e => by simp at e
  | _, _, 0, _, .cons r _, e => by simp at e; subst e; exact ⟨_, rfl, r⟩
  | _, _, i + 1, v, .cons _ t, e => by
    obtain ⟨u, h1, h2⟩ := dpAll_get (i := i) (v := v) t (by simpa using e)
    exact ⟨u, by simpa using h1, h2⟩
theorem minD_mem : ∀ (ds : List D) (d : D), W.minD d ds ∈ d :: ds
  | [], d => List.mem_cons_self
  | e :: ds, d => by
    unfold W.minD
    rw [List.foldl_cons]
    have q := minD_mem ds (if W.dataLt e d then e else d)
    unfold W.minD at q
    rcases List.mem_cons.mp q with h | h
    · rw [h]
      split
      · exact List.mem_cons_of_mem _ List.mem_cons_self
      · exact List.mem_cons_self
    · exact List.mem_cons_of_mem _ (List.mem_cons_of_mem _ h)
theorem cr_minD {X : Cx} (hc : X.calm = true) (hu : X.A.units + 70 < cLine) : CallR X (.builtin "min") (rMinD X.K) := by
  intro pins s σ H vs us Q I r h
  obtain ⟨a, xs, d, ds, rfl, hq, hd, al, dp, q⟩ := h
  obtain ⟨its, rv, pl, hz⟩ := I.list hq
  rw [Vals.ref1 r]
  obtain ⟨as, rd⟩ := dpAll_reads I hd rv
  refine W.min_list_data (I.ok.hd hc) pl.isList (by simpa using rd) al (by omega) fun i v h' tk bs hv rm kk => ?_
  have hv' : its[i]? = some v := by simpa using hv
  have I' : Inv X pins σ H { s with heap := h', toks := tk } := I.kept kk
  have hi : i < xs.length := by rw [rv.length]; exact (List.getElem?_eq_some_iff.mp hv').1
  obtain ⟨u, hu1, hu2⟩ := rv.get (List.getElem?_eq_getElem hi)
  rw [hv'] at hu1; cases hu1
  obtain ⟨e, he1, he2⟩ := dpAll_get hd (List.getElem?_eq_getElem hi)
  obtain ⟨bs', rr⟩ := Dp.reads I' e _ v he2 hu2
  have e2 : e = W.minD d ds := W.alike_unique _ _ _ _ _ (al.1 e (List.mem_of_getElem? he1) _ (minD_mem ds d)) rr rm
  subst e2
  exact ⟨_, H, I', hu2, q i _ (List.getElem?_eq_getElem hi) he1⟩
theorem im_min {K : PySem.W.Frag} : ImL K (rMinD K) pMin := ⟨fun F H vs ds va Q s h hp k => by
  unfold pMin at hp
  split at hp
  · split at hp
    · rename_i d es c
      obtain ⟨v, rfl, q⟩ := dq1 (v := .non) (ds := []) h
      cases hp
      obtain ⟨a, xs, rfl, e1, z1⟩ := q.list s
      refine ⟨a, xs, d, es, rfl, .inl (.inl e1), DzAll.dp s c.2.2.2 z1, ⟨alikeB_ok c.1, fun x hx hn => ?_⟩, depthAll_le fun d hd => of_decide_eq_true (List.all_eq_true.mp c.2.2.1 d hd), fun i v hv hm => ?_⟩
      · have := List.all_eq_true.mp c.2.1 x hx
        rw [hn] at this
        cases this
      · obtain ⟨e, he, z⟩ := z1.getV hv
        rw [hm] at he; cases he
        exact k_v s z k
    · cases hp
  · cases hp⟩
/-! ### repr -/
def reprOk (d : D) : Bool := d.showable && (!d.hasDict && (decide (d.depth ≤ 64) && decide (d.shown.length ≤ sizeLine)))
end Z

/-! ZL: repr, isinstance, slices, ranges as values, lists changed in place. -/
namespace Z
open PySem PySem.Spec L2
def pRepr : List D → Option Va
  | [d] => if reprOk d = true ∧ d.canLay0 = true then some (.fz (.str d.shown)) else none
  | _ => none
def rReprD (K : PySem.W.Frag) : List V → Hp → VK → Prop := fun xs H Q => ∃ (x : V) (d : D), xs = [x] ∧ Dp K H x d ∧ reprOk d = true ∧ Q (.str d.shown) H
theorem reprOk_and {d : D} (h : reprOk d = true) : d.showable = true ∧ d.hasDict = false ∧ d.depth ≤ 64 ∧ d.shown.length ≤ sizeLine := by
  unfold reprOk at h
  simp only [Bool.and_eq_true, Bool.not_eq_true', decide_eq_true_eq] at h
  exact h
theorem cr_reprD {X : Cx} (hg : X.A.guards = some []) (hu : X.A.units + 70 < cLine) : CallR X (.builtin "repr") (rReprD X.K) := by
  intro pins s σ H xs us Q I r h
  obtain ⟨x, d, rfl, hd, ok, q⟩ := h
  obtain ⟨h1, h2, h3, h4⟩ := reprOk_and ok
  cases r with
  | cons r0 r' =>
  cases r'
  have fin : ∀ (t : Tok) (s' : Shared), Inv X pins σ H s' → EP X pins σ Q (.str d.shown t) s' := fun t s' I' => ⟨.str d.shown, H, I', ⟨t, rfl⟩, q⟩
  have viaHeap : ∀ {a : Addr}, x = .ref a → ∀ {u : Value}, RelV x u → wpAny (model X.prog X.w) X.A (call (.builtin "repr") [u]) (EP X pins σ Q) X.xe s := by
    intro a e u ru
    subst e
    obtain rfl : u = .ref a := ru
    obtain ⟨as, rd⟩ := Dp.reads I d _ _ hd rfl
    exact repr_of_reads' rd h1 (fun z => absurd (h2.symm.trans z) Bool.false_ne_true) hg (by omega) (fun _ _ z => z) (fun h' u tk kk => fin u _ (I.kept kk)) h4
  cases hd with
  | non =>
    obtain rfl := r0
    exact PySem.P.repr_of_none (fin s.toks _ (I.tok _))
  | bl b =>
    obtain rfl := r0
    exact PySem.P.repr_of_bool (fin s.toks _ (I.tok _))
  | int i =>
    obtain ⟨t, rfl⟩ := r0
    exact PySem.P.repr_of_int (of_decide_eq_true h1) (fin s.toks _ (I.tok _))
  | str y =>
    obtain ⟨t, rfl⟩ := r0
    exact PySem.P.repr_of_str (fin s.toks _ (I.tok _)) h4
  | lst _ _ => exact viaHeap rfl r0
  | tup _ _ => exact viaHeap rfl r0
theorem im_repr {K : PySem.W.Frag} : ImL K (rReprD K) pRepr := ⟨fun F H vs ds va Q s h hp k => by
  unfold pRepr at hp
  split at hp
  · split at hp
    · rename_i c
      obtain ⟨v, rfl, q⟩ := dq1 (v := .non) (ds := []) h
      cases hp
      exact ⟨v, _, rfl, q.dp s c.2, c.1, k_v s (.str _) k⟩
    · cases hp
  · cases hp⟩
/-! ### isinstance -/
def tyD : D → Option String
  | .none => some "NoneType"
  | .bool _ => some "bool"
  | .int _ => some "int"
  | .str _ => some "str"
  | .list _ => some "list"
  | .tuple _ => some "tuple"
  | .dict _ => none
theorem ty_of {K : PySem.W.Frag} {F H : Hp} {v : V} {d : D} {t : String} (s : Sub F H) (h : Dq K F H v d) (e : tyD d = some t) : TyX K H v (.type t) := by
  unfold tyD at e
  split at e <;> cases e
  · rw [h.non]; exact .base .non
  · rw [h.bool]; exact .base (.bl _)
  · rw [h.int]; exact .base (.int _)
  · rw [h.str]; exact .base (.str _)
  · obtain ⟨a, xs, rfl, e1, _⟩ := h.list s
    exact .base (.lst e1)
  · obtain ⟨a, xs, rfl, _, e1, _⟩ := h.tup s
    rcases e1 with (e1 | ⟨o, e1⟩) | ⟨o, its, n, e1, e2, _⟩
    · exact .base (.tup e1)
    · exact .fTuple e1
    · exact .kTuple e1 e2
/-- isinstance(x, T): which of the kinds of data are T's -/
def isiB (c : String) (d : D) : Option Bool := (tyD d).bind fun t => kitB t c
def oIsi (c : String) (fa : En → Rz Od) : En → Rz Va := f1 (fun d => (isiB c d).map fun b => .fz (.bool b)) fa
/-- of a written pair of classes -/
def isiB2 (c e : String) (d : D) : Option Bool := (isiB c d).bind fun b => if b = true then some true else isiB e d
def oIsi2 (c e : String) (fa : En → Rz Od) : En → Rz Va := f1 (fun d => (isiB2 c e d).map fun b => .fz (.bool b)) fa
section
variable {T : Pg} {W : WX} {X : Cx} {a e : Expr} {fa : En → Rz Od} {x : Str} {p p1 p2 p3 pos : Pos} {c c2 : String}
theorem do_isi (hK : T.K = X.K) (hg : Gl X "isinstance") (hm : X.mg "isinstance" = none) (hgc : Gl X x) (hmc : X.mg x = none) (hc : bootBuiltins x = some (.type c)) (hn : x ≠ "__name__") (hdb : (x == ("__debug__" : Str)) = false) (ha : DX T W X a fa)
    (hs : starEach [a, .Name x p1] X.env = (false, eval a X.env) :: starEach [.Name x p1] X.env) : DO T W X (.Call (.Name "isinstance" p) [a, .Name x p1] [] pos) (oIsi c fa) := by
  have tyE : PE X (.Name x p1) (tC (.ty c)) := pe_bltn hgc hmc hc rfl hn hdb
  refine ⟨pe_imp (pe_callB call_isi hg hm (by decide +kernel) (pa_cons ha.run (pa_cons tyE pa_nil) hs) (by decide) (by decide) hs (by rfl)) fun σ H Q ⟨ρ, F, rep, g⟩ => ?_⟩
  refine tX_fix rep g rfl fun o ρ1 F1 H1 v n1 z g1 => ?_
  unfold ap1 at g1
  split at g1
  · rename_i d e1
    obtain ⟨va, hp, g2⟩ := g1.of
    obtain ⟨b, hb, rfl⟩ := Option.map_eq_some_iff.mp hp
    obtain ⟨t, ht, hk⟩ := Option.bind_eq_some_iff.mp hb
    exact ⟨v, .ty c, _, _, b, rfl, .ty c, hK ▸ ty_of n1.rep.sub (z.dq n1.rep e1) ht, kit_ty hk, g2 F1 σ H1 rfl n1 _ (Dz.bl b)⟩
  · exact g1.elim
theorem do_isi2 {y : Str} {k : Nat} (hK : T.K = X.K) (hg : Gl X "isinstance") (hm : X.mg "isinstance" = none) (hgc : Gl X x) (hmc : X.mg x = none) (hc : bootBuiltins x = some (.type c)) (hn : x ≠ "__name__") (hdb : (x == ("__debug__" : Str)) = false)
    (hgc2 : Gl X y) (hmc2 : X.mg y = none) (hc2 : bootBuiltins y = some (.type c2)) (hn2 : y ≠ "__name__") (hdb2 : (y == ("__debug__" : Str)) = false) (ha : DX T W X a fa)
    (hs : starEach [a, .Tuple [.Name x p1, .Name y p2] k p3] X.env = (false, eval a X.env) :: starEach [.Tuple [.Name x p1, .Name y p2] k p3] X.env) :
    DO T W X (.Call (.Name "isinstance" p) [a, .Tuple [.Name x p1, .Name y p2] k p3] [] pos) (oIsi2 c c2 fa) := by
  have tyE : PE X (.Name x p1) (tC (.ty c)) := pe_bltn hgc hmc hc rfl hn hdb
  have tyE2 : PE X (.Name y p2) (tC (.ty c2)) := pe_bltn hgc2 hmc2 hc2 rfl hn2 hdb2
  refine ⟨pe_imp (pe_callB call_isiT hg hm (by decide +kernel) (pa_cons ha.run (pa_cons (pe_tup (pa_cons tyE (pa_cons tyE2 pa_nil))) pa_nil) hs) (by decide) (by decide) hs (by rfl)) fun σ H Q ⟨ρ, F, rep, g⟩ => ?_⟩
  refine tX_fix rep g rfl fun o ρ1 F1 H1 v n1 z g1 => ?_
  unfold ap1 at g1
  split at g1
  · rename_i d e1
    obtain ⟨va, hp, g2⟩ := g1.of
    obtain ⟨b, hb, rfl⟩ := Option.map_eq_some_iff.mp hp
    refine ⟨by show 2 ≤ sizeLine; decide, fun q nq => ?_⟩
    have ps : Ps F1 H1 F1 (upd H1 q (.tup [.ty c, .ty c2])) := Ps.one n1.rep.sub nq
    have fin := g2 F1 σ _ rfl (n1.trans (Nx.step n1.rep ps)) _ (Dz.bl b)
    obtain ⟨b1, h1, h2⟩ := Option.bind_eq_some_iff.mp hb
    obtain ⟨t, ht, hk⟩ := Option.bind_eq_some_iff.mp h1
    have ty : TyX X.K (upd H1 q (.tup [.ty c, .ty c2])) v (.type t) := hK ▸ ty_of (n1.rep.sub.trans ps.keep) ((z.dq n1.rep e1).mono Sub.rfl' ps.keep) ht
    refine ⟨v, q, _, .type t, [.type c, .type c2], b, rfl, upd_same, .cons (.ty c) (.cons (.ty c2) .nil), ty, ?_, fin⟩
    refine kitAny_cons (kit_ty hk) (fun e2 => ?_) fun e2 => ?_
    · subst e2
      simp only [Bool.false_eq_true, if_false] at h2
      obtain ⟨t', ht', hk'⟩ := Option.bind_eq_some_iff.mp h2
      rw [ht] at ht'; cases ht'
      refine kitAny_cons (kit_ty hk') (fun e3 => ?_) fun e3 => e3
      rw [e3]; exact kitAny_nil
    · subst e2
      simp only [if_true] at h2
      cases h2; rfl
  · exact g1.elim
/-! ### slices -/
def intO : D → Option Int
  | .int i => some i
  | _ => none
/-- xs[lo:hi] of data -/
def cutD (ds : List D) (lo hi : Option Int) : List D := (ds.drop (HT.sIx ds.length 0 lo)).take (HT.sIx ds.length ds.length hi - HT.sIx ds.length 0 lo)
def pCut (d : D) (lo hi : Option Int) : Option Va := match d with
  | .list ds => some (.fo (cutD ds lo hi))
  | .tuple ds => some (.fz (.tuple (cutD ds lo hi)))
  | _ => none
theorem cut_z {K : PySem.W.Frag} {F : Hp} {xs : List V} {ds : List D} (z : DzAll K F xs ds) (lo hi : Option Int) : DzAll K F (cutV xs lo hi) (cutD ds lo hi) := by
  unfold cutV cutD
  rw [z.len]
  exact DzAll.take _ (DzAll.drop _ z)
theorem cut_all {ds : List D} {lo hi : Option Int} (h : HT.sIx ds.length 0 lo = 0 ∧ HT.sIx ds.length ds.length hi = ds.length) : cutD ds lo hi = ds := by
  unfold cutD
  rw [h.1, h.2]
  simp
def tPartO (T : Pg) (W : WX) (f : En → Rz (Option Int)) : TO := fun σ H Q => ∃ ρ F, Rep T.K ρ F σ H ∧ GX T W ρ F σ H (· = σ) (fun o _ _ _ H' => Q o H') (f ρ)
structure DPo (T : Pg) (W : WX) (X : Cx) (e : Option Expr) (f : En → Rz (Option Int)) : Prop where
  run : L2.PO X e (tPartO T W f)
theorem po_imp {e : Option Expr} {t t' : TO} (h : L2.PO X e t) (i : ∀ σ H Q, t' σ H Q → t σ H Q) : L2.PO X e t' := ⟨fun pins s σ H Q I w => h.run pins s σ H Q I (i _ _ _ w)⟩
def fNoP : En → Rz (Option Int) := fun ρ => .ok none ρ
def fPart (fa : En → Rz Od) : En → Rz (Option Int) := fun ρ => (fa ρ).bind fun o ρ1 => match (o.get ρ1).bind intO with
  | some i => .ok (some i) ρ1
  | none => .no
theorem dpo_none : DPo T W X none fNoP := ⟨po_imp po_none fun σ H Q ⟨ρ, F, rep, g⟩ => g F σ H rfl (.refl rep)⟩
theorem dpo_some (ha : DX T W X a fa) : DPo T W X (some a) (fPart fa) := ⟨po_imp (po_some ha.run) fun σ H Q ⟨ρ, F, rep, g⟩ => by
  refine tX_fix rep g rfl fun o ρ1 F1 H1 v n1 z g1 => ?_
  split at g1
  · rename_i i e
    obtain ⟨d, e1, e2⟩ := Option.bind_eq_some_iff.mp e
    unfold intO at e2
    split at e2
    · cases e2
      exact ⟨_, (z.dq n1.rep e1).int, g1 F1 σ H1 rfl n1⟩
    · cases e2
  · exact g1.elim⟩
def oCut (fa : En → Rz Od) (fl fh : En → Rz (Option Int)) : En → Rz Va := fun ρ => (fa ρ).bind fun o ρ1 => (fl ρ1).bind fun lo ρ2 => (fh ρ2).bind fun hi ρ3 => match o.get ρ3 with
  | some d => .of ρ3 (pCut d lo hi)
  | none => .no
theorem do_cut {lo hi : Option Expr} {fl fh : En → Rz (Option Int)} (hK : T.K = X.K) (ha : DX T W X a fa) (hl : DPo T W X lo fl) (hh : DPo T W X hi fh) : DO T W X (.Subscript a (.Slice lo hi none p2) pos) (oCut fa fl fh) := ⟨pe_imp (pe_slice (SlR.or sl_list sl_tupA) ha.run hl.run hh.run) fun σ H Q ⟨ρ, F, rep, g⟩ => by
  refine tX_fix rep g rfl fun o ρ1 F1 H1 v n1 z1 g1 => ?_
  refine ⟨ρ1, F1, n1.rep, ((g1.go n1).bind0 (S1 := (· = σ)) fun _ z => z).mono (fun _ z => z) fun l ρ2 F2 σ2 H2 es n2 g2 => ?_⟩
  subst es
  have n12 := n1.trans n2
  refine ⟨ρ2, F2, n2.rep, ((g2.go n2).bind0 (S1 := (· = σ2)) fun _ z => z).mono (fun _ z => z) fun h ρ3 F3 σ3 H3 es n3 g3 => ?_⟩
  subst es
  split at g3
  · rename_i d e1
    obtain ⟨va, hp, g4⟩ := g3.of
    have zq := (z1.mono (n2.ext.trans n3.ext)).dq n3.rep e1
    have k := fin_of n12 n3 g4
    unfold pCut at hp
    split at hp
    · cases hp
      obtain ⟨b, xs, rfl, e2, z2⟩ := zq.list n3.rep.sub
      exact .inl ⟨b, xs, rfl, .inl (.inl e2), fun q nq => k_lst n3.rep.sub (cut_z z2 l h) k nq⟩
    · cases hp
      obtain ⟨b, xs, rfl, f2, e2, z2⟩ := zq.tup n3.rep.sub
      refine .inr ⟨b, xs, rfl, hK ▸ e2, fun c => k_v n3.rep.sub (.tup f2 ?_) k, fun _ q nq => k_tup n3.rep.sub (cut_z z2 l h) k nq⟩
      rw [z2.len] at c
      rw [cut_all c]
      exact z2
    · cases hp
  · exact g3.elim⟩
/-! ### tuple(range(..)), list(range(..)) -/
def rngD (a b : Int) : List D := (List.range (b - a).toNat).map fun i => .int (a + (i : Nat))
def rngOkB (a b : Int) : Bool := decide (-(2 ^ 62) ≤ a ∧ a < 2 ^ 62 ∧ -(2 ^ 62) ≤ b ∧ b < 2 ^ 62 ∧ (b - a).toNat ≤ 2 ^ 24)
theorem rngOk_of {a b : Int} (h : rngOkB a b = true) : RgOk a b := by
  unfold rngOkB at h
  have q := of_decide_eq_true h
  exact q
theorem rgV_z {K : PySem.W.Frag} {F : Hp} (a b : Int) : DzAll K F (rgV a b) (rngD a b) := by
  unfold rgV rngD
  generalize List.range (b - a).toNat = l
  induction l with
  | nil => exact .nil
  | cons i l ih => exact .cons (.int _) ih
def oRg1 (mk : List D → Va) (fa : En → Rz Od) : En → Rz Va := fun ρ => (fa ρ).bind fun o ρ1 => match (o.get ρ1).bind intO with
  | some n => if rngOkB 0 n = true then .ok (mk (rngD 0 n)) ρ1 else .no
  | none => .no
def oRg2 (mk : List D → Va) (fa fb : En → Rz Od) : En → Rz Va := fun ρ => (fa ρ).bind fun o ρ1 => (fb ρ1).bind fun o2 ρ2 => match (o.get ρ2).bind intO, (o2.get ρ2).bind intO with
  | some m, some n => if rngOkB m n = true then .ok (mk (rngD m n)) ρ2 else .no
  | _, _ => .no
theorem intO_dq {K : PySem.W.Frag} {ρ : En} {F H : Hp} {σ : St} {v : V} {o : Od} {i : Int} (r : Rep K ρ F σ H) (z : OdR K F σ v o) (e : (o.get ρ).bind intO = some i) : v = .int i := by
  obtain ⟨d, e1, e2⟩ := Option.bind_eq_some_iff.mp e
  unfold intO at e2
  split at e2
  · cases e2; exact (z.dq r e1).int
  · cases e2
variable {b : Expr} {fb : En → Rz Od}
theorem do_tupRg1 (hc : X.calm = true) (hg : Gl X "tuple") (hm : X.mg "tuple" = none) (hg2 : Gl X "range") (hm2 : X.mg "range" = none) (ha : DX T W X a fa) (hs : starEach [a] X.env = (false, eval a X.env) :: starEach [] X.env) :
    DO T W X (.Call (.Name "tuple" p) [.Call (.Name "range" p1) [a] [] p2] [] pos) (oRg1 (fun ds => .fz (.tuple ds)) fa) := ⟨pe_imp (pe_tupRg hc hg hm (prg_1 hg2 hm2 ha.run hs) (by rfl)) fun σ H Q ⟨ρ, F, rep, g⟩ => by
  refine tX_fix rep g rfl fun o ρ1 F1 H1 v n1 z g1 => ?_
  split at g1
  · rename_i n e
    split at g1
    · rename_i ok
      exact ⟨n, intO_dq n1.rep z e, rngOk_of ok, fun q nq => k_tup n1.rep.sub (rgV_z 0 n) (fin_of (.refl rep) n1 g1) nq⟩
    · exact g1.elim
  · exact g1.elim⟩
theorem do_lstRg1 (hc : X.calm = true) (hg : Gl X "list") (hm : X.mg "list" = none) (hg2 : Gl X "range") (hm2 : X.mg "range" = none) (ha : DX T W X a fa) (hs : starEach [a] X.env = (false, eval a X.env) :: starEach [] X.env) :
    DO T W X (.Call (.Name "list" p) [.Call (.Name "range" p1) [a] [] p2] [] pos) (oRg1 .fo fa) := ⟨pe_imp (pe_listRg hc hg hm (prg_1 hg2 hm2 ha.run hs) (by rfl)) fun σ H Q ⟨ρ, F, rep, g⟩ => by
  refine tX_fix rep g rfl fun o ρ1 F1 H1 v n1 z g1 => ?_
  split at g1
  · rename_i n e
    split at g1
    · rename_i ok
      exact ⟨n, intO_dq n1.rep z e, rngOk_of ok, fun q nq => k_lst n1.rep.sub (rgV_z 0 n) (fin_of (.refl rep) n1 g1) nq⟩
    · exact g1.elim
  · exact g1.elim⟩
/-! ### x[i] = v, x.append(v) of a list of the def's own -/
def stoAt (i : Nat) (d : D) (o : Od) (ρ : En) : Rz Fl := match ρ[i]?, (o.get ρ).bind intO with
  | some (.ow p ds), some j => match ixN ds.length j with
    | some n => .ok .nx (ρ.set i (.ow p (ds.set n d)))
    | none => .no
  | _, _ => .no
def isOw : Option Sl → Bool
  | some (.ow _ _) => true
  | _ => false
def sSto (i : Nat) (fv : En → Rz Va) (fj : En → Rz Od) : En → Rz Fl := fun ρ => (fv ρ).bind fun va ρ1 => if isOw ρ1[i]? = true then (fj ρ1).bind fun o ρ2 => stoAt i va.d o ρ2 else .no
variable {ρ ρ' : En} {F F' : Hp} {σ σ' : St} {H H' : Hp} {i : Nat}
/-- the own list of slot i becomes another one -/
theorem Nx.chg {K : PySem.W.Frag} (n : Nx K ρ F σ H ρ' F' σ' H') {q : Bool} {ds es : List D} {ys : List V} {b : Addr} (h : ρ'[i]? = some (.ow q ds)) (hb : σ'[i]? = some (some (.ref b))) (z : DzAll K F' ys es) :
    Nx K ρ F σ H (ρ'.set i (.ow q es)) F' σ' (upd H' b (.lst ys)) := by
  have hi : i < ρ'.length := (List.getElem?_eq_some_iff.mp h).1
  have own : ∀ {a : Addr}, Ow (ρ'.set i (.ow q es)) σ' a → Ow ρ' σ' a := fun {a} ⟨j, p, fs, e1, e2⟩ => by
    rcases get_set_un e1 with ⟨rfl, _⟩ | ⟨_, w⟩
    · exact ⟨j, q, ds, h, e2⟩
    · exact ⟨j, p, fs, w, e2⟩
  have ob : Ow ρ' σ' b := ⟨i, q, ds, h, hb⟩
  obtain ⟨fb, xs, hb'⟩ := n.rep.owF ob
  refine ⟨⟨by simpa using n.rep.len, fun a u e => ?_, fun j d e => ?_, fun j p fs e => ?_, fun j k p p' fs gs a hjk e1 e2 g1 g2 => ?_⟩, n.ext, fun a u e no => ?_, fun a e => ?_, fun a o => n.own a (own o), n.new, fun j fs e => ?_⟩
  · rw [upd_ne fun w => by subst w; rw [fb] at e; cases e]
    exact n.rep.sub a u e
  · rcases get_set_un e with ⟨_, w⟩ | ⟨_, w⟩
    · cases w
    · exact n.rep.vl j d w
  · rcases get_set_un e with ⟨rfl, w⟩ | ⟨hj, w⟩
    · cases w
      exact ⟨b, ys, hb, upd_same, z, fb⟩
    · obtain ⟨a, xs', e1, e2, e3, e4⟩ := n.rep.ow j p fs w
      refine ⟨a, xs', e1, ?_, e3, e4⟩
      rw [upd_ne fun w' => by subst w'; exact n.rep.sep j i p q fs ds a hj w h e1 hb]
      exact e2
  · have back : ∀ {j : Nat} {p : Bool} {fs : List D}, (ρ'.set i (.ow q es))[j]? = some (.ow p fs) → ∃ fs', ρ'[j]? = some (.ow p fs') := fun {j p fs} e => by
      rcases get_set_un e with ⟨rfl, w⟩ | ⟨_, w⟩
      · cases w; exact ⟨ds, h⟩
      · exact ⟨fs, w⟩
    obtain ⟨fs', q1⟩ := back e1
    obtain ⟨gs', q2⟩ := back e2
    exact n.rep.sep j k p p' fs' gs' a hjk q1 q2 g1 g2
  · by_cases w : a = b
    · subst w
      rcases n.own a ob with w | w
      · exact (no w).elim
      · rw [e] at w; cases w
    · rw [upd_ne w]; exact n.keep a u e no
  · by_cases w : a = b
    · subst w; rw [upd_same] at e; cases e
    · rw [upd_ne w] at e; exact n.dom a e
  · obtain ⟨⟨fs', e1⟩, e2⟩ := n.pin j fs e
    by_cases hj : j = i
    · subst hj
      rw [h] at e1; cases e1
      exact ⟨⟨es, List.getElem?_set_self hi⟩, e2⟩
    · exact ⟨⟨fs', by rw [List.getElem?_set_ne (Ne.symm hj)]; exact e1⟩, e2⟩
theorem ds_sto {o j v : Expr} {fv : En → Rz Va} {fj : En → Rz Od} {tp : Pos} (ho : PE X o (tVar i)) (hj : DX T W X j fj) (hv : DO T W X v fv) (h0 : ∀ (v : Value), assign (.Subscript o j tp) X.env v = (do
        let ov ← holding [v] (eval o X.env)
        let iv ← holding [v, ov] (eval j X.env)
        standAt tp
        holding [v, ov, iv] (setItem ov iv v)
        release [v, ov, iv] [])) (h1 : swapsWithSole [.Subscript o j tp] v pos.line X.env = pure false) (h2 : swappedStores [.Subscript o j tp] v X.env = pure none) (h3 : (assignEach [.Subscript o j tp] X.env).map (·.2) = [assign (.Subscript o j tp) X.env]) :
    DS T W X (.Assign [.Subscript o j tp] v pos) (sSto i fv fj) := ⟨ps_imp (ps_asg hv.run (pg_sub ho hj.run set_list h0) h1 h2 h3) fun D σ H ⟨ρ, F, rep, g⟩ => by
  refine tO_fix rep g trivial fun va ρ1 F1 H1 u n1 z1 g1 => ?_
  split at g1
  · rename_i hi
    obtain ⟨q, es, hq⟩ : ∃ q es, ρ1[i]? = some (.ow q es) := by
      unfold isOw at hi
      split at hi
      · exact ⟨_, _, by assumption⟩
      · cases hi
    obtain ⟨b, xs, e1, _, _, _⟩ := n1.rep.ow i q es hq
    refine ⟨.ref b, e1, ?_⟩
    refine tX_fix n1.rep (g1.go n1) trivial fun o2 ρ2 F2 H2 w n2 z2 g2 => ?_
    unfold stoAt at g2
    split at g2
    · rename_i p ds j' h1 h2
      split at g2
      · rename_i n hn
        obtain ⟨b', xs', e1', e2', e3', e4'⟩ := n2.rep.ow i p ds h1
        rw [e1] at e1'; cases e1'
        refine ⟨b, xs', j', n, rfl, intO_dq n2.rep z2 h2, e2', by rw [e3'.len]; exact hn, ?_⟩
        exact g2 F2 σ _ trivial (Nx.chg n2 h1 e1 (DzAll.set (z1.mono n2.ext) n e3'))
      · exact g2.elim
    · exact g2.elim
  · exact g1.elim⟩
/-- x.append(v) -/
def appAt (i : Nat) (d : D) (ρ : En) : Rz Fl := match ρ[i]? with
  | some (.ow p ds) => if ds.length < sizeLine then .ok .nx (ρ.set i (.ow p (ds ++ [d]))) else .no
  | _ => .no
def sApp (i : Nat) (fv : En → Rz Va) : En → Rz Fl := fun ρ => if isOw ρ[i]? = true then (fv ρ).bind fun va ρ1 => appAt i va.d ρ1 else .no
theorem isOw_ex {s : Option Sl} (h : isOw s = true) : ∃ q es, s = some (.ow q es) := by
  unfold isOw at h
  split at h
  · exact ⟨_, _, rfl⟩
  · cases h
theorem ds_app {o v : Expr} {fv : En → Rz Va} {ap cp : Pos} (ho : PE X o (tVar i)) (hv : DO T W X v fv) (hb : attributeBase o "append" X.env (eval o X.env) = eval o X.env) (hl : (((backTo cp (starEach [v] X.env)).all fun x => !x.1) && (backToKw cp (keywordEach [] X.env)).all fun x => x.1.isSome) && decide (([v].length + ([] : List Keyword).length + if ([] : List Keyword).isEmpty = true then 0 else 1) < 30) = true)
    (hline : (ap.endLine == cp.line) = true) (hs : starEach [v] X.env = (false, eval v X.env) :: starEach [] X.env) (h0 : swapsWith (.Call (.Attribute o "append" ap) [v] [] cp) none pos.line X.env = pure false) : DS T W X (.Expr (.Call (.Attribute o "append" ap) [v] [] cp) pos) (sApp i fv) := by
  have call := pe_bm (X := X) PySem.F.plainAttrs_list PySem.F.slot_list_append PySem.F.type_list_append mt_append ho (pa_cons hv.dx.run pa_nil hs) hb hl hline hs (by rfl)
  refine ⟨ps_imp (ps_expr call h0) fun D σ H ⟨ρ, F, rep, g⟩ => ?_⟩
  unfold sApp at g
  split at g
  · rename_i hi
    obtain ⟨q, es, hq⟩ := isOw_ex hi
    obtain ⟨b, xs, e1, e2, e3, e4⟩ := rep.ow i q es hq
    refine ⟨.ref b, e1, .inl ⟨rfl, xs, .inl (.inl e2)⟩, ?_⟩
    have g' : GX T W ρ F σ H Any (PF T D ρ σ H) ((xO fv ρ).bind fun o ρ1 => match o with
      | .da d => appAt i d ρ1
      | .sl _ => .no) := by
      unfold xO
      cases e : fv ρ with
      | no => rw [e] at g; exact g
      | ex c d ρ1 => rw [e] at g; exact g
      | ok va ρ1 => rw [e] at g; exact g
    refine tX_fix rep g' trivial fun o2 ρ1 F1 H1 w n1 z1 g1 => ?_
    cases o2 with
    | sl k => exact g1.elim
    | da d =>
      have g1 : GX T W ρ F σ H Any (PF T D ρ σ H) (appAt i d ρ1) := g1
      unfold appAt at g1
      split at g1
      · rename_i p ds h1
        split at g1
        · rename_i hlen
          obtain ⟨b', xs', e1', e2', e3', e4'⟩ := n1.rep.ow i p ds h1
          rw [e1] at e1'; cases e1'
          refine ⟨b, xs', w, rfl, rfl, e2', by rw [e3'.len]; exact hlen, ?_⟩
          exact g1 F1 σ _ trivial (Nx.chg n1 h1 e1 (e3'.append (.cons z1 .nil)))
        · exact g1.elim
      · exact g1.elim
  · exact g.elim
end
end Z

/-! ZM: enumerate of a tuple; zip. -/
namespace Z
open PySem PySem.Spec L2
open Sem (wp)
/-- the pairs of a tuple at a, each a new one -/
def ItT (K : PySem.W.Frag) (a : Addr) : It where
  go := fun i H => ∃ (xs : List V) (x : V), SqT K H a xs ∧ xs[i]? = some x
  yld := fun i H v H' => ∃ (p : Addr) (x : V), v = .ref p ∧ H p = none ∧ H' = upd H p (.tup [.int (i : Nat), x]) ∧ ∀ xs, SqT K H a xs → xs[i]? = some x
  stop := fun i H => ∃ xs : List V, SqT K H a xs ∧ xs.length ≤ i
theorem enumT_end {prog : Program} {w : World} {A : Around} {E : Value → Shared → Prop} {s : Shared} {e it l : Addr} {i : Nat} {c : Int} {old : Value} {its : Array Value} {Q : Option Value → Shared → Prop} (hh : A.handled = none) (he : IsEnum s.heap e it c old) (h1 : s.heap.IsTupleIter it l i) (h2 : s.heap.IsTuple l its) (hx : its[i]? = none)
    (hQ : ∀ h', Heap.ExtBut it s.heap h' → Q none { s with heap := h' }) : wpAny (model prog w) A (pyNext (.ref e)) Q E s := by
  have ty : s.TypeIs (.ref e) "enumerate" := ⟨_, he, rfl⟩
  unfold pyNext
  refine wpAny_bind (wpAny_attempt (wpAny_callSpecial?_slot (name := Str.ofString "__next__") ty F.slot_enumerate_next (wpAny_call_entry F.slot_enumerate_next ty F.entry_enumerate_next ?_ (F.args_enumerate_next_1 _))))
  show wpAny _ _ (field (.ref e) 2 >>= _) _ _ _
  refine wpAny_bind (wpAny_field he rfl (x := .ref it) rfl ?_)
  refine wpAny_bind (RZ.nextOf_tuple_end (i := i) hh h1 h2 hx fun h' x q1 q2 => ?_)
  obtain ⟨o, ho, hc⟩ := q2
  refine wpAny_bind (wpAny_isInstance (T := "StopIteration") (b := true) ⟨o, ho, hc⟩ isSubtype_stop (wpAny_pure (hQ _ q1)))
theorem turn_enumT {P : Program} {w : World} {K : PySem.W.Frag} {elts : List Expr} {kk : Nat} {tp : Pos} (a e it : Addr) (hai : a ≠ it) (hea : e ≠ a) :
    Turn P w K (.Tuple elts kk tp) (ItT K a) [e, it] e (fun i h => (∃ old, IsEnum h e it ((i : Nat) : Int) old) ∧ h.IsTupleIter it a i ∧ e ≠ it) where
  mem := List.mem_cons_self
  obj := fun i h st b hb => by
    obtain ⟨⟨old, he⟩, ⟨o, ho, hc, hd⟩, _⟩ := st
    rcases List.mem_cons.mp hb with rfl | hb
    · exact ⟨_, he, fun v q => nomatch q⟩
    · obtain rfl := List.mem_singleton.mp hb
      exact ⟨o, ho, fun v q => by rw [hd] at q; cases q⟩
  keep := fun i h h' st k => by
    obtain ⟨⟨old, he⟩, hi, hne⟩ := st
    exact ⟨⟨old, k e (by simp) _ he⟩, hi.at fun o q => k it (by simp) o q, hne⟩
  item := by
    intro X hP hw hK hc i pins s σ H E I hf st hg
    subst hP hw hK
    obtain ⟨⟨old, he⟩, hit, hne⟩ := st
    obtain ⟨xs, x, hq, hx⟩ := hg
    obtain ⟨its, rv, p, hz⟩ := I.tuple hq
    obtain ⟨u, hu, ru⟩ := rv.get hx
    have hel : e < s.heap.objs.size := Heap.lt_size he
    have hil : it < s.heap.objs.size := by obtain ⟨_, q, _⟩ := hit; exact Heap.lt_size q
    have pt : s.heap.IsTuple a its.toArray := p
    have hi : i < its.toArray.size := by
      have := (List.getElem?_eq_some_iff.mp hu).1
      simpa using this
    refine wpAny_pyNext_enum_itemD (Draws.tuple (A := X.A.in1) (show X.A.in1.handled = none from I.ok.hd hc) it a hai its.toArray) he ⟨hit, pt⟩ hi hne (by simp [hne, hea]) fun x' h' tk hP ho hst hT hsz hk => ?_
    have hxe : x' = u := by
      have h1 : its.toArray[i]? = some x' := hP
      have h2 : its.toArray[i]? = some u := by simpa using hu
      rw [h1] at h2; cases h2; rfl
    subst hxe
    refine ⟨_, rfl, wpAny_letOwnedTupleGo_enum (s := { s with heap := h', toks := tk + 1 }) ho fun h2 he2 sb => ?_⟩
    have hT2 : h2.get? s.heap.objs.size = some { cls := .type "tuple", data := .seq #[.int i tk, x'] } := (sb.2 _ (Nat.ne_of_gt hel)).trans hT
    have new : ObjOk X.prog X.w (upd H s.heap.objs.size (.tup [.int (i : Nat), x])) h2 s.heap.objs.size (.tup [.int (i : Nat), x]) := ⟨by show 2 ≤ sizeLine; decide, [.int i tk, x'], .cons ⟨_, rfl⟩ (.cons ru .nil), ⟨_, hT2, rfl, _, rfl⟩⟩
    have I1 : Inv X pins σ (upd H s.heap.objs.size (.tup [.int (i : Nat), x])) { s with heap := h2, toks := tk + 1 } := by
      refine I.turnedNew (ch := [e, it]) (fun b ob hb q => ?_) hf (Nat.le_refl _) new
      have b1 : b ≠ e := fun z => hb (z ▸ List.mem_cons_self)
      have b2 : b ≠ it := fun z => hb (z ▸ List.mem_cons_of_mem _ List.mem_cons_self)
      exact (sb.2 b b1).trans (hk b ob b1 b2 q)
    have fr : ∀ b, b < s.heap.objs.size → H b = none → upd H s.heap.objs.size (.tup [.int (i : Nat), x]) b = none := fun b hb q => by rw [upd_ne (Nat.ne_of_lt hb)]; exact q
    refine ⟨.ref s.heap.objs.size, _, I1, rfl, ⟨_, x, rfl, I.hok.fresh (Nat.le_refl _), rfl, fun ys hy => by rw [I.tuple_inj hy hq]; exact hx⟩, ⟨⟨x', ?_⟩, hst.1.at fun o q => (sb.2 it (Ne.symm hne)).trans q, hne⟩, fun b hb => ?_⟩
    · rw [show ((i + 1 : Nat) : Int) = (i : Int) + 1 by omega]; exact he2
    · rcases List.mem_cons.mp hb with rfl | hb'
      · exact fr _ hel (hf _ hb).1
      · obtain rfl := List.mem_singleton.mp hb'
        exact fr _ hil (hf _ hb).1
  done := by
    intro X hP hw hK hc i pins s σ H E I hf st hg
    subst hP hw hK
    obtain ⟨⟨old, he⟩, hit, hne⟩ := st
    obtain ⟨xs, hq, hx⟩ := hg
    obtain ⟨its, rv, p, hz⟩ := I.tuple hq
    obtain ⟨f0, f1, f2, f3, f4, f5⟩ := hf it (by simp)
    have hl := rv.length
    have pt : s.heap.IsTuple a its.toArray := p
    exact enumT_end (I.ok.hd hc) he hit pt (by simp; omega) fun h' eb => ⟨rfl, I.turned (t' := s.toks) (fun b o hb q => eb b o hb q) f0 f1 f3 f4 f5⟩
  self := fun A i s Q E st h => by
    obtain ⟨⟨_, he⟩, _⟩ := st
    exact wpAny_pyIter_enum he h
theorem meets_enumT (t : Addr) (items : Array Value) : Meets (Builtin.«enumerate.__new__» ⟨[.type "enumerate", .ref t], []⟩) (fun _ R s => s.heap.IsTuple t items ∧ R (.ok (.ret (.ref (s.heap.push { cls := .type "tuple_iterator", data := .fields #[.ref t, .int 0 0] }).objs.size)))
        { s with heap := (s.heap.push { cls := .type "tuple_iterator", data := .fields #[.ref t, .int 0 0] }).push { cls := .type "enumerate", data := .fields #[.none, .bool false, .ref s.heap.objs.size, rawInt 0, .none, .none] } }) :=
  .of_wp fun prog w A R s h => by
    obtain ⟨hp, g, d, tk, os⟩ := s
    obtain ⟨h1, h⟩ := h
    have hsub := sub_enumerate
    have q1 : ∀ {A' : Around} {E' Q' : Value → Shared → Prop}, Q' (.ref hp.objs.size) ⟨hp.push { cls := .type "tuple_iterator", data := .fields #[.ref t, .int 0 0] }, g, d, tk, os⟩ → wpAny (model prog w) A' (pyIter (.ref t)) Q' E' ⟨hp, g, d, tk, os⟩ := fun q => wpAny_pyIter_tuple (s := ⟨hp, g, d, tk, os⟩) h1 q
    wp_walk using q1
    refine wpAny_stack_any fun st => wpAny_pure ?_
    split
    · rename_i c _ _ _ _ _
      cases (c == Value.type "enumerate") <;> (wp_walk using q1; exact ⟨_, rfl, h⟩)
    · wp_walk using q1
      exact ⟨_, rfl, h⟩
theorem call_enumT {prog : Program} {w : World} {A : Around} {E : Value → Shared → Prop} {s : Shared} {t : Addr} {items : Array Value} {Q : Value → Shared → Prop} (ht : s.heap.IsTuple t items)
    (h : ∀ h', IsEnum h' (s.heap.objs.size + 1) s.heap.objs.size 0 .none → h'.IsTupleIter s.heap.objs.size t 0 → (∀ b o, s.heap.get? b = some o → h'.get? b = some o) → Q (.ref (s.heap.objs.size + 1)) { s with heap := h' }) :
    wpAny (model prog w) A (call (.type "enumerate") [.ref t]) Q E s := by
  refine callType_new F.called_enumerate (by decide) (F.typeCall_enumerate_1 _) (F.newCall_enumerate_1 _) (fun obj => F.args_object_init_2 obj _) F.entry_enumerate_new (meets_enumT t items) ⟨ht, ?_⟩
  have hz : (s.heap.push { cls := .type "tuple_iterator", data := .fields #[.ref t, .int 0 0] }).objs.size = s.heap.objs.size + 1 := Heap.size_push ..
  show _ ∧ _
  rw [hz]
  have he := Heap.get?_push_size (s.heap.push { cls := .type "tuple_iterator", data := .fields #[.ref t, .int 0 0] }) (o := { cls := .type "enumerate", data := .fields #[.none, .bool false, .ref s.heap.objs.size, rawInt 0, .none, .none] }) rfl
  rw [hz] at he
  exact ⟨⟨_, he, rfl⟩, h _ he ⟨_, Heap.get?_push_of_some _ (Heap.get?_push_size _ rfl), rfl, rfl⟩ fun b o x => Heap.get?_push_of_some _ (Heap.get?_push_of_some _ x)⟩
def iEnumT (K : PySem.W.Frag) (ta : TA) : TI := fun σ H R => ta σ H fun vs H1 => ∃ a, vs = [.ref a] ∧ (((∃ xs, SqL K H1 a xs) ∧ R (Ite K a) H1) ∨ ((∃ xs, SqT K H1 a xs) ∧ R (ItT K a) H1))
theorem pi_enumZ {X : Cx} {e : Expr} {ta : TA} {p pos tp : Pos} {elts : List Expr} {kk : Nat} (hg : Gl X "enumerate") (hm : X.mg "enumerate" = none) (ha : PA X [e] ta) (hs : starEach [e] X.env = [(false, eval e X.env)]) : PI X (.Tuple elts kk tp) (.Call (.Name "enumerate" p) [e] [] pos) (iEnumT X.K ta) := by
  constructor
  intro pins s σ H R I h
  refine PyProof.Rows.Call_ (ld_blt I hg hm PyProof.Rows.boot_enumerate (PyProof.Rows.callWith_type1 (thn (ha.run pos pins s σ H _ I h) fun us s1 ⟨vs, H1, I1, r1, q1⟩ => ?_) hs rfl))
  obtain ⟨a, rfl, q⟩ := q1
  have r := Vals.ref1 r1
  subst r
  have fresh : ∀ b ∈ [s1.heap.objs.size + 1, s1.heap.objs.size], FpOk X pins H1 b := fun b hb => by
    have hle : s1.heap.objs.size ≤ b := by
      rcases List.mem_cons.mp hb with z | hb
      · omega
      · have := List.mem_singleton.mp hb
        omega
    exact I1.fpOk hle (I1.hok.fresh hle)
  rcases q with ⟨⟨xs, hq⟩, q⟩ | ⟨⟨xs, hq⟩, q⟩
  · obtain ⟨its, rv, pl, hz⟩ := I1.list hq
    exact call_enumerate_list pl.isList fun h' he hit hsz hk => wpAny_pyIter_enum he ⟨s1.heap.objs.size + 1, _, _, _, H1, rfl, I1.kept (t' := s1.toks) hk, turn_enum a (s1.heap.objs.size + 1) s1.heap.objs.size, ⟨⟨.none, he⟩, hit, Nat.succ_ne_self _⟩, fresh, q⟩
  · obtain ⟨its, rv, pl, hz⟩ := I1.tuple hq
    have pt : s1.heap.IsTuple a its.toArray := pl
    have hal : a < s1.heap.objs.size := by obtain ⟨o, ho, _⟩ := pt; exact Heap.lt_size ho
    exact call_enumT pt fun h' he hit hk => wpAny_pyIter_enum he ⟨s1.heap.objs.size + 1, _, _, _, H1, rfl, I1.kept (t' := s1.toks) hk, turn_enumT a (s1.heap.objs.size + 1) s1.heap.objs.size (Nat.ne_of_lt hal) (Nat.ne_of_gt (Nat.lt_succ_of_lt hal)), ⟨⟨.none, he⟩, hit, Nat.succ_ne_self _⟩, fresh, q⟩
theorem walk_enumT {K : PySem.W.Frag} {a : Addr} {xs : List V} : Walk (ItT K a) xs.length (fun H => SqT K H a xs) (YPair (fun i => some (.int (i : Nat))) (fun i => xs[i]?)) := by
  refine ⟨fun i _ hi q => ⟨xs, xs[i], q, by simp [hi]⟩, fun _ q => ⟨xs, q, Nat.le_refl _⟩, fun i H v H' _ q y => ?_⟩
  obtain ⟨p, x, h1, h2, h3, h4⟩ := y
  exact ⟨p, .int (i : Nat), x, h1, h2, h3, rfl, h4 xs q⟩
def iEnumZ (fl : En → Rz (List Od)) : En → Rz (List D) := fun ρ => (fl ρ).bind fun os ρ1 => match os with
  | [.da d] => .of ρ1 ((itemsOf d).map (enumD 0))
  | _ => .no
section
variable {T : Pg} {W : WX} {X : Cx} {e : Expr} {p pos tp : Pos} {elts : List Expr} {kk : Nat} {fl : En → Rz (List Od)}
theorem di_enum (hK : T.K = X.K) (hg : Gl X "enumerate") (hm : X.mg "enumerate" = none) (ha : DA T W X [e] fl) (hs : starEach [e] X.env = [(false, eval e X.env)]) : DI T W X (.Tuple elts kk tp) (.Call (.Name "enumerate" p) [e] [] pos) (iEnumZ fl) := ⟨pi_imp (pi_enumZ hg hm ha.run hs) fun σ H R ⟨ρ, F, r, g⟩ =>
  tA_fix r g rfl fun os ρ1 F1 H1 vs n1 z g1 => by
    split at g1
    · rename_i d
      obtain ⟨es, e2, g2⟩ := g1.of
      obtain ⟨ds, e3, rfl⟩ := Option.map_eq_some_iff.mp e2
      have q := g2 F1 σ H1 rfl n1
      cases z with
      | cons z1 z2 =>
        cases z2
        have z1 : Dz T.K F1 _ d := z1
        have pr : ∀ {xs : List V}, DzAll T.K F1 xs ds → ∀ (i : Nat) (x y : V), (some (V.int (i : Nat))) = some x → xs[i]? = some y → i < xs.length → ∃ a b, (enumD 0 ds)[i]? = some (.tuple [a, b]) ∧ Dz T.K F1 x a ∧ Dz T.K F1 y b := fun {xs} z i x y hx hy hi => by
          obtain ⟨d', hd, zd⟩ := z.getV hy
          cases hx
          refine ⟨.int ((i : Nat) : Int), d', ?_, .int _, zd⟩
          rw [enumD_get hd, Nat.zero_add]
        cases z1 with
        | lst h1 h2 =>
          cases e3
          refine ⟨_, rfl, .inl ⟨⟨_, .inl (.inl (n1.rep.sub _ _ h1))⟩, q _ ?_⟩⟩
          exact hK ▸ gives_pair (K := T.K) (J := Ite T.K _) (G := fun H => SqL T.K H _ _) walk_enum (by rw [enumD_len, h2.len]) (fun H s => .inl (.inl (s _ _ h1))) (pr h2)
        | tup h1 h2 =>
          cases e3
          refine ⟨_, rfl, .inr ⟨⟨_, hK ▸ n1.rep.sub.seqT h1⟩, q _ ?_⟩⟩
          exact hK ▸ gives_pair (K := T.K) (J := ItT T.K _) (G := fun H => SqT T.K H _ _) walk_enumT (by rw [enumD_len, h2.len]) (fun H s => s.seqT h1) (pr h2)
        | _ => cases e3
    · exact g1.elim⟩
end
end Z

/-! ZN: sorted(set(xs)) of ints; xs.index(v); xs[::-1]. -/
namespace Z
open PySem PySem.Spec L2
open Sem (wp)
abbrev nSet (w : World) : Obj := { cls := .type "set", dict := none, data := .set #[] 0 (.fresh 0 0 (!w.params.followText "set-order")) }
section
variable {P : Program} {w : World} {A : Around} {E : Value → Shared → Prop} {s : Shared}
/-- set(xs) of a list of ints -/
theorem call_setL {l : Addr} {its : Array Value} (ns : List Int) {Q : Value → Shared → Prop} (hh : A.handled = none) (hl : s.heap.IsList l its) (hi : PyProof.Rows.IntsAre its.toList ns) (few : ns.length + 1 < scanBound)
    (fin : ∀ (h2 : Heap) (tk c : Nat), SetR w h2 s.heap.objs.size (fun j => decide (j ∈ ns)) c → c ≤ ns.length → (∀ b o, s.heap.get? b = some o → h2.get? b = some o) → Q (.ref s.heap.objs.size) { s with heap := h2, toks := tk }) : wpAny (model P w) A (call (.type "set") [.ref l]) Q E s := by
  have size : its.size = ns.length := by
    have := PyProof.Rows.IntsAre.length hi
    rwa [Array.length_toList] at this
  obtain ⟨c, tl, hmro⟩ := F.called_set.mro
  have g1 := F.called_set.made
  have g2 := F.called_set.sub
  refine wpAny_call (codeAny_of_tree ?_)
  show wpAny _ _ (callAny (.type "set") _) _ _ _
  refine wpAny_pure ⟨Code.quiet_builtin _ (by decide +kernel), codeAny_builtin F.entry_type_call ?_⟩
  rw [Around.under_plain (weight_type_call_type "set" [.ref l] []) rfl]
  have g3 := F.called_set.notType
  have g4 := F.called_set.canCreate
  have g5 := F.typeCall_set_1 (.ref l)
  repeat (any_goals (first | assumption | wp_step))
  refine codeAny_mono (code_set_led1 (.ref l) (E := E) (Q₁ := fun obj s1 => obj = .ref s.heap.objs.size ∧ s1 = { s with heap := s.heap.push (nSet w) }) ⟨rfl, rfl⟩) fun r s1 hr => ?_
  match r, hr with
  | .error e, hr => exact hr
  | .ok .next, hr => exact hr.elim
  | .ok .brk, hr => exact hr.elim
  | .ok .cont, hr => exact hr.elim
  | .ok (.ret ob), ⟨e1, e2⟩ =>
    subst e1 e2
    have at0 : (s.heap.push (nSet w)).get? s.heap.objs.size = some (nSet w) := Heap.get?_push_size _ rfl
    have ty : Shared.TypeIs { s with heap := s.heap.push (nSet w) } (.ref s.heap.objs.size) "set" := ⟨_, at0, rfl⟩
    have g6 := F.called_set.init.lookup
    have g7 := F.called_set.init.bind (.ref s.heap.objs.size)
    repeat (any_goals (first | assumption | wp_step))
    refine codeAny_mono (codeAny_call_builtin (R := wants (fun r s2 => r = .none ∧ ∃ h2 tk c, s2 = { s with heap := h2, toks := tk } ∧ SetR w h2 s.heap.objs.size (fun j => decide (j ∈ ns)) c ∧ c ≤ ns.length ∧ ∀ b o, s.heap.get? b = some o → h2.get? b = some o) E) F.called_set.init.plain F.entry_set_init (check_set_init_1 ty ?_)) fun r2 s2 q2 => ?_
    · obtain ⟨⟨lc, ldt, ld, ls⟩, hol, hcl, nl, hdl⟩ := hl
      simp only at hcl hdl
      subst hcl hdl
      have atL : (s.heap.push (nSet w)).get? l = some { cls := .type "list", dict := ldt, data := .seq its nl, slots := ls } := Heap.get?_push_of_some _ hol
      have k1 := F.sub_list_set
      have k2 := F.sub_list_frozenset
      have k3 : (Value.type "list" == Value.type "dict") = false := by decide
      have isL : (s.heap.push (nSet w)).IsList l its := ⟨_, atL, rfl, nl, rfl⟩
      unfold Builtin.«set.__init__» noKeywords Builtin.Frozenset.updateFrom
      generalize hP : pyIter = pI
      wp_walk
      subst hP
      refine wpAny_pyIter_list isL (wpAny_bind (wpAny_runValue ?_))
      have lt : l < s.heap.objs.size := Heap.lt_size hol
      have sz : (s.heap.push (nSet w)).objs.size = s.heap.objs.size + 1 := Heap.size_push ..
      have hd : A.in1.in1.in1.handled = none := by simp [hh]
      have nI : l ≠ (s.heap.push (nSet w)).objs.size := by rw [sz]; exact Nat.ne_of_lt (Nat.lt_succ_of_lt lt)
      have nS : s.heap.objs.size ∉ [(s.heap.push (nSet w)).objs.size, l] := by
        rw [sz]
        intro z
        rcases List.mem_cons.mp z with z | z
        · exact absurd z (Nat.ne_of_lt (Nat.lt_succ_self _))
        · exact absurd (List.mem_singleton.mp z) (Nat.ne_of_gt lt)
      have val : ∀ (i : Nat) (v : Value), its[i]? = some v → ∃ k t, ns[i]? = some k ∧ v = .int k t := fun i v hv => by
        have hin : i < ns.length := by rw [← size]; exact (Array.getElem?_eq_some_iff.mp hv).1
        obtain ⟨t, e⟩ := PyProof.Rows.IntsAre.int_at hi i v (by rw [Array.getElem?_toList]; exact hv)
        refine ⟨ns[i], t, List.getElem?_eq_getElem hin, ?_⟩
        rw [e, List.getD_eq_getElem?_getD, List.getElem?_eq_getElem hin]
        rfl
      refine set_update_ints ((Walks.list hd _ l nI its).toS) s.heap.objs.size nS ns size few val (its.size - 0) 0 _ (by omega) (Nat.zero_le _) ⟨⟨_, Heap.get?_push_size _ rfl, rfl, rfl⟩, isL.push _⟩ ⟨0, Nat.le_refl 0, setR_new_at (Heap.get?_push_of_some _ at0)⟩ fun s3 c3 mv h3 r3 => ?_
      obtain ⟨h2, gg, dd, tk, oo⟩ := s3
      have eg : gg = s.gens := mv.gens
      have ed : dd = s.drawn := mv.drawn
      have eo : oo = s.os := mv.os
      subst eg ed eo
      show wpAny _ _ _ _ _ _
      refine wpAny_pure ?_
      show wpAny _ _ (ret Value.none) _ _ _
      rw [size] at h3
      refine wpAny_pure ⟨rfl, h2, tk, c3, rfl, r3, h3, fun b o e => mv.heap b o (fun z => ?_) (Heap.get?_push_of_some _ (Heap.get?_push_of_some _ e))⟩
      have hb : b < s.heap.objs.size := Heap.lt_size e
      rcases List.mem_cons.mp z with z | z
      · exact absurd z (Nat.ne_of_lt hb)
      · have z := List.mem_singleton.mp z
        rw [sz] at z
        exact absurd hb (by rw [z]; exact Nat.not_lt_of_le (Nat.le_succ _))
    · match r2, q2 with
      | .error e, q2 => exact q2
      | .ok .next, q2 => exact q2.elim
      | .ok .brk, q2 => exact q2.elim
      | .ok .cont, q2 => exact q2.elim
      | .ok (.ret r), ⟨e1, h2, tk, c2, e2, r1, r2, r3⟩ =>
        subst e1 e2
        repeat (any_goals (first | assumption | wp_step))
        exact fin _ _ _ r1 r2 r3
end

end Z

namespace Z
open PySem PySem.Spec L2
/-! ### sorted(set(xs)) -/
def rSetI (K : PySem.W.Frag) (w : World) : List V → Hp → VK → Prop := fun vs H Q => ∃ (a : Addr) (ns : List Int), vs = [.ref a] ∧ (SqL K H a (ns.map V.int) ∨ SqT K H a (ns.map V.int)) ∧ ns.length ≤ 63 ∧ ∀ p c, H p = none → c ≤ ns.length → Q (.ref p) (upd H p (SetO w p (fun j => decide (j ∈ ns)) c))
theorem cr_setI {X : Cx} (hc : X.calm = true) : CallR X (.type "set") (rSetI X.K X.w) := by
  intro pins s σ H vs us Q I r h
  obtain ⟨a, ns, rfl, hq, hl, q⟩ := h
  rw [Vals.ref1 r]
  have few : ns.length + 1 < scanBound := by unfold scanBound; omega
  have out : ∀ (h2 : Heap) (tk c : Nat), SetR X.w h2 s.heap.objs.size (fun j => decide (j ∈ ns)) c → c ≤ ns.length → (∀ b o, s.heap.get? b = some o → h2.get? b = some o) → EP X pins σ Q (.ref s.heap.objs.size) { s with heap := h2, toks := tk } := fun h2 tk c R hc2 k =>
    ⟨.ref s.heap.objs.size, _, I.laid (t' := tk) k (Nat.le_refl _) (setO_new R), rfl, q _ c (I.hok.fresh (Nat.le_refl _)) hc2⟩
  rcases hq with hq | hq
  · obtain ⟨its, rv, pl, hz⟩ := I.list hq
    exact call_setL ns (I.ok.hd hc) pl.isList (by simpa using ints_of_vals rv) few out
  · obtain ⟨its, rv, pl, hz⟩ := I.tuple hq
    exact call_set_tupI ns (I.ok.hd hc) (show s.heap.IsTuple a its.toArray from pl) (by simpa using ints_of_vals rv) few out
def insI (k : Int) : List Int → List Int
  | [] => [k]
  | x :: xs => if k < x then k :: x :: xs else if k = x then x :: xs else x :: insI k xs
def setSort (ns : List Int) : List Int := ns.foldr insI []
theorem insI_mem {k j : Int} : ∀ {xs : List Int}, j ∈ insI k xs ↔ j = k ∨ j ∈ xs
  | [] => by simp [insI]
  | x :: xs => by
    unfold insI
    split
    · simp
    · split
      · rename_i h; subst h; simp
      · simp only [List.mem_cons, insI_mem (xs := xs)]
        constructor
        · rintro (h | h | h)
          · exact .inr (.inl h)
          · exact .inl h
          · exact .inr (.inr h)
        · rintro (h | h | h)
          · exact .inr (.inl h)
          · exact .inl h
          · exact .inr (.inr h)
theorem insI_asc {k : Int} : ∀ {xs : List Int}, xs.Pairwise (· < ·) → (insI k xs).Pairwise (· < ·)
  | [], _ => by simp [insI]
  | x :: xs, h => by
    have h2 := List.pairwise_cons.mp h
    unfold insI
    split
    · rename_i c
      refine List.pairwise_cons.mpr ⟨fun y hy => ?_, h⟩
      rcases List.mem_cons.mp hy with rfl | hy
      · exact c
      · have := h2.1 y hy; omega
    · split
      · exact h
      · refine List.pairwise_cons.mpr ⟨fun y hy => ?_, insI_asc h2.2⟩
        rcases insI_mem.mp hy with rfl | hy
        · omega
        · exact h2.1 y hy
theorem setSort_asc : ∀ (ns : List Int), (setSort ns).Pairwise (· < ·)
  | [] => List.Pairwise.nil
  | n :: ns => insI_asc (setSort_asc ns)
theorem setSort_mem {j : Int} : ∀ {ns : List Int}, j ∈ setSort ns ↔ j ∈ ns
  | [] => Iff.rfl
  | n :: ns => by
    show j ∈ insI n (setSort ns) ↔ _
    rw [insI_mem, setSort_mem (ns := ns), List.mem_cons]
theorem asc_eq : ∀ {a b : List Int}, a.Pairwise (· < ·) → b.Pairwise (· < ·) → (∀ k, k ∈ a ↔ k ∈ b) → a = b
  | [], [], _, _, _ => rfl
  | [], y :: _, _, _, h => nomatch (h y).mpr List.mem_cons_self
  | x :: _, [], _, _, h => nomatch (h x).mp List.mem_cons_self
  | x :: xs, y :: ys, ha, hb, h => by
    have a2 := List.pairwise_cons.mp ha
    have b2 := List.pairwise_cons.mp hb
    have e : x = y := by
      rcases List.mem_cons.mp ((h x).mp List.mem_cons_self) with e | e
      · exact e
      · rcases List.mem_cons.mp ((h y).mpr List.mem_cons_self) with e2 | e2
        · exact e2.symm
        · have q1 := b2.1 x e
          have q2 := a2.1 y e2
          omega
    subst e
    refine congrArg (x :: ·) (asc_eq a2.2 b2.2 fun k => ?_)
    constructor
    · intro hk
      have := a2.1 k hk
      rcases List.mem_cons.mp ((h k).mp (List.mem_cons_of_mem _ hk)) with e | e
      · omega
      · exact e
    · intro hk
      have := b2.1 k hk
      rcases List.mem_cons.mp ((h k).mpr (List.mem_cons_of_mem _ hk)) with e | e
      · omega
      · exact e
def intsO : List D → Option (List Int)
  | [] => some []
  | .int i :: ds => (intsO ds).map (i :: ·)
  | _ :: _ => none
theorem intsO_eq : ∀ {ds : List D} {ns : List Int}, intsO ds = some ns → ds = ns.map PyData.int
  | [], ns, h => by cases h; rfl
  | .int i :: ds, ns, h => by
    obtain ⟨ms, h1, rfl⟩ := Option.map_eq_some_iff.mp h
    rw [intsO_eq h1]; rfl
  | .none :: _, _, h => by cases h
  | .bool _ :: _, _, h => by cases h
  | .str _ :: _, _, h => by cases h
  | .list _ :: _, _, h => by cases h
  | .tuple _ :: _, _, h => by cases h
  | .dict _ :: _, _, h => by cases h
theorem intsO_map : ∀ (ns : List Int), intsO (ns.map PyData.int) = some ns
  | [] => rfl
  | n :: ns => by
    show (intsO (ns.map PyData.int)).map (n :: ·) = _
    rw [intsO_map ns]; rfl
def pSetSort : List D → Option Va
  | [d] => ((itemsOf d).bind intsO).bind fun ns => if ns.length ≤ 63 then some (.fo ((setSort ns).map PyData.int)) else none
  | _ => none
def rSetSort (K : PySem.W.Frag) (w : World) : List V → Hp → VK → Prop := fun vs H Q => rSetI K w vs H fun v H1 => rSortedSet w [v] H1 Q
theorem im_setSort {K : PySem.W.Frag} {w : World} : ImL K (rSetSort K w) pSetSort := ⟨fun F H vs ds va Q s h hp k => by
  unfold pSetSort at hp
  split at hp
  · rename_i d
    obtain ⟨ns, h1, hp⟩ := Option.bind_eq_some_iff.mp hp
    obtain ⟨es, h2, h3⟩ := Option.bind_eq_some_iff.mp h1
    have e := intsO_eq h3
    subst e
    split at hp
    · rename_i hl
      cases hp
      obtain ⟨v, rfl, q⟩ := dq1 (v := .non) (ds := []) h
      have fin : ∀ p c, H p = none → c ≤ ns.length → rSortedSet w [.ref p] (upd H p (SetO w p (fun j => decide (j ∈ ns)) c)) Q := fun p c np hc => by
        refine ⟨p, _, c, rfl, upd_same, by omega, fun ms p2 a1 a2 a3 np2 => ?_⟩
        have e : ms = setSort ns := asc_eq a1 (setSort_asc ns) fun j => by rw [a2 j, setSort_mem, decide_eq_true_eq]
        subst e
        have ps : Ps F H F (upd H p (SetO w p (fun j => decide (j ∈ ns)) c)) := Ps.one s np
        have ps2 := ps.trans (Ps.one (o := .lst ((setSort ns).map V.int)) ps.sub np2)
        exact k _ F _ ps2 ⟨p2, _, rfl, upd_same, DzAll.ofInts _, none_of_sub ps.sub np2, ps.dom np2⟩
      unfold itemsOf at h2
      split at h2
      · cases h2
        obtain ⟨a, xs, rfl, e1, z1⟩ := q.list s
        exact ⟨a, ns, rfl, .inl (by rw [← DzAll.ints z1]; exact .inl (.inl e1)), hl, fin⟩
      · cases h2
        obtain ⟨a, xs, rfl, f1, e1, z1⟩ := q.tup s
        exact ⟨a, ns, rfl, .inr (by rw [← DzAll.ints z1]; exact e1), hl, fin⟩
      · cases h2
    · cases hp
  · cases hp⟩
section
variable {T : Pg} {W : WX} {X : Cx} {e : Expr} {p p1 q pos : Pos} {fl : En → Rz (List Od)}
theorem do_setSort (hK : T.K = X.K) (hc : X.calm = true) (hg : Gl X "sorted") (hm : X.mg "sorted" = none) (hg2 : Gl X "set") (hm2 : X.mg "set" = none) (ha : DA T W X [e] fl) (hs : starEach [e] X.env = (false, eval e X.env) :: starEach [] X.env) (hs2 : starEach [.Call (.Name "set" p1) [e] [] q] X.env = (false, eval (.Call (.Name "set" p1) [e] [] q) X.env) :: starEach [] X.env) :
    DO T W X (.Call (.Name "sorted" p) [.Call (.Name "set" p1) [e] [] q] [] pos) (fL pSetSort fl) := by
  have inner : PE X (.Call (.Name "set" p1) [e] [] q) (tCB (rSetI X.K X.w) (tA T W fl)) := pe_callTy (cr_setI hc) hg2 hm2 PyProof.Rows.boot_set ha.run (by decide) (by decide) hs (by rfl)
  refine ⟨pe_imp (pe_callB (cr_sortedSet hc) hg hm PyProof.Rows.boot_sorted (pa_cons inner pa_nil hs2) (by decide) (by decide) hs2 (by rfl)) fun σ H Q h => ?_⟩
  exact t_cb (T := T) (r := rSetSort X.K X.w) (hK ▸ im_setSort) h
end
end Z

/-! ZP: methods of lists that give values; xs[::-1]. -/
namespace Z
open PySem PySem.Spec L2
structure ImM (K : PySem.W.Frag) (r : V → List V → Hp → VK → Prop) (p : D → List D → Option Va) : Prop where
  run : ∀ (F H : Hp) (x : V) (d : D) (vs : List V) (ds : List D) (va : Va) (Q : VK), Sub F H → Dq K F H x d → DqAll K F H vs ds → p d ds = some va → (∀ v F' H', Ps F H F' H' → VaN K F' H H' v va → Q v H') → r x vs H Q
def isLst : Option D → Bool
  | some (.list _) => true
  | _ => false
theorem isLst_ex {o : Option D} (h : isLst o = true) : ∃ ds, o = some (.list ds) := by
  unfold isLst at h
  split at h
  · exact ⟨_, rfl⟩
  · cases h
def fM (p : D → List D → Option Va) (fa : En → Rz Od) (fl : En → Rz (List Od)) : En → Rz Va := fun ρ => (fa ρ).bind fun o ρ1 => if isLst (o.get ρ1) = true then (fl ρ1).bind fun os ρ2 => match o.get ρ2, getAll ρ2 os with
    | some d, some ds => .of ρ2 (p d ds)
    | _, _ => .no
  else .no
section
variable {T : Pg} {W : WX} {X : Cx} {o e : Expr} {es : List Expr} {ap cp pos : Pos} {fa : En → Rz Od} {fl : En → Rz (List Od)} {name : Str} {id : String} {r : V → List V → Hp → VK → Prop} {p : D → List D → Option Va}
theorem do_mth (hK : T.K = X.K) (slot : Slot "list" name id) (hty : typeOf (.builtin id) = pure (.type "method_descriptor")) (hm : MtR X id r) (im : ImM T.K r p) (ho : DX T W X o fa) (ha : DA T W X (e :: es) fl) (hb : attributeBase o name X.env (eval o X.env) = eval o X.env)
    (hfew : Bool.and (Bool.and ((backTo cp (starEach (e :: es) X.env)).all fun x => !x.1) ((backToKw cp (keywordEach [] X.env)).all fun x => x.1.isSome)) (decide ((e :: es).length + ([] : List Keyword).length + (if ([] : List Keyword).isEmpty = true then 0 else 1) < 30)) = true)
    (hline : (ap.endLine == cp.line) = true) (hs : starEach (e :: es) X.env = (false, eval e X.env) :: starEach es X.env) (hpl : (backTo cp (starEach es X.env)).any (·.1) = false) : DO T W X (.Call (.Attribute o name ap) (e :: es) [] cp) (fM p fa fl) :=
  ⟨pe_imp (pe_bm PySem.F.plainAttrs_list slot hty hm ho.run ha.run hb hfew hline hs hpl) fun σ H Q ⟨ρ, F, rep, g⟩ => by
    refine tX_fix rep g rfl fun x ρ1 F1 H1 v n1 z1 g1 => ?_
    split at g1
    · rename_i c
      obtain ⟨ds0, e0⟩ := isLst_ex c
      obtain ⟨a, xs, rfl, h1, _⟩ := (z1.dq n1.rep e0).list n1.rep.sub
      refine ⟨.inl ⟨rfl, xs, .inl (.inl h1)⟩, ?_⟩
      refine tA_fix n1.rep (g1.go n1) rfl fun os ρ2 F2 H2 vs n2 z2 g2 => ?_
      split at g2
      · rename_i d ds e1 e2
        obtain ⟨va, hp, g3⟩ := g2.of
        exact im.run F2 H2 _ d vs ds va Q n2.rep.sub ((z1.mono n2.ext).dq n2.rep e1) (getAll_dq n2.rep z2 e2) hp (fin_of n1 n2 g3)
      · exact g2.elim
    · exact g1.elim⟩
end
/-- xs.index(v): the first place of an equal one -/
def idxD (d : D) : List D → Option Nat
  | [] => none
  | z :: zs => if PyData.eqv z d = true then some 0 else (idxD d zs).map (· + 1)
theorem idxD_some {d : D} : ∀ {ds : List D} {j : Nat}, idxD d ds = some j → ∃ z, ds[j]? = some z ∧ PyData.eqv z d = true ∧ ∀ (m : Nat) (y : D), m < j → ds[m]? = some y → PyData.eqv y d = false
  | z :: zs, j, h => by
    unfold idxD at h
    split at h
    · rename_i c
      cases h
      exact ⟨z, rfl, c, fun m y hm => absurd hm (Nat.not_lt_zero _)⟩
    · rename_i c
      obtain ⟨k, h1, rfl⟩ := Option.map_eq_some_iff.mp h
      obtain ⟨x, q1, q2, q3⟩ := idxD_some h1
      refine ⟨x, by simpa using q1, q2, fun m y hm hy => ?_⟩
      cases m with
      | zero =>
        have : z = y := by simpa using hy
        subst this
        exact Bool.eq_false_iff.mpr c
      | succ m => exact q3 m y (by omega) (by simpa using hy)
def pIndex : D → List D → Option Va
  | .list ds, [d] => if SeqAt.shaped (.list ds) = true ∧ SeqAt.shaped d = true then (idxD d ds).map fun j => .fz (.int (j : Nat)) else none
  | _, _ => none
theorem im_index {K : PySem.W.Frag} : ImM K (rIndexD K) pIndex := ⟨fun F H x d vs ds va Q s hx h hp k => by
  unfold pIndex at hp
  split at hp
  · split at hp
    · rename_i es e c
      obtain ⟨j, h1, rfl⟩ := Option.map_eq_some_iff.mp hp
      obtain ⟨v, rfl, q⟩ := dq1 (v := .non) (ds := []) h
      obtain ⟨z, q1, q2, q3⟩ := idxD_some h1
      obtain ⟨a, xs, rfl, _, _⟩ := hx.list s
      exact ⟨a, v, e, es, j, z, rfl, rfl, hx.dp s (SeqAt.canLay_of_shaped c.1), q.dp s (SeqAt.canLay_of_shaped c.2), c.1, c.2, q1, q2, q3, k_v s (.int _) k⟩
    · cases hp
  · cases hp⟩
/-! ### xs[::-1], the step by an expression -/
theorem pe_revZ {X : Cx} {e st : Expr} {te : TE} {tst : TO} {p3 pos : Pos} (he : PE X e te) (hst : L2.PO X (some st) tst) (h1 : ∀ σ H, tst σ H fun o H4 => o = some (-1) ∧ H4 = H) : PE X (.Subscript e (.Slice none none (some st) p3) pos) (tRevL X.K te) := by
  constructor
  intro pins s σ H Q I h
  refine PyProof.Rows.Subscript_ (thn (he.run pins s σ H _ I h) fun v s1 ⟨x, H1, I1, r1, a, xs, ex, hx, q⟩ => ?_)
  subst ex
  cases r1
  refine wpAny_Slice (thn (po_none.run pins s1 σ H1 (fun o K2 => o = none ∧ K2 = H1) I1 ⟨rfl, rfl⟩) fun v1 s2 ⟨o1, H2, I2, y1, e1, e2⟩ => ?_)
  subst e1 e2
  refine thn (po_none.run pins s2 σ H2 (fun o K2 => o = none ∧ K2 = H2) I2 ⟨rfl, rfl⟩) fun v2 s3 ⟨o2, H3, I3, y2, e1, e2⟩ => ?_
  subst e1 e2
  refine thn (hst.run pins s3 σ H3 (fun o K2 => o = some (-1) ∧ K2 = H3) I3 (h1 σ H3)) fun v3 s4 ⟨o3, H4, I4, y3, e1, e2⟩ => ?_
  subst e1 e2
  have I5 : Inv X pins σ H4 { s4 with heap := s4.heap.push { cls := .type "slice", data := .fields #[v1, v2, v3] } } := I4.kept (t' := s4.toks) fun b ob z => Heap.get?_push_of_some _ z
  obtain ⟨its, r, ht, hz⟩ := I5.list hx
  have hlen := r.length
  show wpAny (model X.prog X.w) X.A (PyProof.Rows.subscriptTail e (.Slice none none (some st) p3) (.ref a) (.ref s4.heap.objs.size)) (EP X pins σ Q) X.xe { s4 with heap := s4.heap.push { cls := .type "slice", data := .fields #[v1, v2, v3] } }
  refine PyProof.Rows.tail_any (ops := [.ref a, .ref s4.heap.objs.size]) ht.isList.typeIs (PySem.slot_list_getitem.lookup) ?_ (by with_unfolding_all rfl)
  refine wpAny_getItem_list_slice ht.isList (Heap.IsSliceOf.new _ v1 v2 v3) y1 y2 y3 (by decide) ?_ (by rw [List.size_toArray]; omega)
  rw [PySem.W.krv_pick]
  exact ⟨.ref _, _, I5.laid (t' := s4.toks) (o := .lst xs.reverse) (fun b ob z => Heap.get?_push_of_some _ z) (Nat.le_refl _) ⟨by rw [List.length_reverse]; exact hz, _, 0, r.reverse, Heap.get?_push_size _ rfl⟩, rfl, q _ (I5.hok.fresh (Nat.le_refl _))⟩
def oRev (fa : En → Rz Od) : En → Rz Va := fun ρ => (fa ρ).bind fun o ρ1 => match o.get ρ1 with
  | some (.list ds) => .ok (.fo ds.reverse) ρ1
  | _ => .no
/-- xs[::0 - 1] -/
theorem do_rev {T : Pg} {W : WX} {X : Cx} {a : Expr} {k0 k1 : Nat} {q0 q1 q2 p3 pos : Pos} {fa : En → Rz Od} (hK : T.K = X.K) (ha : DX T W X a fa) : DO T W X (.Subscript a (.Slice none none (some (.BinOp (.Constant (.int 0) k0 q0) .Sub (.Constant (.int 1) k1 q1) q2)) p3) pos) (oRev fa) :=
  ⟨pe_imp (pe_revZ ha.run (po_some (pe_op op_sub pe_int pe_int)) fun σ H => ⟨0, 1, rfl, rfl, -1, rfl, rfl, rfl⟩) fun σ H Q ⟨ρ, F, rep, g⟩ => by
    refine tX_fix rep g rfl fun o ρ1 F1 H1 v n1 z1 g1 => ?_
    split at g1
    · rename_i ds e
      obtain ⟨b, xs, rfl, h1, z⟩ := (z1.dq n1.rep e).list n1.rep.sub
      exact ⟨b, xs, rfl, .inl (.inl h1), fun p np => k_lst n1.rep.sub z.reverse (fin_of (.refl rep) n1 g1) np⟩
    · exact g1.elim⟩
end Z

/-! ZQ: calls by keyword alone; own ends. -/
namespace Z
open PySem PySem.Spec L2
/-- the items at the places of ix -/
def pick {α : Type} (ix : List Nat) (l : List α) : List α := ix.filterMap fun i => l[i]?
theorem pick_vals {vs : List V} {us : List Value} (r : Vals vs us) : ∀ ix : List Nat, Vals (pick ix vs) (pick ix us)
  | [] => .nil
  | i :: ix => by
    unfold pick
    rw [List.filterMap_cons, List.filterMap_cons]
    cases e : vs[i]? with
    | none =>
      have : us[i]? = none := by
        rw [List.getElem?_eq_none_iff, ← r.length]
        exact List.getElem?_eq_none_iff.mp e
      rw [this]
      exact pick_vals r ix
    | some v =>
      obtain ⟨u, hu, ru⟩ := r.get e
      rw [hu]
      exact .cons ru (pick_vals r ix)
theorem OdAll.get {K : PySem.W.Frag} {F : Hp} {σ : St} : ∀ {vs : List V} {os : List Od} {i : Nat}, OdAll K F σ vs os → (vs[i]? = none ∧ os[i]? = none) ∨ ∃ v o, vs[i]? = some v ∧ os[i]? = some o ∧ OdR K F σ v o
  | _, _, i, .nil => .inl ⟨by simp, by simp⟩
  | _, _, 0, .cons a _ => .inr ⟨_, _, rfl, rfl, a⟩
  | _, _, i + 1, .cons a b => by
    rcases OdAll.get (i := i) b with ⟨h1, h2⟩ | ⟨v, o, h1, h2, h3⟩
    · exact .inl ⟨by simpa using h1, by simpa using h2⟩
    · exact .inr ⟨v, o, by simpa using h1, by simpa using h2, h3⟩
theorem pick_od {K : PySem.W.Frag} {F : Hp} {σ : St} {vs : List V} {os : List Od} (r : OdAll K F σ vs os) : ∀ ix : List Nat, OdAll K F σ (pick ix vs) (pick ix os)
  | [] => .nil
  | i :: ix => by
    unfold pick
    rw [List.filterMap_cons, List.filterMap_cons]
    rcases r.get (i := i) with ⟨h1, h2⟩ | ⟨v, o, h1, h2, h3⟩
    · rw [h1, h2]; exact pick_od r ix
    · rw [h1, h2]; exact .cons h3 (pick_od r ix)
structure DK (T : Pg) (W : WX) (X : Cx) (ks : List Keyword) (f : En → Rz (List Od)) : Prop where
  run : PK X ks (tA T W f)
theorem pk_imp {X : Cx} {ks : List Keyword} {t t' : TA} (h : PK X ks t) (i : ∀ σ H Q, t' σ H Q → t σ H Q) : PK X ks t' := ⟨fun p pins s σ H Q I w => h.run p pins s σ H Q I (i _ _ _ w)⟩
section
variable {T : Pg} {W : WX} {X : Cx} {e : Expr} {ks : List Keyword} {nm : Option Str} {kp : Pos} {fa : En → Rz Od} {fr : En → Rz (List Od)}
theorem dk_nil : DK T W X [] (fun ρ => .ok [] ρ) := ⟨pk_imp pk_nil fun σ H Q ⟨ρ, F, r, g⟩ => g F σ H rfl (.refl r) [] .nil⟩
theorem dk_cons (ha : DX T W X e fa) (hr : DK T W X ks fr) : DK T W X (⟨nm, e, kp⟩ :: ks) (aCons fa fr) := ⟨pk_imp (pk_cons ha.run hr.run) fun σ H Q ⟨ρ, F, rep, g⟩ => by
  refine tX_fix rep g rfl fun o1 ρ1 F1 H1 v1 n1 z1 g1 => ?_
  refine tA_fix n1.rep (g1.go n1) rfl fun os ρ2 F2 H2 vs n2 z2 g2 => ?_
  exact g2 F2 σ H2 rfl n2 (v1 :: vs) (.cons (z1.mono n2.ext) z2)⟩
end
theorem OdAll.len {K : PySem.W.Frag} {F : Hp} {σ : St} : ∀ {vs : List V} {os : List Od}, OdAll K F σ vs os → vs.length = os.length
  | _, _, .nil => rfl
  | _, _, .cons _ b => congrArg (· + 1) b.len
def oAppK (n : Nat) (φ : List Av → Rc) (m : Nat) (ix : List Nat) (fa : En → Rz (List Od)) : En → Rz Va := fun ρ => (fa ρ).bind fun os ρ1 => if os.length = m then apF n φ (pick ix os) ρ1 else .no
section
variable {T : Pg} {W : WX} {X : Cx} {k n : Nat} {f : Addr} {fd : FuncData} {ps ns : List Str} {φ : List Av → Rc} {x : Str} {p pos : Pos} {kws : List Keyword} {fa : En → Rz (List Od)} {ix : List Nat}
/-- f(a = .., b = ..) of a def of the text, all its parameters written by name -/
theorem do_appK (G : FnG X.prog X.w X.K X.mg X.base k f fd ps (spZ T n φ)) (hG : X.A.guards = some []) (hr : Room k X.A) (hg : Gl X x) (hm : X.mg x = some (.ref f)) (hk : PySem.W.keepIn X.K (.ref f) = true)
    (hb : ∀ ws : List Value, (pick ix ws).length = ps.length → ws.length = ns.length → bindArgs fd ⟨[], ns.zip ws⟩ = pure (ps.zip (pick ix ws))) (tk : Takes X W)
    (ha : DK T W X kws fa) (hdb : (x == ("__debug__" : Str)) = false) (hall : (backToKw pos (keywordEach kws X.env)).all (·.1.isSome) = true) (hks : (backToKw pos (keywordEach kws X.env)).filterMap (·.1) = ns)
    (hpl : Bool.or ((backTo pos (starEach [] X.env)).any (·.1)) ((backToKw pos (keywordEach kws X.env)).any (·.1.isNone)) = false) : DO T W X (.Call (.Name x p) [] kws pos) (oAppK n φ ns.length ix fa) := ⟨⟨fun pins s σ H Q I h => by
  obtain ⟨ρ, F, rep, g⟩ := h
  have args := tA_fix (Q := fun vs H1 => vs.length = ns.length ∧ spZ T n φ (pick ix vs) H1 Q fun c d H' => W c d σ H') rep g rfl fun os ρ1 F1 H1 vs n1 z1 g1 => by
    split at g1
    · rename_i hl
      exact ⟨z1.len.trans hl, sp_call n1 (pick_od z1 ix) g1⟩
    · exact g1.elim
  apply wpAny_Call_Name_kw
  apply ld_glob I hg hm _ hdb
  refine PySem.W.callWith_KW0 (h₀ := X.base) I.ok.mod.kin hk hall ?_ hpl
  refine thn (ha.run.run pos pins s σ H _ I args) ?_
  rintro us s1 ⟨vs, H1, I1, r, lv, q⟩
  refine ⟨I1.kIn, ?_⟩
  rw [hks]
  have r2 := pick_vals r ix
  have l : (pick ix us).length = ps.length := by rw [← r2.length]; exact G.len _ _ _ _ q
  have b : BindsTo s1 fd ⟨[], ns.zip us⟩ (ps.zip (pick ix us)) := .of_eq (hb us l (r.length.symm.trans lv))
  exact wpAny_call (codeAny_mono (call_g G hG hr tk I1 b r2 q) fun r s' hq => by
    match r, hq with
    | .error e, hq => exact hq
    | .ok (.ret u), hq => exact hq
    | .ok .next, hq => exact hq.elim
    | .ok .brk, hq => exact hq.elim
    | .ok .cont, hq => exact hq.elim)⟩⟩
end
end Z

/-! ZR: the end of a law. -/
namespace Z
open PySem PySem.Spec L2 PyProof.Rows
/-- the script as data -/
def scrD (ns : List Int) : D := .dict [(.none, .list (ns.map PyData.int))]
theorem sp_end {T : Pg} {φ : List Av → Rc} {H : Hp} {a : Addr} {ns : List Int} {E : XK} {outs : List Av} (hφ : φ [.v (scrD ns)] = .ok (.fz (.bool true)) outs) (hS : SqL T.K H a (ns.map V.int)) : spZ T 1 φ [.ref a] H (fun v _ => v = .bl true) E := by
  refine ⟨H, [.v (scrD ns)], ⟨Sub.rfl', rfl, fun i d e => ?_, fun i ds e => ?_, fun i j ds es b hij h1 h2 => ?_⟩, rfl, ?_⟩
  · cases i with
    | zero => cases e; exact ⟨_, rfl, .scr hS rfl⟩
    | succ i => simp at e
  · cases i with
    | zero => cases e
    | succ i => simp at e
  · cases i with
    | zero => cases h1
    | succ i => simp at h1
  · rw [hφ]
    intro v F' H' _ hv
    have hv : Dz T.K F' v (.bool true) := hv
    cases hv
    rfl
section
variable {P : Program} {w : World} {K : PySem.W.Frag} {mg mb : Str → Option Value} {fa a : Addr} {s : Shared} {vs : List Value} {ns : List Int} {H : Hp}
abbrev Done (s : Shared) (r : Result) (s' : Shared) : Prop := r = .ok (.ret (.bool true)) ∧ OldK s.heap s'.heap ∧ s'.os = s.os ∧ AllBare s'.gens
/-- what the script's heap is like -/
structure Hs (P : Program) (w : World) (K : PySem.W.Frag) (H : Hp) (s : Shared) (a : Addr) : Prop where
  only : Only H
  hok : HOk P w H s.heap
  at_ : ∀ b u, H b = some u → b = a ∧ K.lookup a = none
theorem env_of (X : Hs P w K H s a) (ha : s.heap.get? a = some { cls := .type "list", data := .seq vs.toArray }) (KX : K.In s.heap) (h1 : s.heap.Ns mainGlobals mg) (h2 : s.heap.Ns builtinsNs mb) (h3 : ∀ x : Str, x ≠ "__name__" → mb x = bootBuiltins x) (h4 : s.heap.NoLimit) (h5 : s.gens = #[]) :
    K.In (hidT s.heap H) ∧ (hidT s.heap H).Ns mainGlobals mg ∧ Env0 P w K mg (hidT s.heap H) callerA [] s H := by
  have still : ∀ {b : Addr} {o : Obj}, s.heap.get? b = some o → (∀ vs : Array Value, b = a → K.lookup a = none → o = { cls := .type "list", data := .seq vs } → False) → (hidT s.heap H).get? b = some o := fun {b o} e no => by
    refine hidT_get e ?_
    cases q : H b with
    | none => rfl
    | some u =>
      obtain ⟨z1, z2⟩ := X.at_ b u q
      subst z1
      rw [ha] at e; cases e
      exact (no _ rfl z2 rfl).elim
  have ns' : ∀ {b : Addr} {m : Str → Option Value}, s.heap.Ns b m → (hidT s.heap H).Ns b m := fun {b m} n => by
    obtain ⟨o, es, ep, e, d, r⟩ := n
    exact ⟨o, es, ep, still e (fun vs _ _ z => by rw [z] at d; cases d), d, r⟩
  have KI : K.In (hidT s.heap H) := fun b o e => still (KX b o e) fun vs z1 z2 _ => by rw [z1, z2] at e; cases e
  have lim : (hidT s.heap H).NoLimit := by
    obtain ⟨m, q1, q2⟩ := h4
    exact ⟨m, ns' q1, q2⟩
  exact ⟨KI, ns' h1, rfl, ⟨KI, ns' h1, ⟨mb, ns' h2, h3⟩, lim⟩, fun b o e => of_hidT e, Nat.le_of_eq (hidT_size _ _), trivial, fun b hb => (nomatch hb), X.hok, .of_eq h5⟩
theorem law_run {k : Nat} {fd : FuncData} {x : Str} {sp : Sp} (X : Hs P w K H s a) (ha : s.heap.get? a = some { cls := .type "list", data := .seq vs.toArray }) (KX : K.In s.heap) (h1 : s.heap.Ns mainGlobals mg) (h2 : s.heap.Ns builtinsNs mb) (h3 : ∀ x : Str, x ≠ "__name__" → mb x = bootBuiltins x) (h4 : s.heap.NoLimit) (h5 : s.gens = #[])
    (hr : Room k callerA) (G : ∀ base : Heap, K.In base → base.Ns mainGlobals mg → FnG P w K mg base k fa fd [x] sp) (hb : ∀ (s : Shared) (u : Value), BindsTo s fd ⟨[u], []⟩ [(x, u)]) (hsp : sp [.ref a] H (fun v _ => v = .bl true) fun _ _ _ => False) :
    codeAny (model P w) callerA (.call (.ref fa) ⟨[.ref a], []⟩) (Done s) s := by
  obtain ⟨q1, q2, q3⟩ := env_of X ha KX h1 h2 h3 h4 h5
  refine codeAny_mono ((G _ q1 q2).run callerA [] s H ⟨[.ref a], []⟩ [.ref a] [.ref a] _ _ rfl hr q3 (hb s (.ref a)) (.cons rfl .nil) hsp) fun r s' q => ?_
  match r, q with
  | .error e, ⟨_, _, _, _, _, _, _, _, _, _, _, _, no⟩ => exact no.elim
  | .ok .next, q => exact q.elim
  | .ok .brk, q => exact q.elim
  | .ok .cont, q => exact q.elim
  | .ok (.ret u), ⟨v, H2, os, bare, un, ok2, rv, z⟩ =>
    have z : v = .bl true := z
    subst z
    obtain rfl : u = Value.bool true := rv
    refine ⟨rfl, OldK.of_keep fun b o e => ?_, os, bare⟩
    rcases X.only b with n | ⟨ob, xs, n⟩
    · exact un.keep b o e n (fun z => nomatch z) (fun z => nomatch z)
    · have n2 := un.frzs b ob _ n
      have g1 := (X.hok b _ n).1
      have g2 := (ok2 b _ n2).1
      rw [e] at g1; cases g1
      exact g2
theorem hs_of (ha : s.heap.get? a = some { cls := .type "list", data := .seq vs.toArray }) (KX : K.In s.heap) (hi : IntsAre vs ns) (hl : ns.length ≤ sizeLine) : ∃ H, Hs P w K H s a ∧ SqL K H a (ns.map V.int) := by
  have rv := vals_ints hi
  cases e : K.lookup a with
  | some o =>
    have e2 := KX a o e
    rw [ha] at e2; cases e2
    exact ⟨fun _ => none, ⟨fun _ => .inl rfl, fun b u z => (nomatch z), fun b u z => (nomatch z)⟩, .inr ⟨_, vs.toArray, _, e, rfl, rfl, rfl, by rw [List.size_toArray, hi.length]; exact hl, by simpa using rv⟩⟩
  | none =>
    have one : ∀ b, (upd (fun _ => none) a (.frz { cls := .type "list", data := .seq vs.toArray } (.lst (ns.map V.int))) : Hp) b ≠ none → b = a := fun b z => by
      by_cases q : b = a
      · exact q
      · rw [upd_ne q] at z; exact absurd rfl z
    refine ⟨upd (fun _ => none) a (.frz { cls := .type "list", data := .seq vs.toArray } (.lst (ns.map V.int))), ⟨fun b => ?_, fun b u z => ?_, fun b u z => ⟨one b (by rw [z]; simp), e⟩⟩, .inl (.inr ⟨_, upd_same⟩)⟩
    · by_cases q : b = a
      · subst q; exact .inr ⟨_, _, upd_same⟩
      · exact .inl (upd_ne q)
    · obtain rfl := one b (by rw [z]; simp)
      rw [upd_same] at z; cases z
      exact ⟨ha, by rw [List.length_map]; exact hl, vs, _, rv, ha⟩
end
/-- the end over a head by facts, for promises of FnG -/
theorem walk_G {l : PySem.W.OpenLaw} {n k : Nat} {q : Program} {loose : List Str} {XP : (Str → Option Value) → Heap → Prop} {YP : World → Heap → Prop} {d : DefRec} {x : Str}
    (hn : l.most = some n) (hn2 : n ≤ sizeLine) (hdf : d.params.defaults = []) (hr : Room k callerA)
    (G : ∀ (w : World) (mg : Str → Option Value) (fa : Addr) (h : Heap), YP w h → h.Ns mainGlobals mg → mg d.name = some (.ref fa) → ∃ (K : PySem.W.Frag) (fd : FuncData) (T : Pg) (φ : List Av → Rc), T.K = K ∧ K.In h ∧ (∀ (s : Shared) (u : Value), BindsTo s fd ⟨[u], []⟩ [(x, u)]) ∧
      (∀ ns : List Int, ns.length ≤ n → (∀ z ∈ ns, Builtin.Int.intBits z ≤ 1048576) → ∃ outs, φ [.v (scrD ns)] = .ok (.fz (.bool true)) outs) ∧ ∀ base : Heap, K.In base → base.Ns mainGlobals mg → FnG l.prog w K mg base k fa fd [x] (spZ T 1 φ)) :
    PySem.W.WalkO q loose XP YP l.row.toRowW d [] (fun f vs => PySem.call f vs) := by
  refine Att.attach_callB hn hdf fun w s0 s1 mg mb fa o pm cd doc a vs ns Gr Y ho hd hcd hmg hobj hints hlen hbits hg => ?_
  obtain ⟨K, fd, T, φ, hT, KX, hb, hφ, hF⟩ := G w mg fa _ Y Gr.T.g hmg
  subst hT
  obtain ⟨H, hs, hS⟩ := hs_of (P := l.prog) (w := w) hobj KX hints (Nat.le_trans hlen hn2)
  obtain ⟨outs, ho⟩ := hφ ns hlen hbits
  exact law_run hs hobj KX Gr.T.g Gr.T.b Gr.T.builtins Gr.T.nolimit hg hr hF hb (sp_end ho hS)
end Z

/-! ZS: short words for derivations. -/
namespace Z
open PySem PySem.Spec L2 PyProof.Rows
abbrev FnP (K : PySem.W.Frag) (x : Str) (st : Stmt) (f : Addr) (fd : FuncData) : Prop := FunD K x x (defArgs st) (defBody st) (defScope st) [] [] f fd
section
variable {P : Program} {w : World} {K : PySem.W.Frag} {mg : Str → Option Value} {base : Heap} {N : List Str} {x : Str} {sc : Scope} {f : Addr} {cd : Value} {A : Around} {outer : List Env} {s : Shared} {H : Hp} {E : XK}
theorem takesD : Takes (cxOf (L2.CX P w) P w K mg base N x sc f cd A outer s H E) (fun c d _ H => E c d H) := takes_of rfl rfl rfl rfl
theorem passD : PassesOwn (model P w) (cxOf (L2.CX P w) P w K mg base N x sc f cd A outer s H E).A (cxOf (L2.CX P w) P w K mg base N x sc f cd A outer s H E).env (cxOf (L2.CX P w) P w K mg base N x sc f cd A outer s H E).xe := passes_of (X := cxOf (L2.CX P w) P w K mg base N x sc f cd A outer s H E) rfl
end
theorem hu70 {A : Around} {k : Nat} (hr : Room k A) : A.units + 70 < cLine := by have := hr.un; omega
theorem hu65 {A : Around} {k : Nat} (hr : Room k A) : A.units + 65 < cLine := by have := hr.un; omega
theorem hu64 {A : Around} {k : Nat} (hr : Room k A) : A.units + 64 < cLine := by have := hr.un; omega
/-! ### comparisons as tests -/
def bOf (f : En → Rz Va) : En → Rz Bool := fun ρ => (f ρ).bind fun va ρ1 => match boolV va.d with
  | some b => .ok b ρ1
  | none => .no
section
variable {T : Pg} {W : WX} {X : Cx} {a b c e : Expr} {es : List Expr} {fa fb fc : En → Rz Od} {pos p : Pos} {f : En → Rz Va} {fl : En → Rz (List Od)}
theorem tO_test {ρ : En} {F : Hp} {σ : L2.St} {H : Hp} {Q : Bool → Hp → Prop} (r : Rep T.K ρ F σ H) (g : GX T W ρ F σ H (· = σ) (fun k _ _ _ H' => Q k H') (bOf f ρ)) : tO T W f σ H fun x H' => ∃ k, x = .bl k ∧ Q k H' :=
  tO_fix r g rfl fun va ρ1 F1 H1 v n1 z g1 => by
    split at g1
    · rename_i k e1
      exact ⟨k, (boolV_eq z e1).1, g1 F1 σ H1 rfl n1⟩
    · exact g1.elim
theorem db_cmp {op : CmpOp} {r : R2} {q : D → D → Option Va} (ho : OpR X (compareOp op) r) (im : Im2 T.K r q) (ha : DX T W X a fa) (hb : DX T W X b fb) (hm : behindInMarks op b = false) : DB T W X (.Compare a [op] [b] pos) (bOf (f2 q fa fb)) :=
  ⟨pt_imp (pt_cmpR ho ha.run hb.run hm) fun σ H Q ⟨ρ, F, r, g⟩ => t_op im (tO_test r g)⟩
theorem db_chn {op op' : CmpOp} {r r' : R2} {q q' : D → D → Option Va} (ho : OpR X (compareOp op) r) (ho' : OpR X (compareOp op') r') (im : Im2 T.K r q) (im' : Im2 T.K r' q') (ha : DX T W X a fa) (hb : DX T W X b fb) (hc : DX T W X c fc) (hm : lastMarks [op, op'] [b, c] = false) :
    DB T W X (.Compare a [op, op'] [b, c] pos) (bOf (oChn q q' fa fb fc)) := ⟨pt_imp (pt_chain ho ho' ha.run hb.run hc.run hm) fun σ H Q ⟨ρ, F, r, g⟩ => t_chn im im' (tO_test r g)⟩
/-! ### ==, != of texts too -/
def pEqZ : D → D → Option Va
  | .str x, .str y => some (.fz (.bool (decide (x = y))))
  | a, b => pEq a b
def pNeZ : D → D → Option Va
  | .str x, .str y => some (.fz (.bool (!decide (x = y))))
  | a, b => pNe a b
theorem or_eqZ (hu : X.A.units + 64 < cLine) : OpR X (compareOp .Eq) (fun x y H Q => rEqD X.K x y H Q ∨ rEq x y H Q) := opr_or (op_eqD hu) op_eq
theorem or_neZ (hu : X.A.units + 64 < cLine) : OpR X (compareOp .NotEq) (fun x y H Q => rNeD X.K x y H Q ∨ rNe x y H Q) := opr_or (op_neD hu) op_ne
theorem im_eqZ {K : PySem.W.Frag} : Im2 K (fun x y H Q => rEqD K x y H Q ∨ rEq x y H Q) pEqZ := ⟨fun F H x y d1 d2 va Q s h1 h2 hp k => by
  unfold pEqZ at hp
  split at hp
  · cases hp
    rename_i a b
    rw [h1.str, h2.str]
    refine .inr ⟨rfl, ?_⟩
    have e : decide (V.str a = V.str b) = decide (a = b) := by simp
    rw [e]
    exact k_v s (.bl _) k
  · exact .inl (im_eq.run F H x y d1 d2 va Q s h1 h2 hp k)⟩
theorem im_neZ {K : PySem.W.Frag} : Im2 K (fun x y H Q => rNeD K x y H Q ∨ rNe x y H Q) pNeZ := ⟨fun F H x y d1 d2 va Q s h1 h2 hp k => by
  unfold pNeZ at hp
  split at hp
  · cases hp
    rename_i a b
    rw [h1.str, h2.str]
    refine .inr ⟨rfl, ?_⟩
    have e : decide (V.str a = V.str b) = decide (a = b) := by simp
    rw [e]
    exact k_v s (.bl _) k
  · exact .inl (im_ne.run F H x y d1 d2 va Q s h1 h2 hp k)⟩
/-! ### built-in functions, built-in types -/
variable {x : Str} {id : String} {r : List V → Hp → VK → Prop} {q : List D → Option Va}
theorem do_cb (hc : CallR X (.builtin id) r) (im : ImL T.K r q) (hg : Gl X x) (hm : X.mg x = none) (hv : bootBuiltins x = some (.builtin id)) (ha : DA T W X (e :: es) fl) (hn : x ≠ "__name__") (hdb : (x == ("__debug__" : Str)) = false)
    (he : starEach (e :: es) X.env = (false, eval e X.env) :: starEach es X.env) (hpl : (backTo pos (starEach es X.env)).any (·.1) = false) : DO T W X (.Call (.Name x p) (e :: es) [] pos) (fL q fl) := ⟨pe_imp (pe_callB hc hg hm hv ha.run hn hdb he hpl) fun _ _ _ h => t_cb im h⟩
theorem do_ct (hc : CallR X (.type id) r) (im : ImL T.K r q) (hg : Gl X x) (hm : X.mg x = none) (hv : bootBuiltins x = some (.type id)) (ha : DA T W X (e :: es) fl) (hn : x ≠ "__name__") (hdb : (x == ("__debug__" : Str)) = false)
    (he : starEach (e :: es) X.env = (false, eval e X.env) :: starEach es X.env) (hpl : (backTo pos (starEach es X.env)).any (·.1) = false) : DO T W X (.Call (.Name x p) (e :: es) [] pos) (fL q fl) := ⟨pe_imp (pe_callTy hc hg hm hv ha.run hn hdb he hpl) fun _ _ _ h => t_cb im h⟩
/-! ### the tests of a comprehension -/
def bYes : En → Rz Bool := fun ρ => .ok true ρ
theorem pts_imp {ifs : List Expr} {t t' : TT} (h : PTs X ifs t) (i : ∀ σ H Q, t' σ H Q → t σ H Q) : PTs X ifs t' := ⟨fun pins s σ H Q I w => h.run pins s σ H Q I (i _ _ _ w)⟩
theorem dts_nil : PTs X [] (tB T W bYes) := pts_imp pts_nil fun σ H Q ⟨ρ, F, r, g⟩ => g F σ H rfl (.refl r)
theorem dts_one {k : En → Rz Bool} (h : DB T W X c k) : PTs X [c] (tB T W k) := pts_one h.run
end
/-- how a call by keyword alone binds -/
theorem bindsK {K : PySem.W.Frag} {x qual : Str} {params : Arguments} {body : List Stmt} {scope : Scope} {kws : List (Str × V)} {f : Addr} {fd : FuncData} {ps ns : List Str} {ix : List Nat} (F : FunD K x qual params body scope [] kws f fd)
    (h : ∀ (kV doc pm : Value) (an : Option Addr) (cdv ct : Value) (ws : List Value), ws.length = ns.length → bindArgs (PySem.W.fnOf x qual params body scope .none kV doc pm an cdv ct) ⟨[], ns.zip ws⟩ = pure (ps.zip (pick ix ws))) : ∀ ws : List Value, (pick ix ws).length = ps.length → ws.length = ns.length → bindArgs fd ⟨[], ns.zip ws⟩ = pure (ps.zip (pick ix ws)) := by
  obtain ⟨oc, od, dV, kV, doc, pm, an, cdv, ct, osl, rfl, lk, hcd, hD, hK⟩ := F.ex
  rcases hD with ⟨_, rfl⟩ | ⟨e, _⟩
  · exact fun ws _ hl => h kV doc pm an cdv ct ws hl
  · exact absurd rfl e
end Z

/-! ZT: symbolic runs. -/
namespace Z
open PySem PySem.Spec L2
def endF (as : List Av) : Rz Fl → Rc
  | .ok .nx ρ' => .ok (.fz .none) (outsOf as ρ')
  | .ok (.rt va) ρ' => .ok va (outsOf as ρ')
  | .ex c d ρ' => .ex c d (outsOf as ρ')
  | _ => .no
theorem runF_eq (m : Nat) (g : En → Rz Fl) (as : List Av) : runF m g as = endF as (g (entry m as)) := by
  unfold runF endF
  rfl
theorem endF_nx {as : List Av} {ρ : En} : endF as (.ok .nx ρ) = .ok (.fz .none) (outsOf as ρ) := rfl
theorem endF_rt {as : List Av} {va : Va} {ρ : En} : endF as (.ok (.rt va) ρ) = .ok va (outsOf as ρ) := rfl
theorem boolV_bool {b : Bool} : boolV (.bool b) = some b := rfl
theorem oAnd_ok {f g : En → Rz Va} {ρ ρ1 : En} {b : Bool} (h : f ρ = .ok (.fz (.bool b)) ρ1) : oAnd f g ρ = if b = true then g ρ1 else .ok (.fz (.bool false)) ρ1 := by
  unfold oAnd; rw [h]; cases b <;> rfl
theorem oOr_ok {f g : En → Rz Va} {ρ ρ1 : En} {b : Bool} (h : f ρ = .ok (.fz (.bool b)) ρ1) : oOr f g ρ = if b = true then .ok (.fz (.bool true)) ρ1 else g ρ1 := by
  unfold oOr; rw [h]; cases b <;> rfl
theorem oNot_ok {f : En → Rz Va} {ρ ρ1 : En} {b : Bool} (h : f ρ = .ok (.fz (.bool b)) ρ1) : oNot f ρ = .ok (.fz (.bool (!b))) ρ1 := by
  unfold oNot; rw [h]; rfl
end Z

/-! ZU: texts (str, join, f-strings), extend, a, b = e1, e2. -/
namespace Z
open PySem PySem.Spec L2 PyProof.Rows
/-! ### str(n) -/
def pStr : List D → Option Va
  | [.int i] => if i.natAbs.log2 < 1920 then some (.fz (.str (toString i))) else none
  | _ => none
theorem im_str {K : PySem.W.Frag} : ImL K (fun xs H Q => ∃ i : Int, xs = [.int i] ∧ i.natAbs.log2 < 1920 ∧ Q (.str (toString i)) H) pStr := ⟨fun F H vs ds va Q s h hp k => by
  unfold pStr at hp
  split at hp
  · split at hp
    · rename_i i hl
      obtain ⟨v, rfl, q⟩ := dq1 (v := .non) (ds := []) h
      cases hp
      exact ⟨i, by rw [q.int], hl, k_v s (.str _) k⟩
    · cases hp
  · cases hp⟩
/-! ### sep.join(xs) -/
def strsO : List D → Option (List Str)
  | [] => some []
  | .str y :: ds => (strsO ds).map (y :: ·)
  | _ :: _ => none
theorem strsO_map (ys : List Str) : strsO (ys.map PyData.str) = some ys := by
  induction ys with
  | nil => rfl
  | cons y ys ih => rw [List.map_cons]; simp [strsO, ih]
theorem DzAll.strs {K : PySem.W.Frag} {F : Hp} : ∀ {ds : List D} {ys : List Str} {vs : List V}, DzAll K F vs ds → strsO ds = some ys → vs = ys.map V.str
  | [], _, _, h, e => by cases h; cases e; rfl
  | d :: ds, ys, _, h, e => by
    cases h with
    | cons a b =>
      cases d with
      | str y =>
        obtain ⟨zs, e1, rfl⟩ := Option.map_eq_some_iff.mp e
        cases a
        rw [DzAll.strs b e1]; rfl
      | _ => cases e
def joinO (a : Str) (ds : List D) : Option Va := match strsO ds with
  | some ys => if (ys.map (·.length)).sum + ys.length * a.length ≤ 16777216 then some (.fz (.str (Txt.join a ys))) else none
  | none => none
def pJoin : D → D → Option Va
  | .str a, .list ds => joinO a ds
  | .str a, .tuple ds => joinO a ds
  | _, _ => none
def isStr : Option D → Bool
  | some (.str _) => true
  | _ => false
theorem isStr_ex {o : Option D} (h : isStr o = true) : ∃ a, o = some (.str a) := by
  unfold isStr at h
  split at h
  · exact ⟨_, rfl⟩
  · cases h
def oJoin (fa fb : En → Rz Od) : En → Rz Va := fun ρ => (fa ρ).bind fun o1 ρ1 => if isStr (o1.get ρ1) = true then (fb ρ1).bind fun o2 ρ2 => ap2 pJoin o1 o2 ρ2 else .no
section
variable {T : Pg} {W : WX} {X : Cx} {o e : Expr} {es : List Expr} {fa fb : En → Rz Od} {f : En → Rz Va} {fs : List (En → Rz Va)} {apos pos : Pos}
theorem do_join (hK : T.K = X.K) (ho : DX T W X o fa) (he : DX T W X e fb) (hs : starEach [e] X.env = [(false, eval e X.env)]) (hbase : attributeBase o "join" X.env (eval o X.env) = eval o X.env) (hline : (apos.endLine == pos.line) = true) : DO T W X (.Call (.Attribute o "join" apos) [e] [] pos) (oJoin fa fb) :=
  ⟨pe_imp (pe_join ho.run he.run hs hbase hline) fun σ H Q ⟨ρ, F, rep, g⟩ => by
    refine tX_fix rep g rfl fun o1 ρ1 F1 H1 v1 n1 z1 g1 => ?_
    split at g1
    · rename_i c
      obtain ⟨a, ea⟩ := isStr_ex c
      have ev : v1 = .str a := (z1.dq n1.rep ea).str
      refine ⟨⟨a, ev⟩, ?_⟩
      refine tX_fix n1.rep (g1.go n1) rfl fun o2 ρ2 F2 H2 v2 n2 z2 g2 => ?_
      unfold ap2 at g2
      split at g2
      · rename_i x y e1 e2
        have q1 := ((z1.mono n2.ext).dq n2.rep e1)
        have q2 := z2.dq n2.rep e2
        obtain ⟨va, hp, g3⟩ := g2.of
        unfold pJoin at hp
        have key : ∀ (b : Str) (ds : List D) (p : Addr) (xs : List V), v1 = .str b → v2 = .ref p → joinO b ds = some va → DzAll T.K F2 xs ds → (SqL X.K H2 p xs ∨ SqT X.K H2 p xs) →
            ∃ a p, ∃ ys : List Str, v1 = .str a ∧ [v2] = [.ref p] ∧ (SqL X.K H2 p (ys.map V.str) ∨ SqT X.K H2 p (ys.map V.str)) ∧ (ys.map (·.length)).sum + ys.length * a.length ≤ 16777216 ∧ Q (.str (Txt.join a ys)) H2 := by
          intro b ds p xs h1 h2 h3 h4 h5
          unfold joinO at h3
          split at h3
          · rename_i ys hy
            split at h3
            · rename_i hl
              cases h3
              have ex := h4.strs hy
              subst ex
              exact ⟨b, p, ys, h1, by rw [h2], h5, hl, k_v n2.rep.sub (.str _) (fin_of n1 n2 g3)⟩
            · cases h3
          · cases h3
        split at hp
        · obtain ⟨p, xs, e3, h3, z3⟩ := q2.list n2.rep.sub
          exact key _ _ p xs q1.str e3 hp z3 (.inl (.inl (.inl h3)))
        · obtain ⟨p, xs, e3, f3, h3, z3⟩ := q2.tup n2.rep.sub
          exact key _ _ p xs q1.str e3 hp z3 (.inr (hK ▸ h3))
        · cases hp
      · exact g2.elim
    · exact g1.elim⟩
/-! ### f-strings -/
def fmtO : D → Option Va
  | .str y => if y.length ≤ sizeLine then some (.fz (.str y)) else none
  | .int i => if i.natAbs.log2 < 1920 then some (.fz (.str (toString i))) else none
  | _ => none
def oFmt (f : En → Rz Va) : En → Rz Va := fun ρ => (f ρ).bind fun va ρ1 => .of ρ1 (fmtO va.d)
theorem do_fmt (h : DO T W X e f) : DO T W X (.FormattedValue e (-1) none pos) (oFmt f) := ⟨pe_imp (pe_fmt h.run) fun σ H Q ⟨ρ, F, rep, g⟩ =>
  tO_fix rep g rfl fun va ρ1 F1 H1 v n1 z g1 => by
    obtain ⟨vb, hp, g2⟩ := g1.of
    unfold fmtO at hp
    split at hp
    · rename_i y e1
      rw [e1] at z
      split at hp
      · rename_i hl
        cases hp; cases z
        exact .inl ⟨y, rfl, hl, g2 F1 σ H1 rfl n1 _ (Dz.str _)⟩
      · cases hp
    · rename_i y e1
      rw [e1] at z
      split at hp
      · rename_i hl
        cases hp; cases z
        exact .inr ⟨y, rfl, hl, g2 F1 σ H1 rfl n1 _ (Dz.str _)⟩
      · cases hp
    · cases hp⟩
def oJs : List (En → Rz Va) → Str → En → Rz Va
  | [], acc, ρ => .ok (.fz (.str acc)) ρ
  | f :: fs, acc, ρ => (f ρ).bind fun va ρ1 => match va.d with
    | .str y => if (acc ++ y).length ≤ sizeLine then oJs fs (acc ++ y) ρ1 else .no
    | _ => .no
inductive DJ (T : Pg) (W : WX) (X : Cx) : List Expr → List (En → Rz Va) → Prop
  | nil : DJ T W X [] []
  | cons {e : Expr} {es : List Expr} {f : En → Rz Va} {fs : List (En → Rz Va)} : DO T W X e f → DJ T W X es fs → DJ T W X (e :: es) (f :: fs)
theorem DJ.pj : ∀ {es : List Expr} {fs : List (En → Rz Va)}, DJ T W X es fs → PJ X es (fs.map (tO T W))
  | _, _, .nil => .nil
  | _, _, .cons a b => .cons a.run (DJ.pj b)
theorem js_run : ∀ (fs : List (En → Rz Va)) (acc : Str) (σ : St) (H : Hp) (Q : VK), tO T W (oJs fs acc) σ H Q → tJs (fs.map (tO T W)) acc σ H (fun out H1 => Q (.str out) H1)
  | [], acc, σ, H, Q, ⟨ρ, F, rep, g⟩ => g F σ H rfl (.refl rep) (.str acc) (Dz.str _)
  | f :: fs, acc, σ, H, Q, ⟨ρ, F, rep, g⟩ => by
    refine tO_fix (f := f) rep g rfl fun va ρ1 F1 H1 v n1 z g1 => ?_
    split at g1
    · rename_i y e1
      rw [e1] at z
      split at g1
      · rename_i hl
        cases z
        exact ⟨y, rfl, hl, js_run fs (acc ++ y) σ H1 Q (tO_go n1 g1)⟩
      · exact g1.elim
    · exact g1.elim
theorem do_js {v1 v2 : Expr} {rest : List Expr} (h : DJ T W X (v1 :: v2 :: rest) fs) : DO T W X (.JoinedStr (v1 :: v2 :: rest) pos) (oJs fs Str.empty) := ⟨pe_imp (pe_joined h.pj) fun σ H Q q => js_run fs Str.empty σ H Q q⟩
/-! ### xs.extend(ys) -/
def extAt (i : Nat) (d : D) (ρ : En) : Rz Fl := match ρ[i]?, d with
  | some (.ow p ds), .list es => if ds.length + es.length ≤ sizeLine then .ok .nx (ρ.set i (.ow p (ds ++ es))) else .no
  | _, _ => .no
def sExt (i : Nat) (fv : En → Rz Va) : En → Rz Fl := fun ρ => if isOw ρ[i]? = true then (fv ρ).bind fun va ρ1 => extAt i va.d ρ1 else .no
theorem ds_ext {i : Nat} {o v : Expr} {fv : En → Rz Va} {ap cp : Pos} (ho : PE X o (tVar i)) (hv : DO T W X v fv) (hb : attributeBase o "extend" X.env (eval o X.env) = eval o X.env) (hl : (((backTo cp (starEach [v] X.env)).all fun x => !x.1) && (backToKw cp (keywordEach [] X.env)).all fun x => x.1.isSome) && decide (([v].length + ([] : List Keyword).length + if ([] : List Keyword).isEmpty = true then 0 else 1) < 30) = true)
    (hline : (ap.endLine == cp.line) = true) (hs : starEach [v] X.env = (false, eval v X.env) :: starEach [] X.env) (h0 : swapsWith (.Call (.Attribute o "extend" ap) [v] [] cp) none pos.line X.env = pure false) : DS T W X (.Expr (.Call (.Attribute o "extend" ap) [v] [] cp) pos) (sExt i fv) := by
  have call := pe_bm (X := X) PySem.F.plainAttrs_list PySem.F.slot_list_extend PySem.F.type_list_extend mt_extend ho (pa_cons hv.dx.run pa_nil hs) hb hl hline hs (by rfl)
  refine ⟨ps_imp (ps_expr call h0) fun D σ H ⟨ρ, F, rep, g⟩ => ?_⟩
  unfold sExt at g
  split at g
  · rename_i hi
    obtain ⟨q, es, hq⟩ := isOw_ex hi
    obtain ⟨b, xs, e1, e2, e3, e4⟩ := rep.ow i q es hq
    refine ⟨.ref b, e1, .inl ⟨rfl, xs, .inl (.inl e2)⟩, ?_⟩
    have g' : GX T W ρ F σ H Any (PF T D ρ σ H) ((xO fv ρ).bind fun o ρ1 => match o with
      | .da d => extAt i d ρ1
      | .sl _ => .no) := by
      unfold xO
      cases e : fv ρ with
      | no => rw [e] at g; exact g
      | ex c d ρ1 => rw [e] at g; exact g
      | ok va ρ1 => rw [e] at g; exact g
    refine tX_fix rep g' trivial fun o2 ρ1 F1 H1 w n1 z1 g1 => ?_
    cases o2 with
    | sl k => exact g1.elim
    | da d =>
      have g1 : GX T W ρ F σ H Any (PF T D ρ σ H) (extAt i d ρ1) := g1
      unfold extAt at g1
      split at g1
      · rename_i p ds es' h1 gx
        split at g1
        · rename_i hlen
          obtain ⟨b', xs', e1', e2', e3', e4'⟩ := n1.rep.ow i p ds h1
          rw [e1] at e1'; cases e1'
          have z1 : Dz T.K F1 w (.list es') := z1
          cases z1 with
          | lst k1 k2 =>
            refine ⟨b, _, xs', _, rfl, rfl, e2', n1.rep.sub _ _ k1, by rw [e3'.len, k2.len]; exact hlen, ?_⟩
            exact g1 F1 σ _ trivial (Nx.chg n1 h1 e1 (e3'.append k2))
        · exact g1.elim
      · exact g1.elim
  · exact g.elim
end
/-! ### a, b = e1, e2 -/
section
variable {K : PySem.W.Frag} {ρ ρ1 ρ2 ρ3 : En} {F F1 F2 : Hp} {σ σ1 σ2 : St} {H H1 H2 : Hp} {v w : V} {va vb : Va} {i : Nat}
theorem VaR.on (n2 : Nx K ρ1 F1 σ1 H1 ρ2 F2 σ2 H2) (h : VaR K ρ σ H ρ1 F1 σ1 H1 v va) : VaR K ρ σ H ρ2 F2 σ2 H2 v va := by
  cases va with
  | fz d => exact Dz.mono n2.ext h
  | fo ds =>
    obtain ⟨a, xs, e1, e2, e3, e4, e5, e6⟩ := h
    refine ⟨a, xs, e1, n2.keep _ _ e2 e5, e3.mono n2.ext, ?_, fun z => ?_, e6⟩
    · cases q : F2 a with
      | none => rfl
      | some o =>
        rcases n2.new a o q with z | z | z
        · rw [e4] at z; cases z
        · rw [e2] at z; cases z
        · exact (e5 z.ow).elim
    · rcases n2.own a z with z | z
      · exact e5 z
      · rw [e2] at z; cases z
def Dis (v : V) (va : Va) (w : V) (vb : Va) : Prop := ∀ (a : Addr) (ds es : List D), va = .fo ds → vb = .fo es → v = .ref a → w = .ref a → False
theorem dis_of (h : VaR K ρ σ H ρ1 F1 σ1 H1 v va) (h' : VaR K ρ1 σ1 H1 ρ2 F2 σ2 H2 w vb) : Dis v va w vb := by
  intro a ds es e1 e2 e3 e4
  subst e1; subst e2
  obtain ⟨b, xs, q1, q2, _, _, q5, _⟩ := h
  obtain ⟨c, ys, r1, _, _, _, _, r6⟩ := h'
  rw [e3] at q1; cases q1
  rw [e4] at r1; cases r1
  rcases r6 with z | z
  · rw [q2] at z; cases z
  · exact q5 z.ow
theorem VaR.past (q : setV ρ1 i va = some ρ2) (h : VaR K ρ σ H ρ1 F1 σ1 H1 v va) (h' : VaR K ρ σ H ρ1 F1 σ1 H1 w vb) (d : Dis v va w vb) (hi : i < σ1.length) : VaR K ρ σ H ρ2 F1 (σ1.set i (some v)) H1 w vb := by
  cases vb with
  | fz d => exact h'
  | fo es =>
    obtain ⟨a, xs, e1, e2, e3, e4, e5, e6⟩ := h'
    refine ⟨a, xs, e1, e2, e3, e4, fun z => ?_, e6⟩
    obtain ⟨hj, _, rfl⟩ := setV_some q
    obtain ⟨j, p, ds, g1, g2⟩ := z
    rcases get_set_un g1 with ⟨rfl, z⟩ | ⟨hne, z⟩
    · rw [List.getElem?_set_self hi] at g2
      cases va with
      | fz d' => cases z
      | fo fs => exact d a fs es rfl rfl (by cases g2; rfl) e1
    · rw [List.getElem?_set_ne (Ne.symm hne)] at g2
      exact e5 ⟨j, p, ds, z, g2⟩
end
def sPar (i j : Nat) (fa fb : En → Rz Va) : En → Rz Fl := fun ρ => (fa ρ).bind fun va ρ1 => (fb ρ1).bind fun vb ρ2 => (Rz.of ρ2 (setV ρ2 i va)).bind fun ρ3 _ => (Rz.of ρ3 (setV ρ3 j vb)).bind fun ρ4 _ => .ok .nx ρ4
def sPar3 (i j l : Nat) (fa fb fc : En → Rz Va) : En → Rz Fl := fun ρ => (fa ρ).bind fun va ρ1 => (fb ρ1).bind fun vb ρ2 => (fc ρ2).bind fun vc ρ3 => (Rz.of ρ3 (setV ρ3 i va)).bind fun ρ4 _ => (Rz.of ρ4 (setV ρ4 j vb)).bind fun ρ5 _ => (Rz.of ρ5 (setV ρ5 l vc)).bind fun ρ6 _ => .ok .nx ρ6
section
variable {T : Pg} {W : WX} {X : Cx} {a b c : Expr} {fa fb fc : En → Rz Va}
/-- a further value, the wish still speaking of the first state -/
theorem tO_raw2 {ρ ρ1 : En} {F F1 : Hp} {σ : St} {H H1 : Hp} {fe : En → Rz Va} {β : Type} {k : Va → En → Rz β} {P : β → En → Hp → St → Hp → Prop} {S : St → Prop} {Q : VK} (n1 : Nx T.K ρ F σ H ρ1 F1 σ H1) (h : GX T W ρ F σ H S P ((fe ρ1).bind k)) (hS : S σ)
    (q : ∀ va ρ' F' H' v, Nx T.K ρ1 F1 σ H1 ρ' F' σ H' → VaR T.K ρ1 σ H1 ρ' F' σ H' v va → GX T W ρ F σ H S P (k va ρ') → Q v H') : tO T W fe σ H1 Q :=
  ⟨ρ1, F1, n1.rep, ((h.bind0 (S1 := (· = σ)) fun _ z => by subst z; exact hS).go n1).mono (fun _ z => z) fun va ρ' F' σ' H' es n g v hv => by
    subst es
    exact q va ρ' F' H' v n hv g⟩
theorem ds_par {i j : Nat} {x y : Str} {px py pt pos : Pos} {kt k2 pt2} (hc : X.calm = true) (hN : X.N.Nodup) (hi : X.N[i]? = some x) (hj : X.N[j]? = some y) (hij : i ≠ j)
    (hx : X.env.scope.names.lookup x = some .local) (hy : X.env.scope.names.lookup y = some .local) (ha : DO T W X a fa) (hb : DO T W X b fb) (s1 : starEach [a, b] X.env = (false, eval a X.env) :: starEach [b] X.env) (s2 : starEach [b] X.env = (false, eval b X.env) :: starEach [] X.env)
    (hw : swappedStores [.Tuple [.Name x px, .Name y py] kt pt] (.Tuple [a, b] k2 pt2) X.env = pure (some [x, y]))
    (hs : swapsWithSole [.Tuple [.Name x px, .Name y py] kt pt] (.Tuple [a, b] k2 pt2) pos.line X.env = pure false) :
    DS T W X (.Assign [.Tuple [.Name x px, .Name y py] kt pt] (.Tuple [a, b] k2 pt2) pos) (sPar i j fa fb) :=
  ⟨ps_imp (ps_par hc hN hi hj hij hx hy (pa_cons ha.run (pa_cons hb.run pa_nil s2) s1) hw hs) fun D σ H ⟨ρ, F, rep, g⟩ =>
    tO_raw rep g trivial fun va ρ1 F1 H1 v n1 hv g1 => tO_raw2 n1 g1 trivial fun vb ρ2 F2 H2 w n2 hw2 g2 => by
      refine ⟨v, w, rfl, ?_⟩
      cases q : setV ρ2 i va with
      | none => rw [q] at g2; exact g2.elim
      | some ρ3 =>
        cases q' : setV ρ3 j vb with
        | none => simp only [q, Rz.of_some, Rz.bind_ok, q'] at g2; exact g2.elim
        | some ρ4 =>
          simp only [q, Rz.of_some, Rz.bind_ok, q'] at g2
          have hσ : i < σ.length := by rw [← n2.rep.len]; exact (setV_some q).1
          have v2 := VaR.on n2 hv
          have w2 := VaR.back n1 hw2
          exact g2 F2 _ H2 trivial (((n1.trans n2).setV q v2).setV q' (VaR.past q v2 w2 (dis_of hv hw2) hσ))⟩
theorem ds_par3 {i j l : Nat} {x y z : Str} {px py pz pt pos : Pos} {kt k2 pt2} (hc : X.calm = true) (hN : X.N.Nodup) (hi : X.N[i]? = some x) (hj : X.N[j]? = some y) (hl : X.N[l]? = some z) (hij : i ≠ j) (hil : i ≠ l) (hjl : j ≠ l)
    (hx : X.env.scope.names.lookup x = some .local) (hy : X.env.scope.names.lookup y = some .local) (hz : X.env.scope.names.lookup z = some .local) (ha : DO T W X a fa) (hb : DO T W X b fb) (hc' : DO T W X c fc)
    (s1 : starEach [a, b, c] X.env = (false, eval a X.env) :: starEach [b, c] X.env) (s2 : starEach [b, c] X.env = (false, eval b X.env) :: starEach [c] X.env) (s3 : starEach [c] X.env = (false, eval c X.env) :: starEach [] X.env)
    (hw : swappedStores [.Tuple [.Name x px, .Name y py, .Name z pz] kt pt] (.Tuple [a, b, c] k2 pt2) X.env = pure (some [x, y, z]))
    (hs : swapsWithSole [.Tuple [.Name x px, .Name y py, .Name z pz] kt pt] (.Tuple [a, b, c] k2 pt2) pos.line X.env = pure false) :
    DS T W X (.Assign [.Tuple [.Name x px, .Name y py, .Name z pz] kt pt] (.Tuple [a, b, c] k2 pt2) pos) (sPar3 i j l fa fb fc) :=
  ⟨ps_imp (ps_par3 hc hN hi hj hl hij hil hjl hx hy hz (pa_cons ha.run (pa_cons hb.run (pa_cons hc'.run pa_nil s3) s2) s1) hw hs) fun D σ H ⟨ρ, F, rep, g⟩ =>
    tO_raw rep g trivial fun va ρ1 F1 H1 v n1 hv g1 => tO_raw2 n1 g1 trivial fun vb ρ2 F2 H2 w n2 hw2 g2 => tO_raw2 (n1.trans n2) g2 trivial fun vc ρ3 F3 H3 u n3 hu3 g3 => by
      refine ⟨v, w, u, rfl, ?_⟩
      cases q : setV ρ3 i va with
      | none => rw [q] at g3; exact g3.elim
      | some ρ4 =>
        cases q' : setV ρ4 j vb with
        | none => simp only [q, Rz.of_some, Rz.bind_ok, q'] at g3; exact g3.elim
        | some ρ5 =>
          cases q2 : setV ρ5 l vc with
          | none => simp only [q, Rz.of_some, Rz.bind_ok, q', q2] at g3; exact g3.elim
          | some ρ6 =>
            simp only [q, Rz.of_some, Rz.bind_ok, q', q2] at g3
            have hσ : i < σ.length := by rw [← n3.rep.len]; exact (setV_some q).1
            have hσ2 : j < (σ.set i (some v)).length := by
              have := (setV_some q').1
              rw [(setV_some q).2.2] at this
              rw [List.length_set] at this ⊢
              rw [← n3.rep.len]; exact this
            have v3 := VaR.on n3 (VaR.on n2 hv)
            have w2 := VaR.back n1 hw2
            have w3 := VaR.on n3 w2
            have u3 := VaR.back (n1.trans n2) hu3
            have m1 := ((n1.trans n2).trans n3).setV q v3
            have w4 := VaR.past q v3 w3 (dis_of hv hw2) hσ
            have u4 := VaR.past q v3 u3 (dis_of (VaR.on n2 hv) hu3) hσ
            have m2 := m1.setV q' w4
            have u5 := VaR.past q' w4 u4 (dis_of hw2 hu3) hσ2
            exact g3 F3 _ H3 trivial (m2.setV q2 u5)⟩
end
end Z

/-! ZV: runs and data, lemmas for all laws. -/
namespace Z
open PySem PySem.Spec PyProof.Rows L2
def isInt : D → Bool
  | .int _ => true
  | _ => false
def isSeq : D → Bool
  | .list _ => true
  | .tuple _ => true
  | _ => false
/-- data that is no dict -/
def pl (d : D) : Prop := tyD d ≠ none
theorem loop_cons {g : D → En → Option En} {body : En → Rz Fl} {d : D} {ds : List D} {ρ : En} : loop g body (d :: ds) ρ = (Rz.of ρ (g d ρ)).bind fun ρ1 _ => (body ρ1).bind fun fl ρ2 => match fl with
    | .nx => loop g body ds ρ2
    | .ct => loop g body ds ρ2
    | .bk => .ok .nx ρ2
    | .rt va => .ok (.rt va) ρ2 := rfl
def seqD (ds : List D) (p : D) : Prop := p = .list ds ∨ p = .tuple ds
theorem compL_map {g : D → En → Option En} {cond : En → Rz Bool} {elt : En → Rz Va} {vs : List Nat} {ρ : En} {val : D → Va} : ∀ (ds acc : List D), (∀ d ∈ ds, ∃ ρ1 ρ2 ρ3, g d (wipeE ρ vs) = some ρ1 ∧ cond ρ1 = .ok true ρ2 ∧ elt ρ2 = .ok (val d) ρ3 ∧ putBack ρ ρ3 vs = ρ) → acc.length + ds.length ≤ sizeLine → compL g cond elt vs ds ρ acc = .ok (acc ++ ds.map fun d => (val d).d) ρ
  | [], acc, _, _ => by unfold compL; simp
  | d :: ds, acc, h, hl => by
    obtain ⟨ρ1, ρ2, ρ3, h1, h2, h3, h4⟩ := h d List.mem_cons_self
    have l : acc.length < sizeLine := by simp only [List.length_cons] at hl; omega
    unfold compL
    simp only [h1, h2, h3, h4, if_pos l]
    rw [compL_map ds (acc ++ [(val d).d]) (fun e he => h e (List.mem_cons_of_mem _ he)) (by simp only [List.length_append, List.length_cons, List.length_nil] at hl ⊢; omega)]
    simp
/-- what a comprehension without a test gives, the slots as they were -/
theorem comp_map {fi : En → Rz (List D)} {g : D → En → Option En} {elt : En → Rz Va} {vs : List Nat} {ρ ρ0 : En} {ds : List D} (val : D → Va) (hi : fi ρ0 = .ok ds ρ) (h : ∀ d ∈ ds, ∃ ρ1 ρ3, g d (wipeE ρ vs) = some ρ1 ∧ elt ρ1 = .ok (val d) ρ3 ∧ putBack ρ ρ3 vs = ρ) (hl : ds.length ≤ sizeLine) : oComp fi g bYes elt vs ρ0 = .ok (.fo (ds.map fun d => (val d).d)) ρ := by
  unfold oComp
  rw [hi]
  simp only [Rz.bind_ok]
  rw [compL_map (val := val) ds [] (fun d hd => by
    obtain ⟨ρ1, ρ3, h1, h2, h3⟩ := h d hd
    exact ⟨ρ1, ρ1, ρ3, h1, rfl, h2, h3⟩) (by simpa using hl)]
  rfl
def dI (ns : List Int) : List D := ns.map PyData.int
theorem items_seq {ds : List D} {p : D} (h : seqD ds p) : itemsOf p = some ds := by
  rcases h with rfl | rfl <;> rfl
theorem compL_filter {g : D → En → Option En} {cond : En → Rz Bool} {elt : En → Rz Va} {vs : List Nat} {ρ : En} {t : D → Bool} : ∀ (ds acc : List D), (∀ d ∈ ds, ∃ ρ1 ρ2 ρ3, g d (wipeE ρ vs) = some ρ1 ∧ cond ρ1 = .ok (t d) ρ2 ∧ elt ρ2 = .ok (.fz d) ρ3 ∧ putBack ρ ρ2 vs = ρ ∧ putBack ρ ρ3 vs = ρ) → acc.length + ds.length ≤ sizeLine → compL g cond elt vs ds ρ acc = .ok (acc ++ ds.filter t) ρ
  | [], acc, _, _ => by unfold compL; simp
  | d :: ds, acc, h, hl => by
    obtain ⟨ρ1, ρ2, ρ3, h1, h2, h3, h4, h5⟩ := h d List.mem_cons_self
    have l : acc.length < sizeLine := by simp only [List.length_cons] at hl; omega
    have rest : ∀ e ∈ ds, _ := fun e he => h e (List.mem_cons_of_mem _ he)
    unfold compL
    cases c : t d with
    | true =>
      rw [c] at h2
      simp only [h1, h2, h3, h5, if_pos l, Va.d]
      rw [compL_filter ds (acc ++ [d]) rest (by simp only [List.length_append, List.length_cons, List.length_nil] at hl ⊢; omega)]
      simp [c]
    | false =>
      rw [c] at h2
      simp only [h1, h2, h4]
      rw [compL_filter ds acc rest (by simp only [List.length_cons] at hl; omega)]
      simp [c]
theorem comp_filter {fi : En → Rz (List D)} {g : D → En → Option En} {cond : En → Rz Bool} {elt : En → Rz Va} {vs : List Nat} {ρ ρ0 : En} {ds : List D} (t : D → Bool) (hi : fi ρ0 = .ok ds ρ) (h : ∀ d ∈ ds, ∃ ρ1 ρ2 ρ3, g d (wipeE ρ vs) = some ρ1 ∧ cond ρ1 = .ok (t d) ρ2 ∧ elt ρ2 = .ok (.fz d) ρ3 ∧ putBack ρ ρ2 vs = ρ ∧ putBack ρ ρ3 vs = ρ) (hl : ds.length ≤ sizeLine) :
    oComp fi g cond elt vs ρ0 = .ok (.fo (ds.filter t)) ρ := by
  unfold oComp
  rw [hi]
  simp only [Rz.bind_ok]
  rw [compL_filter ds [] h (by simpa using hl)]
  rfl
/-- an int, True, False or None -/
def fl1 (d : D) : Prop := (∃ i, d = .int i) ∨ (∃ b, d = .bool b) ∨ d = .none
theorem fl_canLay : ∀ {ds : List D}, (∀ e ∈ ds, fl1 e) → PyData.canLayAll0 ds = true ∧ PyData.depthAll ds = 0
  | [], _ => ⟨rfl, rfl⟩
  | d :: ds, h => by
    obtain ⟨q1, q2⟩ := fl_canLay (ds := ds) fun e he => h e (List.mem_cons_of_mem _ he)
    have e1 : PyData.canLay0 d = true ∧ PyData.depth d = 0 := by
      rcases h d List.mem_cons_self with ⟨i, rfl⟩ | ⟨b, rfl⟩ | rfl <;> exact ⟨rfl, rfl⟩
    exact ⟨by show (PyData.canLay0 d && PyData.canLayAll0 ds) = true; rw [e1.1, q1]; rfl, by show max (PyData.depth d) (PyData.depthAll ds) = 0; rw [e1.2, q2]; rfl⟩
theorem fl_shaped {ds : List D} (h : ∀ e ∈ ds, fl1 e) : SeqAt.shaped (.list ds) = true := by
  obtain ⟨q1, q2⟩ := fl_canLay h
  unfold SeqAt.shaped
  have e1 : PyData.canLay0 (.list ds) = true := by simpa [PyData.canLay0] using q1
  have e2 : PyData.depth (.list ds) = 1 := by simp [PyData.depth, q2]
  rw [e1, e2]
  rfl
theorem all_ints : ∀ {ds : List D}, (∀ e ∈ ds, isInt e = true) → ∃ xs, ds = dI xs
  | [], _ => ⟨[], rfl⟩
  | d :: ds, h => by
    obtain ⟨xs, e⟩ := all_ints (ds := ds) fun e he => h e (List.mem_cons_of_mem _ he)
    cases d with
    | int i => exact ⟨i :: xs, by rw [e]; rfl⟩
    | _ => exact absurd (h _ List.mem_cons_self) (by simp [isInt])
theorem eqv_nil (ds : List D) : PyData.eqv (.list ds) (.list []) = ds.isEmpty := by
  cases ds <;> simp [PyData.eqv, PyData.eqvAll]
theorem compL_rel {g : D → En → Option En} {cond : En → Rz Bool} {elt : En → Rz Va} {vs : List Nat} {I : En → Prop} {Q : D → Prop} : ∀ (ds acc : List D) (ρ : En), (∀ d ∈ ds, ∀ ρ, I ρ → ∃ k ρ1 ρ2, g d (wipeE ρ vs) = some ρ1 ∧ cond ρ1 = .ok k ρ2 ∧ (k = false → I (putBack ρ ρ2 vs)) ∧ (k = true → ∃ va ρ3, elt ρ2 = .ok va ρ3 ∧ Q va.d ∧ I (putBack ρ ρ3 vs))) → I ρ → acc.length + ds.length ≤ sizeLine →
    ∃ out ρ', compL g cond elt vs ds ρ acc = .ok (acc ++ out) ρ' ∧ I ρ' ∧ out.length ≤ ds.length ∧ ∀ e ∈ out, Q e
  | [], acc, ρ, _, i, _ => ⟨[], ρ, by unfold compL; simp, i, Nat.le_refl _, fun e he => by simp at he⟩
  | d :: ds, acc, ρ, h, i, hl => by
    obtain ⟨k, ρ1, ρ2, h1, h2, h3, h4⟩ := h d List.mem_cons_self ρ i
    have l : acc.length < sizeLine := by simp only [List.length_cons] at hl; omega
    have rest : ∀ e ∈ ds, _ := fun e he => h e (List.mem_cons_of_mem _ he)
    cases k with
    | true =>
      obtain ⟨va, ρ3, q1, q2, q3⟩ := h4 rfl
      obtain ⟨out, ρ', r1, r2, r3, r4⟩ := compL_rel ds (acc ++ [va.d]) _ rest q3 (by simp only [List.length_append, List.length_cons, List.length_nil] at hl ⊢; omega)
      refine ⟨va.d :: out, ρ', ?_, r2, by simp only [List.length_cons]; omega, fun e he => ?_⟩
      · unfold compL
        simp only [h1, h2, q1, if_pos l, r1]
        simp
      · rcases List.mem_cons.mp he with rfl | he
        · exact q2
        · exact r4 e he
    | false =>
      obtain ⟨out, ρ', r1, r2, r3, r4⟩ := compL_rel ds acc _ rest (h3 rfl) (by simp only [List.length_cons] at hl; omega)
      refine ⟨out, ρ', ?_, r2, by simp only [List.length_cons]; omega, r4⟩
      unfold compL
      simp only [h1, h2, r1]
theorem compL_all {g : D → En → Option En} {elt : En → Rz Va} {vs : List Nat} {I : En → Prop} {Q : D → Prop} : ∀ (ds acc : List D) (ρ : En), (∀ d ∈ ds, ∀ ρ, I ρ → ∃ ρ1 va ρ3, g d (wipeE ρ vs) = some ρ1 ∧ elt ρ1 = .ok va ρ3 ∧ Q va.d ∧ I (putBack ρ ρ3 vs)) → I ρ → acc.length + ds.length ≤ sizeLine →
    ∃ out ρ', compL g bYes elt vs ds ρ acc = .ok (acc ++ out) ρ' ∧ I ρ' ∧ out.length = ds.length ∧ ∀ e ∈ out, Q e
  | [], acc, ρ, _, i, _ => ⟨[], ρ, by unfold compL; simp, i, rfl, fun e he => by simp at he⟩
  | d :: ds, acc, ρ, h, i, hl => by
    obtain ⟨ρ1, va, ρ3, h1, q1, q2, q3⟩ := h d List.mem_cons_self ρ i
    have l : acc.length < sizeLine := by simp only [List.length_cons] at hl; omega
    have rest : ∀ e ∈ ds, _ := fun e he => h e (List.mem_cons_of_mem _ he)
    obtain ⟨out, ρ', r1, r2, r3, r4⟩ := compL_all ds (acc ++ [va.d]) _ rest q3 (by simp only [List.length_append, List.length_cons, List.length_nil] at hl ⊢; omega)
    refine ⟨va.d :: out, ρ', ?_, r2, by simp only [List.length_cons]; omega, fun e he => ?_⟩
    · unfold compL
      simp only [h1]
      rw [show bYes ρ1 = .ok true ρ1 from rfl]
      simp only [q1, if_pos l, r1]
      simp
    · rcases List.mem_cons.mp he with rfl | he
      · exact q2
      · exact r4 e he
theorem cut_mem {ds : List D} {lo hi : Option Int} {e : D} (h : e ∈ Z.cutD ds lo hi) : e ∈ ds := List.mem_of_mem_drop (List.mem_of_mem_take h)
theorem cut_len (ds : List D) (lo hi : Option Int) : (Z.cutD ds lo hi).length ≤ ds.length := by
  unfold Z.cutD
  rw [List.length_take, List.length_drop]
  omega
theorem rng_mem {n : Nat} {d : D} {ds : List D} (h : rngOf 0 (n : Nat) = some ds) (hd : d ∈ ds) : ∃ i : Nat, i < n ∧ d = .int (i : Nat) := by
  obtain ⟨_, rfl⟩ := rngOf_some h
  obtain ⟨i, hi, rfl⟩ := List.mem_map.mp hd
  have := List.mem_range.mp hi
  exact ⟨i, by omega, by simp⟩
theorem rng_ok {n : Nat} (h : n ≤ 1000) : ∃ ds, rngOf 0 (n : Nat) = some ds ∧ ds.length = n := by
  refine ⟨_, if_pos (by omega), ?_⟩
  simp
def NT (x : Sl) : Prop := ∀ es, x ≠ .ow true es
theorem nt_un : NT .un := fun _ z => nomatch z
theorem nt_vl {d : D} : NT (.vl d) := fun _ z => nomatch z
theorem nt_ow {ds : List D} : NT (.ow false ds) := fun _ z => nomatch z
theorem setV_ok {ρ : En} {i : Nat} {x : Sl} {va : Va} (h : ρ[i]? = some x) (nt : NT x) : setV ρ i va = some (ρ.set i va.sl) := by
  unfold setV
  rw [h]
  cases x with
  | un => rfl
  | vl d => rfl
  | ow p ds =>
    cases p with
    | true => exact absurd rfl (nt ds)
    | false => rfl
theorem seq_nx {f g : En → Rz Fl} {ρ ρ1 : En} (h : f ρ = .ok .nx ρ1) : sSeq f g ρ = g ρ1 := by unfold sSeq; rw [h]; rfl
theorem seq_rt {f g : En → Rz Fl} {ρ ρ1 : En} {va : Va} (h : f ρ = .ok (.rt va) ρ1) : sSeq f g ρ = .ok (.rt va) ρ1 := by unfold sSeq; rw [h]; rfl
theorem set_ok {fe : En → Rz Va} {ρ ρ1 : En} {i : Nat} {x : Sl} {va : Va} (h : fe ρ = .ok va ρ1) (hx : ρ1[i]? = some x) (nt : NT x) : sSet i fe ρ = .ok .nx (ρ1.set i va.sl) := by
  unfold sSet; rw [h]; simp only [Rz.bind_ok]; rw [setV_ok hx nt]; rfl
theorem if_no {fc : En → Rz Bool} {f g : En → Rz Fl} {ρ ρ1 : En} (h : fc ρ = .ok false ρ1) : sIf fc f g ρ = g ρ1 := by unfold sIf; rw [h]; rfl
theorem for_ok {fi : En → Rz (List D)} {g : D → En → Option En} {body : En → Rz Fl} {ρ ρ1 : En} {ds : List D} (h : fi ρ = .ok ds ρ1) : sFor fi g body ρ = loop g body ds ρ1 := by unfold sFor; rw [h]; rfl
theorem loop_nx {g : D → En → Option En} {body : En → Rz Fl} {d : D} {ds : List D} {ρ ρ1 ρ2 : En} (h : g d ρ = some ρ1) (hb : body ρ1 = .ok .nx ρ2) : loop g body (d :: ds) ρ = loop g body ds ρ2 := by
  rw [loop_cons, h]; simp only [Rz.of_some, Rz.bind_ok]; rw [hb]; rfl
theorem gN_ok {i : Nat} {d : D} {ρ : En} {x : Sl} (h : ρ[i]? = some x) (nt : NT x) : gN i d ρ = some (ρ.set i (.vl d)) := setV_ok h nt
/-- a slot that holds this list, its own or still -/
def Hd (x : Sl) (ds : List D) : Prop := x = .vl (.list ds) ∨ x = .ow false ds
theorem oVar_hd {i : Nat} {ρ : En} {x : Sl} {ds : List D} (h : ρ[i]? = some x) (hd : Hd x ds) : oVar i ρ = .ok (.fz (.list ds)) (ρ.set i (.vl (.list ds))) := by
  unfold oVar
  rw [h]
  rcases hd with rfl | rfl
  · have e : ρ.set i (.vl (.list ds)) = ρ := by
      apply List.ext_getElem?
      intro j
      by_cases hj : j = i
      · subst hj
        rw [List.getElem?_set_self (List.getElem?_eq_some_iff.mp h).1, h]
      · rw [List.getElem?_set_ne (Ne.symm hj)]
    rw [e]
  · rfl
abbrev T (ns : List Int) : D := .tuple (dI ns)
theorem canLay_dI : ∀ ns : List Int, PyData.canLayAll0 (dI ns) = true
  | [] => rfl
  | n :: ns => by
    show (PyData.canLay0 (.int n) && PyData.canLayAll0 (dI ns)) = true
    rw [canLay_dI ns]; rfl
theorem depth_dI : ∀ ns : List Int, PyData.depthAll (dI ns) = 0
  | [] => rfl
  | n :: ns => by
    show max (PyData.depth (.int n)) (PyData.depthAll (dI ns)) = 0
    rw [depth_dI ns]; rfl
theorem shaped_list (ns : List Int) : SeqAt.shaped (.list (dI ns)) = true := by
  unfold SeqAt.shaped
  rw [show PyData.canLay0 (.list (dI ns)) = PyData.canLayAll0 (dI ns) by simp [PyData.canLay0], canLay_dI, show PyData.depth (.list (dI ns)) = PyData.depthAll (dI ns) + 1 by simp [PyData.depth], depth_dI]
  rfl
theorem shaped_tuple (ns : List Int) : SeqAt.shaped (T ns) = true := by
  unfold SeqAt.shaped
  rw [show PyData.canLay0 (T ns) = PyData.canLayAll0 (dI ns) by simp [PyData.canLay0], canLay_dI, show PyData.depth (T ns) = PyData.depthAll (dI ns) + 1 by simp [PyData.depth], depth_dI]
  rfl
theorem shaped_int (i : Int) : SeqAt.shaped (.int i) = true := rfl
theorem any_dI (i : Int) : ∀ ns : List Int, ((dI ns).any fun z => PyData.eqv z (.int i)) = decide (i ∈ ns)
  | [] => by simp [dI]
  | n :: ns => by
    have q := any_dI i ns
    show (PyData.eqv (.int n) (.int i) || (dI ns).any fun z => PyData.eqv z (.int i)) = _
    rw [q]
    simp only [PyData.eqv, List.mem_cons]
    by_cases h : n = i
    · subst h; simp
    · have h2 : ¬ i = n := fun e => h e.symm
      simp [h, h2]
theorem flat_dI : ∀ ns : List Int, (dI ns).all flat = true
  | [] => rfl
  | _ :: ns => by
    show (true && (dI ns).all flat) = true
    rw [flat_dI ns]; rfl
theorem in_seq {q : D} {ns : List Int} (h : seqD (dI ns) q) (i : Int) : inD (.int i) q = some (decide (i ∈ ns)) := by
  rcases h with rfl | rfl
  · show (if _ then _ else _) = _
    rw [if_pos ⟨shaped_int i, shaped_list ns⟩, any_dI]
  · show (if _ then _ else _) = _
    rw [if_pos ⟨rfl, flat_dI ns⟩, any_dI]
theorem mem_dI {d : D} {ns : List Int} (h : d ∈ dI ns) : ∃ i, i ∈ ns ∧ d = .int i := by
  obtain ⟨i, h1, rfl⟩ := List.mem_map.mp h
  exact ⟨i, h1, rfl⟩
theorem dI_len (ns : List Int) : (dI ns).length = ns.length := List.length_map ..
/-- the box as the draws leave it -/
def bx (a b : Int) : List D := [.int a, .int b]
def BoxOk (b : Int) : Prop := 0 ≤ b ∧ b ≤ 2147483587
theorem log_le {n : Nat} (h : n < 2 ^ 40) : n.log2 < 40 := by
  rcases Nat.eq_zero_or_pos n with rfl | hp
  · decide
  · exact (Nat.log2_lt (by omega)).mpr h
theorem mul_small {i j : Int} (h : i.natAbs < 2 ^ 40) (h2 : j.natAbs < 2 ^ 40) : pMul (.int i) (.int j) = some (.fz (.int (i * j))) := by
  have := log_le h
  have := log_le h2
  show (if _ then _ else _) = _
  rw [if_pos (by omega)]
theorem mod_ok {i j : Int} (h : j ≠ 0) : pMod (.int i) (.int j) = some (.fz (.int (i.fmod j))) := if_pos h
theorem div_ok {i j : Int} (h : 0 < j) (h2 : j.natAbs < 2 ^ 40) : pDiv (.int i) (.int j) = some (.fz (.int (i / j))) := by
  have := log_le h2
  show (if _ then _ else _) = _
  rw [if_pos ⟨h, by omega⟩]
theorem fmod_nn {i j : Int} (h : 0 < j) : 0 ≤ i.fmod j ∧ i.fmod j < j := by
  rw [Int.fmod_eq_emod_of_nonneg i (by omega)]
  exact ⟨Int.emod_nonneg i (by omega), Int.emod_lt_of_pos i h⟩
theorem rep_ok {d : D} (h1 : d.canLay0 = true) (h2 : d.depth ≤ 64) (h3 : d.weight ≤ 2 ^ 20) (h4 : d.intsShort 13 = true) (h5 : d.showable = true) : pRepr [d] = some (.fz (.str d.shown)) := by
  have q := shown_le13 (d := d) (by unfold PyData.layable0; rw [h1, decide_eq_true h2, decide_eq_true h3]; rfl) h4
  have s : (15728653 : Nat) ≤ sizeLine := by decide
  refine if_pos ⟨?_, h1⟩
  unfold reprOk
  rw [h5, PyData.hasDict_of_canLay d h1, decide_eq_true h2, decide_eq_true (Nat.le_trans q s)]
  rfl
theorem ne_str (s : Str) : pNeZ (.str s) (.str s) = some (.fz (.bool false)) := by
  show some (Va.fz (.bool (!decide (s = s)))) = _
  rw [decide_eq_true rfl]; rfl
end Z

/-! ZW: sizes of texts. -/
namespace Z
open PySem PySem.Spec PyProof.Rows L2
/-- a number as a text -/
def tx (n : Int) : Str := Str.ofString (toString n)
/-- a text of at most B signs -/
def Sz (B : Nat) (x : Str) : Prop := x.length ≤ B ∧ PyData.strOk x = true
theorem Sz.mono {B C : Nat} {x : Str} (h : Sz B x) (l : B ≤ C) : Sz C x := ⟨Nat.le_trans h.1 l, h.2⟩
theorem sok_iff {x : Str} : PyData.strOk x = true ↔ ∀ c ∈ x.cps.toList, c < 0x110000 := by
  unfold PyData.strOk
  rw [Array.all_eq_true']
  constructor
  · intro h c hc
    simpa using h c (by simpa using hc)
  · intro h c hc
    simpa using h c (by simpa using hc)
theorem Sz.app {B C : Nat} {x y : Str} (h : Sz B x) (g : Sz C y) : Sz (B + C) (x ++ y) := by
  refine ⟨by rw [Str.length_append]; have := h.1; have := g.1; omega, sok_iff.mpr fun c hc => ?_⟩
  rw [Str.cps_append, Array.toList_append] at hc
  rcases List.mem_append.mp hc with q | q
  · exact sok_iff.mp h.2 c q
  · exact sok_iff.mp g.2 c q
theorem sok_tx (i : Int) : PyData.strOk (tx i) = true := sok_iff.mpr fun c hc => by
  have e : (Str.ofString (toString i)).cps.toList = (toString i).toList.map Char.toNat := by rw [Str.ofString_eq_toList]
  unfold tx at hc
  rw [e] at hc
  obtain ⟨ch, hm, rfl⟩ := List.mem_map.mp hc
  rcases int_sign i ch hm with h | h
  · unfold Char.isDigit at h
    simp only [Bool.and_eq_true, decide_eq_true_eq] at h
    have h3 : ch.toNat ≤ 57 := by
      show ch.val.toNat ≤ 57
      exact UInt32.le_iff_toNat_le.mp h.2
    omega
  · subst h
    decide
theorem sz_tx {n : Int} (h0 : 0 ≤ n) (h1 : n < 10 ^ 10) : Sz 10 (tx n) := ⟨toString_length_le h0 (by decide) h1, sok_tx n⟩
theorem sz_empty : Sz 0 Str.empty := ⟨Nat.le_refl _, by decide +kernel⟩
theorem sz_join' {c B : Nat} {sep : Str} (hs : Sz c sep) : ∀ {ys : List Str}, (∀ y ∈ ys, Sz B y) → Sz (ys.length * (B + c)) (Str.join sep ys)
  | [], _ => sz_empty.mono (Nat.zero_le _)
  | [x], h => (h x List.mem_cons_self).mono (by simp)
  | x :: y :: r, h => by
    have q := sz_join' hs (ys := y :: r) fun z hz => h z (List.mem_cons_of_mem _ hz)
    have e : Str.join sep (x :: y :: r) = x ++ sep ++ Str.join sep (y :: r) := rfl
    rw [e]
    refine (((h x List.mem_cons_self).app hs).app q).mono ?_
    have e2 : (x :: y :: r).length * (B + c) = (y :: r).length * (B + c) + (B + c) := by
      rw [List.length_cons, Nat.succ_mul]
    omega
theorem sz_join {c B : Nat} {sep : Str} {ys : List Str} (hs : Sz c sep) (h : ∀ y ∈ ys, Sz B y) : Sz (ys.length * (B + c)) (Txt.join sep ys) := by
  rw [show Txt.join sep ys = Str.join sep ys from StrLaws.glued_eq_join sep ys]
  exact sz_join' hs h
theorem sum_le {B : Nat} : ∀ {ys : List Str}, (∀ y ∈ ys, Sz B y) → (ys.map (·.length)).sum ≤ ys.length * B
  | [], _ => by simp
  | y :: ys, h => by
    have q := sum_le (ys := ys) fun z hz => h z (List.mem_cons_of_mem _ hz)
    have p := (h y List.mem_cons_self).1
    rw [List.map_cons, List.sum_cons, List.length_cons, Nat.succ_mul]
    omega
theorem join_ok {c B : Nat} {sep : Str} {ys : List Str} (hs : Sz c sep) (h : ∀ y ∈ ys, Sz B y) (hl : ys.length * (B + c) ≤ 16777216) : pJoin (.str sep) (.list (ys.map PyData.str)) = some (.fz (.str (Txt.join sep ys))) := by
  show joinO sep (ys.map PyData.str) = _
  unfold joinO
  rw [strsO_map]
  have q := sum_le h
  have p := Nat.mul_le_mul_left ys.length hs.1
  rw [Nat.mul_add] at hl
  exact if_pos (by omega)
theorem str_ok {n : Int} (h0 : 0 ≤ n) (h1 : n < 10 ^ 10) : pStr [.int n] = some (.fz (.str (tx n))) := by
  have := log_le (n := n.natAbs) (by omega)
  exact if_pos (by omega)
theorem fmti_ok {n : Int} (h0 : 0 ≤ n) (h1 : n < 10 ^ 10) : fmtO (.int n) = some (.fz (.str (tx n))) := by
  have := log_le (n := n.natAbs) (by omega)
  exact if_pos (by omega)
theorem line_big : (16777216 : Nat) ≤ sizeLine := by decide
theorem fmts_ok {B : Nat} {x : Str} (h : Sz B x) (hl : B ≤ 16777216) : fmtO (.str x) = some (.fz (.str x)) := if_pos (by have := h.1; have := line_big; omega)
theorem adds_ok {B C : Nat} {x y : Str} (h : Sz B x) (g : Sz C y) (hl : B + C ≤ 16777216) : pAdd (.str x) (.str y) = some (.fz (.str (x ++ y))) := if_pos (by have := h.1; have := g.1; have := line_big; omega)
/-- parts of an f-string -/
theorem js_nil {acc : Str} {ρ : En} : oJs [] acc ρ = .ok (.fz (.str acc)) ρ := rfl
theorem js_cons {B C : Nat} {f : En → Rz Va} {fs : List (En → Rz Va)} {acc y : Str} {ρ ρ1 : En} (hf : f ρ = .ok (.fz (.str y)) ρ1) (ha : Sz B acc) (hy : Sz C y) (hl : B + C ≤ 16777216) : oJs (f :: fs) acc ρ = oJs fs (acc ++ y) ρ1 := by
  show ((f ρ).bind fun va ρ1 => match va.d with
    | .str y => if (acc ++ y).length ≤ sizeLine then oJs fs (acc ++ y) ρ1 else .no
    | _ => .no) = _
  rw [hf]
  have e : (acc ++ y).length ≤ sizeLine := by rw [Str.length_append]; have := ha.1; have := hy.1; have := line_big; omega
  exact if_pos e
/-- a comprehension with a test and a value -/
theorem compL_fm {g : D → En → Option En} {cond : En → Rz Bool} {elt : En → Rz Va} {vs : List Nat} {ρ : En} {t : D → Bool} {val : D → Va} : ∀ (ds acc : List D), (∀ d ∈ ds, ∃ ρ1 ρ2, g d (wipeE ρ vs) = some ρ1 ∧ cond ρ1 = .ok (t d) ρ2 ∧ putBack ρ ρ2 vs = ρ ∧ (t d = true → ∃ ρ3, elt ρ2 = .ok (val d) ρ3 ∧ putBack ρ ρ3 vs = ρ)) → acc.length + ds.length ≤ sizeLine →
    compL g cond elt vs ds ρ acc = .ok (acc ++ (ds.filter t).map fun d => (val d).d) ρ
  | [], acc, _, _ => by unfold compL; simp
  | d :: ds, acc, h, hl => by
    obtain ⟨ρ1, ρ2, h1, h2, h4, h3⟩ := h d List.mem_cons_self
    have l : acc.length < sizeLine := by simp only [List.length_cons] at hl; omega
    have rest : ∀ e ∈ ds, _ := fun e he => h e (List.mem_cons_of_mem _ he)
    unfold compL
    cases c : t d with
    | true =>
      rw [c] at h2
      obtain ⟨ρ3, h5, h6⟩ := h3 c
      simp only [h1, h2, h5, h6, if_pos l]
      rw [compL_fm ds (acc ++ [(val d).d]) rest (by simp only [List.length_append, List.length_cons, List.length_nil] at hl ⊢; omega)]
      simp [c]
    | false =>
      rw [c] at h2
      simp only [h1, h2, h4]
      rw [compL_fm ds acc rest (by simp only [List.length_cons] at hl; omega)]
      simp [c]
theorem comp_fm {fi : En → Rz (List D)} {g : D → En → Option En} {cond : En → Rz Bool} {elt : En → Rz Va} {vs : List Nat} {ρ ρ0 : En} {ds : List D} (t : D → Bool) (val : D → Va) (hi : fi ρ0 = .ok ds ρ) (h : ∀ d ∈ ds, ∃ ρ1 ρ2, g d (wipeE ρ vs) = some ρ1 ∧ cond ρ1 = .ok (t d) ρ2 ∧ putBack ρ ρ2 vs = ρ ∧ (t d = true → ∃ ρ3, elt ρ2 = .ok (val d) ρ3 ∧ putBack ρ ρ3 vs = ρ)) (hl : ds.length ≤ sizeLine) :
    oComp fi g cond elt vs ρ0 = .ok (.fo ((ds.filter t).map fun d => (val d).d)) ρ := by
  unfold oComp
  rw [hi]
  simp only [Rz.bind_ok]
  rw [compL_fm ds [] h (by simpa using hl)]
  rfl
/-- sorting what is mapped -/
theorem sortD_map {f : D → D} {ds : List D} (h : ∀ a ∈ ds, ∀ b ∈ ds, W.dataLe false id a b = W.dataLe false id (f a) (f b)) : (sortD ds).map f = sortD (ds.map f) := by
  unfold sortD
  exact List.map_mergeSort h
theorem eq_int (i j : Int) : pEqZ (.int i) (.int j) = some (.fz (.bool (decide (i = j)))) := by
  have e : pEqZ (.int i) (.int j) = some (.fz (.bool (i == j))) := rfl
  rw [e]
  congr 1
theorem ne_int (i j : Int) : pNeZ (.int i) (.int j) = some (.fz (.bool (!decide (i = j)))) := by
  have e : pNeZ (.int i) (.int j) = some (.fz (.bool (!(i == j)))) := rfl
  rw [e]
  congr 1
theorem eq_strs (x y : Str) : pEqZ (.str x) (.str y) = some (.fz (.bool (decide (x = y)))) := rfl
theorem ne_strs (x y : Str) : pNeZ (.str x) (.str y) = some (.fz (.bool (!decide (x = y)))) := rfl
theorem iArg_ok {fl : En → Rz (List Od)} {g : List D → Option (List D)} {ρ ρ1 : En} {d : D} {ds : List D} (h : fl ρ = .ok [.da d] ρ1) (hg : g [d] = some ds) : iArg g fl ρ = .ok ds ρ1 := by
  unfold iArg
  rw [h]
  simp only [Rz.bind_ok]
  rw [show getAll ρ1 [Od.da d] = some [d] from rfl]
  simp only [hg, Rz.of_some]
theorem rng1 {x : Int} {rs : List D} (hr : rngOf 0 x = some rs) : iRange1 [.int x] = some rs := by rw [iRange1, hr]
/-- the numbers from a on, n of them, as data -/
def idxs (a n : Nat) : List D := (List.range' a n).map fun i => .int (i : Nat)
theorem idxs_succ (a n : Nat) : idxs a (n + 1) = .int (a : Nat) :: idxs (a + 1) n := by
  unfold idxs
  rw [List.range'_succ, List.map_cons]
theorem idxs_len (a n : Nat) : (idxs a n).length = n := by unfold idxs; simp
theorem idxs_mem {a n : Nat} {d : D} (h : d ∈ idxs a n) : ∃ i : Nat, a ≤ i ∧ i < a + n ∧ d = .int (i : Nat) := by
  obtain ⟨i, hi, rfl⟩ := List.mem_map.mp h
  have := List.mem_range'_1.mp hi
  exact ⟨i, by omega, by omega, rfl⟩
theorem rng_idx {n : Nat} (h : n ≤ 1000) : iRange1 [.int (n : Nat)] = some (idxs 0 n) := by
  rw [iRange1, rngOf, if_pos (by omega)]
  unfold idxs
  rw [List.range_eq_range']
  simp
theorem idxs_map {β : Type} (a n : Nat) (f : D → β) : (idxs a n).map f = (List.range' a n).map fun i => f (.int (i : Nat)) := by
  unfold idxs
  rw [List.map_map]
  rfl
end Z

namespace ZH
open PySem PySem.Spec PyProof.Rows L2
def top (i : Nat) : Stmt := PySem.Challenge.pw_outsoonest_k70_whole_houses_drawn.main.body.getD i (.Pass ⟨0, 0, 0, 0⟩)
def dOf (i : Nat) (n : Str) : He.DefD := ⟨(n, none), n, n, defArgs (top i), defBody (top i), defScope (top i), [], []⟩
def fn : List He.DefD := ([dOf 1 "is_place", dOf 3 "step_word", dOf 4 "step_words", dOf 5 "urgencies_there", dOf 6 "comings_to", dOf 7 "room_line", dOf 8 "passage_now", dOf 9 "drawn", dOf 11 "_law_box", dOf 12 "_law_take", dOf 13 "_law_pick", dOf 14 "_law_lot", dOf 15 "_law_house", dOf 16 "_law_handed", dOf 17 "_law_clear", dOf 18 "_law_word", dOf 19 "_law_drawn", dOf 20 "_law_people", dOf 21 "law"] : List He.DefD)
def fa : List He.Fa := ([.glo "is_place", .glo "step_word", .glo "step_words", .glo "urgencies_there", .glo "comings_to", .glo "room_line", .glo "passage_now", .glo "drawn", .glo "_law_box", .glo "_law_take", .glo "_law_pick", .glo "_law_lot", .glo "_law_house", .glo "_law_handed", .glo "_law_clear", .glo "_law_word", .glo "_law_drawn", .glo "_law_people", .glo "law", .free "abs", .free "int", .free "len", .free "list", .free "range", .free "repr", .free "sorted", .free "str", .free "tuple"] : List He.Fa)
abbrev R : PySem.W.OpenRow := PySem.W.OpenLaw.row PySem.Challenge.rw_outsoonest_k70_whole_houses_drawn
abbrev hk : PySem.W.Hook := He.hookD 4 fa fn
def ob (s : PySem.W.SharedT) : He.AlD := He.obsDG 4 fa fn (HandSHeadRun.getT s)
theorem ob_eq (s : PySem.W.SharedT) : ob s = hk.obs s.abs := He.obsDG_eq (HandSHeadRun.getT_eq s)
theorem run (w : World) : HandSHeadRun.RunEq R (PySem.W.view R.prog [21]) hk ob 9000 ((["_law_box", "_law_clear", "_law_drawn", "_law_handed", "_law_house", "_law_lot", "_law_people", "_law_pick", "_law_take", "_law_word", "comings_to", "drawn", "is_place", "passage_now", "room_line", "step_word", "step_words", "urgencies_there"] : List PySem.Str)) w := by
  intro os
  kernel_rfl
end ZH

namespace ZH
open PySem PySem.Spec PyProof.Rows L2 Z
structure Fx (K : PySem.W.Frag) (mg : Str → Option Value) where
  a_is_place : Addr
  d_is_place : FuncData
  F_is_place : FnP K "is_place" (top 1) a_is_place d_is_place
  m_is_place : mg "is_place" = some (.ref a_is_place)
  a_step_word : Addr
  d_step_word : FuncData
  F_step_word : FnP K "step_word" (top 3) a_step_word d_step_word
  m_step_word : mg "step_word" = some (.ref a_step_word)
  a_step_words : Addr
  d_step_words : FuncData
  F_step_words : FnP K "step_words" (top 4) a_step_words d_step_words
  m_step_words : mg "step_words" = some (.ref a_step_words)
  a_urgencies_there : Addr
  d_urgencies_there : FuncData
  F_urgencies_there : FnP K "urgencies_there" (top 5) a_urgencies_there d_urgencies_there
  m_urgencies_there : mg "urgencies_there" = some (.ref a_urgencies_there)
  a_comings_to : Addr
  d_comings_to : FuncData
  F_comings_to : FnP K "comings_to" (top 6) a_comings_to d_comings_to
  m_comings_to : mg "comings_to" = some (.ref a_comings_to)
  a_room_line : Addr
  d_room_line : FuncData
  F_room_line : FnP K "room_line" (top 7) a_room_line d_room_line
  m_room_line : mg "room_line" = some (.ref a_room_line)
  a_passage_now : Addr
  d_passage_now : FuncData
  F_passage_now : FnP K "passage_now" (top 8) a_passage_now d_passage_now
  m_passage_now : mg "passage_now" = some (.ref a_passage_now)
  a_drawn : Addr
  d_drawn : FuncData
  F_drawn : FnP K "drawn" (top 9) a_drawn d_drawn
  m_drawn : mg "drawn" = some (.ref a_drawn)
  a__law_box : Addr
  d__law_box : FuncData
  F__law_box : FnP K "_law_box" (top 11) a__law_box d__law_box
  m__law_box : mg "_law_box" = some (.ref a__law_box)
  a__law_take : Addr
  d__law_take : FuncData
  F__law_take : FnP K "_law_take" (top 12) a__law_take d__law_take
  m__law_take : mg "_law_take" = some (.ref a__law_take)
  a__law_pick : Addr
  d__law_pick : FuncData
  F__law_pick : FnP K "_law_pick" (top 13) a__law_pick d__law_pick
  m__law_pick : mg "_law_pick" = some (.ref a__law_pick)
  a__law_lot : Addr
  d__law_lot : FuncData
  F__law_lot : FnP K "_law_lot" (top 14) a__law_lot d__law_lot
  m__law_lot : mg "_law_lot" = some (.ref a__law_lot)
  a__law_house : Addr
  d__law_house : FuncData
  F__law_house : FnP K "_law_house" (top 15) a__law_house d__law_house
  m__law_house : mg "_law_house" = some (.ref a__law_house)
  a__law_handed : Addr
  d__law_handed : FuncData
  F__law_handed : FnP K "_law_handed" (top 16) a__law_handed d__law_handed
  m__law_handed : mg "_law_handed" = some (.ref a__law_handed)
  a__law_clear : Addr
  d__law_clear : FuncData
  F__law_clear : FnP K "_law_clear" (top 17) a__law_clear d__law_clear
  m__law_clear : mg "_law_clear" = some (.ref a__law_clear)
  a__law_word : Addr
  d__law_word : FuncData
  F__law_word : FnP K "_law_word" (top 18) a__law_word d__law_word
  m__law_word : mg "_law_word" = some (.ref a__law_word)
  a__law_drawn : Addr
  d__law_drawn : FuncData
  F__law_drawn : FnP K "_law_drawn" (top 19) a__law_drawn d__law_drawn
  m__law_drawn : mg "_law_drawn" = some (.ref a__law_drawn)
  a__law_people : Addr
  d__law_people : FuncData
  F__law_people : FnP K "_law_people" (top 20) a__law_people d__law_people
  m__law_people : mg "_law_people" = some (.ref a__law_people)
  a_law : Addr
  d_law : FuncData
  F_law : FnP K "law" (top 21) a_law d_law
  m_law : mg "law" = some (.ref a_law)
  z_abs : mg "abs" = none
  z_int : mg "int" = none
  z_len : mg "len" = none
  z_list : mg "list" = none
  z_range : mg "range" = none
  z_repr : mg "repr" = none
  z_sorted : mg "sorted" = none
  z_str : mg "str" = none
  z_tuple : mg "tuple" = none
section
variable {P : Program} {w : World} {K : PySem.W.Frag} {mg : Str → Option Value} {base : Heap}
theorem sc_is_place : FnScope ["house", "room", "beat", "since"] ["house", "room", "beat"] (defScope (top 1)) := ⟨rfl, rfl, rfl, by decide +kernel, rfl, by decide +kernel, by decide +kernel⟩
theorem b_is_place (x : Fx K mg) : Binds K x.d_is_place ["house", "room", "beat"] [] := x.F_is_place.bindsN fun _ _ _ _ _ _ us hl => match us, hl with | [_, _, _], _ => rfl
def g_is_place : En → Rz Fl := (sSeq (sSet 3 (f2 pIx (xO (f2 pIx (xVar 0) (xO (oC (.int 2))))) (xVar 1))) (sSeq (sRet (oOr (f2 pIs (xVar 3) (xO (oC .none))) (f2 (pCmp fun i j => decide (i < j)) (xVar 2) (xVar 3)))) sNil))
theorem ok_is_place (x : Fx K mg) : FnG P w K mg base 1 x.a_is_place x.d_is_place ["house", "room", "beat"] (spZ ⟨K, []⟩ 3 (runF 4 g_is_place)) :=
  fnZ_of (T := ⟨K, []⟩) (N := ["house", "room", "beat", "since"]) (k := 0) rfl x.F_is_place sc_is_place (by decide) fun cd A outer s H E hg hr =>
    (ds_cons (ds_set sc_is_place.nd (by exact rfl) (by first | exact Or.inl (by exact rfl) | exact Or.inr (by exact rfl)) (do_ix ix_seq im_ix (DO.dx (do_ix ix_seq im_ix (dx_pv (pv 0)) (DO.dx (do_C pe_int fun _ => .int _)) (by exact fun _ _ => rfl))) (dx_pv (pv 1)) (by exact fun _ _ => rfl)) (by exact rfl) (Or.inl (by exact rfl)))
    (ds_cons (ds_ret (do_or (do_cmp op_isN im_is (dx_pv (pv 3)) (DO.dx (do_C pe_non fun _ => .non)) (nomark _)) (do_and1 (do_cmp op_lt im_cmp (dx_pv (pv 2)) (dx_pv (pv 3)) (nomark _)))))
    ds_nil))
theorem sc_step_word : FnScope ["step"] ["step"] (defScope (top 3)) := ⟨rfl, rfl, rfl, by decide +kernel, rfl, by decide +kernel, by decide +kernel⟩
theorem b_step_word (x : Fx K mg) : Binds K x.d_step_word ["step"] [] := x.F_step_word.bindsN fun _ _ _ _ _ _ us hl => match us, hl with | [_], _ => rfl
def g_step_word : En → Rz Fl := (sSeq (sIf (bOf (f2 pIs (xVar 0) (xO (oC .none)))) (sSeq (sRet (oC (.str "-"))) sNil) sNil) (sSeq (sRet (oIte (bOf (f2 pEqZ (xVar 0) (xO (oC (.str "stand"))))) (oC (.str "s")) (fL pStr (aCons (xVar 0) (fun ρ => .ok [] ρ))))) sNil))
theorem ok_step_word (x : Fx K mg) : FnG P w K mg base 1 x.a_step_word x.d_step_word ["step"] (spZ ⟨K, []⟩ 1 (runF 1 g_step_word)) :=
  fnZ_of (T := ⟨K, []⟩) (N := ["step"]) (k := 0) rfl x.F_step_word sc_step_word (by decide) fun cd A outer s H E hg hr =>
    (ds_cons (ds_if (db_cmp op_isN im_is (dx_pv (pv 0)) (DO.dx (do_C pe_non fun _ => .non)) (nomark _)) (ds_cons (ds_ret (do_C pe_str fun _ => .str _))
    ds_nil) ds_nil)
    (ds_cons (ds_ret (do_ite (db_cmp (or_eqZ (hu64 hr)) im_eqZ (dx_pv (pv 0)) (DO.dx (do_C pe_str fun _ => .str _)) (nomark _)) (do_C pe_str fun _ => .str _) (do_ct call_str_int im_str (by exact rfl) x.z_str (by decide +kernel) (da_cons (dx_pv (pv 0)) da_nil (by exact rfl)) (by decide) (by decide) (by exact rfl) (by exact rfl))))
    ds_nil))
theorem sc_urgencies_there : FnScope ["state", "room", "word", "place", "beat", "urgency"] ["state", "room"] (defScope (top 5)) := ⟨rfl, rfl, rfl, by decide +kernel, rfl, by decide +kernel, by decide +kernel⟩
theorem b_urgencies_there (x : Fx K mg) : Binds K x.d_urgencies_there ["state", "room"] [] := x.F_urgencies_there.bindsN fun _ _ _ _ _ _ us hl => match us, hl with | [_, _], _ => rfl
def c1_urgencies_there : En → Rz Bool := (bAnd (bOf (f2 pEqZ (xVar 3) (xVar 1))) (bOr (bOf (f2 pEqZ (xVar 2) (xO (oC (.str "out"))))) (bAnd (bOf (f2 pEqZ (xVar 2) (xO (oC (.str "here"))))) (bOf (f2 pEqZ (xVar 4) (xO (f2 pIx (xVar 0) (xO (oC (.int 0))))))))))
def g_urgencies_there : En → Rz Fl := (sSeq (sRet (fL pSorted (aCons (xO (oComp (iSeq (f2 pIx (xVar 0) (xO (oC (.int 3))))) (gTupZ 4 (gConsZ (gN 2) (gConsZ (gN 3) (gConsZ (gN 4) (gConsZ (gN 5) gNilZ))))) c1_urgencies_there (oVar 5) [2, 3, 4, 5])) (fun ρ => .ok [] ρ)))) sNil)
theorem ok_urgencies_there (x : Fx K mg) : FnG P w K mg base 1 x.a_urgencies_there x.d_urgencies_there ["state", "room"] (spZ ⟨K, []⟩ 2 (runF 6 g_urgencies_there)) :=
  fnZ_of (T := ⟨K, []⟩) (N := ["state", "room", "word", "place", "beat", "urgency"]) (k := 0) rfl x.F_urgencies_there sc_urgencies_there (by decide) fun cd A outer s H E hg hr =>
    (ds_cons (ds_ret (do_cb (cr_sortD (hu70 hr)) im_sorted (by exact rfl) x.z_sorted (by decide +kernel) (da_cons (DO.dx (do_comp (own := [("word", 2), ("place", 3), ("beat", 4), ("urgency", 5)]) (by exact rfl) sc_urgencies_there.nd (di_seq (by exact rfl) (do_ix ix_seq im_ix (dx_pv (pv 0)) (DO.dx (do_C pe_int fun _ => .int _)) (by exact fun _ _ => rfl))) (blkOk_by (by exact rfl)) (by decide) (fun _ _ _ _ _ => (dg_tup (by exact rfl) (by exact rfl) (dgs_cons (dg_name sc_urgencies_there.nd (by exact rfl) (Or.inl (by exact rfl)) (Or.inr (by exact rfl))) (dgs_cons (dg_name sc_urgencies_there.nd (by exact rfl) (Or.inl (by exact rfl)) (Or.inr (by exact rfl))) (dgs_cons (dg_name sc_urgencies_there.nd (by exact rfl) (Or.inl (by exact rfl)) (Or.inr (by exact rfl))) (dgs_cons (dg_name sc_urgencies_there.nd (by exact rfl) (Or.inl (by exact rfl)) (Or.inr (by exact rfl))) dgs_nil (by exact rfl)) (by exact rfl)) (by exact rfl)) (by exact rfl)) (by exact rfl) (by exact rfl))) (fun _ _ _ _ _ => (dts_one (dw_and (db_cmp (or_eqZ (hu64 hr)) im_eqZ (dx_pv (pv 3)) (dx_pv (pv 1)) (nomark _)) (dw_and1 (dw_or (db_cmp (or_eqZ (hu64 hr)) im_eqZ (dx_pv (pv 2)) (DO.dx (do_C pe_str fun _ => .str _)) (nomark _)) (dw_or1 (dw_and (db_cmp (or_eqZ (hu64 hr)) im_eqZ (dx_pv (pv 2)) (DO.dx (do_C pe_str fun _ => .str _)) (nomark _)) (dw_and1 (db_cmp (or_eqZ (hu64 hr)) im_eqZ (dx_pv (pv 4)) (DO.dx (do_ix ix_seq im_ix (dx_pv (pv 0)) (DO.dx (do_C pe_int fun _ => .int _)) (by exact fun _ _ => rfl))) (nomark _)))).db)).db)).db)) (fun _ _ _ _ _ => (do_pv (pv 5))) (by exact fun _ => rfl))) da_nil (by exact rfl)) (by decide) (by decide) (by exact rfl) (by exact rfl)))
    ds_nil)
theorem sc_comings_to : FnScope ["state", "room", "word", "place", "beat", "urgency"] ["state", "room"] (defScope (top 6)) := ⟨rfl, rfl, rfl, by decide +kernel, rfl, by decide +kernel, by decide +kernel⟩
theorem b_comings_to (x : Fx K mg) : Binds K x.d_comings_to ["state", "room"] [] := x.F_comings_to.bindsN fun _ _ _ _ _ _ us hl => match us, hl with | [_, _], _ => rfl
def c1_comings_to : En → Rz Bool := (bAnd (bOf (f2 pEqZ (xVar 3) (xVar 1))) (bAnd (bOf (f2 pEqZ (xVar 2) (xO (oC (.str "here"))))) (bOf (f2 (pCmp fun i j => decide (j < i)) (xVar 4) (xO (f2 pIx (xVar 0) (xO (oC (.int 0)))))))))
def e2_comings_to : En → Rz Va := (oTup (aCons (xO (oVar 4)) (aCons (xO (oVar 5)) (fun ρ => .ok [] ρ))))
def g_comings_to : En → Rz Fl := (sSeq (sRet (fL pSorted (aCons (xO (oComp (iSeq (f2 pIx (xVar 0) (xO (oC (.int 3))))) (gTupZ 4 (gConsZ (gN 2) (gConsZ (gN 3) (gConsZ (gN 4) (gConsZ (gN 5) gNilZ))))) c1_comings_to e2_comings_to [2, 3, 4, 5])) (fun ρ => .ok [] ρ)))) sNil)
theorem ok_comings_to (x : Fx K mg) : FnG P w K mg base 1 x.a_comings_to x.d_comings_to ["state", "room"] (spZ ⟨K, []⟩ 2 (runF 6 g_comings_to)) :=
  fnZ_of (T := ⟨K, []⟩) (N := ["state", "room", "word", "place", "beat", "urgency"]) (k := 0) rfl x.F_comings_to sc_comings_to (by decide) fun cd A outer s H E hg hr =>
    (ds_cons (ds_ret (do_cb (cr_sortD (hu70 hr)) im_sorted (by exact rfl) x.z_sorted (by decide +kernel) (da_cons (DO.dx (do_comp (own := [("word", 2), ("place", 3), ("beat", 4), ("urgency", 5)]) (by exact rfl) sc_comings_to.nd (di_seq (by exact rfl) (do_ix ix_seq im_ix (dx_pv (pv 0)) (DO.dx (do_C pe_int fun _ => .int _)) (by exact fun _ _ => rfl))) (blkOk_by (by exact rfl)) (by decide) (fun _ _ _ _ _ => (dg_tup (by exact rfl) (by exact rfl) (dgs_cons (dg_name sc_comings_to.nd (by exact rfl) (Or.inl (by exact rfl)) (Or.inr (by exact rfl))) (dgs_cons (dg_name sc_comings_to.nd (by exact rfl) (Or.inl (by exact rfl)) (Or.inr (by exact rfl))) (dgs_cons (dg_name sc_comings_to.nd (by exact rfl) (Or.inl (by exact rfl)) (Or.inr (by exact rfl))) (dgs_cons (dg_name sc_comings_to.nd (by exact rfl) (Or.inl (by exact rfl)) (Or.inr (by exact rfl))) dgs_nil (by exact rfl)) (by exact rfl)) (by exact rfl)) (by exact rfl)) (by exact rfl) (by exact rfl))) (fun _ _ _ _ _ => (dts_one (dw_and (db_cmp (or_eqZ (hu64 hr)) im_eqZ (dx_pv (pv 3)) (dx_pv (pv 1)) (nomark _)) (dw_and (db_cmp (or_eqZ (hu64 hr)) im_eqZ (dx_pv (pv 2)) (DO.dx (do_C pe_str fun _ => .str _)) (nomark _)) (dw_and1 (db_cmp op_gt im_cmp (dx_pv (pv 4)) (DO.dx (do_ix ix_seq im_ix (dx_pv (pv 0)) (DO.dx (do_C pe_int fun _ => .int _)) (by exact fun _ _ => rfl))) (nomark _))))).db)) (fun _ _ _ _ _ => (do_tup (da_cons (DO.dx (do_pv (pv 4))) (da_cons (DO.dx (do_pv (pv 5))) da_nil (by exact rfl)) (by exact rfl)))) (by exact fun _ => rfl))) da_nil (by exact rfl)) (by decide) (by decide) (by exact rfl) (by exact rfl)))
    ds_nil)
theorem sc_passage_now : FnScope ["state", "number", "word", "tail", "head", "length", "width", "shut"] ["state", "number"] (defScope (top 8)) := ⟨rfl, rfl, rfl, by decide +kernel, rfl, by decide +kernel, by decide +kernel⟩
theorem b_passage_now (x : Fx K mg) : Binds K x.d_passage_now ["state", "number"] [] := x.F_passage_now.bindsN fun _ _ _ _ _ _ us hl => match us, hl with | [_, _], _ => rfl
def g_passage_now : En → Rz Fl := (sSeq (sAsg (gTupZ 5 (gConsZ (gN 3) (gConsZ (gN 4) (gConsZ (gN 5) (gConsZ (gN 6) (gConsZ (gN 7) gNilZ)))))) (f2 pIx (xO (f2 pIx (xO (f2 pIx (xVar 0) (xO (oC (.int 2))))) (xO (oC (.int 1))))) (xVar 1))) (sSeq (sSet 2 (oIte (bOr (bOf (f2 pEqZ (xVar 6) (xO (oC (.int 0))))) (bOf (f2 pIn (xO (f2 pIx (xVar 0) (xO (oC (.int 0))))) (xVar 7)))) (oC (.str "shut")) (oC (.str "open")))) (sSeq (sRet (oJs [(oFmt (oVar 1)), (oC (.str " ")), (oFmt (oVar 3)), (oC (.str ">")), (oFmt (oVar 4)), (oC (.str " ")), (oFmt (oVar 5)), (oC (.str " ")), (oFmt (oVar 6)), (oC (.str " ")), (oFmt (oVar 2))] Str.empty)) sNil)))
theorem ok_passage_now (x : Fx K mg) : FnG P w K mg base 1 x.a_passage_now x.d_passage_now ["state", "number"] (spZ ⟨K, []⟩ 2 (runF 8 g_passage_now)) :=
  fnZ_of (T := ⟨K, []⟩) (N := ["state", "number", "word", "tail", "head", "length", "width", "shut"]) (k := 0) rfl x.F_passage_now sc_passage_now (by decide) fun cd A outer s H E hg hr =>
    (ds_cons (ds_asg (do_ix ix_seq im_ix (DO.dx (do_ix ix_seq im_ix (DO.dx (do_ix ix_seq im_ix (dx_pv (pv 0)) (DO.dx (do_C pe_int fun _ => .int _)) (by exact fun _ _ => rfl))) (DO.dx (do_C pe_int fun _ => .int _)) (by exact fun _ _ => rfl))) (dx_pv (pv 1)) (by exact fun _ _ => rfl)) (dg_tup (by exact rfl) (by exact rfl) (dgs_cons (dg_name sc_passage_now.nd (by exact rfl) (by first | exact Or.inl (by exact rfl) | exact Or.inr (by exact rfl)) (Or.inl (by exact rfl))) (dgs_cons (dg_name sc_passage_now.nd (by exact rfl) (by first | exact Or.inl (by exact rfl) | exact Or.inr (by exact rfl)) (Or.inl (by exact rfl))) (dgs_cons (dg_name sc_passage_now.nd (by exact rfl) (by first | exact Or.inl (by exact rfl) | exact Or.inr (by exact rfl)) (Or.inl (by exact rfl))) (dgs_cons (dg_name sc_passage_now.nd (by exact rfl) (by first | exact Or.inl (by exact rfl) | exact Or.inr (by exact rfl)) (Or.inl (by exact rfl))) (dgs_cons (dg_name sc_passage_now.nd (by exact rfl) (by first | exact Or.inl (by exact rfl) | exact Or.inr (by exact rfl)) (Or.inl (by exact rfl))) dgs_nil (by exact rfl)) (by exact rfl)) (by exact rfl)) (by exact rfl)) (by exact rfl)) (by exact rfl) (by exact rfl)) (by exact rfl) (by exact rfl) (by exact rfl))
    (ds_cons (ds_set sc_passage_now.nd (by exact rfl) (by first | exact Or.inl (by exact rfl) | exact Or.inr (by exact rfl)) (do_ite (dw_or (db_cmp (or_eqZ (hu64 hr)) im_eqZ (dx_pv (pv 6)) (DO.dx (do_C pe_int fun _ => .int _)) (nomark _)) (dw_or1 (db_cmp (or_in (hu65 hr)) im_in (DO.dx (do_ix ix_seq im_ix (dx_pv (pv 0)) (DO.dx (do_C pe_int fun _ => .int _)) (by exact fun _ _ => rfl))) (dx_pv (pv 7)) (by with_unfolding_all rfl)))).db (do_C pe_str fun _ => .str _) (do_C pe_str fun _ => .str _)) (by exact rfl) (Or.inl (by exact rfl)))
    (ds_cons (ds_ret (do_js (DJ.cons (do_fmt (do_pv (pv 1))) (DJ.cons (do_C pe_str fun _ => .str _) (DJ.cons (do_fmt (do_pv (pv 3))) (DJ.cons (do_C pe_str fun _ => .str _) (DJ.cons (do_fmt (do_pv (pv 4))) (DJ.cons (do_C pe_str fun _ => .str _) (DJ.cons (do_fmt (do_pv (pv 5))) (DJ.cons (do_C pe_str fun _ => .str _) (DJ.cons (do_fmt (do_pv (pv 6))) (DJ.cons (do_C pe_str fun _ => .str _) (DJ.cons (do_fmt (do_pv (pv 2))) DJ.nil)))))))))))))
    ds_nil)))
theorem sc__law_box : FnScope ["script", "k", "cell", "great"] ["script", "k"] (defScope (top 11)) := ⟨rfl, rfl, rfl, by decide +kernel, rfl, by decide +kernel, by decide +kernel⟩
theorem b__law_box (x : Fx K mg) : Binds K x.d__law_box ["script", "k"] [] := x.F__law_box.bindsN fun _ _ _ _ _ _ us hl => match us, hl with | [_, _], _ => rfl
def g__law_box : En → Rz Fl := (sSeq (sSet 2 (f2 pAdd (xO (f2 pMul (xO (oC (.int 7411))) (xVar 1))) (xO (oC (.int 1039))))) (sSeq (sIf (bOf (f2 (pCmp fun i j => decide (i < j)) (xVar 1) (xO (fL pLen (aCons (xVar 0) (fun ρ => .ok [] ρ)))))) (sSeq (sSet 2 (fL pAbs (aCons (xO (fL pInt (aCons (xO (f2 pIx (xVar 0) (xVar 1))) (fun ρ => .ok [] ρ)))) (fun ρ => .ok [] ρ)))) sNil) (sSeq (sIf (bOf (f2 (pCmp fun i j => decide (j < i)) (xO (fL pLen (aCons (xVar 0) (fun ρ => .ok [] ρ)))) (xO (oC (.int 0))))) (sSeq (sSet 2 (f2 pAdd (xVar 2) (xO (f2 pMul (xO (f2 pMod (xO (fL pInt (aCons (xO (fL pAbs (aCons (xO (fL pInt (aCons (xO (f2 pIx (xVar 0) (xO (f2 pMod (xO (fL pInt (aCons (xVar 1) (fun ρ => .ok [] ρ)))) (xO (fL pLen (aCons (xVar 0) (fun ρ => .ok [] ρ)))))))) (fun ρ => .ok [] ρ)))) (fun ρ => .ok [] ρ)))) (fun ρ => .ok [] ρ)))) (xO (oC (.int 2147483587))))) (xO (oC (.int 50461))))))) sNil) sNil) sNil)) (sSeq (sSet 3 (oIte (bOf (f2 (pCmp fun i j => decide (j ≤ i)) (xVar 2) (xO (f2 pPow (xO (oC (.int 10))) (xO (oC (.int 18))))))) (oVar 2) (oC (.int 0)))) (sSeq (sRet (oLst (aCons (xO (oVar 3)) (aCons (xO (f2 pAdd (xO (f2 pMod (xO (fL pInt (aCons (xO (f2 pAdd (xO (f2 pMul (xO (f2 pMod (xO (fL pInt (aCons (xVar 2) (fun ρ => .ok [] ρ)))) (xO (oC (.int 2147483587))))) (xO (oC (.int 69761))))) (xO (f2 pMul (xO (oC (.int 1039))) (xVar 1))))) (fun ρ => .ok [] ρ)))) (xO (oC (.int 2147483587))))) (xO (oC (.int 1))))) (fun ρ => .ok [] ρ))))) sNil))))
theorem ok__law_box (x : Fx K mg) : FnG P w K mg base 1 x.a__law_box x.d__law_box ["script", "k"] (spZ ⟨K, []⟩ 2 (runF 4 g__law_box)) :=
  fnZ_of (T := ⟨K, []⟩) (N := ["script", "k", "cell", "great"]) (k := 0) rfl x.F__law_box sc__law_box (by decide) fun cd A outer s H E hg hr =>
    (ds_cons (ds_set sc__law_box.nd (by exact rfl) (by first | exact Or.inl (by exact rfl) | exact Or.inr (by exact rfl)) (do_op or_add im_add (DO.dx (do_op or_mul im_mul (DO.dx (do_C pe_int fun _ => .int _)) (dx_pv (pv 1)))) (DO.dx (do_C pe_int fun _ => .int _))) (by exact rfl) (Or.inl (by exact rfl)))
    (ds_cons (ds_if (db_cmp op_lt im_cmp (dx_pv (pv 1)) (DO.dx (do_cb call_len im_len (by exact rfl) x.z_len (by decide +kernel) (da_cons (dx_pv (pv 0)) da_nil (by exact rfl)) (by decide) (by decide) (by exact rfl) (by exact rfl))) (nomark _)) (ds_cons (ds_set sc__law_box.nd (by exact rfl) (by first | exact Or.inl (by exact rfl) | exact Or.inr (by exact rfl)) (do_cb call_abs im_abs (by exact rfl) x.z_abs (by decide +kernel) (da_cons (DO.dx (do_ct call_int1 im_int (by exact rfl) x.z_int (by decide +kernel) (da_cons (DO.dx (do_ix ix_seq im_ix (dx_pv (pv 0)) (dx_pv (pv 1)) (by exact fun _ _ => rfl))) da_nil (by exact rfl)) (by decide) (by decide) (by exact rfl) (by exact rfl))) da_nil (by exact rfl)) (by decide) (by decide) (by exact rfl) (by exact rfl)) (by exact rfl) (Or.inl (by exact rfl)))
    ds_nil) (ds_cons (ds_if (db_cmp op_gt im_cmp (DO.dx (do_cb call_len im_len (by exact rfl) x.z_len (by decide +kernel) (da_cons (dx_pv (pv 0)) da_nil (by exact rfl)) (by decide) (by decide) (by exact rfl) (by exact rfl))) (DO.dx (do_C pe_int fun _ => .int _)) (nomark _)) (ds_cons (ds_set sc__law_box.nd (by exact rfl) (by first | exact Or.inl (by exact rfl) | exact Or.inr (by exact rfl)) (do_op or_add im_add (dx_pv (pv 2)) (DO.dx (do_op or_mul im_mul (DO.dx (do_op op_modN im_mod (DO.dx (do_ct call_int1 im_int (by exact rfl) x.z_int (by decide +kernel) (da_cons (DO.dx (do_cb call_abs im_abs (by exact rfl) x.z_abs (by decide +kernel) (da_cons (DO.dx (do_ct call_int1 im_int (by exact rfl) x.z_int (by decide +kernel) (da_cons (DO.dx (do_ix ix_seq im_ix (dx_pv (pv 0)) (DO.dx (do_op op_modN im_mod (DO.dx (do_ct call_int1 im_int (by exact rfl) x.z_int (by decide +kernel) (da_cons (dx_pv (pv 1)) da_nil (by exact rfl)) (by decide) (by decide) (by exact rfl) (by exact rfl))) (DO.dx (do_cb call_len im_len (by exact rfl) x.z_len (by decide +kernel) (da_cons (dx_pv (pv 0)) da_nil (by exact rfl)) (by decide) (by decide) (by exact rfl) (by exact rfl))))) (by exact fun _ _ => rfl))) da_nil (by exact rfl)) (by decide) (by decide) (by exact rfl) (by exact rfl))) da_nil (by exact rfl)) (by decide) (by decide) (by exact rfl) (by exact rfl))) da_nil (by exact rfl)) (by decide) (by decide) (by exact rfl) (by exact rfl))) (DO.dx (do_C pe_int fun _ => .int _)))) (DO.dx (do_C pe_int fun _ => .int _))))) (by exact rfl) (Or.inl (by exact rfl)))
    ds_nil) ds_nil)
    ds_nil))
    (ds_cons (ds_set sc__law_box.nd (by exact rfl) (by first | exact Or.inl (by exact rfl) | exact Or.inr (by exact rfl)) (do_ite (db_cmp op_ge im_cmp (dx_pv (pv 2)) (DO.dx (do_op op_pow im_pow (DO.dx (do_C pe_int fun _ => .int _)) (DO.dx (do_C pe_int fun _ => .int _)))) (nomark _)) (do_pv (pv 2)) (do_C pe_int fun _ => .int _)) (by exact rfl) (Or.inl (by exact rfl)))
    (ds_cons (ds_ret (do_lst (da_cons (DO.dx (do_pv (pv 3))) (da_cons (DO.dx (do_op or_add im_add (DO.dx (do_op op_modN im_mod (DO.dx (do_ct call_int1 im_int (by exact rfl) x.z_int (by decide +kernel) (da_cons (DO.dx (do_op or_add im_add (DO.dx (do_op or_mul im_mul (DO.dx (do_op op_modN im_mod (DO.dx (do_ct call_int1 im_int (by exact rfl) x.z_int (by decide +kernel) (da_cons (dx_pv (pv 2)) da_nil (by exact rfl)) (by decide) (by decide) (by exact rfl) (by exact rfl))) (DO.dx (do_C pe_int fun _ => .int _)))) (DO.dx (do_C pe_int fun _ => .int _)))) (DO.dx (do_op or_mul im_mul (DO.dx (do_C pe_int fun _ => .int _)) (dx_pv (pv 1)))))) da_nil (by exact rfl)) (by decide) (by decide) (by exact rfl) (by exact rfl))) (DO.dx (do_C pe_int fun _ => .int _)))) (DO.dx (do_C pe_int fun _ => .int _)))) da_nil (by exact rfl)) (by exact rfl))))
    ds_nil))))
theorem sc__law_take : FnScope ["box", "many", "raw", "digit"] ["box", "many"] (defScope (top 12)) := ⟨rfl, rfl, rfl, by decide +kernel, rfl, by decide +kernel, by decide +kernel⟩
theorem b__law_take (x : Fx K mg) : Binds K x.d__law_take ["box", "many"] [] := x.F__law_take.bindsN fun _ _ _ _ _ _ us hl => match us, hl with | [_, _], _ => rfl
def g__law_take : En → Rz Fl := (sSeq (sIf (bOf (f2 (pCmp fun i j => decide (j < i)) (xO (f2 pIx (xVar 0) (xO (oC (.int 0))))) (xO (oC (.int 0))))) (sSeq (sSet 3 (f2 pMod (xO (fL pInt (aCons (xO (f2 pIx (xVar 0) (xO (oC (.int 0))))) (fun ρ => .ok [] ρ)))) (xVar 1))) (sSeq (sSto 0 (f2 pDiv (xO (f2 pIx (xVar 0) (xO (oC (.int 0))))) (xVar 1)) (xO (oC (.int 0)))) (sSeq (sRetV 3) sNil))) sNil) (sSeq (sSet 2 (f2 pMod (xO (fL pInt (aCons (xO (f2 pAdd (xO (f2 pMul (xO (f2 pIx (xVar 0) (xO (oC (.int 1))))) (xO (oC (.int 40692))))) (xO (oC (.int 79))))) (fun ρ => .ok [] ρ)))) (xO (oC (.int 2147483399))))) (sSeq (sSto 0 (f2 pAdd (xO (f2 pMod (xO (fL pInt (aCons (xO (f2 pAdd (xO (f2 pMul (xVar 2) (xO (oC (.int 39373))))) (xO (oC (.int 31))))) (fun ρ => .ok [] ρ)))) (xO (oC (.int 2147483587))))) (xO (oC (.int 1)))) (xO (oC (.int 1)))) (sSeq (sRet (f2 pMod (xO (fL pInt (aCons (xO (f2 pDiv (xO (f2 pAdd (xO (f2 pMul (xVar 2) (xO (oC (.int 2147483629))))) (xO (f2 pIx (xVar 0) (xO (oC (.int 1))))))) (xO (oC (.int 8167))))) (fun ρ => .ok [] ρ)))) (xVar 1))) sNil))))
theorem ok__law_take (x : Fx K mg) : FnG P w K mg base 1 x.a__law_take x.d__law_take ["box", "many"] (spZ ⟨K, []⟩ 2 (runF 4 g__law_take)) :=
  fnZ_of (T := ⟨K, []⟩) (N := ["box", "many", "raw", "digit"]) (k := 0) rfl x.F__law_take sc__law_take (by decide) fun cd A outer s H E hg hr =>
    (ds_cons (ds_if (db_cmp op_gt im_cmp (DO.dx (do_ix ix_seq im_ix (dx_pv (pv 0)) (DO.dx (do_C pe_int fun _ => .int _)) (by exact fun _ _ => rfl))) (DO.dx (do_C pe_int fun _ => .int _)) (nomark _)) (ds_cons (ds_set sc__law_take.nd (by exact rfl) (by first | exact Or.inl (by exact rfl) | exact Or.inr (by exact rfl)) (do_op op_modN im_mod (DO.dx (do_ct call_int1 im_int (by exact rfl) x.z_int (by decide +kernel) (da_cons (DO.dx (do_ix ix_seq im_ix (dx_pv (pv 0)) (DO.dx (do_C pe_int fun _ => .int _)) (by exact fun _ _ => rfl))) da_nil (by exact rfl)) (by decide) (by decide) (by exact rfl) (by exact rfl))) (dx_pv (pv 1))) (by exact rfl) (Or.inl (by exact rfl)))
    (ds_cons (ds_sto (pv 0) (DO.dx (do_C pe_int fun _ => .int _)) (do_op op_fdivW im_div (DO.dx (do_ix ix_seq im_ix (dx_pv (pv 0)) (DO.dx (do_C pe_int fun _ => .int _)) (by exact fun _ _ => rfl))) (dx_pv (pv 1))) (by exact fun _ => rfl) (by exact rfl) (by exact rfl) (by exact rfl))
    (ds_cons (ds_retV (pv 3))
    ds_nil))) ds_nil)
    (ds_cons (ds_set sc__law_take.nd (by exact rfl) (by first | exact Or.inl (by exact rfl) | exact Or.inr (by exact rfl)) (do_op op_modN im_mod (DO.dx (do_ct call_int1 im_int (by exact rfl) x.z_int (by decide +kernel) (da_cons (DO.dx (do_op or_add im_add (DO.dx (do_op or_mul im_mul (DO.dx (do_ix ix_seq im_ix (dx_pv (pv 0)) (DO.dx (do_C pe_int fun _ => .int _)) (by exact fun _ _ => rfl))) (DO.dx (do_C pe_int fun _ => .int _)))) (DO.dx (do_C pe_int fun _ => .int _)))) da_nil (by exact rfl)) (by decide) (by decide) (by exact rfl) (by exact rfl))) (DO.dx (do_C pe_int fun _ => .int _))) (by exact rfl) (Or.inl (by exact rfl)))
    (ds_cons (ds_sto (pv 0) (DO.dx (do_C pe_int fun _ => .int _)) (do_op or_add im_add (DO.dx (do_op op_modN im_mod (DO.dx (do_ct call_int1 im_int (by exact rfl) x.z_int (by decide +kernel) (da_cons (DO.dx (do_op or_add im_add (DO.dx (do_op or_mul im_mul (dx_pv (pv 2)) (DO.dx (do_C pe_int fun _ => .int _)))) (DO.dx (do_C pe_int fun _ => .int _)))) da_nil (by exact rfl)) (by decide) (by decide) (by exact rfl) (by exact rfl))) (DO.dx (do_C pe_int fun _ => .int _)))) (DO.dx (do_C pe_int fun _ => .int _))) (by exact fun _ => rfl) (by exact rfl) (by exact rfl) (by exact rfl))
    (ds_cons (ds_ret (do_op op_modN im_mod (DO.dx (do_ct call_int1 im_int (by exact rfl) x.z_int (by decide +kernel) (da_cons (DO.dx (do_op op_fdivW im_div (DO.dx (do_op or_add im_add (DO.dx (do_op or_mul im_mul (dx_pv (pv 2)) (DO.dx (do_C pe_int fun _ => .int _)))) (DO.dx (do_ix ix_seq im_ix (dx_pv (pv 0)) (DO.dx (do_C pe_int fun _ => .int _)) (by exact fun _ _ => rfl))))) (DO.dx (do_C pe_int fun _ => .int _)))) da_nil (by exact rfl)) (by decide) (by decide) (by exact rfl) (by exact rfl))) (dx_pv (pv 1))))
    ds_nil))))
theorem sc__law_handed : FnScope ["house", "tail", "head", "length", "width", "shut"] ["house"] (defScope (top 16)) := ⟨rfl, rfl, rfl, by decide +kernel, rfl, by decide +kernel, by decide +kernel⟩
theorem b__law_handed (x : Fx K mg) : Binds K x.d__law_handed ["house"] [] := x.F__law_handed.bindsN fun _ _ _ _ _ _ us hl => match us, hl with | [_], _ => rfl
def e1__law_handed : En → Rz Va := (oLst (aCons (xO (oVar 1)) (aCons (xO (oVar 2)) (aCons (xO (oVar 3)) (aCons (xO (oVar 4)) (aCons (xO (fL pList (aCons (xVar 5) (fun ρ => .ok [] ρ)))) (fun ρ => .ok [] ρ)))))))
def g__law_handed : En → Rz Fl := (sSeq (sRet (oLst (aCons (xO (fL pList (aCons (xO (f2 pIx (xVar 0) (xO (oC (.int 0))))) (fun ρ => .ok [] ρ)))) (aCons (xO (oComp (iSeq (f2 pIx (xVar 0) (xO (oC (.int 1))))) (gTupZ 5 (gConsZ (gN 1) (gConsZ (gN 2) (gConsZ (gN 3) (gConsZ (gN 4) (gConsZ (gN 5) gNilZ)))))) bYes e1__law_handed [1, 2, 3, 4, 5])) (aCons (xO (fL pList (aCons (xO (f2 pIx (xVar 0) (xO (oC (.int 2))))) (fun ρ => .ok [] ρ)))) (fun ρ => .ok [] ρ)))))) sNil)
theorem ok__law_handed (x : Fx K mg) : FnG P w K mg base 1 x.a__law_handed x.d__law_handed ["house"] (spZ ⟨K, []⟩ 1 (runF 6 g__law_handed)) :=
  fnZ_of (T := ⟨K, []⟩) (N := ["house", "tail", "head", "length", "width", "shut"]) (k := 0) rfl x.F__law_handed sc__law_handed (by decide) fun cd A outer s H E hg hr =>
    (ds_cons (ds_ret (do_lst (da_cons (DO.dx (do_ct call_list_of im_list (by exact rfl) x.z_list (by decide +kernel) (da_cons (DO.dx (do_ix ix_seq im_ix (dx_pv (pv 0)) (DO.dx (do_C pe_int fun _ => .int _)) (by exact fun _ _ => rfl))) da_nil (by exact rfl)) (by decide) (by decide) (by exact rfl) (by exact rfl))) (da_cons (DO.dx (do_comp (own := [("tail", 1), ("head", 2), ("length", 3), ("width", 4), ("shut", 5)]) (by exact rfl) sc__law_handed.nd (di_seq (by exact rfl) (do_ix ix_seq im_ix (dx_pv (pv 0)) (DO.dx (do_C pe_int fun _ => .int _)) (by exact fun _ _ => rfl))) (blkOk_by (by exact rfl)) (by decide) (fun _ _ _ _ _ => (dg_tup (by exact rfl) (by exact rfl) (dgs_cons (dg_name sc__law_handed.nd (by exact rfl) (Or.inl (by exact rfl)) (Or.inr (by exact rfl))) (dgs_cons (dg_name sc__law_handed.nd (by exact rfl) (Or.inl (by exact rfl)) (Or.inr (by exact rfl))) (dgs_cons (dg_name sc__law_handed.nd (by exact rfl) (Or.inl (by exact rfl)) (Or.inr (by exact rfl))) (dgs_cons (dg_name sc__law_handed.nd (by exact rfl) (Or.inl (by exact rfl)) (Or.inr (by exact rfl))) (dgs_cons (dg_name sc__law_handed.nd (by exact rfl) (Or.inl (by exact rfl)) (Or.inr (by exact rfl))) dgs_nil (by exact rfl)) (by exact rfl)) (by exact rfl)) (by exact rfl)) (by exact rfl)) (by exact rfl) (by exact rfl))) (fun _ _ _ _ _ => dts_nil) (fun _ _ _ _ _ => (do_lst (da_cons (DO.dx (do_pv (pv 1))) (da_cons (DO.dx (do_pv (pv 2))) (da_cons (DO.dx (do_pv (pv 3))) (da_cons (DO.dx (do_pv (pv 4))) (da_cons (DO.dx (do_ct call_list_of im_list (by exact rfl) x.z_list (by decide +kernel) (da_cons (dx_pv (pv 5)) da_nil (by exact rfl)) (by decide) (by decide) (by exact rfl) (by exact rfl))) da_nil (by exact rfl)) (by exact rfl)) (by exact rfl)) (by exact rfl)) (by exact rfl)))) (by exact fun _ => rfl))) (da_cons (DO.dx (do_ct call_list_of im_list (by exact rfl) x.z_list (by decide +kernel) (da_cons (DO.dx (do_ix ix_seq im_ix (dx_pv (pv 0)) (DO.dx (do_C pe_int fun _ => .int _)) (by exact fun _ _ => rfl))) da_nil (by exact rfl)) (by decide) (by decide) (by exact rfl) (by exact rfl))) da_nil (by exact rfl)) (by exact rfl)) (by exact rfl))))
    ds_nil)
theorem sc__law_clear : FnScope ["house", "room", "beat"] ["house", "room", "beat"] (defScope (top 17)) := ⟨rfl, rfl, rfl, by decide +kernel, rfl, by decide +kernel, by decide +kernel⟩
theorem b__law_clear (x : Fx K mg) : Binds K x.d__law_clear ["house", "room", "beat"] [] := x.F__law_clear.bindsN fun _ _ _ _ _ _ us hl => match us, hl with | [_, _, _], _ => rfl
def g__law_clear : En → Rz Fl := (sSeq (sRet (oOr (f2 pIs (xO (f2 pIx (xO (f2 pIx (xVar 0) (xO (oC (.int 2))))) (xVar 1))) (xO (oC .none))) (f2 (pCmp fun i j => decide (i < j)) (xVar 2) (xO (f2 pIx (xO (f2 pIx (xVar 0) (xO (oC (.int 2))))) (xVar 1)))))) sNil)
theorem ok__law_clear (x : Fx K mg) : FnG P w K mg base 1 x.a__law_clear x.d__law_clear ["house", "room", "beat"] (spZ ⟨K, []⟩ 3 (runF 3 g__law_clear)) :=
  fnZ_of (T := ⟨K, []⟩) (N := ["house", "room", "beat"]) (k := 0) rfl x.F__law_clear sc__law_clear (by decide) fun cd A outer s H E hg hr =>
    (ds_cons (ds_ret (do_or (do_cmp op_isN im_is (DO.dx (do_ix ix_seq im_ix (DO.dx (do_ix ix_seq im_ix (dx_pv (pv 0)) (DO.dx (do_C pe_int fun _ => .int _)) (by exact fun _ _ => rfl))) (dx_pv (pv 1)) (by exact fun _ _ => rfl))) (DO.dx (do_C pe_non fun _ => .non)) (nomark _)) (do_and1 (do_cmp op_lt im_cmp (dx_pv (pv 2)) (DO.dx (do_ix ix_seq im_ix (DO.dx (do_ix ix_seq im_ix (dx_pv (pv 0)) (DO.dx (do_C pe_int fun _ => .int _)) (by exact fun _ _ => rfl))) (dx_pv (pv 1)) (by exact fun _ _ => rfl))) (nomark _)))))
    ds_nil)
theorem sc__law_word : FnScope ["step"] ["step"] (defScope (top 18)) := ⟨rfl, rfl, rfl, by decide +kernel, rfl, by decide +kernel, by decide +kernel⟩
theorem b__law_word (x : Fx K mg) : Binds K x.d__law_word ["step"] [] := x.F__law_word.bindsN fun _ _ _ _ _ _ us hl => match us, hl with | [_], _ => rfl
def g__law_word : En → Rz Fl := (sSeq (sRet (oIte (bOf (f2 pIs (xVar 0) (xO (oC .none)))) (oC (.str "-")) (oIte (bOf (f2 pEqZ (xVar 0) (xO (oC (.str "stand"))))) (oC (.str "s")) (fL pStr (aCons (xVar 0) (fun ρ => .ok [] ρ)))))) sNil)
theorem ok__law_word (x : Fx K mg) : FnG P w K mg base 1 x.a__law_word x.d__law_word ["step"] (spZ ⟨K, []⟩ 1 (runF 1 g__law_word)) :=
  fnZ_of (T := ⟨K, []⟩) (N := ["step"]) (k := 0) rfl x.F__law_word sc__law_word (by decide) fun cd A outer s H E hg hr =>
    (ds_cons (ds_ret (do_ite (db_cmp op_isN im_is (dx_pv (pv 0)) (DO.dx (do_C pe_non fun _ => .non)) (nomark _)) (do_C pe_str fun _ => .str _) (do_ite (db_cmp (or_eqZ (hu64 hr)) im_eqZ (dx_pv (pv 0)) (DO.dx (do_C pe_str fun _ => .str _)) (nomark _)) (do_C pe_str fun _ => .str _) (do_ct call_str_int im_str (by exact rfl) x.z_str (by decide +kernel) (da_cons (dx_pv (pv 0)) da_nil (by exact rfl)) (by decide) (by decide) (by exact rfl) (by exact rfl)))))
    ds_nil)
theorem sc_step_words : FnScope ["steps", "step"] ["steps"] (defScope (top 4)) := ⟨rfl, rfl, rfl, by decide +kernel, rfl, by decide +kernel, by decide +kernel⟩
theorem b_step_words (x : Fx K mg) : Binds K x.d_step_words ["steps"] [] := x.F_step_words.bindsN fun _ _ _ _ _ _ us hl => match us, hl with | [_], _ => rfl
def e1_step_words : En → Rz Va := (oApp 1 (runF 1 g_step_word) (aCons (xO (oVar 1)) (fun ρ => .ok [] ρ)))
def g_step_words : En → Rz Fl := (sSeq (sRet (oIte (bX (xVar 0)) (oJoin (xO (oC (.str " "))) (xO (oComp (iSeq (oVar 0)) (gN 1) bYes e1_step_words [1]))) (oC (.str "-")))) sNil)
theorem ok_step_words (x : Fx K mg) : FnG P w K mg base 2 x.a_step_words x.d_step_words ["steps"] (spZ ⟨K, []⟩ 1 (runF 2 g_step_words)) :=
  fnZ_of (T := ⟨K, []⟩) (N := ["steps", "step"]) (k := 1) rfl x.F_step_words sc_step_words (by decide) fun cd A outer s H E hg hr =>
    (ds_cons (ds_ret (do_ite (db_x (dx_pv (pv 0)) (by exact fun _ => rfl) (by exact rfl)) (do_join (by exact rfl) (DO.dx (do_C pe_str fun _ => .str _)) (DO.dx (do_comp (own := [("step", 1)]) (by exact rfl) sc_step_words.nd (di_seq (by exact rfl) (do_pv (pv 0))) (blkOk_by (by exact rfl)) (by decide) (fun _ _ _ _ _ => (dg_name sc_step_words.nd (by exact rfl) (Or.inl (by exact rfl)) (Or.inr (by exact rfl)))) (fun _ _ _ _ _ => dts_nil) (fun _ _ _ _ _ => (do_app (ok_step_word x) hg (hr.mono (by decide)) (by exact rfl) x.m_step_word x.F_step_word.kp (b_step_word x) takes0 (da_cons (DO.dx (do_pv (pv 1))) da_nil (by exact rfl)) (by decide) (by exact rfl) (by exact rfl))) (by exact fun _ => rfl))) (by exact rfl) (by exact rfl) (by exact rfl)) (do_C pe_str fun _ => .str _)))
    ds_nil)
theorem sc_room_line : FnScope ["state", "room", "sign", "there", "coming", "lost", "urgency", "beat", "word", "place", "_"] ["state", "room"] (defScope (top 7)) := ⟨rfl, rfl, rfl, by decide +kernel, rfl, by decide +kernel, by decide +kernel⟩
theorem b_room_line (x : Fx K mg) : Binds K x.d_room_line ["state", "room"] [] := x.F_room_line.bindsN fun _ _ _ _ _ _ us hl => match us, hl with | [_, _], _ => rfl
def c1_room_line : En → Rz Bool := (bAnd (bOf (f2 pEqZ (xVar 8) (xO (oC (.str "lost"))))) (bOf (f2 pEqZ (xVar 9) (xVar 1))))
def e2_room_line : En → Rz Va := (oJs [(oFmt (oVar 7)), (oC (.str ":")), (oFmt (oVar 6))] Str.empty)
def e3_room_line : En → Rz Va := (fL pStr (aCons (xVar 6) (fun ρ => .ok [] ρ)))
def g_room_line : En → Rz Fl := (sSeq (sSet 2 (oIte (bX (xO (oApp 3 (runF 4 g_is_place) (aCons (xO (f2 pIx (xVar 0) (xO (oC (.int 2))))) (aCons (xO (oVar 1)) (aCons (xO (f2 pIx (xVar 0) (xO (oC (.int 0))))) (fun ρ => .ok [] ρ))))))) (oC (.str ".")) (oC (.str "~")))) (sSeq (sIf (bOf (f2 pEqZ (xO (f2 pIx (xO (f2 pIx (xO (f2 pIx (xVar 0) (xO (oC (.int 2))))) (xO (oC (.int 0))))) (xVar 1))) (xO (oC (.int 1))))) (sSeq (sSet 2 (oC (.str ">"))) sNil) sNil) (sSeq (sSet 3 (oJoin (xO (oC (.str ""))) (xO (oComp (iSeq (oApp 2 (runF 6 g_urgencies_there) (aCons (xO (oVar 0)) (aCons (xO (oVar 1)) (fun ρ => .ok [] ρ))))) (gN 6) bYes e3_room_line [6])))) (sSeq (sSet 4 (oJoin (xO (oC (.str ","))) (xO (oComp (iSeq (oApp 2 (runF 6 g_comings_to) (aCons (xO (oVar 0)) (aCons (xO (oVar 1)) (fun ρ => .ok [] ρ))))) (gTupZ 2 (gConsZ (gN 7) (gConsZ (gN 6) gNilZ))) bYes e2_room_line [7, 6])))) (sSeq (sSet 5 (fL pLen (aCons (xO (oComp (iSeq (f2 pIx (xVar 0) (xO (oC (.int 3))))) (gTupZ 4 (gConsZ (gN 8) (gConsZ (gN 9) (gConsZ (gN 10) (gConsZ (gN 10) gNilZ))))) c1_room_line (oVar 9) [8, 9, 10])) (fun ρ => .ok [] ρ)))) (sSeq (sRet (oJoin (xO (oC (.str " "))) (xO (oLst (aCons (xO (fL pStr (aCons (xVar 1) (fun ρ => .ok [] ρ)))) (aCons (xO (oVar 2)) (aCons (xO (oIte (bX (xVar 3)) (oVar 3) (oC (.str "-")))) (aCons (xO (oIte (bX (xVar 4)) (oVar 4) (oC (.str "-")))) (aCons (xO (fL pStr (aCons (xVar 5) (fun ρ => .ok [] ρ)))) (fun ρ => .ok [] ρ)))))))))) sNil))))))
theorem ok_room_line (x : Fx K mg) : FnG P w K mg base 2 x.a_room_line x.d_room_line ["state", "room"] (spZ ⟨K, []⟩ 2 (runF 11 g_room_line)) :=
  fnZ_of (T := ⟨K, []⟩) (N := ["state", "room", "sign", "there", "coming", "lost", "urgency", "beat", "word", "place", "_"]) (k := 1) rfl x.F_room_line sc_room_line (by decide) fun cd A outer s H E hg hr =>
    (ds_cons (ds_set sc_room_line.nd (by exact rfl) (by first | exact Or.inl (by exact rfl) | exact Or.inr (by exact rfl)) (do_ite (db_x (DO.dx (do_app (ok_is_place x) hg (hr.mono (by decide)) (by exact rfl) x.m_is_place x.F_is_place.kp (b_is_place x) takesD (da_cons (DO.dx (do_ix ix_seq im_ix (dx_pv (pv 0)) (DO.dx (do_C pe_int fun _ => .int _)) (by exact fun _ _ => rfl))) (da_cons (DO.dx (do_pv (pv 1))) (da_cons (DO.dx (do_ix ix_seq im_ix (dx_pv (pv 0)) (DO.dx (do_C pe_int fun _ => .int _)) (by exact fun _ _ => rfl))) da_nil (by exact rfl)) (by exact rfl)) (by exact rfl)) (by decide) (by exact rfl) (by exact rfl))) (by exact fun _ => rfl) (by exact rfl)) (do_C pe_str fun _ => .str _) (do_C pe_str fun _ => .str _)) (by exact rfl) (Or.inl (by exact rfl)))
    (ds_cons (ds_if (db_cmp (or_eqZ (hu64 hr)) im_eqZ (DO.dx (do_ix ix_seq im_ix (DO.dx (do_ix ix_seq im_ix (DO.dx (do_ix ix_seq im_ix (dx_pv (pv 0)) (DO.dx (do_C pe_int fun _ => .int _)) (by exact fun _ _ => rfl))) (DO.dx (do_C pe_int fun _ => .int _)) (by exact fun _ _ => rfl))) (dx_pv (pv 1)) (by exact fun _ _ => rfl))) (DO.dx (do_C pe_int fun _ => .int _)) (nomark _)) (ds_cons (ds_set sc_room_line.nd (by exact rfl) (by first | exact Or.inl (by exact rfl) | exact Or.inr (by exact rfl)) (do_C pe_str fun _ => .str _) (by exact rfl) (Or.inl (by exact rfl)))
    ds_nil) ds_nil)
    (ds_cons (ds_set sc_room_line.nd (by exact rfl) (by first | exact Or.inl (by exact rfl) | exact Or.inr (by exact rfl)) (do_join (by exact rfl) (DO.dx (do_C pe_str fun _ => .str _)) (DO.dx (do_comp (own := [("urgency", 6)]) (by exact rfl) sc_room_line.nd (di_seq (by exact rfl) (do_app (ok_urgencies_there x) hg (hr.mono (by decide)) (by exact rfl) x.m_urgencies_there x.F_urgencies_there.kp (b_urgencies_there x) takesD (da_cons (DO.dx (do_pv (pv 0))) (da_cons (DO.dx (do_pv (pv 1))) da_nil (by exact rfl)) (by exact rfl)) (by decide) (by exact rfl) (by exact rfl))) (blkOk_by (by exact rfl)) (by decide) (fun _ _ _ _ _ => (dg_name sc_room_line.nd (by exact rfl) (Or.inl (by exact rfl)) (Or.inr (by exact rfl)))) (fun _ _ _ _ _ => dts_nil) (fun _ _ _ _ _ => (do_ct call_str_int im_str (by exact rfl) x.z_str (by decide +kernel) (da_cons (dx_pv (pv 6)) da_nil (by exact rfl)) (by decide) (by decide) (by exact rfl) (by exact rfl))) (by exact fun _ => rfl))) (by exact rfl) (by exact rfl) (by exact rfl)) (by exact rfl) (Or.inl (by exact rfl)))
    (ds_cons (ds_set sc_room_line.nd (by exact rfl) (by first | exact Or.inl (by exact rfl) | exact Or.inr (by exact rfl)) (do_join (by exact rfl) (DO.dx (do_C pe_str fun _ => .str _)) (DO.dx (do_comp (own := [("beat", 7), ("urgency", 6)]) (by exact rfl) sc_room_line.nd (di_seq (by exact rfl) (do_app (ok_comings_to x) hg (hr.mono (by decide)) (by exact rfl) x.m_comings_to x.F_comings_to.kp (b_comings_to x) takesD (da_cons (DO.dx (do_pv (pv 0))) (da_cons (DO.dx (do_pv (pv 1))) da_nil (by exact rfl)) (by exact rfl)) (by decide) (by exact rfl) (by exact rfl))) (blkOk_by (by exact rfl)) (by decide) (fun _ _ _ _ _ => (dg_tup (by exact rfl) (by exact rfl) (dgs_cons (dg_name sc_room_line.nd (by exact rfl) (Or.inl (by exact rfl)) (Or.inr (by exact rfl))) (dgs_cons (dg_name sc_room_line.nd (by exact rfl) (Or.inl (by exact rfl)) (Or.inr (by exact rfl))) dgs_nil (by exact rfl)) (by exact rfl)) (by exact rfl) (by exact rfl))) (fun _ _ _ _ _ => dts_nil) (fun _ _ _ _ _ => (do_js (DJ.cons (do_fmt (do_pv (pv 7))) (DJ.cons (do_C pe_str fun _ => .str _) (DJ.cons (do_fmt (do_pv (pv 6))) DJ.nil))))) (by exact fun _ => rfl))) (by exact rfl) (by exact rfl) (by exact rfl)) (by exact rfl) (Or.inl (by exact rfl)))
    (ds_cons (ds_set sc_room_line.nd (by exact rfl) (by first | exact Or.inl (by exact rfl) | exact Or.inr (by exact rfl)) (do_cb call_len im_len (by exact rfl) x.z_len (by decide +kernel) (da_cons (DO.dx (do_comp (own := [("word", 8), ("place", 9), ("_", 10)]) (by exact rfl) sc_room_line.nd (di_seq (by exact rfl) (do_ix ix_seq im_ix (dx_pv (pv 0)) (DO.dx (do_C pe_int fun _ => .int _)) (by exact fun _ _ => rfl))) (blkOk_by (by exact rfl)) (by decide) (fun _ _ _ _ _ => (dg_tup (by exact rfl) (by exact rfl) (dgs_cons (dg_name sc_room_line.nd (by exact rfl) (Or.inl (by exact rfl)) (Or.inr (by exact rfl))) (dgs_cons (dg_name sc_room_line.nd (by exact rfl) (Or.inl (by exact rfl)) (Or.inr (by exact rfl))) (dgs_cons (dg_name sc_room_line.nd (by exact rfl) (Or.inl (by exact rfl)) (Or.inr (by exact rfl))) (dgs_cons (dg_name sc_room_line.nd (by exact rfl) (Or.inl (by exact rfl)) (Or.inr (by exact rfl))) dgs_nil (by exact rfl)) (by exact rfl)) (by exact rfl)) (by exact rfl)) (by exact rfl) (by exact rfl))) (fun _ _ _ _ _ => (dts_one (dw_and (db_cmp (or_eqZ (hu64 hr)) im_eqZ (dx_pv (pv 8)) (DO.dx (do_C pe_str fun _ => .str _)) (nomark _)) (dw_and1 (db_cmp (or_eqZ (hu64 hr)) im_eqZ (dx_pv (pv 9)) (dx_pv (pv 1)) (nomark _)))).db)) (fun _ _ _ _ _ => (do_pv (pv 9))) (by exact fun _ => rfl))) da_nil (by exact rfl)) (by decide) (by decide) (by exact rfl) (by exact rfl)) (by exact rfl) (Or.inl (by exact rfl)))
    (ds_cons (ds_ret (do_join (by exact rfl) (DO.dx (do_C pe_str fun _ => .str _)) (DO.dx (do_lst (da_cons (DO.dx (do_ct call_str_int im_str (by exact rfl) x.z_str (by decide +kernel) (da_cons (dx_pv (pv 1)) da_nil (by exact rfl)) (by decide) (by decide) (by exact rfl) (by exact rfl))) (da_cons (DO.dx (do_pv (pv 2))) (da_cons (DO.dx (do_ite (db_x (dx_pv (pv 3)) (by exact fun _ => rfl) (by exact rfl)) (do_pv (pv 3)) (do_C pe_str fun _ => .str _))) (da_cons (DO.dx (do_ite (db_x (dx_pv (pv 4)) (by exact fun _ => rfl) (by exact rfl)) (do_pv (pv 4)) (do_C pe_str fun _ => .str _))) (da_cons (DO.dx (do_ct call_str_int im_str (by exact rfl) x.z_str (by decide +kernel) (da_cons (dx_pv (pv 5)) da_nil (by exact rfl)) (by decide) (by decide) (by exact rfl) (by exact rfl))) da_nil (by exact rfl)) (by exact rfl)) (by exact rfl)) (by exact rfl)) (by exact rfl)))) (by exact rfl) (by exact rfl) (by exact rfl)))
    ds_nil))))))
theorem sc__law_pick : FnScope ["box", "some"] ["box", "some"] (defScope (top 13)) := ⟨rfl, rfl, rfl, by decide +kernel, rfl, by decide +kernel, by decide +kernel⟩
theorem b__law_pick (x : Fx K mg) : Binds K x.d__law_pick ["box", "some"] [] := x.F__law_pick.bindsN fun _ _ _ _ _ _ us hl => match us, hl with | [_, _], _ => rfl
def g__law_pick : En → Rz Fl := (sSeq (sRet (f2 pIx (xVar 1) (xO (oApp 2 (runF 4 g__law_take) (aCons (xVar 0) (aCons (xO (fL pLen (aCons (xVar 1) (fun ρ => .ok [] ρ)))) (fun ρ => .ok [] ρ))))))) sNil)
theorem ok__law_pick (x : Fx K mg) : FnG P w K mg base 2 x.a__law_pick x.d__law_pick ["box", "some"] (spZ ⟨K, []⟩ 2 (runF 2 g__law_pick)) :=
  fnZ_of (T := ⟨K, []⟩) (N := ["box", "some"]) (k := 1) rfl x.F__law_pick sc__law_pick (by decide) fun cd A outer s H E hg hr =>
    (ds_cons (ds_ret (do_ix ix_seq im_ix (dx_pv (pv 1)) (DO.dx (do_app (ok__law_take x) hg (hr.mono (by decide)) (by exact rfl) x.m__law_take x.F__law_take.kp (b__law_take x) takesD (da_cons (dx_pv (pv 0)) (da_cons (DO.dx (do_cb call_len im_len (by exact rfl) x.z_len (by decide +kernel) (da_cons (dx_pv (pv 1)) da_nil (by exact rfl)) (by decide) (by decide) (by exact rfl) (by exact rfl))) da_nil (by exact rfl)) (by exact rfl)) (by decide) (by exact rfl) (by exact rfl))) (by exact fun _ _ => rfl)))
    ds_nil)
theorem sc__law_lot : FnScope ["box", "most", "one_of", "at"] ["box", "most", "one_of"] (defScope (top 14)) := ⟨rfl, rfl, rfl, by decide +kernel, rfl, by decide +kernel, by decide +kernel⟩
theorem b__law_lot (x : Fx K mg) : Binds K x.d__law_lot ["box", "most", "one_of"] [] := x.F__law_lot.bindsN fun _ _ _ _ _ _ us hl => match us, hl with | [_, _, _], _ => rfl
def c1__law_lot : En → Rz Bool := (bOf (f2 pEqZ (xO (oApp 2 (runF 4 g__law_take) (aCons (xVar 0) (aCons (xO (oVar 2)) (fun ρ => .ok [] ρ))))) (xO (oC (.int 0)))))
def g__law_lot : En → Rz Fl := (sSeq (sRet (fL pTuple (aCons (xO (oComp (iArg iRange1 (aCons (xVar 1) (fun ρ => .ok [] ρ))) (gN 3) c1__law_lot (oVar 3) [3])) (fun ρ => .ok [] ρ)))) sNil)
theorem ok__law_lot (x : Fx K mg) : FnG P w K mg base 2 x.a__law_lot x.d__law_lot ["box", "most", "one_of"] (spZ ⟨K, []⟩ 3 (runF 4 g__law_lot)) :=
  fnZ_of (T := ⟨K, []⟩) (N := ["box", "most", "one_of", "at"]) (k := 1) rfl x.F__law_lot sc__law_lot (by decide) fun cd A outer s H E hg hr =>
    (ds_cons (ds_ret (do_ct call_tuple_of im_tuple (by exact rfl) x.z_tuple (by decide +kernel) (da_cons (DO.dx (do_comp (own := [("at", 3)]) (by exact rfl) sc__law_lot.nd (di_rng1 (by exact rfl) x.z_range (da_cons (dx_pv (pv 1)) da_nil (by exact rfl)) (by exact rfl)) (blkOk_by (by exact rfl)) (by decide) (fun _ _ _ _ _ => (dg_name sc__law_lot.nd (by exact rfl) (Or.inl (by exact rfl)) (Or.inr (by exact rfl)))) (fun _ _ _ _ _ => (dts_one (db_cmp (or_eqZ (hu64 hr)) im_eqZ (DO.dx (do_app (ok__law_take x) hg (hr.mono (by decide)) (by exact rfl) x.m__law_take x.F__law_take.kp (b__law_take x) takes0 (da_cons (dx_pv (pv 0)) (da_cons (DO.dx (do_pv (pv 2))) da_nil (by exact rfl)) (by exact rfl)) (by decide) (by exact rfl) (by exact rfl))) (DO.dx (do_C pe_int fun _ => .int _)) (nomark _)))) (fun _ _ _ _ _ => (do_pv (pv 3))) (by exact fun _ => rfl))) da_nil (by exact rfl)) (by decide) (by decide) (by exact rfl) (by exact rfl)))
    ds_nil)
theorem sc__law_drawn : FnScope ["state", "lines", "room", "number", "now", "end", "house", "people", "told", "sign", "comes", "word", "there", "coming", "lost", "place", "beat", "urgency", "tail", "head", "length", "width", "shut", "step"] ["state"] (defScope (top 19)) := ⟨rfl, rfl, rfl, by decide +kernel, rfl, by decide +kernel, by decide +kernel⟩
theorem b__law_drawn (x : Fx K mg) : Binds K x.d__law_drawn ["state"] [] := x.F__law_drawn.bindsN fun _ _ _ _ _ _ us hl => match us, hl with | [_], _ => rfl
def e1__law_drawn : En → Rz Va := (oApp 1 (runF 1 g__law_word) (aCons (xO (oVar 23)) (fun ρ => .ok [] ρ)))
def l2__law_drawn : En → Rz Fl := (sSeq (sAsg (gTupZ 5 (gConsZ (gN 18) (gConsZ (gN 19) (gConsZ (gN 20) (gConsZ (gN 21) (gConsZ (gN 22) gNilZ)))))) (f2 pIx (xO (f2 pIx (xVar 6) (xO (oC (.int 1))))) (xVar 3))) (sSeq (sSet 11 (oIte (bOr (bOf (f2 pIn (xVar 4) (xVar 22))) (bOf (f2 pEqZ (xVar 21) (xO (oC (.int 0)))))) (oC (.str "shut")) (oC (.str "open")))) (sSeq (sApp 1 (f2 pAdd (xO (f2 pAdd (xO (f2 pAdd (xO (f2 pAdd (xO (f2 pAdd (xO (f2 pAdd (xO (f2 pAdd (xO (f2 pAdd (xO (f2 pAdd (xO (f2 pAdd (xO (fL pStr (aCons (xVar 3) (fun ρ => .ok [] ρ)))) (xO (oC (.str " "))))) (xO (fL pStr (aCons (xVar 18) (fun ρ => .ok [] ρ)))))) (xO (oC (.str ">"))))) (xO (fL pStr (aCons (xVar 19) (fun ρ => .ok [] ρ)))))) (xO (oC (.str " "))))) (xO (fL pStr (aCons (xVar 20) (fun ρ => .ok [] ρ)))))) (xO (oC (.str " "))))) (xO (fL pStr (aCons (xVar 21) (fun ρ => .ok [] ρ)))))) (xO (oC (.str " "))))) (xVar 11))) sNil)))
def e3__law_drawn : En → Rz Va := (f2 pAdd (xO (f2 pAdd (xO (fL pStr (aCons (xVar 16) (fun ρ => .ok [] ρ)))) (xO (oC (.str ":"))))) (xO (fL pStr (aCons (xVar 17) (fun ρ => .ok [] ρ)))))
def l4__law_drawn : En → Rz Fl := (sSeq (sIf (bAnd (bOf (f2 pEqZ (xVar 15) (xVar 2))) (bOf (f2 pEqZ (xVar 11) (xO (oC (.str "lost")))))) (sSeq (sSet 14 (f2 pAdd (xVar 14) (xO (oC (.int 1))))) sNil) (sSeq (sIf (bAnd (bOf (f2 pEqZ (xVar 15) (xVar 2))) (bOf (f2 (pCmp fun i j => decide (i ≤ j)) (xVar 16) (xVar 4)))) (sSeq (sApp 12 (fL pStr (aCons (xVar 17) (fun ρ => .ok [] ρ)))) sNil) (sSeq (sIf (bOf (f2 pEqZ (xVar 15) (xVar 2))) (sSeq (sApp 13 (oTup (aCons (xO (oVar 16)) (aCons (xO (oVar 17)) (fun ρ => .ok [] ρ))))) sNil) sNil) sNil)) sNil)) sNil)
def l5__law_drawn : En → Rz Fl := (sSeq (sSet 9 (oIte (bOf (f2 pEqZ (xO (f2 pIx (xO (f2 pIx (xVar 6) (xO (oC (.int 0))))) (xVar 2))) (xO (oC (.int 1))))) (oC (.str ">")) (oIte (bX (xO (oApp 3 (runF 3 g__law_clear) (aCons (xO (oVar 6)) (aCons (xO (oVar 2)) (aCons (xO (oVar 4)) (fun ρ => .ok [] ρ))))))) (oC (.str ".")) (oC (.str "~"))))) (sSeq (sPar3 12 13 14 (oLst (fun ρ => .ok [] ρ)) (oLst (fun ρ => .ok [] ρ)) (oC (.int 0))) (sSeq (sFor (iSeq (oVar 7)) (gTupZ 4 (gConsZ (gN 11) (gConsZ (gN 15) (gConsZ (gN 16) (gConsZ (gN 17) gNilZ))))) l4__law_drawn) (sSeq (sSet 10 (oJoin (xO (oC (.str ","))) (xO (oComp (iSeq (fL pSorted (aCons (xVar 13) (fun ρ => .ok [] ρ)))) (gTupZ 2 (gConsZ (gN 16) (gConsZ (gN 17) gNilZ))) bYes e3__law_drawn [16, 17])))) (sSeq (sApp 1 (oJoin (xO (oC (.str " "))) (xO (oLst (aCons (xO (fL pStr (aCons (xVar 2) (fun ρ => .ok [] ρ)))) (aCons (xO (oVar 9)) (aCons (xO (oIte (bOf (f2 pNeZ (xVar 12) (xO (oLst (fun ρ => .ok [] ρ))))) (oJoin (xO (oC (.str ""))) (xO (fL pSorted (aCons (xVar 12) (fun ρ => .ok [] ρ))))) (oC (.str "-")))) (aCons (xO (oIte (bOf (f2 pNeZ (xVar 10) (xO (oC (.str ""))))) (oVar 10) (oC (.str "-")))) (aCons (xO (fL pStr (aCons (xVar 14) (fun ρ => .ok [] ρ)))) (fun ρ => .ok [] ρ)))))))))) sNil)))))
def g__law_drawn : En → Rz Fl := (sSeq (sAsg (gTupZ 5 (gConsZ (gN 4) (gConsZ (gN 5) (gConsZ (gN 6) (gConsZ (gN 7) (gConsZ (gN 8) gNilZ)))))) (oVar 0)) (sSeq (sSet 1 (oLst (aCons (xO (f2 pAdd (xO (f2 pAdd (xO (f2 pAdd (xO (oC (.str "beat "))) (xO (fL pStr (aCons (xVar 4) (fun ρ => .ok [] ρ)))))) (xO (oC (.str " of "))))) (xO (fL pStr (aCons (xVar 5) (fun ρ => .ok [] ρ)))))) (fun ρ => .ok [] ρ)))) (sSeq (sFor (iArg iRange1 (aCons (xO (fL pLen (aCons (xO (f2 pIx (xVar 6) (xO (oC (.int 0))))) (fun ρ => .ok [] ρ)))) (fun ρ => .ok [] ρ))) (gN 2) l5__law_drawn) (sSeq (sFor (iArg iRange1 (aCons (xO (fL pLen (aCons (xO (f2 pIx (xVar 6) (xO (oC (.int 1))))) (fun ρ => .ok [] ρ)))) (fun ρ => .ok [] ρ))) (gN 3) l2__law_drawn) (sSeq (sRet (oJoin (xO (oC (.str "\n"))) (xO (f2 pAdd (xVar 1) (xO (oLst (aCons (xO (f2 pAdd (xO (oC (.str "told "))) (xO (oIte (bOf (f2 pNeZ (xVar 8) (xO (oTup (fun ρ => .ok [] ρ))))) (oJoin (xO (oC (.str " "))) (xO (oComp (iSeq (oVar 8)) (gN 23) bYes e1__law_drawn [23]))) (oC (.str "-")))))) (fun ρ => .ok [] ρ)))))))) sNil)))))
theorem ok__law_drawn (x : Fx K mg) : FnG P w K mg base 2 x.a__law_drawn x.d__law_drawn ["state"] (spZ ⟨K, []⟩ 1 (runF 24 g__law_drawn)) :=
  fnZ_of (T := ⟨K, []⟩) (N := ["state", "lines", "room", "number", "now", "end", "house", "people", "told", "sign", "comes", "word", "there", "coming", "lost", "place", "beat", "urgency", "tail", "head", "length", "width", "shut", "step"]) (k := 1) rfl x.F__law_drawn sc__law_drawn (by decide) fun cd A outer s H E hg hr =>
    (ds_cons (ds_asg (do_pv (pv 0)) (dg_tup (by exact rfl) (by exact rfl) (dgs_cons (dg_name sc__law_drawn.nd (by exact rfl) (by first | exact Or.inl (by exact rfl) | exact Or.inr (by exact rfl)) (Or.inl (by exact rfl))) (dgs_cons (dg_name sc__law_drawn.nd (by exact rfl) (by first | exact Or.inl (by exact rfl) | exact Or.inr (by exact rfl)) (Or.inl (by exact rfl))) (dgs_cons (dg_name sc__law_drawn.nd (by exact rfl) (by first | exact Or.inl (by exact rfl) | exact Or.inr (by exact rfl)) (Or.inl (by exact rfl))) (dgs_cons (dg_name sc__law_drawn.nd (by exact rfl) (by first | exact Or.inl (by exact rfl) | exact Or.inr (by exact rfl)) (Or.inl (by exact rfl))) (dgs_cons (dg_name sc__law_drawn.nd (by exact rfl) (by first | exact Or.inl (by exact rfl) | exact Or.inr (by exact rfl)) (Or.inl (by exact rfl))) dgs_nil (by exact rfl)) (by exact rfl)) (by exact rfl)) (by exact rfl)) (by exact rfl)) (by exact rfl) (by exact rfl)) (by exact rfl) (by exact rfl) (by exact rfl))
    (ds_cons (ds_set sc__law_drawn.nd (by exact rfl) (by first | exact Or.inl (by exact rfl) | exact Or.inr (by exact rfl)) (do_lst (da_cons (DO.dx (do_op or_add im_add (DO.dx (do_op or_add im_add (DO.dx (do_op or_add im_add (DO.dx (do_C pe_str fun _ => .str _)) (DO.dx (do_ct call_str_int im_str (by exact rfl) x.z_str (by decide +kernel) (da_cons (dx_pv (pv 4)) da_nil (by exact rfl)) (by decide) (by decide) (by exact rfl) (by exact rfl))))) (DO.dx (do_C pe_str fun _ => .str _)))) (DO.dx (do_ct call_str_int im_str (by exact rfl) x.z_str (by decide +kernel) (da_cons (dx_pv (pv 5)) da_nil (by exact rfl)) (by decide) (by decide) (by exact rfl) (by exact rfl))))) da_nil (by exact rfl))) (by exact rfl) (Or.inl (by exact rfl)))
    (ds_cons (ds_for passD (by exact rfl) (di_rng1 (by exact rfl) x.z_range (da_cons (DO.dx (do_cb call_len im_len (by exact rfl) x.z_len (by decide +kernel) (da_cons (DO.dx (do_ix ix_seq im_ix (dx_pv (pv 6)) (DO.dx (do_C pe_int fun _ => .int _)) (by exact fun _ _ => rfl))) da_nil (by exact rfl)) (by decide) (by decide) (by exact rfl) (by exact rfl))) da_nil (by exact rfl)) (by exact rfl)) (dg_name sc__law_drawn.nd (by exact rfl) (by first | exact Or.inl (by exact rfl) | exact Or.inr (by exact rfl)) (Or.inl (by exact rfl))) (ds_cons (ds_set sc__law_drawn.nd (by exact rfl) (by first | exact Or.inl (by exact rfl) | exact Or.inr (by exact rfl)) (do_ite (db_cmp (or_eqZ (hu64 hr)) im_eqZ (DO.dx (do_ix ix_seq im_ix (DO.dx (do_ix ix_seq im_ix (dx_pv (pv 6)) (DO.dx (do_C pe_int fun _ => .int _)) (by exact fun _ _ => rfl))) (dx_pv (pv 2)) (by exact fun _ _ => rfl))) (DO.dx (do_C pe_int fun _ => .int _)) (nomark _)) (do_C pe_str fun _ => .str _) (do_ite (db_x (DO.dx (do_app (ok__law_clear x) hg (hr.mono (by decide)) (by exact rfl) x.m__law_clear x.F__law_clear.kp (b__law_clear x) takesD (da_cons (DO.dx (do_pv (pv 6))) (da_cons (DO.dx (do_pv (pv 2))) (da_cons (DO.dx (do_pv (pv 4))) da_nil (by exact rfl)) (by exact rfl)) (by exact rfl)) (by decide) (by exact rfl) (by exact rfl))) (by exact fun _ => rfl) (by exact rfl)) (do_C pe_str fun _ => .str _) (do_C pe_str fun _ => .str _))) (by exact rfl) (Or.inl (by exact rfl)))
    (ds_cons (ds_par3 (by exact rfl) sc__law_drawn.nd (by exact rfl) (by exact rfl) (by exact rfl) (by decide) (by decide) (by decide) (by exact rfl) (by exact rfl) (by exact rfl) (do_lst da_nil) (do_lst da_nil) (do_C pe_int fun _ => .int _) (by exact rfl) (by exact rfl) (by exact rfl) (by exact rfl) (by exact rfl))
    (ds_cons (ds_for passD (by exact rfl) (di_seq (by exact rfl) (do_pv (pv 7))) (dg_tup (by exact rfl) (by exact rfl) (dgs_cons (dg_name sc__law_drawn.nd (by exact rfl) (by first | exact Or.inl (by exact rfl) | exact Or.inr (by exact rfl)) (Or.inl (by exact rfl))) (dgs_cons (dg_name sc__law_drawn.nd (by exact rfl) (by first | exact Or.inl (by exact rfl) | exact Or.inr (by exact rfl)) (Or.inl (by exact rfl))) (dgs_cons (dg_name sc__law_drawn.nd (by exact rfl) (by first | exact Or.inl (by exact rfl) | exact Or.inr (by exact rfl)) (Or.inl (by exact rfl))) (dgs_cons (dg_name sc__law_drawn.nd (by exact rfl) (by first | exact Or.inl (by exact rfl) | exact Or.inr (by exact rfl)) (Or.inl (by exact rfl))) dgs_nil (by exact rfl)) (by exact rfl)) (by exact rfl)) (by exact rfl)) (by exact rfl) (by exact rfl)) (ds_cons (ds_if (dw_and (db_cmp (or_eqZ (hu64 hr)) im_eqZ (dx_pv (pv 15)) (dx_pv (pv 2)) (nomark _)) (dw_and1 (db_cmp (or_eqZ (hu64 hr)) im_eqZ (dx_pv (pv 11)) (DO.dx (do_C pe_str fun _ => .str _)) (nomark _)))).db (ds_cons (ds_set sc__law_drawn.nd (by exact rfl) (by first | exact Or.inl (by exact rfl) | exact Or.inr (by exact rfl)) (do_op or_add im_add (dx_pv (pv 14)) (DO.dx (do_C pe_int fun _ => .int _))) (by exact rfl) (Or.inl (by exact rfl)))
    ds_nil) (ds_cons (ds_if (dw_and (db_cmp (or_eqZ (hu64 hr)) im_eqZ (dx_pv (pv 15)) (dx_pv (pv 2)) (nomark _)) (dw_and1 (db_cmp op_le im_cmp (dx_pv (pv 16)) (dx_pv (pv 4)) (nomark _)))).db (ds_cons (ds_app (pv 12) (do_ct call_str_int im_str (by exact rfl) x.z_str (by decide +kernel) (da_cons (dx_pv (pv 17)) da_nil (by exact rfl)) (by decide) (by decide) (by exact rfl) (by exact rfl)) (by exact rfl) (by exact rfl) (by exact rfl) (by exact rfl) (by exact rfl))
    ds_nil) (ds_cons (ds_if (db_cmp (or_eqZ (hu64 hr)) im_eqZ (dx_pv (pv 15)) (dx_pv (pv 2)) (nomark _)) (ds_cons (ds_app (pv 13) (do_tup (da_cons (DO.dx (do_pv (pv 16))) (da_cons (DO.dx (do_pv (pv 17))) da_nil (by exact rfl)) (by exact rfl))) (by exact rfl) (by exact rfl) (by exact rfl) (by exact rfl) (by exact rfl))
    ds_nil) ds_nil)
    ds_nil))
    ds_nil))
    ds_nil) (by exact fun _ => rfl))
    (ds_cons (ds_set sc__law_drawn.nd (by exact rfl) (by first | exact Or.inl (by exact rfl) | exact Or.inr (by exact rfl)) (do_join (by exact rfl) (DO.dx (do_C pe_str fun _ => .str _)) (DO.dx (do_comp (own := [("beat", 16), ("urgency", 17)]) (by exact rfl) sc__law_drawn.nd (di_seq (by exact rfl) (do_cb (cr_sortD (hu70 hr)) im_sorted (by exact rfl) x.z_sorted (by decide +kernel) (da_cons (dx_pv (pv 13)) da_nil (by exact rfl)) (by decide) (by decide) (by exact rfl) (by exact rfl))) (blkOk_by (by exact rfl)) (by decide) (fun _ _ _ _ _ => (dg_tup (by exact rfl) (by exact rfl) (dgs_cons (dg_name sc__law_drawn.nd (by exact rfl) (Or.inl (by exact rfl)) (Or.inr (by exact rfl))) (dgs_cons (dg_name sc__law_drawn.nd (by exact rfl) (Or.inl (by exact rfl)) (Or.inr (by exact rfl))) dgs_nil (by exact rfl)) (by exact rfl)) (by exact rfl) (by exact rfl))) (fun _ _ _ _ _ => dts_nil) (fun _ _ _ _ _ => (do_op or_add im_add (DO.dx (do_op or_add im_add (DO.dx (do_ct call_str_int im_str (by exact rfl) x.z_str (by decide +kernel) (da_cons (dx_pv (pv 16)) da_nil (by exact rfl)) (by decide) (by decide) (by exact rfl) (by exact rfl))) (DO.dx (do_C pe_str fun _ => .str _)))) (DO.dx (do_ct call_str_int im_str (by exact rfl) x.z_str (by decide +kernel) (da_cons (dx_pv (pv 17)) da_nil (by exact rfl)) (by decide) (by decide) (by exact rfl) (by exact rfl))))) (by exact fun _ => rfl))) (by exact rfl) (by exact rfl) (by exact rfl)) (by exact rfl) (Or.inl (by exact rfl)))
    (ds_cons (ds_app (pv 1) (do_join (by exact rfl) (DO.dx (do_C pe_str fun _ => .str _)) (DO.dx (do_lst (da_cons (DO.dx (do_ct call_str_int im_str (by exact rfl) x.z_str (by decide +kernel) (da_cons (dx_pv (pv 2)) da_nil (by exact rfl)) (by decide) (by decide) (by exact rfl) (by exact rfl))) (da_cons (DO.dx (do_pv (pv 9))) (da_cons (DO.dx (do_ite (db_cmp (or_neZ (hu64 hr)) im_neZ (dx_pv (pv 12)) (DO.dx (do_lst da_nil)) (nomark _)) (do_join (by exact rfl) (DO.dx (do_C pe_str fun _ => .str _)) (DO.dx (do_cb (cr_sortD (hu70 hr)) im_sorted (by exact rfl) x.z_sorted (by decide +kernel) (da_cons (dx_pv (pv 12)) da_nil (by exact rfl)) (by decide) (by decide) (by exact rfl) (by exact rfl))) (by exact rfl) (by exact rfl) (by exact rfl)) (do_C pe_str fun _ => .str _))) (da_cons (DO.dx (do_ite (db_cmp (or_neZ (hu64 hr)) im_neZ (dx_pv (pv 10)) (DO.dx (do_C pe_str fun _ => .str _)) (nomark _)) (do_pv (pv 10)) (do_C pe_str fun _ => .str _))) (da_cons (DO.dx (do_ct call_str_int im_str (by exact rfl) x.z_str (by decide +kernel) (da_cons (dx_pv (pv 14)) da_nil (by exact rfl)) (by decide) (by decide) (by exact rfl) (by exact rfl))) da_nil (by exact rfl)) (by exact rfl)) (by exact rfl)) (by exact rfl)) (by exact rfl)))) (by exact rfl) (by exact rfl) (by exact rfl)) (by exact rfl) (by exact rfl) (by exact rfl) (by exact rfl) (by exact rfl))
    ds_nil))))) (by exact fun _ => rfl))
    (ds_cons (ds_for passD (by exact rfl) (di_rng1 (by exact rfl) x.z_range (da_cons (DO.dx (do_cb call_len im_len (by exact rfl) x.z_len (by decide +kernel) (da_cons (DO.dx (do_ix ix_seq im_ix (dx_pv (pv 6)) (DO.dx (do_C pe_int fun _ => .int _)) (by exact fun _ _ => rfl))) da_nil (by exact rfl)) (by decide) (by decide) (by exact rfl) (by exact rfl))) da_nil (by exact rfl)) (by exact rfl)) (dg_name sc__law_drawn.nd (by exact rfl) (by first | exact Or.inl (by exact rfl) | exact Or.inr (by exact rfl)) (Or.inl (by exact rfl))) (ds_cons (ds_asg (do_ix ix_seq im_ix (DO.dx (do_ix ix_seq im_ix (dx_pv (pv 6)) (DO.dx (do_C pe_int fun _ => .int _)) (by exact fun _ _ => rfl))) (dx_pv (pv 3)) (by exact fun _ _ => rfl)) (dg_tup (by exact rfl) (by exact rfl) (dgs_cons (dg_name sc__law_drawn.nd (by exact rfl) (by first | exact Or.inl (by exact rfl) | exact Or.inr (by exact rfl)) (Or.inl (by exact rfl))) (dgs_cons (dg_name sc__law_drawn.nd (by exact rfl) (by first | exact Or.inl (by exact rfl) | exact Or.inr (by exact rfl)) (Or.inl (by exact rfl))) (dgs_cons (dg_name sc__law_drawn.nd (by exact rfl) (by first | exact Or.inl (by exact rfl) | exact Or.inr (by exact rfl)) (Or.inl (by exact rfl))) (dgs_cons (dg_name sc__law_drawn.nd (by exact rfl) (by first | exact Or.inl (by exact rfl) | exact Or.inr (by exact rfl)) (Or.inl (by exact rfl))) (dgs_cons (dg_name sc__law_drawn.nd (by exact rfl) (by first | exact Or.inl (by exact rfl) | exact Or.inr (by exact rfl)) (Or.inl (by exact rfl))) dgs_nil (by exact rfl)) (by exact rfl)) (by exact rfl)) (by exact rfl)) (by exact rfl)) (by exact rfl) (by exact rfl)) (by exact rfl) (by exact rfl) (by exact rfl))
    (ds_cons (ds_set sc__law_drawn.nd (by exact rfl) (by first | exact Or.inl (by exact rfl) | exact Or.inr (by exact rfl)) (do_ite (dw_or (db_cmp (or_in (hu65 hr)) im_in (dx_pv (pv 4)) (dx_pv (pv 22)) (by with_unfolding_all rfl)) (dw_or1 (db_cmp (or_eqZ (hu64 hr)) im_eqZ (dx_pv (pv 21)) (DO.dx (do_C pe_int fun _ => .int _)) (nomark _)))).db (do_C pe_str fun _ => .str _) (do_C pe_str fun _ => .str _)) (by exact rfl) (Or.inl (by exact rfl)))
    (ds_cons (ds_app (pv 1) (do_op or_add im_add (DO.dx (do_op or_add im_add (DO.dx (do_op or_add im_add (DO.dx (do_op or_add im_add (DO.dx (do_op or_add im_add (DO.dx (do_op or_add im_add (DO.dx (do_op or_add im_add (DO.dx (do_op or_add im_add (DO.dx (do_op or_add im_add (DO.dx (do_op or_add im_add (DO.dx (do_ct call_str_int im_str (by exact rfl) x.z_str (by decide +kernel) (da_cons (dx_pv (pv 3)) da_nil (by exact rfl)) (by decide) (by decide) (by exact rfl) (by exact rfl))) (DO.dx (do_C pe_str fun _ => .str _)))) (DO.dx (do_ct call_str_int im_str (by exact rfl) x.z_str (by decide +kernel) (da_cons (dx_pv (pv 18)) da_nil (by exact rfl)) (by decide) (by decide) (by exact rfl) (by exact rfl))))) (DO.dx (do_C pe_str fun _ => .str _)))) (DO.dx (do_ct call_str_int im_str (by exact rfl) x.z_str (by decide +kernel) (da_cons (dx_pv (pv 19)) da_nil (by exact rfl)) (by decide) (by decide) (by exact rfl) (by exact rfl))))) (DO.dx (do_C pe_str fun _ => .str _)))) (DO.dx (do_ct call_str_int im_str (by exact rfl) x.z_str (by decide +kernel) (da_cons (dx_pv (pv 20)) da_nil (by exact rfl)) (by decide) (by decide) (by exact rfl) (by exact rfl))))) (DO.dx (do_C pe_str fun _ => .str _)))) (DO.dx (do_ct call_str_int im_str (by exact rfl) x.z_str (by decide +kernel) (da_cons (dx_pv (pv 21)) da_nil (by exact rfl)) (by decide) (by decide) (by exact rfl) (by exact rfl))))) (DO.dx (do_C pe_str fun _ => .str _)))) (dx_pv (pv 11))) (by exact rfl) (by exact rfl) (by exact rfl) (by exact rfl) (by exact rfl))
    ds_nil))) (by exact fun _ => rfl))
    (ds_cons (ds_ret (do_join (by exact rfl) (DO.dx (do_C pe_str fun _ => .str _)) (DO.dx (do_op or_add im_add (dx_pv (pv 1)) (DO.dx (do_lst (da_cons (DO.dx (do_op or_add im_add (DO.dx (do_C pe_str fun _ => .str _)) (DO.dx (do_ite (db_cmp (or_neZ (hu64 hr)) im_neZ (dx_pv (pv 8)) (DO.dx (do_tup da_nil)) (nomark _)) (do_join (by exact rfl) (DO.dx (do_C pe_str fun _ => .str _)) (DO.dx (do_comp (own := [("step", 23)]) (by exact rfl) sc__law_drawn.nd (di_seq (by exact rfl) (do_pv (pv 8))) (blkOk_by (by exact rfl)) (by decide) (fun _ _ _ _ _ => (dg_name sc__law_drawn.nd (by exact rfl) (Or.inl (by exact rfl)) (Or.inr (by exact rfl)))) (fun _ _ _ _ _ => dts_nil) (fun _ _ _ _ _ => (do_app (ok__law_word x) hg (hr.mono (by decide)) (by exact rfl) x.m__law_word x.F__law_word.kp (b__law_word x) takes0 (da_cons (DO.dx (do_pv (pv 23))) da_nil (by exact rfl)) (by decide) (by exact rfl) (by exact rfl))) (by exact fun _ => rfl))) (by exact rfl) (by exact rfl) (by exact rfl)) (do_C pe_str fun _ => .str _))))) da_nil (by exact rfl)))))) (by exact rfl) (by exact rfl) (by exact rfl)))
    ds_nil)))))
theorem sc_drawn : FnScope ["state", "lines", "now", "end", "house", "_", "told", "room", "number"] ["state"] (defScope (top 9)) := ⟨rfl, rfl, rfl, by decide +kernel, rfl, by decide +kernel, by decide +kernel⟩
theorem b_drawn (x : Fx K mg) : Binds K x.d_drawn ["state"] [] := x.F_drawn.bindsN fun _ _ _ _ _ _ us hl => match us, hl with | [_], _ => rfl
def e1_drawn : En → Rz Va := (oApp 2 (runF 8 g_passage_now) (aCons (xO (oVar 0)) (aCons (xO (oVar 8)) (fun ρ => .ok [] ρ))))
def e2_drawn : En → Rz Va := (oApp 2 (runF 11 g_room_line) (aCons (xO (oVar 0)) (aCons (xO (oVar 7)) (fun ρ => .ok [] ρ))))
def g_drawn : En → Rz Fl := (sSeq (sAsg (gTupZ 5 (gConsZ (gN 2) (gConsZ (gN 3) (gConsZ (gN 4) (gConsZ (gN 5) (gConsZ (gN 6) gNilZ)))))) (oVar 0)) (sSeq (sSet 1 (oLst (aCons (xO (oJs [(oC (.str "beat ")), (oFmt (oVar 2)), (oC (.str " of ")), (oFmt (oVar 3))] Str.empty)) (fun ρ => .ok [] ρ)))) (sSeq (sExt 1 (oComp (iArg iRange1 (aCons (xO (fL pLen (aCons (xO (f2 pIx (xVar 4) (xO (oC (.int 0))))) (fun ρ => .ok [] ρ)))) (fun ρ => .ok [] ρ))) (gN 7) bYes e2_drawn [7])) (sSeq (sExt 1 (oComp (iArg iRange1 (aCons (xO (fL pLen (aCons (xO (f2 pIx (xVar 4) (xO (oC (.int 1))))) (fun ρ => .ok [] ρ)))) (fun ρ => .ok [] ρ))) (gN 8) bYes e1_drawn [8])) (sSeq (sApp 1 (f2 pAdd (xO (oC (.str "told "))) (xO (oApp 1 (runF 2 g_step_words) (aCons (xO (oVar 6)) (fun ρ => .ok [] ρ)))))) (sSeq (sRet (oJoin (xO (oC (.str "\n"))) (xVar 1))) sNil))))))
theorem ok_drawn (x : Fx K mg) : FnG P w K mg base 3 x.a_drawn x.d_drawn ["state"] (spZ ⟨K, []⟩ 1 (runF 9 g_drawn)) :=
  fnZ_of (T := ⟨K, []⟩) (N := ["state", "lines", "now", "end", "house", "_", "told", "room", "number"]) (k := 2) rfl x.F_drawn sc_drawn (by decide) fun cd A outer s H E hg hr =>
    (ds_cons (ds_asg (do_pv (pv 0)) (dg_tup (by exact rfl) (by exact rfl) (dgs_cons (dg_name sc_drawn.nd (by exact rfl) (by first | exact Or.inl (by exact rfl) | exact Or.inr (by exact rfl)) (Or.inl (by exact rfl))) (dgs_cons (dg_name sc_drawn.nd (by exact rfl) (by first | exact Or.inl (by exact rfl) | exact Or.inr (by exact rfl)) (Or.inl (by exact rfl))) (dgs_cons (dg_name sc_drawn.nd (by exact rfl) (by first | exact Or.inl (by exact rfl) | exact Or.inr (by exact rfl)) (Or.inl (by exact rfl))) (dgs_cons (dg_name sc_drawn.nd (by exact rfl) (by first | exact Or.inl (by exact rfl) | exact Or.inr (by exact rfl)) (Or.inl (by exact rfl))) (dgs_cons (dg_name sc_drawn.nd (by exact rfl) (by first | exact Or.inl (by exact rfl) | exact Or.inr (by exact rfl)) (Or.inl (by exact rfl))) dgs_nil (by exact rfl)) (by exact rfl)) (by exact rfl)) (by exact rfl)) (by exact rfl)) (by exact rfl) (by exact rfl)) (by exact rfl) (by exact rfl) (by exact rfl))
    (ds_cons (ds_set sc_drawn.nd (by exact rfl) (by first | exact Or.inl (by exact rfl) | exact Or.inr (by exact rfl)) (do_lst (da_cons (DO.dx (do_js (DJ.cons (do_C pe_str fun _ => .str _) (DJ.cons (do_fmt (do_pv (pv 2))) (DJ.cons (do_C pe_str fun _ => .str _) (DJ.cons (do_fmt (do_pv (pv 3))) DJ.nil)))))) da_nil (by exact rfl))) (by exact rfl) (Or.inl (by exact rfl)))
    (ds_cons (ds_ext (pv 1) (do_comp (own := [("room", 7)]) (by exact rfl) sc_drawn.nd (di_rng1 (by exact rfl) x.z_range (da_cons (DO.dx (do_cb call_len im_len (by exact rfl) x.z_len (by decide +kernel) (da_cons (DO.dx (do_ix ix_seq im_ix (dx_pv (pv 4)) (DO.dx (do_C pe_int fun _ => .int _)) (by exact fun _ _ => rfl))) da_nil (by exact rfl)) (by decide) (by decide) (by exact rfl) (by exact rfl))) da_nil (by exact rfl)) (by exact rfl)) (blkOk_by (by exact rfl)) (by decide) (fun _ _ _ _ _ => (dg_name sc_drawn.nd (by exact rfl) (Or.inl (by exact rfl)) (Or.inr (by exact rfl)))) (fun _ _ _ _ _ => dts_nil) (fun _ _ _ _ _ => (do_app (ok_room_line x) hg (hr.mono (by decide)) (by exact rfl) x.m_room_line x.F_room_line.kp (b_room_line x) takes0 (da_cons (DO.dx (do_pv (pv 0))) (da_cons (DO.dx (do_pv (pv 7))) da_nil (by exact rfl)) (by exact rfl)) (by decide) (by exact rfl) (by exact rfl))) (by exact fun _ => rfl)) (by exact rfl) (by exact rfl) (by exact rfl) (by exact rfl) (by exact rfl))
    (ds_cons (ds_ext (pv 1) (do_comp (own := [("number", 8)]) (by exact rfl) sc_drawn.nd (di_rng1 (by exact rfl) x.z_range (da_cons (DO.dx (do_cb call_len im_len (by exact rfl) x.z_len (by decide +kernel) (da_cons (DO.dx (do_ix ix_seq im_ix (dx_pv (pv 4)) (DO.dx (do_C pe_int fun _ => .int _)) (by exact fun _ _ => rfl))) da_nil (by exact rfl)) (by decide) (by decide) (by exact rfl) (by exact rfl))) da_nil (by exact rfl)) (by exact rfl)) (blkOk_by (by exact rfl)) (by decide) (fun _ _ _ _ _ => (dg_name sc_drawn.nd (by exact rfl) (Or.inl (by exact rfl)) (Or.inr (by exact rfl)))) (fun _ _ _ _ _ => dts_nil) (fun _ _ _ _ _ => (do_app (ok_passage_now x) hg (hr.mono (by decide)) (by exact rfl) x.m_passage_now x.F_passage_now.kp (b_passage_now x) takes0 (da_cons (DO.dx (do_pv (pv 0))) (da_cons (DO.dx (do_pv (pv 8))) da_nil (by exact rfl)) (by exact rfl)) (by decide) (by exact rfl) (by exact rfl))) (by exact fun _ => rfl)) (by exact rfl) (by exact rfl) (by exact rfl) (by exact rfl) (by exact rfl))
    (ds_cons (ds_app (pv 1) (do_op or_add im_add (DO.dx (do_C pe_str fun _ => .str _)) (DO.dx (do_app (ok_step_words x) hg (hr.mono (by decide)) (by exact rfl) x.m_step_words x.F_step_words.kp (b_step_words x) takesD (da_cons (DO.dx (do_pv (pv 6))) da_nil (by exact rfl)) (by decide) (by exact rfl) (by exact rfl)))) (by exact rfl) (by exact rfl) (by exact rfl) (by exact rfl) (by exact rfl))
    (ds_cons (ds_ret (do_join (by exact rfl) (DO.dx (do_C pe_str fun _ => .str _)) (dx_pv (pv 1)) (by exact rfl) (by exact rfl) (by exact rfl)))
    ds_nil))))))
theorem sc__law_house : FnScope ["box", "rooms", "turn", "smoke", "inside", "passages", "tail", "head", "shut", "room", "beat"] ["box"] (defScope (top 15)) := ⟨rfl, rfl, rfl, by decide +kernel, rfl, by decide +kernel, by decide +kernel⟩
theorem b__law_house (x : Fx K mg) : Binds K x.d__law_house ["box"] [] := x.F__law_house.bindsN fun _ _ _ _ _ _ us hl => match us, hl with | [_], _ => rfl
def e1__law_house : En → Rz Va := (oIte (bOf (f2 pEqZ (xVar 9) (xO (oC (.int 0))))) (oApp 2 (runF 2 g__law_pick) (aCons (xVar 0) (aCons (xO (oLst (aCons (xO (oC .none)) (aCons (xO (oC .none)) (aCons (xO (oApp 2 (runF 4 g__law_take) (aCons (xVar 0) (aCons (xO (oC (.int 12))) (fun ρ => .ok [] ρ))))) (fun ρ => .ok [] ρ)))))) (fun ρ => .ok [] ρ)))) (oC .none))
def c2__law_house : En → Rz Bool := (bOf (f2 pEqZ (xO (oApp 2 (runF 4 g__law_take) (aCons (xVar 0) (aCons (xO (oC (.int 5))) (fun ρ => .ok [] ρ))))) (xO (oC (.int 0)))))
def l3__law_house : En → Rz Fl := (sSeq (sSet 6 (oApp 2 (runF 2 g__law_pick) (aCons (xVar 0) (aCons (xO (oVar 4)) (fun ρ => .ok [] ρ))))) (sSeq (sSet 7 (oApp 2 (runF 2 g__law_pick) (aCons (xVar 0) (aCons (xO (oComp (iArg iRange1 (aCons (xO (fL pLen (aCons (xVar 1) (fun ρ => .ok [] ρ)))) (fun ρ => .ok [] ρ))) (gN 9) (bOf (f2 pNeZ (xVar 9) (xVar 6))) (oVar 9) [9])) (fun ρ => .ok [] ρ))))) (sSeq (sSet 8 (oComp (iArg iRange1 (aCons (xO (oC (.int 10))) (fun ρ => .ok [] ρ))) (gN 10) c2__law_house (oVar 10) [10])) (sSeq (sApp 5 (oTup (aCons (xO (oVar 6)) (aCons (xO (oVar 7)) (aCons (xO (oApp 2 (runF 2 g__law_pick) (aCons (xVar 0) (aCons (xO (oLst (aCons (xO (oC (.int 1))) (aCons (xO (oC (.int 1))) (aCons (xO (oC (.int 2))) (aCons (xO (oC (.int 3))) (fun ρ => .ok [] ρ))))))) (fun ρ => .ok [] ρ))))) (aCons (xO (oApp 2 (runF 2 g__law_pick) (aCons (xVar 0) (aCons (xO (oLst (aCons (xO (oC (.int 0))) (aCons (xO (oC (.int 1))) (aCons (xO (oC (.int 1))) (aCons (xO (oC (.int 2))) (aCons (xO (oC (.int 9))) (fun ρ => .ok [] ρ)))))))) (fun ρ => .ok [] ρ))))) (aCons (xO (fL pTuple (aCons (xVar 8) (fun ρ => .ok [] ρ)))) (fun ρ => .ok [] ρ)))))))) sNil))))
def c4__law_house : En → Rz Bool := (bOf (f2 pEqZ (xO (f2 pIx (xVar 1) (xVar 9))) (xO (oC (.int 0)))))
def e5__law_house : En → Rz Va := (oApp 2 (runF 2 g__law_pick) (aCons (xVar 0) (aCons (xO (oLst (aCons (xO (oC (.int 0))) (aCons (xO (oC (.int 0))) (aCons (xO (oC (.int 0))) (aCons (xO (oC (.int 1))) (fun ρ => .ok [] ρ))))))) (fun ρ => .ok [] ρ))))
def g__law_house : En → Rz Fl := (sSeq (sSet 1 (f2 pAdd (xO (oComp (iArg iRange1 (aCons (xO (f2 pAdd (xO (oC (.int 1))) (xO (oApp 2 (runF 4 g__law_take) (aCons (xVar 0) (aCons (xO (oC (.int 4))) (fun ρ => .ok [] ρ))))))) (fun ρ => .ok [] ρ))) (gN 9) bYes e5__law_house [9])) (xO (oLst (aCons (xO (oApp 2 (runF 2 g__law_pick) (aCons (xVar 0) (aCons (xO (oLst (aCons (xO (oC (.int 1))) (aCons (xO (oC (.int 1))) (aCons (xO (oC (.int 1))) (aCons (xO (oC (.int 0))) (fun ρ => .ok [] ρ))))))) (fun ρ => .ok [] ρ))))) (fun ρ => .ok [] ρ)))))) (sSeq (sPar 4 5 (oComp (iArg iRange1 (aCons (xO (fL pLen (aCons (xVar 1) (fun ρ => .ok [] ρ)))) (fun ρ => .ok [] ρ))) (gN 9) c4__law_house (oVar 9) [9]) (oLst (fun ρ => .ok [] ρ))) (sSeq (sFor (iArg iRange1 (aCons (xO (oIte (bAnd (bOf (f2 pNeZ (xVar 4) (xO (oLst (fun ρ => .ok [] ρ))))) (bOf (f2 (pCmp fun i j => decide (j < i)) (xO (fL pLen (aCons (xVar 1) (fun ρ => .ok [] ρ)))) (xO (oC (.int 1)))))) (oApp 2 (runF 4 g__law_take) (aCons (xVar 0) (aCons (xO (oC (.int 8))) (fun ρ => .ok [] ρ)))) (oC (.int 0)))) (fun ρ => .ok [] ρ))) (gN 2) l3__law_house) (sSeq (sSet 3 (oComp (iSeq (oVar 1)) (gN 9) bYes e1__law_house [9])) (sSeq (sRet (oTup (aCons (xO (fL pTuple (aCons (xVar 1) (fun ρ => .ok [] ρ)))) (aCons (xO (fL pTuple (aCons (xVar 5) (fun ρ => .ok [] ρ)))) (aCons (xO (fL pTuple (aCons (xVar 3) (fun ρ => .ok [] ρ)))) (fun ρ => .ok [] ρ)))))) sNil)))))
theorem ok__law_house (x : Fx K mg) : FnG P w K mg base 3 x.a__law_house x.d__law_house ["box"] (spZ ⟨K, []⟩ 1 (runF 11 g__law_house)) :=
  fnZ_of (T := ⟨K, []⟩) (N := ["box", "rooms", "turn", "smoke", "inside", "passages", "tail", "head", "shut", "room", "beat"]) (k := 2) rfl x.F__law_house sc__law_house (by decide) fun cd A outer s H E hg hr =>
    (ds_cons (ds_set sc__law_house.nd (by exact rfl) (by first | exact Or.inl (by exact rfl) | exact Or.inr (by exact rfl)) (do_op or_add im_add (DO.dx (do_comp (own := [("room", 9)]) (by exact rfl) sc__law_house.nd (di_rng1 (by exact rfl) x.z_range (da_cons (DO.dx (do_op or_add im_add (DO.dx (do_C pe_int fun _ => .int _)) (DO.dx (do_app (ok__law_take x) hg (hr.mono (by decide)) (by exact rfl) x.m__law_take x.F__law_take.kp (b__law_take x) takesD (da_cons (dx_pv (pv 0)) (da_cons (DO.dx (do_C pe_int fun _ => .int _)) da_nil (by exact rfl)) (by exact rfl)) (by decide) (by exact rfl) (by exact rfl))))) da_nil (by exact rfl)) (by exact rfl)) (blkOk_by (by exact rfl)) (by decide) (fun _ _ _ _ _ => (dg_name sc__law_house.nd (by exact rfl) (Or.inl (by exact rfl)) (Or.inr (by exact rfl)))) (fun _ _ _ _ _ => dts_nil) (fun _ _ _ _ _ => (do_app (ok__law_pick x) hg (hr.mono (by decide)) (by exact rfl) x.m__law_pick x.F__law_pick.kp (b__law_pick x) takes0 (da_cons (dx_pv (pv 0)) (da_cons (DO.dx (do_lst (da_cons (DO.dx (do_C pe_int fun _ => .int _)) (da_cons (DO.dx (do_C pe_int fun _ => .int _)) (da_cons (DO.dx (do_C pe_int fun _ => .int _)) (da_cons (DO.dx (do_C pe_int fun _ => .int _)) da_nil (by exact rfl)) (by exact rfl)) (by exact rfl)) (by exact rfl)))) da_nil (by exact rfl)) (by exact rfl)) (by decide) (by exact rfl) (by exact rfl))) (by exact fun _ => rfl))) (DO.dx (do_lst (da_cons (DO.dx (do_app (ok__law_pick x) hg (hr.mono (by decide)) (by exact rfl) x.m__law_pick x.F__law_pick.kp (b__law_pick x) takesD (da_cons (dx_pv (pv 0)) (da_cons (DO.dx (do_lst (da_cons (DO.dx (do_C pe_int fun _ => .int _)) (da_cons (DO.dx (do_C pe_int fun _ => .int _)) (da_cons (DO.dx (do_C pe_int fun _ => .int _)) (da_cons (DO.dx (do_C pe_int fun _ => .int _)) da_nil (by exact rfl)) (by exact rfl)) (by exact rfl)) (by exact rfl)))) da_nil (by exact rfl)) (by exact rfl)) (by decide) (by exact rfl) (by exact rfl))) da_nil (by exact rfl))))) (by exact rfl) (Or.inl (by exact rfl)))
    (ds_cons (ds_par (by exact rfl) sc__law_house.nd (by exact rfl) (by exact rfl) (by decide) (by exact rfl) (by exact rfl) (do_comp (own := [("room", 9)]) (by exact rfl) sc__law_house.nd (di_rng1 (by exact rfl) x.z_range (da_cons (DO.dx (do_cb call_len im_len (by exact rfl) x.z_len (by decide +kernel) (da_cons (dx_pv (pv 1)) da_nil (by exact rfl)) (by decide) (by decide) (by exact rfl) (by exact rfl))) da_nil (by exact rfl)) (by exact rfl)) (blkOk_by (by exact rfl)) (by decide) (fun _ _ _ _ _ => (dg_name sc__law_house.nd (by exact rfl) (Or.inl (by exact rfl)) (Or.inr (by exact rfl)))) (fun _ _ _ _ _ => (dts_one (db_cmp (or_eqZ (hu64 hr)) im_eqZ (DO.dx (do_ix ix_seq im_ix (dx_pv (pv 1)) (dx_pv (pv 9)) (by exact fun _ _ => rfl))) (DO.dx (do_C pe_int fun _ => .int _)) (nomark _)))) (fun _ _ _ _ _ => (do_pv (pv 9))) (by exact fun _ => rfl)) (do_lst da_nil) (by exact rfl) (by exact rfl) (by exact rfl) (by exact rfl))
    (ds_cons (ds_for passD (by exact rfl) (di_rng1 (by exact rfl) x.z_range (da_cons (DO.dx (do_ite (dw_and (db_cmp (or_neZ (hu64 hr)) im_neZ (dx_pv (pv 4)) (DO.dx (do_lst da_nil)) (nomark _)) (dw_and1 (db_cmp op_gt im_cmp (DO.dx (do_cb call_len im_len (by exact rfl) x.z_len (by decide +kernel) (da_cons (dx_pv (pv 1)) da_nil (by exact rfl)) (by decide) (by decide) (by exact rfl) (by exact rfl))) (DO.dx (do_C pe_int fun _ => .int _)) (nomark _)))).db (do_app (ok__law_take x) hg (hr.mono (by decide)) (by exact rfl) x.m__law_take x.F__law_take.kp (b__law_take x) takesD (da_cons (dx_pv (pv 0)) (da_cons (DO.dx (do_C pe_int fun _ => .int _)) da_nil (by exact rfl)) (by exact rfl)) (by decide) (by exact rfl) (by exact rfl)) (do_C pe_int fun _ => .int _))) da_nil (by exact rfl)) (by exact rfl)) (dg_name sc__law_house.nd (by exact rfl) (by first | exact Or.inl (by exact rfl) | exact Or.inr (by exact rfl)) (Or.inl (by exact rfl))) (ds_cons (ds_set sc__law_house.nd (by exact rfl) (by first | exact Or.inl (by exact rfl) | exact Or.inr (by exact rfl)) (do_app (ok__law_pick x) hg (hr.mono (by decide)) (by exact rfl) x.m__law_pick x.F__law_pick.kp (b__law_pick x) takesD (da_cons (dx_pv (pv 0)) (da_cons (DO.dx (do_pv (pv 4))) da_nil (by exact rfl)) (by exact rfl)) (by decide) (by exact rfl) (by exact rfl)) (by exact rfl) (Or.inl (by exact rfl)))
    (ds_cons (ds_set sc__law_house.nd (by exact rfl) (by first | exact Or.inl (by exact rfl) | exact Or.inr (by exact rfl)) (do_app (ok__law_pick x) hg (hr.mono (by decide)) (by exact rfl) x.m__law_pick x.F__law_pick.kp (b__law_pick x) takesD (da_cons (dx_pv (pv 0)) (da_cons (DO.dx (do_comp (own := [("room", 9)]) (by exact rfl) sc__law_house.nd (di_rng1 (by exact rfl) x.z_range (da_cons (DO.dx (do_cb call_len im_len (by exact rfl) x.z_len (by decide +kernel) (da_cons (dx_pv (pv 1)) da_nil (by exact rfl)) (by decide) (by decide) (by exact rfl) (by exact rfl))) da_nil (by exact rfl)) (by exact rfl)) (blkOk_by (by exact rfl)) (by decide) (fun _ _ _ _ _ => (dg_name sc__law_house.nd (by exact rfl) (Or.inl (by exact rfl)) (Or.inr (by exact rfl)))) (fun _ _ _ _ _ => (dts_one (db_cmp (or_neZ (hu64 hr)) im_neZ (dx_pv (pv 9)) (dx_pv (pv 6)) (nomark _)))) (fun _ _ _ _ _ => (do_pv (pv 9))) (by exact fun _ => rfl))) da_nil (by exact rfl)) (by exact rfl)) (by decide) (by exact rfl) (by exact rfl)) (by exact rfl) (Or.inl (by exact rfl)))
    (ds_cons (ds_setC (own := [("beat", 10)]) (by exact rfl) sc__law_house.nd (by exact rfl) (by exact rfl) (sw_true (by exact rfl) (by exact rfl) (by exact rfl) (by exact rfl)) (di_rng1 (by exact rfl) x.z_range (da_cons (DO.dx (do_C pe_int fun _ => .int _)) da_nil (by exact rfl)) (by exact rfl)) (blkOk_by (by exact rfl)) (by decide) (fun _ _ _ _ _ => (dg_name sc__law_house.nd (by exact rfl) (Or.inl (by exact rfl)) (Or.inr (by exact rfl)))) (fun _ _ _ _ _ => (dts_one (db_cmp (or_eqZ (hu64 hr)) im_eqZ (DO.dx (do_app (ok__law_take x) hg (hr.mono (by decide)) (by exact rfl) x.m__law_take x.F__law_take.kp (b__law_take x) takes0 (da_cons (dx_pv (pv 0)) (da_cons (DO.dx (do_C pe_int fun _ => .int _)) da_nil (by exact rfl)) (by exact rfl)) (by decide) (by exact rfl) (by exact rfl))) (DO.dx (do_C pe_int fun _ => .int _)) (nomark _)))) (fun _ _ _ _ _ => (do_pv (pv 10))) (by exact fun _ => rfl))
    (ds_cons (ds_app (pv 5) (do_tup (da_cons (DO.dx (do_pv (pv 6))) (da_cons (DO.dx (do_pv (pv 7))) (da_cons (DO.dx (do_app (ok__law_pick x) hg (hr.mono (by decide)) (by exact rfl) x.m__law_pick x.F__law_pick.kp (b__law_pick x) takesD (da_cons (dx_pv (pv 0)) (da_cons (DO.dx (do_lst (da_cons (DO.dx (do_C pe_int fun _ => .int _)) (da_cons (DO.dx (do_C pe_int fun _ => .int _)) (da_cons (DO.dx (do_C pe_int fun _ => .int _)) (da_cons (DO.dx (do_C pe_int fun _ => .int _)) da_nil (by exact rfl)) (by exact rfl)) (by exact rfl)) (by exact rfl)))) da_nil (by exact rfl)) (by exact rfl)) (by decide) (by exact rfl) (by exact rfl))) (da_cons (DO.dx (do_app (ok__law_pick x) hg (hr.mono (by decide)) (by exact rfl) x.m__law_pick x.F__law_pick.kp (b__law_pick x) takesD (da_cons (dx_pv (pv 0)) (da_cons (DO.dx (do_lst (da_cons (DO.dx (do_C pe_int fun _ => .int _)) (da_cons (DO.dx (do_C pe_int fun _ => .int _)) (da_cons (DO.dx (do_C pe_int fun _ => .int _)) (da_cons (DO.dx (do_C pe_int fun _ => .int _)) (da_cons (DO.dx (do_C pe_int fun _ => .int _)) da_nil (by exact rfl)) (by exact rfl)) (by exact rfl)) (by exact rfl)) (by exact rfl)))) da_nil (by exact rfl)) (by exact rfl)) (by decide) (by exact rfl) (by exact rfl))) (da_cons (DO.dx (do_ct call_tuple_of im_tuple (by exact rfl) x.z_tuple (by decide +kernel) (da_cons (dx_pv (pv 8)) da_nil (by exact rfl)) (by decide) (by decide) (by exact rfl) (by exact rfl))) da_nil (by exact rfl)) (by exact rfl)) (by exact rfl)) (by exact rfl)) (by exact rfl))) (by exact rfl) (by exact rfl) (by exact rfl) (by exact rfl) (by exact rfl))
    ds_nil)))) (by exact fun _ => rfl))
    (ds_cons (ds_setC (own := [("room", 9)]) (by exact rfl) sc__law_house.nd (by exact rfl) (by exact rfl) (sw_true (by exact rfl) (by exact rfl) (by exact rfl) (by exact rfl)) (di_seq (by exact rfl) (do_pv (pv 1))) (blkOk_by (by exact rfl)) (by decide) (fun _ _ _ _ _ => (dg_name sc__law_house.nd (by exact rfl) (Or.inl (by exact rfl)) (Or.inr (by exact rfl)))) (fun _ _ _ _ _ => dts_nil) (fun _ _ _ _ _ => (do_ite (db_cmp (or_eqZ (hu64 hr)) im_eqZ (dx_pv (pv 9)) (DO.dx (do_C pe_int fun _ => .int _)) (nomark _)) (do_app (ok__law_pick x) hg (hr.mono (by decide)) (by exact rfl) x.m__law_pick x.F__law_pick.kp (b__law_pick x) takes0 (da_cons (dx_pv (pv 0)) (da_cons (DO.dx (do_lst (da_cons (DO.dx (do_C pe_non fun _ => .non)) (da_cons (DO.dx (do_C pe_non fun _ => .non)) (da_cons (DO.dx (do_app (ok__law_take x) hg (hr.mono (by decide)) (by exact rfl) x.m__law_take x.F__law_take.kp (b__law_take x) takes0 (da_cons (dx_pv (pv 0)) (da_cons (DO.dx (do_C pe_int fun _ => .int _)) da_nil (by exact rfl)) (by exact rfl)) (by decide) (by exact rfl) (by exact rfl))) da_nil (by exact rfl)) (by exact rfl)) (by exact rfl)))) da_nil (by exact rfl)) (by exact rfl)) (by decide) (by exact rfl) (by exact rfl)) (do_C pe_non fun _ => .non))) (by exact fun _ => rfl))
    (ds_cons (ds_ret (do_tup (da_cons (DO.dx (do_ct call_tuple_of im_tuple (by exact rfl) x.z_tuple (by decide +kernel) (da_cons (dx_pv (pv 1)) da_nil (by exact rfl)) (by decide) (by decide) (by exact rfl) (by exact rfl))) (da_cons (DO.dx (do_ct call_tuple_of im_tuple (by exact rfl) x.z_tuple (by decide +kernel) (da_cons (dx_pv (pv 5)) da_nil (by exact rfl)) (by decide) (by decide) (by exact rfl) (by exact rfl))) (da_cons (DO.dx (do_ct call_tuple_of im_tuple (by exact rfl) x.z_tuple (by decide +kernel) (da_cons (dx_pv (pv 3)) da_nil (by exact rfl)) (by decide) (by decide) (by exact rfl) (by exact rfl))) da_nil (by exact rfl)) (by exact rfl)) (by exact rfl))))
    ds_nil)))))
theorem sc__law_people : FnScope ["box", "house", "now", "found", "turn", "room", "urgency", "beat", "word"] ["box", "house", "now"] (defScope (top 20)) := ⟨rfl, rfl, rfl, by decide +kernel, rfl, by decide +kernel, by decide +kernel⟩
theorem b__law_people (x : Fx K mg) : Binds K x.d__law_people ["box", "house", "now"] [] := x.F__law_people.bindsN fun _ _ _ _ _ _ us hl => match us, hl with | [_, _, _], _ => rfl
def l1__law_people : En → Rz Fl := (sSeq (sPar 5 6 (oApp 2 (runF 4 g__law_take) (aCons (xVar 0) (aCons (xO (fL pLen (aCons (xO (f2 pIx (xVar 1) (xO (oC (.int 0))))) (fun ρ => .ok [] ρ)))) (fun ρ => .ok [] ρ)))) (oApp 2 (runF 4 g__law_take) (aCons (xVar 0) (aCons (xO (oC (.int 10))) (fun ρ => .ok [] ρ))))) (sSeq (sIf (bAnd (bOf (f2 pEqZ (xO (f2 pIx (xO (f2 pIx (xVar 1) (xO (oC (.int 0))))) (xVar 5))) (xO (oC (.int 1))))) (bOf (f2 (pCmp fun i j => decide (j < i)) (xO (oApp 2 (runF 4 g__law_take) (aCons (xVar 0) (aCons (xO (oC (.int 3))) (fun ρ => .ok [] ρ))))) (xO (oC (.int 0)))))) (sSeq (sApp 3 (oTup (aCons (xO (oC (.str "out"))) (aCons (xO (oVar 5)) (aCons (xO (oApp 2 (runF 4 g__law_take) (aCons (xVar 0) (aCons (xO (f2 pAdd (xVar 2) (xO (oC (.int 1))))) (fun ρ => .ok [] ρ))))) (aCons (xO (oVar 6)) (fun ρ => .ok [] ρ))))))) sNil) (sSeq (sIf (bAnd (bOf (f2 pEqZ (xO (f2 pIx (xO (f2 pIx (xVar 1) (xO (oC (.int 0))))) (xVar 5))) (xO (oC (.int 0))))) (bOf (f2 pEqZ (xO (oApp 2 (runF 4 g__law_take) (aCons (xVar 0) (aCons (xO (oC (.int 4))) (fun ρ => .ok [] ρ))))) (xO (oC (.int 0)))))) (sSeq (sApp 3 (oTup (aCons (xO (oC (.str "lost"))) (aCons (xO (oVar 5)) (aCons (xO (oApp 2 (runF 4 g__law_take) (aCons (xVar 0) (aCons (xO (f2 pAdd (xVar 2) (xO (oC (.int 3))))) (fun ρ => .ok [] ρ))))) (aCons (xO (oVar 6)) (fun ρ => .ok [] ρ))))))) sNil) (sSeq (sSet 7 (f2 pAdd (xVar 2) (xO (oApp 2 (runF 2 g__law_pick) (aCons (xVar 0) (aCons (xO (oLst (aCons (xO (oC (.int 0))) (aCons (xO (oC (.int 0))) (aCons (xO (oC (.int 1))) (aCons (xO (oC (.int 2))) (aCons (xO (oC (.int 9))) (fun ρ => .ok [] ρ)))))))) (fun ρ => .ok [] ρ))))))) (sSeq (sIf (bOf (f2 pEqZ (xO (f2 pIx (xO (f2 pIx (xVar 1) (xO (oC (.int 0))))) (xVar 5))) (xO (oC (.int 1))))) (sSeq (sSet 8 (oIte (bOf (f2 pEqZ (xVar 7) (xVar 2))) (oC (.str "out")) (oC (.str "here")))) sNil) (sSeq (sSet 8 (oIte (bX (xO (oApp 3 (runF 3 g__law_clear) (aCons (xO (oVar 1)) (aCons (xO (oVar 5)) (aCons (xO (oVar 7)) (fun ρ => .ok [] ρ))))))) (oC (.str "here")) (oC (.str "lost")))) sNil)) (sSeq (sApp 3 (oTup (aCons (xO (oVar 8)) (aCons (xO (oVar 5)) (aCons (xO (oVar 7)) (aCons (xO (oVar 6)) (fun ρ => .ok [] ρ))))))) sNil)))) sNil)) sNil))
def g__law_people : En → Rz Fl := (sSeq (sSet 3 (oLst (fun ρ => .ok [] ρ))) (sSeq (sFor (iArg iRange1 (aCons (xO (oApp 2 (runF 4 g__law_take) (aCons (xVar 0) (aCons (xO (oC (.int 8))) (fun ρ => .ok [] ρ))))) (fun ρ => .ok [] ρ))) (gN 4) l1__law_people) (sSeq (sRet (fL pTuple (aCons (xVar 3) (fun ρ => .ok [] ρ)))) sNil)))
theorem ok__law_people (x : Fx K mg) : FnG P w K mg base 3 x.a__law_people x.d__law_people ["box", "house", "now"] (spZ ⟨K, []⟩ 3 (runF 9 g__law_people)) :=
  fnZ_of (T := ⟨K, []⟩) (N := ["box", "house", "now", "found", "turn", "room", "urgency", "beat", "word"]) (k := 2) rfl x.F__law_people sc__law_people (by decide) fun cd A outer s H E hg hr =>
    (ds_cons (ds_set sc__law_people.nd (by exact rfl) (by first | exact Or.inl (by exact rfl) | exact Or.inr (by exact rfl)) (do_lst da_nil) (by exact rfl) (Or.inl (by exact rfl)))
    (ds_cons (ds_for passD (by exact rfl) (di_rng1 (by exact rfl) x.z_range (da_cons (DO.dx (do_app (ok__law_take x) hg (hr.mono (by decide)) (by exact rfl) x.m__law_take x.F__law_take.kp (b__law_take x) takesD (da_cons (dx_pv (pv 0)) (da_cons (DO.dx (do_C pe_int fun _ => .int _)) da_nil (by exact rfl)) (by exact rfl)) (by decide) (by exact rfl) (by exact rfl))) da_nil (by exact rfl)) (by exact rfl)) (dg_name sc__law_people.nd (by exact rfl) (by first | exact Or.inl (by exact rfl) | exact Or.inr (by exact rfl)) (Or.inl (by exact rfl))) (ds_cons (ds_par (by exact rfl) sc__law_people.nd (by exact rfl) (by exact rfl) (by decide) (by exact rfl) (by exact rfl) (do_app (ok__law_take x) hg (hr.mono (by decide)) (by exact rfl) x.m__law_take x.F__law_take.kp (b__law_take x) takesD (da_cons (dx_pv (pv 0)) (da_cons (DO.dx (do_cb call_len im_len (by exact rfl) x.z_len (by decide +kernel) (da_cons (DO.dx (do_ix ix_seq im_ix (dx_pv (pv 1)) (DO.dx (do_C pe_int fun _ => .int _)) (by exact fun _ _ => rfl))) da_nil (by exact rfl)) (by decide) (by decide) (by exact rfl) (by exact rfl))) da_nil (by exact rfl)) (by exact rfl)) (by decide) (by exact rfl) (by exact rfl)) (do_app (ok__law_take x) hg (hr.mono (by decide)) (by exact rfl) x.m__law_take x.F__law_take.kp (b__law_take x) takesD (da_cons (dx_pv (pv 0)) (da_cons (DO.dx (do_C pe_int fun _ => .int _)) da_nil (by exact rfl)) (by exact rfl)) (by decide) (by exact rfl) (by exact rfl)) (by exact rfl) (by exact rfl) (by exact rfl) (by exact rfl))
    (ds_cons (ds_if (dw_and (db_cmp (or_eqZ (hu64 hr)) im_eqZ (DO.dx (do_ix ix_seq im_ix (DO.dx (do_ix ix_seq im_ix (dx_pv (pv 1)) (DO.dx (do_C pe_int fun _ => .int _)) (by exact fun _ _ => rfl))) (dx_pv (pv 5)) (by exact fun _ _ => rfl))) (DO.dx (do_C pe_int fun _ => .int _)) (nomark _)) (dw_and1 (db_cmp op_gt im_cmp (DO.dx (do_app (ok__law_take x) hg (hr.mono (by decide)) (by exact rfl) x.m__law_take x.F__law_take.kp (b__law_take x) takesD (da_cons (dx_pv (pv 0)) (da_cons (DO.dx (do_C pe_int fun _ => .int _)) da_nil (by exact rfl)) (by exact rfl)) (by decide) (by exact rfl) (by exact rfl))) (DO.dx (do_C pe_int fun _ => .int _)) (nomark _)))).db (ds_cons (ds_app (pv 3) (do_tup (da_cons (DO.dx (do_C pe_str fun _ => .str _)) (da_cons (DO.dx (do_pv (pv 5))) (da_cons (DO.dx (do_app (ok__law_take x) hg (hr.mono (by decide)) (by exact rfl) x.m__law_take x.F__law_take.kp (b__law_take x) takesD (da_cons (dx_pv (pv 0)) (da_cons (DO.dx (do_op or_add im_add (dx_pv (pv 2)) (DO.dx (do_C pe_int fun _ => .int _)))) da_nil (by exact rfl)) (by exact rfl)) (by decide) (by exact rfl) (by exact rfl))) (da_cons (DO.dx (do_pv (pv 6))) da_nil (by exact rfl)) (by exact rfl)) (by exact rfl)) (by exact rfl))) (by exact rfl) (by exact rfl) (by exact rfl) (by exact rfl) (by exact rfl))
    ds_nil) (ds_cons (ds_if (dw_and (db_cmp (or_eqZ (hu64 hr)) im_eqZ (DO.dx (do_ix ix_seq im_ix (DO.dx (do_ix ix_seq im_ix (dx_pv (pv 1)) (DO.dx (do_C pe_int fun _ => .int _)) (by exact fun _ _ => rfl))) (dx_pv (pv 5)) (by exact fun _ _ => rfl))) (DO.dx (do_C pe_int fun _ => .int _)) (nomark _)) (dw_and1 (db_cmp (or_eqZ (hu64 hr)) im_eqZ (DO.dx (do_app (ok__law_take x) hg (hr.mono (by decide)) (by exact rfl) x.m__law_take x.F__law_take.kp (b__law_take x) takesD (da_cons (dx_pv (pv 0)) (da_cons (DO.dx (do_C pe_int fun _ => .int _)) da_nil (by exact rfl)) (by exact rfl)) (by decide) (by exact rfl) (by exact rfl))) (DO.dx (do_C pe_int fun _ => .int _)) (nomark _)))).db (ds_cons (ds_app (pv 3) (do_tup (da_cons (DO.dx (do_C pe_str fun _ => .str _)) (da_cons (DO.dx (do_pv (pv 5))) (da_cons (DO.dx (do_app (ok__law_take x) hg (hr.mono (by decide)) (by exact rfl) x.m__law_take x.F__law_take.kp (b__law_take x) takesD (da_cons (dx_pv (pv 0)) (da_cons (DO.dx (do_op or_add im_add (dx_pv (pv 2)) (DO.dx (do_C pe_int fun _ => .int _)))) da_nil (by exact rfl)) (by exact rfl)) (by decide) (by exact rfl) (by exact rfl))) (da_cons (DO.dx (do_pv (pv 6))) da_nil (by exact rfl)) (by exact rfl)) (by exact rfl)) (by exact rfl))) (by exact rfl) (by exact rfl) (by exact rfl) (by exact rfl) (by exact rfl))
    ds_nil) (ds_cons (ds_set sc__law_people.nd (by exact rfl) (by first | exact Or.inl (by exact rfl) | exact Or.inr (by exact rfl)) (do_op or_add im_add (dx_pv (pv 2)) (DO.dx (do_app (ok__law_pick x) hg (hr.mono (by decide)) (by exact rfl) x.m__law_pick x.F__law_pick.kp (b__law_pick x) takesD (da_cons (dx_pv (pv 0)) (da_cons (DO.dx (do_lst (da_cons (DO.dx (do_C pe_int fun _ => .int _)) (da_cons (DO.dx (do_C pe_int fun _ => .int _)) (da_cons (DO.dx (do_C pe_int fun _ => .int _)) (da_cons (DO.dx (do_C pe_int fun _ => .int _)) (da_cons (DO.dx (do_C pe_int fun _ => .int _)) da_nil (by exact rfl)) (by exact rfl)) (by exact rfl)) (by exact rfl)) (by exact rfl)))) da_nil (by exact rfl)) (by exact rfl)) (by decide) (by exact rfl) (by exact rfl)))) (by exact rfl) (Or.inl (by exact rfl)))
    (ds_cons (ds_if (db_cmp (or_eqZ (hu64 hr)) im_eqZ (DO.dx (do_ix ix_seq im_ix (DO.dx (do_ix ix_seq im_ix (dx_pv (pv 1)) (DO.dx (do_C pe_int fun _ => .int _)) (by exact fun _ _ => rfl))) (dx_pv (pv 5)) (by exact fun _ _ => rfl))) (DO.dx (do_C pe_int fun _ => .int _)) (nomark _)) (ds_cons (ds_set sc__law_people.nd (by exact rfl) (by first | exact Or.inl (by exact rfl) | exact Or.inr (by exact rfl)) (do_ite (db_cmp (or_eqZ (hu64 hr)) im_eqZ (dx_pv (pv 7)) (dx_pv (pv 2)) (nomark _)) (do_C pe_str fun _ => .str _) (do_C pe_str fun _ => .str _)) (by exact rfl) (Or.inl (by exact rfl)))
    ds_nil) (ds_cons (ds_set sc__law_people.nd (by exact rfl) (by first | exact Or.inl (by exact rfl) | exact Or.inr (by exact rfl)) (do_ite (db_x (DO.dx (do_app (ok__law_clear x) hg (hr.mono (by decide)) (by exact rfl) x.m__law_clear x.F__law_clear.kp (b__law_clear x) takesD (da_cons (DO.dx (do_pv (pv 1))) (da_cons (DO.dx (do_pv (pv 5))) (da_cons (DO.dx (do_pv (pv 7))) da_nil (by exact rfl)) (by exact rfl)) (by exact rfl)) (by decide) (by exact rfl) (by exact rfl))) (by exact fun _ => rfl) (by exact rfl)) (do_C pe_str fun _ => .str _) (do_C pe_str fun _ => .str _)) (by exact rfl) (Or.inl (by exact rfl)))
    ds_nil))
    (ds_cons (ds_app (pv 3) (do_tup (da_cons (DO.dx (do_pv (pv 8))) (da_cons (DO.dx (do_pv (pv 5))) (da_cons (DO.dx (do_pv (pv 7))) (da_cons (DO.dx (do_pv (pv 6))) da_nil (by exact rfl)) (by exact rfl)) (by exact rfl)) (by exact rfl))) (by exact rfl) (by exact rfl) (by exact rfl) (by exact rfl) (by exact rfl))
    ds_nil))))
    ds_nil))
    ds_nil)) (by exact fun _ => rfl))
    (ds_cons (ds_ret (do_ct call_tuple_of im_tuple (by exact rfl) x.z_tuple (by decide +kernel) (da_cons (dx_pv (pv 3)) da_nil (by exact rfl)) (by decide) (by decide) (by exact rfl) (by exact rfl)))
    ds_nil)))
theorem sc_law : FnScope ["script", "k", "box", "people", "told", "state", "house", "now", "word", "room", "beat", "urgency", "some", "at"] ["script"] (defScope (top 21)) := ⟨rfl, rfl, rfl, by decide +kernel, rfl, by decide +kernel, by decide +kernel⟩
theorem b_law (x : Fx K mg) : Binds K x.d_law ["script"] [] := x.F_law.bindsN fun _ _ _ _ _ _ us hl => match us, hl with | [_], _ => rfl
def c1_law : En → Rz Bool := (bOf (f2 pEqZ (xO (f2 pIx (xO (f2 pIx (xO (f2 pIx (xVar 6) (xO (oC (.int 1))))) (xVar 13))) (xO (oC (.int 0))))) (xVar 9)))
def l2_law : En → Rz Fl := (sSeq (sSet 12 (f2 pAdd (xO (oLst (aCons (xO (oC .none)) (aCons (xO (oC (.str "stand"))) (fun ρ => .ok [] ρ))))) (xO (oComp (iArg iRange1 (aCons (xO (fL pLen (aCons (xO (f2 pIx (xVar 6) (xO (oC (.int 1))))) (fun ρ => .ok [] ρ)))) (fun ρ => .ok [] ρ))) (gN 13) c1_law (oVar 13) [13])))) (sSeq (sApp 4 (oIte (bAnd (bOf (f2 pEqZ (xVar 8) (xO (oC (.str "here"))))) (bOf (f2 pEqZ (xVar 10) (xVar 7)))) (oApp 2 (runF 2 g__law_pick) (aCons (xVar 2) (aCons (xO (oVar 12)) (fun ρ => .ok [] ρ)))) (oC .none))) sNil))
def l3_law : En → Rz Fl := (sSeq (sSet 2 (oApp 2 (runF 4 g__law_box) (aCons (xO (oVar 0)) (aCons (xO (oVar 1)) (fun ρ => .ok [] ρ))))) (sSeq (sAsg (gTupZ 2 (gConsZ (gN 6) (gConsZ (gN 7) gNilZ))) (oTup (aCons (xO (oApp 1 (runF 11 g__law_house) (aCons (xVar 2) (fun ρ => .ok [] ρ)))) (aCons (xO (oApp 2 (runF 2 g__law_pick) (aCons (xVar 2) (aCons (xO (oLst (aCons (xO (oC (.int 0))) (aCons (xO (oC (.int 1))) (aCons (xO (oC (.int 4))) (aCons (xO (oApp 2 (runF 4 g__law_take) (aCons (xVar 2) (aCons (xO (oC (.int 12))) (fun ρ => .ok [] ρ))))) (fun ρ => .ok [] ρ))))))) (fun ρ => .ok [] ρ))))) (fun ρ => .ok [] ρ))))) (sSeq (sSet 3 (oApp 3 (runF 9 g__law_people) (aCons (xVar 2) (aCons (xO (oVar 6)) (aCons (xO (oVar 7)) (fun ρ => .ok [] ρ)))))) (sSeq (sSet 4 (oLst (fun ρ => .ok [] ρ))) (sSeq (sFor (iSeq (oVar 3)) (gTupZ 4 (gConsZ (gN 8) (gConsZ (gN 9) (gConsZ (gN 10) (gConsZ (gN 11) gNilZ))))) l2_law) (sSeq (sSet 5 (oTup (aCons (xO (oVar 7)) (aCons (xO (f2 pAdd (xVar 7) (xO (oApp 2 (runF 4 g__law_take) (aCons (xVar 2) (aCons (xO (oC (.int 40))) (fun ρ => .ok [] ρ))))))) (aCons (xO (oVar 6)) (aCons (xO (oVar 3)) (aCons (xO (fL pTuple (aCons (xVar 4) (fun ρ => .ok [] ρ)))) (fun ρ => .ok [] ρ)))))))) (sSeq (sIf (bOf (f2 pNeZ (xO (fL pRepr (aCons (xO (oLst (aCons (xO (oApp 1 (runF 9 g_drawn) (aCons (xO (oVar 5)) (fun ρ => .ok [] ρ)))) (aCons (xO (oAppK 1 (runF 9 g_drawn) 1 [0] (aCons (xO (oVar 5)) (fun ρ => .ok [] ρ)))) (fun ρ => .ok [] ρ))))) (fun ρ => .ok [] ρ)))) (xO (fL pRepr (aCons (xO (f2 pMul (xO (oLst (aCons (xO (oApp 1 (runF 24 g__law_drawn) (aCons (xO (oVar 5)) (fun ρ => .ok [] ρ)))) (fun ρ => .ok [] ρ)))) (xO (oC (.int 2))))) (fun ρ => .ok [] ρ)))))) (sSeq (sRet (oC (.bool false))) sNil) sNil) sNil)))))))
def g_law : En → Rz Fl := (sSeq (sFor (iArg iRange1 (aCons (xO (oC (.int 5))) (fun ρ => .ok [] ρ))) (gN 1) l3_law) (sSeq (sRet (oC (.bool true))) sNil))
theorem ok_law (x : Fx K mg) : FnG P w K mg base 4 x.a_law x.d_law ["script"] (spZ ⟨K, []⟩ 1 (runF 14 g_law)) :=
  fnZ_of (T := ⟨K, []⟩) (N := ["script", "k", "box", "people", "told", "state", "house", "now", "word", "room", "beat", "urgency", "some", "at"]) (k := 3) rfl x.F_law sc_law (by decide) fun cd A outer s H E hg hr =>
    (ds_cons (ds_for passD (by exact rfl) (di_rng1 (by exact rfl) x.z_range (da_cons (DO.dx (do_C pe_int fun _ => .int _)) da_nil (by exact rfl)) (by exact rfl)) (dg_name sc_law.nd (by exact rfl) (by first | exact Or.inl (by exact rfl) | exact Or.inr (by exact rfl)) (Or.inl (by exact rfl))) (ds_cons (ds_set sc_law.nd (by exact rfl) (by first | exact Or.inl (by exact rfl) | exact Or.inr (by exact rfl)) (do_app (ok__law_box x) hg (hr.mono (by decide)) (by exact rfl) x.m__law_box x.F__law_box.kp (b__law_box x) takesD (da_cons (DO.dx (do_pv (pv 0))) (da_cons (DO.dx (do_pv (pv 1))) da_nil (by exact rfl)) (by exact rfl)) (by decide) (by exact rfl) (by exact rfl)) (by exact rfl) (Or.inl (by exact rfl)))
    (ds_cons (ds_asg (do_tup (da_cons (DO.dx (do_app (ok__law_house x) hg (hr.mono (by decide)) (by exact rfl) x.m__law_house x.F__law_house.kp (b__law_house x) takesD (da_cons (dx_pv (pv 2)) da_nil (by exact rfl)) (by decide) (by exact rfl) (by exact rfl))) (da_cons (DO.dx (do_app (ok__law_pick x) hg (hr.mono (by decide)) (by exact rfl) x.m__law_pick x.F__law_pick.kp (b__law_pick x) takesD (da_cons (dx_pv (pv 2)) (da_cons (DO.dx (do_lst (da_cons (DO.dx (do_C pe_int fun _ => .int _)) (da_cons (DO.dx (do_C pe_int fun _ => .int _)) (da_cons (DO.dx (do_C pe_int fun _ => .int _)) (da_cons (DO.dx (do_app (ok__law_take x) hg (hr.mono (by decide)) (by exact rfl) x.m__law_take x.F__law_take.kp (b__law_take x) takesD (da_cons (dx_pv (pv 2)) (da_cons (DO.dx (do_C pe_int fun _ => .int _)) da_nil (by exact rfl)) (by exact rfl)) (by decide) (by exact rfl) (by exact rfl))) da_nil (by exact rfl)) (by exact rfl)) (by exact rfl)) (by exact rfl)))) da_nil (by exact rfl)) (by exact rfl)) (by decide) (by exact rfl) (by exact rfl))) da_nil (by exact rfl)) (by exact rfl))) (dg_tup (by exact rfl) (by exact rfl) (dgs_cons (dg_name sc_law.nd (by exact rfl) (by first | exact Or.inl (by exact rfl) | exact Or.inr (by exact rfl)) (Or.inl (by exact rfl))) (dgs_cons (dg_name sc_law.nd (by exact rfl) (by first | exact Or.inl (by exact rfl) | exact Or.inr (by exact rfl)) (Or.inl (by exact rfl))) dgs_nil (by exact rfl)) (by exact rfl)) (by exact rfl) (by exact rfl)) (by exact rfl) (by exact rfl) (by exact rfl))
    (ds_cons (ds_set sc_law.nd (by exact rfl) (by first | exact Or.inl (by exact rfl) | exact Or.inr (by exact rfl)) (do_app (ok__law_people x) hg (hr.mono (by decide)) (by exact rfl) x.m__law_people x.F__law_people.kp (b__law_people x) takesD (da_cons (dx_pv (pv 2)) (da_cons (DO.dx (do_pv (pv 6))) (da_cons (DO.dx (do_pv (pv 7))) da_nil (by exact rfl)) (by exact rfl)) (by exact rfl)) (by decide) (by exact rfl) (by exact rfl)) (by exact rfl) (Or.inl (by exact rfl)))
    (ds_cons (ds_set sc_law.nd (by exact rfl) (by first | exact Or.inl (by exact rfl) | exact Or.inr (by exact rfl)) (do_lst da_nil) (by exact rfl) (Or.inl (by exact rfl)))
    (ds_cons (ds_for passD (by exact rfl) (di_seq (by exact rfl) (do_pv (pv 3))) (dg_tup (by exact rfl) (by exact rfl) (dgs_cons (dg_name sc_law.nd (by exact rfl) (by first | exact Or.inl (by exact rfl) | exact Or.inr (by exact rfl)) (Or.inl (by exact rfl))) (dgs_cons (dg_name sc_law.nd (by exact rfl) (by first | exact Or.inl (by exact rfl) | exact Or.inr (by exact rfl)) (Or.inl (by exact rfl))) (dgs_cons (dg_name sc_law.nd (by exact rfl) (by first | exact Or.inl (by exact rfl) | exact Or.inr (by exact rfl)) (Or.inl (by exact rfl))) (dgs_cons (dg_name sc_law.nd (by exact rfl) (by first | exact Or.inl (by exact rfl) | exact Or.inr (by exact rfl)) (Or.inl (by exact rfl))) dgs_nil (by exact rfl)) (by exact rfl)) (by exact rfl)) (by exact rfl)) (by exact rfl) (by exact rfl)) (ds_cons (ds_set sc_law.nd (by exact rfl) (by first | exact Or.inl (by exact rfl) | exact Or.inr (by exact rfl)) (do_op or_add im_add (DO.dx (do_lst (da_cons (DO.dx (do_C pe_non fun _ => .non)) (da_cons (DO.dx (do_C pe_str fun _ => .str _)) da_nil (by exact rfl)) (by exact rfl)))) (DO.dx (do_comp (own := [("at", 13)]) (by exact rfl) sc_law.nd (di_rng1 (by exact rfl) x.z_range (da_cons (DO.dx (do_cb call_len im_len (by exact rfl) x.z_len (by decide +kernel) (da_cons (DO.dx (do_ix ix_seq im_ix (dx_pv (pv 6)) (DO.dx (do_C pe_int fun _ => .int _)) (by exact fun _ _ => rfl))) da_nil (by exact rfl)) (by decide) (by decide) (by exact rfl) (by exact rfl))) da_nil (by exact rfl)) (by exact rfl)) (blkOk_by (by exact rfl)) (by decide) (fun _ _ _ _ _ => (dg_name sc_law.nd (by exact rfl) (Or.inl (by exact rfl)) (Or.inr (by exact rfl)))) (fun _ _ _ _ _ => (dts_one (db_cmp (or_eqZ (hu64 hr)) im_eqZ (DO.dx (do_ix ix_seq im_ix (DO.dx (do_ix ix_seq im_ix (DO.dx (do_ix ix_seq im_ix (dx_pv (pv 6)) (DO.dx (do_C pe_int fun _ => .int _)) (by exact fun _ _ => rfl))) (dx_pv (pv 13)) (by exact fun _ _ => rfl))) (DO.dx (do_C pe_int fun _ => .int _)) (by exact fun _ _ => rfl))) (dx_pv (pv 9)) (nomark _)))) (fun _ _ _ _ _ => (do_pv (pv 13))) (by exact fun _ => rfl)))) (by exact rfl) (Or.inl (by exact rfl)))
    (ds_cons (ds_app (pv 4) (do_ite (dw_and (db_cmp (or_eqZ (hu64 hr)) im_eqZ (dx_pv (pv 8)) (DO.dx (do_C pe_str fun _ => .str _)) (nomark _)) (dw_and1 (db_cmp (or_eqZ (hu64 hr)) im_eqZ (dx_pv (pv 10)) (dx_pv (pv 7)) (nomark _)))).db (do_app (ok__law_pick x) hg (hr.mono (by decide)) (by exact rfl) x.m__law_pick x.F__law_pick.kp (b__law_pick x) takesD (da_cons (dx_pv (pv 2)) (da_cons (DO.dx (do_pv (pv 12))) da_nil (by exact rfl)) (by exact rfl)) (by decide) (by exact rfl) (by exact rfl)) (do_C pe_non fun _ => .non)) (by exact rfl) (by exact rfl) (by exact rfl) (by exact rfl) (by exact rfl))
    ds_nil)) (by exact fun _ => rfl))
    (ds_cons (ds_set sc_law.nd (by exact rfl) (by first | exact Or.inl (by exact rfl) | exact Or.inr (by exact rfl)) (do_tup (da_cons (DO.dx (do_pv (pv 7))) (da_cons (DO.dx (do_op or_add im_add (dx_pv (pv 7)) (DO.dx (do_app (ok__law_take x) hg (hr.mono (by decide)) (by exact rfl) x.m__law_take x.F__law_take.kp (b__law_take x) takesD (da_cons (dx_pv (pv 2)) (da_cons (DO.dx (do_C pe_int fun _ => .int _)) da_nil (by exact rfl)) (by exact rfl)) (by decide) (by exact rfl) (by exact rfl))))) (da_cons (DO.dx (do_pv (pv 6))) (da_cons (DO.dx (do_pv (pv 3))) (da_cons (DO.dx (do_ct call_tuple_of im_tuple (by exact rfl) x.z_tuple (by decide +kernel) (da_cons (dx_pv (pv 4)) da_nil (by exact rfl)) (by decide) (by decide) (by exact rfl) (by exact rfl))) da_nil (by exact rfl)) (by exact rfl)) (by exact rfl)) (by exact rfl)) (by exact rfl))) (by exact rfl) (Or.inl (by exact rfl)))
    (ds_cons (ds_if (db_cmp (or_neZ (hu64 hr)) im_neZ (DO.dx (do_cb (cr_reprD hg (hu70 hr)) im_repr (by exact rfl) x.z_repr (by decide +kernel) (da_cons (DO.dx (do_lst (da_cons (DO.dx (do_app (ok_drawn x) hg (hr.mono (by decide)) (by exact rfl) x.m_drawn x.F_drawn.kp (b_drawn x) takesD (da_cons (DO.dx (do_pv (pv 5))) da_nil (by exact rfl)) (by decide) (by exact rfl) (by exact rfl))) (da_cons (DO.dx (do_appK (ns := ["state"]) (ix := [0]) (ok_drawn x) hg (hr.mono (by decide)) (by exact rfl) x.m_drawn x.F_drawn.kp (bindsK x.F_drawn fun _ _ _ _ _ _ ws hl => match ws, hl with | [_], _ => rfl) takesD (dk_cons (DO.dx (do_pv (pv 5))) dk_nil) (by decide) (by exact rfl) (by exact rfl) (by exact rfl))) da_nil (by exact rfl)) (by exact rfl)))) da_nil (by exact rfl)) (by decide) (by decide) (by exact rfl) (by exact rfl))) (DO.dx (do_cb (cr_reprD hg (hu70 hr)) im_repr (by exact rfl) x.z_repr (by decide +kernel) (da_cons (DO.dx (do_op or_mul im_mul (DO.dx (do_lst (da_cons (DO.dx (do_app (ok__law_drawn x) hg (hr.mono (by decide)) (by exact rfl) x.m__law_drawn x.F__law_drawn.kp (b__law_drawn x) takesD (da_cons (DO.dx (do_pv (pv 5))) da_nil (by exact rfl)) (by decide) (by exact rfl) (by exact rfl))) da_nil (by exact rfl)))) (DO.dx (do_C pe_int fun _ => .int _)))) da_nil (by exact rfl)) (by decide) (by decide) (by exact rfl) (by exact rfl))) (nomark _)) (ds_cons (ds_ret (do_C pe_bl fun _ => .bl _))
    ds_nil) ds_nil)
    ds_nil))))))) (by exact fun _ => rfl))
    (ds_cons (ds_ret (do_C pe_bl fun _ => .bl _))
    ds_nil))
end
end ZH

namespace ZH
open PySem PySem.Spec PyProof.Rows L2 Z
theorem r_take {a b many : Int} (hb : BoxOk b) (hm : 0 < many) (hm2 : many < 2 ^ 39) : ∃ r a' b', 0 ≤ r ∧ r < many ∧ BoxOk b' ∧ runF 4 g__law_take [.o (bx a b), .v (.int many)] = .ok (.fz (.int r)) [.o (bx a' b'), .v (.int many)] := by
  obtain ⟨b0, b1⟩ := hb
  have k1 : pMod (.int a) (.int many) = some (.fz (.int (a.fmod many))) := mod_ok (by omega)
  have k2 : pDiv (.int a) (.int many) = some (.fz (.int (a / many))) := div_ok hm (by omega)
  by_cases h0 : 0 < a
  · refine ⟨a.fmod many, a / many, b, (fmod_nn hm).1, (fmod_nn hm).2, ⟨b0, b1⟩, ?_⟩
    rw [runF_eq]
    unfold g__law_take bx
    simp [_root_.Z.runF_eq, _root_.Z.endF_nx, _root_.Z.endF_rt, _root_.Z.entry, _root_.Z.outsOf, _root_.Z.sSeq, _root_.Z.sNil, _root_.Z.sRet, _root_.Z.sRetV, _root_.Z.sSet, _root_.Z.sIf, _root_.Z.sExp, _root_.Z.sAsg, _root_.Z.setV, _root_.Z.oAnd, _root_.Z.oOr, _root_.Z.oNot, _root_.Z.oIte, _root_.Z.oApp, _root_.Z.oAppK, _root_.Z.aCons, _root_.Z.xO, _root_.Z.oVar, _root_.Z.oC, _root_.Z.xVar, _root_.Z.apF, _root_.Z.avOf, _root_.Z.Av.sl, _root_.Z.Va.sl, _root_.Z.odSl, _root_.Z.aft, _root_.Z.setOuts, _root_.Z.boolV, _root_.Z.Va.d, _root_.Z.oChn, _root_.Z.Od.get, _root_.Z.Sl.get, _root_.Z.ap1, _root_.Z.ap2, _root_.Z.f1, _root_.Z.f2, _root_.Z.fL, _root_.Z.fM, _root_.Z.apL, _root_.Z.getAll, _root_.Z.bNot, _root_.Z.bAnd, _root_.Z.bOr, _root_.Z.bX, _root_.Z.bOf, _root_.Z.truth, _root_.Z.oTup, _root_.Z.oLst, _root_.Z.oSeq, _root_.Z.datas, pIx, L2.atI, L2.ixN, pCmp, h0, pInt, k1, k2, sSto, isOw, stoAt, intO]
  · generalize hr : (b * 40692 + 79).fmod 2147483399 = raw
    have r1 := fmod_nn (i := b * 40692 + 79) (j := 2147483399) (by omega)
    rw [hr] at r1
    have r2 := fmod_nn (i := raw * 39373 + 31) (j := 2147483587) (by omega)
    have m1 : pMul (.int b) (.int 40692) = some (.fz (.int (b * 40692))) := mul_small (by omega) (by decide)
    have m2 : pMul (.int raw) (.int 39373) = some (.fz (.int (raw * 39373))) := mul_small (by omega) (by decide)
    have m3 : pMul (.int raw) (.int 2147483629) = some (.fz (.int (raw * 2147483629))) := mul_small (by omega) (by decide)
    have m4 : pMod (.int (b * 40692 + 79)) (.int 2147483399) = some (.fz (.int raw)) := by rw [mod_ok (by omega), hr]
    have m5 : pMod (.int (raw * 39373 + 31)) (.int 2147483587) = some (.fz (.int ((raw * 39373 + 31).fmod 2147483587))) := mod_ok (by omega)
    generalize (raw * 39373 + 31).fmod 2147483587 = b2 at r2 m5
    have m6 : pDiv (.int (raw * 2147483629 + (b2 + 1))) (.int 8167) = some (.fz (.int ((raw * 2147483629 + (b2 + 1)) / 8167))) := div_ok (by omega) (by decide)
    have m7 : pMod (.int ((raw * 2147483629 + (b2 + 1)) / 8167)) (.int many) = some (.fz (.int (((raw * 2147483629 + (b2 + 1)) / 8167).fmod many))) := mod_ok (by omega)
    have r3 := fmod_nn (i := (raw * 2147483629 + (b2 + 1)) / 8167) hm
    refine ⟨_, a, b2 + 1, r3.1, r3.2, ⟨by omega, by omega⟩, ?_⟩
    rw [runF_eq]
    unfold g__law_take bx
    simp [_root_.Z.runF_eq, _root_.Z.endF_nx, _root_.Z.endF_rt, _root_.Z.entry, _root_.Z.outsOf, _root_.Z.sSeq, _root_.Z.sNil, _root_.Z.sRet, _root_.Z.sRetV, _root_.Z.sSet, _root_.Z.sIf, _root_.Z.sExp, _root_.Z.sAsg, _root_.Z.setV, _root_.Z.oAnd, _root_.Z.oOr, _root_.Z.oNot, _root_.Z.oIte, _root_.Z.oApp, _root_.Z.oAppK, _root_.Z.aCons, _root_.Z.xO, _root_.Z.oVar, _root_.Z.oC, _root_.Z.xVar, _root_.Z.apF, _root_.Z.avOf, _root_.Z.Av.sl, _root_.Z.Va.sl, _root_.Z.odSl, _root_.Z.aft, _root_.Z.setOuts, _root_.Z.boolV, _root_.Z.Va.d, _root_.Z.oChn, _root_.Z.Od.get, _root_.Z.Sl.get, _root_.Z.ap1, _root_.Z.ap2, _root_.Z.f1, _root_.Z.f2, _root_.Z.fL, _root_.Z.fM, _root_.Z.apL, _root_.Z.getAll, _root_.Z.bNot, _root_.Z.bAnd, _root_.Z.bOr, _root_.Z.bX, _root_.Z.bOf, _root_.Z.truth, _root_.Z.oTup, _root_.Z.oLst, _root_.Z.oSeq, _root_.Z.datas, pIx, L2.atI, L2.ixN, pCmp, h0, pInt, pAdd, m1, m2, m3, m4, m5, m6, m7, sSto, isOw, stoAt, intO]
theorem r_pick {a b : Int} {ds : List D} (hb : BoxOk b) (hd : ds ≠ []) (hl : ds.length ≤ 1000) : ∃ d a' b', d ∈ ds ∧ BoxOk b' ∧ runF 2 g__law_pick [.o (bx a b), .v (.list ds)] = .ok (.fz d) [.o (bx a' b'), .v (.list ds)] := by
  have pos : 0 < ds.length := List.length_pos_iff.mpr hd
  obtain ⟨r, a', b', h1, h2, h3, e⟩ := r_take (a := a) (many := (ds.length : Nat)) hb (by omega) (by omega)
  have hr : r.toNat < ds.length := by omega
  refine ⟨ds[r.toNat], a', b', List.getElem_mem hr, h3, ?_⟩
  have k : L2.atI ds r = some ds[r.toNat] := by
    have q := L2.atI_nat (xs := ds) (j := r.toNat) (v := ds[r.toNat]) (List.getElem?_eq_getElem hr)
    rwa [Int.toNat_of_nonneg h1] at q
  rw [runF_eq]
  unfold g__law_pick
  generalize runF 4 g__law_take = φ at e ⊢
  simp [_root_.Z.runF_eq, _root_.Z.endF_nx, _root_.Z.endF_rt, _root_.Z.entry, _root_.Z.outsOf, _root_.Z.sSeq, _root_.Z.sNil, _root_.Z.sRet, _root_.Z.sRetV, _root_.Z.sSet, _root_.Z.sIf, _root_.Z.sExp, _root_.Z.sAsg, _root_.Z.setV, _root_.Z.oAnd, _root_.Z.oOr, _root_.Z.oNot, _root_.Z.oIte, _root_.Z.oApp, _root_.Z.oAppK, _root_.Z.aCons, _root_.Z.xO, _root_.Z.oVar, _root_.Z.oC, _root_.Z.xVar, _root_.Z.apF, _root_.Z.avOf, _root_.Z.Av.sl, _root_.Z.Va.sl, _root_.Z.odSl, _root_.Z.aft, _root_.Z.setOuts, _root_.Z.boolV, _root_.Z.Va.d, _root_.Z.oChn, _root_.Z.Od.get, _root_.Z.Sl.get, _root_.Z.ap1, _root_.Z.ap2, _root_.Z.f1, _root_.Z.f2, _root_.Z.fL, _root_.Z.fM, _root_.Z.apL, _root_.Z.getAll, _root_.Z.bNot, _root_.Z.bAnd, _root_.Z.bOr, _root_.Z.bX, _root_.Z.bOf, _root_.Z.truth, _root_.Z.oTup, _root_.Z.oLst, _root_.Z.oSeq, _root_.Z.datas, e, pLen, pIx, k]
theorem get_scr {ns : List Int} {j : Nat} (h : j < ns.length) : L2.atI (dI ns) (j : Int) = some (.int ns[j]) :=
  L2.atI_nat (by unfold dI; rw [List.getElem?_map, List.getElem?_eq_getElem h]; rfl)
theorem cell_ok (cell K : Int) (hK : 0 ≤ K ∧ K < 5) : ∃ c d, 0 ≤ d ∧ d < 2147483587 ∧ pMod (.int cell) (.int 2147483587) = some (.fz (.int c)) ∧ pMul (.int c) (.int 69761) = some (.fz (.int (c * 69761))) ∧ pMul (.int 1039) (.int K) = some (.fz (.int (1039 * K))) ∧ pMod (.int (c * 69761 + 1039 * K)) (.int 2147483587) = some (.fz (.int d)) := by
  have f1 := fmod_nn (i := cell) (j := 2147483587) (by omega)
  have f2 := fmod_nn (i := cell.fmod 2147483587 * 69761 + 1039 * K) (j := 2147483587) (by omega)
  exact ⟨_, _, f2.1, f2.2, mod_ok (by omega), mul_small (by omega) (by decide), mul_small (by decide) (by omega), mod_ok (by omega)⟩
theorem r_box {ns : List Int} {k : Nat} (hk : k < 5) (hl : ns.length ≤ 63) : ∃ a b, BoxOk b ∧ runF 4 g__law_box [.v (scrD ns), .v (.int (k : Nat))] = .ok (.fo (bx a b)) [.v (scrD ns), .v (.int (k : Nat))] := by
  have p1 : pPow (.int 10) (.int 18) = some (.fz (.int 1000000000000000000)) := rfl
  have m0 : pMul (.int 7411) (.int (k : Nat)) = some (.fz (.int (7411 * (k : Nat)))) := mul_small (by decide) (by omega)
  have len : pLen [scrD ns] = some (.fz (.int (ns.length : Nat))) := by
    show some (Va.fz (.int ((dI ns).length : Nat))) = _
    rw [dI_len]
  have ix : ∀ {j : Nat} (h : j < ns.length), pIx (scrD ns) (.int (j : Nat)) = some (.fz (.int ns[j])) := fun {j} h => by
    show (L2.atI (dI ns) (j : Int)).map Va.fz = _
    rw [get_scr h]; rfl
  have abs : ∀ v : Int, ∃ w, pAbs [.int v] = some (.fz (.int w)) := fun v => ⟨_, rfl⟩
  rw [runF_eq]
  unfold g__law_box
  by_cases h1 : k < ns.length
  · have h1' : ((k : Nat) : Int) < (ns.length : Nat) := by omega
    have i1 := ix h1
    obtain ⟨w, ab⟩ := abs ns[k]
    obtain ⟨c, d, d0, d1, m1, m2, m3, m4⟩ := cell_ok w (k : Nat) (by omega)
    generalize ns[k] = v at i1 ab
    generalize ((k : Nat) : Int) = K at *
    generalize ((ns.length : Nat) : Int) = L at *
    generalize scrD ns = S at *
    by_cases h : (1000000000000000000 : Int) ≤ w
    · refine ⟨w, d + 1, ⟨by omega, by omega⟩, ?_⟩
      simp [_root_.Z.runF_eq, _root_.Z.endF_nx, _root_.Z.endF_rt, _root_.Z.entry, _root_.Z.outsOf, _root_.Z.sSeq, _root_.Z.sNil, _root_.Z.sRet, _root_.Z.sRetV, _root_.Z.sSet, _root_.Z.sIf, _root_.Z.sExp, _root_.Z.sAsg, _root_.Z.setV, _root_.Z.oAnd, _root_.Z.oOr, _root_.Z.oNot, _root_.Z.oIte, _root_.Z.oApp, _root_.Z.oAppK, _root_.Z.aCons, _root_.Z.xO, _root_.Z.oVar, _root_.Z.oC, _root_.Z.xVar, _root_.Z.apF, _root_.Z.avOf, _root_.Z.Av.sl, _root_.Z.Va.sl, _root_.Z.odSl, _root_.Z.aft, _root_.Z.setOuts, _root_.Z.boolV, _root_.Z.Va.d, _root_.Z.oChn, _root_.Z.Od.get, _root_.Z.Sl.get, _root_.Z.ap1, _root_.Z.ap2, _root_.Z.f1, _root_.Z.f2, _root_.Z.fL, _root_.Z.fM, _root_.Z.apL, _root_.Z.getAll, _root_.Z.bNot, _root_.Z.bAnd, _root_.Z.bOr, _root_.Z.bX, _root_.Z.bOf, _root_.Z.truth, _root_.Z.oTup, _root_.Z.oLst, _root_.Z.oSeq, _root_.Z.datas, m0, pAdd, pCmp, len, h1', i1, pInt, ab, p1, h, m1, m2, m3, m4, bx, sizeLine]
    · refine ⟨0, d + 1, ⟨by omega, by omega⟩, ?_⟩
      simp [_root_.Z.runF_eq, _root_.Z.endF_nx, _root_.Z.endF_rt, _root_.Z.entry, _root_.Z.outsOf, _root_.Z.sSeq, _root_.Z.sNil, _root_.Z.sRet, _root_.Z.sRetV, _root_.Z.sSet, _root_.Z.sIf, _root_.Z.sExp, _root_.Z.sAsg, _root_.Z.setV, _root_.Z.oAnd, _root_.Z.oOr, _root_.Z.oNot, _root_.Z.oIte, _root_.Z.oApp, _root_.Z.oAppK, _root_.Z.aCons, _root_.Z.xO, _root_.Z.oVar, _root_.Z.oC, _root_.Z.xVar, _root_.Z.apF, _root_.Z.avOf, _root_.Z.Av.sl, _root_.Z.Va.sl, _root_.Z.odSl, _root_.Z.aft, _root_.Z.setOuts, _root_.Z.boolV, _root_.Z.Va.d, _root_.Z.oChn, _root_.Z.Od.get, _root_.Z.Sl.get, _root_.Z.ap1, _root_.Z.ap2, _root_.Z.f1, _root_.Z.f2, _root_.Z.fL, _root_.Z.fM, _root_.Z.apL, _root_.Z.getAll, _root_.Z.bNot, _root_.Z.bAnd, _root_.Z.bOr, _root_.Z.bX, _root_.Z.bOf, _root_.Z.truth, _root_.Z.oTup, _root_.Z.oLst, _root_.Z.oSeq, _root_.Z.datas, m0, pAdd, pCmp, len, h1', i1, pInt, ab, p1, h, m1, m2, m3, m4, bx, sizeLine]
  · have h1' : ¬ ((k : Nat) : Int) < (ns.length : Nat) := by omega
    by_cases h2 : 0 < ns.length
    · have h2' : (0 : Int) < (ns.length : Nat) := by omega
      have e1 : ((k : Nat) : Int).fmod (ns.length : Nat) = ((k % ns.length : Nat) : Int) := by
        rw [Int.fmod_eq_emod_of_nonneg _ (by omega)]; rfl
      have n1 : pMod (.int (k : Nat)) (.int (ns.length : Nat)) = some (.fz (.int ((k % ns.length : Nat) : Int))) := by rw [mod_ok (by omega), e1]
      have i1 := ix (j := k % ns.length) (Nat.mod_lt _ h2)
      generalize ns[k % ns.length]'(Nat.mod_lt _ h2) = v at i1
      obtain ⟨w, ab⟩ := abs v
      have f1 := fmod_nn (i := w) (j := 2147483587) (by omega)
      have n2 : pMod (.int w) (.int 2147483587) = some (.fz (.int (w.fmod 2147483587))) := mod_ok (by omega)
      generalize w.fmod 2147483587 = z at f1 n2
      have n3 : pMul (.int z) (.int 50461) = some (.fz (.int (z * 50461))) := mul_small (by omega) (by decide)
      obtain ⟨c, d, d0, d1, m1, m2, m3, m4⟩ := cell_ok (7411 * (k : Nat) + 1039 + z * 50461) (k : Nat) (by omega)
      generalize ((k % ns.length : Nat) : Int) = J at *
      generalize ((k : Nat) : Int) = K at *
      generalize ((ns.length : Nat) : Int) = L at *
      generalize scrD ns = S at *
      by_cases h : (1000000000000000000 : Int) ≤ 7411 * K + 1039 + z * 50461
      · refine ⟨7411 * K + 1039 + z * 50461, d + 1, ⟨by omega, by omega⟩, ?_⟩
        simp [_root_.Z.runF_eq, _root_.Z.endF_nx, _root_.Z.endF_rt, _root_.Z.entry, _root_.Z.outsOf, _root_.Z.sSeq, _root_.Z.sNil, _root_.Z.sRet, _root_.Z.sRetV, _root_.Z.sSet, _root_.Z.sIf, _root_.Z.sExp, _root_.Z.sAsg, _root_.Z.setV, _root_.Z.oAnd, _root_.Z.oOr, _root_.Z.oNot, _root_.Z.oIte, _root_.Z.oApp, _root_.Z.oAppK, _root_.Z.aCons, _root_.Z.xO, _root_.Z.oVar, _root_.Z.oC, _root_.Z.xVar, _root_.Z.apF, _root_.Z.avOf, _root_.Z.Av.sl, _root_.Z.Va.sl, _root_.Z.odSl, _root_.Z.aft, _root_.Z.setOuts, _root_.Z.boolV, _root_.Z.Va.d, _root_.Z.oChn, _root_.Z.Od.get, _root_.Z.Sl.get, _root_.Z.ap1, _root_.Z.ap2, _root_.Z.f1, _root_.Z.f2, _root_.Z.fL, _root_.Z.fM, _root_.Z.apL, _root_.Z.getAll, _root_.Z.bNot, _root_.Z.bAnd, _root_.Z.bOr, _root_.Z.bX, _root_.Z.bOf, _root_.Z.truth, _root_.Z.oTup, _root_.Z.oLst, _root_.Z.oSeq, _root_.Z.datas, m0, pAdd, pCmp, len, h1', h2', n1, n2, n3, i1, pInt, ab, p1, h, m1, m2, m3, m4, bx, sizeLine]
      · refine ⟨0, d + 1, ⟨by omega, by omega⟩, ?_⟩
        simp [_root_.Z.runF_eq, _root_.Z.endF_nx, _root_.Z.endF_rt, _root_.Z.entry, _root_.Z.outsOf, _root_.Z.sSeq, _root_.Z.sNil, _root_.Z.sRet, _root_.Z.sRetV, _root_.Z.sSet, _root_.Z.sIf, _root_.Z.sExp, _root_.Z.sAsg, _root_.Z.setV, _root_.Z.oAnd, _root_.Z.oOr, _root_.Z.oNot, _root_.Z.oIte, _root_.Z.oApp, _root_.Z.oAppK, _root_.Z.aCons, _root_.Z.xO, _root_.Z.oVar, _root_.Z.oC, _root_.Z.xVar, _root_.Z.apF, _root_.Z.avOf, _root_.Z.Av.sl, _root_.Z.Va.sl, _root_.Z.odSl, _root_.Z.aft, _root_.Z.setOuts, _root_.Z.boolV, _root_.Z.Va.d, _root_.Z.oChn, _root_.Z.Od.get, _root_.Z.Sl.get, _root_.Z.ap1, _root_.Z.ap2, _root_.Z.f1, _root_.Z.f2, _root_.Z.fL, _root_.Z.fM, _root_.Z.apL, _root_.Z.getAll, _root_.Z.bNot, _root_.Z.bAnd, _root_.Z.bOr, _root_.Z.bX, _root_.Z.bOf, _root_.Z.truth, _root_.Z.oTup, _root_.Z.oLst, _root_.Z.oSeq, _root_.Z.datas, m0, pAdd, pCmp, len, h1', h2', n1, n2, n3, i1, pInt, ab, p1, h, m1, m2, m3, m4, bx, sizeLine]
    · have h2' : ¬ (0 : Int) < (ns.length : Nat) := by omega
      obtain ⟨c, d, d0, d1, m1, m2, m3, m4⟩ := cell_ok (7411 * (k : Nat) + 1039) (k : Nat) (by omega)
      generalize ((k : Nat) : Int) = K at *
      generalize ((ns.length : Nat) : Int) = L at *
      generalize scrD ns = S at *
      by_cases h : (1000000000000000000 : Int) ≤ 7411 * K + 1039
      · refine ⟨7411 * K + 1039, d + 1, ⟨by omega, by omega⟩, ?_⟩
        simp [_root_.Z.runF_eq, _root_.Z.endF_nx, _root_.Z.endF_rt, _root_.Z.entry, _root_.Z.outsOf, _root_.Z.sSeq, _root_.Z.sNil, _root_.Z.sRet, _root_.Z.sRetV, _root_.Z.sSet, _root_.Z.sIf, _root_.Z.sExp, _root_.Z.sAsg, _root_.Z.setV, _root_.Z.oAnd, _root_.Z.oOr, _root_.Z.oNot, _root_.Z.oIte, _root_.Z.oApp, _root_.Z.oAppK, _root_.Z.aCons, _root_.Z.xO, _root_.Z.oVar, _root_.Z.oC, _root_.Z.xVar, _root_.Z.apF, _root_.Z.avOf, _root_.Z.Av.sl, _root_.Z.Va.sl, _root_.Z.odSl, _root_.Z.aft, _root_.Z.setOuts, _root_.Z.boolV, _root_.Z.Va.d, _root_.Z.oChn, _root_.Z.Od.get, _root_.Z.Sl.get, _root_.Z.ap1, _root_.Z.ap2, _root_.Z.f1, _root_.Z.f2, _root_.Z.fL, _root_.Z.fM, _root_.Z.apL, _root_.Z.getAll, _root_.Z.bNot, _root_.Z.bAnd, _root_.Z.bOr, _root_.Z.bX, _root_.Z.bOf, _root_.Z.truth, _root_.Z.oTup, _root_.Z.oLst, _root_.Z.oSeq, _root_.Z.datas, m0, pAdd, pCmp, len, h1', h2', pInt, p1, h, m1, m2, m3, m4, bx, sizeLine]
      · refine ⟨0, d + 1, ⟨by omega, by omega⟩, ?_⟩
        simp [_root_.Z.runF_eq, _root_.Z.endF_nx, _root_.Z.endF_rt, _root_.Z.entry, _root_.Z.outsOf, _root_.Z.sSeq, _root_.Z.sNil, _root_.Z.sRet, _root_.Z.sRetV, _root_.Z.sSet, _root_.Z.sIf, _root_.Z.sExp, _root_.Z.sAsg, _root_.Z.setV, _root_.Z.oAnd, _root_.Z.oOr, _root_.Z.oNot, _root_.Z.oIte, _root_.Z.oApp, _root_.Z.oAppK, _root_.Z.aCons, _root_.Z.xO, _root_.Z.oVar, _root_.Z.oC, _root_.Z.xVar, _root_.Z.apF, _root_.Z.avOf, _root_.Z.Av.sl, _root_.Z.Va.sl, _root_.Z.odSl, _root_.Z.aft, _root_.Z.setOuts, _root_.Z.boolV, _root_.Z.Va.d, _root_.Z.oChn, _root_.Z.Od.get, _root_.Z.Sl.get, _root_.Z.ap1, _root_.Z.ap2, _root_.Z.f1, _root_.Z.f2, _root_.Z.fL, _root_.Z.fM, _root_.Z.apL, _root_.Z.getAll, _root_.Z.bNot, _root_.Z.bAnd, _root_.Z.bOr, _root_.Z.bX, _root_.Z.bOf, _root_.Z.truth, _root_.Z.oTup, _root_.Z.oLst, _root_.Z.oSeq, _root_.Z.datas, m0, pAdd, pCmp, len, h1', h2', pInt, p1, h, m1, m2, m3, m4, bx, sizeLine]
end ZH

namespace ZH
open PySem PySem.Spec PyProof.Rows L2 Z
/-! ### data -/
structure Per where
  w : Str
  p : Int
  b : Int
  u : Int
def perD (x : Per) : D := .tuple [.str x.w, .int x.p, .int x.b, .int x.u]
structure Pas where
  t : Int
  h : Int
  l : Int
  w : Int
  s : List Int
def pasD (x : Pas) : D := .tuple [.int x.t, .int x.h, .int x.l, .int x.w, .tuple (dI x.s)]
def smOk (d : D) : Prop := d = .none ∨ ∃ s, d = .int s
def stOk (d : D) : Prop := d = .none ∨ d = .str "stand" ∨ ∃ n : Int, (0 ≤ n ∧ n < 10 ^ 10) ∧ d = .int n
abbrev houseD (R : List Int) (ps : List Pas) (sm : List D) : D := .tuple [.tuple (dI R), .tuple (ps.map pasD), .tuple sm]
abbrev stateD (now en : Int) (H : D) (P : List Per) (tl : List D) : D := .tuple [.int now, .int en, H, .tuple (P.map perD), .tuple tl]
/-! ### smoke -/
def clrD (d : D) (now : Int) : Bool := match d with
  | .int s => decide (now < s)
  | _ => true
theorem at_tup {ds : List D} {r : Nat} {d : D} (h : ds[r]? = some d) : pIx (.tuple ds) (.int (r : Nat)) = some (.fz d) := by
  show (L2.atI ds (r : Int)).map Va.fz = _
  rw [L2.atI_nat h]
  rfl
theorem r_is_place {a b : D} {sm : List D} {r : Nat} {now : Int} {d : D} (hd : sm[r]? = some d) (hn : smOk d) : runF 4 g_is_place [.v (.tuple [a, b, .tuple sm]), .v (.int (r : Nat)), .v (.int now)] = .ok (.fz (.bool (clrD d now))) [.v (.tuple [a, b, .tuple sm]), .v (.int (r : Nat)), .v (.int now)] := by
  have k1 : pIx (.tuple [a, b, .tuple sm]) (.int 2) = some (.fz (.tuple sm)) := rfl
  have k2 := at_tup hd
  generalize PyData.tuple [a, b, .tuple sm] = H at k1 ⊢
  generalize ((r : Nat) : Int) = R at k2 ⊢
  rw [runF_eq]
  unfold g_is_place
  rcases hn with rfl | ⟨s, rfl⟩ <;> simp [_root_.Z.runF_eq, _root_.Z.endF_nx, _root_.Z.endF_rt, _root_.Z.entry, _root_.Z.outsOf, _root_.Z.sSeq, _root_.Z.sNil, _root_.Z.sRet, _root_.Z.sRetV, _root_.Z.sSet, _root_.Z.sIf, _root_.Z.sExp, _root_.Z.sAsg, _root_.Z.setV, _root_.Z.oAnd, _root_.Z.oOr, _root_.Z.oNot, _root_.Z.oIte, _root_.Z.oApp, _root_.Z.oAppK, _root_.Z.aCons, _root_.Z.xO, _root_.Z.oVar, _root_.Z.oC, _root_.Z.xVar, _root_.Z.apF, _root_.Z.avOf, _root_.Z.Av.sl, _root_.Z.Va.sl, _root_.Z.odSl, _root_.Z.aft, _root_.Z.setOuts, _root_.Z.boolV, _root_.Z.Va.d, _root_.Z.oChn, _root_.Z.Od.get, _root_.Z.Sl.get, _root_.Z.ap1, _root_.Z.ap2, _root_.Z.f1, _root_.Z.f2, _root_.Z.fL, _root_.Z.fM, _root_.Z.apL, _root_.Z.getAll, _root_.Z.bNot, _root_.Z.bAnd, _root_.Z.bOr, _root_.Z.bX, _root_.Z.bOf, _root_.Z.truth, _root_.Z.oTup, _root_.Z.oLst, _root_.Z.oSeq, _root_.Z.datas, k1, k2, pIs, isN, pCmp, clrD]
theorem r_clear {a b : D} {sm : List D} {r : Nat} {now : Int} {d : D} (hd : sm[r]? = some d) (hn : smOk d) : runF 3 g__law_clear [.v (.tuple [a, b, .tuple sm]), .v (.int (r : Nat)), .v (.int now)] = .ok (.fz (.bool (clrD d now))) [.v (.tuple [a, b, .tuple sm]), .v (.int (r : Nat)), .v (.int now)] := by
  have k1 : pIx (.tuple [a, b, .tuple sm]) (.int 2) = some (.fz (.tuple sm)) := rfl
  have k2 := at_tup hd
  generalize PyData.tuple [a, b, .tuple sm] = H at k1 ⊢
  generalize ((r : Nat) : Int) = R at k2 ⊢
  rw [runF_eq]
  unfold g__law_clear
  rcases hn with rfl | ⟨s, rfl⟩ <;> simp [_root_.Z.runF_eq, _root_.Z.endF_nx, _root_.Z.endF_rt, _root_.Z.entry, _root_.Z.outsOf, _root_.Z.sSeq, _root_.Z.sNil, _root_.Z.sRet, _root_.Z.sRetV, _root_.Z.sSet, _root_.Z.sIf, _root_.Z.sExp, _root_.Z.sAsg, _root_.Z.setV, _root_.Z.oAnd, _root_.Z.oOr, _root_.Z.oNot, _root_.Z.oIte, _root_.Z.oApp, _root_.Z.oAppK, _root_.Z.aCons, _root_.Z.xO, _root_.Z.oVar, _root_.Z.oC, _root_.Z.xVar, _root_.Z.apF, _root_.Z.avOf, _root_.Z.Av.sl, _root_.Z.Va.sl, _root_.Z.odSl, _root_.Z.aft, _root_.Z.setOuts, _root_.Z.boolV, _root_.Z.Va.d, _root_.Z.oChn, _root_.Z.Od.get, _root_.Z.Sl.get, _root_.Z.ap1, _root_.Z.ap2, _root_.Z.f1, _root_.Z.f2, _root_.Z.fL, _root_.Z.fM, _root_.Z.apL, _root_.Z.getAll, _root_.Z.bNot, _root_.Z.bAnd, _root_.Z.bOr, _root_.Z.bX, _root_.Z.bOf, _root_.Z.truth, _root_.Z.oTup, _root_.Z.oLst, _root_.Z.oSeq, _root_.Z.datas, k1, k2, pIs, isN, pCmp, clrD]
/-! ### steps -/
def stT : D → Str
  | .none => "-"
  | .int n => tx n
  | _ => "s"
theorem eq_is (n : Int) (x : Str) (h : PyData.strOk x = true) : pEqZ (.int n) (.str x) = some (.fz (.bool false)) := by
  show (if _ then _ else _) = _
  have e : SeqAt.shaped (.str x) = true := by
    unfold SeqAt.shaped
    rw [show PyData.canLay0 (.str x) = true from h]
    rfl
  rw [if_pos ⟨rfl, e⟩]
  rfl
theorem r_step_word {d : D} (h : stOk d) : runF 1 g_step_word [.v d] = .ok (.fz (.str (stT d))) [.v d] := by
  rw [runF_eq]
  unfold g_step_word
  rcases h with rfl | rfl | ⟨n, hn, rfl⟩
  · simp [_root_.Z.runF_eq, _root_.Z.endF_nx, _root_.Z.endF_rt, _root_.Z.entry, _root_.Z.outsOf, _root_.Z.sSeq, _root_.Z.sNil, _root_.Z.sRet, _root_.Z.sRetV, _root_.Z.sSet, _root_.Z.sIf, _root_.Z.sExp, _root_.Z.sAsg, _root_.Z.setV, _root_.Z.oAnd, _root_.Z.oOr, _root_.Z.oNot, _root_.Z.oIte, _root_.Z.oApp, _root_.Z.oAppK, _root_.Z.aCons, _root_.Z.xO, _root_.Z.oVar, _root_.Z.oC, _root_.Z.xVar, _root_.Z.apF, _root_.Z.avOf, _root_.Z.Av.sl, _root_.Z.Va.sl, _root_.Z.odSl, _root_.Z.aft, _root_.Z.setOuts, _root_.Z.boolV, _root_.Z.Va.d, _root_.Z.oChn, _root_.Z.Od.get, _root_.Z.Sl.get, _root_.Z.ap1, _root_.Z.ap2, _root_.Z.f1, _root_.Z.f2, _root_.Z.fL, _root_.Z.fM, _root_.Z.apL, _root_.Z.getAll, _root_.Z.bNot, _root_.Z.bAnd, _root_.Z.bOr, _root_.Z.bX, _root_.Z.bOf, _root_.Z.truth, _root_.Z.oTup, _root_.Z.oLst, _root_.Z.oSeq, _root_.Z.datas, pIs, isN, stT]
  · simp [_root_.Z.runF_eq, _root_.Z.endF_nx, _root_.Z.endF_rt, _root_.Z.entry, _root_.Z.outsOf, _root_.Z.sSeq, _root_.Z.sNil, _root_.Z.sRet, _root_.Z.sRetV, _root_.Z.sSet, _root_.Z.sIf, _root_.Z.sExp, _root_.Z.sAsg, _root_.Z.setV, _root_.Z.oAnd, _root_.Z.oOr, _root_.Z.oNot, _root_.Z.oIte, _root_.Z.oApp, _root_.Z.oAppK, _root_.Z.aCons, _root_.Z.xO, _root_.Z.oVar, _root_.Z.oC, _root_.Z.xVar, _root_.Z.apF, _root_.Z.avOf, _root_.Z.Av.sl, _root_.Z.Va.sl, _root_.Z.odSl, _root_.Z.aft, _root_.Z.setOuts, _root_.Z.boolV, _root_.Z.Va.d, _root_.Z.oChn, _root_.Z.Od.get, _root_.Z.Sl.get, _root_.Z.ap1, _root_.Z.ap2, _root_.Z.f1, _root_.Z.f2, _root_.Z.fL, _root_.Z.fM, _root_.Z.apL, _root_.Z.getAll, _root_.Z.bNot, _root_.Z.bAnd, _root_.Z.bOr, _root_.Z.bX, _root_.Z.bOf, _root_.Z.truth, _root_.Z.oTup, _root_.Z.oLst, _root_.Z.oSeq, _root_.Z.datas, pIs, isN, stT, eq_strs]
  · have k1 := eq_is n "stand" (by decide +kernel)
    have k2 := str_ok hn.1 hn.2
    simp [_root_.Z.runF_eq, _root_.Z.endF_nx, _root_.Z.endF_rt, _root_.Z.entry, _root_.Z.outsOf, _root_.Z.sSeq, _root_.Z.sNil, _root_.Z.sRet, _root_.Z.sRetV, _root_.Z.sSet, _root_.Z.sIf, _root_.Z.sExp, _root_.Z.sAsg, _root_.Z.setV, _root_.Z.oAnd, _root_.Z.oOr, _root_.Z.oNot, _root_.Z.oIte, _root_.Z.oApp, _root_.Z.oAppK, _root_.Z.aCons, _root_.Z.xO, _root_.Z.oVar, _root_.Z.oC, _root_.Z.xVar, _root_.Z.apF, _root_.Z.avOf, _root_.Z.Av.sl, _root_.Z.Va.sl, _root_.Z.odSl, _root_.Z.aft, _root_.Z.setOuts, _root_.Z.boolV, _root_.Z.Va.d, _root_.Z.oChn, _root_.Z.Od.get, _root_.Z.Sl.get, _root_.Z.ap1, _root_.Z.ap2, _root_.Z.f1, _root_.Z.f2, _root_.Z.fL, _root_.Z.fM, _root_.Z.apL, _root_.Z.getAll, _root_.Z.bNot, _root_.Z.bAnd, _root_.Z.bOr, _root_.Z.bX, _root_.Z.bOf, _root_.Z.truth, _root_.Z.oTup, _root_.Z.oLst, _root_.Z.oSeq, _root_.Z.datas, pIs, isN, stT, k1, k2]
theorem r_law_word {d : D} (h : stOk d) : runF 1 g__law_word [.v d] = .ok (.fz (.str (stT d))) [.v d] := by
  rw [runF_eq]
  unfold g__law_word
  rcases h with rfl | rfl | ⟨n, hn, rfl⟩
  · simp [_root_.Z.runF_eq, _root_.Z.endF_nx, _root_.Z.endF_rt, _root_.Z.entry, _root_.Z.outsOf, _root_.Z.sSeq, _root_.Z.sNil, _root_.Z.sRet, _root_.Z.sRetV, _root_.Z.sSet, _root_.Z.sIf, _root_.Z.sExp, _root_.Z.sAsg, _root_.Z.setV, _root_.Z.oAnd, _root_.Z.oOr, _root_.Z.oNot, _root_.Z.oIte, _root_.Z.oApp, _root_.Z.oAppK, _root_.Z.aCons, _root_.Z.xO, _root_.Z.oVar, _root_.Z.oC, _root_.Z.xVar, _root_.Z.apF, _root_.Z.avOf, _root_.Z.Av.sl, _root_.Z.Va.sl, _root_.Z.odSl, _root_.Z.aft, _root_.Z.setOuts, _root_.Z.boolV, _root_.Z.Va.d, _root_.Z.oChn, _root_.Z.Od.get, _root_.Z.Sl.get, _root_.Z.ap1, _root_.Z.ap2, _root_.Z.f1, _root_.Z.f2, _root_.Z.fL, _root_.Z.fM, _root_.Z.apL, _root_.Z.getAll, _root_.Z.bNot, _root_.Z.bAnd, _root_.Z.bOr, _root_.Z.bX, _root_.Z.bOf, _root_.Z.truth, _root_.Z.oTup, _root_.Z.oLst, _root_.Z.oSeq, _root_.Z.datas, pIs, isN, stT]
  · simp [_root_.Z.runF_eq, _root_.Z.endF_nx, _root_.Z.endF_rt, _root_.Z.entry, _root_.Z.outsOf, _root_.Z.sSeq, _root_.Z.sNil, _root_.Z.sRet, _root_.Z.sRetV, _root_.Z.sSet, _root_.Z.sIf, _root_.Z.sExp, _root_.Z.sAsg, _root_.Z.setV, _root_.Z.oAnd, _root_.Z.oOr, _root_.Z.oNot, _root_.Z.oIte, _root_.Z.oApp, _root_.Z.oAppK, _root_.Z.aCons, _root_.Z.xO, _root_.Z.oVar, _root_.Z.oC, _root_.Z.xVar, _root_.Z.apF, _root_.Z.avOf, _root_.Z.Av.sl, _root_.Z.Va.sl, _root_.Z.odSl, _root_.Z.aft, _root_.Z.setOuts, _root_.Z.boolV, _root_.Z.Va.d, _root_.Z.oChn, _root_.Z.Od.get, _root_.Z.Sl.get, _root_.Z.ap1, _root_.Z.ap2, _root_.Z.f1, _root_.Z.f2, _root_.Z.fL, _root_.Z.fM, _root_.Z.apL, _root_.Z.getAll, _root_.Z.bNot, _root_.Z.bAnd, _root_.Z.bOr, _root_.Z.bX, _root_.Z.bOf, _root_.Z.truth, _root_.Z.oTup, _root_.Z.oLst, _root_.Z.oSeq, _root_.Z.datas, pIs, isN, stT, eq_strs]
  · have k1 := eq_is n "stand" (by decide +kernel)
    have k2 := str_ok hn.1 hn.2
    simp [_root_.Z.runF_eq, _root_.Z.endF_nx, _root_.Z.endF_rt, _root_.Z.entry, _root_.Z.outsOf, _root_.Z.sSeq, _root_.Z.sNil, _root_.Z.sRet, _root_.Z.sRetV, _root_.Z.sSet, _root_.Z.sIf, _root_.Z.sExp, _root_.Z.sAsg, _root_.Z.setV, _root_.Z.oAnd, _root_.Z.oOr, _root_.Z.oNot, _root_.Z.oIte, _root_.Z.oApp, _root_.Z.oAppK, _root_.Z.aCons, _root_.Z.xO, _root_.Z.oVar, _root_.Z.oC, _root_.Z.xVar, _root_.Z.apF, _root_.Z.avOf, _root_.Z.Av.sl, _root_.Z.Va.sl, _root_.Z.odSl, _root_.Z.aft, _root_.Z.setOuts, _root_.Z.boolV, _root_.Z.Va.d, _root_.Z.oChn, _root_.Z.Od.get, _root_.Z.Sl.get, _root_.Z.ap1, _root_.Z.ap2, _root_.Z.f1, _root_.Z.f2, _root_.Z.fL, _root_.Z.fM, _root_.Z.apL, _root_.Z.getAll, _root_.Z.bNot, _root_.Z.bAnd, _root_.Z.bOr, _root_.Z.bX, _root_.Z.bOf, _root_.Z.truth, _root_.Z.oTup, _root_.Z.oLst, _root_.Z.oSeq, _root_.Z.datas, pIs, isN, stT, k1, k2]
theorem sz_stT {d : D} (h : stOk d) : Sz 10 (stT d) := by
  rcases h with rfl | rfl | ⟨n, hn, rfl⟩
  · exact ⟨by decide +kernel, by decide +kernel⟩
  · exact ⟨by decide +kernel, by decide +kernel⟩
  · exact sz_tx hn.1 hn.2
def wordsT (tl : List D) : Str := if tl = [] then "-" else Txt.join " " (tl.map stT)
theorem map_str {α : Type} (l : List α) (f : α → Str) : (l.map fun a => PyData.str (f a)) = (l.map f).map PyData.str := by rw [List.map_map]; rfl
theorem join_steps {tl : List D} (h : ∀ d ∈ tl, stOk d) (hl : tl.length ≤ 100) : pJoin (.str " ") (.list ((tl.map stT).map PyData.str)) = some (.fz (.str (Txt.join " " (tl.map stT)))) :=
  join_ok (c := 1) (B := 10) ⟨by decide +kernel, by decide +kernel⟩ (fun y hy => by
    obtain ⟨d, hd, rfl⟩ := List.mem_map.mp hy
    exact sz_stT (h d hd)) (by rw [List.length_map]; omega)
theorem r_step_words {tl : List D} (h : ∀ d ∈ tl, stOk d) (hl : tl.length ≤ 100) : runF 2 g_step_words [.v (.tuple tl)] = .ok (.fz (.str (wordsT tl))) [.v (.tuple tl)] := by
  have big : (100 : Nat) ≤ sizeLine := by decide
  have c := comp_map (fi := iSeq (oVar 0)) (g := gN 1) (elt := e1_step_words) (vs := [1]) (ρ := [.vl (.tuple tl), .un]) (ρ0 := [.vl (.tuple tl), .un]) (ds := tl) (fun d => .fz (.str (stT d))) rfl (fun d hd => by
    have e := r_step_word (h d hd)
    refine ⟨[.vl (.tuple tl), .vl d], [.vl (.tuple tl), .vl d], rfl, ?_, rfl⟩
    unfold e1_step_words
    generalize runF 1 g_step_word = φ at e ⊢
    simp [_root_.Z.runF_eq, _root_.Z.endF_nx, _root_.Z.endF_rt, _root_.Z.entry, _root_.Z.outsOf, _root_.Z.sSeq, _root_.Z.sNil, _root_.Z.sRet, _root_.Z.sRetV, _root_.Z.sSet, _root_.Z.sIf, _root_.Z.sExp, _root_.Z.sAsg, _root_.Z.setV, _root_.Z.oAnd, _root_.Z.oOr, _root_.Z.oNot, _root_.Z.oIte, _root_.Z.oApp, _root_.Z.oAppK, _root_.Z.aCons, _root_.Z.xO, _root_.Z.oVar, _root_.Z.oC, _root_.Z.xVar, _root_.Z.apF, _root_.Z.avOf, _root_.Z.Av.sl, _root_.Z.Va.sl, _root_.Z.odSl, _root_.Z.aft, _root_.Z.setOuts, _root_.Z.boolV, _root_.Z.Va.d, _root_.Z.oChn, _root_.Z.Od.get, _root_.Z.Sl.get, _root_.Z.ap1, _root_.Z.ap2, _root_.Z.f1, _root_.Z.f2, _root_.Z.fL, _root_.Z.fM, _root_.Z.apL, _root_.Z.getAll, _root_.Z.bNot, _root_.Z.bAnd, _root_.Z.bOr, _root_.Z.bX, _root_.Z.bOf, _root_.Z.truth, _root_.Z.oTup, _root_.Z.oLst, _root_.Z.oSeq, _root_.Z.datas, e]) (by omega)
  have j := join_steps h hl
  rw [show (tl.map fun d => (Va.fz (.str (stT d))).d) = (tl.map stT).map PyData.str from map_str tl stT] at c
  rw [runF_eq]
  unfold g_step_words
  generalize oComp (iSeq (oVar 0)) (gN 1) bYes e1_step_words [1] = κ at c ⊢
  generalize (tl.map stT).map PyData.str = Z at c j
  unfold wordsT
  cases tl with
  | nil => simp [_root_.Z.runF_eq, _root_.Z.endF_nx, _root_.Z.endF_rt, _root_.Z.entry, _root_.Z.outsOf, _root_.Z.sSeq, _root_.Z.sNil, _root_.Z.sRet, _root_.Z.sRetV, _root_.Z.sSet, _root_.Z.sIf, _root_.Z.sExp, _root_.Z.sAsg, _root_.Z.setV, _root_.Z.oAnd, _root_.Z.oOr, _root_.Z.oNot, _root_.Z.oIte, _root_.Z.oApp, _root_.Z.oAppK, _root_.Z.aCons, _root_.Z.xO, _root_.Z.oVar, _root_.Z.oC, _root_.Z.xVar, _root_.Z.apF, _root_.Z.avOf, _root_.Z.Av.sl, _root_.Z.Va.sl, _root_.Z.odSl, _root_.Z.aft, _root_.Z.setOuts, _root_.Z.boolV, _root_.Z.Va.d, _root_.Z.oChn, _root_.Z.Od.get, _root_.Z.Sl.get, _root_.Z.ap1, _root_.Z.ap2, _root_.Z.f1, _root_.Z.f2, _root_.Z.fL, _root_.Z.fM, _root_.Z.apL, _root_.Z.getAll, _root_.Z.bNot, _root_.Z.bAnd, _root_.Z.bOr, _root_.Z.bX, _root_.Z.bOf, _root_.Z.truth, _root_.Z.oTup, _root_.Z.oLst, _root_.Z.oSeq, _root_.Z.datas, c]
  | cons d tl =>
    generalize Txt.join " " ((d :: tl).map stT) = J at j ⊢
    simp [_root_.Z.runF_eq, _root_.Z.endF_nx, _root_.Z.endF_rt, _root_.Z.entry, _root_.Z.outsOf, _root_.Z.sSeq, _root_.Z.sNil, _root_.Z.sRet, _root_.Z.sRetV, _root_.Z.sSet, _root_.Z.sIf, _root_.Z.sExp, _root_.Z.sAsg, _root_.Z.setV, _root_.Z.oAnd, _root_.Z.oOr, _root_.Z.oNot, _root_.Z.oIte, _root_.Z.oApp, _root_.Z.oAppK, _root_.Z.aCons, _root_.Z.xO, _root_.Z.oVar, _root_.Z.oC, _root_.Z.xVar, _root_.Z.apF, _root_.Z.avOf, _root_.Z.Av.sl, _root_.Z.Va.sl, _root_.Z.odSl, _root_.Z.aft, _root_.Z.setOuts, _root_.Z.boolV, _root_.Z.Va.d, _root_.Z.oChn, _root_.Z.Od.get, _root_.Z.Sl.get, _root_.Z.ap1, _root_.Z.ap2, _root_.Z.f1, _root_.Z.f2, _root_.Z.fL, _root_.Z.fM, _root_.Z.apL, _root_.Z.getAll, _root_.Z.bNot, _root_.Z.bAnd, _root_.Z.bOr, _root_.Z.bX, _root_.Z.bOf, _root_.Z.truth, _root_.Z.oTup, _root_.Z.oLst, _root_.Z.oSeq, _root_.Z.datas, c, oJoin, isStr, j]
end ZH

namespace ZH
open PySem PySem.Spec PyProof.Rows L2 Z
/-! ### people of a room -/
def tU (now r : Int) (x : Per) : Bool := decide (x.p = r) && (decide (x.w = "out") || (decide (x.w = "here") && decide (x.b = now)))
def tC (now r : Int) (x : Per) : Bool := decide (x.p = r) && (decide (x.w = "here") && decide (now < x.b))
def tL (r : Int) (x : Per) : Bool := decide (x.w = "lost") && decide (x.p = r)
/-- a test of a person, told of data -/
def ofD (t : Per → Bool) : D → Bool
  | .tuple [.str w, .int p, .int b, .int u] => t ⟨w, p, b, u⟩
  | _ => false
def uOf : D → D
  | .tuple [_, _, _, u] => u
  | _ => .none
def buOf : D → D
  | .tuple [_, _, b, u] => .tuple [b, u]
  | _ => .none
def pOf : D → D
  | .tuple [_, p, _, _] => p
  | _ => .none
theorem filt_per (t : Per → Bool) (f : D → D) : ∀ P : List Per, ((P.map perD).filter (ofD t)).map f = (P.filter t).map fun x => f (perD x)
  | [] => rfl
  | x :: P => by
    have q := filt_per t f P
    rw [List.map_cons]
    have e : ofD t (perD x) = t x := rfl
    cases c : t x with
    | true =>
      rw [List.filter_cons_of_pos (by rw [e]; exact c), List.filter_cons_of_pos c, List.map_cons, List.map_cons, q]
    | false =>
      rw [List.filter_cons_of_neg (by rw [e, c]; simp), List.filter_cons_of_neg (by rw [c]; simp), q]
def pairD (x : Int × Int) : D := .tuple [.int x.1, .int x.2]
theorem sort_ints (ns : List Int) : pSorted [.list (dI ns)] = some (.fo (sortD (dI ns))) := by
  have h1 : alikeB (dI ns) = true := List.all_eq_true.mpr fun d hd => List.all_eq_true.mpr fun e he => by
    obtain ⟨i, _, rfl⟩ := mem_dI hd
    obtain ⟨j, _, rfl⟩ := mem_dI he
    rfl
  have h2 : sortB (dI ns) = true := Bool.or_eq_true_iff.mpr (.inr (List.all_eq_true.mpr fun d hd => by
    obtain ⟨i, _, rfl⟩ := mem_dI hd
    rfl))
  have h3 : deepB (dI ns) = true := List.all_eq_true.mpr fun d hd => by
    obtain ⟨i, _, rfl⟩ := mem_dI hd
    rfl
  exact if_pos ⟨h1, h2, h3, canLay_dI ns⟩
theorem canLay_pairs : ∀ xs : List (Int × Int), PyData.canLayAll0 (xs.map pairD) = true
  | [] => rfl
  | x :: xs => by
    show (PyData.canLay0 (pairD x) && PyData.canLayAll0 (xs.map pairD)) = true
    rw [canLay_pairs xs]; rfl
theorem sort_pairs (xs : List (Int × Int)) : pSorted [.list (xs.map pairD)] = some (.fo (sortD (xs.map pairD))) := by
  have h1 : alikeB (xs.map pairD) = true := List.all_eq_true.mpr fun d hd => List.all_eq_true.mpr fun e he => by
    obtain ⟨i, _, rfl⟩ := List.mem_map.mp hd
    obtain ⟨j, _, rfl⟩ := List.mem_map.mp he
    rfl
  have h2 : sortB (xs.map pairD) = true := Bool.or_eq_true_iff.mpr (.inl (List.all_eq_true.mpr fun d hd => by
    obtain ⟨i, _, rfl⟩ := List.mem_map.mp hd
    rfl))
  have h3 : deepB (xs.map pairD) = true := List.all_eq_true.mpr fun d hd => by
    obtain ⟨i, _, rfl⟩ := List.mem_map.mp hd
    rfl
  exact if_pos ⟨h1, h2, h3, canLay_pairs xs⟩
def usOf (now r : Int) (P : List Per) : List Int := (P.filter (tU now r)).map (·.u)
def csOf (now r : Int) (P : List Per) : List (Int × Int) := (P.filter (tC now r)).map fun x => (x.b, x.u)
def lostOf (r : Int) (P : List Per) : Nat := (P.filter (tL r)).length
section
variable {now en r : Int} {H : D} {P : List Per} {tl : List D}
theorem c1u_ok {S : D} {w : Str} {p b u : Int} (hS : pIx S (.int 0) = some (.fz (.int now))) : c1_urgencies_there [.vl S, .vl (.int r), .vl (.str w), .vl (.int p), .vl (.int b), .vl (.int u)] = .ok (tU now r ⟨w, p, b, u⟩) [.vl S, .vl (.int r), .vl (.str w), .vl (.int p), .vl (.int b), .vl (.int u)] := by
  unfold c1_urgencies_there
  have k1 := eq_int p r
  have k2 := eq_strs w "out"
  have k3 := eq_strs w "here"
  have k4 := eq_int b now
  unfold tU
  generalize decide (p = r) = q1 at k1 ⊢
  generalize decide (w = "out") = q2 at k2 ⊢
  generalize decide (w = "here") = q3 at k3 ⊢
  generalize decide (b = now) = q4 at k4 ⊢
  cases q1 <;> cases q2 <;> cases q3 <;> simp [_root_.Z.runF_eq, _root_.Z.endF_nx, _root_.Z.endF_rt, _root_.Z.entry, _root_.Z.outsOf, _root_.Z.sSeq, _root_.Z.sNil, _root_.Z.sRet, _root_.Z.sRetV, _root_.Z.sSet, _root_.Z.sIf, _root_.Z.sExp, _root_.Z.sAsg, _root_.Z.setV, _root_.Z.oAnd, _root_.Z.oOr, _root_.Z.oNot, _root_.Z.oIte, _root_.Z.oApp, _root_.Z.oAppK, _root_.Z.aCons, _root_.Z.xO, _root_.Z.oVar, _root_.Z.oC, _root_.Z.xVar, _root_.Z.apF, _root_.Z.avOf, _root_.Z.Av.sl, _root_.Z.Va.sl, _root_.Z.odSl, _root_.Z.aft, _root_.Z.setOuts, _root_.Z.boolV, _root_.Z.Va.d, _root_.Z.oChn, _root_.Z.Od.get, _root_.Z.Sl.get, _root_.Z.ap1, _root_.Z.ap2, _root_.Z.f1, _root_.Z.f2, _root_.Z.fL, _root_.Z.fM, _root_.Z.apL, _root_.Z.getAll, _root_.Z.bNot, _root_.Z.bAnd, _root_.Z.bOr, _root_.Z.bX, _root_.Z.bOf, _root_.Z.truth, _root_.Z.oTup, _root_.Z.oLst, _root_.Z.oSeq, _root_.Z.datas, hS, k1, k2, k3, k4]
theorem c1c_ok {S : D} {w : Str} {p b u : Int} (hS : pIx S (.int 0) = some (.fz (.int now))) : c1_comings_to [.vl S, .vl (.int r), .vl (.str w), .vl (.int p), .vl (.int b), .vl (.int u)] = .ok (tC now r ⟨w, p, b, u⟩) [.vl S, .vl (.int r), .vl (.str w), .vl (.int p), .vl (.int b), .vl (.int u)] := by
  unfold c1_comings_to
  have k1 := eq_int p r
  have k3 := eq_strs w "here"
  have k4 : (pCmp fun i j => decide (j < i)) (.int b) (.int now) = some (.fz (.bool (decide (now < b)))) := rfl
  unfold tC
  generalize decide (p = r) = q1 at k1 ⊢
  generalize decide (w = "here") = q3 at k3 ⊢
  generalize decide (now < b) = q4 at k4 ⊢
  generalize (pCmp fun i j => decide (j < i)) = κ at k4 ⊢
  cases q1 <;> cases q3 <;> simp [_root_.Z.runF_eq, _root_.Z.endF_nx, _root_.Z.endF_rt, _root_.Z.entry, _root_.Z.outsOf, _root_.Z.sSeq, _root_.Z.sNil, _root_.Z.sRet, _root_.Z.sRetV, _root_.Z.sSet, _root_.Z.sIf, _root_.Z.sExp, _root_.Z.sAsg, _root_.Z.setV, _root_.Z.oAnd, _root_.Z.oOr, _root_.Z.oNot, _root_.Z.oIte, _root_.Z.oApp, _root_.Z.oAppK, _root_.Z.aCons, _root_.Z.xO, _root_.Z.oVar, _root_.Z.oC, _root_.Z.xVar, _root_.Z.apF, _root_.Z.avOf, _root_.Z.Av.sl, _root_.Z.Va.sl, _root_.Z.odSl, _root_.Z.aft, _root_.Z.setOuts, _root_.Z.boolV, _root_.Z.Va.d, _root_.Z.oChn, _root_.Z.Od.get, _root_.Z.Sl.get, _root_.Z.ap1, _root_.Z.ap2, _root_.Z.f1, _root_.Z.f2, _root_.Z.fL, _root_.Z.fM, _root_.Z.apL, _root_.Z.getAll, _root_.Z.bNot, _root_.Z.bAnd, _root_.Z.bOr, _root_.Z.bX, _root_.Z.bOf, _root_.Z.truth, _root_.Z.oTup, _root_.Z.oLst, _root_.Z.oSeq, _root_.Z.datas, hS, k1, k3, k4]
theorem per_mem {d : D} (h : d ∈ P.map perD) : ∃ (w : Str) (p b u : Int), d = .tuple [.str w, .int p, .int b, .int u] := by
  obtain ⟨x, _, rfl⟩ := List.mem_map.mp h
  exact ⟨_, _, _, _, rfl⟩
theorem r_urgencies {S : D} (h0 : pIx S (.int 0) = some (.fz (.int now))) (h3 : pIx S (.int 3) = some (.fz (.tuple (P.map perD)))) (hl : P.length ≤ 100) : runF 6 g_urgencies_there [.v S, .v (.int r)] = .ok (.fo (sortD (dI (usOf now r P)))) [.v S, .v (.int r)] := by
  have big : (100 : Nat) ≤ sizeLine := by decide
  have c := comp_fm (fi := iSeq (f2 pIx (xVar 0) (xO (oC (.int 3))))) (g := gTupZ 4 (gConsZ (gN 2) (gConsZ (gN 3) (gConsZ (gN 4) (gConsZ (gN 5) gNilZ))))) (cond := c1_urgencies_there) (elt := oVar 5) (vs := [2, 3, 4, 5]) (ρ := [.vl S, .vl (.int r), .un, .un, .un, .un]) (ρ0 := [.vl S, .vl (.int r), .un, .un, .un, .un]) (ds := P.map perD) (ofD (tU now r)) (fun d => .fz (uOf d)) (by simp [_root_.Z.runF_eq, _root_.Z.endF_nx, _root_.Z.endF_rt, _root_.Z.entry, _root_.Z.outsOf, _root_.Z.sSeq, _root_.Z.sNil, _root_.Z.sRet, _root_.Z.sRetV, _root_.Z.sSet, _root_.Z.sIf, _root_.Z.sExp, _root_.Z.sAsg, _root_.Z.setV, _root_.Z.oAnd, _root_.Z.oOr, _root_.Z.oNot, _root_.Z.oIte, _root_.Z.oApp, _root_.Z.oAppK, _root_.Z.aCons, _root_.Z.xO, _root_.Z.oVar, _root_.Z.oC, _root_.Z.xVar, _root_.Z.apF, _root_.Z.avOf, _root_.Z.Av.sl, _root_.Z.Va.sl, _root_.Z.odSl, _root_.Z.aft, _root_.Z.setOuts, _root_.Z.boolV, _root_.Z.Va.d, _root_.Z.oChn, _root_.Z.Od.get, _root_.Z.Sl.get, _root_.Z.ap1, _root_.Z.ap2, _root_.Z.f1, _root_.Z.f2, _root_.Z.fL, _root_.Z.fM, _root_.Z.apL, _root_.Z.getAll, _root_.Z.bNot, _root_.Z.bAnd, _root_.Z.bOr, _root_.Z.bX, _root_.Z.bOf, _root_.Z.truth, _root_.Z.oTup, _root_.Z.oLst, _root_.Z.oSeq, _root_.Z.datas, iSeq, h3, itemsOf]) (fun d hd => by
    obtain ⟨w, p, b, u, rfl⟩ := per_mem hd
    exact ⟨[.vl S, .vl (.int r), .vl (.str w), .vl (.int p), .vl (.int b), .vl (.int u)], _, rfl, c1u_ok h0, rfl, fun _ => ⟨_, rfl, rfl⟩⟩) (by rw [List.length_map]; omega)
  have e : (((P.map perD).filter (ofD (tU now r))).map fun d => (Va.fz (uOf d)).d) = dI (usOf now r P) := by
    have q := filt_per (tU now r) uOf P
    refine q.trans ?_
    unfold dI usOf
    rw [List.map_map]
    rfl
  rw [e] at c
  have so := sort_ints (usOf now r P)
  generalize dI (usOf now r P) = Z at c so ⊢
  rw [runF_eq]
  unfold g_urgencies_there
  generalize oComp (iSeq (f2 pIx (xVar 0) (xO (oC (.int 3))))) (gTupZ 4 (gConsZ (gN 2) (gConsZ (gN 3) (gConsZ (gN 4) (gConsZ (gN 5) gNilZ))))) c1_urgencies_there (oVar 5) [2, 3, 4, 5] = κ at c ⊢
  simp [_root_.Z.runF_eq, _root_.Z.endF_nx, _root_.Z.endF_rt, _root_.Z.entry, _root_.Z.outsOf, _root_.Z.sSeq, _root_.Z.sNil, _root_.Z.sRet, _root_.Z.sRetV, _root_.Z.sSet, _root_.Z.sIf, _root_.Z.sExp, _root_.Z.sAsg, _root_.Z.setV, _root_.Z.oAnd, _root_.Z.oOr, _root_.Z.oNot, _root_.Z.oIte, _root_.Z.oApp, _root_.Z.oAppK, _root_.Z.aCons, _root_.Z.xO, _root_.Z.oVar, _root_.Z.oC, _root_.Z.xVar, _root_.Z.apF, _root_.Z.avOf, _root_.Z.Av.sl, _root_.Z.Va.sl, _root_.Z.odSl, _root_.Z.aft, _root_.Z.setOuts, _root_.Z.boolV, _root_.Z.Va.d, _root_.Z.oChn, _root_.Z.Od.get, _root_.Z.Sl.get, _root_.Z.ap1, _root_.Z.ap2, _root_.Z.f1, _root_.Z.f2, _root_.Z.fL, _root_.Z.fM, _root_.Z.apL, _root_.Z.getAll, _root_.Z.bNot, _root_.Z.bAnd, _root_.Z.bOr, _root_.Z.bX, _root_.Z.bOf, _root_.Z.truth, _root_.Z.oTup, _root_.Z.oLst, _root_.Z.oSeq, _root_.Z.datas, c, so]
theorem r_comings {S : D} (h0 : pIx S (.int 0) = some (.fz (.int now))) (h3 : pIx S (.int 3) = some (.fz (.tuple (P.map perD)))) (hl : P.length ≤ 100) : runF 6 g_comings_to [.v S, .v (.int r)] = .ok (.fo (sortD ((csOf now r P).map pairD))) [.v S, .v (.int r)] := by
  have big : (100 : Nat) ≤ sizeLine := by decide
  have c := comp_fm (fi := iSeq (f2 pIx (xVar 0) (xO (oC (.int 3))))) (g := gTupZ 4 (gConsZ (gN 2) (gConsZ (gN 3) (gConsZ (gN 4) (gConsZ (gN 5) gNilZ))))) (cond := c1_comings_to) (elt := e2_comings_to) (vs := [2, 3, 4, 5]) (ρ := [.vl S, .vl (.int r), .un, .un, .un, .un]) (ρ0 := [.vl S, .vl (.int r), .un, .un, .un, .un]) (ds := P.map perD) (ofD (tC now r)) (fun d => .fz (buOf d)) (by simp [_root_.Z.runF_eq, _root_.Z.endF_nx, _root_.Z.endF_rt, _root_.Z.entry, _root_.Z.outsOf, _root_.Z.sSeq, _root_.Z.sNil, _root_.Z.sRet, _root_.Z.sRetV, _root_.Z.sSet, _root_.Z.sIf, _root_.Z.sExp, _root_.Z.sAsg, _root_.Z.setV, _root_.Z.oAnd, _root_.Z.oOr, _root_.Z.oNot, _root_.Z.oIte, _root_.Z.oApp, _root_.Z.oAppK, _root_.Z.aCons, _root_.Z.xO, _root_.Z.oVar, _root_.Z.oC, _root_.Z.xVar, _root_.Z.apF, _root_.Z.avOf, _root_.Z.Av.sl, _root_.Z.Va.sl, _root_.Z.odSl, _root_.Z.aft, _root_.Z.setOuts, _root_.Z.boolV, _root_.Z.Va.d, _root_.Z.oChn, _root_.Z.Od.get, _root_.Z.Sl.get, _root_.Z.ap1, _root_.Z.ap2, _root_.Z.f1, _root_.Z.f2, _root_.Z.fL, _root_.Z.fM, _root_.Z.apL, _root_.Z.getAll, _root_.Z.bNot, _root_.Z.bAnd, _root_.Z.bOr, _root_.Z.bX, _root_.Z.bOf, _root_.Z.truth, _root_.Z.oTup, _root_.Z.oLst, _root_.Z.oSeq, _root_.Z.datas, iSeq, h3, itemsOf]) (fun d hd => by
    obtain ⟨w, p, b, u, rfl⟩ := per_mem hd
    refine ⟨[.vl S, .vl (.int r), .vl (.str w), .vl (.int p), .vl (.int b), .vl (.int u)], _, rfl, c1c_ok h0, rfl, fun _ => ⟨[.vl S, .vl (.int r), .vl (.str w), .vl (.int p), .vl (.int b), .vl (.int u)], ?_, rfl⟩⟩
    unfold e2_comings_to
    simp [_root_.Z.runF_eq, _root_.Z.endF_nx, _root_.Z.endF_rt, _root_.Z.entry, _root_.Z.outsOf, _root_.Z.sSeq, _root_.Z.sNil, _root_.Z.sRet, _root_.Z.sRetV, _root_.Z.sSet, _root_.Z.sIf, _root_.Z.sExp, _root_.Z.sAsg, _root_.Z.setV, _root_.Z.oAnd, _root_.Z.oOr, _root_.Z.oNot, _root_.Z.oIte, _root_.Z.oApp, _root_.Z.oAppK, _root_.Z.aCons, _root_.Z.xO, _root_.Z.oVar, _root_.Z.oC, _root_.Z.xVar, _root_.Z.apF, _root_.Z.avOf, _root_.Z.Av.sl, _root_.Z.Va.sl, _root_.Z.odSl, _root_.Z.aft, _root_.Z.setOuts, _root_.Z.boolV, _root_.Z.Va.d, _root_.Z.oChn, _root_.Z.Od.get, _root_.Z.Sl.get, _root_.Z.ap1, _root_.Z.ap2, _root_.Z.f1, _root_.Z.f2, _root_.Z.fL, _root_.Z.fM, _root_.Z.apL, _root_.Z.getAll, _root_.Z.bNot, _root_.Z.bAnd, _root_.Z.bOr, _root_.Z.bX, _root_.Z.bOf, _root_.Z.truth, _root_.Z.oTup, _root_.Z.oLst, _root_.Z.oSeq, _root_.Z.datas, buOf, sizeLine]) (by rw [List.length_map]; omega)
  have e : (((P.map perD).filter (ofD (tC now r))).map fun d => (Va.fz (buOf d)).d) = (csOf now r P).map pairD := by
    have q := filt_per (tC now r) buOf P
    refine q.trans ?_
    unfold csOf
    rw [List.map_map]
    rfl
  rw [e] at c
  have so := sort_pairs (csOf now r P)
  generalize (csOf now r P).map pairD = Z at c so ⊢
  rw [runF_eq]
  unfold g_comings_to
  generalize oComp (iSeq (f2 pIx (xVar 0) (xO (oC (.int 3))))) (gTupZ 4 (gConsZ (gN 2) (gConsZ (gN 3) (gConsZ (gN 4) (gConsZ (gN 5) gNilZ))))) c1_comings_to e2_comings_to [2, 3, 4, 5] = κ at c ⊢
  simp [_root_.Z.runF_eq, _root_.Z.endF_nx, _root_.Z.endF_rt, _root_.Z.entry, _root_.Z.outsOf, _root_.Z.sSeq, _root_.Z.sNil, _root_.Z.sRet, _root_.Z.sRetV, _root_.Z.sSet, _root_.Z.sIf, _root_.Z.sExp, _root_.Z.sAsg, _root_.Z.setV, _root_.Z.oAnd, _root_.Z.oOr, _root_.Z.oNot, _root_.Z.oIte, _root_.Z.oApp, _root_.Z.oAppK, _root_.Z.aCons, _root_.Z.xO, _root_.Z.oVar, _root_.Z.oC, _root_.Z.xVar, _root_.Z.apF, _root_.Z.avOf, _root_.Z.Av.sl, _root_.Z.Va.sl, _root_.Z.odSl, _root_.Z.aft, _root_.Z.setOuts, _root_.Z.boolV, _root_.Z.Va.d, _root_.Z.oChn, _root_.Z.Od.get, _root_.Z.Sl.get, _root_.Z.ap1, _root_.Z.ap2, _root_.Z.f1, _root_.Z.f2, _root_.Z.fL, _root_.Z.fM, _root_.Z.apL, _root_.Z.getAll, _root_.Z.bNot, _root_.Z.bAnd, _root_.Z.bOr, _root_.Z.bX, _root_.Z.bOf, _root_.Z.truth, _root_.Z.oTup, _root_.Z.oLst, _root_.Z.oSeq, _root_.Z.datas, c, so]
end
end ZH

namespace ZH
open PySem PySem.Spec PyProof.Rows L2 Z
def PerOk (now : Int) (n : Nat) (x : Per) : Prop := (0 ≤ x.p ∧ x.p < n) ∧ (0 ≤ x.b ∧ x.b ≤ 1000) ∧ (0 ≤ x.u ∧ x.u < 10) ∧ (x.w = "lost" ∨ (x.w = "out" ∧ x.b ≤ now) ∨ (x.w = "here" ∧ now ≤ x.b))
def nT : D → Str
  | .int n => tx n
  | _ => ""
def pT : D → Str
  | .tuple [.int b, .int u] => tx b ++ ":" ++ tx u
  | _ => ""
def thT (us : List Int) : Str := Txt.join "" ((sortD (dI us)).map nT)
def cmT (cs : List (Int × Int)) : Str := Txt.join "," ((sortD (cs.map pairD)).map pT)
def orD (x : Str) : Str := if x.length = 0 then "-" else x
def sgT (k : Int) (d : D) (now : Int) : Str := if k = 1 then ">" else if clrD d now = true then "." else "~"
def lineT (r : Int) (sg : Str) (us : List Int) (cs : List (Int × Int)) (k : Nat) : Str := Txt.join " " [tx r, sg, orD (thT us), orD (cmT cs), tx (k : Nat)]
theorem sortD_mem {ds : List D} {d : D} : d ∈ sortD ds ↔ d ∈ ds := (List.mergeSort_perm ds (W.dataLe false id)).mem_iff
theorem sortD_len (ds : List D) : (sortD ds).length = ds.length := (List.mergeSort_perm ds (W.dataLe false id)).length_eq
def dig (u : Int) : Prop := 0 ≤ u ∧ u < 10
def sm1 (x : Int × Int) : Prop := (0 ≤ x.1 ∧ x.1 ≤ 1000) ∧ 0 ≤ x.2 ∧ x.2 < 10
theorem us_ok {now r : Int} {n : Nat} {P : List Per} (h : ∀ x ∈ P, PerOk now n x) : ∀ u ∈ usOf now r P, dig u := fun u hu => by
  obtain ⟨x, hx, rfl⟩ := List.mem_map.mp hu
  exact (h x (List.mem_filter.mp hx).1).2.2.1
theorem cs_ok {now r : Int} {n : Nat} {P : List Per} (h : ∀ x ∈ P, PerOk now n x) : ∀ c ∈ csOf now r P, sm1 c := fun u hu => by
  obtain ⟨x, hx, rfl⟩ := List.mem_map.mp hu
  have q := h x (List.mem_filter.mp hx).1
  exact ⟨q.2.1, q.2.2.1⟩
theorem us_len {now r : Int} {P : List Per} : (usOf now r P).length ≤ P.length := by unfold usOf; rw [List.length_map]; exact List.length_filter_le ..
theorem cs_len {now r : Int} {P : List Per} : (csOf now r P).length ≤ P.length := by unfold csOf; rw [List.length_map]; exact List.length_filter_le ..
theorem sz_nT {us : List Int} (h : ∀ u ∈ us, dig u) : ∀ y ∈ (sortD (dI us)).map nT, Sz 10 y := fun y hy => by
  obtain ⟨d, hd, rfl⟩ := List.mem_map.mp hy
  obtain ⟨i, hi, rfl⟩ := mem_dI (sortD_mem.mp hd)
  have := h i hi
  unfold dig at this
  exact sz_tx this.1 (by omega)
theorem sz_pair {c : Int × Int} (h : sm1 c) : Sz 21 (tx c.1 ++ ":" ++ tx c.2) := by
  obtain ⟨⟨a1, a2⟩, a3, a4⟩ := h
  exact ((sz_tx a1 (by omega)).app (C := 1) ⟨by decide +kernel, by decide +kernel⟩).app (sz_tx a3 (by omega))
theorem sz_pT {cs : List (Int × Int)} (h : ∀ c ∈ cs, sm1 c) : ∀ y ∈ (sortD (cs.map pairD)).map pT, Sz 21 y := fun y hy => by
  obtain ⟨d, hd, rfl⟩ := List.mem_map.mp hy
  obtain ⟨c, hc, rfl⟩ := List.mem_map.mp (sortD_mem.mp hd)
  exact sz_pair (h c hc)
theorem sz_lit1 {x : Str} (h1 : x.length ≤ 1) (h2 : PyData.strOk x = true) : Sz 1 x := ⟨h1, h2⟩
theorem sz_sep1 : Sz 1 (" " : Str) := ⟨by decide +kernel, by decide +kernel⟩
theorem sz_sep0 : Sz 0 ("" : Str) := ⟨by decide +kernel, by decide +kernel⟩
theorem sz_com : Sz 1 ("," : Str) := ⟨by decide +kernel, by decide +kernel⟩
theorem sz_thT {us : List Int} (h : ∀ u ∈ us, dig u) (hl : us.length ≤ 100) : Sz 1000 (thT us) := by
  refine (sz_join sz_sep0 (sz_nT h)).mono ?_
  rw [List.length_map, sortD_len, dI_len]; omega
theorem sz_cmT {cs : List (Int × Int)} (h : ∀ c ∈ cs, sm1 c) (hl : cs.length ≤ 100) : Sz 2200 (cmT cs) := by
  refine (sz_join sz_com (sz_pT h)).mono ?_
  rw [List.length_map, sortD_len, List.length_map]; omega
theorem sz_orD {B : Nat} {x : Str} (h : Sz B x) (hB : 1 ≤ B) : Sz B (orD x) := by
  unfold orD
  split
  · exact (Sz.mono ⟨by decide +kernel, by decide +kernel⟩ hB : Sz B ("-" : Str))
  · exact h
theorem sz_sgT (k : Int) (d : D) (now : Int) : Sz 1 (sgT k d now) := by
  unfold sgT
  split
  · exact ⟨by decide +kernel, by decide +kernel⟩
  · split
    · exact ⟨by decide +kernel, by decide +kernel⟩
    · exact ⟨by decide +kernel, by decide +kernel⟩
theorem line_parts {r : Nat} {k : Int} {d : D} {now : Int} {us : List Int} {cs : List (Int × Int)} {m : Nat} (hr : r ≤ 100) (h1 : ∀ u ∈ us, dig u) (h2 : ∀ c ∈ cs, sm1 c) (l1 : us.length ≤ 100) (l2 : cs.length ≤ 100) (hm : m ≤ 100) :
    ∀ y ∈ [tx (r : Nat), sgT k d now, orD (thT us), orD (cmT cs), tx (m : Nat)], Sz 2200 y := fun y hy => by
  simp only [List.mem_cons, List.not_mem_nil, or_false] at hy
  rcases hy with rfl | rfl | rfl | rfl | rfl
  · exact (sz_tx (by omega) (by omega)).mono (by omega)
  · exact (sz_sgT k d now).mono (by omega)
  · exact (sz_orD (sz_thT h1 l1) (by omega)).mono (by omega)
  · exact sz_orD (sz_cmT h2 l2) (by omega)
  · exact (sz_tx (by omega) (by omega)).mono (by omega)
theorem sz_line {r : Nat} {k : Int} {d : D} {now : Int} {us : List Int} {cs : List (Int × Int)} {m : Nat} (hr : r ≤ 100) (h1 : ∀ u ∈ us, dig u) (h2 : ∀ c ∈ cs, sm1 c) (l1 : us.length ≤ 100) (l2 : cs.length ≤ 100) (hm : m ≤ 100) :
    Sz 12000 (lineT (r : Nat) (sgT k d now) us cs m) := (sz_join sz_sep1 (line_parts hr h1 h2 l1 l2 hm)).mono (by simp)
theorem join_line {r : Nat} {k : Int} {d : D} {now : Int} {us : List Int} {cs : List (Int × Int)} {m : Nat} (hr : r ≤ 100) (h1 : ∀ u ∈ us, dig u) (h2 : ∀ c ∈ cs, sm1 c) (l1 : us.length ≤ 100) (l2 : cs.length ≤ 100) (hm : m ≤ 100) :
    pJoin (.str " ") (.list [.str (tx (r : Nat)), .str (sgT k d now), .str (orD (thT us)), .str (orD (cmT cs)), .str (tx (m : Nat))]) = some (.fz (.str (lineT (r : Nat) (sgT k d now) us cs m))) := join_ok (ys := [tx (r : Nat), sgT k d now, orD (thT us), orD (cmT cs), tx (m : Nat)]) sz_sep1 (line_parts hr h1 h2 l1 l2 hm) (by simp)
theorem lost_len {r : Int} {P : List Per} : lostOf r P ≤ P.length := List.length_filter_le ..
/-! ### the program's line of a room -/
section
variable {S : D} {r : Nat} {now : Int} {P : List Per} {n : Nat}
abbrev stR (S : D) (r : Int) (x2 x3 x4 x5 : Sl) : En := [.vl S, .vl (.int r), x2, x3, x4, x5, .un, .un, .un, .un, .un]
theorem comp_th {x2 x4 x5 : Sl} (h0 : pIx S (.int 0) = some (.fz (.int now))) (h3 : pIx S (.int 3) = some (.fz (.tuple (P.map perD)))) (hl : P.length ≤ 100) (hP : ∀ x ∈ P, PerOk now n x) :
    oComp (iSeq (oApp 2 (runF 6 g_urgencies_there) (aCons (xO (oVar 0)) (aCons (xO (oVar 1)) (fun ρ => .ok [] ρ))))) (gN 6) bYes e3_room_line [6] (stR S (r : Nat) x2 .un x4 x5) = .ok (.fo (((sortD (dI (usOf now (r : Nat) P))).map nT).map PyData.str)) (stR S (r : Nat) x2 .un x4 x5) := by
  have big : (100 : Nat) ≤ sizeLine := by decide
  have e := r_urgencies (r := (r : Nat)) h0 h3 hl
  have le := us_len (now := now) (r := (r : Nat)) (P := P)
  have c := comp_map (fi := iSeq (oApp 2 (runF 6 g_urgencies_there) (aCons (xO (oVar 0)) (aCons (xO (oVar 1)) (fun ρ => .ok [] ρ))))) (g := gN 6) (elt := e3_room_line) (vs := [6]) (ρ := stR S (r : Nat) x2 .un x4 x5) (ρ0 := stR S (r : Nat) x2 .un x4 x5) (ds := sortD (dI (usOf now (r : Nat) P))) (fun d => .fz (.str (nT d))) (by
    generalize runF 6 g_urgencies_there = φ at e ⊢
    generalize sortD (dI (usOf now (r : Nat) P)) = L at e ⊢
    simp [_root_.Z.runF_eq, _root_.Z.endF_nx, _root_.Z.endF_rt, _root_.Z.entry, _root_.Z.outsOf, _root_.Z.sSeq, _root_.Z.sNil, _root_.Z.sRet, _root_.Z.sRetV, _root_.Z.sSet, _root_.Z.sIf, _root_.Z.sExp, _root_.Z.sAsg, _root_.Z.setV, _root_.Z.oAnd, _root_.Z.oOr, _root_.Z.oNot, _root_.Z.oIte, _root_.Z.oApp, _root_.Z.oAppK, _root_.Z.aCons, _root_.Z.xO, _root_.Z.oVar, _root_.Z.oC, _root_.Z.xVar, _root_.Z.apF, _root_.Z.avOf, _root_.Z.Av.sl, _root_.Z.Va.sl, _root_.Z.odSl, _root_.Z.aft, _root_.Z.setOuts, _root_.Z.boolV, _root_.Z.Va.d, _root_.Z.oChn, _root_.Z.Od.get, _root_.Z.Sl.get, _root_.Z.ap1, _root_.Z.ap2, _root_.Z.f1, _root_.Z.f2, _root_.Z.fL, _root_.Z.fM, _root_.Z.apL, _root_.Z.getAll, _root_.Z.bNot, _root_.Z.bAnd, _root_.Z.bOr, _root_.Z.bX, _root_.Z.bOf, _root_.Z.truth, _root_.Z.oTup, _root_.Z.oLst, _root_.Z.oSeq, _root_.Z.datas, iSeq, e, itemsOf]) (fun d hd => by
    obtain ⟨i, hi, rfl⟩ := mem_dI (sortD_mem.mp hd)
    have q := us_ok hP i hi
    unfold dig at q
    have st := str_ok (n := i) q.1 (by omega)
    refine ⟨[.vl S, .vl (.int (r : Nat)), x2, .un, x4, x5, .vl (.int i), .un, .un, .un, .un], [.vl S, .vl (.int (r : Nat)), x2, .un, x4, x5, .vl (.int i), .un, .un, .un, .un], rfl, ?_, rfl⟩
    unfold e3_room_line
    simp [_root_.Z.runF_eq, _root_.Z.endF_nx, _root_.Z.endF_rt, _root_.Z.entry, _root_.Z.outsOf, _root_.Z.sSeq, _root_.Z.sNil, _root_.Z.sRet, _root_.Z.sRetV, _root_.Z.sSet, _root_.Z.sIf, _root_.Z.sExp, _root_.Z.sAsg, _root_.Z.setV, _root_.Z.oAnd, _root_.Z.oOr, _root_.Z.oNot, _root_.Z.oIte, _root_.Z.oApp, _root_.Z.oAppK, _root_.Z.aCons, _root_.Z.xO, _root_.Z.oVar, _root_.Z.oC, _root_.Z.xVar, _root_.Z.apF, _root_.Z.avOf, _root_.Z.Av.sl, _root_.Z.Va.sl, _root_.Z.odSl, _root_.Z.aft, _root_.Z.setOuts, _root_.Z.boolV, _root_.Z.Va.d, _root_.Z.oChn, _root_.Z.Od.get, _root_.Z.Sl.get, _root_.Z.ap1, _root_.Z.ap2, _root_.Z.f1, _root_.Z.f2, _root_.Z.fL, _root_.Z.fM, _root_.Z.apL, _root_.Z.getAll, _root_.Z.bNot, _root_.Z.bAnd, _root_.Z.bOr, _root_.Z.bX, _root_.Z.bOf, _root_.Z.truth, _root_.Z.oTup, _root_.Z.oLst, _root_.Z.oSeq, _root_.Z.datas, st, nT]) (by rw [sortD_len, dI_len]; omega)
  rw [c, ← map_str]
  rfl
theorem js_pair {ρ : En} {i j : Nat} {b u : Int} (hb : ρ[i]? = some (.vl (.int b))) (hu : ρ[j]? = some (.vl (.int u))) (h : sm1 (b, u)) : oJs [(oFmt (oVar i)), (oC (.str ":")), (oFmt (oVar j))] Str.empty ρ = .ok (.fz (.str (tx b ++ ":" ++ tx u))) ρ := by
  obtain ⟨⟨a1, a2⟩, a3, a4⟩ := h
  have a1 : 0 ≤ b := a1
  have a2 : b ≤ 1000 := a2
  have a3 : 0 ≤ u := a3
  have a4 : u < 10 := a4
  have f1 : oFmt (oVar i) ρ = .ok (.fz (.str (tx b))) ρ := by simp [_root_.Z.runF_eq, _root_.Z.endF_nx, _root_.Z.endF_rt, _root_.Z.entry, _root_.Z.outsOf, _root_.Z.sSeq, _root_.Z.sNil, _root_.Z.sRet, _root_.Z.sRetV, _root_.Z.sSet, _root_.Z.sIf, _root_.Z.sExp, _root_.Z.sAsg, _root_.Z.setV, _root_.Z.oAnd, _root_.Z.oOr, _root_.Z.oNot, _root_.Z.oIte, _root_.Z.oApp, _root_.Z.oAppK, _root_.Z.aCons, _root_.Z.xO, _root_.Z.oVar, _root_.Z.oC, _root_.Z.xVar, _root_.Z.apF, _root_.Z.avOf, _root_.Z.Av.sl, _root_.Z.Va.sl, _root_.Z.odSl, _root_.Z.aft, _root_.Z.setOuts, _root_.Z.boolV, _root_.Z.Va.d, _root_.Z.oChn, _root_.Z.Od.get, _root_.Z.Sl.get, _root_.Z.ap1, _root_.Z.ap2, _root_.Z.f1, _root_.Z.f2, _root_.Z.fL, _root_.Z.fM, _root_.Z.apL, _root_.Z.getAll, _root_.Z.bNot, _root_.Z.bAnd, _root_.Z.bOr, _root_.Z.bX, _root_.Z.bOf, _root_.Z.truth, _root_.Z.oTup, _root_.Z.oLst, _root_.Z.oSeq, _root_.Z.datas, oFmt, hb, fmti_ok a1 (show b < 10 ^ 10 by omega)]
  have f2 : oFmt (oVar j) ρ = .ok (.fz (.str (tx u))) ρ := by simp [_root_.Z.runF_eq, _root_.Z.endF_nx, _root_.Z.endF_rt, _root_.Z.entry, _root_.Z.outsOf, _root_.Z.sSeq, _root_.Z.sNil, _root_.Z.sRet, _root_.Z.sRetV, _root_.Z.sSet, _root_.Z.sIf, _root_.Z.sExp, _root_.Z.sAsg, _root_.Z.setV, _root_.Z.oAnd, _root_.Z.oOr, _root_.Z.oNot, _root_.Z.oIte, _root_.Z.oApp, _root_.Z.oAppK, _root_.Z.aCons, _root_.Z.xO, _root_.Z.oVar, _root_.Z.oC, _root_.Z.xVar, _root_.Z.apF, _root_.Z.avOf, _root_.Z.Av.sl, _root_.Z.Va.sl, _root_.Z.odSl, _root_.Z.aft, _root_.Z.setOuts, _root_.Z.boolV, _root_.Z.Va.d, _root_.Z.oChn, _root_.Z.Od.get, _root_.Z.Sl.get, _root_.Z.ap1, _root_.Z.ap2, _root_.Z.f1, _root_.Z.f2, _root_.Z.fL, _root_.Z.fM, _root_.Z.apL, _root_.Z.getAll, _root_.Z.bNot, _root_.Z.bAnd, _root_.Z.bOr, _root_.Z.bX, _root_.Z.bOf, _root_.Z.truth, _root_.Z.oTup, _root_.Z.oLst, _root_.Z.oSeq, _root_.Z.datas, oFmt, hu, fmti_ok a3 (show u < 10 ^ 10 by omega)]
  have s1 := sz_tx a1 (show b < 10 ^ 10 by omega)
  have s2 := sz_tx a3 (show u < 10 ^ 10 by omega)
  have s3 : Sz 1 (":" : Str) := ⟨by decide +kernel, by decide +kernel⟩
  rw [js_cons f1 sz_empty s1 (by omega), js_cons (f := oC (.str ":")) (ρ1 := ρ) rfl (sz_empty.app s1) s3 (by omega), js_cons f2 ((sz_empty.app s1).app s3) s2 (by omega), js_nil, Str.empty_append]
theorem comp_cm {x2 x3 x5 : Sl} (h0 : pIx S (.int 0) = some (.fz (.int now))) (h3 : pIx S (.int 3) = some (.fz (.tuple (P.map perD)))) (hl : P.length ≤ 100) (hP : ∀ x ∈ P, PerOk now n x) :
    oComp (iSeq (oApp 2 (runF 6 g_comings_to) (aCons (xO (oVar 0)) (aCons (xO (oVar 1)) (fun ρ => .ok [] ρ))))) (gTupZ 2 (gConsZ (gN 7) (gConsZ (gN 6) gNilZ))) bYes e2_room_line [7, 6] (stR S (r : Nat) x2 x3 .un x5) = .ok (.fo (((sortD ((csOf now (r : Nat) P).map pairD)).map pT).map PyData.str)) (stR S (r : Nat) x2 x3 .un x5) := by
  have big : (100 : Nat) ≤ sizeLine := by decide
  have e := r_comings (r := (r : Nat)) h0 h3 hl
  have le := cs_len (now := now) (r := (r : Nat)) (P := P)
  have c := comp_map (fi := iSeq (oApp 2 (runF 6 g_comings_to) (aCons (xO (oVar 0)) (aCons (xO (oVar 1)) (fun ρ => .ok [] ρ))))) (g := gTupZ 2 (gConsZ (gN 7) (gConsZ (gN 6) gNilZ))) (elt := e2_room_line) (vs := [7, 6]) (ρ := stR S (r : Nat) x2 x3 .un x5) (ρ0 := stR S (r : Nat) x2 x3 .un x5) (ds := sortD ((csOf now (r : Nat) P).map pairD)) (fun d => .fz (.str (pT d))) (by
    generalize runF 6 g_comings_to = φ at e ⊢
    generalize sortD ((csOf now (r : Nat) P).map pairD) = L at e ⊢
    simp [_root_.Z.runF_eq, _root_.Z.endF_nx, _root_.Z.endF_rt, _root_.Z.entry, _root_.Z.outsOf, _root_.Z.sSeq, _root_.Z.sNil, _root_.Z.sRet, _root_.Z.sRetV, _root_.Z.sSet, _root_.Z.sIf, _root_.Z.sExp, _root_.Z.sAsg, _root_.Z.setV, _root_.Z.oAnd, _root_.Z.oOr, _root_.Z.oNot, _root_.Z.oIte, _root_.Z.oApp, _root_.Z.oAppK, _root_.Z.aCons, _root_.Z.xO, _root_.Z.oVar, _root_.Z.oC, _root_.Z.xVar, _root_.Z.apF, _root_.Z.avOf, _root_.Z.Av.sl, _root_.Z.Va.sl, _root_.Z.odSl, _root_.Z.aft, _root_.Z.setOuts, _root_.Z.boolV, _root_.Z.Va.d, _root_.Z.oChn, _root_.Z.Od.get, _root_.Z.Sl.get, _root_.Z.ap1, _root_.Z.ap2, _root_.Z.f1, _root_.Z.f2, _root_.Z.fL, _root_.Z.fM, _root_.Z.apL, _root_.Z.getAll, _root_.Z.bNot, _root_.Z.bAnd, _root_.Z.bOr, _root_.Z.bX, _root_.Z.bOf, _root_.Z.truth, _root_.Z.oTup, _root_.Z.oLst, _root_.Z.oSeq, _root_.Z.datas, iSeq, e, itemsOf]) (fun d hd => by
    obtain ⟨c, hc, rfl⟩ := List.mem_map.mp (sortD_mem.mp hd)
    have q := cs_ok hP c hc
    refine ⟨[.vl S, .vl (.int (r : Nat)), x2, x3, .un, x5, .vl (.int c.2), .vl (.int c.1), .un, .un, .un], [.vl S, .vl (.int (r : Nat)), x2, x3, .un, x5, .vl (.int c.2), .vl (.int c.1), .un, .un, .un], rfl, ?_, rfl⟩
    unfold e2_room_line
    exact js_pair (i := 7) (j := 6) rfl rfl q) (by rw [sortD_len, List.length_map]; omega)
  rw [c, ← map_str]
  rfl
theorem c1r_ok {x2 x3 x4 x5 : Sl} {w : Str} {p b u : Int} : c1_room_line [.vl S, .vl (.int (r : Nat)), x2, x3, x4, x5, .un, .un, .vl (.str w), .vl (.int p), .vl (.int u)] = .ok (tL (r : Nat) ⟨w, p, b, u⟩) [.vl S, .vl (.int (r : Nat)), x2, x3, x4, x5, .un, .un, .vl (.str w), .vl (.int p), .vl (.int u)] := by
  unfold c1_room_line
  have k1 := eq_int p (r : Nat)
  have k3 := eq_strs w "lost"
  unfold tL
  generalize ((r : Nat) : Int) = R at *
  generalize decide (p = R) = q1 at k1 ⊢
  generalize decide (w = "lost") = q3 at k3 ⊢
  cases q3 <;> cases q1 <;> simp [_root_.Z.runF_eq, _root_.Z.endF_nx, _root_.Z.endF_rt, _root_.Z.entry, _root_.Z.outsOf, _root_.Z.sSeq, _root_.Z.sNil, _root_.Z.sRet, _root_.Z.sRetV, _root_.Z.sSet, _root_.Z.sIf, _root_.Z.sExp, _root_.Z.sAsg, _root_.Z.setV, _root_.Z.oAnd, _root_.Z.oOr, _root_.Z.oNot, _root_.Z.oIte, _root_.Z.oApp, _root_.Z.oAppK, _root_.Z.aCons, _root_.Z.xO, _root_.Z.oVar, _root_.Z.oC, _root_.Z.xVar, _root_.Z.apF, _root_.Z.avOf, _root_.Z.Av.sl, _root_.Z.Va.sl, _root_.Z.odSl, _root_.Z.aft, _root_.Z.setOuts, _root_.Z.boolV, _root_.Z.Va.d, _root_.Z.oChn, _root_.Z.Od.get, _root_.Z.Sl.get, _root_.Z.ap1, _root_.Z.ap2, _root_.Z.f1, _root_.Z.f2, _root_.Z.fL, _root_.Z.fM, _root_.Z.apL, _root_.Z.getAll, _root_.Z.bNot, _root_.Z.bAnd, _root_.Z.bOr, _root_.Z.bX, _root_.Z.bOf, _root_.Z.truth, _root_.Z.oTup, _root_.Z.oLst, _root_.Z.oSeq, _root_.Z.datas, k1, k3]
theorem comp_lost {x2 x3 x4 x5 : Sl} (h3 : pIx S (.int 3) = some (.fz (.tuple (P.map perD)))) (hl : P.length ≤ 100) :
    ∃ L : List D, L.length = lostOf (r : Nat) P ∧ oComp (iSeq (f2 pIx (xVar 0) (xO (oC (.int 3))))) (gTupZ 4 (gConsZ (gN 8) (gConsZ (gN 9) (gConsZ (gN 10) (gConsZ (gN 10) gNilZ))))) c1_room_line (oVar 9) [8, 9, 10] (stR S (r : Nat) x2 x3 x4 x5) = .ok (.fo L) (stR S (r : Nat) x2 x3 x4 x5) := by
  have big : (100 : Nat) ≤ sizeLine := by decide
  have c := comp_fm (fi := iSeq (f2 pIx (xVar 0) (xO (oC (.int 3))))) (g := gTupZ 4 (gConsZ (gN 8) (gConsZ (gN 9) (gConsZ (gN 10) (gConsZ (gN 10) gNilZ))))) (cond := c1_room_line) (elt := oVar 9) (vs := [8, 9, 10]) (ρ := stR S (r : Nat) x2 x3 x4 x5) (ρ0 := stR S (r : Nat) x2 x3 x4 x5) (ds := P.map perD) (ofD (tL (r : Nat))) (fun d => .fz (pOf d)) (by simp [_root_.Z.runF_eq, _root_.Z.endF_nx, _root_.Z.endF_rt, _root_.Z.entry, _root_.Z.outsOf, _root_.Z.sSeq, _root_.Z.sNil, _root_.Z.sRet, _root_.Z.sRetV, _root_.Z.sSet, _root_.Z.sIf, _root_.Z.sExp, _root_.Z.sAsg, _root_.Z.setV, _root_.Z.oAnd, _root_.Z.oOr, _root_.Z.oNot, _root_.Z.oIte, _root_.Z.oApp, _root_.Z.oAppK, _root_.Z.aCons, _root_.Z.xO, _root_.Z.oVar, _root_.Z.oC, _root_.Z.xVar, _root_.Z.apF, _root_.Z.avOf, _root_.Z.Av.sl, _root_.Z.Va.sl, _root_.Z.odSl, _root_.Z.aft, _root_.Z.setOuts, _root_.Z.boolV, _root_.Z.Va.d, _root_.Z.oChn, _root_.Z.Od.get, _root_.Z.Sl.get, _root_.Z.ap1, _root_.Z.ap2, _root_.Z.f1, _root_.Z.f2, _root_.Z.fL, _root_.Z.fM, _root_.Z.apL, _root_.Z.getAll, _root_.Z.bNot, _root_.Z.bAnd, _root_.Z.bOr, _root_.Z.bX, _root_.Z.bOf, _root_.Z.truth, _root_.Z.oTup, _root_.Z.oLst, _root_.Z.oSeq, _root_.Z.datas, iSeq, h3, itemsOf]) (fun d hd => by
    obtain ⟨w, p, b, u, rfl⟩ := per_mem hd
    exact ⟨[.vl S, .vl (.int (r : Nat)), x2, x3, x4, x5, .un, .un, .vl (.str w), .vl (.int p), .vl (.int u)], _, rfl, c1r_ok (b := b), rfl, fun _ => ⟨_, rfl, rfl⟩⟩) (by rw [List.length_map]; omega)
  refine ⟨_, ?_, c⟩
  have q := congrArg List.length (filt_per (tL (r : Nat)) (fun d => (Va.fz (pOf d)).d) P)
  rw [q, List.length_map]
  rfl
end
theorem r_room_line {now en : Int} {R : List Int} {ps : List Pas} {sm : List D} {P : List Per} {tl : List D} {n r : Nat} {k : Int} {d : D} (hk : R[r]? = some k) (hd : sm[r]? = some d) (hn : smOk d) (hP : ∀ x ∈ P, PerOk now n x) (hl : P.length ≤ 100) (hr : r ≤ 100) :
    runF 11 g_room_line [.v (stateD now en (houseD R ps sm) P tl), .v (.int (r : Nat))] = .ok (.fz (.str (lineT (r : Nat) (sgT k d now) (usOf now (r : Nat) P) (csOf now (r : Nat) P) (lostOf (r : Nat) P)))) [.v (stateD now en (houseD R ps sm) P tl), .v (.int (r : Nat))] := by
  have h0 : pIx (stateD now en (houseD R ps sm) P tl) (.int 0) = some (.fz (.int now)) := rfl
  have h2 : pIx (stateD now en (houseD R ps sm) P tl) (.int 2) = some (.fz (houseD R ps sm)) := rfl
  have h3 : pIx (stateD now en (houseD R ps sm) P tl) (.int 3) = some (.fz (.tuple (P.map perD))) := rfl
  have h20 : pIx (houseD R ps sm) (.int 0) = some (.fz (.tuple (dI R))) := rfl
  have hR : pIx (.tuple (dI R)) (.int (r : Nat)) = some (.fz (.int k)) := at_tup (by unfold dI; rw [List.getElem?_map, hk]; rfl)
  have pl := r_is_place (a := .tuple (dI R)) (b := .tuple (ps.map pasD)) (now := now) hd hn
  have us := us_ok (r := (r : Nat)) hP
  have cs := cs_ok (r := (r : Nat)) hP
  have ul := Nat.le_trans (us_len (now := now) (r := (r : Nat)) (P := P)) hl
  have cl := Nat.le_trans (cs_len (now := now) (r := (r : Nat)) (P := P)) hl
  have ll := Nat.le_trans (lost_len (r := (r : Nat)) (P := P)) hl
  have jl := join_line (k := k) (d := d) (now := now) hr us cs ul cl ll
  have j1 : pJoin (.str "") (.list (((sortD (dI (usOf now (r : Nat) P))).map nT).map PyData.str)) = some (.fz (.str (thT (usOf now (r : Nat) P)))) := join_ok sz_sep0 (sz_nT us) (by rw [List.length_map, sortD_len, dI_len]; omega)
  have j2 : pJoin (.str ",") (.list (((sortD ((csOf now (r : Nat) P).map pairD)).map pT).map PyData.str)) = some (.fz (.str (cmT (csOf now (r : Nat) P)))) := join_ok sz_com (sz_pT cs) (by rw [List.length_map, sortD_len, List.length_map]; omega)
  have s1 := sz_thT us ul
  have s2 := sz_cmT cs cl
  have c1 := @comp_th (stateD now en (houseD R ps sm) P tl) r now P n
  have c2 := @comp_cm (stateD now en (houseD R ps sm) P tl) r now P n
  have c3 := @comp_lost (stateD now en (houseD R ps sm) P tl) r P
  have t1 := str_ok (n := (r : Nat)) (by omega) (by omega)
  have t2 := str_ok (n := (lostOf (r : Nat) P : Nat)) (by omega) (by omega)
  generalize (stateD now en (houseD R ps sm) P tl) = S at *
  generalize (sortD (dI (usOf now (r : Nat) P))).map nT = Y1 at *
  generalize (sortD ((csOf now (r : Nat) P).map pairD)).map pT = Y2 at *
  suffices body : g_room_line (stR S (r : Nat) .un .un .un .un) = .ok (.rt (.fz (.str (lineT (r : Nat) (sgT k d now) (usOf now (r : Nat) P) (csOf now (r : Nat) P) (lostOf (r : Nat) P))))) (stR S (r : Nat) (.vl (.str (sgT k d now))) (.vl (.str (thT (usOf now (r : Nat) P)))) (.vl (.str (cmT (csOf now (r : Nat) P)))) (.vl (.int (lostOf (r : Nat) P : Nat)))) by
    rw [runF_eq]
    show endF _ (g_room_line (stR S (r : Nat) .un .un .un .un)) = _
    rw [body]
    rfl
  unfold g_room_line
  refine (seq_nx (set_ok (va := .fz (.str (if clrD d now = true then "." else "~"))) (ρ1 := stR S (r : Nat) .un .un .un .un) (x := .un) ?_ rfl nt_un)).trans ?_
  rotate_left
  · refine (seq_nx (ρ1 := stR S (r : Nat) (.vl (.str (sgT k d now))) .un .un .un) ?_).trans ?_
    rotate_left
    · refine (seq_nx (set_ok (va := .fz (.str (thT (usOf now (r : Nat) P)))) (ρ1 := stR S (r : Nat) (.vl (.str (sgT k d now))) .un .un .un) (x := .un) ?_ rfl nt_un)).trans ?_
      rotate_left
      · refine (seq_nx (set_ok (va := .fz (.str (cmT (csOf now (r : Nat) P)))) (ρ1 := stR S (r : Nat) (.vl (.str (sgT k d now))) (.vl (.str (thT (usOf now (r : Nat) P)))) .un .un) (x := .un) ?_ rfl nt_un)).trans ?_
        rotate_left
        · refine (seq_nx (set_ok (va := .fz (.int (lostOf (r : Nat) P : Nat))) (ρ1 := stR S (r : Nat) (.vl (.str (sgT k d now))) (.vl (.str (thT (usOf now (r : Nat) P)))) (.vl (.str (cmT (csOf now (r : Nat) P)))) .un) (x := .un) ?_ rfl nt_un)).trans ?_
          rotate_left
          · refine seq_rt (va := .fz (.str (lineT (r : Nat) (sgT k d now) (usOf now (r : Nat) P) (csOf now (r : Nat) P) (lostOf (r : Nat) P)))) (ρ1 := stR S (r : Nat) (.vl (.str (sgT k d now))) (.vl (.str (thT (usOf now (r : Nat) P)))) (.vl (.str (cmT (csOf now (r : Nat) P)))) (.vl (.int (lostOf (r : Nat) P : Nat)))) ?_
            have big := line_big
            have l1 : (thT (usOf now (r : Nat) P)).length ≤ 16777216 := by have := s1.1; omega
            have l2 : (cmT (csOf now (r : Nat) P)).length ≤ 16777216 := by have := s2.1; omega
            clear c1 c2 c3 j1 j2 pl
            unfold orD at jl
            generalize lineT (r : Nat) (sgT k d now) (usOf now (r : Nat) P) (csOf now (r : Nat) P) (lostOf (r : Nat) P) = LL at *
            generalize thT (usOf now (r : Nat) P) = A at *
            generalize cmT (csOf now (r : Nat) P) = B at *
            generalize sgT k d now = G at *
            generalize tx (r : Nat) = T1 at *
            generalize tx (lostOf (r : Nat) P : Nat) = T2 at *
            generalize ((lostOf (r : Nat) P : Nat) : Int) = LO at *
            generalize ((r : Nat) : Int) = RR at *
            by_cases q1 : A.length = 0 <;> by_cases q2 : B.length = 0 <;> simp only [q1, q2, if_true, if_false] at jl <;> simp [_root_.Z.runF_eq, _root_.Z.endF_nx, _root_.Z.endF_rt, _root_.Z.entry, _root_.Z.outsOf, _root_.Z.sSeq, _root_.Z.sNil, _root_.Z.sRet, _root_.Z.sRetV, _root_.Z.sSet, _root_.Z.sIf, _root_.Z.sExp, _root_.Z.sAsg, _root_.Z.setV, _root_.Z.oAnd, _root_.Z.oOr, _root_.Z.oNot, _root_.Z.oIte, _root_.Z.oApp, _root_.Z.oAppK, _root_.Z.aCons, _root_.Z.xO, _root_.Z.oVar, _root_.Z.oC, _root_.Z.xVar, _root_.Z.apF, _root_.Z.avOf, _root_.Z.Av.sl, _root_.Z.Va.sl, _root_.Z.odSl, _root_.Z.aft, _root_.Z.setOuts, _root_.Z.boolV, _root_.Z.Va.d, _root_.Z.oChn, _root_.Z.Od.get, _root_.Z.Sl.get, _root_.Z.ap1, _root_.Z.ap2, _root_.Z.f1, _root_.Z.f2, _root_.Z.fL, _root_.Z.fM, _root_.Z.apL, _root_.Z.getAll, _root_.Z.bNot, _root_.Z.bAnd, _root_.Z.bOr, _root_.Z.bX, _root_.Z.bOf, _root_.Z.truth, _root_.Z.oTup, _root_.Z.oLst, _root_.Z.oSeq, _root_.Z.datas, oJoin, isStr, t1, t2, q1, q2, l1, l2, jl, sizeLine]
          · have ⟨L, hL, c3⟩ := c3 (x2 := .vl (.str (sgT k d now))) (x3 := .vl (.str (thT (usOf now (r : Nat) P)))) (x4 := .vl (.str (cmT (csOf now (r : Nat) P)))) (x5 := .un) h3 hl
            generalize oComp (iSeq (f2 pIx (xVar 0) (xO (oC (.int 3))))) (gTupZ 4 (gConsZ (gN 8) (gConsZ (gN 9) (gConsZ (gN 10) (gConsZ (gN 10) gNilZ))))) c1_room_line (oVar 9) [8, 9, 10] = κ at c3 ⊢
            rw [← hL]
            simp [_root_.Z.runF_eq, _root_.Z.endF_nx, _root_.Z.endF_rt, _root_.Z.entry, _root_.Z.outsOf, _root_.Z.sSeq, _root_.Z.sNil, _root_.Z.sRet, _root_.Z.sRetV, _root_.Z.sSet, _root_.Z.sIf, _root_.Z.sExp, _root_.Z.sAsg, _root_.Z.setV, _root_.Z.oAnd, _root_.Z.oOr, _root_.Z.oNot, _root_.Z.oIte, _root_.Z.oApp, _root_.Z.oAppK, _root_.Z.aCons, _root_.Z.xO, _root_.Z.oVar, _root_.Z.oC, _root_.Z.xVar, _root_.Z.apF, _root_.Z.avOf, _root_.Z.Av.sl, _root_.Z.Va.sl, _root_.Z.odSl, _root_.Z.aft, _root_.Z.setOuts, _root_.Z.boolV, _root_.Z.Va.d, _root_.Z.oChn, _root_.Z.Od.get, _root_.Z.Sl.get, _root_.Z.ap1, _root_.Z.ap2, _root_.Z.f1, _root_.Z.f2, _root_.Z.fL, _root_.Z.fM, _root_.Z.apL, _root_.Z.getAll, _root_.Z.bNot, _root_.Z.bAnd, _root_.Z.bOr, _root_.Z.bX, _root_.Z.bOf, _root_.Z.truth, _root_.Z.oTup, _root_.Z.oLst, _root_.Z.oSeq, _root_.Z.datas, c3, pLen]
        · have c2 := c2 (x2 := .vl (.str (sgT k d now))) (x3 := .vl (.str (thT (usOf now (r : Nat) P)))) (x5 := .un) h0 h3 hl hP
          generalize oComp (iSeq (oApp 2 (runF 6 g_comings_to) (aCons (xO (oVar 0)) (aCons (xO (oVar 1)) (fun ρ => .ok [] ρ))))) (gTupZ 2 (gConsZ (gN 7) (gConsZ (gN 6) gNilZ))) bYes e2_room_line [7, 6] = κ at c2 ⊢
          simp [_root_.Z.runF_eq, _root_.Z.endF_nx, _root_.Z.endF_rt, _root_.Z.entry, _root_.Z.outsOf, _root_.Z.sSeq, _root_.Z.sNil, _root_.Z.sRet, _root_.Z.sRetV, _root_.Z.sSet, _root_.Z.sIf, _root_.Z.sExp, _root_.Z.sAsg, _root_.Z.setV, _root_.Z.oAnd, _root_.Z.oOr, _root_.Z.oNot, _root_.Z.oIte, _root_.Z.oApp, _root_.Z.oAppK, _root_.Z.aCons, _root_.Z.xO, _root_.Z.oVar, _root_.Z.oC, _root_.Z.xVar, _root_.Z.apF, _root_.Z.avOf, _root_.Z.Av.sl, _root_.Z.Va.sl, _root_.Z.odSl, _root_.Z.aft, _root_.Z.setOuts, _root_.Z.boolV, _root_.Z.Va.d, _root_.Z.oChn, _root_.Z.Od.get, _root_.Z.Sl.get, _root_.Z.ap1, _root_.Z.ap2, _root_.Z.f1, _root_.Z.f2, _root_.Z.fL, _root_.Z.fM, _root_.Z.apL, _root_.Z.getAll, _root_.Z.bNot, _root_.Z.bAnd, _root_.Z.bOr, _root_.Z.bX, _root_.Z.bOf, _root_.Z.truth, _root_.Z.oTup, _root_.Z.oLst, _root_.Z.oSeq, _root_.Z.datas, oJoin, isStr, c2, j2]
      · have c1 := c1 (x2 := .vl (.str (sgT k d now))) (x4 := .un) (x5 := .un) h0 h3 hl hP
        generalize oComp (iSeq (oApp 2 (runF 6 g_urgencies_there) (aCons (xO (oVar 0)) (aCons (xO (oVar 1)) (fun ρ => .ok [] ρ))))) (gN 6) bYes e3_room_line [6] = κ at c1 ⊢
        simp [_root_.Z.runF_eq, _root_.Z.endF_nx, _root_.Z.endF_rt, _root_.Z.entry, _root_.Z.outsOf, _root_.Z.sSeq, _root_.Z.sNil, _root_.Z.sRet, _root_.Z.sRetV, _root_.Z.sSet, _root_.Z.sIf, _root_.Z.sExp, _root_.Z.sAsg, _root_.Z.setV, _root_.Z.oAnd, _root_.Z.oOr, _root_.Z.oNot, _root_.Z.oIte, _root_.Z.oApp, _root_.Z.oAppK, _root_.Z.aCons, _root_.Z.xO, _root_.Z.oVar, _root_.Z.oC, _root_.Z.xVar, _root_.Z.apF, _root_.Z.avOf, _root_.Z.Av.sl, _root_.Z.Va.sl, _root_.Z.odSl, _root_.Z.aft, _root_.Z.setOuts, _root_.Z.boolV, _root_.Z.Va.d, _root_.Z.oChn, _root_.Z.Od.get, _root_.Z.Sl.get, _root_.Z.ap1, _root_.Z.ap2, _root_.Z.f1, _root_.Z.f2, _root_.Z.fL, _root_.Z.fM, _root_.Z.apL, _root_.Z.getAll, _root_.Z.bNot, _root_.Z.bAnd, _root_.Z.bOr, _root_.Z.bX, _root_.Z.bOf, _root_.Z.truth, _root_.Z.oTup, _root_.Z.oLst, _root_.Z.oSeq, _root_.Z.datas, oJoin, isStr, c1, j1]
    · have q1 := eq_int k 1
      generalize houseD R ps sm = HH at *
      generalize PyData.tuple (dI R) = RR at *
      generalize ((r : Nat) : Int) = r' at *
      unfold sgT
      by_cases q : k = 1
      · rw [decide_eq_true q] at q1
        rw [if_pos q]
        simp [_root_.Z.runF_eq, _root_.Z.endF_nx, _root_.Z.endF_rt, _root_.Z.entry, _root_.Z.outsOf, _root_.Z.sSeq, _root_.Z.sNil, _root_.Z.sRet, _root_.Z.sRetV, _root_.Z.sSet, _root_.Z.sIf, _root_.Z.sExp, _root_.Z.sAsg, _root_.Z.setV, _root_.Z.oAnd, _root_.Z.oOr, _root_.Z.oNot, _root_.Z.oIte, _root_.Z.oApp, _root_.Z.oAppK, _root_.Z.aCons, _root_.Z.xO, _root_.Z.oVar, _root_.Z.oC, _root_.Z.xVar, _root_.Z.apF, _root_.Z.avOf, _root_.Z.Av.sl, _root_.Z.Va.sl, _root_.Z.odSl, _root_.Z.aft, _root_.Z.setOuts, _root_.Z.boolV, _root_.Z.Va.d, _root_.Z.oChn, _root_.Z.Od.get, _root_.Z.Sl.get, _root_.Z.ap1, _root_.Z.ap2, _root_.Z.f1, _root_.Z.f2, _root_.Z.fL, _root_.Z.fM, _root_.Z.apL, _root_.Z.getAll, _root_.Z.bNot, _root_.Z.bAnd, _root_.Z.bOr, _root_.Z.bX, _root_.Z.bOf, _root_.Z.truth, _root_.Z.oTup, _root_.Z.oLst, _root_.Z.oSeq, _root_.Z.datas, h2, h20, hR, q1]
      · rw [decide_eq_false q] at q1
        rw [if_neg q]
        simp [_root_.Z.runF_eq, _root_.Z.endF_nx, _root_.Z.endF_rt, _root_.Z.entry, _root_.Z.outsOf, _root_.Z.sSeq, _root_.Z.sNil, _root_.Z.sRet, _root_.Z.sRetV, _root_.Z.sSet, _root_.Z.sIf, _root_.Z.sExp, _root_.Z.sAsg, _root_.Z.setV, _root_.Z.oAnd, _root_.Z.oOr, _root_.Z.oNot, _root_.Z.oIte, _root_.Z.oApp, _root_.Z.oAppK, _root_.Z.aCons, _root_.Z.xO, _root_.Z.oVar, _root_.Z.oC, _root_.Z.xVar, _root_.Z.apF, _root_.Z.avOf, _root_.Z.Av.sl, _root_.Z.Va.sl, _root_.Z.odSl, _root_.Z.aft, _root_.Z.setOuts, _root_.Z.boolV, _root_.Z.Va.d, _root_.Z.oChn, _root_.Z.Od.get, _root_.Z.Sl.get, _root_.Z.ap1, _root_.Z.ap2, _root_.Z.f1, _root_.Z.f2, _root_.Z.fL, _root_.Z.fM, _root_.Z.apL, _root_.Z.getAll, _root_.Z.bNot, _root_.Z.bAnd, _root_.Z.bOr, _root_.Z.bX, _root_.Z.bOf, _root_.Z.truth, _root_.Z.oTup, _root_.Z.oLst, _root_.Z.oSeq, _root_.Z.datas, h2, h20, hR, q1]
  · generalize runF 4 g_is_place = φ at pl ⊢
    have pl : φ [.v (houseD R ps sm), .v (.int (r : Nat)), .v (.int now)] = .ok (.fz (.bool (clrD d now))) [.v (houseD R ps sm), .v (.int (r : Nat)), .v (.int now)] := pl
    generalize houseD R ps sm = HH at *
    generalize ((r : Nat) : Int) = r' at *
    generalize clrD d now = q at *
    cases q <;> simp [_root_.Z.runF_eq, _root_.Z.endF_nx, _root_.Z.endF_rt, _root_.Z.entry, _root_.Z.outsOf, _root_.Z.sSeq, _root_.Z.sNil, _root_.Z.sRet, _root_.Z.sRetV, _root_.Z.sSet, _root_.Z.sIf, _root_.Z.sExp, _root_.Z.sAsg, _root_.Z.setV, _root_.Z.oAnd, _root_.Z.oOr, _root_.Z.oNot, _root_.Z.oIte, _root_.Z.oApp, _root_.Z.oAppK, _root_.Z.aCons, _root_.Z.xO, _root_.Z.oVar, _root_.Z.oC, _root_.Z.xVar, _root_.Z.apF, _root_.Z.avOf, _root_.Z.Av.sl, _root_.Z.Va.sl, _root_.Z.odSl, _root_.Z.aft, _root_.Z.setOuts, _root_.Z.boolV, _root_.Z.Va.d, _root_.Z.oChn, _root_.Z.Od.get, _root_.Z.Sl.get, _root_.Z.ap1, _root_.Z.ap2, _root_.Z.f1, _root_.Z.f2, _root_.Z.fL, _root_.Z.fM, _root_.Z.apL, _root_.Z.getAll, _root_.Z.bNot, _root_.Z.bAnd, _root_.Z.bOr, _root_.Z.bX, _root_.Z.bOf, _root_.Z.truth, _root_.Z.oTup, _root_.Z.oLst, _root_.Z.oSeq, _root_.Z.datas, h0, h2, pl]
end ZH

namespace ZH
open PySem PySem.Spec PyProof.Rows L2 Z
theorem asg_ok {g : D → En → Option En} {fe : En → Rz Va} {ρ ρ1 ρ2 : En} {va : Va} (h : fe ρ = .ok va ρ1) (hg : g va.d ρ1 = some ρ2) : sAsg g fe ρ = .ok .nx ρ2 := by
  unfold sAsg; rw [h]; simp only [Rz.bind_ok, hg, Rz.of_some]
theorem ret_ok {fe : En → Rz Va} {ρ ρ1 : En} {va : Va} (h : fe ρ = .ok va ρ1) : sRet fe ρ = .ok (.rt va) ρ1 := by
  unfold sRet; rw [h]; rfl
def smN (n : Int) : Prop := 0 ≤ n ∧ n ≤ 1000
theorem smN.big {n : Int} (h : smN n) : n < 10 ^ 10 := by have := h.2; omega
theorem sz_smN {n : Int} (h : smN n) : Sz 10 (tx n) := sz_tx h.1 h.big
structure PasOk (x : Pas) : Prop where
  t : smN x.t
  h : smN x.h
  l : smN x.l
  w : smN x.w
def shT (x : Pas) (now : Int) : Str := if x.w = 0 ∨ now ∈ x.s then "shut" else "open"
def pasT (n : Int) (x : Pas) (now : Int) : Str := tx n ++ " " ++ tx x.t ++ ">" ++ tx x.h ++ " " ++ tx x.l ++ " " ++ tx x.w ++ " " ++ shT x now
theorem sz_shT (x : Pas) (now : Int) : Sz 4 (shT x now) := by
  unfold shT
  split
  · exact ⟨by decide +kernel, by decide +kernel⟩
  · exact ⟨by decide +kernel, by decide +kernel⟩
theorem sz_gt : Sz 1 (">" : Str) := ⟨by decide +kernel, by decide +kernel⟩
theorem sz_pasT {n now : Int} {x : Pas} (hn : smN n) (hx : PasOk x) : Sz 100 (pasT n x now) :=
  (((((((((((sz_smN hn).app sz_sep1).app (sz_smN hx.t)).app sz_gt).app (sz_smN hx.h)).app sz_sep1).app (sz_smN hx.l)).app sz_sep1).app (sz_smN hx.w)).app sz_sep1).app (sz_shT x now)).mono (by omega)
theorem fmt_n {ρ : En} {i : Nat} {n : Int} (h : ρ[i]? = some (.vl (.int n))) (hn : smN n) : oFmt (oVar i) ρ = .ok (.fz (.str (tx n))) ρ := by simp [_root_.Z.runF_eq, _root_.Z.endF_nx, _root_.Z.endF_rt, _root_.Z.entry, _root_.Z.outsOf, _root_.Z.sSeq, _root_.Z.sNil, _root_.Z.sRet, _root_.Z.sRetV, _root_.Z.sSet, _root_.Z.sIf, _root_.Z.sExp, _root_.Z.sAsg, _root_.Z.setV, _root_.Z.oAnd, _root_.Z.oOr, _root_.Z.oNot, _root_.Z.oIte, _root_.Z.oApp, _root_.Z.oAppK, _root_.Z.aCons, _root_.Z.xO, _root_.Z.oVar, _root_.Z.oC, _root_.Z.xVar, _root_.Z.apF, _root_.Z.avOf, _root_.Z.Av.sl, _root_.Z.Va.sl, _root_.Z.odSl, _root_.Z.aft, _root_.Z.setOuts, _root_.Z.boolV, _root_.Z.Va.d, _root_.Z.oChn, _root_.Z.Od.get, _root_.Z.Sl.get, _root_.Z.ap1, _root_.Z.ap2, _root_.Z.f1, _root_.Z.f2, _root_.Z.fL, _root_.Z.fM, _root_.Z.apL, _root_.Z.getAll, _root_.Z.bNot, _root_.Z.bAnd, _root_.Z.bOr, _root_.Z.bX, _root_.Z.bOf, _root_.Z.truth, _root_.Z.oTup, _root_.Z.oLst, _root_.Z.oSeq, _root_.Z.datas, oFmt, h, fmti_ok hn.1 hn.big]
theorem fmt_s {ρ : En} {i B : Nat} {x : Str} (h : ρ[i]? = some (.vl (.str x))) (hx : Sz B x) (hB : B ≤ 16777216) : oFmt (oVar i) ρ = .ok (.fz (.str x)) ρ := by simp [_root_.Z.runF_eq, _root_.Z.endF_nx, _root_.Z.endF_rt, _root_.Z.entry, _root_.Z.outsOf, _root_.Z.sSeq, _root_.Z.sNil, _root_.Z.sRet, _root_.Z.sRetV, _root_.Z.sSet, _root_.Z.sIf, _root_.Z.sExp, _root_.Z.sAsg, _root_.Z.setV, _root_.Z.oAnd, _root_.Z.oOr, _root_.Z.oNot, _root_.Z.oIte, _root_.Z.oApp, _root_.Z.oAppK, _root_.Z.aCons, _root_.Z.xO, _root_.Z.oVar, _root_.Z.oC, _root_.Z.xVar, _root_.Z.apF, _root_.Z.avOf, _root_.Z.Av.sl, _root_.Z.Va.sl, _root_.Z.odSl, _root_.Z.aft, _root_.Z.setOuts, _root_.Z.boolV, _root_.Z.Va.d, _root_.Z.oChn, _root_.Z.Od.get, _root_.Z.Sl.get, _root_.Z.ap1, _root_.Z.ap2, _root_.Z.f1, _root_.Z.f2, _root_.Z.fL, _root_.Z.fM, _root_.Z.apL, _root_.Z.getAll, _root_.Z.bNot, _root_.Z.bAnd, _root_.Z.bOr, _root_.Z.bX, _root_.Z.bOf, _root_.Z.truth, _root_.Z.oTup, _root_.Z.oLst, _root_.Z.oSeq, _root_.Z.datas, oFmt, h, fmts_ok hx hB]
theorem r_passage_now {now en : Int} {R : List Int} {ps : List Pas} {sm : List D} {P : List Per} {tl : List D} {n : Nat} {x : Pas} (hx : ps[n]? = some x) (ok : PasOk x) (hn : n ≤ 1000) :
    runF 8 g_passage_now [.v (stateD now en (houseD R ps sm) P tl), .v (.int (n : Nat))] = .ok (.fz (.str (pasT (n : Nat) x now))) [.v (stateD now en (houseD R ps sm) P tl), .v (.int (n : Nat))] := by
  have h0 : pIx (stateD now en (houseD R ps sm) P tl) (.int 0) = some (.fz (.int now)) := rfl
  have h2 : pIx (stateD now en (houseD R ps sm) P tl) (.int 2) = some (.fz (houseD R ps sm)) := rfl
  have h21 : pIx (houseD R ps sm) (.int 1) = some (.fz (.tuple (ps.map pasD))) := rfl
  have hX : pIx (.tuple (ps.map pasD)) (.int (n : Nat)) = some (.fz (pasD x)) := at_tup (by rw [List.getElem?_map, hx]; rfl)
  generalize (stateD now en (houseD R ps sm) P tl) = S at *
  have hm : smN (n : Nat) := ⟨by omega, by omega⟩
  generalize ((n : Nat) : Int) = N at *
  suffices body : g_passage_now [.vl S, .vl (.int N), .un, .un, .un, .un, .un, .un] = .ok (.rt (.fz (.str (pasT N x now)))) [.vl S, .vl (.int N), .vl (.str (shT x now)), .vl (.int x.t), .vl (.int x.h), .vl (.int x.l), .vl (.int x.w), .vl (.tuple (dI x.s))] by
    rw [runF_eq]
    show endF _ (g_passage_now [.vl S, .vl (.int N), .un, .un, .un, .un, .un, .un]) = _
    rw [body]
    rfl
  unfold g_passage_now
  refine (seq_nx (asg_ok (va := .fz (pasD x)) (ρ1 := [.vl S, .vl (.int N), .un, .un, .un, .un, .un, .un]) (ρ2 := [.vl S, .vl (.int N), .un, .vl (.int x.t), .vl (.int x.h), .vl (.int x.l), .vl (.int x.w), .vl (.tuple (dI x.s))]) ?_ rfl)).trans ?_
  · generalize houseD R ps sm = H at *
    generalize PyData.tuple (ps.map pasD) = L at *
    generalize pasD x = Q at *
    simp [_root_.Z.runF_eq, _root_.Z.endF_nx, _root_.Z.endF_rt, _root_.Z.entry, _root_.Z.outsOf, _root_.Z.sSeq, _root_.Z.sNil, _root_.Z.sRet, _root_.Z.sRetV, _root_.Z.sSet, _root_.Z.sIf, _root_.Z.sExp, _root_.Z.sAsg, _root_.Z.setV, _root_.Z.oAnd, _root_.Z.oOr, _root_.Z.oNot, _root_.Z.oIte, _root_.Z.oApp, _root_.Z.oAppK, _root_.Z.aCons, _root_.Z.xO, _root_.Z.oVar, _root_.Z.oC, _root_.Z.xVar, _root_.Z.apF, _root_.Z.avOf, _root_.Z.Av.sl, _root_.Z.Va.sl, _root_.Z.odSl, _root_.Z.aft, _root_.Z.setOuts, _root_.Z.boolV, _root_.Z.Va.d, _root_.Z.oChn, _root_.Z.Od.get, _root_.Z.Sl.get, _root_.Z.ap1, _root_.Z.ap2, _root_.Z.f1, _root_.Z.f2, _root_.Z.fL, _root_.Z.fM, _root_.Z.apL, _root_.Z.getAll, _root_.Z.bNot, _root_.Z.bAnd, _root_.Z.bOr, _root_.Z.bX, _root_.Z.bOf, _root_.Z.truth, _root_.Z.oTup, _root_.Z.oLst, _root_.Z.oSeq, _root_.Z.datas, h2, h21, hX]
  · refine (seq_nx (set_ok (va := .fz (.str (shT x now))) (ρ1 := [.vl S, .vl (.int N), .un, .vl (.int x.t), .vl (.int x.h), .vl (.int x.l), .vl (.int x.w), .vl (.tuple (dI x.s))]) (x := .un) ?_ rfl nt_un)).trans ?_
    · have k1 := eq_int x.w 0
      have k2 : pIn (.int now) (.tuple (dI x.s)) = some (.fz (.bool (decide (now ∈ x.s)))) := by unfold pIn; rw [in_seq (.inr rfl)]; rfl
      have e : shT x now = if (decide (x.w = 0) || decide (now ∈ x.s)) = true then "shut" else "open" := by
        unfold shT
        by_cases q1 : x.w = 0 <;> by_cases q2 : now ∈ x.s <;> simp [q1, q2]
      rw [e]
      generalize PyData.tuple (dI x.s) = Q at *
      generalize decide (x.w = 0) = q1 at *
      generalize decide (now ∈ x.s) = q2 at *
      cases q1 <;> cases q2 <;> simp [_root_.Z.runF_eq, _root_.Z.endF_nx, _root_.Z.endF_rt, _root_.Z.entry, _root_.Z.outsOf, _root_.Z.sSeq, _root_.Z.sNil, _root_.Z.sRet, _root_.Z.sRetV, _root_.Z.sSet, _root_.Z.sIf, _root_.Z.sExp, _root_.Z.sAsg, _root_.Z.setV, _root_.Z.oAnd, _root_.Z.oOr, _root_.Z.oNot, _root_.Z.oIte, _root_.Z.oApp, _root_.Z.oAppK, _root_.Z.aCons, _root_.Z.xO, _root_.Z.oVar, _root_.Z.oC, _root_.Z.xVar, _root_.Z.apF, _root_.Z.avOf, _root_.Z.Av.sl, _root_.Z.Va.sl, _root_.Z.odSl, _root_.Z.aft, _root_.Z.setOuts, _root_.Z.boolV, _root_.Z.Va.d, _root_.Z.oChn, _root_.Z.Od.get, _root_.Z.Sl.get, _root_.Z.ap1, _root_.Z.ap2, _root_.Z.f1, _root_.Z.f2, _root_.Z.fL, _root_.Z.fM, _root_.Z.apL, _root_.Z.getAll, _root_.Z.bNot, _root_.Z.bAnd, _root_.Z.bOr, _root_.Z.bX, _root_.Z.bOf, _root_.Z.truth, _root_.Z.oTup, _root_.Z.oLst, _root_.Z.oSeq, _root_.Z.datas, h0, k1, k2]
    · refine seq_rt (ret_ok ?_)
      have s0 := sz_smN hm
      have s1 := sz_smN ok.t
      have s2 := sz_smN ok.h
      have s3 := sz_smN ok.l
      have s4 := sz_smN ok.w
      have s5 := sz_shT x now
      have a0 := sz_empty.app s0
      have a1 := a0.app sz_sep1
      have a2 := a1.app s1
      have a3 := a2.app sz_gt
      have a4 := a3.app s2
      have a5 := a4.app sz_sep1
      have a6 := a5.app s3
      have a7 := a6.app sz_sep1
      have a8 := a7.app s4
      have a9 := a8.app sz_sep1
      rw [js_cons (fmt_n rfl hm) sz_empty s0 (by omega), js_cons (f := oC (.str " ")) rfl a0 sz_sep1 (by omega), js_cons (fmt_n rfl ok.t) a1 s1 (by omega), js_cons (f := oC (.str ">")) rfl a2 sz_gt (by omega), js_cons (fmt_n rfl ok.h) a3 s2 (by omega), js_cons (f := oC (.str " ")) rfl a4 sz_sep1 (by omega),
        js_cons (fmt_n rfl ok.l) a5 s3 (by omega), js_cons (f := oC (.str " ")) rfl a6 sz_sep1 (by omega), js_cons (fmt_n rfl ok.w) a7 s4 (by omega), js_cons (f := oC (.str " ")) rfl a8 sz_sep1 (by omega), js_cons (fmt_s rfl s5 (by omega)) a9 s5 (by omega), js_nil, Str.empty_append]
      rfl
/-! ### the whole -/
structure StOk (now en : Int) (R : List Int) (ps : List Pas) (sm : List D) (P : List Per) (tl : List D) : Prop where
  know : smN now
  ken : smN en
  kR : R.length ≤ 10
  ksl : sm.length = R.length
  ksm : ∀ d ∈ sm, smOk d
  kpl : ps.length ≤ 10
  kps : ∀ x ∈ ps, PasOk x
  kPl : P.length ≤ 10
  kP : ∀ x ∈ P, PerOk now R.length x
  ktn : tl.length ≤ 10
  ktl : ∀ d ∈ tl, stOk d
def roomT (now : Int) (R : List Int) (sm : List D) (P : List Per) (i : Nat) : Str := lineT (i : Nat) (sgT (R[i]?.getD 0) (sm[i]?.getD .none) now) (usOf now (i : Nat) P) (csOf now (i : Nat) P) (lostOf (i : Nat) P)
def pasnT (now : Int) (ps : List Pas) (i : Nat) : Str := pasT (i : Nat) (ps[i]?.getD ⟨0, 0, 0, 0, []⟩) now
def beatT (now en : Int) : Str := "beat " ++ tx now ++ " of " ++ tx en
def toldT (tl : List D) : Str := "told " ++ wordsT tl
def linesT (now en : Int) (R : List Int) (ps : List Pas) (sm : List D) (P : List Per) (tl : List D) : List Str := [beatT now en] ++ (List.range' 0 R.length).map (roomT now R sm P) ++ (List.range' 0 ps.length).map (pasnT now ps) ++ [toldT tl]
def drawT (now en : Int) (R : List Int) (ps : List Pas) (sm : List D) (P : List Per) (tl : List D) : Str := Txt.join "\n" (linesT now en R ps sm P tl)
section
variable {now en : Int} {R : List Int} {ps : List Pas} {sm : List D} {P : List Per} {tl : List D} (ok : StOk now en R ps sm P tl)
include ok
theorem sz_beat : Sz 30 (beatT now en) := ((((show Sz 5 ("beat " : Str) from ⟨by decide +kernel, by decide +kernel⟩).app (sz_smN ok.know)).app (show Sz 4 (" of " : Str) from ⟨by decide +kernel, by decide +kernel⟩)).app (sz_smN ok.ken)).mono (by omega)
theorem sz_words : Sz 110 (wordsT tl) := by
  unfold wordsT
  split
  · exact Sz.mono (B := 1) ⟨by decide +kernel, by decide +kernel⟩ (by omega)
  · refine (sz_join sz_sep1 (B := 10) fun y hy => ?_).mono ?_
    · obtain ⟨d, hd, rfl⟩ := List.mem_map.mp hy
      exact sz_stT (ok.ktl d hd)
    · rw [List.length_map]; have := ok.ktn; omega
theorem sz_told : Sz 115 (toldT tl) := (show Sz 5 ("told " : Str) from ⟨by decide +kernel, by decide +kernel⟩).app (sz_words ok)
theorem sz_room {i : Nat} (hi : i < R.length) : Sz 12000 (roomT now R sm P i) := by
  have := ok.kR
  have := ok.kPl
  exact sz_line (by omega) (us_ok ok.kP) (cs_ok ok.kP) (Nat.le_trans us_len (by omega)) (Nat.le_trans cs_len (by omega)) (Nat.le_trans lost_len (by omega))
theorem sz_pasn {i : Nat} (hi : i < ps.length) : Sz 100 (pasnT now ps i) := by
  have := ok.kpl
  unfold pasnT
  rw [List.getElem?_eq_getElem hi]
  exact sz_pasT ⟨by omega, by omega⟩ (ok.kps _ (List.getElem_mem hi))
theorem sz_lines : ∀ y ∈ linesT now en R ps sm P tl, Sz 12000 y := fun y hy => by
  unfold linesT at hy
  simp only [List.mem_append, List.mem_singleton, List.mem_map] at hy
  rcases hy with ((rfl | ⟨i, hi, rfl⟩) | ⟨i, hi, rfl⟩) | rfl
  · exact (sz_beat ok).mono (by omega)
  · exact sz_room ok (by have := List.mem_range'_1.mp hi; omega)
  · exact (sz_pasn ok (by have := List.mem_range'_1.mp hi; omega)).mono (by omega)
  · exact (sz_told ok).mono (by omega)
theorem lines_len : (linesT now en R ps sm P tl).length ≤ 22 := by
  have := ok.kR
  have := ok.kpl
  unfold linesT
  simp only [List.length_append, List.length_map, List.length_range', List.length_singleton]
  omega
theorem sz_nl : Sz 1 ("\n" : Str) := ⟨by decide +kernel, by decide +kernel⟩
theorem sz_draw : Sz 300000 (drawT now en R ps sm P tl) := (sz_join (show Sz 1 ("\n" : Str) from ⟨by decide +kernel, by decide +kernel⟩) (sz_lines ok)).mono (by have := lines_len ok; omega)
theorem join_draw : pJoin (.str "\n") (.list ((linesT now en R ps sm P tl).map PyData.str)) = some (.fz (.str (drawT now en R ps sm P tl))) := join_ok (show Sz 1 ("\n" : Str) from ⟨by decide +kernel, by decide +kernel⟩) (sz_lines ok) (by have := lines_len ok; omega)
end
end ZH

namespace ZH
open PySem PySem.Spec PyProof.Rows L2 Z
theorem ext_ok {i : Nat} {fv : En → Rz Va} {ρ ρ1 : En} {va : Va} {p q : Bool} {ds es fs : List D} (h0 : ρ[i]? = some (.ow q fs)) (h : fv ρ = .ok va ρ1) (h1 : ρ1[i]? = some (.ow p ds)) (hv : va.d = .list es) (hl : ds.length + es.length ≤ sizeLine) : sExt i fv ρ = .ok .nx (ρ1.set i (.ow p (ds ++ es))) := by
  unfold sExt
  rw [h0, h]
  show extAt i va.d ρ1 = _
  unfold extAt
  rw [h1, hv]
  exact if_pos hl
theorem app_ok {i : Nat} {fv : En → Rz Va} {ρ ρ1 : En} {va : Va} {p q : Bool} {ds fs : List D} (h0 : ρ[i]? = some (.ow q fs)) (h : fv ρ = .ok va ρ1) (h1 : ρ1[i]? = some (.ow p ds)) (hl : ds.length < sizeLine) : sApp i fv ρ = .ok .nx (ρ1.set i (.ow p (ds ++ [va.d]))) := by
  unfold sApp
  rw [h0, h]
  show appAt i va.d ρ1 = _
  unfold appAt
  rw [h1]
  exact if_pos hl
theorem len_dI (R : List Int) : pLen [.tuple (dI R)] = some (.fz (.int (R.length : Nat))) := by
  show some (Va.fz (.int ((dI R).length : Nat))) = _
  rw [dI_len]
theorem len_map {α : Type} (f : α → D) (R : List α) : pLen [.tuple (R.map f)] = some (.fz (.int (R.length : Nat))) := by
  show some (Va.fz (.int ((R.map f).length : Nat))) = _
  rw [List.length_map]
section
variable {now en : Int} {R : List Int} {ps : List Pas} {sm : List D} {P : List Per} {tl : List D} (ok : StOk now en R ps sm P tl)
include ok
theorem room_run {i : Nat} (hi : i < R.length) : runF 11 g_room_line [.v (stateD now en (houseD R ps sm) P tl), .v (.int (i : Nat))] = .ok (.fz (.str (roomT now R sm P i))) [.v (stateD now en (houseD R ps sm) P tl), .v (.int (i : Nat))] := by
  have := ok.kR
  have := ok.kPl
  have hs : i < sm.length := by rw [ok.ksl]; exact hi
  have q := r_room_line (now := now) (en := en) (ps := ps) (tl := tl) (List.getElem?_eq_getElem hi) (List.getElem?_eq_getElem hs) (ok.ksm _ (List.getElem_mem hs)) ok.kP (by omega) (by omega)
  rw [q]
  unfold roomT
  rw [List.getElem?_eq_getElem hi, List.getElem?_eq_getElem hs]
  rfl
theorem pasn_run {i : Nat} (hi : i < ps.length) : runF 8 g_passage_now [.v (stateD now en (houseD R ps sm) P tl), .v (.int (i : Nat))] = .ok (.fz (.str (pasnT now ps i))) [.v (stateD now en (houseD R ps sm) P tl), .v (.int (i : Nat))] := by
  have := ok.kpl
  have q := r_passage_now (now := now) (en := en) (R := R) (sm := sm) (P := P) (tl := tl) (List.getElem?_eq_getElem hi) (ok.kps _ (List.getElem_mem hi)) (by omega)
  rw [q]
  unfold pasnT
  rw [List.getElem?_eq_getElem hi]
  rfl
abbrev stD (S : D) (L : Sl) (now en : Int) (H PD tD : D) : En := [.vl S, L, .vl (.int now), .vl (.int en), .vl H, .vl PD, .vl tD, .un, .un]
theorem r_drawn : runF 9 g_drawn [.v (stateD now en (houseD R ps sm) P tl)] = .ok (.fz (.str (drawT now en R ps sm P tl))) [.v (stateD now en (houseD R ps sm) P tl)] := by
  have rr := fun i (hi : i < R.length) => room_run ok hi
  have pr := fun i (hi : i < ps.length) => pasn_run ok hi
  have jd := join_draw ok
  have wr := r_step_words ok.ktl (Nat.le_trans ok.ktn (by omega))
  have big := line_big
  have kR := ok.kR
  have kpl := ok.kpl
  have sb := sz_beat ok
  have a1 : pAdd (.str "told ") (.str (wordsT tl)) = some (.fz (.str (toldT tl))) := adds_ok (B := 5) (C := 110) ⟨by decide +kernel, by decide +kernel⟩ (sz_words ok) (by omega)
  have h40 : pIx (houseD R ps sm) (.int 0) = some (.fz (.tuple (dI R))) := rfl
  have h41 : pIx (houseD R ps sm) (.int 1) = some (.fz (.tuple (ps.map pasD))) := rfl
  have ln := len_dI R
  have lp := len_map pasD ps
  have hS : gTupZ 5 (gConsZ (gN 2) (gConsZ (gN 3) (gConsZ (gN 4) (gConsZ (gN 5) (gConsZ (gN 6) gNilZ))))) (stateD now en (houseD R ps sm) P tl) [.vl (stateD now en (houseD R ps sm) P tl), .un, .un, .un, .un, .un, .un, .un, .un] = some (stD (stateD now en (houseD R ps sm) P tl) .un now en (houseD R ps sm) (.tuple (P.map perD)) (.tuple tl)) := rfl
  have kn := ok.know
  have ke := ok.ken
  generalize (stateD now en (houseD R ps sm) P tl) = S at *
  generalize houseD R ps sm = H at *
  generalize PyData.tuple (P.map perD) = PD at *
  suffices body : ∃ ρ', g_drawn [.vl S, .un, .un, .un, .un, .un, .un, .un, .un] = .ok (.rt (.fz (.str (drawT now en R ps sm P tl)))) (.vl S :: ρ') by
    obtain ⟨ρ', body⟩ := body
    rw [runF_eq]
    show endF _ (g_drawn [.vl S, .un, .un, .un, .un, .un, .un, .un, .un]) = _
    rw [body]
    rfl
  refine ⟨[.ow false ((linesT now en R ps sm P tl).map PyData.str), .vl (.int now), .vl (.int en), .vl H, .vl PD, .vl (.tuple tl), .un, .un], ?_⟩
  unfold g_drawn
  refine (seq_nx (asg_ok (va := .fz S) rfl hS)).trans ?_
  refine (seq_nx (set_ok (va := .fo [.str (beatT now en)]) (ρ1 := stD S .un now en H PD (.tuple tl)) (x := .un) ?_ rfl nt_un)).trans ?_
  · have js : oJs [(oC (.str "beat ")), (oFmt (oVar 2)), (oC (.str " of ")), (oFmt (oVar 3))] Str.empty (stD S .un now en H PD (.tuple tl)) = .ok (.fz (.str (beatT now en))) (stD S .un now en H PD (.tuple tl)) := by
      have b1 : Sz 5 ("beat " : Str) := ⟨by decide +kernel, by decide +kernel⟩
      have b2 : Sz 4 (" of " : Str) := ⟨by decide +kernel, by decide +kernel⟩
      have c0 := sz_empty.app b1
      have c1 := c0.app (sz_smN kn)
      have c2 := c1.app b2
      rw [js_cons (f := oC (.str "beat ")) rfl sz_empty b1 (by omega), js_cons (fmt_n rfl kn) c0 (sz_smN kn) (by omega), js_cons (f := oC (.str " of ")) rfl c1 b2 (by omega), js_cons (fmt_n rfl ke) c2 (sz_smN ke) (by omega), js_nil, Str.empty_append]
      rfl
    generalize oJs [(oC (.str "beat ")), (oFmt (oVar 2)), (oC (.str " of ")), (oFmt (oVar 3))] Str.empty = κ at js ⊢
    simp [_root_.Z.runF_eq, _root_.Z.endF_nx, _root_.Z.endF_rt, _root_.Z.entry, _root_.Z.outsOf, _root_.Z.sSeq, _root_.Z.sNil, _root_.Z.sRet, _root_.Z.sRetV, _root_.Z.sSet, _root_.Z.sIf, _root_.Z.sExp, _root_.Z.sAsg, _root_.Z.setV, _root_.Z.oAnd, _root_.Z.oOr, _root_.Z.oNot, _root_.Z.oIte, _root_.Z.oApp, _root_.Z.oAppK, _root_.Z.aCons, _root_.Z.xO, _root_.Z.oVar, _root_.Z.oC, _root_.Z.xVar, _root_.Z.apF, _root_.Z.avOf, _root_.Z.Av.sl, _root_.Z.Va.sl, _root_.Z.odSl, _root_.Z.aft, _root_.Z.setOuts, _root_.Z.boolV, _root_.Z.Va.d, _root_.Z.oChn, _root_.Z.Od.get, _root_.Z.Sl.get, _root_.Z.ap1, _root_.Z.ap2, _root_.Z.f1, _root_.Z.f2, _root_.Z.fL, _root_.Z.fM, _root_.Z.apL, _root_.Z.getAll, _root_.Z.bNot, _root_.Z.bAnd, _root_.Z.bOr, _root_.Z.bX, _root_.Z.bOf, _root_.Z.truth, _root_.Z.oTup, _root_.Z.oLst, _root_.Z.oSeq, _root_.Z.datas, js, sizeLine]
  · have c1 : ∀ {L : Sl}, oComp (iArg iRange1 (aCons (xO (fL pLen (aCons (xO (f2 pIx (xVar 4) (xO (oC (.int 0))))) (fun ρ => .ok [] ρ)))) (fun ρ => .ok [] ρ))) (gN 7) bYes e2_drawn [7] (stD S L now en H PD (.tuple tl)) = .ok (.fo (((List.range' 0 R.length).map (roomT now R sm P)).map PyData.str)) (stD S L now en H PD (.tuple tl)) := fun {L} => by
      have c := comp_map (fi := iArg iRange1 (aCons (xO (fL pLen (aCons (xO (f2 pIx (xVar 4) (xO (oC (.int 0))))) (fun ρ => .ok [] ρ)))) (fun ρ => .ok [] ρ))) (g := gN 7) (elt := e2_drawn) (vs := [7]) (ρ := stD S L now en H PD (.tuple tl)) (ρ0 := stD S L now en H PD (.tuple tl)) (ds := idxs 0 R.length) (fun d => match d with | .int i => .fz (.str (roomT now R sm P i.toNat)) | _ => .fz .none) (iArg_ok (d := .int (R.length : Nat)) (by simp [_root_.Z.runF_eq, _root_.Z.endF_nx, _root_.Z.endF_rt, _root_.Z.entry, _root_.Z.outsOf, _root_.Z.sSeq, _root_.Z.sNil, _root_.Z.sRet, _root_.Z.sRetV, _root_.Z.sSet, _root_.Z.sIf, _root_.Z.sExp, _root_.Z.sAsg, _root_.Z.setV, _root_.Z.oAnd, _root_.Z.oOr, _root_.Z.oNot, _root_.Z.oIte, _root_.Z.oApp, _root_.Z.oAppK, _root_.Z.aCons, _root_.Z.xO, _root_.Z.oVar, _root_.Z.oC, _root_.Z.xVar, _root_.Z.apF, _root_.Z.avOf, _root_.Z.Av.sl, _root_.Z.Va.sl, _root_.Z.odSl, _root_.Z.aft, _root_.Z.setOuts, _root_.Z.boolV, _root_.Z.Va.d, _root_.Z.oChn, _root_.Z.Od.get, _root_.Z.Sl.get, _root_.Z.ap1, _root_.Z.ap2, _root_.Z.f1, _root_.Z.f2, _root_.Z.fL, _root_.Z.fM, _root_.Z.apL, _root_.Z.getAll, _root_.Z.bNot, _root_.Z.bAnd, _root_.Z.bOr, _root_.Z.bX, _root_.Z.bOf, _root_.Z.truth, _root_.Z.oTup, _root_.Z.oLst, _root_.Z.oSeq, _root_.Z.datas, h40, ln]) (rng_idx (by omega))) (fun d hd => by
        obtain ⟨i, _, hi, rfl⟩ := idxs_mem hd
        have e := rr i (by omega)
        refine ⟨[.vl S, L, .vl (.int now), .vl (.int en), .vl H, .vl PD, .vl (.tuple tl), .vl (.int (i : Nat)), .un], [.vl S, L, .vl (.int now), .vl (.int en), .vl H, .vl PD, .vl (.tuple tl), .vl (.int (i : Nat)), .un], rfl, ?_, rfl⟩
        unfold e2_drawn
        simp only [Int.toNat_natCast]
        generalize roomT now R sm P i = X at *
        generalize runF 11 g_room_line = φ at e ⊢
        generalize ((i : Nat) : Int) = J at *
        simp [_root_.Z.runF_eq, _root_.Z.endF_nx, _root_.Z.endF_rt, _root_.Z.entry, _root_.Z.outsOf, _root_.Z.sSeq, _root_.Z.sNil, _root_.Z.sRet, _root_.Z.sRetV, _root_.Z.sSet, _root_.Z.sIf, _root_.Z.sExp, _root_.Z.sAsg, _root_.Z.setV, _root_.Z.oAnd, _root_.Z.oOr, _root_.Z.oNot, _root_.Z.oIte, _root_.Z.oApp, _root_.Z.oAppK, _root_.Z.aCons, _root_.Z.xO, _root_.Z.oVar, _root_.Z.oC, _root_.Z.xVar, _root_.Z.apF, _root_.Z.avOf, _root_.Z.Av.sl, _root_.Z.Va.sl, _root_.Z.odSl, _root_.Z.aft, _root_.Z.setOuts, _root_.Z.boolV, _root_.Z.Va.d, _root_.Z.oChn, _root_.Z.Od.get, _root_.Z.Sl.get, _root_.Z.ap1, _root_.Z.ap2, _root_.Z.f1, _root_.Z.f2, _root_.Z.fL, _root_.Z.fM, _root_.Z.apL, _root_.Z.getAll, _root_.Z.bNot, _root_.Z.bAnd, _root_.Z.bOr, _root_.Z.bX, _root_.Z.bOf, _root_.Z.truth, _root_.Z.oTup, _root_.Z.oLst, _root_.Z.oSeq, _root_.Z.datas, e]) (by rw [idxs_len]; omega)
      rw [idxs_map] at c
      exact c.trans (congrArg (fun z => Rz.ok (Va.fo z) _) (map_str _ _))
    have c2 : ∀ {L : Sl}, oComp (iArg iRange1 (aCons (xO (fL pLen (aCons (xO (f2 pIx (xVar 4) (xO (oC (.int 1))))) (fun ρ => .ok [] ρ)))) (fun ρ => .ok [] ρ))) (gN 8) bYes e1_drawn [8] (stD S L now en H PD (.tuple tl)) = .ok (.fo (((List.range' 0 ps.length).map (pasnT now ps)).map PyData.str)) (stD S L now en H PD (.tuple tl)) := fun {L} => by
      have c := comp_map (fi := iArg iRange1 (aCons (xO (fL pLen (aCons (xO (f2 pIx (xVar 4) (xO (oC (.int 1))))) (fun ρ => .ok [] ρ)))) (fun ρ => .ok [] ρ))) (g := gN 8) (elt := e1_drawn) (vs := [8]) (ρ := stD S L now en H PD (.tuple tl)) (ρ0 := stD S L now en H PD (.tuple tl)) (ds := idxs 0 ps.length) (fun d => match d with | .int i => .fz (.str (pasnT now ps i.toNat)) | _ => .fz .none) (iArg_ok (d := .int (ps.length : Nat)) (by simp [_root_.Z.runF_eq, _root_.Z.endF_nx, _root_.Z.endF_rt, _root_.Z.entry, _root_.Z.outsOf, _root_.Z.sSeq, _root_.Z.sNil, _root_.Z.sRet, _root_.Z.sRetV, _root_.Z.sSet, _root_.Z.sIf, _root_.Z.sExp, _root_.Z.sAsg, _root_.Z.setV, _root_.Z.oAnd, _root_.Z.oOr, _root_.Z.oNot, _root_.Z.oIte, _root_.Z.oApp, _root_.Z.oAppK, _root_.Z.aCons, _root_.Z.xO, _root_.Z.oVar, _root_.Z.oC, _root_.Z.xVar, _root_.Z.apF, _root_.Z.avOf, _root_.Z.Av.sl, _root_.Z.Va.sl, _root_.Z.odSl, _root_.Z.aft, _root_.Z.setOuts, _root_.Z.boolV, _root_.Z.Va.d, _root_.Z.oChn, _root_.Z.Od.get, _root_.Z.Sl.get, _root_.Z.ap1, _root_.Z.ap2, _root_.Z.f1, _root_.Z.f2, _root_.Z.fL, _root_.Z.fM, _root_.Z.apL, _root_.Z.getAll, _root_.Z.bNot, _root_.Z.bAnd, _root_.Z.bOr, _root_.Z.bX, _root_.Z.bOf, _root_.Z.truth, _root_.Z.oTup, _root_.Z.oLst, _root_.Z.oSeq, _root_.Z.datas, h41, lp]) (rng_idx (by omega))) (fun d hd => by
        obtain ⟨i, _, hi, rfl⟩ := idxs_mem hd
        have e := pr i (by omega)
        refine ⟨[.vl S, L, .vl (.int now), .vl (.int en), .vl H, .vl PD, .vl (.tuple tl), .un, .vl (.int (i : Nat))], [.vl S, L, .vl (.int now), .vl (.int en), .vl H, .vl PD, .vl (.tuple tl), .un, .vl (.int (i : Nat))], rfl, ?_, rfl⟩
        unfold e1_drawn
        simp only [Int.toNat_natCast]
        generalize pasnT now ps i = X at *
        generalize runF 8 g_passage_now = φ at e ⊢
        generalize ((i : Nat) : Int) = J at *
        simp [_root_.Z.runF_eq, _root_.Z.endF_nx, _root_.Z.endF_rt, _root_.Z.entry, _root_.Z.outsOf, _root_.Z.sSeq, _root_.Z.sNil, _root_.Z.sRet, _root_.Z.sRetV, _root_.Z.sSet, _root_.Z.sIf, _root_.Z.sExp, _root_.Z.sAsg, _root_.Z.setV, _root_.Z.oAnd, _root_.Z.oOr, _root_.Z.oNot, _root_.Z.oIte, _root_.Z.oApp, _root_.Z.oAppK, _root_.Z.aCons, _root_.Z.xO, _root_.Z.oVar, _root_.Z.oC, _root_.Z.xVar, _root_.Z.apF, _root_.Z.avOf, _root_.Z.Av.sl, _root_.Z.Va.sl, _root_.Z.odSl, _root_.Z.aft, _root_.Z.setOuts, _root_.Z.boolV, _root_.Z.Va.d, _root_.Z.oChn, _root_.Z.Od.get, _root_.Z.Sl.get, _root_.Z.ap1, _root_.Z.ap2, _root_.Z.f1, _root_.Z.f2, _root_.Z.fL, _root_.Z.fM, _root_.Z.apL, _root_.Z.getAll, _root_.Z.bNot, _root_.Z.bAnd, _root_.Z.bOr, _root_.Z.bX, _root_.Z.bOf, _root_.Z.truth, _root_.Z.oTup, _root_.Z.oLst, _root_.Z.oSeq, _root_.Z.datas, e]) (by rw [idxs_len]; omega)
      rw [idxs_map] at c
      exact c.trans (congrArg (fun z => Rz.ok (Va.fo z) _) (map_str _ _))
    refine (seq_nx (ext_ok (p := false) (q := false) rfl c1 rfl rfl (by simp only [List.length_map, List.length_range', List.length_cons, List.length_nil]; omega))).trans ?_
    refine (seq_nx (ext_ok (p := false) (q := false) (ds := [.str (beatT now en)] ++ ((List.range' 0 R.length).map (roomT now R sm P)).map PyData.str) rfl c2 rfl rfl (by simp only [List.length_append, List.length_map, List.length_range', List.length_cons, List.length_nil]; omega))).trans ?_
    refine (seq_nx (app_ok (p := false) (q := false) (va := .fz (.str (toldT tl))) (ρ1 := stD S (.ow false (([.str (beatT now en)] ++ ((List.range' 0 R.length).map (roomT now R sm P)).map PyData.str) ++ ((List.range' 0 ps.length).map (pasnT now ps)).map PyData.str)) now en H PD (.tuple tl)) (ds := ([.str (beatT now en)] ++ ((List.range' 0 R.length).map (roomT now R sm P)).map PyData.str) ++ ((List.range' 0 ps.length).map (pasnT now ps)).map PyData.str) rfl ?_ rfl (by simp only [List.length_append, List.length_map, List.length_range', List.length_cons, List.length_nil]; omega))).trans ?_
    · generalize runF 2 g_step_words = φ at wr ⊢
      generalize PyData.tuple tl = tD at *
      generalize wordsT tl = w at *
      simp [_root_.Z.runF_eq, _root_.Z.endF_nx, _root_.Z.endF_rt, _root_.Z.entry, _root_.Z.outsOf, _root_.Z.sSeq, _root_.Z.sNil, _root_.Z.sRet, _root_.Z.sRetV, _root_.Z.sSet, _root_.Z.sIf, _root_.Z.sExp, _root_.Z.sAsg, _root_.Z.setV, _root_.Z.oAnd, _root_.Z.oOr, _root_.Z.oNot, _root_.Z.oIte, _root_.Z.oApp, _root_.Z.oAppK, _root_.Z.aCons, _root_.Z.xO, _root_.Z.oVar, _root_.Z.oC, _root_.Z.xVar, _root_.Z.apF, _root_.Z.avOf, _root_.Z.Av.sl, _root_.Z.Va.sl, _root_.Z.odSl, _root_.Z.aft, _root_.Z.setOuts, _root_.Z.boolV, _root_.Z.Va.d, _root_.Z.oChn, _root_.Z.Od.get, _root_.Z.Sl.get, _root_.Z.ap1, _root_.Z.ap2, _root_.Z.f1, _root_.Z.f2, _root_.Z.fL, _root_.Z.fM, _root_.Z.apL, _root_.Z.getAll, _root_.Z.bNot, _root_.Z.bAnd, _root_.Z.bOr, _root_.Z.bX, _root_.Z.bOf, _root_.Z.truth, _root_.Z.oTup, _root_.Z.oLst, _root_.Z.oSeq, _root_.Z.datas, wr, a1]
    · have e : (([.str (beatT now en)] ++ ((List.range' 0 R.length).map (roomT now R sm P)).map PyData.str) ++ ((List.range' 0 ps.length).map (pasnT now ps)).map PyData.str) ++ [PyData.str (toldT tl)] = (linesT now en R ps sm P tl).map PyData.str := by
        unfold linesT
        simp only [List.map_append, List.map_cons, List.map_nil]
      refine seq_rt (ρ1 := stD S (.ow false ((linesT now en R ps sm P tl).map PyData.str)) now en H PD (.tuple tl)) (ret_ok ?_)
      rw [← e] at jd ⊢
      show oJoin (xO (oC (.str "\n"))) (xVar 1) (stD S (.ow false ((([PyData.str (beatT now en)] ++ ((List.range' 0 R.length).map (roomT now R sm P)).map PyData.str) ++ ((List.range' 0 ps.length).map (pasnT now ps)).map PyData.str) ++ [PyData.str (toldT tl)])) now en H PD (.tuple tl)) = _
      generalize (([PyData.str (beatT now en)] ++ ((List.range' 0 R.length).map (roomT now R sm P)).map PyData.str) ++ ((List.range' 0 ps.length).map (pasnT now ps)).map PyData.str) ++ [PyData.str (toldT tl)] = LL at *
      simp [_root_.Z.runF_eq, _root_.Z.endF_nx, _root_.Z.endF_rt, _root_.Z.entry, _root_.Z.outsOf, _root_.Z.sSeq, _root_.Z.sNil, _root_.Z.sRet, _root_.Z.sRetV, _root_.Z.sSet, _root_.Z.sIf, _root_.Z.sExp, _root_.Z.sAsg, _root_.Z.setV, _root_.Z.oAnd, _root_.Z.oOr, _root_.Z.oNot, _root_.Z.oIte, _root_.Z.oApp, _root_.Z.oAppK, _root_.Z.aCons, _root_.Z.xO, _root_.Z.oVar, _root_.Z.oC, _root_.Z.xVar, _root_.Z.apF, _root_.Z.avOf, _root_.Z.Av.sl, _root_.Z.Va.sl, _root_.Z.odSl, _root_.Z.aft, _root_.Z.setOuts, _root_.Z.boolV, _root_.Z.Va.d, _root_.Z.oChn, _root_.Z.Od.get, _root_.Z.Sl.get, _root_.Z.ap1, _root_.Z.ap2, _root_.Z.f1, _root_.Z.f2, _root_.Z.fL, _root_.Z.fM, _root_.Z.apL, _root_.Z.getAll, _root_.Z.bNot, _root_.Z.bAnd, _root_.Z.bOr, _root_.Z.bX, _root_.Z.bOf, _root_.Z.truth, _root_.Z.oTup, _root_.Z.oLst, _root_.Z.oSeq, _root_.Z.datas, oJoin, isStr, jd]
end
end ZH

namespace ZH
open PySem PySem.Spec PyProof.Rows L2 Z
theorem par3_ok {i j l : Nat} {fa fb fc : En → Rz Va} {ρ ρ1 ρ2 ρ3 : En} {va vb vc : Va} {x y z : Sl} (ha : fa ρ = .ok va ρ1) (hb : fb ρ1 = .ok vb ρ2) (hc : fc ρ2 = .ok vc ρ3) (hi : ρ3[i]? = some x) (nx : NT x) (hj : (ρ3.set i va.sl)[j]? = some y) (ny : NT y) (hl : ((ρ3.set i va.sl).set j vb.sl)[l]? = some z) (nz : NT z) :
    sPar3 i j l fa fb fc ρ = .ok .nx (((ρ3.set i va.sl).set j vb.sl).set l vc.sl) := by
  unfold sPar3
  rw [ha]; simp only [Rz.bind_ok]
  rw [hb]; simp only [Rz.bind_ok]
  rw [hc]; simp only [Rz.bind_ok]
  rw [setV_ok hi nx]; simp only [Rz.of_some, Rz.bind_ok]
  rw [setV_ok hj ny]; simp only [Rz.of_some, Rz.bind_ok]
  rw [setV_ok hl nz]; rfl
theorem par_ok {i j : Nat} {fa fb : En → Rz Va} {ρ ρ1 ρ2 : En} {va vb : Va} {x y : Sl} (ha : fa ρ = .ok va ρ1) (hb : fb ρ1 = .ok vb ρ2) (hi : ρ2[i]? = some x) (nx : NT x) (hj : (ρ2.set i va.sl)[j]? = some y) (ny : NT y) :
    sPar i j fa fb ρ = .ok .nx ((ρ2.set i va.sl).set j vb.sl) := by
  unfold sPar
  rw [ha]; simp only [Rz.bind_ok]
  rw [hb]; simp only [Rz.bind_ok]
  rw [setV_ok hi nx]; simp only [Rz.of_some, Rz.bind_ok]
  rw [setV_ok hj ny]; rfl
theorem gcons_ok {g : D → En → Option En} {gs : List D → En → Option En} {d : D} {ds : List D} {ρ ρ1 ρ2 : En} (h : g d ρ = some ρ1) (t : gs ds ρ1 = some ρ2) : gConsZ g gs (d :: ds) ρ = some ρ2 := by
  show (g d ρ).bind _ = _
  rw [h]; exact t
theorem gtup_ok {n : Nat} {gs : List D → En → Option En} {ds : List D} {ρ ρ2 : En} (t : gs ds ρ = some ρ2) (hl : ds.length = n) : gTupZ n gs (.tuple ds) ρ = some ρ2 := (if_pos hl).trans t
/-! ### the law's lines -/
abbrev sL (S : D) (LN x2 x3 : Sl) (now en : Int) (H PD tD : D) (x9 x10 x11 x12 x13 x14 x15 x16 x17 x18 x19 x20 x21 x22 x23 : Sl) : En := [.vl S, LN, x2, x3, .vl (.int now), .vl (.int en), .vl H, .vl PD, .vl tD, x9, x10, x11, x12, x13, x14, x15, x16, x17, x18, x19, x20, x21, x22, x23]
def strD (u : Int) : D := .str (tx u)
theorem per_cases {now r : Int} {n : Nat} {x : Per} (h : PerOk now n x) : (decide (x.p = r) && decide (x.w = "lost")) = tL r x ∧ (tL r x = false → (decide (x.p = r) && decide (x.b ≤ now)) = tU now r x) ∧ (tL r x = false → tU now r x = false → decide (x.p = r) = tC now r x) ∧ (tL r x = true → tU now r x = false ∧ tC now r x = false) ∧ (tU now r x = true → tC now r x = false) := by
  obtain ⟨_, _, _, hw⟩ := h
  have d1 : ¬ (("out" : Str) = "lost") := by decide +kernel
  have d2 : ¬ (("here" : Str) = "lost") := by decide +kernel
  have d3 : ¬ (("out" : Str) = "here") := by decide +kernel
  have d4 : ¬ (("lost" : Str) = "out") := by decide +kernel
  have d5 : ¬ (("lost" : Str) = "here") := by decide +kernel
  have d6 : ¬ (("here" : Str) = "out") := by decide +kernel
  unfold tL tU tC
  rcases hw with e | ⟨e, hb⟩ | ⟨e, hb⟩
  · rw [e]
    by_cases hp : x.p = r <;> simp [hp, d4, d5]
  · rw [e]
    by_cases hp : x.p = r <;> simp [hp, d1, d3, hb]
  · rw [e]
    by_cases hp : x.p = r <;> by_cases hq : x.b = now
    · simp [hp, d2, d6, hq]
    · have : ¬ x.b ≤ now := by omega
      have : now < x.b := by omega
      simp [hp, d2, d6, hq, *]
    · simp [hp, d2, d6, hq]
    · simp [hp, d2, d6, hq]
section
variable {S : D} {LN x3 : Sl} {now en r : Int} {H PD tD : D} {x9 x10 x18 x19 x20 x21 x22 x23 : Sl} {n : Nat}
theorem l4_ok {TH CM : List D} {k : Int} {x : Per} (h : PerOk now n x) (h1 : TH.length < 1000) (h2 : CM.length < 1000) :
    l4__law_drawn (sL S LN (.vl (.int r)) x3 now en H PD tD x9 x10 (.vl (.str x.w)) (.ow false TH) (.ow false CM) (.vl (.int k)) (.vl (.int x.p)) (.vl (.int x.b)) (.vl (.int x.u)) x18 x19 x20 x21 x22 x23) =
    .ok .nx (sL S LN (.vl (.int r)) x3 now en H PD tD x9 x10 (.vl (.str x.w)) (.ow false (if tU now r x = true then TH ++ [strD x.u] else TH)) (.ow false (if tC now r x = true then CM ++ [pairD (x.b, x.u)] else CM)) (.vl (.int (if tL r x = true then k + 1 else k))) (.vl (.int x.p)) (.vl (.int x.b)) (.vl (.int x.u)) x18 x19 x20 x21 x22 x23) := by
  obtain ⟨e1, e2, e3, e4, e5⟩ := per_cases (r := r) h
  have k1 := eq_int x.p r
  have k2 := eq_strs x.w "lost"
  have k3 : (pCmp fun i j => decide (i ≤ j)) (.int x.b) (.int now) = some (.fz (.bool (decide (x.b ≤ now)))) := rfl
  have st : pStr [.int x.u] = some (.fz (strD x.u)) := str_ok h.2.2.1.1 (by have := h.2.2.1.2; omega)
  have big : (1000 : Nat) ≤ 16777216 := by decide
  have h1' : TH.length < 16777216 := by omega
  have h2' : CM.length < 16777216 := by omega
  have pd : pairD (x.b, x.u) = .tuple [.int x.b, .int x.u] := rfl
  unfold l4__law_drawn
  rw [pd]
  generalize strD x.u = sd at *
  generalize tU now r x = q1 at *
  generalize tC now r x = q2 at *
  generalize tL r x = q3 at *
  generalize decide (x.p = r) = b1 at *
  generalize decide (x.w = "lost") = b2 at *
  generalize decide (x.b ≤ now) = b3 at *
  generalize (pCmp fun i j => decide (i ≤ j)) = κ at *
  generalize x.p = p at *
  generalize x.b = b at *
  generalize x.u = u at *
  generalize x.w = w at *
  subst e1
  cases b1 <;> cases b2 <;> cases b3 <;> simp at e2 e3 e4 e5 <;> simp only [*] <;> simp [_root_.Z.runF_eq, _root_.Z.endF_nx, _root_.Z.endF_rt, _root_.Z.entry, _root_.Z.outsOf, _root_.Z.sSeq, _root_.Z.sNil, _root_.Z.sRet, _root_.Z.sRetV, _root_.Z.sSet, _root_.Z.sIf, _root_.Z.sExp, _root_.Z.sAsg, _root_.Z.setV, _root_.Z.oAnd, _root_.Z.oOr, _root_.Z.oNot, _root_.Z.oIte, _root_.Z.oApp, _root_.Z.oAppK, _root_.Z.aCons, _root_.Z.xO, _root_.Z.oVar, _root_.Z.oC, _root_.Z.xVar, _root_.Z.apF, _root_.Z.avOf, _root_.Z.Av.sl, _root_.Z.Va.sl, _root_.Z.odSl, _root_.Z.aft, _root_.Z.setOuts, _root_.Z.boolV, _root_.Z.Va.d, _root_.Z.oChn, _root_.Z.Od.get, _root_.Z.Sl.get, _root_.Z.ap1, _root_.Z.ap2, _root_.Z.f1, _root_.Z.f2, _root_.Z.fL, _root_.Z.fM, _root_.Z.apL, _root_.Z.getAll, _root_.Z.bNot, _root_.Z.bAnd, _root_.Z.bOr, _root_.Z.bX, _root_.Z.bOf, _root_.Z.truth, _root_.Z.oTup, _root_.Z.oLst, _root_.Z.oSeq, _root_.Z.datas, k1, k2, k3, st, sApp, isOw, appAt, h1', h2', pAdd, sizeLine]
end
end ZH

namespace ZH
open PySem PySem.Spec PyProof.Rows L2 Z
theorem us_cons (now r : Int) (x : Per) (P : List Per) : usOf now r (x :: P) = if tU now r x = true then x.u :: usOf now r P else usOf now r P := by
  unfold usOf
  by_cases h : tU now r x = true
  · rw [if_pos h, List.filter_cons_of_pos h]; rfl
  · rw [if_neg h, List.filter_cons_of_neg h]
theorem cs_cons (now r : Int) (x : Per) (P : List Per) : csOf now r (x :: P) = if tC now r x = true then (x.b, x.u) :: csOf now r P else csOf now r P := by
  unfold csOf
  by_cases h : tC now r x = true
  · rw [if_pos h, List.filter_cons_of_pos h]; rfl
  · rw [if_neg h, List.filter_cons_of_neg h]
theorem lost_cons (r : Int) (x : Per) (P : List Per) : lostOf r (x :: P) = if tL r x = true then lostOf r P + 1 else lostOf r P := by
  unfold lostOf
  by_cases h : tL r x = true
  · rw [if_pos h, List.filter_cons_of_pos h]; rfl
  · rw [if_neg h, List.filter_cons_of_neg h]
section
variable {S : D} {LN x3 : Sl} {now en r : Int} {H PD tD : D} {x9 x10 x18 x19 x20 x21 x22 x23 : Sl} {n : Nat}
theorem l4_loop : ∀ (P : List Per) (TH CM : List D) (k : Int) (x11 x15 x16 x17 : Sl), (∀ x ∈ P, PerOk now n x) → NT x11 → NT x15 → NT x16 → NT x17 → TH.length + P.length < 1000 → CM.length + P.length < 1000 → ∃ y11 y15 y16 y17, (NT y11 ∧ NT y15 ∧ NT y16 ∧ NT y17) ∧
    loop (gTupZ 4 (gConsZ (gN 11) (gConsZ (gN 15) (gConsZ (gN 16) (gConsZ (gN 17) gNilZ))))) l4__law_drawn (P.map perD) (sL S LN (.vl (.int r)) x3 now en H PD tD x9 x10 x11 (.ow false TH) (.ow false CM) (.vl (.int k)) x15 x16 x17 x18 x19 x20 x21 x22 x23) =
    .ok .nx (sL S LN (.vl (.int r)) x3 now en H PD tD x9 x10 y11 (.ow false (TH ++ (usOf now r P).map strD)) (.ow false (CM ++ (csOf now r P).map pairD)) (.vl (.int (k + (lostOf r P : Nat)))) y15 y16 y17 x18 x19 x20 x21 x22 x23)
  | [], TH, CM, k, x11, x15, x16, x17, _, n1, n2, n3, n4, _, _ => ⟨x11, x15, x16, x17, ⟨n1, n2, n3, n4⟩, by
      have e1 : usOf now r [] = [] := rfl
      have e2 : csOf now r [] = [] := rfl
      have e3 : lostOf r [] = 0 := rfl
      rw [e1, e2, e3]
      show Rz.ok Fl.nx _ = _
      simp⟩
  | x :: P, TH, CM, k, x11, x15, x16, x17, h, n1, n2, n3, n4, l1, l2 => by
    rw [List.length_cons] at l1 l2
    have hx := h x List.mem_cons_self
    obtain ⟨y11, y15, y16, y17, ny, q⟩ := l4_loop P (if tU now r x = true then TH ++ [strD x.u] else TH) (if tC now r x = true then CM ++ [pairD (x.b, x.u)] else CM) (if tL r x = true then k + 1 else k) (.vl (.str x.w)) (.vl (.int x.p)) (.vl (.int x.b)) (.vl (.int x.u)) (fun y hy => h y (List.mem_cons_of_mem _ hy)) nt_vl nt_vl nt_vl nt_vl
      (by split <;> first | (simp only [List.length_append, List.length_singleton]; omega) | omega) (by split <;> first | (simp only [List.length_append, List.length_singleton]; omega) | omega)
    refine ⟨y11, y15, y16, y17, ny, ?_⟩
    have g1 : gTupZ 4 (gConsZ (gN 11) (gConsZ (gN 15) (gConsZ (gN 16) (gConsZ (gN 17) gNilZ)))) (perD x) (sL S LN (.vl (.int r)) x3 now en H PD tD x9 x10 x11 (.ow false TH) (.ow false CM) (.vl (.int k)) x15 x16 x17 x18 x19 x20 x21 x22 x23) = some (sL S LN (.vl (.int r)) x3 now en H PD tD x9 x10 (.vl (.str x.w)) (.ow false TH) (.ow false CM) (.vl (.int k)) (.vl (.int x.p)) (.vl (.int x.b)) (.vl (.int x.u)) x18 x19 x20 x21 x22 x23) :=
      gtup_ok (gcons_ok (gN_ok (x := x11) rfl n1) (gcons_ok (gN_ok (x := x15) rfl n2) (gcons_ok (gN_ok (x := x16) rfl n3) (gcons_ok (gN_ok (x := x17) rfl n4) rfl)))) rfl
    rw [List.map_cons, loop_nx g1 (l4_ok hx (by omega) (by omega)), q, us_cons, cs_cons, lost_cons]
    have e1 : (if tU now r x = true then TH ++ [strD x.u] else TH) ++ (usOf now r P).map strD = TH ++ (if tU now r x = true then x.u :: usOf now r P else usOf now r P).map strD := by
      split
      · rw [List.map_cons, List.append_assoc]; rfl
      · rfl
    have e2 : (if tC now r x = true then CM ++ [pairD (x.b, x.u)] else CM) ++ (csOf now r P).map pairD = CM ++ (if tC now r x = true then (x.b, x.u) :: csOf now r P else csOf now r P).map pairD := by
      split
      · rw [List.map_cons, List.append_assoc]; rfl
      · rfl
    have e3 : (if tL r x = true then k + 1 else k) + (lostOf r P : Nat) = k + ((if tL r x = true then lostOf r P + 1 else lostOf r P : Nat) : Int) := by
      split <;> omega
    rw [e1, e2, e3]
end
/-! ### sorted signs -/
theorem dataLe_dig {a b : Int} (ha : dig a) (hb : dig b) : W.dataLe false id (.int a) (.int b) = W.dataLe false id (strD a) (strD b) := by
  obtain ⟨a0, a1⟩ := ha
  obtain ⟨b0, b1⟩ := hb
  obtain ⟨m, rfl⟩ := Int.eq_ofNat_of_zero_le a0
  obtain ⟨k, rfl⟩ := Int.eq_ofNat_of_zero_le b0
  have key : ∀ m k : Fin 10, W.dataLe false id (.int ((m : Nat) : Int)) (.int ((k : Nat) : Int)) = W.dataLe false id (strD ((m : Nat) : Int)) (strD ((k : Nat) : Int)) := by decide +kernel
  exact key ⟨m, by omega⟩ ⟨k, by omega⟩
theorem nT_str : ∀ {us : List Int}, ((dI us).map fun d => PyData.str (nT d)) = us.map strD
  | [] => rfl
  | u :: us => congrArg (strD u :: ·) (nT_str (us := us))
theorem sort_strs {us : List Int} (h : ∀ u ∈ us, dig u) : sortD (us.map strD) = ((sortD (dI us)).map nT).map PyData.str := by
  rw [← map_str, ← nT_str]
  exact (sortD_map (f := fun d => PyData.str (nT d)) fun a ha b hb => by
    obtain ⟨i, hi, rfl⟩ := mem_dI ha
    obtain ⟨j, hj, rfl⟩ := mem_dI hb
    exact dataLe_dig (h i hi) (h j hj)).symm
theorem canLay_strD : ∀ us : List Int, PyData.canLayAll0 (us.map strD) = true
  | [] => rfl
  | u :: us => by
    show (PyData.canLay0 (strD u) && PyData.canLayAll0 (us.map strD)) = true
    rw [canLay_strD us, show PyData.canLay0 (strD u) = true from sok_tx u]
    rfl
theorem depth_strD : ∀ us : List Int, PyData.depthAll (us.map strD) = 0
  | [] => rfl
  | u :: us => by
    show max (PyData.depth (strD u)) (PyData.depthAll (us.map strD)) = 0
    rw [depth_strD us]; rfl
theorem sorted_strD {us : List Int} (h : ∀ u ∈ us, dig u) : pSorted [.list (us.map strD)] = some (.fo (((sortD (dI us)).map nT).map PyData.str)) := by
  have h1 : alikeB (us.map strD) = true := List.all_eq_true.mpr fun d hd => List.all_eq_true.mpr fun e he => by
    obtain ⟨i, _, rfl⟩ := List.mem_map.mp hd
    obtain ⟨j, _, rfl⟩ := List.mem_map.mp he
    rfl
  have h2 : sortB (us.map strD) = true := Bool.or_eq_true_iff.mpr (.inr (List.all_eq_true.mpr fun d hd => by
    obtain ⟨i, _, rfl⟩ := List.mem_map.mp hd
    rfl))
  have h3 : deepB (us.map strD) = true := List.all_eq_true.mpr fun d hd => by
    obtain ⟨i, _, rfl⟩ := List.mem_map.mp hd
    rfl
  rw [← sort_strs h]
  exact if_pos ⟨h1, h2, h3, canLay_strD us⟩
theorem shaped_strD (us : List Int) : SeqAt.shaped (.list (us.map strD)) = true := by
  unfold SeqAt.shaped
  rw [show PyData.canLay0 (.list (us.map strD)) = PyData.canLayAll0 (us.map strD) by simp [PyData.canLay0], canLay_strD, show PyData.depth (.list (us.map strD)) = PyData.depthAll (us.map strD) + 1 by simp [PyData.depth], depth_strD]
  rfl
theorem ne_nil_strD (us : List Int) : pNeZ (.list (us.map strD)) (.list []) = some (.fz (.bool (!us.isEmpty))) := by
  show (if _ then _ else _) = _
  rw [if_pos ⟨shaped_strD us, rfl⟩, eqv_nil]
  cases us <;> rfl
theorem len_pos {n : Int} (h : 0 ≤ n) : 1 ≤ (tx n).length := PySem.W.KLn.one_le h
theorem le_sum : ∀ {l : List Nat} {a : Nat}, a ∈ l → a ≤ l.sum
  | b :: l, a, h => by
    rw [List.sum_cons]
    rcases List.mem_cons.mp h with rfl | h
    · omega
    · have := le_sum h; omega
theorem thT_len {us : List Int} (h : ∀ u ∈ us, dig u) : (thT us).length = 0 ↔ us.isEmpty = true := by
  constructor
  · intro e
    cases us with
    | nil => rfl
    | cons u us =>
      have q := len_join_ge_sum "" ((sortD (dI (u :: us))).map nT)
      have z : (thT (u :: us)).length = 0 := e
      unfold thT at z
      have m : PyData.int u ∈ sortD (dI (u :: us)) := sortD_mem.mpr List.mem_cons_self
      have m2 : (tx u).length ∈ ((sortD (dI (u :: us))).map nT).map (·.length) := List.mem_map.mpr ⟨_, List.mem_map.mpr ⟨_, m, rfl⟩, rfl⟩
      have m3 := le_sum m2
      have m4 := len_pos (h u List.mem_cons_self).1
      omega
  · intro e
    rw [List.isEmpty_iff] at e
    subst e
    decide +kernel
theorem empty_iff (x : Str) : x.length = 0 ↔ x = "" := by
  constructor
  · intro h
    refine Str.ext' ?_
    have : x.cps.size = 0 := h
    rw [Array.size_eq_zero_iff.mp this]
    decide +kernel
  · rintro rfl
    decide +kernel
end ZH

namespace ZH
open PySem PySem.Spec PyProof.Rows L2 Z
section
variable {now en : Int} {R : List Int} {ps : List Pas} {sm : List D} {P : List Per} {tl : List D} (ok : StOk now en R ps sm P tl)
include ok
/-- one room's line, as the law draws it -/
theorem l5_ok {i : Nat} (hi : i < R.length) {LS : List D} (hl : LS.length < 1000) {S : D} {x3 x9 x10 x11 x12 x13 x14 x15 x16 x17 x18 x19 x20 x21 x22 x23 : Sl} (n9 : NT x9) (n10 : NT x10) (n11 : NT x11) (n12 : NT x12) (n13 : NT x13) (n14 : NT x14) (n15 : NT x15) (n16 : NT x16) (n17 : NT x17) :
    ∃ y9 y10 y11 y12 y13 y14 y15 y16 y17, (NT y9 ∧ NT y10 ∧ NT y11 ∧ NT y12 ∧ NT y13 ∧ NT y14 ∧ NT y15 ∧ NT y16 ∧ NT y17) ∧
    l5__law_drawn (sL S (.ow false LS) (.vl (.int (i : Nat))) x3 now en (houseD R ps sm) (.tuple (P.map perD)) (.tuple tl) x9 x10 x11 x12 x13 x14 x15 x16 x17 x18 x19 x20 x21 x22 x23) =
    .ok .nx (sL S (.ow false (LS ++ [.str (roomT now R sm P i)])) (.vl (.int (i : Nat))) x3 now en (houseD R ps sm) (.tuple (P.map perD)) (.tuple tl) y9 y10 y11 y12 y13 y14 y15 y16 y17 x18 x19 x20 x21 x22 x23) := by
  have kR := ok.kR
  have kP := ok.kPl
  have hs : i < sm.length := by rw [ok.ksl]; exact hi
  have us := us_ok (r := (i : Nat)) ok.kP
  have cs := cs_ok (r := (i : Nat)) ok.kP
  have ul : (usOf now (i : Nat) P).length ≤ 100 := Nat.le_trans us_len (by omega)
  have cl : (csOf now (i : Nat) P).length ≤ 100 := Nat.le_trans cs_len (by omega)
  have ll : lostOf (i : Nat) P ≤ 100 := Nat.le_trans lost_len (by omega)
  obtain ⟨y11, y15, y16, y17, ⟨m11, m15, m16, m17⟩, lp⟩ := l4_loop (S := S) (LN := .ow false LS) (x3 := x3) (now := now) (en := en) (r := (i : Nat)) (H := houseD R ps sm) (PD := .tuple (P.map perD)) (tD := .tuple tl) (x9 := .vl (.str (sgT (R[i]?.getD 0) (sm[i]?.getD .none) now))) (x10 := x10) (x18 := x18) (x19 := x19) (x20 := x20) (x21 := x21) (x22 := x22) (x23 := x23) P [] [] 0 x11 x15 x16 x17 ok.kP n11 n15 n16 n17 (by simp; omega) (by simp; omega)
  refine ⟨.vl (.str (sgT (R[i]?.getD 0) (sm[i]?.getD .none) now)), .vl (.str (cmT (csOf now (i : Nat) P))), y11, .ow false ((usOf now (i : Nat) P).map strD), .ow false ((csOf now (i : Nat) P).map pairD), .vl (.int (lostOf (i : Nat) P : Nat)), y15, y16, y17, ⟨nt_vl, nt_vl, m11, nt_ow, nt_ow, nt_vl, m15, m16, m17⟩, ?_⟩
  have h60 : pIx (houseD R ps sm) (.int 0) = some (.fz (.tuple (dI R))) := rfl
  have hR : pIx (.tuple (dI R)) (.int (i : Nat)) = some (.fz (.int (R[i]?.getD 0))) := at_tup (by unfold dI; rw [List.getElem?_map, List.getElem?_eq_getElem hi]; rfl)
  have cr := r_clear (a := .tuple (dI R)) (b := .tuple (ps.map pasD)) (now := now) (show sm[i]? = some (sm[i]?.getD .none) by rw [List.getElem?_eq_getElem hs]; rfl) (by rw [List.getElem?_eq_getElem hs]; exact ok.ksm _ (List.getElem_mem hs))
  have jl := join_line (r := i) (k := R[i]?.getD 0) (d := sm[i]?.getD .none) (now := now) (by omega) us cs ul cl ll
  have j1 : pJoin (.str "") (.list (((sortD (dI (usOf now (i : Nat) P))).map nT).map PyData.str)) = some (.fz (.str (thT (usOf now (i : Nat) P)))) := join_ok sz_sep0 (sz_nT us) (by rw [List.length_map, sortD_len, dI_len]; omega)
  have j2 : pJoin (.str ",") (.list (((sortD ((csOf now (i : Nat) P).map pairD)).map pT).map PyData.str)) = some (.fz (.str (cmT (csOf now (i : Nat) P)))) := join_ok sz_com (sz_pT cs) (by rw [List.length_map, sortD_len, List.length_map]; omega)
  have t1 := str_ok (n := (i : Nat)) (by omega) (by omega)
  have t2 := str_ok (n := (lostOf (i : Nat) P : Nat)) (by omega) (by omega)
  have so := sorted_strD us
  have nn := ne_nil_strD (usOf now (i : Nat) P)
  have sp := sort_pairs (csOf now (i : Nat) P)
  have tl0 := thT_len us
  have cl0 := empty_iff (cmT (csOf now (i : Nat) P))
  have ne := ne_strs (cmT (csOf now (i : Nat) P)) ""
  have big : (1000 : Nat) ≤ 16777216 := by decide
  unfold l5__law_drawn
  refine (seq_nx (set_ok (va := .fz (.str (sgT (R[i]?.getD 0) (sm[i]?.getD .none) now))) (ρ1 := sL S (.ow false LS) (.vl (.int (i : Nat))) x3 now en (houseD R ps sm) (.tuple (P.map perD)) (.tuple tl) x9 x10 x11 x12 x13 x14 x15 x16 x17 x18 x19 x20 x21 x22 x23) (x := x9) ?_ rfl n9)).trans ?_
  · have q1 := eq_int (R[i]?.getD 0) 1
    generalize runF 3 g__law_clear = φ at cr ⊢
    have cr' : φ [.v (houseD R ps sm), .v (.int (i : Nat)), .v (.int now)] = .ok (.fz (.bool (clrD (sm[i]?.getD .none) now))) [.v (houseD R ps sm), .v (.int (i : Nat)), .v (.int now)] := cr
    unfold sgT
    clear lp jl cr
    generalize houseD R ps sm = HH at *
    generalize PyData.tuple (dI R) = RR at *
    generalize PyData.tuple (P.map perD) = PP at *
    generalize PyData.tuple tl = TT at *
    generalize ((i : Nat) : Int) = r' at *
    generalize clrD (sm[i]?.getD .none) now = c at *
    generalize R[i]?.getD 0 = K at *
    by_cases q : K = 1
    · rw [decide_eq_true q] at q1
      rw [if_pos q]
      simp [_root_.Z.runF_eq, _root_.Z.endF_nx, _root_.Z.endF_rt, _root_.Z.entry, _root_.Z.outsOf, _root_.Z.sSeq, _root_.Z.sNil, _root_.Z.sRet, _root_.Z.sRetV, _root_.Z.sSet, _root_.Z.sIf, _root_.Z.sExp, _root_.Z.sAsg, _root_.Z.setV, _root_.Z.oAnd, _root_.Z.oOr, _root_.Z.oNot, _root_.Z.oIte, _root_.Z.oApp, _root_.Z.oAppK, _root_.Z.aCons, _root_.Z.xO, _root_.Z.oVar, _root_.Z.oC, _root_.Z.xVar, _root_.Z.apF, _root_.Z.avOf, _root_.Z.Av.sl, _root_.Z.Va.sl, _root_.Z.odSl, _root_.Z.aft, _root_.Z.setOuts, _root_.Z.boolV, _root_.Z.Va.d, _root_.Z.oChn, _root_.Z.Od.get, _root_.Z.Sl.get, _root_.Z.ap1, _root_.Z.ap2, _root_.Z.f1, _root_.Z.f2, _root_.Z.fL, _root_.Z.fM, _root_.Z.apL, _root_.Z.getAll, _root_.Z.bNot, _root_.Z.bAnd, _root_.Z.bOr, _root_.Z.bX, _root_.Z.bOf, _root_.Z.truth, _root_.Z.oTup, _root_.Z.oLst, _root_.Z.oSeq, _root_.Z.datas, h60, hR, q1]
    · rw [decide_eq_false q] at q1
      rw [if_neg q]
      cases c <;> simp [_root_.Z.runF_eq, _root_.Z.endF_nx, _root_.Z.endF_rt, _root_.Z.entry, _root_.Z.outsOf, _root_.Z.sSeq, _root_.Z.sNil, _root_.Z.sRet, _root_.Z.sRetV, _root_.Z.sSet, _root_.Z.sIf, _root_.Z.sExp, _root_.Z.sAsg, _root_.Z.setV, _root_.Z.oAnd, _root_.Z.oOr, _root_.Z.oNot, _root_.Z.oIte, _root_.Z.oApp, _root_.Z.oAppK, _root_.Z.aCons, _root_.Z.xO, _root_.Z.oVar, _root_.Z.oC, _root_.Z.xVar, _root_.Z.apF, _root_.Z.avOf, _root_.Z.Av.sl, _root_.Z.Va.sl, _root_.Z.odSl, _root_.Z.aft, _root_.Z.setOuts, _root_.Z.boolV, _root_.Z.Va.d, _root_.Z.oChn, _root_.Z.Od.get, _root_.Z.Sl.get, _root_.Z.ap1, _root_.Z.ap2, _root_.Z.f1, _root_.Z.f2, _root_.Z.fL, _root_.Z.fM, _root_.Z.apL, _root_.Z.getAll, _root_.Z.bNot, _root_.Z.bAnd, _root_.Z.bOr, _root_.Z.bX, _root_.Z.bOf, _root_.Z.truth, _root_.Z.oTup, _root_.Z.oLst, _root_.Z.oSeq, _root_.Z.datas, h60, hR, q1, cr']
  · refine (seq_nx (par3_ok (ρ1 := sL S (.ow false LS) (.vl (.int (i : Nat))) x3 now en (houseD R ps sm) (.tuple (P.map perD)) (.tuple tl) (.vl (.str (sgT (R[i]?.getD 0) (sm[i]?.getD .none) now))) x10 x11 x12 x13 x14 x15 x16 x17 x18 x19 x20 x21 x22 x23) (va := .fo []) (vb := .fo []) (vc := .fz (.int 0)) rfl rfl rfl (x := x12) rfl n12 (y := x13) rfl n13 (z := x14) rfl n14)).trans ?_
    refine (seq_nx ((for_ok (ds := P.map perD) rfl).trans lp)).trans ?_
    have e0 : (0 : Int) + (lostOf (i : Nat) P : Nat) = (lostOf (i : Nat) P : Nat) := by omega
    rw [e0, List.nil_append, List.nil_append]
    have c3 : oComp (iSeq (fL pSorted (aCons (xVar 13) (fun ρ => .ok [] ρ)))) (gTupZ 2 (gConsZ (gN 16) (gConsZ (gN 17) gNilZ))) bYes e3__law_drawn [16, 17] (sL S (.ow false LS) (.vl (.int (i : Nat))) x3 now en (houseD R ps sm) (.tuple (P.map perD)) (.tuple tl) (.vl (.str (sgT (R[i]?.getD 0) (sm[i]?.getD .none) now))) x10 y11 (.ow false ((usOf now (i : Nat) P).map strD)) (.ow false ((csOf now (i : Nat) P).map pairD)) (.vl (.int (lostOf (i : Nat) P : Nat))) y15 y16 y17 x18 x19 x20 x21 x22 x23) =
        .ok (.fo (((sortD ((csOf now (i : Nat) P).map pairD)).map pT).map PyData.str)) (sL S (.ow false LS) (.vl (.int (i : Nat))) x3 now en (houseD R ps sm) (.tuple (P.map perD)) (.tuple tl) (.vl (.str (sgT (R[i]?.getD 0) (sm[i]?.getD .none) now))) x10 y11 (.ow false ((usOf now (i : Nat) P).map strD)) (.ow false ((csOf now (i : Nat) P).map pairD)) (.vl (.int (lostOf (i : Nat) P : Nat))) y15 y16 y17 x18 x19 x20 x21 x22 x23) := by
      have c := comp_map (fi := iSeq (fL pSorted (aCons (xVar 13) (fun ρ => .ok [] ρ)))) (g := gTupZ 2 (gConsZ (gN 16) (gConsZ (gN 17) gNilZ))) (elt := e3__law_drawn) (vs := [16, 17]) (ρ := (sL S (.ow false LS) (.vl (.int (i : Nat))) x3 now en (houseD R ps sm) (.tuple (P.map perD)) (.tuple tl) (.vl (.str (sgT (R[i]?.getD 0) (sm[i]?.getD .none) now))) x10 y11 (.ow false ((usOf now (i : Nat) P).map strD)) (.ow false ((csOf now (i : Nat) P).map pairD)) (.vl (.int (lostOf (i : Nat) P : Nat))) y15 y16 y17 x18 x19 x20 x21 x22 x23)) (ρ0 := (sL S (.ow false LS) (.vl (.int (i : Nat))) x3 now en (houseD R ps sm) (.tuple (P.map perD)) (.tuple tl) (.vl (.str (sgT (R[i]?.getD 0) (sm[i]?.getD .none) now))) x10 y11 (.ow false ((usOf now (i : Nat) P).map strD)) (.ow false ((csOf now (i : Nat) P).map pairD)) (.vl (.int (lostOf (i : Nat) P : Nat))) y15 y16 y17 x18 x19 x20 x21 x22 x23)) (ds := sortD ((csOf now (i : Nat) P).map pairD)) (fun d => .fz (.str (pT d))) (by
        clear lp
        generalize (csOf now (i : Nat) P).map pairD = C at *
        generalize (usOf now (i : Nat) P).map strD = U at *
        generalize houseD R ps sm = HH at *
        generalize PyData.tuple (P.map perD) = PP at *
        generalize PyData.tuple tl = TT at *
        simp [_root_.Z.runF_eq, _root_.Z.endF_nx, _root_.Z.endF_rt, _root_.Z.entry, _root_.Z.outsOf, _root_.Z.sSeq, _root_.Z.sNil, _root_.Z.sRet, _root_.Z.sRetV, _root_.Z.sSet, _root_.Z.sIf, _root_.Z.sExp, _root_.Z.sAsg, _root_.Z.setV, _root_.Z.oAnd, _root_.Z.oOr, _root_.Z.oNot, _root_.Z.oIte, _root_.Z.oApp, _root_.Z.oAppK, _root_.Z.aCons, _root_.Z.xO, _root_.Z.oVar, _root_.Z.oC, _root_.Z.xVar, _root_.Z.apF, _root_.Z.avOf, _root_.Z.Av.sl, _root_.Z.Va.sl, _root_.Z.odSl, _root_.Z.aft, _root_.Z.setOuts, _root_.Z.boolV, _root_.Z.Va.d, _root_.Z.oChn, _root_.Z.Od.get, _root_.Z.Sl.get, _root_.Z.ap1, _root_.Z.ap2, _root_.Z.f1, _root_.Z.f2, _root_.Z.fL, _root_.Z.fM, _root_.Z.apL, _root_.Z.getAll, _root_.Z.bNot, _root_.Z.bAnd, _root_.Z.bOr, _root_.Z.bX, _root_.Z.bOf, _root_.Z.truth, _root_.Z.oTup, _root_.Z.oLst, _root_.Z.oSeq, _root_.Z.datas, iSeq, sp, itemsOf]) (fun d hd => by
        obtain ⟨c, hc, rfl⟩ := List.mem_map.mp (sortD_mem.mp hd)
        have q := cs c hc
        refine ⟨sL S (.ow false LS) (.vl (.int (i : Nat))) x3 now en (houseD R ps sm) (.tuple (P.map perD)) (.tuple tl) (.vl (.str (sgT (R[i]?.getD 0) (sm[i]?.getD .none) now))) x10 y11 (.ow false ((usOf now (i : Nat) P).map strD)) (.ow false ((csOf now (i : Nat) P).map pairD)) (.vl (.int (lostOf (i : Nat) P : Nat))) y15 (.vl (.int c.1)) (.vl (.int c.2)) x18 x19 x20 x21 x22 x23, sL S (.ow false LS) (.vl (.int (i : Nat))) x3 now en (houseD R ps sm) (.tuple (P.map perD)) (.tuple tl) (.vl (.str (sgT (R[i]?.getD 0) (sm[i]?.getD .none) now))) x10 y11 (.ow false ((usOf now (i : Nat) P).map strD)) (.ow false ((csOf now (i : Nat) P).map pairD)) (.vl (.int (lostOf (i : Nat) P : Nat))) y15 (.vl (.int c.1)) (.vl (.int c.2)) x18 x19 x20 x21 x22 x23, rfl, ?_, rfl⟩
        obtain ⟨⟨a1, a2⟩, a3, a4⟩ := q
        have s1 := sz_tx a1 (show c.1 < 10 ^ 10 by omega)
        have s2 := sz_tx a3 (show c.2 < 10 ^ 10 by omega)
        have b1 := str_ok a1 (show c.1 < 10 ^ 10 by omega)
        have b2 := str_ok a3 (show c.2 < 10 ^ 10 by omega)
        have s3 : Sz 1 (":" : Str) := ⟨by decide +kernel, by decide +kernel⟩
        have p1 := adds_ok s1 s3 (by omega)
        have p2 := adds_ok (s1.app s3) s2 (by omega)
        have e : pT (pairD c) = tx c.1 ++ ":" ++ tx c.2 := rfl
        unfold e3__law_drawn
        show _ = Rz.ok (Va.fz (.str (pT (pairD c)))) _
        rw [e]
        clear lp jl cr so nn sp j1 j2
        generalize (csOf now (i : Nat) P).map pairD = C at *
        generalize (usOf now (i : Nat) P).map strD = U at *
        generalize houseD R ps sm = HH at *
        generalize PyData.tuple (P.map perD) = PP at *
        generalize PyData.tuple tl = TT at *
        generalize tx c.1 = X1 at *
        generalize tx c.2 = X2 at *
        simp [_root_.Z.runF_eq, _root_.Z.endF_nx, _root_.Z.endF_rt, _root_.Z.entry, _root_.Z.outsOf, _root_.Z.sSeq, _root_.Z.sNil, _root_.Z.sRet, _root_.Z.sRetV, _root_.Z.sSet, _root_.Z.sIf, _root_.Z.sExp, _root_.Z.sAsg, _root_.Z.setV, _root_.Z.oAnd, _root_.Z.oOr, _root_.Z.oNot, _root_.Z.oIte, _root_.Z.oApp, _root_.Z.oAppK, _root_.Z.aCons, _root_.Z.xO, _root_.Z.oVar, _root_.Z.oC, _root_.Z.xVar, _root_.Z.apF, _root_.Z.avOf, _root_.Z.Av.sl, _root_.Z.Va.sl, _root_.Z.odSl, _root_.Z.aft, _root_.Z.setOuts, _root_.Z.boolV, _root_.Z.Va.d, _root_.Z.oChn, _root_.Z.Od.get, _root_.Z.Sl.get, _root_.Z.ap1, _root_.Z.ap2, _root_.Z.f1, _root_.Z.f2, _root_.Z.fL, _root_.Z.fM, _root_.Z.apL, _root_.Z.getAll, _root_.Z.bNot, _root_.Z.bAnd, _root_.Z.bOr, _root_.Z.bX, _root_.Z.bOf, _root_.Z.truth, _root_.Z.oTup, _root_.Z.oLst, _root_.Z.oSeq, _root_.Z.datas, b1, b2, p1, p2]) (by rw [sortD_len, List.length_map]; have := line_big; omega)
      rw [c, ← map_str]
      rfl
    refine (seq_nx (set_ok (va := .fz (.str (cmT (csOf now (i : Nat) P)))) (ρ1 := (sL S (.ow false LS) (.vl (.int (i : Nat))) x3 now en (houseD R ps sm) (.tuple (P.map perD)) (.tuple tl) (.vl (.str (sgT (R[i]?.getD 0) (sm[i]?.getD .none) now))) x10 y11 (.ow false ((usOf now (i : Nat) P).map strD)) (.ow false ((csOf now (i : Nat) P).map pairD)) (.vl (.int (lostOf (i : Nat) P : Nat))) y15 y16 y17 x18 x19 x20 x21 x22 x23)) (x := x10) ?_ rfl n10)).trans ?_
    · generalize oComp (iSeq (fL pSorted (aCons (xVar 13) (fun ρ => .ok [] ρ)))) (gTupZ 2 (gConsZ (gN 16) (gConsZ (gN 17) gNilZ))) bYes e3__law_drawn [16, 17] = κ at c3 ⊢
      clear lp cr so nn sp tl0 cl0 ne t2 jl j1 h60 hR
      generalize ((sortD ((csOf now (i : Nat) P).map pairD)).map pT).map PyData.str = Y at *
      generalize cmT (csOf now (i : Nat) P) = B at *
      generalize (usOf now (i : Nat) P).map strD = U at *
      generalize (csOf now (i : Nat) P).map pairD = C at *
      generalize sgT (R[i]?.getD 0) (sm[i]?.getD .none) now = G at *
      generalize ((lostOf (i : Nat) P : Nat) : Int) = LO at *
      generalize ((i : Nat) : Int) = RR at *
      generalize houseD R ps sm = HH at *
      generalize PyData.tuple (P.map perD) = PP at *
      generalize PyData.tuple tl = TT at *
      simp [_root_.Z.runF_eq, _root_.Z.endF_nx, _root_.Z.endF_rt, _root_.Z.entry, _root_.Z.outsOf, _root_.Z.sSeq, _root_.Z.sNil, _root_.Z.sRet, _root_.Z.sRetV, _root_.Z.sSet, _root_.Z.sIf, _root_.Z.sExp, _root_.Z.sAsg, _root_.Z.setV, _root_.Z.oAnd, _root_.Z.oOr, _root_.Z.oNot, _root_.Z.oIte, _root_.Z.oApp, _root_.Z.oAppK, _root_.Z.aCons, _root_.Z.xO, _root_.Z.oVar, _root_.Z.oC, _root_.Z.xVar, _root_.Z.apF, _root_.Z.avOf, _root_.Z.Av.sl, _root_.Z.Va.sl, _root_.Z.odSl, _root_.Z.aft, _root_.Z.setOuts, _root_.Z.boolV, _root_.Z.Va.d, _root_.Z.oChn, _root_.Z.Od.get, _root_.Z.Sl.get, _root_.Z.ap1, _root_.Z.ap2, _root_.Z.f1, _root_.Z.f2, _root_.Z.fL, _root_.Z.fM, _root_.Z.apL, _root_.Z.getAll, _root_.Z.bNot, _root_.Z.bAnd, _root_.Z.bOr, _root_.Z.bX, _root_.Z.bOf, _root_.Z.truth, _root_.Z.oTup, _root_.Z.oLst, _root_.Z.oSeq, _root_.Z.datas, oJoin, isStr, c3, j2]
    · refine (seq_nx (app_ok (p := false) (q := false) (va := .fz (.str (roomT now R sm P i))) (ρ1 := (sL S (.ow false LS) (.vl (.int (i : Nat))) x3 now en (houseD R ps sm) (.tuple (P.map perD)) (.tuple tl) (.vl (.str (sgT (R[i]?.getD 0) (sm[i]?.getD .none) now))) (.vl (.str (cmT (csOf now (i : Nat) P)))) y11 (.ow false ((usOf now (i : Nat) P).map strD)) (.ow false ((csOf now (i : Nat) P).map pairD)) (.vl (.int (lostOf (i : Nat) P : Nat))) y15 y16 y17 x18 x19 x20 x21 x22 x23)) (ds := LS) (fs := LS) rfl ?_ rfl (by have := line_big; omega))).trans rfl
      show _ = Rz.ok (Va.fz (.str (lineT (i : Nat) (sgT (R[i]?.getD 0) (sm[i]?.getD .none) now) (usOf now (i : Nat) P) (csOf now (i : Nat) P) (lostOf (i : Nat) P)))) _
      clear lp c3 cr
      unfold orD at jl
      generalize lineT (i : Nat) (sgT (R[i]?.getD 0) (sm[i]?.getD .none) now) (usOf now (i : Nat) P) (csOf now (i : Nat) P) (lostOf (i : Nat) P) = LL at *
      generalize ((sortD (dI (usOf now (i : Nat) P))).map nT).map PyData.str = Y1 at *
      generalize thT (usOf now (i : Nat) P) = A at *
      generalize cmT (csOf now (i : Nat) P) = B at *
      generalize (usOf now (i : Nat) P).map strD = U at *
      generalize (usOf now (i : Nat) P).isEmpty = ue at *
      generalize sgT (R[i]?.getD 0) (sm[i]?.getD .none) now = G at *
      generalize (csOf now (i : Nat) P).map pairD = C at *
      generalize tx (lostOf (i : Nat) P : Nat) = T2 at *
      generalize ((lostOf (i : Nat) P : Nat) : Int) = LO at *
      generalize tx (i : Nat) = T1 at *
      generalize ((i : Nat) : Int) = RR at *
      generalize houseD R ps sm = HH at *
      generalize PyData.tuple (P.map perD) = PP at *
      generalize PyData.tuple tl = TT at *
      by_cases q2 : B = ""
      · rw [decide_eq_true q2] at ne
        rw [if_pos (cl0.mpr q2)] at jl
        clear cl0 q2
        cases ue with
        | true =>
          rw [if_pos (tl0.mpr rfl)] at jl
          simp [_root_.Z.runF_eq, _root_.Z.endF_nx, _root_.Z.endF_rt, _root_.Z.entry, _root_.Z.outsOf, _root_.Z.sSeq, _root_.Z.sNil, _root_.Z.sRet, _root_.Z.sRetV, _root_.Z.sSet, _root_.Z.sIf, _root_.Z.sExp, _root_.Z.sAsg, _root_.Z.setV, _root_.Z.oAnd, _root_.Z.oOr, _root_.Z.oNot, _root_.Z.oIte, _root_.Z.oApp, _root_.Z.oAppK, _root_.Z.aCons, _root_.Z.xO, _root_.Z.oVar, _root_.Z.oC, _root_.Z.xVar, _root_.Z.apF, _root_.Z.avOf, _root_.Z.Av.sl, _root_.Z.Va.sl, _root_.Z.odSl, _root_.Z.aft, _root_.Z.setOuts, _root_.Z.boolV, _root_.Z.Va.d, _root_.Z.oChn, _root_.Z.Od.get, _root_.Z.Sl.get, _root_.Z.ap1, _root_.Z.ap2, _root_.Z.f1, _root_.Z.f2, _root_.Z.fL, _root_.Z.fM, _root_.Z.apL, _root_.Z.getAll, _root_.Z.bNot, _root_.Z.bAnd, _root_.Z.bOr, _root_.Z.bX, _root_.Z.bOf, _root_.Z.truth, _root_.Z.oTup, _root_.Z.oLst, _root_.Z.oSeq, _root_.Z.datas, oJoin, isStr, t1, t2, nn, ne, jl, sizeLine]
        | false =>
          rw [if_neg (fun z => nomatch tl0.mp z)] at jl
          simp [_root_.Z.runF_eq, _root_.Z.endF_nx, _root_.Z.endF_rt, _root_.Z.entry, _root_.Z.outsOf, _root_.Z.sSeq, _root_.Z.sNil, _root_.Z.sRet, _root_.Z.sRetV, _root_.Z.sSet, _root_.Z.sIf, _root_.Z.sExp, _root_.Z.sAsg, _root_.Z.setV, _root_.Z.oAnd, _root_.Z.oOr, _root_.Z.oNot, _root_.Z.oIte, _root_.Z.oApp, _root_.Z.oAppK, _root_.Z.aCons, _root_.Z.xO, _root_.Z.oVar, _root_.Z.oC, _root_.Z.xVar, _root_.Z.apF, _root_.Z.avOf, _root_.Z.Av.sl, _root_.Z.Va.sl, _root_.Z.odSl, _root_.Z.aft, _root_.Z.setOuts, _root_.Z.boolV, _root_.Z.Va.d, _root_.Z.oChn, _root_.Z.Od.get, _root_.Z.Sl.get, _root_.Z.ap1, _root_.Z.ap2, _root_.Z.f1, _root_.Z.f2, _root_.Z.fL, _root_.Z.fM, _root_.Z.apL, _root_.Z.getAll, _root_.Z.bNot, _root_.Z.bAnd, _root_.Z.bOr, _root_.Z.bX, _root_.Z.bOf, _root_.Z.truth, _root_.Z.oTup, _root_.Z.oLst, _root_.Z.oSeq, _root_.Z.datas, oJoin, isStr, t1, t2, nn, ne, jl, so, j1, sizeLine]
      · rw [decide_eq_false q2] at ne
        rw [if_neg (fun z => q2 (cl0.mp z))] at jl
        clear cl0 q2
        cases ue with
        | true =>
          rw [if_pos (tl0.mpr rfl)] at jl
          simp [_root_.Z.runF_eq, _root_.Z.endF_nx, _root_.Z.endF_rt, _root_.Z.entry, _root_.Z.outsOf, _root_.Z.sSeq, _root_.Z.sNil, _root_.Z.sRet, _root_.Z.sRetV, _root_.Z.sSet, _root_.Z.sIf, _root_.Z.sExp, _root_.Z.sAsg, _root_.Z.setV, _root_.Z.oAnd, _root_.Z.oOr, _root_.Z.oNot, _root_.Z.oIte, _root_.Z.oApp, _root_.Z.oAppK, _root_.Z.aCons, _root_.Z.xO, _root_.Z.oVar, _root_.Z.oC, _root_.Z.xVar, _root_.Z.apF, _root_.Z.avOf, _root_.Z.Av.sl, _root_.Z.Va.sl, _root_.Z.odSl, _root_.Z.aft, _root_.Z.setOuts, _root_.Z.boolV, _root_.Z.Va.d, _root_.Z.oChn, _root_.Z.Od.get, _root_.Z.Sl.get, _root_.Z.ap1, _root_.Z.ap2, _root_.Z.f1, _root_.Z.f2, _root_.Z.fL, _root_.Z.fM, _root_.Z.apL, _root_.Z.getAll, _root_.Z.bNot, _root_.Z.bAnd, _root_.Z.bOr, _root_.Z.bX, _root_.Z.bOf, _root_.Z.truth, _root_.Z.oTup, _root_.Z.oLst, _root_.Z.oSeq, _root_.Z.datas, oJoin, isStr, t1, t2, nn, ne, jl, sizeLine]
        | false =>
          rw [if_neg (fun z => nomatch tl0.mp z)] at jl
          simp [_root_.Z.runF_eq, _root_.Z.endF_nx, _root_.Z.endF_rt, _root_.Z.entry, _root_.Z.outsOf, _root_.Z.sSeq, _root_.Z.sNil, _root_.Z.sRet, _root_.Z.sRetV, _root_.Z.sSet, _root_.Z.sIf, _root_.Z.sExp, _root_.Z.sAsg, _root_.Z.setV, _root_.Z.oAnd, _root_.Z.oOr, _root_.Z.oNot, _root_.Z.oIte, _root_.Z.oApp, _root_.Z.oAppK, _root_.Z.aCons, _root_.Z.xO, _root_.Z.oVar, _root_.Z.oC, _root_.Z.xVar, _root_.Z.apF, _root_.Z.avOf, _root_.Z.Av.sl, _root_.Z.Va.sl, _root_.Z.odSl, _root_.Z.aft, _root_.Z.setOuts, _root_.Z.boolV, _root_.Z.Va.d, _root_.Z.oChn, _root_.Z.Od.get, _root_.Z.Sl.get, _root_.Z.ap1, _root_.Z.ap2, _root_.Z.f1, _root_.Z.f2, _root_.Z.fL, _root_.Z.fM, _root_.Z.apL, _root_.Z.getAll, _root_.Z.bNot, _root_.Z.bAnd, _root_.Z.bOr, _root_.Z.bX, _root_.Z.bOf, _root_.Z.truth, _root_.Z.oTup, _root_.Z.oLst, _root_.Z.oSeq, _root_.Z.datas, oJoin, isStr, t1, t2, nn, ne, jl, so, j1, sizeLine]
end
end ZH

namespace ZH
open PySem PySem.Spec PyProof.Rows L2 Z
section
variable {now en : Int} {R : List Int} {ps : List Pas} {sm : List D} {P : List Per} {tl : List D} (ok : StOk now en R ps sm P tl)
include ok
theorem l5_loop {S : D} {x3 x18 x19 x20 x21 x22 x23 : Sl} : ∀ (n a : Nat) (LS : List D) (x2 x9 x10 x11 x12 x13 x14 x15 x16 x17 : Sl), a + n ≤ R.length → LS.length + n < 1000 → NT x2 → NT x9 → NT x10 → NT x11 → NT x12 → NT x13 → NT x14 → NT x15 → NT x16 → NT x17 →
    ∃ y2 y9 y10 y11 y12 y13 y14 y15 y16 y17, NT y11 ∧
    loop (gN 2) l5__law_drawn (idxs a n) (sL S (.ow false LS) x2 x3 now en (houseD R ps sm) (.tuple (P.map perD)) (.tuple tl) x9 x10 x11 x12 x13 x14 x15 x16 x17 x18 x19 x20 x21 x22 x23) =
    .ok .nx (sL S (.ow false (LS ++ ((List.range' a n).map (roomT now R sm P)).map PyData.str)) y2 x3 now en (houseD R ps sm) (.tuple (P.map perD)) (.tuple tl) y9 y10 y11 y12 y13 y14 y15 y16 y17 x18 x19 x20 x21 x22 x23)
  | 0, a, LS, x2, x9, x10, x11, x12, x13, x14, x15, x16, x17, _, _, n2, n9, n10, n11, n12, n13, n14, n15, n16, n17 => ⟨x2, x9, x10, x11, x12, x13, x14, x15, x16, x17, n11, by
      show Rz.ok Fl.nx _ = _
      simp⟩
  | n + 1, a, LS, x2, x9, x10, x11, x12, x13, x14, x15, x16, x17, h, hl, n2, n9, n10, n11, n12, n13, n14, n15, n16, n17 => by
    obtain ⟨y9, y10, y11, y12, y13, y14, y15, y16, y17, ⟨m9, m10, m11, m12, m13, m14, m15, m16, m17⟩, q⟩ := l5_ok ok (i := a) (by omega) (LS := LS) (by omega) (S := S) (x3 := x3) (x18 := x18) (x19 := x19) (x20 := x20) (x21 := x21) (x22 := x22) (x23 := x23) n9 n10 n11 n12 n13 n14 n15 n16 n17
    obtain ⟨z2, z9, z10, z11, z12, z13, z14, z15, z16, z17, nz, q2⟩ := l5_loop n (a + 1) (LS ++ [.str (roomT now R sm P a)]) (.vl (.int (a : Nat))) y9 y10 y11 y12 y13 y14 y15 y16 y17 (by omega) (by simp only [List.length_append, List.length_singleton]; omega) nt_vl m9 m10 m11 m12 m13 m14 m15 m16 m17
    refine ⟨z2, z9, z10, z11, z12, z13, z14, z15, z16, z17, nz, ?_⟩
    have g1 : gN 2 (.int (a : Nat)) (sL S (.ow false LS) x2 x3 now en (houseD R ps sm) (.tuple (P.map perD)) (.tuple tl) x9 x10 x11 x12 x13 x14 x15 x16 x17 x18 x19 x20 x21 x22 x23) = some (sL S (.ow false LS) (.vl (.int (a : Nat))) x3 now en (houseD R ps sm) (.tuple (P.map perD)) (.tuple tl) x9 x10 x11 x12 x13 x14 x15 x16 x17 x18 x19 x20 x21 x22 x23) := gN_ok (x := x2) rfl n2
    rw [idxs_succ, loop_nx g1 q, q2, List.range'_succ, List.map_cons, List.map_cons, List.append_assoc]
    rfl
theorem l2_ok {i : Nat} (hi : i < ps.length) {LS : List D} (hl : LS.length < 1000) {S : D} {x2 x9 x10 x11 x12 x13 x14 x15 x16 x17 x18 x19 x20 x21 x22 x23 : Sl} (n11 : NT x11) (n18 : NT x18) (n19 : NT x19) (n20 : NT x20) (n21 : NT x21) (n22 : NT x22) :
    ∃ y11 y18 y19 y20 y21 y22, (NT y11 ∧ NT y18 ∧ NT y19 ∧ NT y20 ∧ NT y21 ∧ NT y22) ∧
    l2__law_drawn (sL S (.ow false LS) x2 (.vl (.int (i : Nat))) now en (houseD R ps sm) (.tuple (P.map perD)) (.tuple tl) x9 x10 x11 x12 x13 x14 x15 x16 x17 x18 x19 x20 x21 x22 x23) =
    .ok .nx (sL S (.ow false (LS ++ [.str (pasnT now ps i)])) x2 (.vl (.int (i : Nat))) now en (houseD R ps sm) (.tuple (P.map perD)) (.tuple tl) x9 x10 y11 x12 x13 x14 x15 x16 x17 y18 y19 y20 y21 y22 x23) := by
  have kpl := ok.kpl
  have okx := ok.kps _ (List.getElem_mem hi)
  have ex : pasnT now ps i = pasT (i : Nat) ps[i] now := by unfold pasnT; rw [List.getElem?_eq_getElem hi]; rfl
  have hX : pIx (.tuple (ps.map pasD)) (.int (i : Nat)) = some (.fz (pasD ps[i])) := at_tup (by rw [List.getElem?_map, List.getElem?_eq_getElem hi]; rfl)
  have h61 : pIx (houseD R ps sm) (.int 1) = some (.fz (.tuple (ps.map pasD))) := rfl
  rw [ex]
  have hm : smN (i : Nat) := ⟨by omega, by omega⟩
  generalize ((i : Nat) : Int) = N at *
  generalize ps[i] = x at *
  refine ⟨.vl (.str (shT x now)), .vl (.int x.t), .vl (.int x.h), .vl (.int x.l), .vl (.int x.w), .vl (.tuple (dI x.s)), ⟨nt_vl, nt_vl, nt_vl, nt_vl, nt_vl, nt_vl⟩, ?_⟩
  generalize PyData.tuple (P.map perD) = PP at *
  generalize PyData.tuple tl = TT at *
  unfold l2__law_drawn
  have g1 : gTupZ 5 (gConsZ (gN 18) (gConsZ (gN 19) (gConsZ (gN 20) (gConsZ (gN 21) (gConsZ (gN 22) gNilZ))))) (pasD x) (sL S (.ow false LS) x2 (.vl (.int N)) now en (houseD R ps sm) PP TT x9 x10 x11 x12 x13 x14 x15 x16 x17 x18 x19 x20 x21 x22 x23) = some (sL S (.ow false LS) x2 (.vl (.int N)) now en (houseD R ps sm) PP TT x9 x10 x11 x12 x13 x14 x15 x16 x17 (.vl (.int x.t)) (.vl (.int x.h)) (.vl (.int x.l)) (.vl (.int x.w)) (.vl (.tuple (dI x.s))) x23) :=
    gtup_ok (gcons_ok (gN_ok (x := x18) rfl n18) (gcons_ok (gN_ok (x := x19) rfl n19) (gcons_ok (gN_ok (x := x20) rfl n20) (gcons_ok (gN_ok (x := x21) rfl n21) (gcons_ok (gN_ok (x := x22) rfl n22) rfl))))) rfl
  refine (seq_nx (asg_ok (va := .fz (pasD x)) (ρ1 := sL S (.ow false LS) x2 (.vl (.int N)) now en (houseD R ps sm) PP TT x9 x10 x11 x12 x13 x14 x15 x16 x17 x18 x19 x20 x21 x22 x23) ?_ g1)).trans ?_
  · clear g1
    generalize houseD R ps sm = HH at *
    generalize PyData.tuple (ps.map pasD) = L at *
    generalize pasD x = Q at *
    simp [_root_.Z.runF_eq, _root_.Z.endF_nx, _root_.Z.endF_rt, _root_.Z.entry, _root_.Z.outsOf, _root_.Z.sSeq, _root_.Z.sNil, _root_.Z.sRet, _root_.Z.sRetV, _root_.Z.sSet, _root_.Z.sIf, _root_.Z.sExp, _root_.Z.sAsg, _root_.Z.setV, _root_.Z.oAnd, _root_.Z.oOr, _root_.Z.oNot, _root_.Z.oIte, _root_.Z.oApp, _root_.Z.oAppK, _root_.Z.aCons, _root_.Z.xO, _root_.Z.oVar, _root_.Z.oC, _root_.Z.xVar, _root_.Z.apF, _root_.Z.avOf, _root_.Z.Av.sl, _root_.Z.Va.sl, _root_.Z.odSl, _root_.Z.aft, _root_.Z.setOuts, _root_.Z.boolV, _root_.Z.Va.d, _root_.Z.oChn, _root_.Z.Od.get, _root_.Z.Sl.get, _root_.Z.ap1, _root_.Z.ap2, _root_.Z.f1, _root_.Z.f2, _root_.Z.fL, _root_.Z.fM, _root_.Z.apL, _root_.Z.getAll, _root_.Z.bNot, _root_.Z.bAnd, _root_.Z.bOr, _root_.Z.bX, _root_.Z.bOf, _root_.Z.truth, _root_.Z.oTup, _root_.Z.oLst, _root_.Z.oSeq, _root_.Z.datas, h61, hX]
  · clear g1
    refine (seq_nx (set_ok (va := .fz (.str (shT x now))) (ρ1 := sL S (.ow false LS) x2 (.vl (.int N)) now en (houseD R ps sm) PP TT x9 x10 x11 x12 x13 x14 x15 x16 x17 (.vl (.int x.t)) (.vl (.int x.h)) (.vl (.int x.l)) (.vl (.int x.w)) (.vl (.tuple (dI x.s))) x23) (x := x11) ?_ rfl n11)).trans ?_
    · have k1 := eq_int x.w 0
      have k2 : pIn (.int now) (.tuple (dI x.s)) = some (.fz (.bool (decide (now ∈ x.s)))) := by unfold pIn; rw [in_seq (.inr rfl)]; rfl
      have e : shT x now = if (decide (x.w = 0) || decide (now ∈ x.s)) = true then "shut" else "open" := by
        unfold shT
        by_cases q1 : x.w = 0 <;> by_cases q2 : now ∈ x.s <;> simp [q1, q2]
      rw [e]
      generalize houseD R ps sm = HH at *
      generalize PyData.tuple (dI x.s) = Q at *
      generalize decide (x.w = 0) = q1 at *
      generalize decide (now ∈ x.s) = q2 at *
      cases q1 <;> cases q2 <;> simp [_root_.Z.runF_eq, _root_.Z.endF_nx, _root_.Z.endF_rt, _root_.Z.entry, _root_.Z.outsOf, _root_.Z.sSeq, _root_.Z.sNil, _root_.Z.sRet, _root_.Z.sRetV, _root_.Z.sSet, _root_.Z.sIf, _root_.Z.sExp, _root_.Z.sAsg, _root_.Z.setV, _root_.Z.oAnd, _root_.Z.oOr, _root_.Z.oNot, _root_.Z.oIte, _root_.Z.oApp, _root_.Z.oAppK, _root_.Z.aCons, _root_.Z.xO, _root_.Z.oVar, _root_.Z.oC, _root_.Z.xVar, _root_.Z.apF, _root_.Z.avOf, _root_.Z.Av.sl, _root_.Z.Va.sl, _root_.Z.odSl, _root_.Z.aft, _root_.Z.setOuts, _root_.Z.boolV, _root_.Z.Va.d, _root_.Z.oChn, _root_.Z.Od.get, _root_.Z.Sl.get, _root_.Z.ap1, _root_.Z.ap2, _root_.Z.f1, _root_.Z.f2, _root_.Z.fL, _root_.Z.fM, _root_.Z.apL, _root_.Z.getAll, _root_.Z.bNot, _root_.Z.bAnd, _root_.Z.bOr, _root_.Z.bX, _root_.Z.bOf, _root_.Z.truth, _root_.Z.oTup, _root_.Z.oLst, _root_.Z.oSeq, _root_.Z.datas, k1, k2]
    · refine (seq_nx (app_ok (p := false) (q := false) (va := .fz (.str (pasT N x now))) (ρ1 := sL S (.ow false LS) x2 (.vl (.int N)) now en (houseD R ps sm) PP TT x9 x10 (.vl (.str (shT x now))) x12 x13 x14 x15 x16 x17 (.vl (.int x.t)) (.vl (.int x.h)) (.vl (.int x.l)) (.vl (.int x.w)) (.vl (.tuple (dI x.s))) x23) (ds := LS) (fs := LS) rfl ?_ rfl (by have := line_big; omega))).trans rfl
      have s0 := sz_smN hm
      have s1 := sz_smN okx.t
      have s2 := sz_smN okx.h
      have s3 := sz_smN okx.l
      have s4 := sz_smN okx.w
      have s5 := sz_shT x now
      have a0 := s0
      have a1 := a0.app sz_sep1
      have a2 := a1.app s1
      have a3 := a2.app sz_gt
      have a4 := a3.app s2
      have a5 := a4.app sz_sep1
      have a6 := a5.app s3
      have a7 := a6.app sz_sep1
      have a8 := a7.app s4
      have a9 := a8.app sz_sep1
      have p0 := adds_ok a0 sz_sep1 (by omega)
      have p1 := adds_ok a1 s1 (by omega)
      have p2 := adds_ok a2 sz_gt (by omega)
      have p3 := adds_ok a3 s2 (by omega)
      have p4 := adds_ok a4 sz_sep1 (by omega)
      have p5 := adds_ok a5 s3 (by omega)
      have p6 := adds_ok a6 sz_sep1 (by omega)
      have p7 := adds_ok a7 s4 (by omega)
      have p8 := adds_ok a8 sz_sep1 (by omega)
      have p9 := adds_ok a9 s5 (by omega)
      have b0 := str_ok hm.1 hm.big
      have b1 := str_ok okx.t.1 okx.t.big
      have b2 := str_ok okx.h.1 okx.h.big
      have b3 := str_ok okx.l.1 okx.l.big
      have b4 := str_ok okx.w.1 okx.w.big
      clear s0 s1 s2 s3 s4 s5 a0 a1 a2 a3 a4 a5 a6 a7 a8 a9
      unfold pasT
      generalize houseD R ps sm = HH at *
      generalize PyData.tuple (dI x.s) = Q at *
      generalize shT x now = sh at *
      generalize tx N = T0 at *
      generalize tx x.t = T1 at *
      generalize tx x.h = T2 at *
      generalize tx x.l = T3 at *
      generalize tx x.w = T4 at *
      generalize T0 ++ " " = U0 at *
      generalize U0 ++ T1 = U1 at *
      generalize U1 ++ ">" = U2 at *
      generalize U2 ++ T2 = U3 at *
      generalize U3 ++ " " = U4 at *
      generalize U4 ++ T3 = U5 at *
      generalize U5 ++ " " = U6 at *
      generalize U6 ++ T4 = U7 at *
      generalize U7 ++ " " = U8 at *
      generalize U8 ++ sh = U9 at *
      generalize x.t = xt at *
      generalize x.h = xh at *
      generalize x.l = xl at *
      generalize x.w = xw at *
      simp [_root_.Z.runF_eq, _root_.Z.endF_nx, _root_.Z.endF_rt, _root_.Z.entry, _root_.Z.outsOf, _root_.Z.sSeq, _root_.Z.sNil, _root_.Z.sRet, _root_.Z.sRetV, _root_.Z.sSet, _root_.Z.sIf, _root_.Z.sExp, _root_.Z.sAsg, _root_.Z.setV, _root_.Z.oAnd, _root_.Z.oOr, _root_.Z.oNot, _root_.Z.oIte, _root_.Z.oApp, _root_.Z.oAppK, _root_.Z.aCons, _root_.Z.xO, _root_.Z.oVar, _root_.Z.oC, _root_.Z.xVar, _root_.Z.apF, _root_.Z.avOf, _root_.Z.Av.sl, _root_.Z.Va.sl, _root_.Z.odSl, _root_.Z.aft, _root_.Z.setOuts, _root_.Z.boolV, _root_.Z.Va.d, _root_.Z.oChn, _root_.Z.Od.get, _root_.Z.Sl.get, _root_.Z.ap1, _root_.Z.ap2, _root_.Z.f1, _root_.Z.f2, _root_.Z.fL, _root_.Z.fM, _root_.Z.apL, _root_.Z.getAll, _root_.Z.bNot, _root_.Z.bAnd, _root_.Z.bOr, _root_.Z.bX, _root_.Z.bOf, _root_.Z.truth, _root_.Z.oTup, _root_.Z.oLst, _root_.Z.oSeq, _root_.Z.datas, b0, b1, b2, b3, b4, p0, p1, p2, p3, p4, p5, p6, p7, p8, p9]
theorem l2_loop {S : D} {x2 x9 x10 x12 x13 x14 x15 x16 x17 x23 : Sl} : ∀ (n a : Nat) (LS : List D) (x3 x11 x18 x19 x20 x21 x22 : Sl), a + n ≤ ps.length → LS.length + n < 1000 → NT x3 → NT x11 → NT x18 → NT x19 → NT x20 → NT x21 → NT x22 →
    ∃ y3 y11 y18 y19 y20 y21 y22,
    loop (gN 3) l2__law_drawn (idxs a n) (sL S (.ow false LS) x2 x3 now en (houseD R ps sm) (.tuple (P.map perD)) (.tuple tl) x9 x10 x11 x12 x13 x14 x15 x16 x17 x18 x19 x20 x21 x22 x23) =
    .ok .nx (sL S (.ow false (LS ++ ((List.range' a n).map (pasnT now ps)).map PyData.str)) x2 y3 now en (houseD R ps sm) (.tuple (P.map perD)) (.tuple tl) x9 x10 y11 x12 x13 x14 x15 x16 x17 y18 y19 y20 y21 y22 x23)
  | 0, a, LS, x3, x11, x18, x19, x20, x21, x22, _, _, n3, n11, n18, n19, n20, n21, n22 => ⟨x3, x11, x18, x19, x20, x21, x22, by
      show Rz.ok Fl.nx _ = _
      simp⟩
  | n + 1, a, LS, x3, x11, x18, x19, x20, x21, x22, h, hl, n3, n11, n18, n19, n20, n21, n22 => by
    obtain ⟨y11, y18, y19, y20, y21, y22, ⟨m11, m18, m19, m20, m21, m22⟩, q⟩ := l2_ok ok (i := a) (by omega) (LS := LS) (by omega) (S := S) (x2 := x2) (x9 := x9) (x10 := x10) (x12 := x12) (x13 := x13) (x14 := x14) (x15 := x15) (x16 := x16) (x17 := x17) (x23 := x23) n11 n18 n19 n20 n21 n22
    obtain ⟨z3, z11, z18, z19, z20, z21, z22, q2⟩ := l2_loop n (a + 1) (LS ++ [.str (pasnT now ps a)]) (.vl (.int (a : Nat))) y11 y18 y19 y20 y21 y22 (by omega) (by simp only [List.length_append, List.length_singleton]; omega) nt_vl m11 m18 m19 m20 m21 m22
    refine ⟨z3, z11, z18, z19, z20, z21, z22, ?_⟩
    have g1 : gN 3 (.int (a : Nat)) (sL S (.ow false LS) x2 x3 now en (houseD R ps sm) (.tuple (P.map perD)) (.tuple tl) x9 x10 x11 x12 x13 x14 x15 x16 x17 x18 x19 x20 x21 x22 x23) = some (sL S (.ow false LS) x2 (.vl (.int (a : Nat))) now en (houseD R ps sm) (.tuple (P.map perD)) (.tuple tl) x9 x10 x11 x12 x13 x14 x15 x16 x17 x18 x19 x20 x21 x22 x23) := gN_ok (x := x3) rfl n3
    rw [idxs_succ, loop_nx g1 q, q2, List.range'_succ, List.map_cons, List.map_cons, List.append_assoc]
    rfl
theorem r_law_drawn : runF 24 g__law_drawn [.v (stateD now en (houseD R ps sm) P tl)] = .ok (.fz (.str (drawT now en R ps sm P tl))) [.v (stateD now en (houseD R ps sm) P tl)] := by
  have jd := join_draw ok
  have big := line_big
  have kR := ok.kR
  have kpl := ok.kpl
  have sb := sz_beat ok
  have kn := ok.know
  have ke := ok.ken
  have h40 : pIx (houseD R ps sm) (.int 0) = some (.fz (.tuple (dI R))) := rfl
  have h41 : pIx (houseD R ps sm) (.int 1) = some (.fz (.tuple (ps.map pasD))) := rfl
  have ln := len_dI R
  have lp := len_map pasD ps
  have U : NT .un := nt_un
  suffices body : ∃ ρ', g__law_drawn [.vl (stateD now en (houseD R ps sm) P tl), .un, .un, .un, .un, .un, .un, .un, .un, .un, .un, .un, .un, .un, .un, .un, .un, .un, .un, .un, .un, .un, .un, .un] = .ok (.rt (.fz (.str (drawT now en R ps sm P tl)))) (.vl (stateD now en (houseD R ps sm) P tl) :: ρ') by
    obtain ⟨ρ', body⟩ := body
    rw [runF_eq]
    show endF _ (g__law_drawn [.vl (stateD now en (houseD R ps sm) P tl), .un, .un, .un, .un, .un, .un, .un, .un, .un, .un, .un, .un, .un, .un, .un, .un, .un, .un, .un, .un, .un, .un, .un]) = _
    rw [body]
    rfl
  have st0 : gTupZ 5 (gConsZ (gN 4) (gConsZ (gN 5) (gConsZ (gN 6) (gConsZ (gN 7) (gConsZ (gN 8) gNilZ))))) (stateD now en (houseD R ps sm) P tl) [.vl (stateD now en (houseD R ps sm) P tl), .un, .un, .un, .un, .un, .un, .un, .un, .un, .un, .un, .un, .un, .un, .un, .un, .un, .un, .un, .un, .un, .un, .un] = some (sL (stateD now en (houseD R ps sm) P tl) .un .un .un now en (houseD R ps sm) (.tuple (P.map perD)) (.tuple tl) .un .un .un .un .un .un .un .un .un .un .un .un .un .un .un) := rfl
  obtain ⟨y2, y9, y10, y11, y12, y13, y14, y15, y16, y17, m11, q1⟩ := l5_loop ok (S := stateD now en (houseD R ps sm) P tl) (x3 := .un) (x18 := .un) (x19 := .un) (x20 := .un) (x21 := .un) (x22 := .un) (x23 := .un) R.length 0 [.str (beatT now en)] .un .un .un .un .un .un .un .un .un .un (by omega) (by simp; omega) U U U U U U U U U U
  obtain ⟨z3, z11, z18, z19, z20, z21, z22, q2⟩ := l2_loop ok (S := stateD now en (houseD R ps sm) P tl) (x2 := y2) (x9 := y9) (x10 := y10) (x12 := y12) (x13 := y13) (x14 := y14) (x15 := y15) (x16 := y16) (x17 := y17) (x23 := .un) ps.length 0 ([.str (beatT now en)] ++ ((List.range' 0 R.length).map (roomT now R sm P)).map PyData.str) .un y11 .un .un .un .un .un (by omega) (by simp; omega) U m11 U U U U U
  refine ⟨[.ow false (([.str (beatT now en)] ++ ((List.range' 0 R.length).map (roomT now R sm P)).map PyData.str) ++ ((List.range' 0 ps.length).map (pasnT now ps)).map PyData.str), y2, z3, .vl (.int now), .vl (.int en), .vl (houseD R ps sm), .vl (.tuple (P.map perD)), .vl (.tuple tl), y9, y10, z11, y12, y13, y14, y15, y16, y17, z18, z19, z20, z21, z22, .un], ?_⟩
  have c8 : ∀ {L : Sl}, oComp (iSeq (oVar 8)) (gN 23) bYes e1__law_drawn [23] (sL (stateD now en (houseD R ps sm) P tl) L y2 z3 now en (houseD R ps sm) (.tuple (P.map perD)) (.tuple tl) y9 y10 z11 y12 y13 y14 y15 y16 y17 z18 z19 z20 z21 z22 .un) = .ok (.fo ((tl.map stT).map PyData.str)) (sL (stateD now en (houseD R ps sm) P tl) L y2 z3 now en (houseD R ps sm) (.tuple (P.map perD)) (.tuple tl) y9 y10 z11 y12 y13 y14 y15 y16 y17 z18 z19 z20 z21 z22 .un) := fun {L} => by
    have c := comp_map (fi := iSeq (oVar 8)) (g := gN 23) (elt := e1__law_drawn) (vs := [23]) (ρ := (sL (stateD now en (houseD R ps sm) P tl) L y2 z3 now en (houseD R ps sm) (.tuple (P.map perD)) (.tuple tl) y9 y10 z11 y12 y13 y14 y15 y16 y17 z18 z19 z20 z21 z22 .un)) (ρ0 := (sL (stateD now en (houseD R ps sm) P tl) L y2 z3 now en (houseD R ps sm) (.tuple (P.map perD)) (.tuple tl) y9 y10 z11 y12 y13 y14 y15 y16 y17 z18 z19 z20 z21 z22 .un)) (ds := tl) (fun d => .fz (.str (stT d))) rfl (fun d hd => by
      have e := r_law_word (ok.ktl d hd)
      refine ⟨sL (stateD now en (houseD R ps sm) P tl) L y2 z3 now en (houseD R ps sm) (.tuple (P.map perD)) (.tuple tl) y9 y10 z11 y12 y13 y14 y15 y16 y17 z18 z19 z20 z21 z22 (.vl d), sL (stateD now en (houseD R ps sm) P tl) L y2 z3 now en (houseD R ps sm) (.tuple (P.map perD)) (.tuple tl) y9 y10 z11 y12 y13 y14 y15 y16 y17 z18 z19 z20 z21 z22 (.vl d), rfl, ?_, rfl⟩
      unfold e1__law_drawn
      clear q1 q2 st0
      generalize runF 1 g__law_word = φ at e ⊢
      generalize stT d = X at *
      generalize (stateD now en (houseD R ps sm) P tl) = SS at *
      generalize houseD R ps sm = HH at *
      generalize PyData.tuple (P.map perD) = PP at *
      generalize PyData.tuple tl = TT at *
      simp [_root_.Z.runF_eq, _root_.Z.endF_nx, _root_.Z.endF_rt, _root_.Z.entry, _root_.Z.outsOf, _root_.Z.sSeq, _root_.Z.sNil, _root_.Z.sRet, _root_.Z.sRetV, _root_.Z.sSet, _root_.Z.sIf, _root_.Z.sExp, _root_.Z.sAsg, _root_.Z.setV, _root_.Z.oAnd, _root_.Z.oOr, _root_.Z.oNot, _root_.Z.oIte, _root_.Z.oApp, _root_.Z.oAppK, _root_.Z.aCons, _root_.Z.xO, _root_.Z.oVar, _root_.Z.oC, _root_.Z.xVar, _root_.Z.apF, _root_.Z.avOf, _root_.Z.Av.sl, _root_.Z.Va.sl, _root_.Z.odSl, _root_.Z.aft, _root_.Z.setOuts, _root_.Z.boolV, _root_.Z.Va.d, _root_.Z.oChn, _root_.Z.Od.get, _root_.Z.Sl.get, _root_.Z.ap1, _root_.Z.ap2, _root_.Z.f1, _root_.Z.f2, _root_.Z.fL, _root_.Z.fM, _root_.Z.apL, _root_.Z.getAll, _root_.Z.bNot, _root_.Z.bAnd, _root_.Z.bOr, _root_.Z.bX, _root_.Z.bOf, _root_.Z.truth, _root_.Z.oTup, _root_.Z.oLst, _root_.Z.oSeq, _root_.Z.datas, e]) (by have := ok.ktn; omega)
    rw [c, ← map_str]
    rfl
  have js := join_steps ok.ktl (Nat.le_trans ok.ktn (by omega))
  have a1 : pAdd (.str "told ") (.str (wordsT tl)) = some (.fz (.str (toldT tl))) := adds_ok (B := 5) (C := 110) ⟨by decide +kernel, by decide +kernel⟩ (sz_words ok) (by omega)
  have lsl : (linesT now en R ps sm P tl).length ≤ 22 := lines_len ok
  have el : (([.str (beatT now en)] ++ ((List.range' 0 R.length).map (roomT now R sm P)).map PyData.str) ++ ((List.range' 0 ps.length).map (pasnT now ps)).map PyData.str) ++ [PyData.str (toldT tl)] = (linesT now en R ps sm P tl).map PyData.str := by
    unfold linesT
    simp only [List.map_append, List.map_cons, List.map_nil]
  unfold g__law_drawn
  refine (seq_nx (asg_ok (va := .fz (stateD now en (houseD R ps sm) P tl)) rfl st0)).trans ?_
  refine (seq_nx (set_ok (va := .fo [.str (beatT now en)]) (ρ1 := (sL (stateD now en (houseD R ps sm) P tl) .un .un .un now en (houseD R ps sm) (.tuple (P.map perD)) (.tuple tl) .un .un .un .un .un .un .un .un .un .un .un .un .un .un .un)) (x := .un) ?_ rfl nt_un)).trans ?_
  · have b1 : Sz 5 ("beat " : Str) := ⟨by decide +kernel, by decide +kernel⟩
    have b2 : Sz 4 (" of " : Str) := ⟨by decide +kernel, by decide +kernel⟩
    have c1 := b1.app (sz_smN kn)
    have c2 := c1.app b2
    have p1 := adds_ok b1 (sz_smN kn) (by omega)
    have p2 := adds_ok c1 b2 (by omega)
    have p3 := adds_ok c2 (sz_smN ke) (by omega)
    have t1 := str_ok kn.1 kn.big
    have t2 := str_ok ke.1 ke.big
    clear q1 q2 c8 st0 el jd
    unfold beatT
    generalize (stateD now en (houseD R ps sm) P tl) = SS at *
    generalize houseD R ps sm = HH at *
    generalize PyData.tuple (P.map perD) = PP at *
    generalize PyData.tuple tl = TT at *
    generalize tx now = T1 at *
    generalize tx en = T2 at *
    generalize "beat " ++ T1 = U1 at *
    generalize U1 ++ " of " = U2 at *
    generalize U2 ++ T2 = U3 at *
    simp [_root_.Z.runF_eq, _root_.Z.endF_nx, _root_.Z.endF_rt, _root_.Z.entry, _root_.Z.outsOf, _root_.Z.sSeq, _root_.Z.sNil, _root_.Z.sRet, _root_.Z.sRetV, _root_.Z.sSet, _root_.Z.sIf, _root_.Z.sExp, _root_.Z.sAsg, _root_.Z.setV, _root_.Z.oAnd, _root_.Z.oOr, _root_.Z.oNot, _root_.Z.oIte, _root_.Z.oApp, _root_.Z.oAppK, _root_.Z.aCons, _root_.Z.xO, _root_.Z.oVar, _root_.Z.oC, _root_.Z.xVar, _root_.Z.apF, _root_.Z.avOf, _root_.Z.Av.sl, _root_.Z.Va.sl, _root_.Z.odSl, _root_.Z.aft, _root_.Z.setOuts, _root_.Z.boolV, _root_.Z.Va.d, _root_.Z.oChn, _root_.Z.Od.get, _root_.Z.Sl.get, _root_.Z.ap1, _root_.Z.ap2, _root_.Z.f1, _root_.Z.f2, _root_.Z.fL, _root_.Z.fM, _root_.Z.apL, _root_.Z.getAll, _root_.Z.bNot, _root_.Z.bAnd, _root_.Z.bOr, _root_.Z.bX, _root_.Z.bOf, _root_.Z.truth, _root_.Z.oTup, _root_.Z.oLst, _root_.Z.oSeq, _root_.Z.datas, t1, t2, p1, p2, p3, sizeLine]
  · refine (seq_nx ((for_ok (ρ1 := sL (stateD now en (houseD R ps sm) P tl) (.ow false [.str (beatT now en)]) .un .un now en (houseD R ps sm) (.tuple (P.map perD)) (.tuple tl) .un .un .un .un .un .un .un .un .un .un .un .un .un .un .un) (iArg_ok (d := .int (R.length : Nat)) ?_ (rng_idx (by omega)))).trans q1)).trans ?_
    · clear q1 q2 c8 st0 el jd
      generalize (stateD now en (houseD R ps sm) P tl) = SS at *
      generalize houseD R ps sm = HH at *
      generalize PyData.tuple (P.map perD) = PP at *
      generalize PyData.tuple tl = TT at *
      generalize PyData.tuple (dI R) = RR at *
      simp [_root_.Z.runF_eq, _root_.Z.endF_nx, _root_.Z.endF_rt, _root_.Z.entry, _root_.Z.outsOf, _root_.Z.sSeq, _root_.Z.sNil, _root_.Z.sRet, _root_.Z.sRetV, _root_.Z.sSet, _root_.Z.sIf, _root_.Z.sExp, _root_.Z.sAsg, _root_.Z.setV, _root_.Z.oAnd, _root_.Z.oOr, _root_.Z.oNot, _root_.Z.oIte, _root_.Z.oApp, _root_.Z.oAppK, _root_.Z.aCons, _root_.Z.xO, _root_.Z.oVar, _root_.Z.oC, _root_.Z.xVar, _root_.Z.apF, _root_.Z.avOf, _root_.Z.Av.sl, _root_.Z.Va.sl, _root_.Z.odSl, _root_.Z.aft, _root_.Z.setOuts, _root_.Z.boolV, _root_.Z.Va.d, _root_.Z.oChn, _root_.Z.Od.get, _root_.Z.Sl.get, _root_.Z.ap1, _root_.Z.ap2, _root_.Z.f1, _root_.Z.f2, _root_.Z.fL, _root_.Z.fM, _root_.Z.apL, _root_.Z.getAll, _root_.Z.bNot, _root_.Z.bAnd, _root_.Z.bOr, _root_.Z.bX, _root_.Z.bOf, _root_.Z.truth, _root_.Z.oTup, _root_.Z.oLst, _root_.Z.oSeq, _root_.Z.datas, h40, ln]
    · refine (seq_nx ((for_ok (ρ1 := sL (stateD now en (houseD R ps sm) P tl) (.ow false ([.str (beatT now en)] ++ ((List.range' 0 R.length).map (roomT now R sm P)).map PyData.str)) y2 .un now en (houseD R ps sm) (.tuple (P.map perD)) (.tuple tl) y9 y10 y11 y12 y13 y14 y15 y16 y17 .un .un .un .un .un .un) (iArg_ok (d := .int (ps.length : Nat)) ?_ (rng_idx (by omega)))).trans q2)).trans ?_
      · clear q1 q2 c8 st0 el jd
        generalize [PyData.str (beatT now en)] ++ ((List.range' 0 R.length).map (roomT now R sm P)).map PyData.str = LL at *
        generalize (stateD now en (houseD R ps sm) P tl) = SS at *
        generalize houseD R ps sm = HH at *
        generalize PyData.tuple (P.map perD) = PP at *
        generalize PyData.tuple tl = TT at *
        generalize PyData.tuple (ps.map pasD) = RR at *
        simp [_root_.Z.runF_eq, _root_.Z.endF_nx, _root_.Z.endF_rt, _root_.Z.entry, _root_.Z.outsOf, _root_.Z.sSeq, _root_.Z.sNil, _root_.Z.sRet, _root_.Z.sRetV, _root_.Z.sSet, _root_.Z.sIf, _root_.Z.sExp, _root_.Z.sAsg, _root_.Z.setV, _root_.Z.oAnd, _root_.Z.oOr, _root_.Z.oNot, _root_.Z.oIte, _root_.Z.oApp, _root_.Z.oAppK, _root_.Z.aCons, _root_.Z.xO, _root_.Z.oVar, _root_.Z.oC, _root_.Z.xVar, _root_.Z.apF, _root_.Z.avOf, _root_.Z.Av.sl, _root_.Z.Va.sl, _root_.Z.odSl, _root_.Z.aft, _root_.Z.setOuts, _root_.Z.boolV, _root_.Z.Va.d, _root_.Z.oChn, _root_.Z.Od.get, _root_.Z.Sl.get, _root_.Z.ap1, _root_.Z.ap2, _root_.Z.f1, _root_.Z.f2, _root_.Z.fL, _root_.Z.fM, _root_.Z.apL, _root_.Z.getAll, _root_.Z.bNot, _root_.Z.bAnd, _root_.Z.bOr, _root_.Z.bX, _root_.Z.bOf, _root_.Z.truth, _root_.Z.oTup, _root_.Z.oLst, _root_.Z.oSeq, _root_.Z.datas, h41, lp]
      · refine seq_rt (ret_ok ?_)
        have pl : pAdd (.list (([.str (beatT now en)] ++ ((List.range' 0 R.length).map (roomT now R sm P)).map PyData.str) ++ ((List.range' 0 ps.length).map (pasnT now ps)).map PyData.str)) (.list [PyData.str (toldT tl)]) = some (.fo ((linesT now en R ps sm P tl).map PyData.str)) := by
          rw [← el]
          refine if_pos ?_
          have h := congrArg List.length el
          rw [List.length_append, List.length_map] at h
          omega
        clear q1 q2 st0 el
        have ne : pNeZ (.tuple tl) (.tuple []) = some (.fz (.bool (!tl.isEmpty))) := by
          have sh : SeqAt.shaped (.tuple tl) = true := by
            have q : ∀ {ds : List D}, (∀ d ∈ ds, stOk d) → PyData.canLayAll0 ds = true ∧ PyData.depthAll ds = 0 := fun {ds} h => by
              induction ds with
              | nil => exact ⟨rfl, rfl⟩
              | cons d ds ih =>
                obtain ⟨i1, i2⟩ := ih fun e he => h e (List.mem_cons_of_mem _ he)
                have e1 : PyData.canLay0 d = true ∧ PyData.depth d = 0 := by
                  rcases h d List.mem_cons_self with rfl | rfl | ⟨n, _, rfl⟩
                  · exact ⟨rfl, rfl⟩
                  · exact ⟨by decide +kernel, rfl⟩
                  · exact ⟨rfl, rfl⟩
                exact ⟨by show (PyData.canLay0 d && PyData.canLayAll0 ds) = true; rw [e1.1, i1]; rfl, by show max (PyData.depth d) (PyData.depthAll ds) = 0; rw [e1.2, i2]; rfl⟩
            obtain ⟨i1, i2⟩ := q ok.ktl
            unfold SeqAt.shaped
            rw [show PyData.canLay0 (.tuple tl) = PyData.canLayAll0 tl by simp [PyData.canLay0], i1, show PyData.depth (.tuple tl) = PyData.depthAll tl + 1 by simp [PyData.depth], i2]
            rfl
          show (if _ then _ else _) = _
          rw [if_pos ⟨sh, rfl⟩]
          cases tl <;> simp [PyData.eqv, PyData.eqvAll]
        have ew : (wordsT tl) = (if tl.isEmpty = true then ("-" : Str) else Txt.join (" " : Str) (tl.map stT) : Str) := by unfold wordsT; cases tl <;> rfl
        rw [ew] at a1
        show oJoin (xO (oC (.str "\n"))) _ (sL (stateD now en (houseD R ps sm) P tl) (.ow false (([.str (beatT now en)] ++ ((List.range' 0 R.length).map (roomT now R sm P)).map PyData.str) ++ ((List.range' 0 ps.length).map (pasnT now ps)).map PyData.str)) y2 z3 now en (houseD R ps sm) (.tuple (P.map perD)) (.tuple tl) y9 y10 z11 y12 y13 y14 y15 y16 y17 z18 z19 z20 z21 z22 .un) = Rz.ok (.fz (.str (drawT now en R ps sm P tl))) (sL (stateD now en (houseD R ps sm) P tl) (.ow false (([.str (beatT now en)] ++ ((List.range' 0 R.length).map (roomT now R sm P)).map PyData.str) ++ ((List.range' 0 ps.length).map (pasnT now ps)).map PyData.str)) y2 z3 now en (houseD R ps sm) (.tuple (P.map perD)) (.tuple tl) y9 y10 z11 y12 y13 y14 y15 y16 y17 z18 z19 z20 z21 z22 .un)
        generalize oComp (iSeq (oVar 8)) (gN 23) bYes e1__law_drawn [23] = κ at c8 ⊢
        generalize ([PyData.str (beatT now en)] ++ ((List.range' 0 R.length).map (roomT now R sm P)).map PyData.str) ++ ((List.range' 0 ps.length).map (pasnT now ps)).map PyData.str = LL at *
        generalize (linesT now en R ps sm P tl).map PyData.str = L2' at *
        generalize drawT now en R ps sm P tl = DT at *
        generalize (stateD now en (houseD R ps sm) P tl) = SS at *
        generalize houseD R ps sm = HH at *
        generalize PyData.tuple (P.map perD) = PP at *
        generalize toldT tl = tt at *
        generalize Txt.join " " (tl.map stT) = J at *
        generalize (tl.map stT).map PyData.str = J2 at *
        generalize tl.isEmpty = te at *
        generalize PyData.tuple tl = TT at *
        have c9 := @c8 (.ow false LL)
        cases te <;> simp at a1 <;> simp [_root_.Z.runF_eq, _root_.Z.endF_nx, _root_.Z.endF_rt, _root_.Z.entry, _root_.Z.outsOf, _root_.Z.sSeq, _root_.Z.sNil, _root_.Z.sRet, _root_.Z.sRetV, _root_.Z.sSet, _root_.Z.sIf, _root_.Z.sExp, _root_.Z.sAsg, _root_.Z.setV, _root_.Z.oAnd, _root_.Z.oOr, _root_.Z.oNot, _root_.Z.oIte, _root_.Z.oApp, _root_.Z.oAppK, _root_.Z.aCons, _root_.Z.xO, _root_.Z.oVar, _root_.Z.oC, _root_.Z.xVar, _root_.Z.apF, _root_.Z.avOf, _root_.Z.Av.sl, _root_.Z.Va.sl, _root_.Z.odSl, _root_.Z.aft, _root_.Z.setOuts, _root_.Z.boolV, _root_.Z.Va.d, _root_.Z.oChn, _root_.Z.Od.get, _root_.Z.Sl.get, _root_.Z.ap1, _root_.Z.ap2, _root_.Z.f1, _root_.Z.f2, _root_.Z.fL, _root_.Z.fM, _root_.Z.apL, _root_.Z.getAll, _root_.Z.bNot, _root_.Z.bAnd, _root_.Z.bOr, _root_.Z.bX, _root_.Z.bOf, _root_.Z.truth, _root_.Z.oTup, _root_.Z.oLst, _root_.Z.oSeq, _root_.Z.datas, oJoin, isStr, c9, js, ne, a1, pl, jd, sizeLine]
end
end ZH

namespace ZH
open PySem PySem.Spec PyProof.Rows L2 Z
theorem xVar_ow {ρ : En} {i : Nat} {p : Bool} {ds : List D} (h : ρ[i]? = some (.ow p ds)) : xVar i ρ = .ok (.sl i) ρ := by
  have e : (Od.sl i).get ρ = some (.list ds) := by simp only [Od.get, h, Sl.get]
  show (match (Od.sl i).get ρ with
    | some _ => Rz.ok (Od.sl i) ρ
    | none => Rz.no) = _
  rw [e]
theorem app_sv {φ : List Av → Rc} {fe : En → Rz Va} {ρ ρ1 : En} {i : Nat} {p0 p : Bool} {ds0 ds ds' : List D} {va r : Va} {w : D} (h0 : ρ[i]? = some (.ow p0 ds0)) (hf : fe ρ = .ok va ρ1) (h1 : ρ1[i]? = some (.ow p ds)) (e : φ [.o ds, .v va.d] = .ok r [.o ds', .v w]) :
    oApp 2 φ (aCons (xVar i) (aCons (xO fe) (fun ρ => .ok [] ρ))) ρ = .ok r (ρ1.set i (.ow p ds')) := by
  unfold oApp aCons xO
  rw [xVar_ow h0]
  simp only [Rz.bind_ok, hf]
  unfold apF
  have e1 : avOf ρ1 [.sl i, .da va.d] = some [.o ds, .v va.d] := by simp only [avOf, h1]; rfl
  rw [e1]
  simp only []
  rw [if_pos ⟨rfl, by simp [odSl]⟩, e]
  have e2 : setOuts ρ1 [.sl i, .da va.d] [.o ds', .v w] = some (ρ1.set i (.ow p ds')) := by simp only [setOuts, h1]
  show (match setOuts ρ1 [.sl i, .da va.d] [.o ds', .v w] with
    | some ρ' => Rz.ok r ρ'
    | none => .no) = _
  rw [e2]
theorem take_app {fe : En → Rz Va} {ρ ρ1 : En} {i : Nat} {p0 p : Bool} {ds0 : List D} {a b m : Int} (h0 : ρ[i]? = some (.ow p0 ds0)) (hf : fe ρ = .ok (.fz (.int m)) ρ1) (h1 : ρ1[i]? = some (.ow p (bx a b))) (hb : BoxOk b) (hm : 0 < m) (hm2 : m < 2 ^ 39) :
    ∃ r a' b', (0 ≤ r ∧ r < m) ∧ BoxOk b' ∧ oApp 2 (runF 4 g__law_take) (aCons (xVar i) (aCons (xO fe) (fun ρ => .ok [] ρ))) ρ = .ok (.fz (.int r)) (ρ1.set i (.ow p (bx a' b'))) := by
  obtain ⟨r, a', b', r0, r1, hb', e⟩ := r_take (a := a) hb hm hm2
  exact ⟨r, a', b', ⟨r0, r1⟩, hb', app_sv h0 hf h1 e⟩
theorem pick_app {fe : En → Rz Va} {ρ ρ1 : En} {i : Nat} {p0 p : Bool} {ds0 ds : List D} {a b : Int} {va : Va} (h0 : ρ[i]? = some (.ow p0 ds0)) (hf : fe ρ = .ok va ρ1) (hv : va.d = .list ds) (h1 : ρ1[i]? = some (.ow p (bx a b))) (hb : BoxOk b) (hd : ds ≠ []) (hl : ds.length ≤ 1000) :
    ∃ d a' b', d ∈ ds ∧ BoxOk b' ∧ oApp 2 (runF 2 g__law_pick) (aCons (xVar i) (aCons (xO fe) (fun ρ => .ok [] ρ))) ρ = .ok (.fz d) (ρ1.set i (.ow p (bx a' b'))) := by
  obtain ⟨d, a', b', hd', hb', e⟩ := r_pick (a := a) hb hd hl
  exact ⟨d, a', b', hd', hb', app_sv h0 hf h1 (by rw [hv]; exact e)⟩
abbrev sH (a b : Int) (x1 x2 x3 x4 x5 x6 x7 x8 x9 x10 : Sl) : En := [.ow true (bx a b), x1, x2, x3, x4, x5, x6, x7, x8, x9, x10]
/-- a number among written ones -/
theorem ints4 {d : D} {a b c e : Int} (h : d ∈ [PyData.int a, .int b, .int c, .int e]) : ∃ i, d = .int i ∧ (i = a ∨ i = b ∨ i = c ∨ i = e) := by
  simp only [List.mem_cons, List.not_mem_nil, or_false] at h
  rcases h with rfl | rfl | rfl | rfl <;> simp
theorem ints5 {d : D} {a b c e f : Int} (h : d ∈ [PyData.int a, .int b, .int c, .int e, .int f]) : ∃ i, d = .int i ∧ (i = a ∨ i = b ∨ i = c ∨ i = e ∨ i = f) := by
  simp only [List.mem_cons, List.not_mem_nil, or_false] at h
  rcases h with rfl | rfl | rfl | rfl | rfl <;> simp
theorem rooms_ok {a b : Int} (hb : BoxOk b) : ∃ a' b' R, BoxOk b' ∧ (2 ≤ R.length ∧ R.length ≤ 5) ∧
    (f2 pAdd (xO (oComp (iArg iRange1 (aCons (xO (f2 pAdd (xO (oC (.int 1))) (xO (oApp 2 (runF 4 g__law_take) (aCons (xVar 0) (aCons (xO (oC (.int 4))) (fun ρ => .ok [] ρ))))))) (fun ρ => .ok [] ρ))) (gN 9) bYes e5__law_house [9])) (xO (oLst (aCons (xO (oApp 2 (runF 2 g__law_pick) (aCons (xVar 0) (aCons (xO (oLst (aCons (xO (oC (.int 1))) (aCons (xO (oC (.int 1))) (aCons (xO (oC (.int 1))) (aCons (xO (oC (.int 0))) (fun ρ => .ok [] ρ))))))) (fun ρ => .ok [] ρ))))) (fun ρ => .ok [] ρ))))) (sH a b .un .un .un .un .un .un .un .un .un .un) = .ok (.fo (dI R)) (sH a' b' .un .un .un .un .un .un .un .un .un .un) := by
  obtain ⟨r, a1, b1, ⟨r0, r1⟩, hb1, e1⟩ := take_app (fe := oC (.int 4)) (ρ := sH a b .un .un .un .un .un .un .un .un .un .un) (i := 0) (m := 4) rfl rfl rfl hb (by omega) (by omega)
  obtain ⟨n, hn⟩ := Int.eq_ofNat_of_zero_le (show 0 ≤ 1 + r by omega)
  have hn5 : 1 ≤ n ∧ n ≤ 4 := by omega
  have pa : pAdd (.int 1) (.int r) = some (.fz (.int (n : Nat))) := by rw [← hn]; rfl
  have c := compL_all (g := gN 9) (elt := e5__law_house) (vs := [9]) (I := fun ρ => ∃ a' b', BoxOk b' ∧ ρ = sH a' b' .un .un .un .un .un .un .un .un .un .un) (Q := fun d => ∃ i, d = PyData.int i) (idxs 0 n) [] (sH a1 b1 .un .un .un .un .un .un .un .un .un .un) (fun d hd ρ hρ => by
    obtain ⟨a', b', hb', rfl⟩ := hρ
    obtain ⟨v, a2, b2, hv, hb2, e⟩ := pick_app (fe := oLst (aCons (xO (oC (.int 0))) (aCons (xO (oC (.int 0))) (aCons (xO (oC (.int 0))) (aCons (xO (oC (.int 1))) (fun ρ => .ok [] ρ)))))) (ρ := sH a' b' .un .un .un .un .un .un .un .un (.vl d) .un) (ρ1 := sH a' b' .un .un .un .un .un .un .un .un (.vl d) .un) (i := 0) (va := .fo [.int 0, .int 0, .int 0, .int 1]) (ds := [.int 0, .int 0, .int 0, .int 1]) rfl (by simp [_root_.Z.runF_eq, _root_.Z.endF_nx, _root_.Z.endF_rt, _root_.Z.entry, _root_.Z.outsOf, _root_.Z.sSeq, _root_.Z.sNil, _root_.Z.sRet, _root_.Z.sRetV, _root_.Z.sSet, _root_.Z.sIf, _root_.Z.sExp, _root_.Z.sAsg, _root_.Z.setV, _root_.Z.oAnd, _root_.Z.oOr, _root_.Z.oNot, _root_.Z.oIte, _root_.Z.oApp, _root_.Z.oAppK, _root_.Z.aCons, _root_.Z.xO, _root_.Z.oVar, _root_.Z.oC, _root_.Z.xVar, _root_.Z.apF, _root_.Z.avOf, _root_.Z.Av.sl, _root_.Z.Va.sl, _root_.Z.odSl, _root_.Z.aft, _root_.Z.setOuts, _root_.Z.boolV, _root_.Z.Va.d, _root_.Z.oChn, _root_.Z.Od.get, _root_.Z.Sl.get, _root_.Z.ap1, _root_.Z.ap2, _root_.Z.f1, _root_.Z.f2, _root_.Z.fL, _root_.Z.fM, _root_.Z.apL, _root_.Z.getAll, _root_.Z.bNot, _root_.Z.bAnd, _root_.Z.bOr, _root_.Z.bX, _root_.Z.bOf, _root_.Z.truth, _root_.Z.oTup, _root_.Z.oLst, _root_.Z.oSeq, _root_.Z.datas, sizeLine]) rfl rfl hb' (by simp) (by simp)
    obtain ⟨i, rfl, _⟩ := ints4 hv
    exact ⟨sH a' b' .un .un .un .un .un .un .un .un (.vl d) .un, .fz (.int i), _, rfl, e, ⟨i, rfl⟩, a2, b2, hb2, rfl⟩) ⟨a1, b1, hb1, rfl⟩ (by rw [idxs_len]; have := line_big; simp; omega)
  obtain ⟨out, ρ', h1, ⟨a2, b2, hb2, rfl⟩, h3, h4⟩ := c
  obtain ⟨R0, rfl⟩ := all_ints (ds := out) fun e he => by obtain ⟨i, rfl⟩ := h4 e he; rfl
  obtain ⟨v, a3, b3, hv, hb3, e3⟩ := pick_app (fe := oLst (aCons (xO (oC (.int 1))) (aCons (xO (oC (.int 1))) (aCons (xO (oC (.int 1))) (aCons (xO (oC (.int 0))) (fun ρ => .ok [] ρ)))))) (ρ := sH a2 b2 .un .un .un .un .un .un .un .un .un .un) (ρ1 := sH a2 b2 .un .un .un .un .un .un .un .un .un .un) (i := 0) (va := .fo [.int 1, .int 1, .int 1, .int 0]) (ds := [.int 1, .int 1, .int 1, .int 0]) rfl (by simp [_root_.Z.runF_eq, _root_.Z.endF_nx, _root_.Z.endF_rt, _root_.Z.entry, _root_.Z.outsOf, _root_.Z.sSeq, _root_.Z.sNil, _root_.Z.sRet, _root_.Z.sRetV, _root_.Z.sSet, _root_.Z.sIf, _root_.Z.sExp, _root_.Z.sAsg, _root_.Z.setV, _root_.Z.oAnd, _root_.Z.oOr, _root_.Z.oNot, _root_.Z.oIte, _root_.Z.oApp, _root_.Z.oAppK, _root_.Z.aCons, _root_.Z.xO, _root_.Z.oVar, _root_.Z.oC, _root_.Z.xVar, _root_.Z.apF, _root_.Z.avOf, _root_.Z.Av.sl, _root_.Z.Va.sl, _root_.Z.odSl, _root_.Z.aft, _root_.Z.setOuts, _root_.Z.boolV, _root_.Z.Va.d, _root_.Z.oChn, _root_.Z.Od.get, _root_.Z.Sl.get, _root_.Z.ap1, _root_.Z.ap2, _root_.Z.f1, _root_.Z.f2, _root_.Z.fL, _root_.Z.fM, _root_.Z.apL, _root_.Z.getAll, _root_.Z.bNot, _root_.Z.bAnd, _root_.Z.bOr, _root_.Z.bX, _root_.Z.bOf, _root_.Z.truth, _root_.Z.oTup, _root_.Z.oLst, _root_.Z.oSeq, _root_.Z.datas, sizeLine]) rfl rfl hb2 (by simp) (by simp)
  obtain ⟨i, rfl, _⟩ := ints4 hv
  have lR : R0.length = n := by rw [dI_len, idxs_len] at h3; exact h3
  refine ⟨a3, b3, R0 ++ [i], hb3, by simp only [List.length_append, List.length_singleton]; omega, ?_⟩
  have hi := iArg_ok (fl := (aCons (xO (f2 pAdd (xO (oC (.int 1))) (xO (oApp 2 (runF 4 g__law_take) (aCons (xVar 0) (aCons (xO (oC (.int 4))) (fun ρ => .ok [] ρ))))))) (fun ρ => .ok [] ρ))) (ρ := sH a b .un .un .un .un .un .un .un .un .un .un) (ρ1 := sH a1 b1 .un .un .un .un .un .un .un .un .un .un) (d := .int (n : Nat)) (by
    have e1 : oApp 2 (runF 4 g__law_take) (aCons (xVar 0) (aCons (xO (oC (.int 4))) (fun ρ => .ok [] ρ))) (sH a b .un .un .un .un .un .un .un .un .un .un) = .ok (.fz (.int r)) (sH a1 b1 .un .un .un .un .un .un .un .un .un .un) := e1
    generalize oApp 2 (runF 4 g__law_take) (aCons (xVar 0) (aCons (xO (oC (.int 4))) (fun ρ => .ok [] ρ))) = κ at e1 ⊢
    generalize ((n : Nat) : Int) = N at *
    simp [_root_.Z.runF_eq, _root_.Z.endF_nx, _root_.Z.endF_rt, _root_.Z.entry, _root_.Z.outsOf, _root_.Z.sSeq, _root_.Z.sNil, _root_.Z.sRet, _root_.Z.sRetV, _root_.Z.sSet, _root_.Z.sIf, _root_.Z.sExp, _root_.Z.sAsg, _root_.Z.setV, _root_.Z.oAnd, _root_.Z.oOr, _root_.Z.oNot, _root_.Z.oIte, _root_.Z.oApp, _root_.Z.oAppK, _root_.Z.aCons, _root_.Z.xO, _root_.Z.oVar, _root_.Z.oC, _root_.Z.xVar, _root_.Z.apF, _root_.Z.avOf, _root_.Z.Av.sl, _root_.Z.Va.sl, _root_.Z.odSl, _root_.Z.aft, _root_.Z.setOuts, _root_.Z.boolV, _root_.Z.Va.d, _root_.Z.oChn, _root_.Z.Od.get, _root_.Z.Sl.get, _root_.Z.ap1, _root_.Z.ap2, _root_.Z.f1, _root_.Z.f2, _root_.Z.fL, _root_.Z.fM, _root_.Z.apL, _root_.Z.getAll, _root_.Z.bNot, _root_.Z.bAnd, _root_.Z.bOr, _root_.Z.bX, _root_.Z.bOf, _root_.Z.truth, _root_.Z.oTup, _root_.Z.oLst, _root_.Z.oSeq, _root_.Z.datas, e1, pa]) (rng_idx (n := n) (by omega))
  have cc : oComp (iArg iRange1 (aCons (xO (f2 pAdd (xO (oC (.int 1))) (xO (oApp 2 (runF 4 g__law_take) (aCons (xVar 0) (aCons (xO (oC (.int 4))) (fun ρ => .ok [] ρ))))))) (fun ρ => .ok [] ρ))) (gN 9) bYes e5__law_house [9] (sH a b .un .un .un .un .un .un .un .un .un .un) = .ok (.fo (dI R0)) (sH a2 b2 .un .un .un .un .un .un .un .un .un .un) := by
    unfold oComp
    rw [hi]
    simp only [Rz.bind_ok, h1]
    rfl
  have e3 : oApp 2 (runF 2 g__law_pick) (aCons (xVar 0) (aCons (xO (oLst (aCons (xO (oC (.int 1))) (aCons (xO (oC (.int 1))) (aCons (xO (oC (.int 1))) (aCons (xO (oC (.int 0))) (fun ρ => .ok [] ρ))))))) (fun ρ => .ok [] ρ))) (sH a2 b2 .un .un .un .un .un .un .un .un .un .un) = .ok (.fz (.int i)) (sH a3 b3 .un .un .un .un .un .un .un .un .un .un) := e3
  have p2 : pAdd (.list (dI R0)) (.list [.int i]) = some (.fo (dI (R0 ++ [i]))) := by
    have e : dI (R0 ++ [i]) = dI R0 ++ [.int i] := by unfold dI; simp
    rw [e]
    exact if_pos (by rw [dI_len]; have := line_big; simp; omega)
  generalize oComp (iArg iRange1 (aCons (xO (f2 pAdd (xO (oC (.int 1))) (xO (oApp 2 (runF 4 g__law_take) (aCons (xVar 0) (aCons (xO (oC (.int 4))) (fun ρ => .ok [] ρ))))))) (fun ρ => .ok [] ρ))) (gN 9) bYes e5__law_house [9] = κ1 at cc ⊢
  generalize oApp 2 (runF 2 g__law_pick) (aCons (xVar 0) (aCons (xO (oLst (aCons (xO (oC (.int 1))) (aCons (xO (oC (.int 1))) (aCons (xO (oC (.int 1))) (aCons (xO (oC (.int 0))) (fun ρ => .ok [] ρ))))))) (fun ρ => .ok [] ρ))) = κ2 at e3 ⊢
  generalize dI (R0 ++ [i]) = L at *
  generalize dI R0 = L0 at *
  simp [_root_.Z.runF_eq, _root_.Z.endF_nx, _root_.Z.endF_rt, _root_.Z.entry, _root_.Z.outsOf, _root_.Z.sSeq, _root_.Z.sNil, _root_.Z.sRet, _root_.Z.sRetV, _root_.Z.sSet, _root_.Z.sIf, _root_.Z.sExp, _root_.Z.sAsg, _root_.Z.setV, _root_.Z.oAnd, _root_.Z.oOr, _root_.Z.oNot, _root_.Z.oIte, _root_.Z.oApp, _root_.Z.oAppK, _root_.Z.aCons, _root_.Z.xO, _root_.Z.oVar, _root_.Z.oC, _root_.Z.xVar, _root_.Z.apF, _root_.Z.avOf, _root_.Z.Av.sl, _root_.Z.Va.sl, _root_.Z.odSl, _root_.Z.aft, _root_.Z.setOuts, _root_.Z.boolV, _root_.Z.Va.d, _root_.Z.oChn, _root_.Z.Od.get, _root_.Z.Sl.get, _root_.Z.ap1, _root_.Z.ap2, _root_.Z.f1, _root_.Z.f2, _root_.Z.fL, _root_.Z.fM, _root_.Z.apL, _root_.Z.getAll, _root_.Z.bNot, _root_.Z.bAnd, _root_.Z.bOr, _root_.Z.bX, _root_.Z.bOf, _root_.Z.truth, _root_.Z.oTup, _root_.Z.oLst, _root_.Z.oSeq, _root_.Z.datas, cc, e3, p2, sizeLine]
end ZH

namespace ZH
open PySem PySem.Spec PyProof.Rows L2 Z
/-- the rooms inside -/
def insD (R : List Int) : List D := (idxs 0 R.length).filter fun d => match d with
  | .int i => decide (R[i.toNat]?.getD 0 = 0)
  | _ => false
theorem insD_mem {R : List Int} {d : D} (h : d ∈ insD R) : ∃ i : Nat, i < R.length ∧ d = .int (i : Nat) := by
  obtain ⟨i, _, hi, rfl⟩ := idxs_mem (List.mem_filter.mp h).1
  exact ⟨i, by omega, rfl⟩
theorem insD_len (R : List Int) : (insD R).length ≤ R.length := by
  have := List.length_filter_le (fun d => match d with | PyData.int i => decide (R[i.toNat]?.getD 0 = 0) | _ => false) (idxs 0 R.length)
  rw [idxs_len] at this
  exact this
theorem at_lst {ds : List D} {r : Nat} {d : D} (h : ds[r]? = some d) : pIx (.list ds) (.int (r : Nat)) = some (.fz d) := by
  show (L2.atI ds (r : Int)).map Va.fz = _
  rw [L2.atI_nat h]
  rfl
theorem len_lst (R : List Int) : pLen [.list (dI R)] = some (.fz (.int (R.length : Nat))) := by
  show some (Va.fz (.int ((dI R).length : Nat))) = _
  rw [dI_len]
theorem ins_ok {a b : Int} {R : List Int} (hR : R.length ≤ 5) : oComp (iArg iRange1 (aCons (xO (fL pLen (aCons (xVar 1) (fun ρ => .ok [] ρ)))) (fun ρ => .ok [] ρ))) (gN 9) c4__law_house (oVar 9) [9] (sH a b (.ow false (dI R)) .un .un .un .un .un .un .un .un .un) = .ok (.fo (insD R)) (sH a b (.ow false (dI R)) .un .un .un .un .un .un .un .un .un) := by
  have ln := len_lst R
  exact comp_filter (fi := iArg iRange1 (aCons (xO (fL pLen (aCons (xVar 1) (fun ρ => .ok [] ρ)))) (fun ρ => .ok [] ρ))) (g := gN 9) (cond := c4__law_house) (elt := oVar 9) (vs := [9]) (ρ := sH a b (.ow false (dI R)) .un .un .un .un .un .un .un .un .un) (ρ0 := sH a b (.ow false (dI R)) .un .un .un .un .un .un .un .un .un) (ds := idxs 0 R.length) _ (iArg_ok (d := .int (R.length : Nat)) (by
    generalize dI R = L at *
    simp [_root_.Z.runF_eq, _root_.Z.endF_nx, _root_.Z.endF_rt, _root_.Z.entry, _root_.Z.outsOf, _root_.Z.sSeq, _root_.Z.sNil, _root_.Z.sRet, _root_.Z.sRetV, _root_.Z.sSet, _root_.Z.sIf, _root_.Z.sExp, _root_.Z.sAsg, _root_.Z.setV, _root_.Z.oAnd, _root_.Z.oOr, _root_.Z.oNot, _root_.Z.oIte, _root_.Z.oApp, _root_.Z.oAppK, _root_.Z.aCons, _root_.Z.xO, _root_.Z.oVar, _root_.Z.oC, _root_.Z.xVar, _root_.Z.apF, _root_.Z.avOf, _root_.Z.Av.sl, _root_.Z.Va.sl, _root_.Z.odSl, _root_.Z.aft, _root_.Z.setOuts, _root_.Z.boolV, _root_.Z.Va.d, _root_.Z.oChn, _root_.Z.Od.get, _root_.Z.Sl.get, _root_.Z.ap1, _root_.Z.ap2, _root_.Z.f1, _root_.Z.f2, _root_.Z.fL, _root_.Z.fM, _root_.Z.apL, _root_.Z.getAll, _root_.Z.bNot, _root_.Z.bAnd, _root_.Z.bOr, _root_.Z.bX, _root_.Z.bOf, _root_.Z.truth, _root_.Z.oTup, _root_.Z.oLst, _root_.Z.oSeq, _root_.Z.datas, ln]) (rng_idx (by omega))) (fun d hd => by
    obtain ⟨i, _, hi, rfl⟩ := idxs_mem hd
    have hi : i < R.length := by omega
    have ix : pIx (.list (dI R)) (.int (i : Nat)) = some (.fz (.int (R[i]?.getD 0))) := at_lst (by unfold dI; rw [List.getElem?_map, List.getElem?_eq_getElem hi]; rfl)
    have k := eq_int (R[i]?.getD 0) 0
    refine ⟨sH a b (.ow false (dI R)) .un .un .un .un .un .un .un (.vl (.int (i : Nat))) .un, sH a b (.ow false (dI R)) .un .un .un .un .un .un .un (.vl (.int (i : Nat))) .un, sH a b (.ow false (dI R)) .un .un .un .un .un .un .un (.vl (.int (i : Nat))) .un, rfl, ?_, rfl, rfl, rfl⟩
    unfold c4__law_house
    simp only [Int.toNat_natCast]
    by_cases hq : R[i]?.getD 0 = 0
    · rw [decide_eq_true hq] at k ⊢
      generalize dI R = L at *
      generalize ((i : Nat) : Int) = I at *
      simp [_root_.Z.runF_eq, _root_.Z.endF_nx, _root_.Z.endF_rt, _root_.Z.entry, _root_.Z.outsOf, _root_.Z.sSeq, _root_.Z.sNil, _root_.Z.sRet, _root_.Z.sRetV, _root_.Z.sSet, _root_.Z.sIf, _root_.Z.sExp, _root_.Z.sAsg, _root_.Z.setV, _root_.Z.oAnd, _root_.Z.oOr, _root_.Z.oNot, _root_.Z.oIte, _root_.Z.oApp, _root_.Z.oAppK, _root_.Z.aCons, _root_.Z.xO, _root_.Z.oVar, _root_.Z.oC, _root_.Z.xVar, _root_.Z.apF, _root_.Z.avOf, _root_.Z.Av.sl, _root_.Z.Va.sl, _root_.Z.odSl, _root_.Z.aft, _root_.Z.setOuts, _root_.Z.boolV, _root_.Z.Va.d, _root_.Z.oChn, _root_.Z.Od.get, _root_.Z.Sl.get, _root_.Z.ap1, _root_.Z.ap2, _root_.Z.f1, _root_.Z.f2, _root_.Z.fL, _root_.Z.fM, _root_.Z.apL, _root_.Z.getAll, _root_.Z.bNot, _root_.Z.bAnd, _root_.Z.bOr, _root_.Z.bX, _root_.Z.bOf, _root_.Z.truth, _root_.Z.oTup, _root_.Z.oLst, _root_.Z.oSeq, _root_.Z.datas, ix, k]
    · rw [decide_eq_false hq] at k ⊢
      generalize dI R = L at *
      generalize ((i : Nat) : Int) = I at *
      simp [_root_.Z.runF_eq, _root_.Z.endF_nx, _root_.Z.endF_rt, _root_.Z.entry, _root_.Z.outsOf, _root_.Z.sSeq, _root_.Z.sNil, _root_.Z.sRet, _root_.Z.sRetV, _root_.Z.sSet, _root_.Z.sIf, _root_.Z.sExp, _root_.Z.sAsg, _root_.Z.setV, _root_.Z.oAnd, _root_.Z.oOr, _root_.Z.oNot, _root_.Z.oIte, _root_.Z.oApp, _root_.Z.oAppK, _root_.Z.aCons, _root_.Z.xO, _root_.Z.oVar, _root_.Z.oC, _root_.Z.xVar, _root_.Z.apF, _root_.Z.avOf, _root_.Z.Av.sl, _root_.Z.Va.sl, _root_.Z.odSl, _root_.Z.aft, _root_.Z.setOuts, _root_.Z.boolV, _root_.Z.Va.d, _root_.Z.oChn, _root_.Z.Od.get, _root_.Z.Sl.get, _root_.Z.ap1, _root_.Z.ap2, _root_.Z.f1, _root_.Z.f2, _root_.Z.fL, _root_.Z.fM, _root_.Z.apL, _root_.Z.getAll, _root_.Z.bNot, _root_.Z.bAnd, _root_.Z.bOr, _root_.Z.bX, _root_.Z.bOf, _root_.Z.truth, _root_.Z.oTup, _root_.Z.oLst, _root_.Z.oSeq, _root_.Z.datas, ix, k]) (by rw [idxs_len]; have := line_big; omega)
/-! ### the passages, one by one -/
theorem c2h_ok {a b : Int} (hb : BoxOk b) {x1 x2 x3 x4 x5 x6 x7 x8 x9 d : _} : ∃ k a' b', BoxOk b' ∧ c2__law_house (sH a b x1 x2 x3 x4 x5 x6 x7 x8 x9 d) = .ok k (sH a' b' x1 x2 x3 x4 x5 x6 x7 x8 x9 d) := by
  obtain ⟨r, a1, b1, _, hb1, e1⟩ := take_app (fe := oC (.int 5)) (ρ := sH a b x1 x2 x3 x4 x5 x6 x7 x8 x9 d) (i := 0) (m := 5) rfl rfl rfl hb (by omega) (by omega)
  have e1 : oApp 2 (runF 4 g__law_take) (aCons (xVar 0) (aCons (xO (oC (.int 5))) (fun ρ => .ok [] ρ))) (sH a b x1 x2 x3 x4 x5 x6 x7 x8 x9 d) = .ok (.fz (.int r)) (sH a1 b1 x1 x2 x3 x4 x5 x6 x7 x8 x9 d) := e1
  have k := eq_int r 0
  refine ⟨decide (r = 0), a1, b1, hb1, ?_⟩
  unfold c2__law_house
  generalize oApp 2 (runF 4 g__law_take) (aCons (xVar 0) (aCons (xO (oC (.int 5))) (fun ρ => .ok [] ρ))) = κ at e1 ⊢
  generalize decide (r = 0) = q at *
  simp [_root_.Z.runF_eq, _root_.Z.endF_nx, _root_.Z.endF_rt, _root_.Z.entry, _root_.Z.outsOf, _root_.Z.sSeq, _root_.Z.sNil, _root_.Z.sRet, _root_.Z.sRetV, _root_.Z.sSet, _root_.Z.sIf, _root_.Z.sExp, _root_.Z.sAsg, _root_.Z.setV, _root_.Z.oAnd, _root_.Z.oOr, _root_.Z.oNot, _root_.Z.oIte, _root_.Z.oApp, _root_.Z.oAppK, _root_.Z.aCons, _root_.Z.xO, _root_.Z.oVar, _root_.Z.oC, _root_.Z.xVar, _root_.Z.apF, _root_.Z.avOf, _root_.Z.Av.sl, _root_.Z.Va.sl, _root_.Z.odSl, _root_.Z.aft, _root_.Z.setOuts, _root_.Z.boolV, _root_.Z.Va.d, _root_.Z.oChn, _root_.Z.Od.get, _root_.Z.Sl.get, _root_.Z.ap1, _root_.Z.ap2, _root_.Z.f1, _root_.Z.f2, _root_.Z.fL, _root_.Z.fM, _root_.Z.apL, _root_.Z.getAll, _root_.Z.bNot, _root_.Z.bAnd, _root_.Z.bOr, _root_.Z.bX, _root_.Z.bOf, _root_.Z.truth, _root_.Z.oTup, _root_.Z.oLst, _root_.Z.oSeq, _root_.Z.datas, e1, k]
theorem shut_ok {a b : Int} (hb : BoxOk b) {x1 x2 x3 x4 x5 x6 x7 x8 x9 : Sl} : ∃ s a' b', BoxOk b' ∧ oComp (iArg iRange1 (aCons (xO (oC (.int 10))) (fun ρ => .ok [] ρ))) (gN 10) c2__law_house (oVar 10) [10] (sH a b x1 x2 x3 x4 x5 x6 x7 x8 x9 .un) = .ok (.fo (dI s)) (sH a' b' x1 x2 x3 x4 x5 x6 x7 x8 x9 .un) := by
  have c := compL_rel (g := gN 10) (cond := c2__law_house) (elt := oVar 10) (vs := [10]) (I := fun ρ => ∃ a' b', BoxOk b' ∧ ρ = sH a' b' x1 x2 x3 x4 x5 x6 x7 x8 x9 .un) (Q := fun d => ∃ i, d = PyData.int i) (idxs 0 10) [] (sH a b x1 x2 x3 x4 x5 x6 x7 x8 x9 .un) (fun d hd ρ hρ => by
    obtain ⟨a', b', hb', rfl⟩ := hρ
    obtain ⟨i, _, hi, rfl⟩ := idxs_mem hd
    obtain ⟨k, a2, b2, hb2, e⟩ := c2h_ok (a := a') hb' (x1 := x1) (x2 := x2) (x3 := x3) (x4 := x4) (x5 := x5) (x6 := x6) (x7 := x7) (x8 := x8) (x9 := x9) (d := .vl (.int (i : Nat)))
    exact ⟨k, sH a' b' x1 x2 x3 x4 x5 x6 x7 x8 x9 (.vl (.int (i : Nat))), _, rfl, e, fun _ => ⟨a2, b2, hb2, rfl⟩, fun _ => ⟨.fz (.int (i : Nat)), _, rfl, ⟨_, rfl⟩, a2, b2, hb2, rfl⟩⟩) ⟨a, b, hb, rfl⟩ (by rw [idxs_len]; have := line_big; simp; omega)
  obtain ⟨out, ρ', h1, ⟨a2, b2, hb2, rfl⟩, h3, h4⟩ := c
  obtain ⟨s, rfl⟩ := all_ints (ds := out) fun e he => by obtain ⟨i, rfl⟩ := h4 e he; rfl
  refine ⟨s, a2, b2, hb2, ?_⟩
  unfold oComp
  rw [iArg_ok (fl := aCons (xO (oC (.int 10))) (fun ρ => .ok [] ρ)) (ρ1 := sH a b x1 x2 x3 x4 x5 x6 x7 x8 x9 .un) (d := .int 10) rfl (show iRange1 [.int 10] = some (idxs 0 10) from rng_idx (n := 10) (by omega))]
  simp only [Rz.bind_ok, h1]
  rfl
/-- rooms but one -/
def butD (n t : Nat) : List D := (idxs 0 n).filter fun d => match d with
  | .int i => !decide (i = (t : Nat))
  | _ => false
theorem butD_mem {n t : Nat} {d : D} (h : d ∈ butD n t) : ∃ i : Nat, i < n ∧ d = .int (i : Nat) := by
  obtain ⟨i, _, hi, rfl⟩ := idxs_mem (List.mem_filter.mp h).1
  exact ⟨i, by omega, rfl⟩
theorem butD_len (n t : Nat) : (butD n t).length ≤ n := by
  have := List.length_filter_le (fun d => match d with | PyData.int i => !decide (i = (t : Nat)) | _ => false) (idxs 0 n)
  rw [idxs_len] at this
  exact this
theorem idxs_in {a n i : Nat} (h1 : a ≤ i) (h2 : i < a + n) : PyData.int (i : Nat) ∈ idxs a n := List.mem_map.mpr ⟨i, List.mem_range'_1.mpr ⟨h1, h2⟩, rfl⟩
theorem butD_ne {n t : Nat} (h : 2 ≤ n) : butD n t ≠ [] := by
  have ex : ∃ i : Nat, i < n ∧ i ≠ t := by
    by_cases e : t = 0
    · exact ⟨1, by omega, by omega⟩
    · exact ⟨0, by omega, by omega⟩
  obtain ⟨i, hi, ne⟩ := ex
  have m : PyData.int (i : Nat) ∈ butD n t := List.mem_filter.mpr ⟨idxs_in (by omega) (by omega), by simp; omega⟩
  intro z
  rw [z] at m
  simp at m
theorem but_ok {a b : Int} {R : List Int} (hR : R.length ≤ 5) {t : Nat} {x2 x3 x4 x5 x7 x8 : Sl} : oComp (iArg iRange1 (aCons (xO (fL pLen (aCons (xVar 1) (fun ρ => .ok [] ρ)))) (fun ρ => .ok [] ρ))) (gN 9) (bOf (f2 pNeZ (xVar 9) (xVar 6))) (oVar 9) [9] (sH a b (.ow false (dI R)) x2 x3 x4 x5 (.vl (.int (t : Nat))) x7 x8 .un .un) = .ok (.fo (butD R.length t)) (sH a b (.ow false (dI R)) x2 x3 x4 x5 (.vl (.int (t : Nat))) x7 x8 .un .un) := by
  have ln := len_lst R
  exact comp_filter (fi := iArg iRange1 (aCons (xO (fL pLen (aCons (xVar 1) (fun ρ => .ok [] ρ)))) (fun ρ => .ok [] ρ))) (g := gN 9) (cond := bOf (f2 pNeZ (xVar 9) (xVar 6))) (elt := oVar 9) (vs := [9]) (ρ := sH a b (.ow false (dI R)) x2 x3 x4 x5 (.vl (.int (t : Nat))) x7 x8 .un .un) (ρ0 := sH a b (.ow false (dI R)) x2 x3 x4 x5 (.vl (.int (t : Nat))) x7 x8 .un .un) (ds := idxs 0 R.length) _ (iArg_ok (d := .int (R.length : Nat)) (by
    generalize dI R = L at *
    generalize ((t : Nat) : Int) = T at *
    simp [_root_.Z.runF_eq, _root_.Z.endF_nx, _root_.Z.endF_rt, _root_.Z.entry, _root_.Z.outsOf, _root_.Z.sSeq, _root_.Z.sNil, _root_.Z.sRet, _root_.Z.sRetV, _root_.Z.sSet, _root_.Z.sIf, _root_.Z.sExp, _root_.Z.sAsg, _root_.Z.setV, _root_.Z.oAnd, _root_.Z.oOr, _root_.Z.oNot, _root_.Z.oIte, _root_.Z.oApp, _root_.Z.oAppK, _root_.Z.aCons, _root_.Z.xO, _root_.Z.oVar, _root_.Z.oC, _root_.Z.xVar, _root_.Z.apF, _root_.Z.avOf, _root_.Z.Av.sl, _root_.Z.Va.sl, _root_.Z.odSl, _root_.Z.aft, _root_.Z.setOuts, _root_.Z.boolV, _root_.Z.Va.d, _root_.Z.oChn, _root_.Z.Od.get, _root_.Z.Sl.get, _root_.Z.ap1, _root_.Z.ap2, _root_.Z.f1, _root_.Z.f2, _root_.Z.fL, _root_.Z.fM, _root_.Z.apL, _root_.Z.getAll, _root_.Z.bNot, _root_.Z.bAnd, _root_.Z.bOr, _root_.Z.bX, _root_.Z.bOf, _root_.Z.truth, _root_.Z.oTup, _root_.Z.oLst, _root_.Z.oSeq, _root_.Z.datas, ln]) (rng_idx (by omega))) (fun d hd => by
    obtain ⟨i, _, hi, rfl⟩ := idxs_mem hd
    have k := ne_int (i : Nat) (t : Nat)
    refine ⟨sH a b (.ow false (dI R)) x2 x3 x4 x5 (.vl (.int (t : Nat))) x7 x8 (.vl (.int (i : Nat))) .un, sH a b (.ow false (dI R)) x2 x3 x4 x5 (.vl (.int (t : Nat))) x7 x8 (.vl (.int (i : Nat))) .un, sH a b (.ow false (dI R)) x2 x3 x4 x5 (.vl (.int (t : Nat))) x7 x8 (.vl (.int (i : Nat))) .un, rfl, ?_, rfl, rfl, rfl⟩
    by_cases hq : ((i : Nat) : Int) = (t : Nat)
    · rw [decide_eq_true hq] at k
      simp only [decide_eq_true hq]
      generalize dI R = L at *
      generalize ((t : Nat) : Int) = T at *
      generalize ((i : Nat) : Int) = I at *
      simp [_root_.Z.runF_eq, _root_.Z.endF_nx, _root_.Z.endF_rt, _root_.Z.entry, _root_.Z.outsOf, _root_.Z.sSeq, _root_.Z.sNil, _root_.Z.sRet, _root_.Z.sRetV, _root_.Z.sSet, _root_.Z.sIf, _root_.Z.sExp, _root_.Z.sAsg, _root_.Z.setV, _root_.Z.oAnd, _root_.Z.oOr, _root_.Z.oNot, _root_.Z.oIte, _root_.Z.oApp, _root_.Z.oAppK, _root_.Z.aCons, _root_.Z.xO, _root_.Z.oVar, _root_.Z.oC, _root_.Z.xVar, _root_.Z.apF, _root_.Z.avOf, _root_.Z.Av.sl, _root_.Z.Va.sl, _root_.Z.odSl, _root_.Z.aft, _root_.Z.setOuts, _root_.Z.boolV, _root_.Z.Va.d, _root_.Z.oChn, _root_.Z.Od.get, _root_.Z.Sl.get, _root_.Z.ap1, _root_.Z.ap2, _root_.Z.f1, _root_.Z.f2, _root_.Z.fL, _root_.Z.fM, _root_.Z.apL, _root_.Z.getAll, _root_.Z.bNot, _root_.Z.bAnd, _root_.Z.bOr, _root_.Z.bX, _root_.Z.bOf, _root_.Z.truth, _root_.Z.oTup, _root_.Z.oLst, _root_.Z.oSeq, _root_.Z.datas, k]
    · rw [decide_eq_false hq] at k
      simp only [decide_eq_false hq]
      generalize dI R = L at *
      generalize ((t : Nat) : Int) = T at *
      generalize ((i : Nat) : Int) = I at *
      simp [_root_.Z.runF_eq, _root_.Z.endF_nx, _root_.Z.endF_rt, _root_.Z.entry, _root_.Z.outsOf, _root_.Z.sSeq, _root_.Z.sNil, _root_.Z.sRet, _root_.Z.sRetV, _root_.Z.sSet, _root_.Z.sIf, _root_.Z.sExp, _root_.Z.sAsg, _root_.Z.setV, _root_.Z.oAnd, _root_.Z.oOr, _root_.Z.oNot, _root_.Z.oIte, _root_.Z.oApp, _root_.Z.oAppK, _root_.Z.aCons, _root_.Z.xO, _root_.Z.oVar, _root_.Z.oC, _root_.Z.xVar, _root_.Z.apF, _root_.Z.avOf, _root_.Z.Av.sl, _root_.Z.Va.sl, _root_.Z.odSl, _root_.Z.aft, _root_.Z.setOuts, _root_.Z.boolV, _root_.Z.Va.d, _root_.Z.oChn, _root_.Z.Od.get, _root_.Z.Sl.get, _root_.Z.ap1, _root_.Z.ap2, _root_.Z.f1, _root_.Z.f2, _root_.Z.fL, _root_.Z.fM, _root_.Z.apL, _root_.Z.getAll, _root_.Z.bNot, _root_.Z.bAnd, _root_.Z.bOr, _root_.Z.bX, _root_.Z.bOf, _root_.Z.truth, _root_.Z.oTup, _root_.Z.oLst, _root_.Z.oSeq, _root_.Z.datas, k]) (by rw [idxs_len]; have := line_big; omega)
theorem sm_small {i : Int} (h : i = 1 ∨ i = 1 ∨ i = 2 ∨ i = 3) : smN i := by rcases h with rfl | rfl | rfl | rfl <;> exact ⟨by decide, by decide⟩
theorem sm_small5 {i : Int} (h : i = 0 ∨ i = 1 ∨ i = 1 ∨ i = 2 ∨ i = 9) : smN i := by rcases h with rfl | rfl | rfl | rfl | rfl <;> exact ⟨by decide, by decide⟩
theorem smN_nat {n : Nat} (h : n ≤ 1000) : smN (n : Nat) := ⟨by omega, by omega⟩
theorem l3h_ok {a b : Int} (hb : BoxOk b) {R : List Int} (hR : 2 ≤ R.length ∧ R.length ≤ 5) (hI : insD R ≠ []) {ps : List Pas} (hl : ps.length < 100) {x2 x3 x4 x6 x7 x8 : Sl} (h4 : Hd x4 (insD R)) (n6 : NT x6) (n7 : NT x7) (n8 : NT x8) :
    ∃ p a' b' y6 y7 y8, (PasOk p ∧ BoxOk b') ∧ (NT y6 ∧ NT y7 ∧ NT y8) ∧
    l3__law_house (sH a b (.ow false (dI R)) x2 x3 x4 (.ow false (ps.map pasD)) x6 x7 x8 .un .un) = .ok .nx (sH a' b' (.ow false (dI R)) x2 x3 (.vl (.list (insD R))) (.ow false ((ps ++ [p]).map pasD)) y6 y7 y8 .un .un) := by
  have il := insD_len R
  obtain ⟨v, a1, b1, hv, hb1, e1⟩ := pick_app (fe := oVar 4) (ρ := sH a b (.ow false (dI R)) x2 x3 x4 (.ow false (ps.map pasD)) x6 x7 x8 .un .un) (i := 0) (va := .fz (.list (insD R))) rfl (oVar_hd (i := 4) (x := x4) rfl h4) rfl rfl hb hI (by omega)
  obtain ⟨t, ht, rfl⟩ := insD_mem hv
  have c2 := but_ok (a := a1) (b := b1) (R := R) (by omega) (t := t) (x2 := x2) (x3 := x3) (x4 := .vl (.list (insD R))) (x5 := .ow false (ps.map pasD)) (x7 := x7) (x8 := x8)
  have bl := butD_len R.length t
  obtain ⟨v, a2, b2, hv, hb2, e2⟩ := pick_app (ρ := sH a1 b1 (.ow false (dI R)) x2 x3 (.vl (.list (insD R))) (.ow false (ps.map pasD)) (.vl (.int (t : Nat))) x7 x8 .un .un) (i := 0) rfl c2 rfl rfl hb1 (butD_ne hR.1) (by omega)
  obtain ⟨h, hh, rfl⟩ := butD_mem hv
  obtain ⟨s, a3, b3, hb3, e3⟩ := shut_ok (a := a2) hb2 (x1 := .ow false (dI R)) (x2 := x2) (x3 := x3) (x4 := .vl (.list (insD R))) (x5 := .ow false (ps.map pasD)) (x6 := .vl (.int (t : Nat))) (x7 := .vl (.int (h : Nat))) (x8 := x8) (x9 := .un)
  obtain ⟨v, a4, b4, hv, hb4, e4⟩ := pick_app (fe := oLst (aCons (xO (oC (.int 1))) (aCons (xO (oC (.int 1))) (aCons (xO (oC (.int 2))) (aCons (xO (oC (.int 3))) (fun ρ => .ok [] ρ)))))) (ρ := sH a3 b3 (.ow false (dI R)) x2 x3 (.vl (.list (insD R))) (.ow false (ps.map pasD)) (.vl (.int (t : Nat))) (.vl (.int (h : Nat))) (.ow false (dI s)) .un .un) (ρ1 := sH a3 b3 (.ow false (dI R)) x2 x3 (.vl (.list (insD R))) (.ow false (ps.map pasD)) (.vl (.int (t : Nat))) (.vl (.int (h : Nat))) (.ow false (dI s)) .un .un) (i := 0) (va := .fo [.int 1, .int 1, .int 2, .int 3]) (ds := [.int 1, .int 1, .int 2, .int 3]) rfl (by
    generalize dI R = L at *
    simp [_root_.Z.runF_eq, _root_.Z.endF_nx, _root_.Z.endF_rt, _root_.Z.entry, _root_.Z.outsOf, _root_.Z.sSeq, _root_.Z.sNil, _root_.Z.sRet, _root_.Z.sRetV, _root_.Z.sSet, _root_.Z.sIf, _root_.Z.sExp, _root_.Z.sAsg, _root_.Z.setV, _root_.Z.oAnd, _root_.Z.oOr, _root_.Z.oNot, _root_.Z.oIte, _root_.Z.oApp, _root_.Z.oAppK, _root_.Z.aCons, _root_.Z.xO, _root_.Z.oVar, _root_.Z.oC, _root_.Z.xVar, _root_.Z.apF, _root_.Z.avOf, _root_.Z.Av.sl, _root_.Z.Va.sl, _root_.Z.odSl, _root_.Z.aft, _root_.Z.setOuts, _root_.Z.boolV, _root_.Z.Va.d, _root_.Z.oChn, _root_.Z.Od.get, _root_.Z.Sl.get, _root_.Z.ap1, _root_.Z.ap2, _root_.Z.f1, _root_.Z.f2, _root_.Z.fL, _root_.Z.fM, _root_.Z.apL, _root_.Z.getAll, _root_.Z.bNot, _root_.Z.bAnd, _root_.Z.bOr, _root_.Z.bX, _root_.Z.bOf, _root_.Z.truth, _root_.Z.oTup, _root_.Z.oLst, _root_.Z.oSeq, _root_.Z.datas, sizeLine]) rfl rfl hb3 (by simp) (by simp)
  obtain ⟨l, rfl, hl1⟩ := ints4 hv
  obtain ⟨v, a5, b5, hv, hb5, e5⟩ := pick_app (fe := oLst (aCons (xO (oC (.int 0))) (aCons (xO (oC (.int 1))) (aCons (xO (oC (.int 1))) (aCons (xO (oC (.int 2))) (aCons (xO (oC (.int 9))) (fun ρ => .ok [] ρ))))))) (ρ := sH a4 b4 (.ow false (dI R)) x2 x3 (.vl (.list (insD R))) (.ow false (ps.map pasD)) (.vl (.int (t : Nat))) (.vl (.int (h : Nat))) (.ow false (dI s)) .un .un) (ρ1 := sH a4 b4 (.ow false (dI R)) x2 x3 (.vl (.list (insD R))) (.ow false (ps.map pasD)) (.vl (.int (t : Nat))) (.vl (.int (h : Nat))) (.ow false (dI s)) .un .un) (i := 0) (va := .fo [.int 0, .int 1, .int 1, .int 2, .int 9]) (ds := [.int 0, .int 1, .int 1, .int 2, .int 9]) rfl (by
    generalize dI R = L at *
    simp [_root_.Z.runF_eq, _root_.Z.endF_nx, _root_.Z.endF_rt, _root_.Z.entry, _root_.Z.outsOf, _root_.Z.sSeq, _root_.Z.sNil, _root_.Z.sRet, _root_.Z.sRetV, _root_.Z.sSet, _root_.Z.sIf, _root_.Z.sExp, _root_.Z.sAsg, _root_.Z.setV, _root_.Z.oAnd, _root_.Z.oOr, _root_.Z.oNot, _root_.Z.oIte, _root_.Z.oApp, _root_.Z.oAppK, _root_.Z.aCons, _root_.Z.xO, _root_.Z.oVar, _root_.Z.oC, _root_.Z.xVar, _root_.Z.apF, _root_.Z.avOf, _root_.Z.Av.sl, _root_.Z.Va.sl, _root_.Z.odSl, _root_.Z.aft, _root_.Z.setOuts, _root_.Z.boolV, _root_.Z.Va.d, _root_.Z.oChn, _root_.Z.Od.get, _root_.Z.Sl.get, _root_.Z.ap1, _root_.Z.ap2, _root_.Z.f1, _root_.Z.f2, _root_.Z.fL, _root_.Z.fM, _root_.Z.apL, _root_.Z.getAll, _root_.Z.bNot, _root_.Z.bAnd, _root_.Z.bOr, _root_.Z.bX, _root_.Z.bOf, _root_.Z.truth, _root_.Z.oTup, _root_.Z.oLst, _root_.Z.oSeq, _root_.Z.datas, sizeLine]) rfl rfl hb4 (by simp) (by simp)
  obtain ⟨w, rfl, hw1⟩ := ints5 hv
  refine ⟨⟨(t : Nat), (h : Nat), l, w, s⟩, a5, b5, .vl (.int (t : Nat)), .vl (.int (h : Nat)), .ow false (dI s), ⟨⟨⟨by show (0 : Int) ≤ (t : Nat); omega, by show ((t : Nat) : Int) ≤ 1000; omega⟩, ⟨by show (0 : Int) ≤ (h : Nat); omega, by show ((h : Nat) : Int) ≤ 1000; omega⟩, sm_small hl1, sm_small5 hw1⟩, hb5⟩, ⟨nt_vl, nt_vl, nt_ow⟩, ?_⟩
  have pm : (ps ++ [(⟨(t : Nat), (h : Nat), l, w, s⟩ : Pas)]).map pasD = ps.map pasD ++ [.tuple [.int (t : Nat), .int (h : Nat), .int l, .int w, .tuple (dI s)]] := by rw [List.map_append]; rfl
  rw [pm]
  have e1 : oApp 2 (runF 2 g__law_pick) (aCons (xVar 0) (aCons (xO (oVar 4)) (fun ρ => .ok [] ρ))) (sH a b (.ow false (dI R)) x2 x3 x4 (.ow false (ps.map pasD)) x6 x7 x8 .un .un) = .ok (.fz (.int (t : Nat))) (sH a1 b1 (.ow false (dI R)) x2 x3 (.vl (.list (insD R))) (.ow false (ps.map pasD)) x6 x7 x8 .un .un) := e1
  unfold l3__law_house
  refine (seq_nx (set_ok (x := x6) e1 rfl n6)).trans ?_
  refine (seq_nx (set_ok (x := x7) e2 rfl n7)).trans ?_
  refine (seq_nx (set_ok (x := x8) e3 rfl n8)).trans ?_
  refine (seq_nx (app_ok (p := false) (q := false) (va := .fz (.tuple [.int (t : Nat), .int (h : Nat), .int l, .int w, .tuple (dI s)])) (ρ1 := sH a5 b5 (.ow false (dI R)) x2 x3 (.vl (.list (insD R))) (.ow false (ps.map pasD)) (.vl (.int (t : Nat))) (.vl (.int (h : Nat))) (.ow false (dI s)) .un .un) (ds := ps.map pasD) (fs := ps.map pasD) rfl ?_ rfl (by rw [List.length_map]; have := line_big; omega))).trans rfl
  have e4 : oApp 2 (runF 2 g__law_pick) (aCons (xVar 0) (aCons (xO (oLst (aCons (xO (oC (.int 1))) (aCons (xO (oC (.int 1))) (aCons (xO (oC (.int 2))) (aCons (xO (oC (.int 3))) (fun ρ => .ok [] ρ))))))) (fun ρ => .ok [] ρ))) (sH a3 b3 (.ow false (dI R)) x2 x3 (.vl (.list (insD R))) (.ow false (ps.map pasD)) (.vl (.int (t : Nat))) (.vl (.int (h : Nat))) (.ow false (dI s)) .un .un) = .ok (.fz (.int l)) (sH a4 b4 (.ow false (dI R)) x2 x3 (.vl (.list (insD R))) (.ow false (ps.map pasD)) (.vl (.int (t : Nat))) (.vl (.int (h : Nat))) (.ow false (dI s)) .un .un) := e4
  have e5 : oApp 2 (runF 2 g__law_pick) (aCons (xVar 0) (aCons (xO (oLst (aCons (xO (oC (.int 0))) (aCons (xO (oC (.int 1))) (aCons (xO (oC (.int 1))) (aCons (xO (oC (.int 2))) (aCons (xO (oC (.int 9))) (fun ρ => .ok [] ρ)))))))) (fun ρ => .ok [] ρ))) (sH a4 b4 (.ow false (dI R)) x2 x3 (.vl (.list (insD R))) (.ow false (ps.map pasD)) (.vl (.int (t : Nat))) (.vl (.int (h : Nat))) (.ow false (dI s)) .un .un) = .ok (.fz (.int w)) (sH a5 b5 (.ow false (dI R)) x2 x3 (.vl (.list (insD R))) (.ow false (ps.map pasD)) (.vl (.int (t : Nat))) (.vl (.int (h : Nat))) (.ow false (dI s)) .un .un) := e5
  have pt : pTuple [.list (dI s)] = some (.fz (.tuple (dI s))) := rfl
  show oTup _ (sH a3 b3 (.ow false (dI R)) x2 x3 (.vl (.list (insD R))) (.ow false (ps.map pasD)) (.vl (.int (t : Nat))) (.vl (.int (h : Nat))) (.ow false (dI s)) .un .un) = _
  clear e1 e2 e3 pm c2
  generalize oApp 2 (runF 2 g__law_pick) (aCons (xVar 0) (aCons (xO (oLst (aCons (xO (oC (.int 1))) (aCons (xO (oC (.int 1))) (aCons (xO (oC (.int 2))) (aCons (xO (oC (.int 3))) (fun ρ => .ok [] ρ))))))) (fun ρ => .ok [] ρ))) = κ4 at e4 ⊢
  generalize oApp 2 (runF 2 g__law_pick) (aCons (xVar 0) (aCons (xO (oLst (aCons (xO (oC (.int 0))) (aCons (xO (oC (.int 1))) (aCons (xO (oC (.int 1))) (aCons (xO (oC (.int 2))) (aCons (xO (oC (.int 9))) (fun ρ => .ok [] ρ)))))))) (fun ρ => .ok [] ρ))) = κ5 at e5 ⊢
  generalize insD R = I at *
  generalize dI R = L at *
  generalize dI s = Q at *
  generalize ps.map pasD = PP at *
  generalize ((t : Nat) : Int) = t' at *
  generalize ((h : Nat) : Int) = h' at *
  simp [_root_.Z.runF_eq, _root_.Z.endF_nx, _root_.Z.endF_rt, _root_.Z.entry, _root_.Z.outsOf, _root_.Z.sSeq, _root_.Z.sNil, _root_.Z.sRet, _root_.Z.sRetV, _root_.Z.sSet, _root_.Z.sIf, _root_.Z.sExp, _root_.Z.sAsg, _root_.Z.setV, _root_.Z.oAnd, _root_.Z.oOr, _root_.Z.oNot, _root_.Z.oIte, _root_.Z.oApp, _root_.Z.oAppK, _root_.Z.aCons, _root_.Z.xO, _root_.Z.oVar, _root_.Z.oC, _root_.Z.xVar, _root_.Z.apF, _root_.Z.avOf, _root_.Z.Av.sl, _root_.Z.Va.sl, _root_.Z.odSl, _root_.Z.aft, _root_.Z.setOuts, _root_.Z.boolV, _root_.Z.Va.d, _root_.Z.oChn, _root_.Z.Od.get, _root_.Z.Sl.get, _root_.Z.ap1, _root_.Z.ap2, _root_.Z.f1, _root_.Z.f2, _root_.Z.fL, _root_.Z.fM, _root_.Z.apL, _root_.Z.getAll, _root_.Z.bNot, _root_.Z.bAnd, _root_.Z.bOr, _root_.Z.bX, _root_.Z.bOf, _root_.Z.truth, _root_.Z.oTup, _root_.Z.oLst, _root_.Z.oSeq, _root_.Z.datas, e4, e5, pt, sizeLine]
end ZH

namespace ZH
open PySem PySem.Spec PyProof.Rows L2 Z
theorem l3h_loop {R : List Int} (hR : 2 ≤ R.length ∧ R.length ≤ 5) (hI : insD R ≠ []) {x3 : Sl} : ∀ (n c : Nat) (a b : Int) (ps : List Pas) (x2 x4 x6 x7 x8 : Sl), BoxOk b → (∀ p ∈ ps, PasOk p) → ps.length + n < 100 → NT x2 → Hd x4 (insD R) → NT x6 → NT x7 → NT x8 →
    ∃ (a' b' : Int) (qs : List Pas) (y2 y4 y6 y7 y8 : Sl), BoxOk b' ∧ (∀ p ∈ qs, PasOk p) ∧ qs.length = ps.length + n ∧
    loop (gN 2) l3__law_house (idxs c n) (sH a b (.ow false (dI R)) x2 x3 x4 (.ow false (ps.map pasD)) x6 x7 x8 .un .un) = .ok .nx (sH a' b' (.ow false (dI R)) y2 x3 y4 (.ow false (qs.map pasD)) y6 y7 y8 .un .un)
  | 0, c, a, b, ps, x2, x4, x6, x7, x8, hb, hp, _, _, _, _, _, _ => ⟨a, b, ps, x2, x4, x6, x7, x8, hb, hp, rfl, rfl⟩
  | n + 1, c, a, b, ps, x2, x4, x6, x7, x8, hb, hp, hl, n2, h4, n6, n7, n8 => by
    obtain ⟨p, a1, b1, y6, y7, y8, ⟨pk, hb1⟩, ⟨m6, m7, m8⟩, q⟩ := l3h_ok (a := a) hb hR hI (ps := ps) (by omega) (x2 := .vl (.int (c : Nat))) (x3 := x3) h4 n6 n7 n8
    obtain ⟨a', b', qs, z2, z4, z6, z7, z8, r1, r2, r3, r4⟩ := l3h_loop hR hI n (c + 1) a1 b1 (ps ++ [p]) (.vl (.int (c : Nat))) (.vl (.list (insD R))) y6 y7 y8 hb1 (fun y hy => by
      rcases List.mem_append.mp hy with h | h
      · exact hp y h
      · rw [List.mem_singleton.mp h]; exact pk) (by simp only [List.length_append, List.length_singleton]; omega) nt_vl (.inl rfl) m6 m7 m8
    refine ⟨a', b', qs, z2, z4, z6, z7, z8, r1, r2, by rw [r3]; simp only [List.length_append, List.length_singleton]; omega, ?_⟩
    have g1 : gN 2 (.int (c : Nat)) (sH a b (.ow false (dI R)) x2 x3 x4 (.ow false (ps.map pasD)) x6 x7 x8 .un .un) = some (sH a b (.ow false (dI R)) (.vl (.int (c : Nat))) x3 x4 (.ow false (ps.map pasD)) x6 x7 x8 .un .un) := gN_ok (x := x2) rfl n2
    rw [idxs_succ, loop_nx g1 q, r4]
theorem count_ok {a b : Int} (hb : BoxOk b) {R : List Int} (hR : 2 ≤ R.length ∧ R.length ≤ 5) : ∃ k a' b', k < 8 ∧ (k ≠ 0 → insD R ≠ []) ∧ BoxOk b' ∧
    (aCons (xO (oIte (bAnd (bOf (f2 pNeZ (xVar 4) (xO (oLst (fun ρ => .ok [] ρ))))) (bOf (f2 (pCmp fun i j => decide (j < i)) (xO (fL pLen (aCons (xVar 1) (fun ρ => .ok [] ρ)))) (xO (oC (.int 1)))))) (oApp 2 (runF 4 g__law_take) (aCons (xVar 0) (aCons (xO (oC (.int 8))) (fun ρ => .ok [] ρ)))) (oC (.int 0)))) (fun ρ => .ok [] ρ)) (sH a b (.ow false (dI R)) .un .un (.ow false (insD R)) (.ow false []) .un .un .un .un .un) = .ok [.da (.int (k : Nat))] (sH a' b' (.ow false (dI R)) .un .un (.ow false (insD R)) (.ow false []) .un .un .un .un .un) := by
  obtain ⟨r, a1, b1, ⟨r0, r1⟩, hb1, e1⟩ := take_app (fe := oC (.int 8)) (ρ := sH a b (.ow false (dI R)) .un .un (.ow false (insD R)) (.ow false []) .un .un .un .un .un) (i := 0) (m := 8) rfl rfl rfl hb (by omega) (by omega)
  have e1 : oApp 2 (runF 4 g__law_take) (aCons (xVar 0) (aCons (xO (oC (.int 8))) (fun ρ => .ok [] ρ))) (sH a b (.ow false (dI R)) .un .un (.ow false (insD R)) (.ow false []) .un .un .un .un .un) = .ok (.fz (.int r)) (sH a1 b1 (.ow false (dI R)) .un .un (.ow false (insD R)) (.ow false []) .un .un .un .un .un) := e1
  have ln := len_lst R
  have cp : (pCmp fun i j => decide (j < i)) (.int (R.length : Nat)) (.int 1) = some (.fz (.bool true)) := by
    show some (Va.fz (.bool (decide ((1 : Int) < (R.length : Nat))))) = _
    rw [decide_eq_true (by omega)]
  have ne : pNeZ (.list (insD R)) (.list []) = some (.fz (.bool (!(insD R).isEmpty))) := by
    obtain ⟨J, hJ⟩ := all_ints (ds := insD R) fun e he => by obtain ⟨i, _, rfl⟩ := insD_mem he; rfl
    rw [hJ]
    show (if _ then _ else _) = _
    rw [if_pos ⟨shaped_list J, rfl⟩, eqv_nil]
  cases q : (insD R).isEmpty with
  | true =>
    rw [q] at ne
    refine ⟨0, a, b, by omega, fun z => absurd rfl z, hb, ?_⟩
    generalize oApp 2 (runF 4 g__law_take) (aCons (xVar 0) (aCons (xO (oC (.int 8))) (fun ρ => .ok [] ρ))) = κ at e1 ⊢
    generalize (pCmp fun i j => decide (j < i)) = cm at *
    generalize insD R = I at *
    generalize dI R = L at *
    generalize ((R.length : Nat) : Int) = N at *
    simp [_root_.Z.runF_eq, _root_.Z.endF_nx, _root_.Z.endF_rt, _root_.Z.entry, _root_.Z.outsOf, _root_.Z.sSeq, _root_.Z.sNil, _root_.Z.sRet, _root_.Z.sRetV, _root_.Z.sSet, _root_.Z.sIf, _root_.Z.sExp, _root_.Z.sAsg, _root_.Z.setV, _root_.Z.oAnd, _root_.Z.oOr, _root_.Z.oNot, _root_.Z.oIte, _root_.Z.oApp, _root_.Z.oAppK, _root_.Z.aCons, _root_.Z.xO, _root_.Z.oVar, _root_.Z.oC, _root_.Z.xVar, _root_.Z.apF, _root_.Z.avOf, _root_.Z.Av.sl, _root_.Z.Va.sl, _root_.Z.odSl, _root_.Z.aft, _root_.Z.setOuts, _root_.Z.boolV, _root_.Z.Va.d, _root_.Z.oChn, _root_.Z.Od.get, _root_.Z.Sl.get, _root_.Z.ap1, _root_.Z.ap2, _root_.Z.f1, _root_.Z.f2, _root_.Z.fL, _root_.Z.fM, _root_.Z.apL, _root_.Z.getAll, _root_.Z.bNot, _root_.Z.bAnd, _root_.Z.bOr, _root_.Z.bX, _root_.Z.bOf, _root_.Z.truth, _root_.Z.oTup, _root_.Z.oLst, _root_.Z.oSeq, _root_.Z.datas, ne, ln, cp, sizeLine]
  | false =>
    rw [q] at ne
    obtain ⟨k, rfl⟩ := Int.eq_ofNat_of_zero_le r0
    have hne : k ≠ 0 → insD R ≠ [] := fun _ z => by
      rw [z] at q
      cases q
    refine ⟨k, a1, b1, by omega, hne, hb1, ?_⟩
    generalize oApp 2 (runF 4 g__law_take) (aCons (xVar 0) (aCons (xO (oC (.int 8))) (fun ρ => .ok [] ρ))) = κ at e1 ⊢
    generalize (pCmp fun i j => decide (j < i)) = cm at *
    generalize insD R = I at *
    generalize dI R = L at *
    generalize ((R.length : Nat) : Int) = N at *
    generalize ((k : Nat) : Int) = K at *
    simp [_root_.Z.runF_eq, _root_.Z.endF_nx, _root_.Z.endF_rt, _root_.Z.entry, _root_.Z.outsOf, _root_.Z.sSeq, _root_.Z.sNil, _root_.Z.sRet, _root_.Z.sRetV, _root_.Z.sSet, _root_.Z.sIf, _root_.Z.sExp, _root_.Z.sAsg, _root_.Z.setV, _root_.Z.oAnd, _root_.Z.oOr, _root_.Z.oNot, _root_.Z.oIte, _root_.Z.oApp, _root_.Z.oAppK, _root_.Z.aCons, _root_.Z.xO, _root_.Z.oVar, _root_.Z.oC, _root_.Z.xVar, _root_.Z.apF, _root_.Z.avOf, _root_.Z.Av.sl, _root_.Z.Va.sl, _root_.Z.odSl, _root_.Z.aft, _root_.Z.setOuts, _root_.Z.boolV, _root_.Z.Va.d, _root_.Z.oChn, _root_.Z.Od.get, _root_.Z.Sl.get, _root_.Z.ap1, _root_.Z.ap2, _root_.Z.f1, _root_.Z.f2, _root_.Z.fL, _root_.Z.fM, _root_.Z.apL, _root_.Z.getAll, _root_.Z.bNot, _root_.Z.bAnd, _root_.Z.bOr, _root_.Z.bX, _root_.Z.bOf, _root_.Z.truth, _root_.Z.oTup, _root_.Z.oLst, _root_.Z.oSeq, _root_.Z.datas, ne, ln, cp, e1, sizeLine]
theorem e1h_ok {a b : Int} (hb : BoxOk b) {k : Int} {x1 x2 x3 x4 x5 x6 x7 x8 x10 : Sl} : ∃ d a' b', smOk d ∧ BoxOk b' ∧ e1__law_house (sH a b x1 x2 x3 x4 x5 x6 x7 x8 (.vl (.int k)) x10) = .ok (.fz d) (sH a' b' x1 x2 x3 x4 x5 x6 x7 x8 (.vl (.int k)) x10) := by
  have q1 := eq_int k 0
  unfold e1__law_house
  by_cases q : k = 0
  · rw [decide_eq_true q] at q1
    obtain ⟨r, a1, b1, ⟨r0, r1⟩, hb1, e1⟩ := take_app (fe := oC (.int 12)) (ρ := sH a b x1 x2 x3 x4 x5 x6 x7 x8 (.vl (.int k)) x10) (i := 0) (m := 12) rfl rfl rfl hb (by omega) (by omega)
    have e1 : oApp 2 (runF 4 g__law_take) (aCons (xVar 0) (aCons (xO (oC (.int 12))) (fun ρ => .ok [] ρ))) (sH a b x1 x2 x3 x4 x5 x6 x7 x8 (.vl (.int k)) x10) = .ok (.fz (.int r)) (sH a1 b1 x1 x2 x3 x4 x5 x6 x7 x8 (.vl (.int k)) x10) := e1
    obtain ⟨d, a2, b2, hd, hb2, e2⟩ := pick_app (fe := oLst (aCons (xO (oC .none)) (aCons (xO (oC .none)) (aCons (xO (oApp 2 (runF 4 g__law_take) (aCons (xVar 0) (aCons (xO (oC (.int 12))) (fun ρ => .ok [] ρ))))) (fun ρ => .ok [] ρ))))) (ρ := sH a b x1 x2 x3 x4 x5 x6 x7 x8 (.vl (.int k)) x10) (ρ1 := sH a1 b1 x1 x2 x3 x4 x5 x6 x7 x8 (.vl (.int k)) x10) (i := 0) (va := .fo [.none, .none, .int r]) (ds := [.none, .none, .int r]) rfl (by
      generalize oApp 2 (runF 4 g__law_take) (aCons (xVar 0) (aCons (xO (oC (.int 12))) (fun ρ => .ok [] ρ))) = κ at e1 ⊢
      simp [_root_.Z.runF_eq, _root_.Z.endF_nx, _root_.Z.endF_rt, _root_.Z.entry, _root_.Z.outsOf, _root_.Z.sSeq, _root_.Z.sNil, _root_.Z.sRet, _root_.Z.sRetV, _root_.Z.sSet, _root_.Z.sIf, _root_.Z.sExp, _root_.Z.sAsg, _root_.Z.setV, _root_.Z.oAnd, _root_.Z.oOr, _root_.Z.oNot, _root_.Z.oIte, _root_.Z.oApp, _root_.Z.oAppK, _root_.Z.aCons, _root_.Z.xO, _root_.Z.oVar, _root_.Z.oC, _root_.Z.xVar, _root_.Z.apF, _root_.Z.avOf, _root_.Z.Av.sl, _root_.Z.Va.sl, _root_.Z.odSl, _root_.Z.aft, _root_.Z.setOuts, _root_.Z.boolV, _root_.Z.Va.d, _root_.Z.oChn, _root_.Z.Od.get, _root_.Z.Sl.get, _root_.Z.ap1, _root_.Z.ap2, _root_.Z.f1, _root_.Z.f2, _root_.Z.fL, _root_.Z.fM, _root_.Z.apL, _root_.Z.getAll, _root_.Z.bNot, _root_.Z.bAnd, _root_.Z.bOr, _root_.Z.bX, _root_.Z.bOf, _root_.Z.truth, _root_.Z.oTup, _root_.Z.oLst, _root_.Z.oSeq, _root_.Z.datas, e1, sizeLine]) rfl rfl hb1 (by simp) (by simp)
    have e2 : oApp 2 (runF 2 g__law_pick) (aCons (xVar 0) (aCons (xO (oLst (aCons (xO (oC .none)) (aCons (xO (oC .none)) (aCons (xO (oApp 2 (runF 4 g__law_take) (aCons (xVar 0) (aCons (xO (oC (.int 12))) (fun ρ => .ok [] ρ))))) (fun ρ => .ok [] ρ)))))) (fun ρ => .ok [] ρ))) (sH a b x1 x2 x3 x4 x5 x6 x7 x8 (.vl (.int k)) x10) = .ok (.fz d) (sH a2 b2 x1 x2 x3 x4 x5 x6 x7 x8 (.vl (.int k)) x10) := e2
    refine ⟨d, a2, b2, ?_, hb2, ?_⟩
    · simp only [List.mem_cons, List.not_mem_nil, or_false] at hd
      rcases hd with rfl | rfl | rfl
      · exact .inl rfl
      · exact .inl rfl
      · exact .inr ⟨_, rfl⟩
    · generalize oApp 2 (runF 2 g__law_pick) (aCons (xVar 0) (aCons (xO (oLst (aCons (xO (oC .none)) (aCons (xO (oC .none)) (aCons (xO (oApp 2 (runF 4 g__law_take) (aCons (xVar 0) (aCons (xO (oC (.int 12))) (fun ρ => .ok [] ρ))))) (fun ρ => .ok [] ρ)))))) (fun ρ => .ok [] ρ))) = κ at e2 ⊢
      clear e1 q
      simp [_root_.Z.runF_eq, _root_.Z.endF_nx, _root_.Z.endF_rt, _root_.Z.entry, _root_.Z.outsOf, _root_.Z.sSeq, _root_.Z.sNil, _root_.Z.sRet, _root_.Z.sRetV, _root_.Z.sSet, _root_.Z.sIf, _root_.Z.sExp, _root_.Z.sAsg, _root_.Z.setV, _root_.Z.oAnd, _root_.Z.oOr, _root_.Z.oNot, _root_.Z.oIte, _root_.Z.oApp, _root_.Z.oAppK, _root_.Z.aCons, _root_.Z.xO, _root_.Z.oVar, _root_.Z.oC, _root_.Z.xVar, _root_.Z.apF, _root_.Z.avOf, _root_.Z.Av.sl, _root_.Z.Va.sl, _root_.Z.odSl, _root_.Z.aft, _root_.Z.setOuts, _root_.Z.boolV, _root_.Z.Va.d, _root_.Z.oChn, _root_.Z.Od.get, _root_.Z.Sl.get, _root_.Z.ap1, _root_.Z.ap2, _root_.Z.f1, _root_.Z.f2, _root_.Z.fL, _root_.Z.fM, _root_.Z.apL, _root_.Z.getAll, _root_.Z.bNot, _root_.Z.bAnd, _root_.Z.bOr, _root_.Z.bX, _root_.Z.bOf, _root_.Z.truth, _root_.Z.oTup, _root_.Z.oLst, _root_.Z.oSeq, _root_.Z.datas, q1, e2]
  · rw [decide_eq_false q] at q1
    refine ⟨.none, a, b, .inl rfl, hb, ?_⟩
    generalize oApp 2 (runF 2 g__law_pick) _ = κ
    clear q
    simp [_root_.Z.runF_eq, _root_.Z.endF_nx, _root_.Z.endF_rt, _root_.Z.entry, _root_.Z.outsOf, _root_.Z.sSeq, _root_.Z.sNil, _root_.Z.sRet, _root_.Z.sRetV, _root_.Z.sSet, _root_.Z.sIf, _root_.Z.sExp, _root_.Z.sAsg, _root_.Z.setV, _root_.Z.oAnd, _root_.Z.oOr, _root_.Z.oNot, _root_.Z.oIte, _root_.Z.oApp, _root_.Z.oAppK, _root_.Z.aCons, _root_.Z.xO, _root_.Z.oVar, _root_.Z.oC, _root_.Z.xVar, _root_.Z.apF, _root_.Z.avOf, _root_.Z.Av.sl, _root_.Z.Va.sl, _root_.Z.odSl, _root_.Z.aft, _root_.Z.setOuts, _root_.Z.boolV, _root_.Z.Va.d, _root_.Z.oChn, _root_.Z.Od.get, _root_.Z.Sl.get, _root_.Z.ap1, _root_.Z.ap2, _root_.Z.f1, _root_.Z.f2, _root_.Z.fL, _root_.Z.fM, _root_.Z.apL, _root_.Z.getAll, _root_.Z.bNot, _root_.Z.bAnd, _root_.Z.bOr, _root_.Z.bX, _root_.Z.bOf, _root_.Z.truth, _root_.Z.oTup, _root_.Z.oLst, _root_.Z.oSeq, _root_.Z.datas, q1]
theorem smoke_ok {a b : Int} (hb : BoxOk b) {R : List Int} (hR : R.length ≤ 5) {x2 x4 x5 x6 x7 x8 : Sl} : ∃ sm a' b', BoxOk b' ∧ sm.length = R.length ∧ (∀ d ∈ sm, smOk d) ∧
    oComp (iSeq (oVar 1)) (gN 9) bYes e1__law_house [9] (sH a b (.ow false (dI R)) x2 .un x4 x5 x6 x7 x8 .un .un) = .ok (.fo sm) (sH a' b' (.vl (.list (dI R))) x2 .un x4 x5 x6 x7 x8 .un .un) := by
  have c := compL_all (g := gN 9) (elt := e1__law_house) (vs := [9]) (I := fun ρ => ∃ a' b', BoxOk b' ∧ ρ = sH a' b' (.vl (.list (dI R))) x2 .un x4 x5 x6 x7 x8 .un .un) (Q := smOk) (dI R) [] (sH a b (.vl (.list (dI R))) x2 .un x4 x5 x6 x7 x8 .un .un) (fun d hd ρ hρ => by
    obtain ⟨a', b', hb', rfl⟩ := hρ
    obtain ⟨i, hi, rfl⟩ := mem_dI hd
    obtain ⟨d, a2, b2, ok, hb2, e⟩ := e1h_ok (a := a') hb' (k := i) (x1 := .vl (.list (dI R))) (x2 := x2) (x3 := .un) (x4 := x4) (x5 := x5) (x6 := x6) (x7 := x7) (x8 := x8) (x10 := .un)
    exact ⟨_, _, _, rfl, e, ok, a2, b2, hb2, rfl⟩) ⟨a, b, hb, rfl⟩ (by rw [dI_len]; have := line_big; simp; omega)
  obtain ⟨out, ρ', h1, ⟨a2, b2, hb2, rfl⟩, h3, h4⟩ := c
  refine ⟨out, a2, b2, hb2, by rw [h3, dI_len], h4, ?_⟩
  unfold oComp
  rw [show iSeq (oVar 1) (sH a b (.ow false (dI R)) x2 .un x4 x5 x6 x7 x8 .un .un) = .ok (dI R) (sH a b (.vl (.list (dI R))) x2 .un x4 x5 x6 x7 x8 .un .un) from rfl]
  simp only [Rz.bind_ok, h1]
  rfl
theorem r_law_house {a b : Int} (hb : BoxOk b) : ∃ R ps sm a' b', BoxOk b' ∧ (2 ≤ R.length ∧ R.length ≤ 5) ∧ (ps.length < 8 ∧ ∀ p ∈ ps, PasOk p) ∧ (sm.length = R.length ∧ ∀ d ∈ sm, smOk d) ∧ runF 11 g__law_house [.o (bx a b)] = .ok (.fz (houseD R ps sm)) [.o (bx a' b')] := by
  obtain ⟨a1, b1, R, hb1, hR, e1⟩ := rooms_ok (a := a) hb
  have e2 := ins_ok (a := a1) (b := b1) hR.2
  obtain ⟨k, a2, b2, hk, hI, hb2, e3⟩ := count_ok (a := a1) hb1 hR
  have e4 : ∃ (a' b' : Int) (qs : List Pas) (y2 y4 y6 y7 y8 : Sl), BoxOk b' ∧ (∀ p ∈ qs, PasOk p) ∧ qs.length = k ∧ loop (gN 2) l3__law_house (idxs 0 k) (sH a2 b2 (.ow false (dI R)) .un .un (.ow false (insD R)) (.ow false []) .un .un .un .un .un) = .ok .nx (sH a' b' (.ow false (dI R)) y2 .un y4 (.ow false (qs.map pasD)) y6 y7 y8 .un .un) := by
    cases k with
    | zero => exact ⟨a2, b2, [], .un, .ow false (insD R), .un, .un, .un, hb2, fun p hp => by simp at hp, rfl, rfl⟩
    | succ k =>
      obtain ⟨a', b', qs, y2, y4, y6, y7, y8, r1, r2, r3, r4⟩ := l3h_loop hR (hI (by omega)) (x3 := .un) (k + 1) 0 a2 b2 [] .un (.ow false (insD R)) .un .un .un hb2 (fun p hp => by simp at hp) (by simp; omega) nt_un (.inr rfl) nt_un nt_un nt_un
      exact ⟨a', b', qs, y2, y4, y6, y7, y8, r1, r2, by rw [r3]; simp, r4⟩
  obtain ⟨a3, b3, ps, y2, y4, y6, y7, y8, hb3, hps, lps, e4⟩ := e4
  obtain ⟨sm, a4, b4, hb4, lsm, hsm, e5⟩ := smoke_ok (a := a3) hb3 hR.2 (x2 := y2) (x4 := y4) (x5 := .ow false (ps.map pasD)) (x6 := y6) (x7 := y7) (x8 := y8)
  refine ⟨R, ps, sm, a4, b4, hb4, hR, ⟨by omega, hps⟩, ⟨lsm, hsm⟩, ?_⟩
  have p1 : pTuple [.list (dI R)] = some (.fz (.tuple (dI R))) := rfl
  have p2 : pTuple [.list (ps.map pasD)] = some (.fz (.tuple (ps.map pasD))) := rfl
  have p3 : pTuple [.list sm] = some (.fz (.tuple sm)) := rfl
  suffices body : ∃ ρ', g__law_house (sH a b .un .un .un .un .un .un .un .un .un .un) = .ok (.rt (.fz (houseD R ps sm))) (.ow true (bx a4 b4) :: ρ') by
    obtain ⟨ρ', body⟩ := body
    rw [runF_eq]
    show endF _ (g__law_house (sH a b .un .un .un .un .un .un .un .un .un .un)) = _
    rw [body]
    rfl
  refine ⟨[.vl (.list (dI R)), y2, .ow false sm, y4, .ow false (ps.map pasD), y6, y7, y8, .un, .un], ?_⟩
  unfold g__law_house
  refine (seq_nx (set_ok (x := .un) e1 rfl nt_un)).trans ?_
  refine (seq_nx (par_ok (ρ2 := sH a1 b1 (.ow false (dI R)) .un .un .un .un .un .un .un .un .un) (vb := .fo []) e2 (by
    clear e1 e2 e3 e4 e5
    generalize dI R = L
    simp [_root_.Z.runF_eq, _root_.Z.endF_nx, _root_.Z.endF_rt, _root_.Z.entry, _root_.Z.outsOf, _root_.Z.sSeq, _root_.Z.sNil, _root_.Z.sRet, _root_.Z.sRetV, _root_.Z.sSet, _root_.Z.sIf, _root_.Z.sExp, _root_.Z.sAsg, _root_.Z.setV, _root_.Z.oAnd, _root_.Z.oOr, _root_.Z.oNot, _root_.Z.oIte, _root_.Z.oApp, _root_.Z.oAppK, _root_.Z.aCons, _root_.Z.xO, _root_.Z.oVar, _root_.Z.oC, _root_.Z.xVar, _root_.Z.apF, _root_.Z.avOf, _root_.Z.Av.sl, _root_.Z.Va.sl, _root_.Z.odSl, _root_.Z.aft, _root_.Z.setOuts, _root_.Z.boolV, _root_.Z.Va.d, _root_.Z.oChn, _root_.Z.Od.get, _root_.Z.Sl.get, _root_.Z.ap1, _root_.Z.ap2, _root_.Z.f1, _root_.Z.f2, _root_.Z.fL, _root_.Z.fM, _root_.Z.apL, _root_.Z.getAll, _root_.Z.bNot, _root_.Z.bAnd, _root_.Z.bOr, _root_.Z.bX, _root_.Z.bOf, _root_.Z.truth, _root_.Z.oTup, _root_.Z.oLst, _root_.Z.oSeq, _root_.Z.datas, sizeLine]) (x := .un) rfl nt_un (y := .un) rfl nt_un)).trans ?_
  refine (seq_nx ((for_ok (iArg_ok e3 (rng_idx (by omega)))).trans e4)).trans ?_
  refine (seq_nx (set_ok (x := .un) e5 rfl nt_un)).trans ?_
  refine seq_rt (ret_ok ?_)
  show oTup _ (sH a4 b4 (.vl (.list (dI R))) y2 (.ow false sm) y4 (.ow false (ps.map pasD)) y6 y7 y8 .un .un) = _
  show _ = Rz.ok (Va.fz (.tuple [.tuple (dI R), .tuple (ps.map pasD), .tuple sm])) (sH a4 b4 (.vl (.list (dI R))) y2 (.ow false sm) y4 (.ow false (ps.map pasD)) y6 y7 y8 .un .un)
  clear e1 e2 e3 e4 e5
  generalize dI R = L at *
  generalize ps.map pasD = PP at *
  simp [_root_.Z.runF_eq, _root_.Z.endF_nx, _root_.Z.endF_rt, _root_.Z.entry, _root_.Z.outsOf, _root_.Z.sSeq, _root_.Z.sNil, _root_.Z.sRet, _root_.Z.sRetV, _root_.Z.sSet, _root_.Z.sIf, _root_.Z.sExp, _root_.Z.sAsg, _root_.Z.setV, _root_.Z.oAnd, _root_.Z.oOr, _root_.Z.oNot, _root_.Z.oIte, _root_.Z.oApp, _root_.Z.oAppK, _root_.Z.aCons, _root_.Z.xO, _root_.Z.oVar, _root_.Z.oC, _root_.Z.xVar, _root_.Z.apF, _root_.Z.avOf, _root_.Z.Av.sl, _root_.Z.Va.sl, _root_.Z.odSl, _root_.Z.aft, _root_.Z.setOuts, _root_.Z.boolV, _root_.Z.Va.d, _root_.Z.oChn, _root_.Z.Od.get, _root_.Z.Sl.get, _root_.Z.ap1, _root_.Z.ap2, _root_.Z.f1, _root_.Z.f2, _root_.Z.fL, _root_.Z.fM, _root_.Z.apL, _root_.Z.getAll, _root_.Z.bNot, _root_.Z.bAnd, _root_.Z.bOr, _root_.Z.bX, _root_.Z.bOf, _root_.Z.truth, _root_.Z.oTup, _root_.Z.oLst, _root_.Z.oSeq, _root_.Z.datas, p1, p2, p3, sizeLine]
end ZH

namespace ZH
open PySem PySem.Spec PyProof.Rows L2 Z
theorem if_yes {fc : En → Rz Bool} {f g : En → Rz Fl} {ρ ρ1 : En} (h : fc ρ = .ok true ρ1) : sIf fc f g ρ = f ρ1 := by unfold sIf; rw [h]; rfl
abbrev sP (a b : Int) (H : D) (now : Int) (F x4 x5 x6 x7 x8 : Sl) : En := [.ow true (bx a b), .vl H, .vl (.int now), F, x4, x5, x6, x7, x8]
section
variable {R : List Int} {ps : List Pas} {sm : List D} {now : Int}
/-- the test of one kind of draw: a room of this kind, and a draw -/
theorem cond_ok {a b K m : Int} {r : Nat} (hb : BoxOk b) (hm : 0 < m) (hm2 : m < 1000) (hK : R[r]? = some K) {F x4 x6 x7 x8 : Sl} (c : Int) (q : D → D → Option Va) (hq : ∀ i : Int, ∃ k, q (.int i) (.int 0) = some (.fz (.bool k))) : ∃ k a' b', BoxOk b' ∧
    bAnd (bOf (f2 pEqZ (xO (f2 pIx (xO (f2 pIx (xVar 1) (xO (oC (.int 0))))) (xVar 5))) (xO (oC (.int c))))) (bOf (f2 q (xO (oApp 2 (runF 4 g__law_take) (aCons (xVar 0) (aCons (xO (oC (.int m))) (fun ρ => .ok [] ρ))))) (xO (oC (.int 0))))) (sP a b (houseD R ps sm) now F x4 (.vl (.int (r : Nat))) x6 x7 x8) =
    .ok k (sP a' b' (houseD R ps sm) now F x4 (.vl (.int (r : Nat))) x6 x7 x8) := by
  have h60 : pIx (houseD R ps sm) (.int 0) = some (.fz (.tuple (dI R))) := rfl
  have hR : pIx (.tuple (dI R)) (.int (r : Nat)) = some (.fz (.int K)) := at_tup (by unfold dI; rw [List.getElem?_map, hK]; rfl)
  have k1 := eq_int K c
  generalize houseD R ps sm = H at *
  generalize PyData.tuple (dI R) = RR at *
  by_cases e : K = c
  · rw [decide_eq_true e] at k1
    obtain ⟨t, a1, b1, _, hb1, e1⟩ := take_app (fe := oC (.int m)) (ρ := sP a b H now F x4 (.vl (.int (r : Nat))) x6 x7 x8) (i := 0) (m := m) rfl rfl rfl hb hm (by omega)
    have e1 : oApp 2 (runF 4 g__law_take) (aCons (xVar 0) (aCons (xO (oC (.int m))) (fun ρ => .ok [] ρ))) (sP a b H now F x4 (.vl (.int (r : Nat))) x6 x7 x8) = .ok (.fz (.int t)) (sP a1 b1 H now F x4 (.vl (.int (r : Nat))) x6 x7 x8) := e1
    obtain ⟨k, hk⟩ := hq t
    refine ⟨k, a1, b1, hb1, ?_⟩
    generalize oApp 2 (runF 4 g__law_take) (aCons (xVar 0) (aCons (xO (oC (.int m))) (fun ρ => .ok [] ρ))) = κ at e1 ⊢
    generalize ((r : Nat) : Int) = r' at *
    clear e
    simp [_root_.Z.runF_eq, _root_.Z.endF_nx, _root_.Z.endF_rt, _root_.Z.entry, _root_.Z.outsOf, _root_.Z.sSeq, _root_.Z.sNil, _root_.Z.sRet, _root_.Z.sRetV, _root_.Z.sSet, _root_.Z.sIf, _root_.Z.sExp, _root_.Z.sAsg, _root_.Z.setV, _root_.Z.oAnd, _root_.Z.oOr, _root_.Z.oNot, _root_.Z.oIte, _root_.Z.oApp, _root_.Z.oAppK, _root_.Z.aCons, _root_.Z.xO, _root_.Z.oVar, _root_.Z.oC, _root_.Z.xVar, _root_.Z.apF, _root_.Z.avOf, _root_.Z.Av.sl, _root_.Z.Va.sl, _root_.Z.odSl, _root_.Z.aft, _root_.Z.setOuts, _root_.Z.boolV, _root_.Z.Va.d, _root_.Z.oChn, _root_.Z.Od.get, _root_.Z.Sl.get, _root_.Z.ap1, _root_.Z.ap2, _root_.Z.f1, _root_.Z.f2, _root_.Z.fL, _root_.Z.fM, _root_.Z.apL, _root_.Z.getAll, _root_.Z.bNot, _root_.Z.bAnd, _root_.Z.bOr, _root_.Z.bX, _root_.Z.bOf, _root_.Z.truth, _root_.Z.oTup, _root_.Z.oLst, _root_.Z.oSeq, _root_.Z.datas, h60, hR, k1, e1, hk]
  · rw [decide_eq_false e] at k1
    refine ⟨false, a, b, hb, ?_⟩
    generalize oApp 2 (runF 4 g__law_take) (aCons (xVar 0) (aCons (xO (oC (.int m))) (fun ρ => .ok [] ρ))) = κ
    generalize ((r : Nat) : Int) = r' at *
    clear e
    simp [_root_.Z.runF_eq, _root_.Z.endF_nx, _root_.Z.endF_rt, _root_.Z.entry, _root_.Z.outsOf, _root_.Z.sSeq, _root_.Z.sNil, _root_.Z.sRet, _root_.Z.sRetV, _root_.Z.sSet, _root_.Z.sIf, _root_.Z.sExp, _root_.Z.sAsg, _root_.Z.setV, _root_.Z.oAnd, _root_.Z.oOr, _root_.Z.oNot, _root_.Z.oIte, _root_.Z.oApp, _root_.Z.oAppK, _root_.Z.aCons, _root_.Z.xO, _root_.Z.oVar, _root_.Z.oC, _root_.Z.xVar, _root_.Z.apF, _root_.Z.avOf, _root_.Z.Av.sl, _root_.Z.Va.sl, _root_.Z.odSl, _root_.Z.aft, _root_.Z.setOuts, _root_.Z.boolV, _root_.Z.Va.d, _root_.Z.oChn, _root_.Z.Od.get, _root_.Z.Sl.get, _root_.Z.ap1, _root_.Z.ap2, _root_.Z.f1, _root_.Z.f2, _root_.Z.fL, _root_.Z.fM, _root_.Z.apL, _root_.Z.getAll, _root_.Z.bNot, _root_.Z.bAnd, _root_.Z.bOr, _root_.Z.bX, _root_.Z.bOf, _root_.Z.truth, _root_.Z.oTup, _root_.Z.oLst, _root_.Z.oSeq, _root_.Z.datas, h60, hR, k1]
theorem gt_ok (i : Int) : ∃ k, (pCmp fun i j => decide (j < i)) (.int i) (.int 0) = some (.fz (.bool k)) := ⟨_, rfl⟩
theorem eq_ok (i : Int) : ∃ k, pEqZ (.int i) (.int 0) = some (.fz (.bool k)) := ⟨_, eq_int i 0⟩
theorem l1p_ok {a b : Int} (hb : BoxOk b) (hn : 0 ≤ now ∧ now ≤ 12) (hR : 2 ≤ R.length ∧ R.length ≤ 5) (hsm : sm.length = R.length ∧ ∀ d ∈ sm, smOk d) {P : List Per} (hl : P.length < 100) {x4 x5 x6 x7 x8 : Sl} (n5 : NT x5) (n6 : NT x6) (n7 : NT x7) (n8 : NT x8) :
    ∃ x a' b' y5 y6 y7 y8, PerOk now R.length x ∧ BoxOk b' ∧ (NT y5 ∧ NT y6 ∧ NT y7 ∧ NT y8) ∧
    l1__law_people (sP a b (houseD R ps sm) now (.ow false (P.map perD)) x4 x5 x6 x7 x8) = .ok .nx (sP a' b' (houseD R ps sm) now (.ow false ((P ++ [x]).map perD)) x4 y5 y6 y7 y8) := by
  have h60 : pIx (houseD R ps sm) (.int 0) = some (.fz (.tuple (dI R))) := rfl
  have ln := len_dI R
  obtain ⟨r', a1, b1, hr, hb1, e1⟩ := take_app (fe := fL pLen (aCons (xO (f2 pIx (xVar 1) (xO (oC (.int 0))))) (fun ρ => .ok [] ρ))) (ρ := sP a b (houseD R ps sm) now (.ow false (P.map perD)) x4 x5 x6 x7 x8) (ρ1 := sP a b (houseD R ps sm) now (.ow false (P.map perD)) x4 x5 x6 x7 x8) (i := 0) (m := (R.length : Nat)) rfl (by
    generalize houseD R ps sm = H at *
    generalize PyData.tuple (dI R) = RR at *
    generalize P.map perD = PP at *
    generalize ((R.length : Nat) : Int) = N at *
    simp [_root_.Z.runF_eq, _root_.Z.endF_nx, _root_.Z.endF_rt, _root_.Z.entry, _root_.Z.outsOf, _root_.Z.sSeq, _root_.Z.sNil, _root_.Z.sRet, _root_.Z.sRetV, _root_.Z.sSet, _root_.Z.sIf, _root_.Z.sExp, _root_.Z.sAsg, _root_.Z.setV, _root_.Z.oAnd, _root_.Z.oOr, _root_.Z.oNot, _root_.Z.oIte, _root_.Z.oApp, _root_.Z.oAppK, _root_.Z.aCons, _root_.Z.xO, _root_.Z.oVar, _root_.Z.oC, _root_.Z.xVar, _root_.Z.apF, _root_.Z.avOf, _root_.Z.Av.sl, _root_.Z.Va.sl, _root_.Z.odSl, _root_.Z.aft, _root_.Z.setOuts, _root_.Z.boolV, _root_.Z.Va.d, _root_.Z.oChn, _root_.Z.Od.get, _root_.Z.Sl.get, _root_.Z.ap1, _root_.Z.ap2, _root_.Z.f1, _root_.Z.f2, _root_.Z.fL, _root_.Z.fM, _root_.Z.apL, _root_.Z.getAll, _root_.Z.bNot, _root_.Z.bAnd, _root_.Z.bOr, _root_.Z.bX, _root_.Z.bOf, _root_.Z.truth, _root_.Z.oTup, _root_.Z.oLst, _root_.Z.oSeq, _root_.Z.datas, h60, ln]) rfl hb (by omega) (by omega)
  obtain ⟨r, rfl⟩ := Int.eq_ofNat_of_zero_le hr.1
  have hr : r < R.length := by omega
  obtain ⟨u, a2, b2, hu, hb2, e2⟩ := take_app (fe := oC (.int 10)) (ρ := sP a1 b1 (houseD R ps sm) now (.ow false (P.map perD)) x4 x5 x6 x7 x8) (i := 0) (m := 10) rfl rfl rfl hb1 (by omega) (by omega)
  have hK : R[r]? = some R[r] := List.getElem?_eq_getElem hr
  generalize R[r] = K at hK
  have big := line_big
  have pm : ∀ x : Per, (P ++ [x]).map perD = P.map perD ++ [perD x] := fun x => by rw [List.map_append]; rfl
  obtain ⟨k1, a3, b3, hb3, e3⟩ := cond_ok (R := R) (ps := ps) (sm := sm) (now := now) (a := a2) hb2 (m := 3) (by omega) (by omega) hK (F := .ow false (P.map perD)) (x4 := x4) (x6 := .vl (.int u)) (x7 := x7) (x8 := x8) 1 (pCmp fun i j => decide (j < i)) gt_ok
  unfold l1__law_people
  cases k1 with
  | true =>
    have pa : pAdd (.int now) (.int 1) = some (.fz (.int (now + 1))) := rfl
    obtain ⟨t, a4, b4, ht, hb4, e4⟩ := take_app (fe := f2 pAdd (xVar 2) (xO (oC (.int 1)))) (ρ := sP a3 b3 (houseD R ps sm) now (.ow false (P.map perD)) x4 (.vl (.int (r : Nat))) (.vl (.int u)) x7 x8) (ρ1 := sP a3 b3 (houseD R ps sm) now (.ow false (P.map perD)) x4 (.vl (.int (r : Nat))) (.vl (.int u)) x7 x8) (i := 0) (m := now + 1) rfl (by
      generalize houseD R ps sm = H at *
      generalize P.map perD = PP at *
      simp [_root_.Z.runF_eq, _root_.Z.endF_nx, _root_.Z.endF_rt, _root_.Z.entry, _root_.Z.outsOf, _root_.Z.sSeq, _root_.Z.sNil, _root_.Z.sRet, _root_.Z.sRetV, _root_.Z.sSet, _root_.Z.sIf, _root_.Z.sExp, _root_.Z.sAsg, _root_.Z.setV, _root_.Z.oAnd, _root_.Z.oOr, _root_.Z.oNot, _root_.Z.oIte, _root_.Z.oApp, _root_.Z.oAppK, _root_.Z.aCons, _root_.Z.xO, _root_.Z.oVar, _root_.Z.oC, _root_.Z.xVar, _root_.Z.apF, _root_.Z.avOf, _root_.Z.Av.sl, _root_.Z.Va.sl, _root_.Z.odSl, _root_.Z.aft, _root_.Z.setOuts, _root_.Z.boolV, _root_.Z.Va.d, _root_.Z.oChn, _root_.Z.Od.get, _root_.Z.Sl.get, _root_.Z.ap1, _root_.Z.ap2, _root_.Z.f1, _root_.Z.f2, _root_.Z.fL, _root_.Z.fM, _root_.Z.apL, _root_.Z.getAll, _root_.Z.bNot, _root_.Z.bAnd, _root_.Z.bOr, _root_.Z.bX, _root_.Z.bOf, _root_.Z.truth, _root_.Z.oTup, _root_.Z.oLst, _root_.Z.oSeq, _root_.Z.datas, pa]) rfl hb3 (by omega) (by omega)
    have d1 : ("out" : Str) = "out" := rfl
    refine ⟨⟨"out", (r : Nat), t, u⟩, a4, b4, .vl (.int (r : Nat)), .vl (.int u), x7, x8, ⟨⟨by show (0 : Int) ≤ (r : Nat); omega, by show ((r : Nat) : Int) < _; omega⟩, ⟨ht.1, by show t ≤ 1000; omega⟩, hu, .inr (.inl ⟨rfl, by show t ≤ now; omega⟩)⟩, hb4, ⟨nt_vl, nt_vl, n7, n8⟩, ?_⟩
    rw [pm]
    refine (seq_nx (par_ok e1 e2 (x := x5) rfl n5 (y := x6) rfl n6)).trans ?_
    refine (seq_nx (ρ1 := sP a4 b4 (houseD R ps sm) now (.ow false (P.map perD ++ [perD ⟨"out", (r : Nat), t, u⟩])) x4 (.vl (.int (r : Nat))) (.vl (.int u)) x7 x8) ((if_yes e3).trans ?_)).trans rfl
    refine (seq_nx (app_ok (p := false) (q := false) (va := .fz (perD ⟨"out", (r : Nat), t, u⟩)) (ρ1 := sP a4 b4 (houseD R ps sm) now (.ow false (P.map perD)) x4 (.vl (.int (r : Nat))) (.vl (.int u)) x7 x8) (ds := P.map perD) (fs := P.map perD) rfl ?_ rfl (by rw [List.length_map]; omega))).trans rfl
    have e4 : oApp 2 (runF 4 g__law_take) (aCons (xVar 0) (aCons (xO (f2 pAdd (xVar 2) (xO (oC (.int 1))))) (fun ρ => .ok [] ρ))) (sP a3 b3 (houseD R ps sm) now (.ow false (P.map perD)) x4 (.vl (.int (r : Nat))) (.vl (.int u)) x7 x8) = .ok (.fz (.int t)) (sP a4 b4 (houseD R ps sm) now (.ow false (P.map perD)) x4 (.vl (.int (r : Nat))) (.vl (.int u)) x7 x8) := e4
    show _ = Rz.ok (Va.fz (.tuple [.str "out", .int (r : Nat), .int t, .int u])) _
    clear e1 e2 e3 pm h60
    generalize oApp 2 (runF 4 g__law_take) (aCons (xVar 0) (aCons (xO (f2 pAdd (xVar 2) (xO (oC (.int 1))))) (fun ρ => .ok [] ρ))) = κ at e4 ⊢
    generalize houseD R ps sm = H at *
    generalize P.map perD = PP at *
    generalize ((r : Nat) : Int) = r' at *
    simp [_root_.Z.runF_eq, _root_.Z.endF_nx, _root_.Z.endF_rt, _root_.Z.entry, _root_.Z.outsOf, _root_.Z.sSeq, _root_.Z.sNil, _root_.Z.sRet, _root_.Z.sRetV, _root_.Z.sSet, _root_.Z.sIf, _root_.Z.sExp, _root_.Z.sAsg, _root_.Z.setV, _root_.Z.oAnd, _root_.Z.oOr, _root_.Z.oNot, _root_.Z.oIte, _root_.Z.oApp, _root_.Z.oAppK, _root_.Z.aCons, _root_.Z.xO, _root_.Z.oVar, _root_.Z.oC, _root_.Z.xVar, _root_.Z.apF, _root_.Z.avOf, _root_.Z.Av.sl, _root_.Z.Va.sl, _root_.Z.odSl, _root_.Z.aft, _root_.Z.setOuts, _root_.Z.boolV, _root_.Z.Va.d, _root_.Z.oChn, _root_.Z.Od.get, _root_.Z.Sl.get, _root_.Z.ap1, _root_.Z.ap2, _root_.Z.f1, _root_.Z.f2, _root_.Z.fL, _root_.Z.fM, _root_.Z.apL, _root_.Z.getAll, _root_.Z.bNot, _root_.Z.bAnd, _root_.Z.bOr, _root_.Z.bX, _root_.Z.bOf, _root_.Z.truth, _root_.Z.oTup, _root_.Z.oLst, _root_.Z.oSeq, _root_.Z.datas, e4, sizeLine]
  | false =>
    obtain ⟨k2, a4, b4, hb4, e4⟩ := cond_ok (R := R) (ps := ps) (sm := sm) (now := now) (a := a3) hb3 (m := 4) (by omega) (by omega) hK (F := .ow false (P.map perD)) (x4 := x4) (x6 := .vl (.int u)) (x7 := x7) (x8 := x8) 0 pEqZ eq_ok
    cases k2 with
    | true =>
      have pa : pAdd (.int now) (.int 3) = some (.fz (.int (now + 3))) := rfl
      obtain ⟨t, a5, b5, ht, hb5, e5⟩ := take_app (fe := f2 pAdd (xVar 2) (xO (oC (.int 3)))) (ρ := sP a4 b4 (houseD R ps sm) now (.ow false (P.map perD)) x4 (.vl (.int (r : Nat))) (.vl (.int u)) x7 x8) (ρ1 := sP a4 b4 (houseD R ps sm) now (.ow false (P.map perD)) x4 (.vl (.int (r : Nat))) (.vl (.int u)) x7 x8) (i := 0) (m := now + 3) rfl (by
        generalize houseD R ps sm = H at *
        generalize P.map perD = PP at *
        simp [_root_.Z.runF_eq, _root_.Z.endF_nx, _root_.Z.endF_rt, _root_.Z.entry, _root_.Z.outsOf, _root_.Z.sSeq, _root_.Z.sNil, _root_.Z.sRet, _root_.Z.sRetV, _root_.Z.sSet, _root_.Z.sIf, _root_.Z.sExp, _root_.Z.sAsg, _root_.Z.setV, _root_.Z.oAnd, _root_.Z.oOr, _root_.Z.oNot, _root_.Z.oIte, _root_.Z.oApp, _root_.Z.oAppK, _root_.Z.aCons, _root_.Z.xO, _root_.Z.oVar, _root_.Z.oC, _root_.Z.xVar, _root_.Z.apF, _root_.Z.avOf, _root_.Z.Av.sl, _root_.Z.Va.sl, _root_.Z.odSl, _root_.Z.aft, _root_.Z.setOuts, _root_.Z.boolV, _root_.Z.Va.d, _root_.Z.oChn, _root_.Z.Od.get, _root_.Z.Sl.get, _root_.Z.ap1, _root_.Z.ap2, _root_.Z.f1, _root_.Z.f2, _root_.Z.fL, _root_.Z.fM, _root_.Z.apL, _root_.Z.getAll, _root_.Z.bNot, _root_.Z.bAnd, _root_.Z.bOr, _root_.Z.bX, _root_.Z.bOf, _root_.Z.truth, _root_.Z.oTup, _root_.Z.oLst, _root_.Z.oSeq, _root_.Z.datas, pa]) rfl hb4 (by omega) (by omega)
      refine ⟨⟨"lost", (r : Nat), t, u⟩, a5, b5, .vl (.int (r : Nat)), .vl (.int u), x7, x8, ⟨⟨by show (0 : Int) ≤ (r : Nat); omega, by show ((r : Nat) : Int) < _; omega⟩, ⟨ht.1, by show t ≤ 1000; omega⟩, hu, .inl rfl⟩, hb5, ⟨nt_vl, nt_vl, n7, n8⟩, ?_⟩
      rw [pm]
      refine (seq_nx (par_ok e1 e2 (x := x5) rfl n5 (y := x6) rfl n6)).trans ?_
      refine (seq_nx (ρ1 := sP a5 b5 (houseD R ps sm) now (.ow false (P.map perD ++ [perD ⟨"lost", (r : Nat), t, u⟩])) x4 (.vl (.int (r : Nat))) (.vl (.int u)) x7 x8) ((if_no e3).trans ?_)).trans rfl
      refine (seq_nx (ρ1 := sP a5 b5 (houseD R ps sm) now (.ow false (P.map perD ++ [perD ⟨"lost", (r : Nat), t, u⟩])) x4 (.vl (.int (r : Nat))) (.vl (.int u)) x7 x8) ((if_yes e4).trans ?_)).trans rfl
      refine (seq_nx (app_ok (p := false) (q := false) (va := .fz (perD ⟨"lost", (r : Nat), t, u⟩)) (ρ1 := sP a5 b5 (houseD R ps sm) now (.ow false (P.map perD)) x4 (.vl (.int (r : Nat))) (.vl (.int u)) x7 x8) (ds := P.map perD) (fs := P.map perD) rfl ?_ rfl (by rw [List.length_map]; omega))).trans rfl
      have e5 : oApp 2 (runF 4 g__law_take) (aCons (xVar 0) (aCons (xO (f2 pAdd (xVar 2) (xO (oC (.int 3))))) (fun ρ => .ok [] ρ))) (sP a4 b4 (houseD R ps sm) now (.ow false (P.map perD)) x4 (.vl (.int (r : Nat))) (.vl (.int u)) x7 x8) = .ok (.fz (.int t)) (sP a5 b5 (houseD R ps sm) now (.ow false (P.map perD)) x4 (.vl (.int (r : Nat))) (.vl (.int u)) x7 x8) := e5
      show _ = Rz.ok (Va.fz (.tuple [.str "lost", .int (r : Nat), .int t, .int u])) _
      clear e1 e2 e3 e4 pm h60
      generalize oApp 2 (runF 4 g__law_take) (aCons (xVar 0) (aCons (xO (f2 pAdd (xVar 2) (xO (oC (.int 3))))) (fun ρ => .ok [] ρ))) = κ at e5 ⊢
      generalize houseD R ps sm = H at *
      generalize P.map perD = PP at *
      generalize ((r : Nat) : Int) = r' at *
      simp [_root_.Z.runF_eq, _root_.Z.endF_nx, _root_.Z.endF_rt, _root_.Z.entry, _root_.Z.outsOf, _root_.Z.sSeq, _root_.Z.sNil, _root_.Z.sRet, _root_.Z.sRetV, _root_.Z.sSet, _root_.Z.sIf, _root_.Z.sExp, _root_.Z.sAsg, _root_.Z.setV, _root_.Z.oAnd, _root_.Z.oOr, _root_.Z.oNot, _root_.Z.oIte, _root_.Z.oApp, _root_.Z.oAppK, _root_.Z.aCons, _root_.Z.xO, _root_.Z.oVar, _root_.Z.oC, _root_.Z.xVar, _root_.Z.apF, _root_.Z.avOf, _root_.Z.Av.sl, _root_.Z.Va.sl, _root_.Z.odSl, _root_.Z.aft, _root_.Z.setOuts, _root_.Z.boolV, _root_.Z.Va.d, _root_.Z.oChn, _root_.Z.Od.get, _root_.Z.Sl.get, _root_.Z.ap1, _root_.Z.ap2, _root_.Z.f1, _root_.Z.f2, _root_.Z.fL, _root_.Z.fM, _root_.Z.apL, _root_.Z.getAll, _root_.Z.bNot, _root_.Z.bAnd, _root_.Z.bOr, _root_.Z.bX, _root_.Z.bOf, _root_.Z.truth, _root_.Z.oTup, _root_.Z.oLst, _root_.Z.oSeq, _root_.Z.datas, e5, sizeLine]
    | false =>
      obtain ⟨v, a5, b5, hv, hb5, e5⟩ := pick_app (fe := oLst (aCons (xO (oC (.int 0))) (aCons (xO (oC (.int 0))) (aCons (xO (oC (.int 1))) (aCons (xO (oC (.int 2))) (aCons (xO (oC (.int 9))) (fun ρ => .ok [] ρ))))))) (ρ := sP a4 b4 (houseD R ps sm) now (.ow false (P.map perD)) x4 (.vl (.int (r : Nat))) (.vl (.int u)) x7 x8) (ρ1 := sP a4 b4 (houseD R ps sm) now (.ow false (P.map perD)) x4 (.vl (.int (r : Nat))) (.vl (.int u)) x7 x8) (i := 0) (va := .fo [.int 0, .int 0, .int 1, .int 2, .int 9]) (ds := [.int 0, .int 0, .int 1, .int 2, .int 9]) rfl (by
        generalize houseD R ps sm = H at *
        generalize P.map perD = PP at *
        simp [_root_.Z.runF_eq, _root_.Z.endF_nx, _root_.Z.endF_rt, _root_.Z.entry, _root_.Z.outsOf, _root_.Z.sSeq, _root_.Z.sNil, _root_.Z.sRet, _root_.Z.sRetV, _root_.Z.sSet, _root_.Z.sIf, _root_.Z.sExp, _root_.Z.sAsg, _root_.Z.setV, _root_.Z.oAnd, _root_.Z.oOr, _root_.Z.oNot, _root_.Z.oIte, _root_.Z.oApp, _root_.Z.oAppK, _root_.Z.aCons, _root_.Z.xO, _root_.Z.oVar, _root_.Z.oC, _root_.Z.xVar, _root_.Z.apF, _root_.Z.avOf, _root_.Z.Av.sl, _root_.Z.Va.sl, _root_.Z.odSl, _root_.Z.aft, _root_.Z.setOuts, _root_.Z.boolV, _root_.Z.Va.d, _root_.Z.oChn, _root_.Z.Od.get, _root_.Z.Sl.get, _root_.Z.ap1, _root_.Z.ap2, _root_.Z.f1, _root_.Z.f2, _root_.Z.fL, _root_.Z.fM, _root_.Z.apL, _root_.Z.getAll, _root_.Z.bNot, _root_.Z.bAnd, _root_.Z.bOr, _root_.Z.bX, _root_.Z.bOf, _root_.Z.truth, _root_.Z.oTup, _root_.Z.oLst, _root_.Z.oSeq, _root_.Z.datas, sizeLine]) rfl rfl hb4 (by simp) (by simp)
      obtain ⟨j, rfl, hj⟩ := ints5 hv
      have hs : r < sm.length := by rw [hsm.1]; exact hr
      have cr := r_clear (a := .tuple (dI R)) (b := .tuple (ps.map pasD)) (now := now + j) (List.getElem?_eq_getElem hs) (hsm.2 _ (List.getElem_mem hs))
      generalize clrD sm[r] (now + j) = c at cr
      have w : ∃ w : Str, (w = "lost" ∨ (w = "out" ∧ now + j ≤ now) ∨ (w = "here" ∧ now ≤ now + j)) ∧ sIf (bOf (f2 pEqZ (xO (f2 pIx (xO (f2 pIx (xVar 1) (xO (oC (.int 0))))) (xVar 5))) (xO (oC (.int 1))))) (sSeq (sSet 8 (oIte (bOf (f2 pEqZ (xVar 7) (xVar 2))) (oC (.str "out")) (oC (.str "here")))) sNil) (sSeq (sSet 8 (oIte (bX (xO (oApp 3 (runF 3 g__law_clear) (aCons (xO (oVar 1)) (aCons (xO (oVar 5)) (aCons (xO (oVar 7)) (fun ρ => .ok [] ρ))))))) (oC (.str "here")) (oC (.str "lost")))) sNil) (sP a5 b5 (houseD R ps sm) now (.ow false (P.map perD)) x4 (.vl (.int (r : Nat))) (.vl (.int u)) (.vl (.int (now + j))) x8) =
          .ok .nx (sP a5 b5 (houseD R ps sm) now (.ow false (P.map perD)) x4 (.vl (.int (r : Nat))) (.vl (.int u)) (.vl (.int (now + j))) (.vl (.str w))) := by
        have hR : pIx (.tuple (dI R)) (.int (r : Nat)) = some (.fz (.int K)) := at_tup (by unfold dI; rw [List.getElem?_map, hK]; rfl)
        have k1 := eq_int K 1
        have k2 := eq_int (now + j) now
        have hj0 : 0 ≤ j := by omega
        by_cases q : K = 1
        · rw [decide_eq_true q] at k1
          have c1 : bOf (f2 pEqZ (xO (f2 pIx (xO (f2 pIx (xVar 1) (xO (oC (.int 0))))) (xVar 5))) (xO (oC (.int 1)))) (sP a5 b5 (houseD R ps sm) now (.ow false (P.map perD)) x4 (.vl (.int (r : Nat))) (.vl (.int u)) (.vl (.int (now + j))) x8) = .ok true (sP a5 b5 (houseD R ps sm) now (.ow false (P.map perD)) x4 (.vl (.int (r : Nat))) (.vl (.int u)) (.vl (.int (now + j))) x8) := by
            clear e1 e2 e3 e4 e5 pm cr q k2
            generalize houseD R ps sm = H at *
            generalize P.map perD = PP at *
            generalize PyData.tuple (dI R) = RR at *
            generalize ((r : Nat) : Int) = r' at *
            generalize now + j = nj at *
            simp [_root_.Z.runF_eq, _root_.Z.endF_nx, _root_.Z.endF_rt, _root_.Z.entry, _root_.Z.outsOf, _root_.Z.sSeq, _root_.Z.sNil, _root_.Z.sRet, _root_.Z.sRetV, _root_.Z.sSet, _root_.Z.sIf, _root_.Z.sExp, _root_.Z.sAsg, _root_.Z.setV, _root_.Z.oAnd, _root_.Z.oOr, _root_.Z.oNot, _root_.Z.oIte, _root_.Z.oApp, _root_.Z.oAppK, _root_.Z.aCons, _root_.Z.xO, _root_.Z.oVar, _root_.Z.oC, _root_.Z.xVar, _root_.Z.apF, _root_.Z.avOf, _root_.Z.Av.sl, _root_.Z.Va.sl, _root_.Z.odSl, _root_.Z.aft, _root_.Z.setOuts, _root_.Z.boolV, _root_.Z.Va.d, _root_.Z.oChn, _root_.Z.Od.get, _root_.Z.Sl.get, _root_.Z.ap1, _root_.Z.ap2, _root_.Z.f1, _root_.Z.f2, _root_.Z.fL, _root_.Z.fM, _root_.Z.apL, _root_.Z.getAll, _root_.Z.bNot, _root_.Z.bAnd, _root_.Z.bOr, _root_.Z.bX, _root_.Z.bOf, _root_.Z.truth, _root_.Z.oTup, _root_.Z.oLst, _root_.Z.oSeq, _root_.Z.datas, h60, hR, k1]
          refine ⟨if now + j = now then "out" else "here", ?_, (if_yes c1).trans ((seq_nx (set_ok (va := .fz (.str (if now + j = now then "out" else "here"))) (ρ1 := sP a5 b5 (houseD R ps sm) now (.ow false (P.map perD)) x4 (.vl (.int (r : Nat))) (.vl (.int u)) (.vl (.int (now + j))) x8) (x := x8) ?_ rfl n8)).trans rfl)⟩
          · split
            · exact .inr (.inl ⟨rfl, by omega⟩)
            · exact .inr (.inr ⟨rfl, by omega⟩)
          · clear e1 e2 e3 e4 e5 pm cr q c1
            generalize houseD R ps sm = H at *
            generalize P.map perD = PP at *
            generalize ((r : Nat) : Int) = r' at *
            by_cases q2 : now + j = now
            · rw [decide_eq_true q2] at k2
              rw [if_pos q2]
              clear q2
              generalize now + j = nj at *
              simp [_root_.Z.runF_eq, _root_.Z.endF_nx, _root_.Z.endF_rt, _root_.Z.entry, _root_.Z.outsOf, _root_.Z.sSeq, _root_.Z.sNil, _root_.Z.sRet, _root_.Z.sRetV, _root_.Z.sSet, _root_.Z.sIf, _root_.Z.sExp, _root_.Z.sAsg, _root_.Z.setV, _root_.Z.oAnd, _root_.Z.oOr, _root_.Z.oNot, _root_.Z.oIte, _root_.Z.oApp, _root_.Z.oAppK, _root_.Z.aCons, _root_.Z.xO, _root_.Z.oVar, _root_.Z.oC, _root_.Z.xVar, _root_.Z.apF, _root_.Z.avOf, _root_.Z.Av.sl, _root_.Z.Va.sl, _root_.Z.odSl, _root_.Z.aft, _root_.Z.setOuts, _root_.Z.boolV, _root_.Z.Va.d, _root_.Z.oChn, _root_.Z.Od.get, _root_.Z.Sl.get, _root_.Z.ap1, _root_.Z.ap2, _root_.Z.f1, _root_.Z.f2, _root_.Z.fL, _root_.Z.fM, _root_.Z.apL, _root_.Z.getAll, _root_.Z.bNot, _root_.Z.bAnd, _root_.Z.bOr, _root_.Z.bX, _root_.Z.bOf, _root_.Z.truth, _root_.Z.oTup, _root_.Z.oLst, _root_.Z.oSeq, _root_.Z.datas, k2]
            · rw [decide_eq_false q2] at k2
              rw [if_neg q2]
              clear q2
              generalize now + j = nj at *
              simp [_root_.Z.runF_eq, _root_.Z.endF_nx, _root_.Z.endF_rt, _root_.Z.entry, _root_.Z.outsOf, _root_.Z.sSeq, _root_.Z.sNil, _root_.Z.sRet, _root_.Z.sRetV, _root_.Z.sSet, _root_.Z.sIf, _root_.Z.sExp, _root_.Z.sAsg, _root_.Z.setV, _root_.Z.oAnd, _root_.Z.oOr, _root_.Z.oNot, _root_.Z.oIte, _root_.Z.oApp, _root_.Z.oAppK, _root_.Z.aCons, _root_.Z.xO, _root_.Z.oVar, _root_.Z.oC, _root_.Z.xVar, _root_.Z.apF, _root_.Z.avOf, _root_.Z.Av.sl, _root_.Z.Va.sl, _root_.Z.odSl, _root_.Z.aft, _root_.Z.setOuts, _root_.Z.boolV, _root_.Z.Va.d, _root_.Z.oChn, _root_.Z.Od.get, _root_.Z.Sl.get, _root_.Z.ap1, _root_.Z.ap2, _root_.Z.f1, _root_.Z.f2, _root_.Z.fL, _root_.Z.fM, _root_.Z.apL, _root_.Z.getAll, _root_.Z.bNot, _root_.Z.bAnd, _root_.Z.bOr, _root_.Z.bX, _root_.Z.bOf, _root_.Z.truth, _root_.Z.oTup, _root_.Z.oLst, _root_.Z.oSeq, _root_.Z.datas, k2]
        · rw [decide_eq_false q] at k1
          have c1 : bOf (f2 pEqZ (xO (f2 pIx (xO (f2 pIx (xVar 1) (xO (oC (.int 0))))) (xVar 5))) (xO (oC (.int 1)))) (sP a5 b5 (houseD R ps sm) now (.ow false (P.map perD)) x4 (.vl (.int (r : Nat))) (.vl (.int u)) (.vl (.int (now + j))) x8) = .ok false (sP a5 b5 (houseD R ps sm) now (.ow false (P.map perD)) x4 (.vl (.int (r : Nat))) (.vl (.int u)) (.vl (.int (now + j))) x8) := by
            clear e1 e2 e3 e4 e5 pm cr q k2
            generalize houseD R ps sm = H at *
            generalize P.map perD = PP at *
            generalize PyData.tuple (dI R) = RR at *
            generalize ((r : Nat) : Int) = r' at *
            generalize now + j = nj at *
            simp [_root_.Z.runF_eq, _root_.Z.endF_nx, _root_.Z.endF_rt, _root_.Z.entry, _root_.Z.outsOf, _root_.Z.sSeq, _root_.Z.sNil, _root_.Z.sRet, _root_.Z.sRetV, _root_.Z.sSet, _root_.Z.sIf, _root_.Z.sExp, _root_.Z.sAsg, _root_.Z.setV, _root_.Z.oAnd, _root_.Z.oOr, _root_.Z.oNot, _root_.Z.oIte, _root_.Z.oApp, _root_.Z.oAppK, _root_.Z.aCons, _root_.Z.xO, _root_.Z.oVar, _root_.Z.oC, _root_.Z.xVar, _root_.Z.apF, _root_.Z.avOf, _root_.Z.Av.sl, _root_.Z.Va.sl, _root_.Z.odSl, _root_.Z.aft, _root_.Z.setOuts, _root_.Z.boolV, _root_.Z.Va.d, _root_.Z.oChn, _root_.Z.Od.get, _root_.Z.Sl.get, _root_.Z.ap1, _root_.Z.ap2, _root_.Z.f1, _root_.Z.f2, _root_.Z.fL, _root_.Z.fM, _root_.Z.apL, _root_.Z.getAll, _root_.Z.bNot, _root_.Z.bAnd, _root_.Z.bOr, _root_.Z.bX, _root_.Z.bOf, _root_.Z.truth, _root_.Z.oTup, _root_.Z.oLst, _root_.Z.oSeq, _root_.Z.datas, h60, hR, k1]
          refine ⟨if c = true then "here" else "lost", ?_, (if_no c1).trans ((seq_nx (set_ok (va := .fz (.str (if c = true then "here" else "lost"))) (ρ1 := sP a5 b5 (houseD R ps sm) now (.ow false (P.map perD)) x4 (.vl (.int (r : Nat))) (.vl (.int u)) (.vl (.int (now + j))) x8) (x := x8) ?_ rfl n8)).trans rfl)⟩
          · split
            · exact .inr (.inr ⟨rfl, by omega⟩)
            · exact .inl rfl
          · have cr' : runF 3 g__law_clear [.v (houseD R ps sm), .v (.int (r : Nat)), .v (.int (now + j))] = .ok (.fz (.bool c)) [.v (houseD R ps sm), .v (.int (r : Nat)), .v (.int (now + j))] := cr
            clear e1 e2 e3 e4 e5 pm cr q c1 k2
            generalize runF 3 g__law_clear = φ at cr' ⊢
            generalize houseD R ps sm = H at *
            generalize P.map perD = PP at *
            generalize ((r : Nat) : Int) = r' at *
            generalize now + j = nj at *
            cases c <;> simp [_root_.Z.runF_eq, _root_.Z.endF_nx, _root_.Z.endF_rt, _root_.Z.entry, _root_.Z.outsOf, _root_.Z.sSeq, _root_.Z.sNil, _root_.Z.sRet, _root_.Z.sRetV, _root_.Z.sSet, _root_.Z.sIf, _root_.Z.sExp, _root_.Z.sAsg, _root_.Z.setV, _root_.Z.oAnd, _root_.Z.oOr, _root_.Z.oNot, _root_.Z.oIte, _root_.Z.oApp, _root_.Z.oAppK, _root_.Z.aCons, _root_.Z.xO, _root_.Z.oVar, _root_.Z.oC, _root_.Z.xVar, _root_.Z.apF, _root_.Z.avOf, _root_.Z.Av.sl, _root_.Z.Va.sl, _root_.Z.odSl, _root_.Z.aft, _root_.Z.setOuts, _root_.Z.boolV, _root_.Z.Va.d, _root_.Z.oChn, _root_.Z.Od.get, _root_.Z.Sl.get, _root_.Z.ap1, _root_.Z.ap2, _root_.Z.f1, _root_.Z.f2, _root_.Z.fL, _root_.Z.fM, _root_.Z.apL, _root_.Z.getAll, _root_.Z.bNot, _root_.Z.bAnd, _root_.Z.bOr, _root_.Z.bX, _root_.Z.bOf, _root_.Z.truth, _root_.Z.oTup, _root_.Z.oLst, _root_.Z.oSeq, _root_.Z.datas, cr']
      obtain ⟨w, hw, ew⟩ := w
      refine ⟨⟨w, (r : Nat), now + j, u⟩, a5, b5, .vl (.int (r : Nat)), .vl (.int u), .vl (.int (now + j)), .vl (.str w), ⟨⟨by show (0 : Int) ≤ (r : Nat); omega, by show ((r : Nat) : Int) < _; omega⟩, ⟨by show 0 ≤ now + j; omega, by show now + j ≤ 1000; omega⟩, hu, hw⟩, hb5, ⟨nt_vl, nt_vl, nt_vl, nt_vl⟩, ?_⟩
      rw [pm]
      refine (seq_nx (par_ok e1 e2 (x := x5) rfl n5 (y := x6) rfl n6)).trans ?_
      refine (seq_nx (ρ1 := sP a5 b5 (houseD R ps sm) now (.ow false (P.map perD ++ [perD ⟨w, (r : Nat), now + j, u⟩])) x4 (.vl (.int (r : Nat))) (.vl (.int u)) (.vl (.int (now + j))) (.vl (.str w))) ((if_no e3).trans ?_)).trans rfl
      refine (seq_nx (ρ1 := sP a5 b5 (houseD R ps sm) now (.ow false (P.map perD ++ [perD ⟨w, (r : Nat), now + j, u⟩])) x4 (.vl (.int (r : Nat))) (.vl (.int u)) (.vl (.int (now + j))) (.vl (.str w))) ((if_no e4).trans ?_)).trans rfl
      have pa : pAdd (.int now) (.int j) = some (.fz (.int (now + j))) := rfl
      refine (seq_nx (set_ok (va := .fz (.int (now + j))) (ρ1 := sP a5 b5 (houseD R ps sm) now (.ow false (P.map perD)) x4 (.vl (.int (r : Nat))) (.vl (.int u)) x7 x8) (x := x7) ?_ rfl n7)).trans ?_
      · have e5 : oApp 2 (runF 2 g__law_pick) (aCons (xVar 0) (aCons (xO (oLst (aCons (xO (oC (.int 0))) (aCons (xO (oC (.int 0))) (aCons (xO (oC (.int 1))) (aCons (xO (oC (.int 2))) (aCons (xO (oC (.int 9))) (fun ρ => .ok [] ρ)))))))) (fun ρ => .ok [] ρ))) (sP a4 b4 (houseD R ps sm) now (.ow false (P.map perD)) x4 (.vl (.int (r : Nat))) (.vl (.int u)) x7 x8) = .ok (.fz (.int j)) (sP a5 b5 (houseD R ps sm) now (.ow false (P.map perD)) x4 (.vl (.int (r : Nat))) (.vl (.int u)) x7 x8) := e5
        clear e1 e2 e3 e4 pm h60 ew cr hw
        generalize oApp 2 (runF 2 g__law_pick) (aCons (xVar 0) (aCons (xO (oLst (aCons (xO (oC (.int 0))) (aCons (xO (oC (.int 0))) (aCons (xO (oC (.int 1))) (aCons (xO (oC (.int 2))) (aCons (xO (oC (.int 9))) (fun ρ => .ok [] ρ)))))))) (fun ρ => .ok [] ρ))) = κ at e5 ⊢
        generalize houseD R ps sm = H at *
        generalize P.map perD = PP at *
        generalize ((r : Nat) : Int) = r' at *
        generalize now + j = nj at *
        simp [_root_.Z.runF_eq, _root_.Z.endF_nx, _root_.Z.endF_rt, _root_.Z.entry, _root_.Z.outsOf, _root_.Z.sSeq, _root_.Z.sNil, _root_.Z.sRet, _root_.Z.sRetV, _root_.Z.sSet, _root_.Z.sIf, _root_.Z.sExp, _root_.Z.sAsg, _root_.Z.setV, _root_.Z.oAnd, _root_.Z.oOr, _root_.Z.oNot, _root_.Z.oIte, _root_.Z.oApp, _root_.Z.oAppK, _root_.Z.aCons, _root_.Z.xO, _root_.Z.oVar, _root_.Z.oC, _root_.Z.xVar, _root_.Z.apF, _root_.Z.avOf, _root_.Z.Av.sl, _root_.Z.Va.sl, _root_.Z.odSl, _root_.Z.aft, _root_.Z.setOuts, _root_.Z.boolV, _root_.Z.Va.d, _root_.Z.oChn, _root_.Z.Od.get, _root_.Z.Sl.get, _root_.Z.ap1, _root_.Z.ap2, _root_.Z.f1, _root_.Z.f2, _root_.Z.fL, _root_.Z.fM, _root_.Z.apL, _root_.Z.getAll, _root_.Z.bNot, _root_.Z.bAnd, _root_.Z.bOr, _root_.Z.bX, _root_.Z.bOf, _root_.Z.truth, _root_.Z.oTup, _root_.Z.oLst, _root_.Z.oSeq, _root_.Z.datas, e5, pa]
      · refine (seq_nx ew).trans ?_
        refine (seq_nx (app_ok (p := false) (q := false) (va := .fz (perD ⟨w, (r : Nat), now + j, u⟩)) (ρ1 := sP a5 b5 (houseD R ps sm) now (.ow false (P.map perD)) x4 (.vl (.int (r : Nat))) (.vl (.int u)) (.vl (.int (now + j))) (.vl (.str w))) (ds := P.map perD) (fs := P.map perD) rfl ?_ rfl (by rw [List.length_map]; omega))).trans rfl
        show _ = Rz.ok (Va.fz (.tuple [.str w, .int (r : Nat), .int (now + j), .int u])) _
        clear e1 e2 e3 e4 e5 pm h60 ew cr hw
        generalize houseD R ps sm = H at *
        generalize P.map perD = PP at *
        generalize ((r : Nat) : Int) = r' at *
        generalize now + j = nj at *
        simp [_root_.Z.runF_eq, _root_.Z.endF_nx, _root_.Z.endF_rt, _root_.Z.entry, _root_.Z.outsOf, _root_.Z.sSeq, _root_.Z.sNil, _root_.Z.sRet, _root_.Z.sRetV, _root_.Z.sSet, _root_.Z.sIf, _root_.Z.sExp, _root_.Z.sAsg, _root_.Z.setV, _root_.Z.oAnd, _root_.Z.oOr, _root_.Z.oNot, _root_.Z.oIte, _root_.Z.oApp, _root_.Z.oAppK, _root_.Z.aCons, _root_.Z.xO, _root_.Z.oVar, _root_.Z.oC, _root_.Z.xVar, _root_.Z.apF, _root_.Z.avOf, _root_.Z.Av.sl, _root_.Z.Va.sl, _root_.Z.odSl, _root_.Z.aft, _root_.Z.setOuts, _root_.Z.boolV, _root_.Z.Va.d, _root_.Z.oChn, _root_.Z.Od.get, _root_.Z.Sl.get, _root_.Z.ap1, _root_.Z.ap2, _root_.Z.f1, _root_.Z.f2, _root_.Z.fL, _root_.Z.fM, _root_.Z.apL, _root_.Z.getAll, _root_.Z.bNot, _root_.Z.bAnd, _root_.Z.bOr, _root_.Z.bX, _root_.Z.bOf, _root_.Z.truth, _root_.Z.oTup, _root_.Z.oLst, _root_.Z.oSeq, _root_.Z.datas, sizeLine]
end
end ZH

namespace ZH
open PySem PySem.Spec PyProof.Rows L2 Z
theorem app_s {φ : List Av → Rc} {ρ : En} {i : Nat} {p : Bool} {ds ds' : List D} {r : Va} (h : ρ[i]? = some (.ow p ds)) (e : φ [.o ds] = .ok r [.o ds']) : oApp 1 φ (aCons (xVar i) (fun ρ => .ok [] ρ)) ρ = .ok r (ρ.set i (.ow p ds')) := by
  unfold oApp aCons
  rw [xVar_ow h]
  simp only [Rz.bind_ok]
  unfold apF
  have e1 : avOf ρ [.sl i] = some [.o ds] := by simp only [avOf, h]; rfl
  rw [e1]
  simp only []
  rw [if_pos ⟨rfl, by simp [odSl]⟩, e]
  have e2 : setOuts ρ [.sl i] [.o ds'] = some (ρ.set i (.ow p ds')) := by simp only [setOuts, h]
  show (match setOuts ρ [.sl i] [.o ds'] with
    | some ρ' => Rz.ok r ρ'
    | none => .no) = _
  rw [e2]
theorem app_svv {φ : List Av → Rc} {fe fd : En → Rz Va} {ρ ρ1 ρ2 : En} {i : Nat} {p0 p : Bool} {ds0 ds ds' : List D} {va vb r : Va} {w z : D} (h0 : ρ[i]? = some (.ow p0 ds0)) (hf : fe ρ = .ok va ρ1) (hg : fd ρ1 = .ok vb ρ2) (h1 : ρ2[i]? = some (.ow p ds)) (e : φ [.o ds, .v va.d, .v vb.d] = .ok r [.o ds', .v w, .v z]) :
    oApp 3 φ (aCons (xVar i) (aCons (xO fe) (aCons (xO fd) (fun ρ => .ok [] ρ)))) ρ = .ok r (ρ2.set i (.ow p ds')) := by
  unfold oApp aCons xO
  rw [xVar_ow h0]
  simp only [Rz.bind_ok, hf, hg]
  unfold apF
  have e1 : avOf ρ2 [.sl i, .da va.d, .da vb.d] = some [.o ds, .v va.d, .v vb.d] := by simp only [avOf, h1]; rfl
  rw [e1]
  simp only []
  rw [if_pos ⟨rfl, by simp [odSl]⟩, e]
  have e2 : setOuts ρ2 [.sl i, .da va.d, .da vb.d] [.o ds', .v w, .v z] = some (ρ2.set i (.ow p ds')) := by simp only [setOuts, h1]
  show (match setOuts ρ2 [.sl i, .da va.d, .da vb.d] [.o ds', .v w, .v z] with
    | some ρ' => Rz.ok r ρ'
    | none => .no) = _
  rw [e2]
section
variable {R : List Int} {ps : List Pas} {sm : List D} {now : Int}
theorem l1p_loop (hn : 0 ≤ now ∧ now ≤ 12) (hR : 2 ≤ R.length ∧ R.length ≤ 5) (hsm : sm.length = R.length ∧ ∀ d ∈ sm, smOk d) : ∀ (n c : Nat) (a b : Int) (P : List Per) (x4 x5 x6 x7 x8 : Sl), BoxOk b → (∀ x ∈ P, PerOk now R.length x) → P.length + n < 100 → NT x4 → NT x5 → NT x6 → NT x7 → NT x8 →
    ∃ (a' b' : Int) (Q : List Per) (y4 y5 y6 y7 y8 : Sl), BoxOk b' ∧ (∀ x ∈ Q, PerOk now R.length x) ∧ Q.length = P.length + n ∧
    loop (gN 4) l1__law_people (idxs c n) (sP a b (houseD R ps sm) now (.ow false (P.map perD)) x4 x5 x6 x7 x8) = .ok .nx (sP a' b' (houseD R ps sm) now (.ow false (Q.map perD)) y4 y5 y6 y7 y8)
  | 0, c, a, b, P, x4, x5, x6, x7, x8, hb, hp, _, _, _, _, _, _ => ⟨a, b, P, x4, x5, x6, x7, x8, hb, hp, rfl, rfl⟩
  | n + 1, c, a, b, P, x4, x5, x6, x7, x8, hb, hp, hl, n4, n5, n6, n7, n8 => by
    obtain ⟨x, a1, b1, y5, y6, y7, y8, px, hb1, ⟨m5, m6, m7, m8⟩, q⟩ := l1p_ok (ps := ps) (a := a) hb hn hR hsm (P := P) (by omega) (x4 := .vl (.int (c : Nat))) n5 n6 n7 n8
    obtain ⟨a', b', Q, z4, z5, z6, z7, z8, r1, r2, r3, r4⟩ := l1p_loop hn hR hsm n (c + 1) a1 b1 (P ++ [x]) (.vl (.int (c : Nat))) y5 y6 y7 y8 hb1 (fun y hy => by
      rcases List.mem_append.mp hy with h | h
      · exact hp y h
      · rw [List.mem_singleton.mp h]; exact px) (by simp only [List.length_append, List.length_singleton]; omega) nt_vl m5 m6 m7 m8
    refine ⟨a', b', Q, z4, z5, z6, z7, z8, r1, r2, by rw [r3]; simp only [List.length_append, List.length_singleton]; omega, ?_⟩
    have g1 : gN 4 (.int (c : Nat)) (sP a b (houseD R ps sm) now (.ow false (P.map perD)) x4 x5 x6 x7 x8) = some (sP a b (houseD R ps sm) now (.ow false (P.map perD)) (.vl (.int (c : Nat))) x5 x6 x7 x8) := gN_ok (x := x4) rfl n4
    rw [idxs_succ, loop_nx g1 q, r4]
theorem r_law_people {a b : Int} (hb : BoxOk b) (hn : 0 ≤ now ∧ now ≤ 12) (hR : 2 ≤ R.length ∧ R.length ≤ 5) (hsm : sm.length = R.length ∧ ∀ d ∈ sm, smOk d) : ∃ (P : List Per) (a' b' : Int), BoxOk b' ∧ (∀ x ∈ P, PerOk now R.length x) ∧ P.length < 8 ∧ runF 9 g__law_people [.o (bx a b), .v (houseD R ps sm), .v (.int now)] = .ok (.fz (.tuple (P.map perD))) [.o (bx a' b'), .v (houseD R ps sm), .v (.int now)] := by
  obtain ⟨k', a1, b1, hk, hb1, e1⟩ := take_app (fe := oC (.int 8)) (ρ := sP a b (houseD R ps sm) now (.ow false []) .un .un .un .un .un) (i := 0) (m := 8) rfl rfl rfl hb (by omega) (by omega)
  obtain ⟨k, rfl⟩ := Int.eq_ofNat_of_zero_le hk.1
  have e1 : oApp 2 (runF 4 g__law_take) (aCons (xVar 0) (aCons (xO (oC (.int 8))) (fun ρ => .ok [] ρ))) (sP a b (houseD R ps sm) now (.ow false []) .un .un .un .un .un) = .ok (.fz (.int (k : Nat))) (sP a1 b1 (houseD R ps sm) now (.ow false []) .un .un .un .un .un) := e1
  obtain ⟨a', b', Q, y4, y5, y6, y7, y8, r1, r2, r3, r4⟩ := l1p_loop (ps := ps) hn hR hsm k 0 a1 b1 [] .un .un .un .un .un hb1 (fun x hx => by simp at hx) (by simp; omega) nt_un nt_un nt_un nt_un nt_un
  refine ⟨Q, a', b', r1, r2, by rw [r3]; simp; omega, ?_⟩
  have p1 : pTuple [.list (Q.map perD)] = some (.fz (.tuple (Q.map perD))) := rfl
  suffices body : ∃ ρ', g__law_people (sP a b (houseD R ps sm) now .un .un .un .un .un .un) = .ok (.rt (.fz (.tuple (Q.map perD)))) (.ow true (bx a' b') :: .vl (houseD R ps sm) :: .vl (.int now) :: ρ') by
    obtain ⟨ρ', body⟩ := body
    rw [runF_eq]
    show endF _ (g__law_people (sP a b (houseD R ps sm) now .un .un .un .un .un .un)) = _
    rw [body]
    rfl
  refine ⟨[.ow false (Q.map perD), y4, y5, y6, y7, y8], ?_⟩
  unfold g__law_people
  refine (seq_nx (set_ok (va := .fo []) (ρ1 := sP a b (houseD R ps sm) now .un .un .un .un .un .un) (x := .un) (by
    generalize houseD R ps sm = H
    simp [_root_.Z.runF_eq, _root_.Z.endF_nx, _root_.Z.endF_rt, _root_.Z.entry, _root_.Z.outsOf, _root_.Z.sSeq, _root_.Z.sNil, _root_.Z.sRet, _root_.Z.sRetV, _root_.Z.sSet, _root_.Z.sIf, _root_.Z.sExp, _root_.Z.sAsg, _root_.Z.setV, _root_.Z.oAnd, _root_.Z.oOr, _root_.Z.oNot, _root_.Z.oIte, _root_.Z.oApp, _root_.Z.oAppK, _root_.Z.aCons, _root_.Z.xO, _root_.Z.oVar, _root_.Z.oC, _root_.Z.xVar, _root_.Z.apF, _root_.Z.avOf, _root_.Z.Av.sl, _root_.Z.Va.sl, _root_.Z.odSl, _root_.Z.aft, _root_.Z.setOuts, _root_.Z.boolV, _root_.Z.Va.d, _root_.Z.oChn, _root_.Z.Od.get, _root_.Z.Sl.get, _root_.Z.ap1, _root_.Z.ap2, _root_.Z.f1, _root_.Z.f2, _root_.Z.fL, _root_.Z.fM, _root_.Z.apL, _root_.Z.getAll, _root_.Z.bNot, _root_.Z.bAnd, _root_.Z.bOr, _root_.Z.bX, _root_.Z.bOf, _root_.Z.truth, _root_.Z.oTup, _root_.Z.oLst, _root_.Z.oSeq, _root_.Z.datas, sizeLine]) rfl nt_un)).trans ?_
  refine (seq_nx ((for_ok (iArg_ok (d := .int (k : Nat)) (ρ1 := sP a1 b1 (houseD R ps sm) now (.ow false []) .un .un .un .un .un) ?_ (rng_idx (by omega)))).trans r4)).trans ?_
  · show aCons _ _ (sP a b (houseD R ps sm) now (.ow false []) .un .un .un .un .un) = _
    generalize oApp 2 (runF 4 g__law_take) (aCons (xVar 0) (aCons (xO (oC (.int 8))) (fun ρ => .ok [] ρ))) = κ at e1 ⊢
    clear r4
    generalize houseD R ps sm = H at *
    generalize ((k : Nat) : Int) = K at *
    simp [_root_.Z.runF_eq, _root_.Z.endF_nx, _root_.Z.endF_rt, _root_.Z.entry, _root_.Z.outsOf, _root_.Z.sSeq, _root_.Z.sNil, _root_.Z.sRet, _root_.Z.sRetV, _root_.Z.sSet, _root_.Z.sIf, _root_.Z.sExp, _root_.Z.sAsg, _root_.Z.setV, _root_.Z.oAnd, _root_.Z.oOr, _root_.Z.oNot, _root_.Z.oIte, _root_.Z.oApp, _root_.Z.oAppK, _root_.Z.aCons, _root_.Z.xO, _root_.Z.oVar, _root_.Z.oC, _root_.Z.xVar, _root_.Z.apF, _root_.Z.avOf, _root_.Z.Av.sl, _root_.Z.Va.sl, _root_.Z.odSl, _root_.Z.aft, _root_.Z.setOuts, _root_.Z.boolV, _root_.Z.Va.d, _root_.Z.oChn, _root_.Z.Od.get, _root_.Z.Sl.get, _root_.Z.ap1, _root_.Z.ap2, _root_.Z.f1, _root_.Z.f2, _root_.Z.fL, _root_.Z.fM, _root_.Z.apL, _root_.Z.getAll, _root_.Z.bNot, _root_.Z.bAnd, _root_.Z.bOr, _root_.Z.bX, _root_.Z.bOf, _root_.Z.truth, _root_.Z.oTup, _root_.Z.oLst, _root_.Z.oSeq, _root_.Z.datas, e1]
  · refine seq_rt (ret_ok ?_)
    clear r4 e1
    generalize houseD R ps sm = H at *
    generalize Q.map perD = QQ at *
    simp [_root_.Z.runF_eq, _root_.Z.endF_nx, _root_.Z.endF_rt, _root_.Z.entry, _root_.Z.outsOf, _root_.Z.sSeq, _root_.Z.sNil, _root_.Z.sRet, _root_.Z.sRetV, _root_.Z.sSet, _root_.Z.sIf, _root_.Z.sExp, _root_.Z.sAsg, _root_.Z.setV, _root_.Z.oAnd, _root_.Z.oOr, _root_.Z.oNot, _root_.Z.oIte, _root_.Z.oApp, _root_.Z.oAppK, _root_.Z.aCons, _root_.Z.xO, _root_.Z.oVar, _root_.Z.oC, _root_.Z.xVar, _root_.Z.apF, _root_.Z.avOf, _root_.Z.Av.sl, _root_.Z.Va.sl, _root_.Z.odSl, _root_.Z.aft, _root_.Z.setOuts, _root_.Z.boolV, _root_.Z.Va.d, _root_.Z.oChn, _root_.Z.Od.get, _root_.Z.Sl.get, _root_.Z.ap1, _root_.Z.ap2, _root_.Z.f1, _root_.Z.f2, _root_.Z.fL, _root_.Z.fM, _root_.Z.apL, _root_.Z.getAll, _root_.Z.bNot, _root_.Z.bAnd, _root_.Z.bOr, _root_.Z.bX, _root_.Z.bOf, _root_.Z.truth, _root_.Z.oTup, _root_.Z.oLst, _root_.Z.oSeq, _root_.Z.datas, p1]
end
/-! ### the steps told -/
abbrev sW (S K : D) (a b : Int) (P TL x5 H now x8 x9 x10 x11 x12 : Sl) : En := [.vl S, .vl K, .ow false (bx a b), P, TL, x5, H, now, x8, x9, x10, x11, x12, .un]
theorem stand_ok : stOk (.str "stand") := .inr (.inl rfl)
theorem at_ok {S K : D} {a b : Int} {R : List Int} {ps : List Pas} {sm : List D} {now : Int} {TL : List D} {P x5 x12 : Sl} {w : Str} {r t u : Int} (hl : ps.length < 8) : ∃ L : List D, L.length ≤ 8 ∧ (∀ d ∈ L, stOk d) ∧
    oComp (iArg iRange1 (aCons (xO (fL pLen (aCons (xO (f2 pIx (xVar 6) (xO (oC (.int 1))))) (fun ρ => .ok [] ρ)))) (fun ρ => .ok [] ρ))) (gN 13) c1_law (oVar 13) [13] (sW S K a b P (.ow false TL) x5 (.vl (houseD R ps sm)) (.vl (.int now)) (.vl (.str w)) (.vl (.int r)) (.vl (.int t)) (.vl (.int u)) x12) =
    .ok (.fo L) (sW S K a b P (.ow false TL) x5 (.vl (houseD R ps sm)) (.vl (.int now)) (.vl (.str w)) (.vl (.int r)) (.vl (.int t)) (.vl (.int u)) x12) := by
  have h61 : pIx (houseD R ps sm) (.int 1) = some (.fz (.tuple (ps.map pasD))) := rfl
  have lp := len_map pasD ps
  have c := comp_filter (fi := iArg iRange1 (aCons (xO (fL pLen (aCons (xO (f2 pIx (xVar 6) (xO (oC (.int 1))))) (fun ρ => .ok [] ρ)))) (fun ρ => .ok [] ρ))) (g := gN 13) (cond := c1_law) (elt := oVar 13) (vs := [13]) (ρ := sW S K a b P (.ow false TL) x5 (.vl (houseD R ps sm)) (.vl (.int now)) (.vl (.str w)) (.vl (.int r)) (.vl (.int t)) (.vl (.int u)) x12) (ρ0 := sW S K a b P (.ow false TL) x5 (.vl (houseD R ps sm)) (.vl (.int now)) (.vl (.str w)) (.vl (.int r)) (.vl (.int t)) (.vl (.int u)) x12) (ds := idxs 0 ps.length) (fun d => match d with | .int i => decide ((ps[i.toNat]?.getD ⟨0, 0, 0, 0, []⟩).t = r) | _ => false) (iArg_ok (d := .int (ps.length : Nat)) (by
    generalize houseD R ps sm = H at *
    generalize PyData.tuple (ps.map pasD) = PP at *
    simp [_root_.Z.runF_eq, _root_.Z.endF_nx, _root_.Z.endF_rt, _root_.Z.entry, _root_.Z.outsOf, _root_.Z.sSeq, _root_.Z.sNil, _root_.Z.sRet, _root_.Z.sRetV, _root_.Z.sSet, _root_.Z.sIf, _root_.Z.sExp, _root_.Z.sAsg, _root_.Z.setV, _root_.Z.oAnd, _root_.Z.oOr, _root_.Z.oNot, _root_.Z.oIte, _root_.Z.oApp, _root_.Z.oAppK, _root_.Z.aCons, _root_.Z.xO, _root_.Z.oVar, _root_.Z.oC, _root_.Z.xVar, _root_.Z.apF, _root_.Z.avOf, _root_.Z.Av.sl, _root_.Z.Va.sl, _root_.Z.odSl, _root_.Z.aft, _root_.Z.setOuts, _root_.Z.boolV, _root_.Z.Va.d, _root_.Z.oChn, _root_.Z.Od.get, _root_.Z.Sl.get, _root_.Z.ap1, _root_.Z.ap2, _root_.Z.f1, _root_.Z.f2, _root_.Z.fL, _root_.Z.fM, _root_.Z.apL, _root_.Z.getAll, _root_.Z.bNot, _root_.Z.bAnd, _root_.Z.bOr, _root_.Z.bX, _root_.Z.bOf, _root_.Z.truth, _root_.Z.oTup, _root_.Z.oLst, _root_.Z.oSeq, _root_.Z.datas, h61, lp]) (rng_idx (by omega))) (fun d hd => by
    obtain ⟨i, _, hi, rfl⟩ := idxs_mem hd
    have hi : i < ps.length := by omega
    have ix : pIx (.tuple (ps.map pasD)) (.int (i : Nat)) = some (.fz (pasD ps[i])) := at_tup (by rw [List.getElem?_map, List.getElem?_eq_getElem hi]; rfl)
    have i0 : pIx (pasD ps[i]) (.int 0) = some (.fz (.int ps[i].t)) := rfl
    have k := eq_int ps[i].t r
    refine ⟨[.vl S, .vl K, .ow false (bx a b), P, .ow false TL, x5, .vl (houseD R ps sm), .vl (.int now), .vl (.str w), .vl (.int r), .vl (.int t), .vl (.int u), x12, .vl (.int (i : Nat))], [.vl S, .vl K, .ow false (bx a b), P, .ow false TL, x5, .vl (houseD R ps sm), .vl (.int now), .vl (.str w), .vl (.int r), .vl (.int t), .vl (.int u), x12, .vl (.int (i : Nat))], [.vl S, .vl K, .ow false (bx a b), P, .ow false TL, x5, .vl (houseD R ps sm), .vl (.int now), .vl (.str w), .vl (.int r), .vl (.int t), .vl (.int u), x12, .vl (.int (i : Nat))], rfl, ?_, rfl, rfl, rfl⟩
    unfold c1_law
    simp only [Int.toNat_natCast, List.getElem?_eq_getElem hi, Option.getD_some]
    by_cases hq : ps[i].t = r
    · rw [decide_eq_true hq] at k ⊢
      clear hq
      generalize ps[i].t = t0 at *
      generalize pasD ps[i] = pd at *
      generalize houseD R ps sm = H at *
      generalize PyData.tuple (ps.map pasD) = PP at *
      generalize ((i : Nat) : Int) = I at *
      simp [_root_.Z.runF_eq, _root_.Z.endF_nx, _root_.Z.endF_rt, _root_.Z.entry, _root_.Z.outsOf, _root_.Z.sSeq, _root_.Z.sNil, _root_.Z.sRet, _root_.Z.sRetV, _root_.Z.sSet, _root_.Z.sIf, _root_.Z.sExp, _root_.Z.sAsg, _root_.Z.setV, _root_.Z.oAnd, _root_.Z.oOr, _root_.Z.oNot, _root_.Z.oIte, _root_.Z.oApp, _root_.Z.oAppK, _root_.Z.aCons, _root_.Z.xO, _root_.Z.oVar, _root_.Z.oC, _root_.Z.xVar, _root_.Z.apF, _root_.Z.avOf, _root_.Z.Av.sl, _root_.Z.Va.sl, _root_.Z.odSl, _root_.Z.aft, _root_.Z.setOuts, _root_.Z.boolV, _root_.Z.Va.d, _root_.Z.oChn, _root_.Z.Od.get, _root_.Z.Sl.get, _root_.Z.ap1, _root_.Z.ap2, _root_.Z.f1, _root_.Z.f2, _root_.Z.fL, _root_.Z.fM, _root_.Z.apL, _root_.Z.getAll, _root_.Z.bNot, _root_.Z.bAnd, _root_.Z.bOr, _root_.Z.bX, _root_.Z.bOf, _root_.Z.truth, _root_.Z.oTup, _root_.Z.oLst, _root_.Z.oSeq, _root_.Z.datas, h61, ix, i0, k]
    · rw [decide_eq_false hq] at k ⊢
      clear hq
      generalize ps[i].t = t0 at *
      generalize pasD ps[i] = pd at *
      generalize houseD R ps sm = H at *
      generalize PyData.tuple (ps.map pasD) = PP at *
      generalize ((i : Nat) : Int) = I at *
      simp [_root_.Z.runF_eq, _root_.Z.endF_nx, _root_.Z.endF_rt, _root_.Z.entry, _root_.Z.outsOf, _root_.Z.sSeq, _root_.Z.sNil, _root_.Z.sRet, _root_.Z.sRetV, _root_.Z.sSet, _root_.Z.sIf, _root_.Z.sExp, _root_.Z.sAsg, _root_.Z.setV, _root_.Z.oAnd, _root_.Z.oOr, _root_.Z.oNot, _root_.Z.oIte, _root_.Z.oApp, _root_.Z.oAppK, _root_.Z.aCons, _root_.Z.xO, _root_.Z.oVar, _root_.Z.oC, _root_.Z.xVar, _root_.Z.apF, _root_.Z.avOf, _root_.Z.Av.sl, _root_.Z.Va.sl, _root_.Z.odSl, _root_.Z.aft, _root_.Z.setOuts, _root_.Z.boolV, _root_.Z.Va.d, _root_.Z.oChn, _root_.Z.Od.get, _root_.Z.Sl.get, _root_.Z.ap1, _root_.Z.ap2, _root_.Z.f1, _root_.Z.f2, _root_.Z.fL, _root_.Z.fM, _root_.Z.apL, _root_.Z.getAll, _root_.Z.bNot, _root_.Z.bAnd, _root_.Z.bOr, _root_.Z.bX, _root_.Z.bOf, _root_.Z.truth, _root_.Z.oTup, _root_.Z.oLst, _root_.Z.oSeq, _root_.Z.datas, h61, ix, i0, k]) (by rw [idxs_len]; have := line_big; omega)
  refine ⟨_, ?_, fun d hd => ?_, c⟩
  · have := List.length_filter_le (fun d => match d with | PyData.int i => decide ((ps[i.toNat]?.getD ⟨0, 0, 0, 0, []⟩).t = r) | _ => false) (idxs 0 ps.length)
    rw [idxs_len] at this
    exact Nat.le_trans this (by omega)
  · obtain ⟨i, _, hi, rfl⟩ := idxs_mem (List.mem_filter.mp hd).1
    exact .inr (.inr ⟨_, ⟨by omega, by omega⟩, rfl⟩)
theorem lst_ok {ρ : En} : oLst (aCons (xO (oC .none)) (aCons (xO (oC (.str "stand"))) (fun ρ => .ok [] ρ))) ρ = .ok (.fo [.none, .str "stand"]) ρ := by
  have l2 : 2 ≤ sizeLine := by decide
  unfold oLst oSeq aCons xO oC
  simp only [Rz.bind_ok, datas, Va.d, Option.map_some]
  exact if_pos l2
theorem cat_ok {κ1 κ2 : En → Rz Va} {ρ ρ1 ρ2 : En} {va vb vc : Va} (h1 : κ1 ρ = .ok va ρ1) (h2 : κ2 ρ1 = .ok vb ρ2) (h : pAdd va.d vb.d = some vc) : f2 pAdd (xO κ1) (xO κ2) ρ = .ok vc ρ2 := by
  unfold f2 xO
  simp only [h1, h2, Rz.bind_ok]
  unfold ap2
  simp only [Od.get, h, Rz.of_some]
theorem pa_ok {L : List D} (hL : L.length ≤ 8) : pAdd (.list [.none, .str "stand"]) (.list L) = some (.fo ([.none, .str "stand"] ++ L)) := by
  have big := line_big
  have h : ([PyData.none, .str "stand"]).length + L.length ≤ sizeLine := by
    have : ([PyData.none, .str "stand"]).length = 2 := rfl
    omega
  unfold pAdd
  exact if_pos h
theorem le_stand {L : List D} (hL : L.length ≤ 8) : ([PyData.none, .str "stand"] ++ L).length ≤ 1000 := by
  rw [List.length_append]
  have : ([PyData.none, .str "stand"]).length = 2 := rfl
  omega
theorem l2w_ok {S K : D} {a b : Int} (hb : BoxOk b) {R : List Int} {ps : List Pas} {sm : List D} {now : Int} {TL : List D} (hT : TL.length < 100) {P x5 x12 : Sl} (n12 : NT x12) {w : Str} {r t u : Int} (hl : ps.length < 8) :
    ∃ d a' b' y12, stOk d ∧ BoxOk b' ∧ NT y12 ∧ l2_law (sW S K a b P (.ow false TL) x5 (.vl (houseD R ps sm)) (.vl (.int now)) (.vl (.str w)) (.vl (.int r)) (.vl (.int t)) (.vl (.int u)) x12) =
    .ok .nx (sW S K a' b' P (.ow false (TL ++ [d])) x5 (.vl (houseD R ps sm)) (.vl (.int now)) (.vl (.str w)) (.vl (.int r)) (.vl (.int t)) (.vl (.int u)) y12) := by
  obtain ⟨L, hL, sL', c⟩ := at_ok (S := S) (K := K) (a := a) (b := b) (R := R) (ps := ps) (sm := sm) (now := now) (TL := TL) (P := P) (x5 := x5) (x12 := x12) (w := w) (r := r) (t := t) (u := u) hl
  have big := line_big
  have pa : pAdd (.list [.none, .str "stand"]) (.list L) = some (.fo ([.none, .str "stand"] ++ L)) := pa_ok hL
  obtain ⟨d, a1, b1, hd, hb1, e1⟩ := pick_app (fe := oVar 12) (ρ := sW S K a b P (.ow false TL) x5 (.vl (houseD R ps sm)) (.vl (.int now)) (.vl (.str w)) (.vl (.int r)) (.vl (.int t)) (.vl (.int u)) (.ow false ([.none, .str "stand"] ++ L))) (ρ1 := sW S K a b P (.ow false TL) x5 (.vl (houseD R ps sm)) (.vl (.int now)) (.vl (.str w)) (.vl (.int r)) (.vl (.int t)) (.vl (.int u)) (.vl (.list ([.none, .str "stand"] ++ L)))) (i := 2) (va := .fz (.list ([.none, .str "stand"] ++ L))) (ds := [.none, .str "stand"] ++ L) rfl rfl rfl rfl hb (by simp) (le_stand hL)
  have okd : stOk d := by
    rcases List.mem_append.mp hd with h | h
    · simp only [List.mem_cons, List.not_mem_nil, or_false] at h
      rcases h with rfl | rfl
      · exact .inl rfl
      · exact stand_ok
    · exact sL' d h
  have e1 : oApp 2 (runF 2 g__law_pick) (aCons (xVar 2) (aCons (xO (oVar 12)) (fun ρ => .ok [] ρ))) (sW S K a b P (.ow false TL) x5 (.vl (houseD R ps sm)) (.vl (.int now)) (.vl (.str w)) (.vl (.int r)) (.vl (.int t)) (.vl (.int u)) (.ow false ([.none, .str "stand"] ++ L))) = .ok (.fz d) (sW S K a1 b1 P (.ow false TL) x5 (.vl (houseD R ps sm)) (.vl (.int now)) (.vl (.str w)) (.vl (.int r)) (.vl (.int t)) (.vl (.int u)) (.vl (.list ([.none, .str "stand"] ++ L)))) := e1
  have k1 := eq_strs w "here"
  have k2 := eq_int t now
  have s1 : sSet 12 (f2 pAdd (xO (oLst (aCons (xO (oC .none)) (aCons (xO (oC (.str "stand"))) (fun ρ => .ok [] ρ))))) (xO (oComp (iArg iRange1 (aCons (xO (fL pLen (aCons (xO (f2 pIx (xVar 6) (xO (oC (.int 1))))) (fun ρ => .ok [] ρ)))) (fun ρ => .ok [] ρ))) (gN 13) c1_law (oVar 13) [13]))) (sW S K a b P (.ow false TL) x5 (.vl (houseD R ps sm)) (.vl (.int now)) (.vl (.str w)) (.vl (.int r)) (.vl (.int t)) (.vl (.int u)) x12) = .ok .nx (sW S K a b P (.ow false TL) x5 (.vl (houseD R ps sm)) (.vl (.int now)) (.vl (.str w)) (.vl (.int r)) (.vl (.int t)) (.vl (.int u)) (.ow false ([.none, .str "stand"] ++ L))) := by
    exact set_ok (i := 12) (x := x12) (cat_ok lst_ok c (pa_ok hL)) rfl n12
  unfold l2_law
  by_cases q : (decide (w = "here") && decide (t = now)) = true
  · refine ⟨d, a1, b1, .vl (.list ([.none, .str "stand"] ++ L)), okd, hb1, nt_vl, ?_⟩
    refine (seq_nx s1).trans ?_
    refine (seq_nx (app_ok (p := false) (q := false) (va := .fz d) (ρ1 := sW S K a1 b1 P (.ow false TL) x5 (.vl (houseD R ps sm)) (.vl (.int now)) (.vl (.str w)) (.vl (.int r)) (.vl (.int t)) (.vl (.int u)) (.vl (.list ([.none, .str "stand"] ++ L)))) (ds := TL) (fs := TL) rfl ?_ rfl (by omega))).trans rfl
    rw [Bool.and_eq_true] at q
    rw [q.1] at k1
    rw [q.2] at k2
    clear s1 c pa hd q
    generalize oApp 2 (runF 2 g__law_pick) (aCons (xVar 2) (aCons (xO (oVar 12)) (fun ρ => .ok [] ρ))) = κ at e1 ⊢
    generalize [.none, .str "stand"] ++ L = LL at *
    generalize houseD R ps sm = H at *
    simp [_root_.Z.runF_eq, _root_.Z.endF_nx, _root_.Z.endF_rt, _root_.Z.entry, _root_.Z.outsOf, _root_.Z.sSeq, _root_.Z.sNil, _root_.Z.sRet, _root_.Z.sRetV, _root_.Z.sSet, _root_.Z.sIf, _root_.Z.sExp, _root_.Z.sAsg, _root_.Z.setV, _root_.Z.oAnd, _root_.Z.oOr, _root_.Z.oNot, _root_.Z.oIte, _root_.Z.oApp, _root_.Z.oAppK, _root_.Z.aCons, _root_.Z.xO, _root_.Z.oVar, _root_.Z.oC, _root_.Z.xVar, _root_.Z.apF, _root_.Z.avOf, _root_.Z.Av.sl, _root_.Z.Va.sl, _root_.Z.odSl, _root_.Z.aft, _root_.Z.setOuts, _root_.Z.boolV, _root_.Z.Va.d, _root_.Z.oChn, _root_.Z.Od.get, _root_.Z.Sl.get, _root_.Z.ap1, _root_.Z.ap2, _root_.Z.f1, _root_.Z.f2, _root_.Z.fL, _root_.Z.fM, _root_.Z.apL, _root_.Z.getAll, _root_.Z.bNot, _root_.Z.bAnd, _root_.Z.bOr, _root_.Z.bX, _root_.Z.bOf, _root_.Z.truth, _root_.Z.oTup, _root_.Z.oLst, _root_.Z.oSeq, _root_.Z.datas, k1, k2, e1]
  · refine ⟨.none, a, b, .ow false ([.none, .str "stand"] ++ L), .inl rfl, hb, nt_ow, ?_⟩
    refine (seq_nx s1).trans ?_
    refine (seq_nx (app_ok (p := false) (q := false) (va := .fz .none) (ρ1 := sW S K a b P (.ow false TL) x5 (.vl (houseD R ps sm)) (.vl (.int now)) (.vl (.str w)) (.vl (.int r)) (.vl (.int t)) (.vl (.int u)) (.ow false ([.none, .str "stand"] ++ L))) (ds := TL) (fs := TL) rfl ?_ rfl (by omega))).trans rfl
    clear s1 c pa hd e1
    generalize oApp 2 (runF 2 g__law_pick) (aCons (xVar 2) (aCons (xO (oVar 12)) (fun ρ => .ok [] ρ))) = κ
    generalize [.none, .str "stand"] ++ L = LL at *
    generalize houseD R ps sm = H at *
    generalize decide (w = "here") = q1 at *
    generalize decide (t = now) = q2 at *
    cases q1 <;> cases q2 <;> first | (exact absurd rfl q) | (clear q; simp [_root_.Z.runF_eq, _root_.Z.endF_nx, _root_.Z.endF_rt, _root_.Z.entry, _root_.Z.outsOf, _root_.Z.sSeq, _root_.Z.sNil, _root_.Z.sRet, _root_.Z.sRetV, _root_.Z.sSet, _root_.Z.sIf, _root_.Z.sExp, _root_.Z.sAsg, _root_.Z.setV, _root_.Z.oAnd, _root_.Z.oOr, _root_.Z.oNot, _root_.Z.oIte, _root_.Z.oApp, _root_.Z.oAppK, _root_.Z.aCons, _root_.Z.xO, _root_.Z.oVar, _root_.Z.oC, _root_.Z.xVar, _root_.Z.apF, _root_.Z.avOf, _root_.Z.Av.sl, _root_.Z.Va.sl, _root_.Z.odSl, _root_.Z.aft, _root_.Z.setOuts, _root_.Z.boolV, _root_.Z.Va.d, _root_.Z.oChn, _root_.Z.Od.get, _root_.Z.Sl.get, _root_.Z.ap1, _root_.Z.ap2, _root_.Z.f1, _root_.Z.f2, _root_.Z.fL, _root_.Z.fM, _root_.Z.apL, _root_.Z.getAll, _root_.Z.bNot, _root_.Z.bAnd, _root_.Z.bOr, _root_.Z.bX, _root_.Z.bOf, _root_.Z.truth, _root_.Z.oTup, _root_.Z.oLst, _root_.Z.oSeq, _root_.Z.datas, k1, k2])
end ZH

namespace ZH
open PySem PySem.Spec PyProof.Rows L2 Z
theorem l2w_loop {S K : D} {R : List Int} {ps : List Pas} {sm : List D} {now : Int} (hl : ps.length < 8) {Q x5 : Sl} : ∀ (P : List Per) (a b : Int) (TL : List D) (x8 x9 x10 x11 x12 : Sl), BoxOk b → (∀ d ∈ TL, stOk d) → TL.length + P.length < 100 → NT x8 → NT x9 → NT x10 → NT x11 → NT x12 →
    ∃ (a' b' : Int) (TM : List D) (y8 y9 y10 y11 y12 : Sl), BoxOk b' ∧ (∀ d ∈ TM, stOk d) ∧ TM.length = TL.length + P.length ∧ (NT y8 ∧ NT y9 ∧ NT y10 ∧ NT y11 ∧ NT y12) ∧
    loop (gTupZ 4 (gConsZ (gN 8) (gConsZ (gN 9) (gConsZ (gN 10) (gConsZ (gN 11) gNilZ))))) l2_law (P.map perD) (sW S K a b Q (.ow false TL) x5 (.vl (houseD R ps sm)) (.vl (.int now)) x8 x9 x10 x11 x12) = .ok .nx (sW S K a' b' Q (.ow false TM) x5 (.vl (houseD R ps sm)) (.vl (.int now)) y8 y9 y10 y11 y12)
  | [], a, b, TL, x8, x9, x10, x11, x12, hb, ht, _, n8, n9, n10, n11, n12 => ⟨a, b, TL, x8, x9, x10, x11, x12, hb, ht, rfl, ⟨n8, n9, n10, n11, n12⟩, rfl⟩
  | x :: P, a, b, TL, x8, x9, x10, x11, x12, hb, ht, hlen, n8, n9, n10, n11, n12 => by
    rw [List.length_cons] at hlen
    obtain ⟨d, a1, b1, y12, okd, hb1, m12, q⟩ := l2w_ok (S := S) (K := K) (a := a) hb (R := R) (ps := ps) (sm := sm) (now := now) (TL := TL) (by omega) (P := Q) (x5 := x5) n12 (w := x.w) (r := x.p) (t := x.b) (u := x.u) hl
    obtain ⟨a', b', TM, z8, z9, z10, z11, z12, r1, r2, r3, r4, r5⟩ := l2w_loop hl P a1 b1 (TL ++ [d]) (.vl (.str x.w)) (.vl (.int x.p)) (.vl (.int x.b)) (.vl (.int x.u)) y12 hb1 (fun e he => by
      rcases List.mem_append.mp he with h | h
      · exact ht e h
      · rw [List.mem_singleton.mp h]; exact okd) (by simp only [List.length_append, List.length_singleton]; omega) nt_vl nt_vl nt_vl nt_vl m12
    refine ⟨a', b', TM, z8, z9, z10, z11, z12, r1, r2, by rw [r3]; simp only [List.length_append, List.length_cons, List.length_nil]; omega, r4, ?_⟩
    have g1 : gTupZ 4 (gConsZ (gN 8) (gConsZ (gN 9) (gConsZ (gN 10) (gConsZ (gN 11) gNilZ)))) (perD x) (sW S K a b Q (.ow false TL) x5 (.vl (houseD R ps sm)) (.vl (.int now)) x8 x9 x10 x11 x12) = some (sW S K a b Q (.ow false TL) x5 (.vl (houseD R ps sm)) (.vl (.int now)) (.vl (.str x.w)) (.vl (.int x.p)) (.vl (.int x.b)) (.vl (.int x.u)) x12) :=
      gtup_ok (gcons_ok (gN_ok (x := x8) rfl n8) (gcons_ok (gN_ok (x := x9) rfl n9) (gcons_ok (gN_ok (x := x10) rfl n10) (gcons_ok (gN_ok (x := x11) rfl n11) rfl)))) rfl
    rw [List.map_cons, loop_nx g1 q, r5]
theorem rep_S2 {x : Str} (h : Sz 300000 x) : ∃ s, pRepr [.list [.str x, .str x]] = some (.fz (.str s)) := by
  have c := h.2
  refine ⟨_, rep_ok ?_ ?_ ?_ ?_ ?_⟩
  · show (PyData.canLayAll0 [.str x, .str x]) = true
    simp [PyData.canLayAll0, PyData.canLay0, c]
  · simp [PyData.depth, PyData.depthAll]
  · have e : PyData.weight (.list [.str x, .str x]) = x.cps.size + 1 + (x.cps.size + 1 + 0) := by simp [PyData.weight, PyData.weightAll]
    rw [e]
    have h1 : x.cps.size ≤ 300000 := h.1
    have : (2 : Nat) ^ 20 = 1048576 := by decide
    omega
  · simp [PyData.intsShort, PyData.intsShortAll]
  · simp [PyData.showable, PyData.showableAll]
theorem mul_two (d : D) : pMul (.list [d]) (.int 2) = some (.fo [d, d]) := by
  have h : -(2 ^ 63) ≤ (2 : Int) ∧ (2 : Int) < 2 ^ 63 ∧ [d].length * (2 : Int).toNat ≤ sizeLine := ⟨by decide, by decide, by show 1 * 2 ≤ sizeLine; decide⟩
  show (if -(2 ^ 63) ≤ (2 : Int) ∧ (2 : Int) < 2 ^ 63 ∧ [d].length * (2 : Int).toNat ≤ sizeLine then some (Va.fo (List.replicate (2 : Int).toNat [d]).flatten) else none) = _
  rw [if_pos h]
  rfl
theorem now_ok {a b : Int} (hb : BoxOk b) {S K : D} {x3 x4 x5 x6 x7 x8 x9 x10 x11 x12 : Sl} : ∃ n a' b', (0 ≤ n ∧ n ≤ 12) ∧ BoxOk b' ∧
    oApp 2 (runF 2 g__law_pick) (aCons (xVar 2) (aCons (xO (oLst (aCons (xO (oC (.int 0))) (aCons (xO (oC (.int 1))) (aCons (xO (oC (.int 4))) (aCons (xO (oApp 2 (runF 4 g__law_take) (aCons (xVar 2) (aCons (xO (oC (.int 12))) (fun ρ => .ok [] ρ))))) (fun ρ => .ok [] ρ))))))) (fun ρ => .ok [] ρ))) (sW S K a b x3 x4 x5 x6 x7 x8 x9 x10 x11 x12) = .ok (.fz (.int n)) (sW S K a' b' x3 x4 x5 x6 x7 x8 x9 x10 x11 x12) := by
  obtain ⟨r, a1, b1, hr, hb1, e1⟩ := take_app (fe := oC (.int 12)) (ρ := sW S K a b x3 x4 x5 x6 x7 x8 x9 x10 x11 x12) (i := 2) (m := 12) rfl rfl rfl hb (by omega) (by omega)
  have e1 : oApp 2 (runF 4 g__law_take) (aCons (xVar 2) (aCons (xO (oC (.int 12))) (fun ρ => .ok [] ρ))) (sW S K a b x3 x4 x5 x6 x7 x8 x9 x10 x11 x12) = .ok (.fz (.int r)) (sW S K a1 b1 x3 x4 x5 x6 x7 x8 x9 x10 x11 x12) := e1
  obtain ⟨d, a2, b2, hd, hb2, e2⟩ := pick_app (fe := oLst (aCons (xO (oC (.int 0))) (aCons (xO (oC (.int 1))) (aCons (xO (oC (.int 4))) (aCons (xO (oApp 2 (runF 4 g__law_take) (aCons (xVar 2) (aCons (xO (oC (.int 12))) (fun ρ => .ok [] ρ))))) (fun ρ => .ok [] ρ)))))) (ρ := sW S K a b x3 x4 x5 x6 x7 x8 x9 x10 x11 x12) (ρ1 := sW S K a1 b1 x3 x4 x5 x6 x7 x8 x9 x10 x11 x12) (i := 2) (va := .fo [.int 0, .int 1, .int 4, .int r]) (ds := [.int 0, .int 1, .int 4, .int r]) rfl (by
    generalize oApp 2 (runF 4 g__law_take) (aCons (xVar 2) (aCons (xO (oC (.int 12))) (fun ρ => .ok [] ρ))) = κ at e1 ⊢
    simp [_root_.Z.runF_eq, _root_.Z.endF_nx, _root_.Z.endF_rt, _root_.Z.entry, _root_.Z.outsOf, _root_.Z.sSeq, _root_.Z.sNil, _root_.Z.sRet, _root_.Z.sRetV, _root_.Z.sSet, _root_.Z.sIf, _root_.Z.sExp, _root_.Z.sAsg, _root_.Z.setV, _root_.Z.oAnd, _root_.Z.oOr, _root_.Z.oNot, _root_.Z.oIte, _root_.Z.oApp, _root_.Z.oAppK, _root_.Z.aCons, _root_.Z.xO, _root_.Z.oVar, _root_.Z.oC, _root_.Z.xVar, _root_.Z.apF, _root_.Z.avOf, _root_.Z.Av.sl, _root_.Z.Va.sl, _root_.Z.odSl, _root_.Z.aft, _root_.Z.setOuts, _root_.Z.boolV, _root_.Z.Va.d, _root_.Z.oChn, _root_.Z.Od.get, _root_.Z.Sl.get, _root_.Z.ap1, _root_.Z.ap2, _root_.Z.f1, _root_.Z.f2, _root_.Z.fL, _root_.Z.fM, _root_.Z.apL, _root_.Z.getAll, _root_.Z.bNot, _root_.Z.bAnd, _root_.Z.bOr, _root_.Z.bX, _root_.Z.bOf, _root_.Z.truth, _root_.Z.oTup, _root_.Z.oLst, _root_.Z.oSeq, _root_.Z.datas, e1, sizeLine]) rfl rfl hb1 (by simp) (by simp)
  obtain ⟨n, rfl, hn⟩ := ints4 hd
  exact ⟨n, a2, b2, by omega, hb2, e2⟩
theorem l3w_ok {ns : List Int} (hl : ns.length ≤ 63) {k : Nat} (hk : k < 5) {x2 x3 x4 x5 x6 x7 x8 x9 x10 x11 x12 : Sl} (n2 : NT x2) (n3 : NT x3) (n4 : NT x4) (n5 : NT x5) (n6 : NT x6) (n7 : NT x7) (n8 : NT x8) (n9 : NT x9) (n10 : NT x10) (n11 : NT x11) (n12 : NT x12) :
    ∃ y2 y3 y4 y5 y6 y7 y8 y9 y10 y11 y12, (NT y2 ∧ NT y3 ∧ NT y4 ∧ NT y5 ∧ NT y6 ∧ NT y7 ∧ NT y8 ∧ NT y9 ∧ NT y10 ∧ NT y11 ∧ NT y12) ∧
    l3_law [.vl (scrD ns), .vl (.int (k : Nat)), x2, x3, x4, x5, x6, x7, x8, x9, x10, x11, x12, .un] = .ok .nx [.vl (scrD ns), .vl (.int (k : Nat)), y2, y3, y4, y5, y6, y7, y8, y9, y10, y11, y12, .un] := by
  obtain ⟨a, b, hb, e1⟩ := r_box hk hl
  obtain ⟨R, ps, sm, a1, b1, hb1, hR, hps, hsm, e2⟩ := r_law_house (a := a) hb
  generalize scrD ns = S at *
  generalize PyData.int (k : Nat) = K at *
  obtain ⟨now, a2, b2, hn, hb2, e3⟩ := now_ok (a := a1) hb1 (S := S) (K := K) (x3 := x3) (x4 := x4) (x5 := x5) (x6 := x6) (x7 := x7) (x8 := x8) (x9 := x9) (x10 := x10) (x11 := x11) (x12 := x12)
  obtain ⟨P, a3, b3, hb3, hP, lP, e4⟩ := r_law_people (ps := ps) (a := a2) hb2 hn hR hsm
  obtain ⟨a4, b4, TM, y8, y9, y10, y11, y12, hb4, hT, lT, ⟨m8, m9, m10, m11, m12⟩, e5⟩ := l2w_loop (S := S) (K := K) (R := R) (ps := ps) (sm := sm) (now := now) hps.1 (Q := .vl (.tuple (P.map perD))) (x5 := x5) P a3 b3 [] x8 x9 x10 x11 x12 hb3 (fun d hd => by simp at hd) (by simp; omega) n8 n9 n10 n11 n12
  obtain ⟨t, a5, b5, ht, hb5, e6⟩ := take_app (fe := oC (.int 40)) (ρ := sW S K a4 b4 (.vl (.tuple (P.map perD))) (.ow false TM) x5 (.vl (houseD R ps sm)) (.vl (.int now)) y8 y9 y10 y11 y12) (i := 2) (m := 40) rfl rfl rfl hb4 (by omega) (by omega)
  have e6 : oApp 2 (runF 4 g__law_take) (aCons (xVar 2) (aCons (xO (oC (.int 40))) (fun ρ => .ok [] ρ))) (sW S K a4 b4 (.vl (.tuple (P.map perD))) (.ow false TM) x5 (.vl (houseD R ps sm)) (.vl (.int now)) y8 y9 y10 y11 y12) = .ok (.fz (.int t)) (sW S K a5 b5 (.vl (.tuple (P.map perD))) (.ow false TM) x5 (.vl (houseD R ps sm)) (.vl (.int now)) y8 y9 y10 y11 y12) := e6
  have ok : StOk now (now + t) R ps sm P TM := { know := ⟨by omega, by omega⟩, ken := ⟨by omega, by omega⟩, kR := by omega, ksl := hsm.1, ksm := hsm.2, kpl := by omega, kps := hps.2, kPl := by omega, kP := hP, ktn := by rw [lT]; simp; omega, ktl := hT }
  have d1 := r_drawn ok
  have d2 := r_law_drawn ok
  obtain ⟨s, rs⟩ := rep_S2 (sz_draw ok)
  have nes := ne_str s
  have mu : pMul (.list [.str (drawT now (now + t) R ps sm P TM)]) (.int 2) = some (.fo [.str (drawT now (now + t) R ps sm P TM), .str (drawT now (now + t) R ps sm P TM)]) := mul_two _
  have pt : pTuple [.list TM] = some (.fz (.tuple TM)) := rfl
  have pa : pAdd (.int now) (.int t) = some (.fz (.int (now + t))) := rfl
  refine ⟨.ow false (bx a5 b5), .vl (.tuple (P.map perD)), .ow false TM, .vl (stateD now (now + t) (houseD R ps sm) P TM), .vl (houseD R ps sm), .vl (.int now), y8, y9, y10, y11, y12, ⟨nt_ow, nt_vl, nt_ow, nt_vl, nt_vl, nt_vl, m8, m9, m10, m11, m12⟩, ?_⟩
  unfold l3_law
  refine (seq_nx (set_ok (i := 2) (va := .fo (bx a b)) (ρ1 := [.vl S, .vl K, x2, x3, x4, x5, x6, x7, x8, x9, x10, x11, x12, .un]) (x := x2) ?_ rfl n2)).trans ?_
  · clear d1 d2 e2 e3 e4 e5 e6
    generalize runF 4 g__law_box = φ at e1 ⊢
    generalize bx a b = BB at *
    simp [_root_.Z.runF_eq, _root_.Z.endF_nx, _root_.Z.endF_rt, _root_.Z.entry, _root_.Z.outsOf, _root_.Z.sSeq, _root_.Z.sNil, _root_.Z.sRet, _root_.Z.sRetV, _root_.Z.sSet, _root_.Z.sIf, _root_.Z.sExp, _root_.Z.sAsg, _root_.Z.setV, _root_.Z.oAnd, _root_.Z.oOr, _root_.Z.oNot, _root_.Z.oIte, _root_.Z.oApp, _root_.Z.oAppK, _root_.Z.aCons, _root_.Z.xO, _root_.Z.oVar, _root_.Z.oC, _root_.Z.xVar, _root_.Z.apF, _root_.Z.avOf, _root_.Z.Av.sl, _root_.Z.Va.sl, _root_.Z.odSl, _root_.Z.aft, _root_.Z.setOuts, _root_.Z.boolV, _root_.Z.Va.d, _root_.Z.oChn, _root_.Z.Od.get, _root_.Z.Sl.get, _root_.Z.ap1, _root_.Z.ap2, _root_.Z.f1, _root_.Z.f2, _root_.Z.fL, _root_.Z.fM, _root_.Z.apL, _root_.Z.getAll, _root_.Z.bNot, _root_.Z.bAnd, _root_.Z.bOr, _root_.Z.bX, _root_.Z.bOf, _root_.Z.truth, _root_.Z.oTup, _root_.Z.oLst, _root_.Z.oSeq, _root_.Z.datas, e1]
  · have h1 : oApp 1 (runF 11 g__law_house) (aCons (xVar 2) (fun ρ => .ok [] ρ)) (sW S K a b x3 x4 x5 x6 x7 x8 x9 x10 x11 x12) = .ok (.fz (houseD R ps sm)) (sW S K a1 b1 x3 x4 x5 x6 x7 x8 x9 x10 x11 x12) := app_s (i := 2) rfl e2
    have g1 : gTupZ 2 (gConsZ (gN 6) (gConsZ (gN 7) gNilZ)) (.tuple [houseD R ps sm, .int now]) (sW S K a2 b2 x3 x4 x5 x6 x7 x8 x9 x10 x11 x12) = some (sW S K a2 b2 x3 x4 x5 (.vl (houseD R ps sm)) (.vl (.int now)) x8 x9 x10 x11 x12) := gtup_ok (gcons_ok (gN_ok (x := x6) rfl n6) (gcons_ok (gN_ok (x := x7) rfl n7) rfl)) rfl
    refine (seq_nx (asg_ok (va := .fz (.tuple [houseD R ps sm, .int now])) (ρ1 := sW S K a2 b2 x3 x4 x5 x6 x7 x8 x9 x10 x11 x12) (ρ2 := sW S K a2 b2 x3 x4 x5 (.vl (houseD R ps sm)) (.vl (.int now)) x8 x9 x10 x11 x12) ?_ g1)).trans ?_
    · show oTup _ (sW S K a b x3 x4 x5 x6 x7 x8 x9 x10 x11 x12) = _
      clear d1 d2 e1 e2 e4 e5 e6 g1
      generalize oApp 1 (runF 11 g__law_house) (aCons (xVar 2) (fun ρ => .ok [] ρ)) = κ1 at h1 ⊢
      generalize oApp 2 (runF 2 g__law_pick) (aCons (xVar 2) (aCons (xO (oLst (aCons (xO (oC (.int 0))) (aCons (xO (oC (.int 1))) (aCons (xO (oC (.int 4))) (aCons (xO (oApp 2 (runF 4 g__law_take) (aCons (xVar 2) (aCons (xO (oC (.int 12))) (fun ρ => .ok [] ρ))))) (fun ρ => .ok [] ρ))))))) (fun ρ => .ok [] ρ))) = κ2 at e3 ⊢
      generalize houseD R ps sm = H at *
      simp [_root_.Z.runF_eq, _root_.Z.endF_nx, _root_.Z.endF_rt, _root_.Z.entry, _root_.Z.outsOf, _root_.Z.sSeq, _root_.Z.sNil, _root_.Z.sRet, _root_.Z.sRetV, _root_.Z.sSet, _root_.Z.sIf, _root_.Z.sExp, _root_.Z.sAsg, _root_.Z.setV, _root_.Z.oAnd, _root_.Z.oOr, _root_.Z.oNot, _root_.Z.oIte, _root_.Z.oApp, _root_.Z.oAppK, _root_.Z.aCons, _root_.Z.xO, _root_.Z.oVar, _root_.Z.oC, _root_.Z.xVar, _root_.Z.apF, _root_.Z.avOf, _root_.Z.Av.sl, _root_.Z.Va.sl, _root_.Z.odSl, _root_.Z.aft, _root_.Z.setOuts, _root_.Z.boolV, _root_.Z.Va.d, _root_.Z.oChn, _root_.Z.Od.get, _root_.Z.Sl.get, _root_.Z.ap1, _root_.Z.ap2, _root_.Z.f1, _root_.Z.f2, _root_.Z.fL, _root_.Z.fM, _root_.Z.apL, _root_.Z.getAll, _root_.Z.bNot, _root_.Z.bAnd, _root_.Z.bOr, _root_.Z.bX, _root_.Z.bOf, _root_.Z.truth, _root_.Z.oTup, _root_.Z.oLst, _root_.Z.oSeq, _root_.Z.datas, h1, e3, sizeLine]
    · have h2 : oApp 3 (runF 9 g__law_people) (aCons (xVar 2) (aCons (xO (oVar 6)) (aCons (xO (oVar 7)) (fun ρ => .ok [] ρ)))) (sW S K a2 b2 x3 x4 x5 (.vl (houseD R ps sm)) (.vl (.int now)) x8 x9 x10 x11 x12) = .ok (.fz (.tuple (P.map perD))) (sW S K a3 b3 x3 x4 x5 (.vl (houseD R ps sm)) (.vl (.int now)) x8 x9 x10 x11 x12) :=
        app_svv (i := 2) (va := .fz (houseD R ps sm)) (vb := .fz (.int now)) (ρ1 := sW S K a2 b2 x3 x4 x5 (.vl (houseD R ps sm)) (.vl (.int now)) x8 x9 x10 x11 x12) (ρ2 := sW S K a2 b2 x3 x4 x5 (.vl (houseD R ps sm)) (.vl (.int now)) x8 x9 x10 x11 x12) rfl rfl rfl rfl e4
      refine (seq_nx (set_ok (i := 3) (x := x3) h2 rfl n3)).trans ?_
      refine (seq_nx (set_ok (i := 4) (va := .fo []) (ρ1 := sW S K a3 b3 (.vl (.tuple (P.map perD))) x4 x5 (.vl (houseD R ps sm)) (.vl (.int now)) x8 x9 x10 x11 x12) (x := x4) ?_ rfl n4)).trans ?_
      · show oLst _ (sW S K a3 b3 (.vl (.tuple (P.map perD))) x4 x5 (.vl (houseD R ps sm)) (.vl (.int now)) x8 x9 x10 x11 x12) = _
        clear d1 d2 e1 e2 e3 e4 e5 e6 g1 h1 h2
        generalize houseD R ps sm = H at *
        generalize PyData.tuple (P.map perD) = PP at *
        simp [_root_.Z.runF_eq, _root_.Z.endF_nx, _root_.Z.endF_rt, _root_.Z.entry, _root_.Z.outsOf, _root_.Z.sSeq, _root_.Z.sNil, _root_.Z.sRet, _root_.Z.sRetV, _root_.Z.sSet, _root_.Z.sIf, _root_.Z.sExp, _root_.Z.sAsg, _root_.Z.setV, _root_.Z.oAnd, _root_.Z.oOr, _root_.Z.oNot, _root_.Z.oIte, _root_.Z.oApp, _root_.Z.oAppK, _root_.Z.aCons, _root_.Z.xO, _root_.Z.oVar, _root_.Z.oC, _root_.Z.xVar, _root_.Z.apF, _root_.Z.avOf, _root_.Z.Av.sl, _root_.Z.Va.sl, _root_.Z.odSl, _root_.Z.aft, _root_.Z.setOuts, _root_.Z.boolV, _root_.Z.Va.d, _root_.Z.oChn, _root_.Z.Od.get, _root_.Z.Sl.get, _root_.Z.ap1, _root_.Z.ap2, _root_.Z.f1, _root_.Z.f2, _root_.Z.fL, _root_.Z.fM, _root_.Z.apL, _root_.Z.getAll, _root_.Z.bNot, _root_.Z.bAnd, _root_.Z.bOr, _root_.Z.bX, _root_.Z.bOf, _root_.Z.truth, _root_.Z.oTup, _root_.Z.oLst, _root_.Z.oSeq, _root_.Z.datas, sizeLine]
      · refine (seq_nx ((for_ok (ds := P.map perD) (ρ1 := sW S K a3 b3 (.vl (.tuple (P.map perD))) (.ow false []) x5 (.vl (houseD R ps sm)) (.vl (.int now)) x8 x9 x10 x11 x12) rfl).trans e5)).trans ?_
        refine (seq_nx (set_ok (i := 5) (va := .fz (stateD now (now + t) (houseD R ps sm) P TM)) (ρ1 := sW S K a5 b5 (.vl (.tuple (P.map perD))) (.ow false TM) x5 (.vl (houseD R ps sm)) (.vl (.int now)) y8 y9 y10 y11 y12) (x := x5) ?_ rfl n5)).trans ?_
        · show _ = Rz.ok (Va.fz (.tuple [.int now, .int (now + t), houseD R ps sm, .tuple (P.map perD), .tuple TM])) _
          clear d1 d2 e1 e2 e3 e4 e5 g1 h1 h2
          generalize oApp 2 (runF 4 g__law_take) (aCons (xVar 2) (aCons (xO (oC (.int 40))) (fun ρ => .ok [] ρ))) = κ at e6 ⊢
          generalize houseD R ps sm = H at *
          generalize PyData.tuple (P.map perD) = PP at *
          generalize now + t = nt at *
          simp [_root_.Z.runF_eq, _root_.Z.endF_nx, _root_.Z.endF_rt, _root_.Z.entry, _root_.Z.outsOf, _root_.Z.sSeq, _root_.Z.sNil, _root_.Z.sRet, _root_.Z.sRetV, _root_.Z.sSet, _root_.Z.sIf, _root_.Z.sExp, _root_.Z.sAsg, _root_.Z.setV, _root_.Z.oAnd, _root_.Z.oOr, _root_.Z.oNot, _root_.Z.oIte, _root_.Z.oApp, _root_.Z.oAppK, _root_.Z.aCons, _root_.Z.xO, _root_.Z.oVar, _root_.Z.oC, _root_.Z.xVar, _root_.Z.apF, _root_.Z.avOf, _root_.Z.Av.sl, _root_.Z.Va.sl, _root_.Z.odSl, _root_.Z.aft, _root_.Z.setOuts, _root_.Z.boolV, _root_.Z.Va.d, _root_.Z.oChn, _root_.Z.Od.get, _root_.Z.Sl.get, _root_.Z.ap1, _root_.Z.ap2, _root_.Z.f1, _root_.Z.f2, _root_.Z.fL, _root_.Z.fM, _root_.Z.apL, _root_.Z.getAll, _root_.Z.bNot, _root_.Z.bAnd, _root_.Z.bOr, _root_.Z.bX, _root_.Z.bOf, _root_.Z.truth, _root_.Z.oTup, _root_.Z.oLst, _root_.Z.oSeq, _root_.Z.datas, e6, pa, pt, sizeLine]
        · refine (seq_nx (ρ1 := sW S K a5 b5 (.vl (.tuple (P.map perD))) (.ow false TM) (.vl (stateD now (now + t) (houseD R ps sm) P TM)) (.vl (houseD R ps sm)) (.vl (.int now)) y8 y9 y10 y11 y12) ((if_no (ρ1 := sW S K a5 b5 (.vl (.tuple (P.map perD))) (.ow false TM) (.vl (stateD now (now + t) (houseD R ps sm) P TM)) (.vl (houseD R ps sm)) (.vl (.int now)) y8 y9 y10 y11 y12) ?_).trans rfl)).trans rfl
          show bOf _ (sW S K a5 b5 (.vl (.tuple (P.map perD))) (.ow false TM) (.vl (stateD now (now + t) (houseD R ps sm) P TM)) (.vl (houseD R ps sm)) (.vl (.int now)) y8 y9 y10 y11 y12) = _
          clear e1 e2 e3 e4 e5 e6 g1 h1 h2 ok
          generalize runF 9 g_drawn = φ1 at d1 ⊢
          generalize runF 24 g__law_drawn = φ2 at d2 ⊢
          generalize stateD now (now + t) (houseD R ps sm) P TM = SD at *
          generalize drawT now (now + t) R ps sm P TM = DT at *
          generalize houseD R ps sm = H at *
          generalize PyData.tuple (P.map perD) = PP at *
          simp [_root_.Z.runF_eq, _root_.Z.endF_nx, _root_.Z.endF_rt, _root_.Z.entry, _root_.Z.outsOf, _root_.Z.sSeq, _root_.Z.sNil, _root_.Z.sRet, _root_.Z.sRetV, _root_.Z.sSet, _root_.Z.sIf, _root_.Z.sExp, _root_.Z.sAsg, _root_.Z.setV, _root_.Z.oAnd, _root_.Z.oOr, _root_.Z.oNot, _root_.Z.oIte, _root_.Z.oApp, _root_.Z.oAppK, _root_.Z.aCons, _root_.Z.xO, _root_.Z.oVar, _root_.Z.oC, _root_.Z.xVar, _root_.Z.apF, _root_.Z.avOf, _root_.Z.Av.sl, _root_.Z.Va.sl, _root_.Z.odSl, _root_.Z.aft, _root_.Z.setOuts, _root_.Z.boolV, _root_.Z.Va.d, _root_.Z.oChn, _root_.Z.Od.get, _root_.Z.Sl.get, _root_.Z.ap1, _root_.Z.ap2, _root_.Z.f1, _root_.Z.f2, _root_.Z.fL, _root_.Z.fM, _root_.Z.apL, _root_.Z.getAll, _root_.Z.bNot, _root_.Z.bAnd, _root_.Z.bOr, _root_.Z.bX, _root_.Z.bOf, _root_.Z.truth, _root_.Z.oTup, _root_.Z.oLst, _root_.Z.oSeq, _root_.Z.datas, d1, d2, rs, nes, mu, pick, sizeLine]
theorem l3w_loop {ns : List Int} (hl : ns.length ≤ 63) : ∀ (n c : Nat) (x1 x2 x3 x4 x5 x6 x7 x8 x9 x10 x11 x12 : Sl), c + n ≤ 5 → NT x1 → NT x2 → NT x3 → NT x4 → NT x5 → NT x6 → NT x7 → NT x8 → NT x9 → NT x10 → NT x11 → NT x12 →
    ∃ ρ', loop (gN 1) l3_law (idxs c n) [.vl (scrD ns), x1, x2, x3, x4, x5, x6, x7, x8, x9, x10, x11, x12, .un] = .ok .nx (.vl (scrD ns) :: ρ')
  | 0, c, x1, x2, x3, x4, x5, x6, x7, x8, x9, x10, x11, x12, _, _, _, _, _, _, _, _, _, _, _, _, _ => ⟨_, rfl⟩
  | n + 1, c, x1, x2, x3, x4, x5, x6, x7, x8, x9, x10, x11, x12, h, n1, n2, n3, n4, n5, n6, n7, n8, n9, n10, n11, n12 => by
    obtain ⟨y2, y3, y4, y5, y6, y7, y8, y9, y10, y11, y12, ⟨m2, m3, m4, m5, m6, m7, m8, m9, m10, m11, m12⟩, q⟩ := l3w_ok hl (k := c) (by omega) n2 n3 n4 n5 n6 n7 n8 n9 n10 n11 n12
    obtain ⟨ρ', q2⟩ := l3w_loop hl n (c + 1) (.vl (.int (c : Nat))) y2 y3 y4 y5 y6 y7 y8 y9 y10 y11 y12 (by omega) nt_vl m2 m3 m4 m5 m6 m7 m8 m9 m10 m11 m12
    refine ⟨ρ', ?_⟩
    have g1 : gN 1 (.int (c : Nat)) [.vl (scrD ns), x1, x2, x3, x4, x5, x6, x7, x8, x9, x10, x11, x12, .un] = some [.vl (scrD ns), .vl (.int (c : Nat)), x2, x3, x4, x5, x6, x7, x8, x9, x10, x11, x12, .un] := gN_ok (x := x1) rfl n1
    rw [idxs_succ, loop_nx g1 q, q2]
theorem final (ns : List Int) (hl : ns.length ≤ 63) : ∃ outs, runF 14 g_law [.v (scrD ns)] = .ok (.fz (.bool true)) outs := by
  obtain ⟨ρ', q⟩ := l3w_loop hl 5 0 .un .un .un .un .un .un .un .un .un .un .un .un (by omega) nt_un nt_un nt_un nt_un nt_un nt_un nt_un nt_un nt_un nt_un nt_un nt_un
  refine ⟨[.v (scrD ns)], ?_⟩
  suffices body : g_law [.vl (scrD ns), .un, .un, .un, .un, .un, .un, .un, .un, .un, .un, .un, .un, .un] = .ok (.rt (.fz (.bool true))) (.vl (scrD ns) :: ρ') by
    rw [runF_eq]
    show endF _ (g_law [.vl (scrD ns), .un, .un, .un, .un, .un, .un, .un, .un, .un, .un, .un, .un, .un]) = _
    rw [body]
    rfl
  unfold g_law
  refine (seq_nx ((for_ok (iArg_ok (d := .int 5) (ρ1 := [.vl (scrD ns), .un, .un, .un, .un, .un, .un, .un, .un, .un, .un, .un, .un, .un]) rfl (show iRange1 [.int 5] = some (idxs 0 5) from rng_idx (n := 5) (by omega)))).trans q)).trans ?_
  rfl
end ZH

namespace ZH
open PySem PySem.Spec PyProof.Rows L2 Z
theorem facts {K : PySem.W.Frag} {h : Heap} {mg : Str → Option Value} (X : K.In h) (G : h.Ns mainGlobals mg) (c : He.SaysD fa fn K) : Nonempty (Fx K mg) := by
  obtain ⟨d0, f0⟩ := c.def_ 0 (d := dOf 1 "is_place") rfl
  obtain ⟨d1, f1⟩ := c.def_ 1 (d := dOf 3 "step_word") rfl
  obtain ⟨d2, f2⟩ := c.def_ 2 (d := dOf 4 "step_words") rfl
  obtain ⟨d3, f3⟩ := c.def_ 3 (d := dOf 5 "urgencies_there") rfl
  obtain ⟨d4, f4⟩ := c.def_ 4 (d := dOf 6 "comings_to") rfl
  obtain ⟨d5, f5⟩ := c.def_ 5 (d := dOf 7 "room_line") rfl
  obtain ⟨d6, f6⟩ := c.def_ 6 (d := dOf 8 "passage_now") rfl
  obtain ⟨d7, f7⟩ := c.def_ 7 (d := dOf 9 "drawn") rfl
  obtain ⟨d8, f8⟩ := c.def_ 8 (d := dOf 11 "_law_box") rfl
  obtain ⟨d9, f9⟩ := c.def_ 9 (d := dOf 12 "_law_take") rfl
  obtain ⟨d10, f10⟩ := c.def_ 10 (d := dOf 13 "_law_pick") rfl
  obtain ⟨d11, f11⟩ := c.def_ 11 (d := dOf 14 "_law_lot") rfl
  obtain ⟨d12, f12⟩ := c.def_ 12 (d := dOf 15 "_law_house") rfl
  obtain ⟨d13, f13⟩ := c.def_ 13 (d := dOf 16 "_law_handed") rfl
  obtain ⟨d14, f14⟩ := c.def_ 14 (d := dOf 17 "_law_clear") rfl
  obtain ⟨d15, f15⟩ := c.def_ 15 (d := dOf 18 "_law_word") rfl
  obtain ⟨d16, f16⟩ := c.def_ 16 (d := dOf 19 "_law_drawn") rfl
  obtain ⟨d17, f17⟩ := c.def_ 17 (d := dOf 20 "_law_people") rfl
  obtain ⟨d18, f18⟩ := c.def_ 18 (d := dOf 21 "law") rfl
  exact ⟨⟨_, d0, f0, He.glo_ok X G (c.fact 0 (f := .glo "is_place") rfl),
    _, d1, f1, He.glo_ok X G (c.fact 1 (f := .glo "step_word") rfl),
    _, d2, f2, He.glo_ok X G (c.fact 2 (f := .glo "step_words") rfl),
    _, d3, f3, He.glo_ok X G (c.fact 3 (f := .glo "urgencies_there") rfl),
    _, d4, f4, He.glo_ok X G (c.fact 4 (f := .glo "comings_to") rfl),
    _, d5, f5, He.glo_ok X G (c.fact 5 (f := .glo "room_line") rfl),
    _, d6, f6, He.glo_ok X G (c.fact 6 (f := .glo "passage_now") rfl),
    _, d7, f7, He.glo_ok X G (c.fact 7 (f := .glo "drawn") rfl),
    _, d8, f8, He.glo_ok X G (c.fact 8 (f := .glo "_law_box") rfl),
    _, d9, f9, He.glo_ok X G (c.fact 9 (f := .glo "_law_take") rfl),
    _, d10, f10, He.glo_ok X G (c.fact 10 (f := .glo "_law_pick") rfl),
    _, d11, f11, He.glo_ok X G (c.fact 11 (f := .glo "_law_lot") rfl),
    _, d12, f12, He.glo_ok X G (c.fact 12 (f := .glo "_law_house") rfl),
    _, d13, f13, He.glo_ok X G (c.fact 13 (f := .glo "_law_handed") rfl),
    _, d14, f14, He.glo_ok X G (c.fact 14 (f := .glo "_law_clear") rfl),
    _, d15, f15, He.glo_ok X G (c.fact 15 (f := .glo "_law_word") rfl),
    _, d16, f16, He.glo_ok X G (c.fact 16 (f := .glo "_law_drawn") rfl),
    _, d17, f17, He.glo_ok X G (c.fact 17 (f := .glo "_law_people") rfl),
    _, d18, f18, He.glo_ok X G (c.fact 18 (f := .glo "law") rfl),
    He.free_ok X G (c.fact 19 (f := .free "abs") rfl),
    He.free_ok X G (c.fact 20 (f := .free "int") rfl),
    He.free_ok X G (c.fact 21 (f := .free "len") rfl),
    He.free_ok X G (c.fact 22 (f := .free "list") rfl),
    He.free_ok X G (c.fact 23 (f := .free "range") rfl),
    He.free_ok X G (c.fact 24 (f := .free "repr") rfl),
    He.free_ok X G (c.fact 25 (f := .free "sorted") rfl),
    He.free_ok X G (c.fact 26 (f := .free "str") rfl),
    He.free_ok X G (c.fact 27 (f := .free "tuple") rfl)⟩⟩
end ZH

open PySem PySem.W PySem.Calls PyProof.Rows
theorem PySem.Challenge.cw_outsoonest_k70_whole_houses_drawn_holds : PySem.Challenge.rw_outsoonest_k70_whole_houses_drawn.Holds := by
  w_on; o_law
  refine HandSHeadRun.head_any (r := OpenLaw.row PySem.Challenge.rw_outsoonest_k70_whole_houses_drawn) (q := view (OpenLaw.row PySem.Challenge.rw_outsoonest_k70_whole_houses_drawn).prog [21]) (H := ZH.hk) (ob := ZH.ob) (M := 9000) (loose := (["_law_box", "_law_clear", "_law_drawn", "_law_handed", "_law_house", "_law_lot", "_law_people", "_law_pick", "_law_take", "_law_word", "comings_to", "drawn", "is_place", "passage_now", "room_line", "step_word", "step_words", "urgencies_there"] : List PySem.Str)) (d := HandSHeadRun.topDef (OpenLaw.row PySem.Challenge.rw_outsoonest_k70_whole_houses_drawn).prog 21) (kwd := []) ZH.ob_eq
    (by kernel_rfl) (fun s => by kernel_rfl) ZH.run (by kernel_rfl) (by kernel_rfl) (by kernel_rfl) (by rfl) (by first | assumption | decide +kernel) (by decide +kernel) ⟨rfl, rfl, rfl, rfl, rfl, by decide +kernel⟩ ?hw ?hc
  case hw => w_witness2
  case hc =>
    refine Z.walk_G (l := PySem.Challenge.rw_outsoonest_k70_whole_houses_drawn) (n := 63) (k := 4) (x := "script") rfl (by decide) (by kernel_rfl) ⟨rfl, by decide, by decide⟩ ?G
    intro w mg fa h Y G hmg0
    obtain ⟨K, KX, c⟩ := Y
    have nm : (HandSHeadRun.topDef (OpenLaw.row PySem.Challenge.rw_outsoonest_k70_whole_houses_drawn).prog 21).name = ("law" : PySem.Str) := by kernel_rfl
    rw [nm] at hmg0
    obtain ⟨x⟩ := ZH.facts KX G c
    have e := hmg0.symm.trans x.m_law
    cases e
    exact ⟨K, x.d_law, ⟨K, []⟩, Z.runF 14 ZH.g_law, rfl, KX, fun s v => L2.FunD.bindsA (ps := ["script"]) x.F_law (fun _ _ _ _ _ _ us hl => match us, hl with | [_], _ => rfl) s [v] rfl, fun ns hl hb => ZH.final ns hl, fun base _ _ => ZH.ok_law x⟩
