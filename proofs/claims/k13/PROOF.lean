import PyProof.Rows.All
import Wide.All
import OpenK.AllK
import Wide.FinOn
import HandS.ForMost
import HandS.Wide
import HandS.IsInst
import HandS.Exc
import HandS.Flow
import HandS.TupAny
import HandS.TupMul
import HandS.TupLe
import HandS.NoneIn
import KE.GoesEnum
import KE.GoesMore
import KE.SortData
import KE.DataMinMax
import HandS.SetKeys
import HandS.SortKw
import PySem.Challenge.RW_changeride_k13_whole_wants_under_deeds
set_option Elab.async false
set_option linter.all false
set_option maxRecDepth 100000
set_option autoImplicit false
namespace DL
open PySem PySem.Spec PyProof.Rows L2

/-! ### data, slots, states -/
abbrev D := PyData
inductive Co where
  | lst (ds : List D) | dct (kvs : List (Key × D))
inductive Sl where
  | no | fz (d : D) | own (c : Co) | arg (c : Co)
inductive Vl where
  | fz (d : D) | own (c : Co) | loc (i : Nat)
abbrev DS := List Sl
inductive R (α : Type) where
  | ok (a : α) (s : DS) | ex (c : Value) (s : DS) | bad
@[simp] def R.bind {α β : Type} (r : R α) (k : α → DS → R β) : R β := match r with
  | .ok a s => k a s
  | .ex c s => .ex c s
  | .bad => .bad
@[simp] def Sl.held : Sl → Bool
  | .own _ => true | .arg _ => true | _ => false
def Sl.isArg : Sl → Bool
  | .arg _ => true | _ => false

/-- a key as data -/
def keyD : Key → D
  | .inl i => .int i
  | .inr x => .str x
/-- a dict that no row changes any more: its keys, its things -/
abbrev dctD (ks ds : List D) : D := .dict [(.bool true, .list ks), (.bool false, .list ds)]
mutual
/-- v is the data d, all of it in the part F of the heap -/
inductive Dp (K : PySem.W.Frag) (F : Hp) : V → D → Prop
  | non : Dp K F .non .none
  | bl (b : Bool) : Dp K F (.bl b) (.bool b)
  | int (i : Int) : Dp K F (.int i) (.int i)
  | str (x : Str) : Dp K F (.str x) (.str x)
  | lst {a : Addr} {xs : List V} {ds : List D} : F a = some (.lst xs) → DpAll K F xs ds → Dp K F (.ref a) (.list ds)
  | tup {a : Addr} {xs : List V} {ds : List D} : F a = some (.tup xs) → DpAll K F xs ds → Dp K F (.ref a) (.tuple ds)
  /-- the script: a list of ints that is only read -/
  | scr {a : Addr} {ns : List Int} : SqL K F a (ns.map V.int) → Dp K F (.ref a) (.dict [(.none, .list (ns.map PyData.int))])
  | dct {a : Addr} {od : Obj} {ws : List (Key × V)} {ds : List D} : F a = some (.frz od (.dK ws)) → DpAll K F (ws.map Prod.snd) ds → Dp K F (.ref a) (dctD (ws.map fun w => keyD w.1) ds)
inductive DpAll (K : PySem.W.Frag) (F : Hp) : List V → List D → Prop
  | nil : DpAll K F [] []
  | cons {v : V} {vs : List V} {d : D} {ds : List D} : Dp K F v d → DpAll K F vs ds → DpAll K F (v :: vs) (d :: ds)
end
theorem same_r {H H' : Hp} {a : Addr} {u : HO} (e : Same H H') (h : Rd H a u) : Rd H' a u := by
  rcases h with h | ⟨o, h⟩
  · exact .inl (e _ _ h)
  · exact .inr ⟨o, e _ _ h⟩
theorem same_l {K : PySem.W.Frag} {H H' : Hp} {a : Addr} {xs : List V} (e : Same H H') (h : SqL K H a xs) : SqL K H' a xs := e.seq h
theorem same_t {K : PySem.W.Frag} {H H' : Hp} {a : Addr} {xs : List V} (e : Same H H') (h : SqT K H a xs) : SqT K H' a xs := by
  rcases h with (h | ⟨o, h⟩) | h
  · exact .inl (.inl (e _ _ h))
  · exact .inl (.inr ⟨o, e _ _ h⟩)
  · exact .inr h
mutual
theorem dp_mono {K : PySem.W.Frag} {F F' : Hp} (e : Same F F') : ∀ (d : D) (v : V), Dp K F v d → Dp K F' v d
  | .none, _, h => by cases h; exact .non
  | .bool b, _, h => by cases h; exact .bl b
  | .int i, _, h => by cases h; exact .int i
  | .str x, _, h => by cases h; exact .str x
  | .list ds, _, h => by cases h with | lst h a => exact .lst (e _ _ h) (dpa_mono e ds _ a)
  | .tuple ds, _, h => by cases h with | tup h a => exact .tup (e _ _ h) (dpa_mono e ds _ a)
  | .dict [(.none, .list _)], _, h => by cases h with | scr h => exact .scr (same_l e h)
  | .dict [(.bool true, .list _), (.bool false, .list ds)], _, h => by cases h with | dct h a => exact .dct (e _ _ h) (dpa_mono e ds _ a)
  | .dict kvs, _, h => by
    cases h with
    | scr h => exact .scr (same_l e h)
    | @dct a od ws ds h w => exact .dct (e _ _ h) (dpa_mono e ds _ w)
theorem dpa_mono {K : PySem.W.Frag} {F F' : Hp} (e : Same F F') : ∀ (ds : List D) (vs : List V), DpAll K F vs ds → DpAll K F' vs ds
  | [], _, h => by cases h; exact .nil
  | d :: ds, _, h => by cases h with | cons h a => exact .cons (dp_mono e d _ h) (dpa_mono e ds _ a)
end
theorem dpa_len {K : PySem.W.Frag} {F : Hp} : ∀ {vs : List V} {ds : List D}, DpAll K F vs ds → vs.length = ds.length
  | _, _, .nil => rfl
  | _, _, .cons _ t => by simp [dpa_len t]
theorem dpa_get {K : PySem.W.Frag} {F : Hp} : ∀ {vs : List V} {ds : List D} {i : Nat} {d : D}, DpAll K F vs ds → ds[i]? = some d → ∃ v, vs[i]? = some v ∧ Dp K F v d
  | _, _, _, _, .nil, e => by simp at e
  | _, _, 0, _, .cons h _, e => by simp at e; subst e; exact ⟨_, rfl, h⟩
  | _, _, i + 1, _, .cons _ t, e => by
    obtain ⟨v, h1, h2⟩ := dpa_get (i := i) t (by simpa using e)
    exact ⟨v, by simpa using h1, h2⟩
theorem dpa_get' {K : PySem.W.Frag} {F : Hp} : ∀ {vs : List V} {ds : List D} {i : Nat} {v : V}, DpAll K F vs ds → vs[i]? = some v → ∃ d, ds[i]? = some d ∧ Dp K F v d
  | _, _, _, _, .nil, e => by simp at e
  | _, _, 0, _, .cons h _, e => by simp at e; subst e; exact ⟨_, rfl, h⟩
  | _, _, i + 1, _, .cons _ t, e => by
    obtain ⟨v, h1, h2⟩ := dpa_get' (i := i) t (by simpa using e)
    exact ⟨v, by simpa using h1, h2⟩
theorem dpa_app {K : PySem.W.Frag} {F : Hp} : ∀ {vs ws : List V} {ds es : List D}, DpAll K F vs ds → DpAll K F ws es → DpAll K F (vs ++ ws) (ds ++ es)
  | _, _, _, _, .nil, b => b
  | _, _, _, _, .cons h t, b => .cons h (dpa_app t b)
theorem dpa_take {K : PySem.W.Frag} {F : Hp} : ∀ {vs : List V} {ds : List D} (n : Nat), DpAll K F vs ds → DpAll K F (vs.take n) (ds.take n)
  | _, _, 0, _ => by simp; exact .nil
  | _, _, n + 1, .nil => by simp; exact .nil
  | _, _, n + 1, .cons h t => .cons h (dpa_take n t)
theorem dpa_drop {K : PySem.W.Frag} {F : Hp} : ∀ {vs : List V} {ds : List D} (n : Nat), DpAll K F vs ds → DpAll K F (vs.drop n) (ds.drop n)
  | _, _, 0, h => h
  | _, _, n + 1, .nil => by simp; exact .nil
  | _, _, n + 1, .cons h t => dpa_drop n t
theorem dpa_set {K : PySem.W.Frag} {F : Hp} : ∀ {vs : List V} {ds : List D} {v : V} {d : D} (n : Nat), DpAll K F vs ds → Dp K F v d → DpAll K F (vs.set n v) (ds.set n d)
  | _, _, _, _, _, .nil, _ => .nil
  | _, _, _, _, 0, .cons h t, x => .cons x t
  | _, _, _, _, n + 1, .cons h t, x => .cons h (dpa_set n t x)
theorem dpa_rev {K : PySem.W.Frag} {F : Hp} : ∀ {vs : List V} {ds : List D}, DpAll K F vs ds → DpAll K F vs.reverse ds.reverse
  | _, _, .nil => .nil
  | _, _, .cons h t => by
    rw [List.reverse_cons, List.reverse_cons]
    exact dpa_app (dpa_rev t) (.cons h .nil)
theorem dpa_erase {K : PySem.W.Frag} {F : Hp} : ∀ {vs : List V} {ds : List D} (n : Nat), DpAll K F vs ds → DpAll K F (vs.eraseIdx n) (ds.eraseIdx n)
  | _, _, _, .nil => .nil
  | _, _, 0, .cons h t => t
  | _, _, n + 1, .cons h t => .cons h (dpa_erase n t)

mutual
theorem dp_lib {K : PySem.W.Frag} {F : Hp} : ∀ (d : D) (v : V), d.canLay0 = true → Dp K F v d → L2.Dp K F v d
  | .none, _, _, h => by cases h; exact .non
  | .bool b, _, _, h => by cases h; exact .bl b
  | .int i, _, _, h => by cases h; exact .int i
  | .str x, _, _, h => by cases h; exact .str x
  | .list ds, _, c, h => by cases h with | lst h a => exact .lst (SqL.of h) (dpa_lib ds _ c a)
  | .tuple ds, _, c, h => by cases h with | tup h a => exact .tup (SqT.of h) (dpa_lib ds _ c a)
  | .dict kvs, _, c, h => by cases c
theorem dpa_lib {K : PySem.W.Frag} {F : Hp} : ∀ (ds : List D) (vs : List V), PyData.canLayAll0 ds = true → DpAll K F vs ds → L2.DpAll K F vs ds
  | [], _, _, h => by cases h; exact .nil
  | d :: ds, _, c, h => by
    have c' : d.canLay0 = true ∧ PyData.canLayAll0 ds = true := by
      have c : (d.canLay0 && PyData.canLayAll0 ds) = true := c
      rw [Bool.and_eq_true] at c
      exact c
    cases h with | cons h a => exact .cons (dp_lib d _ c'.1 h) (dpa_lib ds _ c'.2 a)
end
theorem dpa_ints {K : PySem.W.Frag} {F : Hp} : ∀ (ns : List Int), DpAll K F (ns.map V.int) (ns.map PyData.int)
  | [] => .nil
  | n :: ns => .cons (.int n) (dpa_ints ns)
/-- what an own object holds -/
def CoOk (K : PySem.W.Frag) (F : Hp) : Co → HO → Prop
  | .lst ds, o => ∃ vs, o = .lst vs ∧ DpAll K F vs ds
  | .dct kvs, o => ∃ ws, o = .dK ws ∧ Paired (fun (p : Key × V) (q : Key × D) => p.1 = q.1 ∧ Dp K F p.2 q.2) ws kvs
theorem CoOk.mono {K : PySem.W.Frag} {F F' : Hp} (e : Same F F') : ∀ {c : Co} {o : HO}, CoOk K F c o → CoOk K F' c o
  | .lst ds, _, ⟨vs, h, a⟩ => ⟨vs, h, dpa_mono e _ _ a⟩
  | .dct kvs, _, ⟨ws, h, a⟩ => ⟨ws, h, Paired.mapP a fun _ _ z => ⟨z.1, dp_mono e _ _ z.2⟩⟩
theorem CoOk.mut {K : PySem.W.Frag} {F : Hp} : ∀ {c : Co} {o : HO}, CoOk K F c o → L2.Mut (some o)
  | .lst ds, _, ⟨vs, h, a⟩ => by subst h; trivial
  | .dct kvs, _, ⟨ws, h, a⟩ => by subst h; trivial

/-- what is fixed through a def's body: F0, H0 what stood at its beginning (F0: what is never changed of it), M: the slots of own arguments; E: what is wanted of an error -/
structure Cf where
  K : PySem.W.Frag
  E : L2.St → XK
structure Ct where
  C : Cf
  F0 : Hp
  H0 : Hp
  M : Nat → Option Addr
abbrev Ct.K (G : Ct) : PySem.W.Frag := G.C.K
abbrev Ct.E (G : Ct) : L2.St → XK := G.C.E

def SlOk (G : Ct) (F H : Hp) (i : Nat) (x : Option (Option V)) : Sl → Prop
  | .no => True
  | .fz d => ∃ v, x = some (some v) ∧ Dp G.K F v d
  | .own c => ∃ p o, x = some (some (.ref p)) ∧ H p = some o ∧ F p = none ∧ CoOk G.K F c o ∧ G.M i = none ∧ G.H0 p = none
  | .arg c => ∃ p o, x = some (some (.ref p)) ∧ H p = some o ∧ F p = none ∧ CoOk G.K F c o ∧ G.M i = some p

structure St1 (G : Ct) (δ : DS) (σ : L2.St) (F H : Hp) : Prop where
  len : δ.length = σ.length
  fh : Same F H
  f0 : Same G.F0 F
  h0 : ∀ b o, (∀ i, G.M i ≠ some b) → G.H0 b = some o → H b = some o
  fn : ∀ b, F b ≠ none → G.F0 b ≠ none ∨ G.H0 b = none
  sl : ∀ (i : Nat) (s : Sl), δ[i]? = some s → SlOk G F H i σ[i]? s
  di : ∀ (i j : Nat) (s t : Sl) (p : Addr), i ≠ j → δ[i]? = some s → δ[j]? = some t → s.held = true → t.held = true → σ[i]? = some (some (.ref p)) → σ[j]? = some (some (.ref p)) → False
  ma : ∀ i p, G.M i = some p → ∃ c, δ[i]? = some (.arg c)

/-- a value -/
def VlOk (G : Ct) (δ : DS) (σ : L2.St) (F H : Hp) (v : V) : Vl → Prop
  | .fz d => Dp G.K F v d
  | .own c => ∃ p o, v = .ref p ∧ H p = some o ∧ F p = none ∧ CoOk G.K F c o ∧ G.H0 p = none ∧ ∀ (i : Nat) (s : Sl), δ[i]? = some s → s.held = true → σ[i]? ≠ some (some (.ref p))
  | .loc i => σ[i]? = some (some v)

/-! ### lookups and keeps -/
section
variable {G : Ct} {δ δ' : DS} {σ : L2.St} {F F' H H' : Hp} {p : Addr} {o : HO}
/-- what is new at H was not there at the beginning -/
theorem St1.new0 (k : St1 G δ σ F H) (h : H p = none) : G.H0 p = none := by
  cases e : G.H0 p with
  | none => rfl
  | some o =>
    by_cases hm : ∃ i, G.M i = some p
    · obtain ⟨i, hi⟩ := hm
      obtain ⟨c, hc⟩ := k.ma i p hi
      obtain ⟨q, o', _, h1, _, _, h2⟩ := k.sl i _ hc
      rw [hi] at h2
      cases h2
      rw [h] at h1
      cases h1
    · have := k.h0 p o (fun i hi => hm ⟨i, hi⟩) e
      rw [h] at this
      cases this
theorem St1.newF (k : St1 G δ σ F H) (h : H p = none) : F p = none := k.fh.free h
/-- the heap grows by p alone -/
theorem same_upd {H : Hp} {p : Addr} {o : HO} (h : H p = none) : Same H (upd H p o) := fun b x e => by
  rw [upd_ne (ne_of_none e h)]
  exact e
theorem SlOk.mono {i : Nat} {x : Option (Option V)} {s : Sl} (h : SlOk G F H i x s) (ff : Same F F') (hh : ∀ b o, F b = none → H b = some o → s.held = true → x = some (some (.ref b)) → H' b = some o ∧ F' b = none) : SlOk G F' H' i x s := by
  cases s with
  | no => trivial
  | fz d =>
    obtain ⟨v, e, h⟩ := h
    exact ⟨v, e, dp_mono ff _ _ h⟩
  | own c =>
    obtain ⟨p, o, e, h1, h2, h3, h4, h5⟩ := h
    obtain ⟨g1, g2⟩ := hh p o h2 h1 rfl e
    exact ⟨p, o, e, g1, g2, h3.mono ff, h4, h5⟩
  | arg c =>
    obtain ⟨p, o, e, h1, h2, h3, h4⟩ := h
    obtain ⟨g1, g2⟩ := hh p o h2 h1 rfl e
    exact ⟨p, o, e, g1, g2, h3.mono ff, h4⟩
/-- the state as the heap grows: H to H', F to F', where what is held stays and is not frozen -/
theorem St1.grow (k : St1 G δ σ F H) (ff : Same F F') (fh : Same F' H') (hh : Same H H') (fn : ∀ b, F' b ≠ none → F b ≠ none ∨ (G.H0 b = none ∧ ∀ (i : Nat) (s : Sl), δ[i]? = some s → s.held = true → σ[i]? ≠ some (some (.ref b)))) : St1 G δ σ F' H' where
  len := k.len
  fh := fh
  f0 := k.f0.trans ff
  h0 := fun b o hm e => hh b o (k.h0 b o hm e)
  fn := fun b e => by
    rcases fn b e with q | q
    · exact k.fn b q
    · exact .inr q.1
  sl := fun i s e => (k.sl i s e).mono ff fun b o h1 h2 h3 h4 => ⟨hh b o h2, by
    cases q : F' b with
    | none => rfl
    | some u =>
      rcases fn b (by rw [q]; simp) with z | z
      · exact absurd h1 z
      · exact absurd h4 (z.2 i s e h3)⟩
  di := k.di
  ma := k.ma
/-- a new frozen object -/
theorem St1.newFz (k : St1 G δ σ F H) (h : H p = none) : St1 G δ σ (upd F p o) (upd H p o) := by
  have hF := k.newF h
  refine k.grow (same_upd hF) (fun b u e => ?_) (same_upd h) fun b e => ?_
  · by_cases hb : b = p
    · subst hb; rw [upd_same] at e ⊢; exact e
    · rw [upd_ne hb] at e ⊢; exact k.fh _ _ e
  · by_cases hb : b = p
    · subst hb
      refine .inr ⟨k.new0 h, fun i s hs hh q => ?_⟩
      have z := k.sl i s hs
      cases s with
      | own c => obtain ⟨r, u, e1, e2, _⟩ := z; rw [q] at e1; cases e1; rw [h] at e2; cases e2
      | arg c => obtain ⟨r, u, e1, e2, _⟩ := z; rw [q] at e1; cases e1; rw [h] at e2; cases e2
      | no => cases hh
      | fz d => cases hh
    · rw [upd_ne hb] at e
      exact .inl e
/-- a new object that is ours -/
theorem St1.newOwn (k : St1 G δ σ F H) (h : H p = none) : St1 G δ σ F (upd H p o) := k.grow (Same.refl F) (k.fh.trans (same_upd h)) (same_upd h) fun b e => .inl e
theorem St1.free (k : St1 G δ σ F H) (h : H p = none) : ∀ (i : Nat) (s : Sl), δ[i]? = some s → s.held = true → σ[i]? ≠ some (some (.ref p)) := fun i s hs hh q => by
  have z := k.sl i s hs
  cases s with
  | own c => obtain ⟨r, u, e1, e2, _⟩ := z; rw [q] at e1; cases e1; rw [h] at e2; cases e2
  | arg c => obtain ⟨r, u, e1, e2, _⟩ := z; rw [q] at e1; cases e1; rw [h] at e2; cases e2
  | no => cases hh
  | fz d => cases hh
/-- .. its value -/
theorem St1.valOwn (k : St1 G δ σ F H) (h : H p = none) {c : Co} (hc : CoOk G.K F c o) : VlOk G δ σ F (upd H p o) (.ref p) (.own c) :=
  ⟨p, o, rfl, upd_same, k.newF h, hc, k.new0 h, k.free h⟩
/-- what is frozen of a value that is new -/
def fzT : Vl → Vl
  | .own (.lst ds) => .fz (.list ds)
  | x => x
theorem St1.freeze (k : St1 G δ σ F H) {v : V} {a : Vl} (h : VlOk G δ σ F H v a) : ∃ F', St1 G δ σ F' H ∧ Same F F' ∧ VlOk G δ σ F' H v (fzT a) := by
  cases a with
  | fz d => exact ⟨F, k, Same.refl F, h⟩
  | loc i => exact ⟨F, k, Same.refl F, h⟩
  | own c =>
    cases c with
    | dct kvs => exact ⟨F, k, Same.refl F, h⟩
    | lst ds =>
      obtain ⟨p, o, rfl, h1, h2, ⟨vs, rfl, h3⟩, h4, h5⟩ := h
      have ff : Same F (upd F p (.lst vs)) := same_upd h2
      refine ⟨upd F p (.lst vs), k.grow ff (fun b u e => ?_) (Same.refl H) fun b e => ?_, ff, .lst upd_same (dpa_mono ff _ _ h3)⟩
      · by_cases hb : b = p
        · subst hb; rw [upd_same] at e; rw [h1]; exact e
        · rw [upd_ne hb] at e; exact k.fh _ _ e
      · by_cases hb : b = p
        · subst hb; exact .inr ⟨h4, h5⟩
        · rw [upd_ne hb] at e; exact .inl e

/-! ### looking at a value -/
def vw (δ : DS) : Vl → Option D
  | .fz d => some d
  | .own (.lst ds) => some (.list ds)
  | .own _ => none
  | .loc i => match δ[i]? with
    | some (.own (.lst ds)) => some (.list ds)
    | some (.arg (.lst ds)) => some (.list ds)
    | some (.fz d) => some d
    | _ => none
/-- v is d: in the frozen part, or an own list of such -/
def Vw (K : PySem.W.Frag) (F H : Hp) (v : V) (d : D) : Prop := Dp K F v d ∨ ∃ p vs ds, v = .ref p ∧ d = .list ds ∧ H p = some (.lst vs) ∧ DpAll K F vs ds
theorem Vw.dp {K : PySem.W.Frag} {v : V} {d : D} (h : Vw K F H v d) (fh : Same F H) : Dp K H v d := by
  rcases h with h | ⟨p, vs, ds, rfl, rfl, h1, h2⟩
  · exact dp_mono fh _ _ h
  · exact .lst h1 (dpa_mono fh _ _ h2)
theorem St1.view (k : St1 G δ σ F H) {v : V} {a : Vl} {d : D} (h : VlOk G δ σ F H v a) (e : vw δ a = some d) : Vw G.K F H v d := by
  cases a with
  | fz d => cases e; exact .inl h
  | own c =>
    cases c with
    | dct _ => cases e
    | lst ds =>
      cases e
      obtain ⟨p, o, rfl, h1, h2, ⟨vs, rfl, h3⟩, _⟩ := h
      exact .inr ⟨p, vs, ds, rfl, rfl, h1, h3⟩
  | loc i =>
    have h : σ[i]? = some (some v) := h
    unfold vw at e
    simp only at e
    cases es : δ[i]? with
    | none => rw [es] at e; cases e
    | some s =>
      rw [es] at e
      have z := k.sl i s es
      cases s with
      | no => cases e
      | fz d' =>
        cases e
        obtain ⟨v', e1, e2⟩ := z
        rw [h] at e1
        cases e1
        exact .inl e2
      | own c =>
        cases c with
        | dct _ => cases e
        | lst ds =>
          cases e
          obtain ⟨p, o, e1, h1, h2, ⟨vs, rfl, h3⟩, _⟩ := z
          rw [h] at e1
          cases e1
          exact .inr ⟨p, vs, ds, rfl, rfl, h1, h3⟩
      | arg c =>
        cases c with
        | dct _ => cases e
        | lst ds =>
          cases e
          obtain ⟨p, o, e1, h1, h2, ⟨vs, rfl, h3⟩, _⟩ := z
          rw [h] at e1
          cases e1
          exact .inr ⟨p, vs, ds, rfl, rfl, h1, h3⟩
/-- an own list's items -/
theorem Vw.list {K : PySem.W.Frag} {v : V} {ds : List D} (h : Vw K F H v (.list ds)) (fh : Same F H) : ∃ p vs, v = .ref p ∧ H p = some (.lst vs) ∧ DpAll K F vs ds := by
  rcases h with h | ⟨p, vs, ds', rfl, e, h1, h2⟩
  · cases h with | lst a b => exact ⟨_, _, rfl, fh _ _ a, b⟩
  · cases e
    exact ⟨p, vs, rfl, h1, h2⟩
theorem Vw.tup {K : PySem.W.Frag} {v : V} {ds : List D} (h : Vw K F H v (.tuple ds)) : ∃ p vs, v = .ref p ∧ F p = some (.tup vs) ∧ DpAll K F vs ds := by
  rcases h with h | ⟨p, vs, ds', rfl, e, h1, h2⟩
  · cases h with | tup a b => exact ⟨_, _, rfl, a, b⟩
  · cases e
theorem Vw.scr {K : PySem.W.Frag} {v : V} {kvs : List (D × D)} (h : Vw K F H v (.dict kvs)) (hk : ∀ ks ds, kvs ≠ [(.bool true, .list ks), (.bool false, .list ds)]) : ∃ (p : Addr) (ns : List Int), v = .ref p ∧ kvs = [(.none, .list (ns.map PyData.int))] ∧ SqL K F p (ns.map V.int) := by
  rcases h with h | ⟨p, vs, ds', rfl, e, h1, h2⟩
  · cases h with
    | scr a => exact ⟨_, _, rfl, rfl, a⟩
    | dct a b => exact absurd rfl (hk _ _)
  · cases e
theorem Vw.int {K : PySem.W.Frag} {v : V} {i : Int} (h : Vw K F H v (.int i)) : v = .int i := by
  rcases h with h | ⟨p, vs, ds', rfl, e, h1, h2⟩
  · cases h; rfl
  · cases e
theorem Vw.bl {K : PySem.W.Frag} {v : V} {i : Bool} (h : Vw K F H v (.bool i)) : v = .bl i := by
  rcases h with h | ⟨p, vs, ds', rfl, e, h1, h2⟩
  · cases h; rfl
  · cases e
theorem Vw.str {K : PySem.W.Frag} {v : V} {i : Str} (h : Vw K F H v (.str i)) : v = .str i := by
  rcases h with h | ⟨p, vs, ds', rfl, e, h1, h2⟩
  · cases h; rfl
  · cases e
theorem Vw.non {K : PySem.W.Frag} {v : V} (h : Vw K F H v .none) : v = .non := by
  rcases h with h | ⟨p, vs, ds', rfl, e, h1, h2⟩
  · cases h; rfl
  · cases e
theorem Vw.mono {K : PySem.W.Frag} {v : V} {d : D} (h : Vw K F H v d) (ff : Same F F') (hh : ∀ p vs, v = .ref p → H p = some (.lst vs) → H' p = some (.lst vs)) : Vw K F' H' v d := by
  rcases h with h | ⟨p, vs, ds', rfl, e, h1, h2⟩
  · exact .inl (dp_mono ff _ _ h)
  · exact .inr ⟨p, vs, ds', rfl, e, hh p vs rfl h1, dpa_mono ff _ _ h2⟩
/-- a value's word as all goes on: frozen ones and slots -/
def Vl.stays : Vl → Bool
  | .own _ => false
  | _ => true
theorem VlOk.keep {v : V} {a : Vl} (h : VlOk G δ σ F H v a) (st : a.stays = true) (ff : Same F F') : VlOk G δ' σ F' H' v a := by
  cases a with
  | fz d => exact dp_mono ff _ _ h
  | own c => cases st
  | loc i => exact h
theorem fzT_stays {a : Vl} {d : D} {δ : DS} (h : vw δ (fzT a) = some d) : (fzT a).stays = true := by
  cases a with
  | fz d => rfl
  | loc i => rfl
  | own c => cases c <;> first | rfl | cases h
/-- a value is kept for good: what it is as frozen data -/
def kp (a : Vl) (δ : DS) : R D := match a with
  | .fz d => .ok d δ
  | .own (.lst ds) => .ok (.list ds) δ
  | .own _ => .bad
  | .loc i => match δ[i]? with
    | some (.own (.lst ds)) => .ok (.list ds) (δ.set i (.fz (.list ds)))
    | some (.fz d) => .ok d δ
    | _ => .bad
theorem St1.keepV (k : St1 G δ σ F H) {v : V} {a : Vl} {d : D} (h : VlOk G δ σ F H v a) (e : kp a δ = .ok d δ') : ∃ F', St1 G δ' σ F' H ∧ Same F F' ∧ Dp G.K F' v d := by
  cases a with
  | fz d' => cases e; exact ⟨F, k, Same.refl F, h⟩
  | own c =>
    cases c with
    | dct _ => cases e
    | lst ds =>
      cases e
      obtain ⟨F', a, b, c⟩ := k.freeze h
      exact ⟨F', a, b, c⟩
  | loc i =>
    have h : σ[i]? = some (some v) := h
    unfold kp at e
    simp only at e
    cases es : δ[i]? with
    | none => rw [es] at e; cases e
    | some s =>
      rw [es] at e
      have z := k.sl i s es
      cases s with
      | no => cases e
      | arg c => cases e
      | fz d' =>
        cases e
        obtain ⟨v', e1, e2⟩ := z
        rw [h] at e1
        cases e1
        exact ⟨F, k, Same.refl F, e2⟩
      | own c =>
        cases c with
        | dct _ => cases e
        | lst ds =>
          cases e
          obtain ⟨p, o, e1, h1, h2, ⟨vs, rfl, h3⟩, h4, h5⟩ := z
          rw [h] at e1
          cases e1
          have ff : Same F (upd F p (.lst vs)) := same_upd h2
          have hlt : i < δ.length := (List.getElem?_eq_some_iff.mp es).1
          have dpv : Dp G.K (upd F p (.lst vs)) (.ref p) (.list ds) := .lst upd_same (dpa_mono ff _ _ h3)
          refine ⟨upd F p (.lst vs), ⟨by simpa using k.len, fun b u e => ?_, k.f0.trans ff, k.h0, fun b e => ?_, fun j s hs => ?_, fun j j' s t q hj hs ht hh hh' q1 q2 => ?_, fun j q hq => ?_⟩, ff, dpv⟩
          · by_cases hb : b = p
            · subst hb; rw [upd_same] at e; rw [h1]; exact e
            · rw [upd_ne hb] at e; exact k.fh _ _ e
          · by_cases hb : b = p
            · subst hb; exact .inr h5
            · rw [upd_ne hb] at e; exact k.fn b e
          · by_cases hj : j = i
            · subst hj
              rw [List.getElem?_set_self hlt] at hs
              cases hs
              exact ⟨.ref p, h, dpv⟩
            · rw [List.getElem?_set_ne (Ne.symm hj)] at hs
              refine (k.sl j s hs).mono ff fun b u g1 g2 g3 g4 => ⟨g2, ?_⟩
              by_cases hb : b = p
              · subst hb
                exact (k.di j i s _ b hj hs es g3 rfl g4 h).elim
              · rw [upd_ne hb]; exact g1
          · have a1 : j ≠ i := fun z => by
              subst z
              rw [List.getElem?_set_self hlt] at hs
              cases hs
              cases hh
            have a2 : j' ≠ i := fun z => by
              subst z
              rw [List.getElem?_set_self hlt] at ht
              cases ht
              cases hh'
            rw [List.getElem?_set_ne (Ne.symm a1)] at hs
            rw [List.getElem?_set_ne (Ne.symm a2)] at ht
            exact k.di j j' s t q hj hs ht hh hh' q1 q2
          · obtain ⟨c, hc⟩ := k.ma j q hq
            have a1 : j ≠ i := fun z => by
              subst z
              rw [es] at hc
              cases hc
            exact ⟨c, by rw [List.getElem?_set_ne (Ne.symm a1)]; exact hc⟩
end
end DL

set_option Elab.async false
set_option linter.all false
set_option maxRecDepth 100000
set_option autoImplicit false
namespace DL
open PySem PySem.Spec PyProof.Rows L2

/-! ### what is wanted behind a data reading -/
def finA {α β : Type} (G : Ct) (W : DS → Hp → Hp → β → α → Prop) (r : R α) (σ : L2.St) (F : Hp) (Q : β → Hp → Prop) : Prop := match r with
  | .ok a δ' => ∀ b F' H', St1 G δ' σ F' H' → Same F F' → W δ' F' H' b a → Q b H'
  | .ex c δ' => ∀ F' H', St1 G δ' σ F' H' → Same F F' → G.E σ c none H'
  | .bad => False
theorem finA_mono {α β : Type} {G : Ct} {W : DS → Hp → Hp → β → α → Prop} {r : R α} {σ : L2.St} {F F1 : Hp} {Q : β → Hp → Prop} (h : finA G W r σ F Q) (f : Same F F1) : finA G W r σ F1 Q := by
  cases r with
  | ok a δ => exact fun b F' H' s g w => h b F' H' s (f.trans g) w
  | ex c δ => exact fun F' H' s g => h F' H' s (f.trans g)
  | bad => exact h
theorem finA_bind {α β α' β' : Type} {G : Ct} {W : DS → Hp → Hp → β → α → Prop} {W' : DS → Hp → Hp → β' → α' → Prop} {r : R α} {k : α → DS → R α'} {σ : L2.St} {F : Hp} {Q : β → Hp → Prop} {Q' : β' → Hp → Prop}
    (h : finA G W' (r.bind k) σ F Q') (hk : ∀ a δ1 v F1 H1, St1 G δ1 σ F1 H1 → Same F F1 → W δ1 F1 H1 v a → finA G W' (k a δ1) σ F1 Q' → Q v H1) : finA G W r σ F Q := by
  cases r with
  | ok a δ => exact fun v F1 H1 s g w => hk a δ v F1 H1 s g w (finA_mono h g)
  | ex c δ => exact h
  | bad => exact h
theorem finA_imp {α β : Type} {G : Ct} {W : DS → Hp → Hp → β → α → Prop} {r : R α} {σ : L2.St} {F : Hp} {Q Q' : β → Hp → Prop} (h : finA G W r σ F Q) (q : ∀ b H, Q b H → Q' b H) : finA G W r σ F Q' := by
  cases r with
  | ok a δ => exact fun b F' H' s g w => q _ _ (h b F' H' s g w)
  | ex c δ => exact h
  | bad => exact h
def WV (G : Ct) (σ : L2.St) : DS → Hp → Hp → V → Vl → Prop := fun δ F H v a => VlOk G δ σ F H v a
def WB : DS → Hp → Hp → Bool → Bool → Prop := fun _ _ _ b a => b = a
def WL (G : Ct) : DS → Hp → Hp → List V → List D → Prop := fun _ F _ vs ds => DpAll G.K F vs ds
def WO : DS → Hp → Hp → Option Int → Option Int → Prop := fun _ _ _ b a => b = a
abbrev De := DS → R Vl
abbrev Dt := DS → R Bool
abbrev Dl := DS → R (List D)
abbrev Dopt := DS → R (Option Int)
def up (C : Cf) (td : De) : TE := fun σ H Q => ∃ G δ F, G.C = C ∧ St1 G δ σ F H ∧ finA G (WV G σ) (td δ) σ F Q
def upT (C : Cf) (td : Dt) : TT := fun σ H Q => ∃ G δ F, G.C = C ∧ St1 G δ σ F H ∧ finA G WB (td δ) σ F Q
def upL (C : Cf) (td : Dl) : TA := fun σ H Q => ∃ G δ F, G.C = C ∧ St1 G δ σ F H ∧ finA G (WL G) (td δ) σ F Q
def upO (C : Cf) (td : Dopt) : TO := fun σ H Q => ∃ G δ F, G.C = C ∧ St1 G δ σ F H ∧ finA G WO (td δ) σ F Q

section
variable {X : Cx} {C : Cf} {e : Expr}
theorem pe_weak {t t' : TE} (h : PE X e t) (w : ∀ σ H Q, t' σ H Q → t σ H Q) : PE X e t' := ⟨fun pins s σ H Q I q => h.run pins s σ H Q I (w σ H Q q)⟩
theorem pt_weak {t t' : TT} (h : PT X e t) (w : ∀ σ H Q, t' σ H Q → t σ H Q) : PT X e t' := ⟨fun pins s σ H Q I q => h.run pins s σ H Q I (w σ H Q q)⟩
theorem pw_weak {t t' : TT} (h : PW X e t) (w : ∀ σ H Q, t' σ H Q → t σ H Q) : PW X e t' := ⟨fun wh pins s σ H Q I q => h.run wh pins s σ H Q I (w σ H Q q)⟩
theorem pa_weak {es : List Expr} {t t' : TA} (h : PA X es t) (w : ∀ σ H Q, t' σ H Q → t σ H Q) : PA X es t' := ⟨fun pos pins s σ H Q I q => h.run pos pins s σ H Q I (w σ H Q q)⟩
theorem po_weak {eo : Option Expr} {t t' : TO} (h : PO X eo t) (w : ∀ σ H Q, t' σ H Q → t σ H Q) : PO X eo t' := ⟨fun pins s σ H Q I q => h.run pins s σ H Q I (w σ H Q q)⟩
theorem ps_weak {st : Stmt} {t t' : TS} (h : PS X st t) (w : ∀ D σ H, t' D σ H → t D σ H) : PS X st t' := ⟨fun pins s σ H D I q => h.run pins s σ H D I (w D σ H q)⟩
theorem pss_weak {st : List Stmt} {t t' : TS} (h : PSs X st t) (w : ∀ D σ H, t' D σ H → t D σ H) : PSs X st t' := ⟨fun pins s σ H D I q => h.run pins s σ H D I (w D σ H q)⟩

/-! ### names, constants -/
def dVar (i : Nat) : De := fun δ => match δ[i]? with
  | some (.fz d) => .ok (.fz d) δ
  | some (.own _) => .ok (.loc i) δ
  | some (.arg _) => .ok (.loc i) δ
  | _ => .bad
theorem pd_var (i : Nat) {x : Str} {pos : Pos} (hN : X.N[i]? = some x := by rfl) (hv : Vis X.env.scope x := by first | exact Or.inl rfl | exact Or.inr (Or.inl rfl) | exact Or.inr (Or.inr rfl)) (hd : (x == ("__debug__" : Str)) = false := by decide)
    (hcd : (x == ("__classdict__" : Str)) = false := by decide) : PE X (.Name x pos) (up C (dVar i)) := by
  refine pe_weak (pe_var hN hv hd hcd) fun σ H Q ⟨G, δ, F, hC, k, f⟩ => ?_
  subst hC
  unfold dVar at f
  cases es : δ[i]? with
  | none => rw [es] at f; exact f.elim
  | some s =>
    rw [es] at f
    have z := k.sl i s es
    cases s with
    | no => exact f.elim
    | fz d =>
      obtain ⟨v, e1, e2⟩ := z
      exact ⟨v, e1, f v F H k (Same.refl F) e2⟩
    | own c =>
      obtain ⟨p, o, e1, _⟩ := z
      exact ⟨_, e1, f _ F H k (Same.refl F) e1⟩
    | arg c =>
      obtain ⟨p, o, e1, _⟩ := z
      exact ⟨_, e1, f _ F H k (Same.refl F) e1⟩
def dC (d : D) : De := fun δ => .ok (.fz d) δ
theorem rf_c {v : V} {d : D} (h : ∀ F, Dp C.K F v d) : ∀ σ H Q, up C (dC d) σ H Q → tC v σ H Q := fun σ H Q ⟨G, δ, F, hC, k, f⟩ => by
  subst hC
  exact f v F H k (Same.refl F) (h F)
theorem pd_int {i : Int} {j : Nat} {pos : Pos} : PE X (.Constant (.int i) j pos) (up C (dC (.int i))) := pe_weak pe_int (rf_c fun _ => .int i)
theorem pd_bl {b : Bool} {j : Nat} {pos : Pos} : PE X (.Constant (.bool b) j pos) (up C (dC (.bool b))) := pe_weak pe_bl (rf_c fun _ => .bl b)
theorem pd_non {j : Nat} {pos : Pos} : PE X (.Constant .none j pos) (up C (dC .none)) := pe_weak pe_non (rf_c fun _ => .non)
theorem pd_str {x : Str} {j : Nat} {pos : Pos} : PE X (.Constant (.str x) j pos) (up C (dC (.str x))) := pe_weak pe_str (rf_c fun _ => .str x)

/-! ### operations by values -/
/-- what is done with a result -/
def Res (G : Ct) (δ : DS) (σ : L2.St) (F H : Hp) (z : Vl) (Q : VK) : Prop := ∀ v F' H', St1 G δ σ F' H' → Same F F' → VlOk G δ σ F' H' v z → Q v H'
theorem Res.fz {G : Ct} {δ : DS} {σ : L2.St} {F H : Hp} {d : D} {Q : VK} {v : V} (r : Res G δ σ F H (.fz d) Q) (k : St1 G δ σ F H) (h : Dp G.K F v d) : Q v H := r v F H k (Same.refl F) h
/-- a new list -/
theorem Res.newL {G : Ct} {δ : DS} {σ : L2.St} {F H : Hp} {ds : List D} {Q : VK} {vs : List V} (r : Res G δ σ F H (.own (.lst ds)) Q) (k : St1 G δ σ F H) (h : DpAll G.K F vs ds) : ∀ p, H p = none → Q (.ref p) (upd H p (.lst vs)) := fun p hp =>
  r _ F _ (k.newOwn hp) (Same.refl F) (k.valOwn hp ⟨vs, rfl, h⟩)
/-- a new tuple -/
theorem Res.newT {G : Ct} {δ : DS} {σ : L2.St} {F H : Hp} {ds : List D} {Q : VK} {vs : List V} (r : Res G δ σ F H (.fz (.tuple ds)) Q) (k : St1 G δ σ F H) (h : DpAll G.K F vs ds) : ∀ p, H p = none → Q (.ref p) (upd H p (.tup vs)) := fun p hp =>
  r _ _ _ (k.newFz (o := .tup vs) hp) (same_upd (k.newF hp)) (.tup upd_same (dpa_mono (same_upd (k.newF hp)) _ _ h))
/-- a two-place operation r does f on data -/
def Op2 (K : PySem.W.Frag) (r : R2) (f : D → D → Option Vl) : Prop := ∀ (G : Ct) (δ : DS) (σ : L2.St) (F H : Hp) (x y : V) (d e : D) (z : Vl) (Q : VK), G.K = K → St1 G δ σ F H → Vw K F H x d → Vw K F H y e → f d e = some z → Res G δ σ F H z Q → r x y H Q
def Op1 (K : PySem.W.Frag) (r : V → Hp → VK → Prop) (f : D → Option Vl) : Prop := ∀ (G : Ct) (δ : DS) (σ : L2.St) (F H : Hp) (x : V) (d : D) (z : Vl) (Q : VK), G.K = K → St1 G δ σ F H → Vw K F H x d → f d = some z → Res G δ σ F H z Q → r x H Q
def ret (o : Option Vl) (δ : DS) : R Vl := match o with
  | some z => .ok z δ
  | none => .bad
def lift2 (f : D → D → Option Vl) (x y : Option D) (δ : DS) : R Vl := match x, y with
  | some d, some e => ret (f d e) δ
  | _, _ => .bad
def lift1 (f : D → Option Vl) (x : Option D) (δ : DS) : R Vl := match x with
  | some d => ret (f d) δ
  | _ => .bad
def dBin (f : D → D → Option Vl) (a b : De) : De := fun δ => (a δ).bind fun x δ1 => (b δ1).bind fun y δ2 => lift2 f (vw δ2 (fzT x)) (vw δ2 (fzT y)) δ2
def dUn (f : D → Option Vl) (a : De) : De := fun δ => (a δ).bind fun x δ1 => lift1 f (vw δ1 (fzT x)) δ1
theorem lift2_fin {G : Ct} {f : D → D → Option Vl} {x y : Option D} {δ : DS} {σ : L2.St} {F : Hp} {Q : VK} (h : finA G (WV G σ) (lift2 f x y δ) σ F Q) : ∃ d e z, x = some d ∧ y = some e ∧ f d e = some z ∧ ∀ H, Res G δ σ F H z Q := by
  cases x with
  | none => exact h.elim
  | some d =>
    cases y with
    | none => exact h.elim
    | some e =>
      have h : finA G (WV G σ) (ret (f d e) δ) σ F Q := h
      cases ez : f d e with
      | none => rw [ez] at h; exact h.elim
      | some z => rw [ez] at h; exact ⟨d, e, z, rfl, rfl, ez, fun H v F' H' s g w => h v F' H' s g w⟩
theorem lift1_fin {G : Ct} {f : D → Option Vl} {x : Option D} {δ : DS} {σ : L2.St} {F : Hp} {Q : VK} (h : finA G (WV G σ) (lift1 f x δ) σ F Q) : ∃ d z, x = some d ∧ f d = some z ∧ ∀ H, Res G δ σ F H z Q := by
  cases x with
  | none => exact h.elim
  | some d =>
    have h : finA G (WV G σ) (ret (f d) δ) σ F Q := h
    cases ez : f d with
    | none => rw [ez] at h; exact h.elim
    | some z => rw [ez] at h; exact ⟨d, z, rfl, ez, fun H v F' H' s g w => h v F' H' s g w⟩
/-- .. a value seen, behind its freezing: it is seen still when more has been done -/
theorem vw_own {δ : DS} {a : Vl} {d : D} (h : vw δ (fzT a) = some d) : (fzT a).stays = true := fzT_stays h
/-- the lid of a value that may not stay: nothing is seen of it -/
def Keep (G : Ct) (σ : L2.St) (F H : Hp) (v : V) (a : Vl) : Prop := a.stays = true → ∀ δ, VlOk G δ σ F H v a
theorem keep_of {G : Ct} {δ : DS} {σ : L2.St} {F H : Hp} {v : V} {a : Vl} (h : VlOk G δ σ F H v a) : Keep G σ F H v a := fun st _ => h.keep st (Same.refl F)
theorem Keep.go {G : Ct} {σ : L2.St} {F F' H H' : Hp} {v : V} {a : Vl} (h : Keep G σ F H v a) (ff : Same F F') : Keep G σ F' H' v a := fun st δ => (h st δ).keep st ff
theorem rf_bin {r : R2} {f : D → D → Option Vl} {a b : De} (o : Op2 C.K r f) : ∀ σ H Q, up C (dBin f a b) σ H Q → tOp r (up C a) (up C b) σ H Q := fun σ H Q ⟨G, δ, F, hC, k, h⟩ => by
  subst hC
  refine ⟨G, δ, F, rfl, k, finA_bind h fun x δ1 v F1 H1 k1 g1 w1 h1 => ?_⟩
  obtain ⟨F2, k2, g2, w2⟩ := k1.freeze w1
  refine ⟨G, δ1, F2, rfl, k2, finA_bind (finA_mono h1 g2) fun y δ2 u F3 H3 k3 g3 w3 h3 => ?_⟩
  obtain ⟨F4, k4, g4, w4⟩ := k3.freeze w3
  obtain ⟨d, e, z, e1, e2, e3, q⟩ := lift2_fin (finA_mono h3 g4)
  have w2' : VlOk G δ2 σ F4 H3 v (fzT x) := w2.keep (fzT_stays e1) (g3.trans g4)
  exact o G δ2 σ F4 H3 v u d e z Q rfl k4 (k4.view w2' e1) (k4.view w4 e2) e3 (q H3)
theorem rf_un {r : V → Hp → VK → Prop} {f : D → Option Vl} {a : De} (o : Op1 C.K r f) : ∀ σ H Q, up C (dUn f a) σ H Q → tUn r (up C a) σ H Q := fun σ H Q ⟨G, δ, F, hC, k, h⟩ => by
  subst hC
  refine ⟨G, δ, F, rfl, k, finA_bind h fun x δ1 v F1 H1 k1 g1 w1 h1 => ?_⟩
  obtain ⟨F2, k2, g2, w2⟩ := k1.freeze w1
  obtain ⟨d, z, e1, e3, q⟩ := lift1_fin (finA_mono h1 g2)
  exact o G δ1 σ F2 H1 v d z Q rfl k2 (k2.view w2 e1) e3 (q H1)
variable {a b : Expr} {ta tb : De} {pos : Pos}
theorem pd_bin {op : Operator} {r : R2} {f : D → D → Option Vl} (ho : OpR X (binaryOp op) r) (o : Op2 C.K r f) (ha : PE X a (up C ta)) (hb : PE X b (up C tb)) : PE X (.BinOp a op b pos) (up C (dBin f ta tb)) := pe_weak (pe_op ho ha hb) (rf_bin o)
theorem pd_cmp {op : CmpOp} {r : R2} {f : D → D → Option Vl} (ho : OpR X (compareOp op) r) (o : Op2 C.K r f) (ha : PE X a (up C ta)) (hb : PE X b (up C tb)) (hm : behindInMarks op b = false) : PE X (.Compare a [op] [b] pos) (up C (dBin f ta tb)) := pe_weak (pe_cmpR ho ha hb hm) (rf_bin o)
/-- a truth as a test -/
def asB (x : Vl) (δ : DS) : R Bool := match x with
  | .fz (.bool b) => .ok b δ
  | _ => .bad
def dTest (a : De) : Dt := fun δ => (a δ).bind asB
theorem asB_fin {G : Ct} {x : Vl} {δ : DS} {σ : L2.St} {F : Hp} {Q : Bool → Hp → Prop} (h : finA G WB (asB x δ) σ F Q) : ∃ b, x = .fz (.bool b) ∧ ∀ F' H', St1 G δ σ F' H' → Same F F' → Q b H' := by
  cases x with
  | fz d => cases d with
    | bool b => exact ⟨b, rfl, fun F' H' s g => h b F' H' s g rfl⟩
    | _ => exact h.elim
  | _ => exact h.elim
theorem rf_test {te : TE} {a : De} (w : ∀ σ H Q, up C a σ H Q → te σ H Q) : ∀ σ H Q, upT C (dTest a) σ H Q → tTest te σ H Q := fun σ H Q ⟨G, δ, F, hC, k, h⟩ => by
  subst hC
  refine w σ H _ ⟨G, δ, F, rfl, k, finA_bind h fun x δ1 v F1 H1 k1 g1 w1 h1 => ?_⟩
  obtain ⟨b, rfl, q⟩ := asB_fin h1
  cases w1
  exact ⟨b, rfl, q F1 H1 k1 (Same.refl F1)⟩
theorem pdt_cmp {op : CmpOp} {r : R2} {f : D → D → Option Vl} (ho : OpR X (compareOp op) r) (o : Op2 C.K r f) (ha : PE X a (up C ta)) (hb : PE X b (up C tb)) (hm : behindInMarks op b = false) : PT X (.Compare a [op] [b] pos) (upT C (dTest (dBin f ta tb))) :=
  pt_weak (pt_cmpR ho ha hb hm) (rf_test (rf_bin o))
theorem pdt_val (h : PE X a (up C ta)) (he : ∀ whole, isTrue a X.env whole = (do let v ← whole; standAt a.pos; holding [v] (truthy v)) := by intro _; rfl) : PT X a (upT C (dTest ta)) :=
  pt_weak (pt_val h he) (rf_test fun _ _ _ q => q)
/-- chains -/
def dChain (f g : D → D → Option Vl) (a b c : De) : De := fun δ => (a δ).bind fun x δ1 => (b δ1).bind fun y δ2 => (lift2 f (vw δ2 (fzT x)) (vw δ2 (fzT y)) δ2).bind fun z δ3 => (asB z δ3).bind fun t δ4 => match t with
  | true => (c δ4).bind fun u δ5 => lift2 g (vw δ5 (fzT y)) (vw δ5 (fzT u)) δ5
  | false => .ok (.fz (.bool false)) δ4
theorem finA_bind2 {G : Ct} {α α' β' : Type} {W' : DS → Hp → Hp → β' → α' → Prop} {r : R α} {k : α → DS → R α'} {σ : L2.St} {F : Hp} {Q' : β' → Hp → Prop} {β : Type} (W : DS → Hp → Hp → β → α → Prop)
    (h : finA G W' (r.bind k) σ F Q') : finA G W r σ F (fun b H => ∃ a δ1 F1, St1 G δ1 σ F1 H ∧ Same F F1 ∧ W δ1 F1 H b a ∧ finA G W' (k a δ1) σ F1 Q') := finA_bind h fun a δ1 v F1 H1 s g w q => ⟨a, δ1, F1, s, g, w, q⟩
theorem rf_chain {r r' : R2} {f g : D → D → Option Vl} {a b c : De} (o : Op2 C.K r f) (o' : Op2 C.K r' g) : ∀ σ H Q, up C (dChain f g a b c) σ H Q → tChain r r' (up C a) (up C b) (up C c) σ H Q := fun σ H Q ⟨G, δ, F, hC, k, h⟩ => by
  subst hC
  refine ⟨G, δ, F, rfl, k, finA_bind h fun x δ1 v F1 H1 k1 g1 w1 h1 => ?_⟩
  obtain ⟨F2, k2, g2, w2⟩ := k1.freeze w1
  refine ⟨G, δ1, F2, rfl, k2, finA_bind (finA_mono h1 g2) fun y δ2 u F3 H3 k3 g3 w3 h3 => ?_⟩
  obtain ⟨F4, k4, g4, w4⟩ := k3.freeze w3
  have h4 := finA_bind2 (W := WV G σ) (finA_mono h3 g4)
  obtain ⟨d, e, z, e1, e2, e3, q⟩ := lift2_fin h4
  have w2' : VlOk G δ2 σ F4 H3 v (fzT x) := w2.keep (fzT_stays e1) (g3.trans g4)
  refine o G δ2 σ F4 H3 v u d e z _ rfl k4 (k4.view w2' e1) (k4.view w4 e2) e3 fun zv F5 H5 k5 g5 w5 => ?_
  obtain ⟨z', δ6, F6, k6, g6, w6, h6⟩ := q H3 zv F5 H5 k5 g5 w5
  have h7 := finA_bind2 (W := WB) h6
  obtain ⟨t, rfl, q7⟩ := asB_fin h7
  cases w6
  refine ⟨t, rfl, ?_⟩
  obtain ⟨t', δ8, F8, k8, g8, e8, h8⟩ := q7 F6 H5 k6 (Same.refl F6)
  have e8 : t = t' := e8
  subst e8
  cases t with
  | false => exact iteF (h8 (.bl false) F8 H5 k8 (Same.refl F8) (.bl false))
  | true =>
    refine iteT ⟨G, δ8, F8, rfl, k8, finA_bind h8 fun u' δ9 v9 F9 H9 k9 g9 w9 h9 => ?_⟩
    obtain ⟨F10, k10, g10, w10⟩ := k9.freeze w9
    obtain ⟨d', e', z2, e1', e2', e3', q'⟩ := lift2_fin (finA_mono h9 g10)
    have w4' : VlOk G δ9 σ F10 H9 u (fzT y) := w4.keep (fzT_stays e1') ((g6.trans g8).trans (g9.trans g10))
    exact o' G δ9 σ F10 H9 u v9 d' e' z2 Q rfl k10 (k10.view w4' e1') (k10.view w10 e2') e3' (q' H9)
end
end DL

set_option Elab.async false
set_option linter.all false
set_option maxRecDepth 100000
set_option autoImplicit false
namespace DL
open PySem PySem.Spec PyProof.Rows L2
section
variable {X : Cx} {C : Cf} {e a b c : Expr} {ta tb tc : De} {pos : Pos}

/-! ### and, or, not, a if t else b -/
def dAndV (a b : De) : De := fun δ => (a δ).bind fun x δ1 => (asB x δ1).bind fun t δ2 => match t with
  | true => b δ2
  | false => .ok (.fz (.bool false)) δ2
def dOrV (a b : De) : De := fun δ => (a δ).bind fun x δ1 => (asB x δ1).bind fun t δ2 => match t with
  | true => .ok (.fz (.bool true)) δ2
  | false => b δ2
def dNotV (a : De) : De := fun δ => (a δ).bind fun x δ1 => (asB x δ1).bind fun t δ2 => .ok (.fz (.bool (!t))) δ2
def dAnd (a b : Dt) : Dt := fun δ => (a δ).bind fun t δ1 => match t with
  | true => b δ1
  | false => .ok false δ1
def dOr (a b : Dt) : Dt := fun δ => (a δ).bind fun t δ1 => match t with
  | true => .ok true δ1
  | false => b δ1
def dNot (a : Dt) : Dt := fun δ => (a δ).bind fun t δ1 => .ok (!t) δ1
def dIf (t : Dt) (a b : De) : De := fun δ => (t δ).bind fun t δ1 => match t with
  | true => a δ1
  | false => b δ1
theorem asB_bind {G : Ct} {α β : Type} {W : DS → Hp → Hp → β → α → Prop} {x : Vl} {δ : DS} {k : Bool → DS → R α} {σ : L2.St} {F H : Hp} {Q : β → Hp → Prop} {v : V} (h : finA G W ((asB x δ).bind k) σ F Q) (w : VlOk G δ σ F H v x) : ∃ t, x = .fz (.bool t) ∧ v = .bl t ∧ finA G W (k t δ) σ F Q := by
  cases x with
  | fz d => cases d with
    | bool t =>
      cases w
      exact ⟨t, rfl, rfl, h⟩
    | _ => exact h.elim
  | _ => exact h.elim
theorem pd_one {op : BoolOp} (h : PE X a (up C ta)) : PE X (.BoolOp op [a] pos) (up C ta) := pe_one h
theorem pd_and {rest : List Expr} (ha : PE X a (up C ta)) (hb : PE X (.BoolOp .And (b :: rest) pos) (up C tb)) : PE X (.BoolOp .And (a :: b :: rest) pos) (up C (dAndV ta tb)) :=
  pe_weak (pe_and ha hb) fun σ H Q ⟨G, δ, F, hC, k, h⟩ => by
    subst hC
    refine ⟨G, δ, F, rfl, k, finA_bind h fun x δ1 v F1 H1 k1 g1 w1 h1 => ?_⟩
    obtain ⟨t, rfl, rfl, h2⟩ := asB_bind h1 w1
    refine ⟨t, rfl, ?_⟩
    cases t with
    | true => exact iteT ⟨G, δ1, F1, rfl, k1, h2⟩
    | false => exact iteF (h2 _ F1 H1 k1 (Same.refl F1) (.bl false))
theorem pd_or {rest : List Expr} (ha : PE X a (up C ta)) (hb : PE X (.BoolOp .Or (b :: rest) pos) (up C tb)) : PE X (.BoolOp .Or (a :: b :: rest) pos) (up C (dOrV ta tb)) :=
  pe_weak (pe_or ha hb) fun σ H Q ⟨G, δ, F, hC, k, h⟩ => by
    subst hC
    refine ⟨G, δ, F, rfl, k, finA_bind h fun x δ1 v F1 H1 k1 g1 w1 h1 => ?_⟩
    obtain ⟨t, rfl, rfl, h2⟩ := asB_bind h1 w1
    refine ⟨t, rfl, ?_⟩
    cases t with
    | true => exact iteT (h2 _ F1 H1 k1 (Same.refl F1) (.bl true))
    | false => exact iteF ⟨G, δ1, F1, rfl, k1, h2⟩
theorem pd_not (ha : PE X a (up C ta)) : PE X (.UnaryOp .Not a pos) (up C (dNotV ta)) :=
  pe_weak (pe_not ha) fun σ H Q ⟨G, δ, F, hC, k, h⟩ => by
    subst hC
    refine ⟨G, δ, F, rfl, k, finA_bind h fun x δ1 v F1 H1 k1 g1 w1 h1 => ?_⟩
    obtain ⟨t, rfl, rfl, h2⟩ := asB_bind h1 w1
    exact ⟨t, rfl, h2 _ F1 H1 k1 (Same.refl F1) (.bl _)⟩
variable {t u : Dt}
theorem ptd_and {rest : List Expr} (ha : PT X a (upT C t)) (hb : PW X (.BoolOp .And (b :: rest) pos) (upT C u)) : PW X (.BoolOp .And (a :: b :: rest) pos) (upT C (dAnd t u)) :=
  pw_weak (pw_and ha hb) fun σ H Q ⟨G, δ, F, hC, k, h⟩ => by
    subst hC
    refine ⟨G, δ, F, rfl, k, finA_bind h fun x δ1 v F1 H1 k1 g1 w1 h1 => ?_⟩
    have w1 : v = x := w1
    subst w1
    cases v with
    | true => exact iteT ⟨G, δ1, F1, rfl, k1, h1⟩
    | false => exact iteF (h1 _ F1 H1 k1 (Same.refl F1) rfl)
theorem ptd_or {rest : List Expr} (ha : PT X a (upT C t)) (hb : PW X (.BoolOp .Or (b :: rest) pos) (upT C u)) : PW X (.BoolOp .Or (a :: b :: rest) pos) (upT C (dOr t u)) :=
  pw_weak (pw_or ha hb) fun σ H Q ⟨G, δ, F, hC, k, h⟩ => by
    subst hC
    refine ⟨G, δ, F, rfl, k, finA_bind h fun x δ1 v F1 H1 k1 g1 w1 h1 => ?_⟩
    have w1 : v = x := w1
    subst w1
    cases v with
    | true => exact iteT (h1 _ F1 H1 k1 (Same.refl F1) rfl)
    | false => exact iteF ⟨G, δ1, F1, rfl, k1, h1⟩
theorem ptd_not (ha : PT X a (upT C t)) : PT X (.UnaryOp .Not a pos) (upT C (dNot t)) :=
  pt_weak (pt_not ha) fun σ H Q ⟨G, δ, F, hC, k, h⟩ => by
    subst hC
    refine ⟨G, δ, F, rfl, k, finA_bind h fun x δ1 v F1 H1 k1 g1 w1 h1 => ?_⟩
    have w1 : v = x := w1
    subst w1
    exact h1 _ F1 H1 k1 (Same.refl F1) rfl
theorem pd_if (hc : PT X c (upT C t)) (ha : PE X a (up C ta)) (hb : PE X b (up C tb)) : PE X (.IfExp c a b pos) (up C (dIf t ta tb)) :=
  pe_weak (pe_ifExp hc ha hb) fun σ H Q ⟨G, δ, F, hC, k, h⟩ => by
    subst hC
    refine ⟨G, δ, F, rfl, k, finA_bind h fun x δ1 v F1 H1 k1 g1 w1 h1 => ?_⟩
    have w1 : v = x := w1
    subst w1
    cases v with
    | true => exact iteT ⟨G, δ1, F1, rfl, k1, h1⟩
    | false => exact iteF ⟨G, δ1, F1, rfl, k1, h1⟩

/-! ### rows of things that are kept: tuples, lists, arguments -/
def dNil : Dl := fun δ => .ok [] δ
def dCons (a : De) (l : Dl) : Dl := fun δ => (a δ).bind fun x δ1 => (kp x δ1).bind fun d δ2 => (l δ2).bind fun ds δ3 => .ok (d :: ds) δ3
theorem pad_nil : PA X [] (upL C dNil) := pa_weak pa_nil fun σ H Q ⟨G, δ, F, hC, k, h⟩ => h [] F H k (Same.refl F) .nil
theorem kp_bind {G : Ct} {α β : Type} {W : DS → Hp → Hp → β → α → Prop} {x : Vl} {δ : DS} {f : D → DS → R α} {σ : L2.St} {F H : Hp} {Q : β → Hp → Prop} {v : V} (k : St1 G δ σ F H) (h : finA G W ((kp x δ).bind f) σ F Q) (w : VlOk G δ σ F H v x) :
    ∃ d δ2 F2, St1 G δ2 σ F2 H ∧ Same F F2 ∧ Dp G.K F2 v d ∧ finA G W (f d δ2) σ F2 Q := by
  cases e : kp x δ with
  | bad => rw [e] at h; exact h.elim
  | ex cc s =>
    exfalso
    cases x with
    | fz d => cases e
    | own cc => cases cc <;> cases e
    | loc i =>
      unfold kp at e
      simp only at e
      split at e <;> cases e
  | ok d δ2 =>
    rw [e] at h
    obtain ⟨F2, k2, g2, w2⟩ := k.keepV w e
    exact ⟨d, δ2, F2, k2, g2, w2, finA_mono h g2⟩
theorem pad_cons {es : List Expr} {tl : Dl} (ha : PE X e (up C ta)) (hr : PA X es (upL C tl)) (hs : starEach (e :: es) X.env = (false, eval e X.env) :: starEach es X.env := by rfl) : PA X (e :: es) (upL C (dCons ta tl)) :=
  pa_weak (pa_cons ha hr hs) fun σ H Q ⟨G, δ, F, hC, k, h⟩ => by
    subst hC
    refine ⟨G, δ, F, rfl, k, finA_bind h fun x δ1 v F1 H1 k1 g1 w1 h1 => ?_⟩
    obtain ⟨d, δ2, F2, k2, g2, w2, h2⟩ := kp_bind k1 h1 w1
    refine ⟨G, δ2, F2, rfl, k2, finA_bind h2 fun ds δ3 vs F3 H3 k3 g3 w3 h3 => ?_⟩
    exact h3 (v :: vs) F3 H3 k3 (Same.refl F3) (.cons (dp_mono g3 _ _ w2) w3)
def small (n : Nat) : Bool := decide (n ≤ 100000)
theorem small_line {n : Nat} (h : small n = true) : n ≤ sizeLine := Nat.le_trans (of_decide_eq_true h) (by decide)
theorem small_lt {n : Nat} (h : small n = true) : n < sizeLine := Nat.lt_of_le_of_lt (of_decide_eq_true h) (by decide)
def okIf {α : Type} (b : Bool) (r : R α) : R α := match b with
  | true => r
  | false => .bad
theorem okIf_fin {G : Ct} {α β : Type} {W : DS → Hp → Hp → β → α → Prop} {t : Bool} {r : R α} {σ : L2.St} {F : Hp} {Q : β → Hp → Prop} (h : finA G W (okIf t r) σ F Q) : t = true ∧ finA G W r σ F Q := by
  cases t with
  | true => exact ⟨rfl, h⟩
  | false => exact h.elim
def dTup (l : Dl) : De := fun δ => (l δ).bind fun ds δ1 => okIf (small ds.length) (.ok (.fz (.tuple ds)) δ1)
def dLst (l : Dl) : De := fun δ => (l δ).bind fun ds δ1 => okIf (small ds.length) (.ok (.own (.lst ds)) δ1)
theorem pd_tup {es : List Expr} {x1 : Nat} {tl : Dl} (hp : PA X es (upL C tl)) : PE X (.Tuple es x1 pos) (up C (dTup tl)) :=
  pe_weak (pe_tup hp) fun σ H Q ⟨G, δ, F, hC, k, h⟩ => by
    subst hC
    refine ⟨G, δ, F, rfl, k, finA_bind h fun ds δ1 vs F1 H1 k1 g1 w1 h1 => ?_⟩
    obtain ⟨z, h2⟩ := okIf_fin h1
    have w1 : DpAll G.K F1 vs ds := w1
    refine ⟨by rw [dpa_len w1]; exact small_line z, ?_⟩
    exact Res.newT (fun v F' H' s g w => h2 v F' H' s g w) k1 w1
theorem pd_lst {es : List Expr} {tl : Dl} (hp : PA X es (upL C tl)) : PE X (.List es pos) (up C (dLst tl)) :=
  pe_weak (pe_lst hp) fun σ H Q ⟨G, δ, F, hC, k, h⟩ => by
    subst hC
    refine ⟨G, δ, F, rfl, k, finA_bind h fun ds δ1 vs F1 H1 k1 g1 w1 h1 => ?_⟩
    obtain ⟨z, h2⟩ := okIf_fin h1
    have w1 : DpAll G.K F1 vs ds := w1
    refine ⟨by rw [dpa_len w1]; exact small_line z, ?_⟩
    exact Res.newL (fun v F' H' s g w => h2 v F' H' s g w) k1 w1

/-! ### items, slices -/
theorem at_dpa {K : PySem.W.Frag} {F : Hp} {vs : List V} {ds : List D} {i : Int} {d : D} (h : DpAll K F vs ds) (e : atI ds i = some d) : ∃ v, atI vs i = some v ∧ Dp K F v d := by
  unfold atI at e ⊢
  rw [dpa_len h]
  cases q : ixN ds.length i with
  | none => rw [q] at e; cases e
  | some j =>
    rw [q] at e
    exact dpa_get h e
def fIx : D → D → Option Vl
  | .list ds, .int i => (atI ds i).map .fz
  | .tuple ds, .int i => (atI ds i).map .fz
  | .dict [(.none, .list ds)], .int i => (atI ds i).map .fz
  | .str z, .int i => match small z.length with
    | true => (atI z.cps.toList i).map fun c => .fz (.str ⟨#[c]⟩)
    | false => none
  | _, _ => none
theorem o_ix {K : PySem.W.Frag} : Op2 K (rIx K) fIx := by
  intro G δ σ F H x y d e z Q hK k hx hy ez q
  subst hK
  cases e with
  | int i =>
    have hy := hy.int
    subst hy
    cases d with
    | list ds =>
      obtain ⟨p, vs, rfl, h1, h2⟩ := hx.list k.fh
      have ez : (atI ds i).map Vl.fz = some z := ez
      cases ed : atI ds i with
      | none => rw [ed] at ez; cases ez
      | some d =>
        rw [ed] at ez
        cases ez
        obtain ⟨v, e1, e2⟩ := at_dpa h2 ed
        exact .inl ⟨p, vs, i, v, rfl, rfl, SqL.of h1, e1, q.fz k e2⟩
    | tuple ds =>
      obtain ⟨p, vs, rfl, h1, h2⟩ := hx.tup
      have ez : (atI ds i).map Vl.fz = some z := ez
      cases ed : atI ds i with
      | none => rw [ed] at ez; cases ez
      | some d =>
        rw [ed] at ez
        cases ez
        obtain ⟨v, e1, e2⟩ := at_dpa h2 ed
        exact .inr (.inl ⟨p, vs, i, v, rfl, rfl, SqT.of (k.fh _ _ h1), e1, q.fz k e2⟩)
    | str y =>
      have hx := hx.str
      subst hx
      have ez : (match small y.length with | true => (atI y.cps.toList i).map fun c => Vl.fz (.str ⟨#[c]⟩) | false => none) = some z := ez
      cases sm : small y.length with
      | false => rw [sm] at ez; cases ez
      | true =>
        rw [sm] at ez
        simp only at ez
        cases ed : atI y.cps.toList i with
        | none => rw [ed] at ez; cases ez
        | some d =>
          rw [ed] at ez
          cases ez
          exact .inr (.inr ⟨y, i, d, rfl, rfl, small_line sm, ed, q.fz k (.str _)⟩)
    | dict kvs =>
      obtain ⟨p, ns, rfl, rfl, h1⟩ := hx.scr fun ks ds z => by subst z; cases ez
      have ez : (atI (ns.map PyData.int) i).map Vl.fz = some z := ez
      cases ed : atI (ns.map PyData.int) i with
      | none => rw [ed] at ez; cases ez
      | some d =>
        rw [ed] at ez
        cases ez
        obtain ⟨v, e1, e2⟩ := at_dpa (dpa_ints (K := G.K) (F := F) ns) ed
        exact .inl ⟨p, _, i, v, rfl, rfl, same_l k.fh h1, e1, q.fz k e2⟩
    | _ => cases ez
  | _ =>
    exfalso
    unfold fIx at ez
    split at ez <;> first | cases ez | contradiction
theorem pd_ix (ha : PE X a (up C ta)) (hb : PE X b (up C tb)) (hK : C.K = X.K := by rfl) (hs : PlainIx b := by exact fun _ _ => rfl) : PE X (.Subscript a b pos) (up C (dBin fIx ta tb)) := pe_weak (pe_ix ix_seq ha hb hs) (by rw [← hK]; exact rf_bin o_ix)
/-- bounds -/
def oNone : Dopt := fun δ => .ok none δ
def asI (x : Vl) (δ : DS) : R (Option Int) := match x with
  | .fz (.int i) => .ok (some i) δ
  | _ => .bad
def oSome (a : De) : Dopt := fun δ => (a δ).bind asI
theorem pod_none : PO X none (upO C oNone) := po_weak po_none fun σ H Q ⟨G, δ, F, hC, k, h⟩ => h none F H k (Same.refl F) rfl
theorem pod_some (hp : PE X e (up C ta)) : PO X (some e) (upO C (oSome ta)) := po_weak (po_some hp) fun σ H Q ⟨G, δ, F, hC, k, h⟩ => by
  subst hC
  refine ⟨G, δ, F, rfl, k, finA_bind h fun x δ1 v F1 H1 k1 g1 w1 h1 => ?_⟩
  cases x with
  | fz d => cases d with
    | int i =>
      cases w1
      exact ⟨i, rfl, h1 (some i) F1 H1 k1 (Same.refl F1) rfl⟩
    | _ => exact h1.elim
  | _ => exact h1.elim
def cutL {α : Type} (xs : List α) (lo hi : Option Int) : List α := (xs.drop (HT.sIx xs.length 0 lo)).take (HT.sIx xs.length xs.length hi - HT.sIx xs.length 0 lo)
theorem cutL_V (xs : List V) (lo hi : Option Int) : cutV xs lo hi = cutL xs lo hi := rfl
theorem dpa_cut {K : PySem.W.Frag} {F : Hp} {vs : List V} {ds : List D} (h : DpAll K F vs ds) (lo hi : Option Int) : DpAll K F (cutV vs lo hi) (cutL ds lo hi) := by
  unfold cutV cutL
  rw [dpa_len h]
  exact dpa_take _ (dpa_drop _ h)
def fSl (d : D) (lo hi : Option Int) : Option Vl := match d with
  | .list ds => some (.own (.lst (cutL ds lo hi)))
  | .tuple ds => some (.fz (.tuple (cutL ds lo hi)))
  | .dict [(.none, .list ds)] => some (.own (.lst (cutL ds lo hi)))
  | .str z => match small z.length with
    | true => some (.fz (.str (cutS z lo hi)))
    | false => none
  | _ => none
def liftS (x : Option D) (lo hi : Option Int) (δ : DS) : R Vl := match x with
  | some d => ret (fSl d lo hi) δ
  | none => .bad
def dSl (a : De) (l h : Dopt) : De := fun δ => (a δ).bind fun x δ1 => (l δ1).bind fun lo δ2 => (h δ2).bind fun hi δ3 => liftS (vw δ3 (fzT x)) lo hi δ3
theorem cut_whole {α : Type} (xs : List α) (lo hi : Option Int) (h : HT.sIx xs.length 0 lo = 0 ∧ HT.sIx xs.length xs.length hi = xs.length) : cutL xs lo hi = xs := by
  unfold cutL
  rw [h.1, h.2]
  simp
theorem pd_sl {lo hi : Option Expr} {tl th : Dopt} {p2 : Pos} (ha : PE X a (up C ta)) (hl : PO X lo (upO C tl)) (hh : PO X hi (upO C th)) (hK : C.K = X.K := by rfl) : PE X (.Subscript a (.Slice lo hi none p2) pos) (up C (dSl ta tl th)) :=
  pe_weak (pe_slice (SlR.or sl_list (SlR.or sl_tupA sl_str)) ha hl hh) fun σ H Q ⟨G, δ, F, hC, k, h⟩ => by
    subst hC
    refine ⟨G, δ, F, rfl, k, finA_bind h fun x δ1 v F1 H1 k1 g1 w1 h1 => ?_⟩
    obtain ⟨F2, k2, g2, w2⟩ := k1.freeze w1
    refine ⟨G, δ1, F2, rfl, k2, finA_bind (finA_mono h1 g2) fun lo' δ3 l F3 H3 k3 g3 e3 h3 => ?_⟩
    have e3 : l = lo' := e3
    subst e3
    refine ⟨G, δ3, F3, rfl, k3, finA_bind h3 fun hi' δ4 r F4 H4 k4 g4 e4 h4 => ?_⟩
    have e4 : r = hi' := e4
    subst e4
    cases ev : vw δ4 (fzT x) with
    | none => rw [ev] at h4; exact h4.elim
    | some d =>
      rw [ev] at h4
      have w2' : VlOk G δ4 σ F4 H4 v (fzT x) := w2.keep (fzT_stays ev) (g3.trans g4)
      have hx := k4.view w2' ev
      have h4 : finA G (WV G σ) (ret (fSl d l r) δ4) σ F4 Q := h4
      cases d with
      | list ds =>
        obtain ⟨p, vs, rfl, q1, q2⟩ := hx.list k4.fh
        exact .inl ⟨p, vs, rfl, SqL.of q1, Res.newL (fun v F' H' s g w => h4 v F' H' s g w) k4 (dpa_cut q2 l r)⟩
      | tuple ds =>
        obtain ⟨p, vs, rfl, q1, q2⟩ := hx.tup
        refine .inr (.inl ⟨p, vs, rfl, SqT.of (k4.fh _ _ q1), fun hw => ?_, fun _ => ?_⟩)
        · rw [dpa_len q2] at hw
          have h5 : finA G (WV G σ) (.ok (.fz (.tuple (cutL ds l r))) δ4) σ F4 Q := h4
          rw [cut_whole ds l r hw] at h5
          exact h5 _ F4 H4 k4 (Same.refl F4) (.tup q1 q2)
        · exact Res.newT (fun v F' H' s g w => h4 v F' H' s g w) k4 (dpa_cut q2 l r)
      | str z =>
        have hx := hx.str
        subst hx
        cases sm : small z.length with
        | false =>
          have e : fSl (.str z) l r = none := by show (match small z.length with | true => _ | false => none) = none; rw [sm]
          rw [e] at h4
          exact h4.elim
        | true =>
          have e : fSl (.str z) l r = some (.fz (.str (cutS z l r))) := by show (match small z.length with | true => _ | false => none) = _; rw [sm]
          rw [e] at h4
          exact .inr (.inr ⟨z, rfl, small_line sm, h4 _ F4 H4 k4 (Same.refl F4) (.str _)⟩)
      | dict kvs =>
        obtain ⟨p, ns, rfl, rfl, q1⟩ := hx.scr fun ks ds z => by subst z; exact h4.elim
        exact .inl ⟨p, _, rfl, by rw [← hK]; exact same_l k4.fh q1, Res.newL (fun v F' H' s g w => h4 v F' H' s g w) k4 (dpa_cut (dpa_ints ns) l r)⟩
      | _ => exact h4.elim
end
end DL

set_option Elab.async false
set_option linter.all false
set_option maxRecDepth 100000
set_option autoImplicit false
namespace DL
open PySem PySem.Spec PyProof.Rows L2

/-! ### the operators on data -/
def some1 (d : D) : Option Vl := some (.fz d)
/-- list + list where each may be read only -/
def rCatR : R2 := fun x y H Q => ∃ l b xs zs, x = .ref l ∧ y = .ref b ∧ H l = some (.lst xs) ∧ H b = some (.lst zs) ∧ xs.length + zs.length ≤ sizeLine ∧ ∀ p, H p = none → Q (.ref p) (upd H p (.lst (xs ++ zs)))
theorem op_catR {X : Cx} : OpR X (binaryOp .Add) rCatR := by
  intro pins s σ H x y v u Q I rx ry h
  obtain ⟨l, b, xs, zs, rfl, rfl, hH, hB, hz, q⟩ := h
  cases rx
  cases ry
  obtain ⟨z, its, n, r, e⟩ := (show ObjOk X.prog X.w H s.heap l (.lst xs) from I.hok _ _ hH)
  obtain ⟨z2, its2, n2, r2, e2⟩ := (show ObjOk X.prog X.w H s.heap b (.lst zs) from I.hok _ _ hB)
  have hl := r.length
  have hl2 := r2.length
  refine PySem.P.add_list e e2 ?_ (by rw [List.size_toArray, List.size_toArray]; omega)
  have ea : its.toArray ++ its2.toArray = (its ++ its2).toArray := by simp
  rw [ea]
  exact ⟨.ref _, _, I.lnew (t' := s.toks) (r.append r2) (by rw [List.length_append]; omega), rfl, q _ I.fresh⟩
def rRepR : R2 := fun x y H Q => ∃ l k xs, x = .ref l ∧ y = .int k ∧ H l = some (.lst xs) ∧ -(2 ^ 63) ≤ k ∧ k < 2 ^ 63 ∧ xs.length * k.toNat ≤ sizeLine ∧
  ∀ p, H p = none → Q (.ref p) (upd H p (.lst (List.replicate k.toNat xs).flatten))
theorem op_repR {X : Cx} : OpR X (binaryOp .Mult) rRepR := by
  intro pins s σ H x y v u Q I rx ry h
  obtain ⟨l, k, xs, rfl, rfl, hH, h1, h2, hz, q⟩ := h
  cases rx
  obtain ⟨t, rfl⟩ := ry
  obtain ⟨z, its, n, r, e⟩ := (show ObjOk X.prog X.w H s.heap l (.lst xs) from I.hok _ _ hH)
  have hl := r.length
  have hlen : its.toArray.size * k.toNat ≤ sizeLine := by rw [List.size_toArray, ← hl]; exact hz
  have hcap : ¬ its.toArray.size * k.toNat > (2 ^ 63 - 1) / 8 := by
    have : (sizeLine : Nat) ≤ (2 ^ 63 - 1) / 8 := by decide
    omega
  have hfit : ¬ (!Builtin.List.listFitsIndex k) = true := by
    rw [fitsIndex_both h1 h2]
    exact Bool.false_ne_true
  have hlong : ¬ Builtin.List.listTooLong (its.toArray.size * k.toNat) = true := by
    rw [notLongL hlen]
    exact Bool.false_ne_true
  have hnew : List.foldl (fun x1 x2 => x1 ++ x2) #[] (List.replicate (if its.toArray.isEmpty = true then 0 else k.toNat) its.toArray) = (List.replicate k.toNat its).flatten.toArray := by
    have f0 : ∀ m : Nat, List.foldl (fun x1 x2 => x1 ++ x2) #[] (List.replicate m its.toArray) = (List.replicate m its).flatten.toArray := fun m => by
      have := foldl_rep its m []
      rw [List.nil_append] at this
      exact this
    rw [f0]
    cases its with
    | nil => simp
    | cons a r' => rw [if_neg (by simp)]
  refine wpAny_binaryOp_repeat_ref (T := "list") (U := "int") (by decide) ⟨_, e, rfl⟩ (fun s' => typeIs_int s' k t) noFill_list_mul F.fills_int_mul F.slot_int_rmul repeat_list F.slot_int_index.lookup
    (call_meets F.slot_int_rmul (typeIs_int s k t) F.entry_int_rmul (F.args_int_rmul_2 _ _) (int___rmul___int_list k t l its.toArray n)
      ⟨e, rfl, ⟨_, e, rfl⟩, call_meets F.slot_list_mul ⟨_, e, rfl⟩ F.entry_list_mul (F.args_list_mul_2 _ _) (AutoListH.list___mul___list_int_3 l its.toArray n k t hfit hcap hlong) ⟨e, ?_⟩⟩)
  rw [hnew]
  exact ⟨.ref _, _, I.lnew (t' := s.toks) (r.rep k.toNat) (by rw [PyProof.Rows.lm_len_rep_flat, Nat.mul_comm]; exact hz), rfl, q _ I.fresh⟩

def rAddD (K : PySem.W.Frag) : R2 := fun x y H Q => rI0 (fun i j => .int (i + j)) x y H Q ∨ (∃ i k, x = .int i ∧ y = .bl k ∧ Q (.int (i + b2i k)) H) ∨ (∃ i j, x = .str i ∧ y = .str j ∧ i.length + j.length ≤ sizeLine ∧ Q (.str (i ++ j)) H) ∨ rCatR x y H Q ∨ rCatA K x y H Q
theorem op_addD {X : Cx} : OpR X (binaryOp .Add) (rAddD X.K) := op_add.or (op_add_ib.or (op_add_str.or (op_catR.or op_catA)))
def okO {α : Type} (b : Bool) (r : Option α) : Option α := match b with
  | true => r
  | false => none
theorem okO_some {α : Type} {b : Bool} {r : Option α} {z : α} (h : okO b r = some z) : b = true ∧ r = some z := by
  cases b with
  | true => exact ⟨rfl, h⟩
  | false => cases h
def fAdd : D → D → Option Vl
  | .int i, .int j => some (.fz (.int (i + j)))
  | .int i, .bool k => some (.fz (.int (i + b2i k)))
  | .str x, .str y => okO (small (x.length + y.length)) (some (.fz (.str (x ++ y))))
  | .list xs, .list ys => okO (small (xs.length + ys.length)) (some (.own (.lst (xs ++ ys))))
  | .tuple xs, .tuple ys => okO (small (xs.length + ys.length)) (some (.fz (.tuple (xs ++ ys))))
  | _, _ => none
theorem o_add {K : PySem.W.Frag} : Op2 K (rAddD K) fAdd := by
  intro G δ σ F H x y d e z Q hK k hx hy ez q
  subst hK
  cases d with
  | int i =>
    have hx := hx.int
    subst hx
    cases e with
    | int j =>
      have hy := hy.int
      subst hy
      cases ez
      exact .inl ⟨i, j, rfl, rfl, q.fz k (.int _)⟩
    | bool j =>
      have hy := hy.bl
      subst hy
      cases ez
      exact .inr (.inl ⟨i, j, rfl, rfl, q.fz k (.int _)⟩)
    | _ => cases ez
  | str i =>
    have hx := hx.str
    subst hx
    cases e with
    | str j =>
      have hy := hy.str
      subst hy
      obtain ⟨e1, e2⟩ := okO_some ez
      cases e2
      exact .inr (.inr (.inl ⟨i, j, rfl, rfl, small_line e1, q.fz k (.str _)⟩))
    | _ => cases ez
  | list xs =>
    cases e with
    | list ys =>
      obtain ⟨p, vs, rfl, h1, h2⟩ := hx.list k.fh
      obtain ⟨r, ws, rfl, h3, h4⟩ := hy.list k.fh
      obtain ⟨e1, e2⟩ := okO_some ez
      cases e2
      exact .inr (.inr (.inr (.inl ⟨p, r, vs, ws, rfl, rfl, h1, h3, by rw [dpa_len h2, dpa_len h4]; exact small_line e1, q.newL k (dpa_app h2 h4)⟩)))
    | _ => cases ez
  | tuple xs =>
    cases e with
    | tuple ys =>
      obtain ⟨p, vs, rfl, h1, h2⟩ := hx.tup
      obtain ⟨r, ws, rfl, h3, h4⟩ := hy.tup
      obtain ⟨e1, e2⟩ := okO_some ez
      cases e2
      refine .inr (.inr (.inr (.inr ⟨p, r, vs, ws, rfl, rfl, SqT.of (k.fh _ _ h1), SqT.of (k.fh _ _ h3), by rw [dpa_len h2, dpa_len h4]; exact small_line e1, fun hz => ?_, fun _ hz => ?_, fun _ _ => q.newT k (dpa_app h2 h4)⟩)))
      · subst hz
        cases h2
        exact q.fz k (.tup h3 h4)
      · subst hz
        cases h4
        rw [List.append_nil] at q
        exact q.fz k (.tup h1 h2)
    | _ => cases ez
  | _ => cases e <;> cases ez
def fSub : D → D → Option Vl
  | .int i, .int j => some (.fz (.int (i - j)))
  | _, _ => none
/-- two ints -/
theorem o_int2 {K : PySem.W.Frag} {Cd : Int → Int → Prop} {g : Int → Int → V} {f : D → D → Option Vl} (hf : ∀ d e z, f d e = some z → ∃ i j w, d = .int i ∧ e = .int j ∧ z = .fz w ∧ Cd i j ∧ ∀ F, Dp K F (g i j) w) : Op2 K (rI Cd g) f := by
  intro G δ σ F H x y d e z Q hK k hx hy ez q
  subst hK
  obtain ⟨i, j, w, rfl, rfl, rfl, hc, hw⟩ := hf d e z ez
  have hx := hx.int
  have hy := hy.int
  subst hx hy
  exact ⟨i, j, rfl, rfl, hc, q.fz k (hw F)⟩
theorem o_int20 {K : PySem.W.Frag} {g : Int → Int → V} {f : D → D → Option Vl} (hf : ∀ d e z, f d e = some z → ∃ i j w, d = .int i ∧ e = .int j ∧ z = .fz w ∧ ∀ F, Dp K F (g i j) w) : Op2 K (rI0 g) f := by
  intro G δ σ F H x y d e z Q hK k hx hy ez q
  subst hK
  obtain ⟨i, j, w, rfl, rfl, rfl, hw⟩ := hf d e z ez
  have hx := hx.int
  have hy := hy.int
  subst hx hy
  exact ⟨i, j, rfl, rfl, q.fz k (hw F)⟩
theorem o_sub {K : PySem.W.Frag} : Op2 K (rI0 fun i j => .int (i - j)) fSub := o_int20 fun d e z h => by
  cases d <;> cases e <;> first | (cases h; exact ⟨_, _, _, rfl, rfl, rfl, fun _ => .int _⟩) | cases h
/-- how large ints are that may be multiplied: a lid that is never opened but by its lemmas -/
@[irreducible] def bits : Nat := 2 ^ 9000
def wide (i : Int) : Bool := decide (i.natAbs < bits)
theorem wide_log {i : Int} (h : wide i = true) : i.natAbs.log2 < 9000 := by
  have h : i.natAbs < bits := of_decide_eq_true h
  unfold bits at h
  exact PySem.Flt.log2_lt_of (by decide) h
theorem wide_of {i : Int} {n : Nat} (h : i.natAbs < 2 ^ n) (hn : n ≤ 9000) : wide i = true := by
  refine decide_eq_true ?_
  unfold bits
  exact Nat.lt_of_lt_of_le h (Nat.pow_le_pow_right (by decide) hn)
def rMulD : R2 := fun x y H Q => rI CMulW (fun i j => .int (i * j)) x y H Q ∨ rRepR x y H Q
theorem op_mulD {X : Cx} : OpR X (binaryOp .Mult) rMulD := op_mulW.or op_repR
def fMul : D → D → Option Vl
  | .int i, .int j => okO (wide i && wide j) (some (.fz (.int (i * j))))
  | .list xs, .int k => okO (small (xs.length * k.toNat) && decide (-1000000 ≤ k) && decide (k ≤ 1000000)) (some (.own (.lst (List.replicate k.toNat xs).flatten)))
  | _, _ => none
theorem dpa_rep {K : PySem.W.Frag} {F : Hp} {vs : List V} {ds : List D} (h : DpAll K F vs ds) : ∀ n : Nat, DpAll K F (List.replicate n vs).flatten (List.replicate n ds).flatten
  | 0 => .nil
  | n + 1 => by
    rw [List.replicate_succ, List.replicate_succ, List.flatten_cons, List.flatten_cons]
    exact dpa_app h (dpa_rep h n)
theorem o_mul {K : PySem.W.Frag} : Op2 K rMulD fMul := by
  intro G δ σ F H x y d e z Q hK k hx hy ez q
  subst hK
  cases d with
  | int i =>
    have hx := hx.int
    subst hx
    cases e with
    | int j =>
      have hy := hy.int
      subst hy
      obtain ⟨e1, e2⟩ := okO_some ez
      cases e2
      rw [Bool.and_eq_true] at e1
      refine .inl ⟨i, j, rfl, rfl, ?_, q.fz k (.int _)⟩
      have a := wide_log e1.1
      have b := wide_log e1.2
      unfold CMulW
      omega
    | _ => cases ez
  | list xs =>
    cases e with
    | int j =>
      have hy := hy.int
      subst hy
      obtain ⟨p, vs, rfl, h1, h2⟩ := hx.list k.fh
      obtain ⟨e1, e2⟩ := okO_some ez
      cases e2
      rw [Bool.and_eq_true, Bool.and_eq_true] at e1
      obtain ⟨⟨s1, s2⟩, s3⟩ := e1
      have s2 := of_decide_eq_true s2
      have s3 := of_decide_eq_true s3
      exact .inr ⟨p, j, vs, rfl, rfl, h1, by omega, by omega, by rw [dpa_len h2]; exact small_line s1, q.newL k (dpa_rep h2 _)⟩
    | _ => cases ez
  | _ => cases e <;> cases ez
def fDiv : D → D → Option Vl
  | .int i, .int j => okO (decide (0 < j) && wide j) (some (.fz (.int (i / j))))
  | _, _ => none
theorem o_div {K : PySem.W.Frag} : Op2 K (rI CDivW fun i j => .int (i / j)) fDiv := o_int2 fun d e z h => by
  cases d with
  | int i => cases e with
    | int j =>
      obtain ⟨e1, e2⟩ := okO_some h
      cases e2
      rw [Bool.and_eq_true] at e1
      exact ⟨i, j, _, rfl, rfl, rfl, ⟨of_decide_eq_true e1.1, wide_log e1.2⟩, fun _ => .int _⟩
    | _ => cases h
  | _ => cases e <;> cases h
def fMod : D → D → Option Vl
  | .int i, .int j => okO (decide (0 < j)) (some (.fz (.int (i % j))))
  | _, _ => none
theorem o_mod {K : PySem.W.Frag} : Op2 K (rI (fun _ j => 0 < j) fun i j => .int (i % j)) fMod := o_int2 fun d e z h => by
  cases d with
  | int i => cases e with
    | int j =>
      obtain ⟨e1, e2⟩ := okO_some h
      cases e2
      exact ⟨i, j, _, rfl, rfl, rfl, of_decide_eq_true e1, fun _ => .int _⟩
    | _ => cases h
  | _ => cases e <;> cases h
def fPow : D → D → Option Vl
  | .int i, .int j => okO (decide (0 ≤ j) && decide (j ≤ 1000) && decide (-1000 ≤ i) && decide (i ≤ 1000)) (some (.fz (.int (i ^ j.toNat))))
  | _, _ => none
theorem o_pow {K : PySem.W.Frag} : Op2 K (rI CPow fun i j => .int (i ^ j.toNat)) fPow := o_int2 fun d e z h => by
  cases d with
  | int i => cases e with
    | int j =>
      obtain ⟨e1, e2⟩ := okO_some h
      cases e2
      rw [Bool.and_eq_true, Bool.and_eq_true, Bool.and_eq_true] at e1
      obtain ⟨⟨⟨a, b⟩, c⟩, d⟩ := e1
      have a := of_decide_eq_true a
      have b := of_decide_eq_true b
      have c := of_decide_eq_true c
      have d := of_decide_eq_true d
      exact ⟨i, j, _, rfl, rfl, rfl, ⟨a, by omega, by omega⟩, fun _ => .int _⟩
    | _ => cases h
  | _ => cases e <;> cases h
def fNeg : D → Option Vl
  | .int i => some (.fz (.int (-i)))
  | _ => none
theorem o_neg {K : PySem.W.Frag} : Op1 K (rU fun i => .int (-i)) fNeg := by
  intro G δ σ F H x d z Q hK k hx ez q
  subst hK
  cases d with
  | int i =>
    have hx := hx.int
    subst hx
    cases ez
    exact ⟨i, rfl, q.fz k (.int _)⟩
  | _ => cases ez
/-! ### comparisons -/
def fEq (d e : D) : Option Vl := okO (SeqAt.shaped d && SeqAt.shaped e) (some (.fz (.bool (PyData.eqv d e))))
def fNe (d e : D) : Option Vl := okO (SeqAt.shaped d && SeqAt.shaped e) (some (.fz (.bool (!PyData.eqv d e))))
theorem o_eq {K : PySem.W.Frag} : Op2 K (rEqD K) fEq := by
  intro G δ σ F H x y d e z Q hK k hx hy ez q
  subst hK
  obtain ⟨e1, e2⟩ := okO_some ez
  cases e2
  rw [Bool.and_eq_true] at e1
  exact ⟨d, e, dp_lib _ _ (SeqAt.canLay_of_shaped e1.1) (hx.dp k.fh), dp_lib _ _ (SeqAt.canLay_of_shaped e1.2) (hy.dp k.fh), e1.1, e1.2, q.fz k (.bl _)⟩
theorem o_ne {K : PySem.W.Frag} : Op2 K (rNeD K) fNe := by
  intro G δ σ F H x y d e z Q hK k hx hy ez q
  subst hK
  obtain ⟨e1, e2⟩ := okO_some ez
  cases e2
  rw [Bool.and_eq_true] at e1
  exact ⟨d, e, dp_lib _ _ (SeqAt.canLay_of_shaped e1.1) (hx.dp k.fh), dp_lib _ _ (SeqAt.canLay_of_shaped e1.2) (hy.dp k.fh), e1.1, e1.2, q.fz k (.bl _)⟩
def fCmpI (g : Int → Int → Bool) : D → D → Option Vl
  | .int i, .int j => some (.fz (.bool (g i j)))
  | _, _ => none
theorem o_cmpI {K : PySem.W.Frag} {g : Int → Int → Bool} : Op2 K (rI0 fun i j => .bl (g i j)) (fCmpI g) := o_int20 fun d e z h => by
  cases d <;> cases e <;> first | (cases h; exact ⟨_, _, _, rfl, rfl, rfl, fun _ => .bl _⟩) | cases h
def fLtI : D → D → Option Vl := fCmpI fun i j => decide (i < j)
def fGt : D → D → Option Vl := fCmpI fun i j => decide (j < i)
def fGe : D → D → Option Vl := fCmpI fun i j => decide (j ≤ i)
def fLe : D → D → Option Vl
  | .int i, .int j => some (.fz (.bool (decide (i ≤ j))))
  | .str i, .str j => some (.fz (.bool (!decide (j.cps.toList < i.cps.toList))))
  | _, _ => none
/-- is None -/
def fIsN (d e : D) : Option Vl := match e with
  | .none => match d with
    | .none => some (.fz (.bool true))
    | _ => some (.fz (.bool false))
  | _ => none
def fNotN (d e : D) : Option Vl := match e with
  | .none => match d with
    | .none => some (.fz (.bool false))
    | _ => some (.fz (.bool true))
  | _ => none
theorem Vw.isN {K : PySem.W.Frag} {F H : Hp} {v : V} {d : D} (h : Vw K F H v d) : (v = .non ↔ d = .none) := by
  rcases h with h | ⟨p, vs, ds, rfl, rfl, _⟩
  · cases h <;> simp
  · simp
theorem o_isN {K : PySem.W.Frag} : Op2 K (fun x y H Q => y = .non ∧ Q (.bl (decide (x = .non))) H) fIsN := by
  intro G δ σ F H x y d e z Q hK k hx hy ez q
  subst hK
  cases e with
  | none =>
    have hy := hy.non
    have hi := hx.isN
    refine ⟨hy, ?_⟩
    cases d with
    | none => cases ez; rw [decide_eq_true (hi.mpr rfl)]; exact q.fz k (.bl _)
    | _ => cases ez; rw [decide_eq_false (fun z => by cases hi.mp z)]; exact q.fz k (.bl _)
  | _ => cases ez
theorem o_notN {K : PySem.W.Frag} : Op2 K (fun x y H Q => y = .non ∧ Q (.bl (!decide (x = .non))) H) fNotN := by
  intro G δ σ F H x y d e z Q hK k hx hy ez q
  subst hK
  cases e with
  | none =>
    have hy := hy.non
    have hi := hx.isN
    refine ⟨hy, ?_⟩
    cases d with
    | none => cases ez; rw [decide_eq_true (hi.mpr rfl)]; exact q.fz k (.bl _)
    | _ => cases ez; rw [decide_eq_false (fun z => by cases hi.mp z)]; exact q.fz k (.bl _)
  | _ => cases ez
end DL

set_option Elab.async false
set_option linter.all false
set_option maxRecDepth 100000
set_option autoImplicit false
namespace DL
open PySem PySem.Spec PyProof.Rows L2

/-! ### statements -/
inductive Out where
  | nx | bk | ct | rt (v : Vl)
abbrev Ds := DS → R Out
def finS (G : Ct) (r : R Out) (F : Hp) (D : Ends) : Prop := match r with
  | .ok .nx δ' => ∀ σ' F' H', St1 G δ' σ' F' H' → Same F F' → D.nx σ' H'
  | .ok .bk δ' => ∀ σ' F' H', St1 G δ' σ' F' H' → Same F F' → D.bk σ' H'
  | .ok .ct δ' => ∀ σ' F' H', St1 G δ' σ' F' H' → Same F F' → D.ct σ' H'
  | .ok (.rt a) δ' => ∀ v σ' F' H', St1 G δ' σ' F' H' → Same F F' → VlOk G δ' σ' F' H' v a → D.rt v H'
  | .ex c δ' => ∀ σ' F' H', St1 G δ' σ' F' H' → Same F F' → G.E σ' c none H'
  | .bad => False
def ups (C : Cf) (sd : Ds) : TS := fun D σ H => ∃ G δ F, G.C = C ∧ St1 G δ σ F H ∧ finS G (sd δ) F D
theorem finS_mono {G : Ct} {r : R Out} {F F1 : Hp} {D : Ends} (h : finS G r F D) (f : Same F F1) : finS G r F1 D := by
  cases r with
  | ok a δ => cases a with
    | nx => exact fun σ' F' H' s g => h σ' F' H' s (f.trans g)
    | bk => exact fun σ' F' H' s g => h σ' F' H' s (f.trans g)
    | ct => exact fun σ' F' H' s g => h σ' F' H' s (f.trans g)
    | rt v => exact fun v σ' F' H' s g w => h v σ' F' H' s (f.trans g) w
  | ex c δ => exact fun σ' F' H' s g => h σ' F' H' s (f.trans g)
  | bad => exact h
/-- an expression first -/
theorem finS_bind {α β : Type} {G : Ct} {W : DS → Hp → Hp → β → α → Prop} {r : R α} {k : α → DS → R Out} {σ : L2.St} {F : Hp} {D : Ends} {Q : β → Hp → Prop} (h : finS G (r.bind k) F D)
    (hk : ∀ a δ1 v F1 H1, St1 G δ1 σ F1 H1 → Same F F1 → W δ1 F1 H1 v a → finS G (k a δ1) F1 D → Q v H1) : finA G W r σ F Q := by
  cases r with
  | ok a δ => exact fun v F1 H1 s g w => hk a δ v F1 H1 s g w (finS_mono h g)
  | ex c δ => exact fun F' H' s g => h σ F' H' s g
  | bad => exact h
theorem kp_bindS {G : Ct} {x : Vl} {δ : DS} {f : D → DS → R Out} {σ : L2.St} {F H : Hp} {D : Ends} {v : V} (k : St1 G δ σ F H) (h : finS G ((kp x δ).bind f) F D) (w : VlOk G δ σ F H v x) :
    ∃ d δ2 F2, St1 G δ2 σ F2 H ∧ Same F F2 ∧ Dp G.K F2 v d ∧ finS G (f d δ2) F2 D := by
  cases e : kp x δ with
  | bad => rw [e] at h; exact h.elim
  | ex cc s =>
    exfalso
    cases x with
    | fz d => cases e
    | own cc => cases cc <;> cases e
    | loc i =>
      unfold kp at e
      simp only at e
      split at e <;> cases e
  | ok d δ2 =>
    rw [e] at h
    obtain ⟨F2, k2, g2, w2⟩ := k.keepV w e
    exact ⟨d, δ2, F2, k2, g2, w2, finS_mono h g2⟩
theorem okIf_finS {G : Ct} {t : Bool} {r : R Out} {F : Hp} {D : Ends} (h : finS G (okIf t r) F D) : t = true ∧ finS G r F D := by
  cases t with
  | true => exact ⟨rfl, h⟩
  | false => exact h.elim

/-! ### slots are stored -/
section
variable {G : Ct} {δ : DS} {σ : L2.St} {F H : Hp}
theorem St1.M_none (k : St1 G δ σ F H) {i : Nat} {s : Sl} (h : δ[i]? = some s) (hs : s.isArg = false) : G.M i = none := by
  cases e : G.M i with
  | none => rfl
  | some p =>
    obtain ⟨c, hc⟩ := k.ma i p e
    rw [h] at hc
    cases hc
    cases hs
theorem St1.lt (k : St1 G δ σ F H) {i : Nat} {s : Sl} (h : δ[i]? = some s) : i < δ.length ∧ i < σ.length := by
  have h1 := (List.getElem?_eq_some_iff.mp h).1
  exact ⟨h1, by rw [← k.len]; exact h1⟩
theorem St1.setFz (k : St1 G δ σ F H) {i : Nat} {s : Sl} {v : V} {d : D} (h : δ[i]? = some s) (hs : s.isArg = false) (w : Dp G.K F v d) : St1 G (δ.set i (.fz d)) (σ.set i (some v)) F H where
  len := by simpa using k.len
  fh := k.fh
  f0 := k.f0
  h0 := k.h0
  fn := k.fn
  sl := fun j t e => by
    obtain ⟨l1, l2⟩ := k.lt h
    by_cases hj : j = i
    · subst hj
      rw [List.getElem?_set_self l1] at e
      cases e
      rw [List.getElem?_set_self l2]
      exact ⟨v, rfl, w⟩
    · rw [List.getElem?_set_ne (Ne.symm hj)] at e ⊢
      exact k.sl j t e
  di := fun j j' t t' p hj e e' q q' r r' => by
    obtain ⟨l1, l2⟩ := k.lt h
    have a1 : j ≠ i := fun z => by subst z; rw [List.getElem?_set_self l1] at e; cases e; cases q
    have a2 : j' ≠ i := fun z => by subst z; rw [List.getElem?_set_self l1] at e'; cases e'; cases q'
    rw [List.getElem?_set_ne (Ne.symm a1)] at e r
    rw [List.getElem?_set_ne (Ne.symm a2)] at e' r'
    exact k.di j j' t t' p hj e e' q q' r r'
  ma := fun j p e => by
    have a1 : j ≠ i := fun z => by subst z; rw [k.M_none h hs] at e; cases e
    rw [List.getElem?_set_ne (Ne.symm a1)]
    exact k.ma j p e
theorem St1.setOwn (k : St1 G δ σ F H) {i : Nat} {s : Sl} {v : V} {c : Co} (h : δ[i]? = some s) (hs : s.isArg = false) (w : VlOk G δ σ F H v (.own c)) : St1 G (δ.set i (.own c)) (σ.set i (some v)) F H where
  len := by simpa using k.len
  fh := k.fh
  f0 := k.f0
  h0 := k.h0
  fn := k.fn
  sl := fun j t e => by
    obtain ⟨l1, l2⟩ := k.lt h
    by_cases hj : j = i
    · subst hj
      rw [List.getElem?_set_self l1] at e
      cases e
      rw [List.getElem?_set_self l2]
      obtain ⟨p, o, rfl, h1, h2, h3, h4, _⟩ := w
      exact ⟨p, o, rfl, h1, h2, h3, k.M_none h hs, h4⟩
    · rw [List.getElem?_set_ne (Ne.symm hj)] at e ⊢
      exact k.sl j t e
  di := fun j j' t t' p hj e e' q q' r r' => by
    obtain ⟨l1, l2⟩ := k.lt h
    obtain ⟨p', o, rfl, h1, h2, h3, h4, h5⟩ := w
    by_cases a1 : j = i
    · subst a1
      rw [List.getElem?_set_ne hj] at e' r'
      rw [List.getElem?_set_self l2] at r
      cases r
      exact h5 j' t' e' q' r'
    · rw [List.getElem?_set_ne (Ne.symm a1)] at e r
      by_cases a2 : j' = i
      · subst a2
        rw [List.getElem?_set_self l2] at r'
        cases r'
        exact h5 j t e q r
      · rw [List.getElem?_set_ne (Ne.symm a2)] at e' r'
        exact k.di j j' t t' p hj e e' q q' r r'
  ma := fun j p e => by
    have a1 : j ≠ i := fun z => by subst z; rw [k.M_none h hs] at e; cases e
    rw [List.getElem?_set_ne (Ne.symm a1)]
    exact k.ma j p e
/-- what an own or handed object holds is changed -/
def Sl.with (s : Sl) (c : Co) : Sl := match s with
  | .own _ => .own c
  | .arg _ => .arg c
  | x => x
def Sl.co : Sl → Option Co
  | .own c => some c
  | .arg c => some c
  | _ => none
theorem St1.held (k : St1 G δ σ F H) {i : Nat} {s : Sl} {c : Co} (h : δ[i]? = some s) (hc : s.co = some c) : ∃ p o, σ[i]? = some (some (.ref p)) ∧ H p = some o ∧ F p = none ∧ CoOk G.K F c o := by
  have z := k.sl i s h
  cases s with
  | own c' => cases hc; obtain ⟨p, o, e1, e2, e3, e4, _⟩ := z; exact ⟨p, o, e1, e2, e3, e4⟩
  | arg c' => cases hc; obtain ⟨p, o, e1, e2, e3, e4, _⟩ := z; exact ⟨p, o, e1, e2, e3, e4⟩
  | _ => cases hc
theorem St1.change (k : St1 G δ σ F H) {i : Nat} {s : Sl} {c c' : Co} {p : Addr} {o' : HO} (h : δ[i]? = some s) (hc : s.co = some c) (hp : σ[i]? = some (some (.ref p))) (w : CoOk G.K F c' o') : St1 G (δ.set i (s.with c')) σ F (upd H p o') where
  len := by simpa using k.len
  fh := fun b o e => by
    obtain ⟨p', o0, e1, e2, e3, _⟩ := k.held h hc
    rw [hp] at e1
    cases e1
    rw [upd_ne (fun z => by subst z; rw [e3] at e; cases e)]
    exact k.fh _ _ e
  f0 := k.f0
  h0 := fun b o hm e => by
    have nb : b ≠ p := fun z => by
      subst z
      have z := k.sl i s h
      cases s with
      | own c' => obtain ⟨p', o0, e1, _, _, _, _, e2⟩ := z; rw [hp] at e1; cases e1; rw [e2] at e; cases e
      | arg c' => obtain ⟨p', o0, e1, _, _, _, e2⟩ := z; rw [hp] at e1; cases e1; exact hm i e2
      | _ => cases hc
    rw [upd_ne nb]
    exact k.h0 b o hm e
  fn := k.fn
  sl := fun j t e => by
    obtain ⟨l1, l2⟩ := k.lt h
    have sh : s.held = true := by cases s <;> first | rfl | cases hc
    by_cases hj : j = i
    · subst hj
      rw [List.getElem?_set_self l1] at e
      cases e
      have z := k.sl j s h
      cases s with
      | own c' =>
        obtain ⟨p', o0, e1, e2, e3, e4, e5, e6⟩ := z
        rw [hp] at e1; cases e1
        exact ⟨p, o', hp, upd_same, e3, w, e5, e6⟩
      | arg c' =>
        obtain ⟨p', o0, e1, e2, e3, e4, e5⟩ := z
        rw [hp] at e1; cases e1
        exact ⟨p, o', hp, upd_same, e3, w, e5⟩
      | _ => cases hc
    · rw [List.getElem?_set_ne (Ne.symm hj)] at e
      refine (k.sl j t e).mono (Same.refl F) fun b o g1 g2 g3 g4 => ⟨?_, g1⟩
      rw [upd_ne (fun z => by subst z; exact k.di j i t s b hj e h g3 sh g4 hp)]
      exact g2
  di := fun j j' t t' q hj e e' q1 q2 r r' => by
    obtain ⟨l1, l2⟩ := k.lt h
    have sh : s.held = true := by cases s <;> first | rfl | cases hc
    have back : ∀ (m : Nat) (u : Sl), (δ.set i (s.with c'))[m]? = some u → u.held = true → ∃ u', δ[m]? = some u' ∧ u'.held = true := fun m u z zh => by
      by_cases hm : m = i
      · subst hm; exact ⟨s, h, sh⟩
      · rw [List.getElem?_set_ne (Ne.symm hm)] at z; exact ⟨u, z, zh⟩
    obtain ⟨u, a1, a2⟩ := back j t e q1
    obtain ⟨u', b1, b2⟩ := back j' t' e' q2
    exact k.di j j' u u' q hj a1 b1 a2 b2 r r'
  ma := fun j q e => by
    obtain ⟨l1, l2⟩ := k.lt h
    obtain ⟨c0, hc0⟩ := k.ma j q e
    by_cases hj : j = i
    · subst hj
      rw [h] at hc0
      cases hc0
      exact ⟨c', List.getElem?_set_self l1⟩
    · rw [List.getElem?_set_ne (Ne.symm hj)]
      exact ⟨c0, hc0⟩
end

/-! ### statements, one by one -/
section
variable {X : Cx} {C : Cf} {e a b c : Expr} {ta tb tc : De} {pos : Pos} {st : Stmt} {rest : List Stmt} {s1 s2 : Ds}
def dSkip : Ds := fun δ => .ok .nx δ
def dSeq (s t : Ds) : Ds := fun δ => match s δ with
  | .ok .nx δ1 => t δ1
  | r => r
theorem pds_nil : PSs X [] (ups C dSkip) := pss_weak pss_nil fun D σ H ⟨G, δ, F, hC, k, h⟩ => h σ F H k (Same.refl F)
theorem finS_seq {G : Ct} {s t : Ds} {δ : DS} {F : Hp} {D : Ends} (h : finS G (dSeq s t δ) F D) (hC : G.C = C) : finS G (s δ) F { D with nx := ups C t D } := by
  unfold dSeq at h
  cases e : s δ with
  | ok o δ1 =>
    rw [e] at h
    cases o with
    | nx => exact fun σ' F' H' k g => ⟨G, δ1, F', hC, k, finS_mono h g⟩
    | bk => exact h
    | ct => exact h
    | rt v => exact h
  | ex c δ1 => rw [e] at h; exact h
  | bad => rw [e] at h; exact h
theorem pds_cons (h1 : PS X st (ups C s1)) (h2 : PSs X rest (ups C s2)) : PSs X (st :: rest) (ups C (dSeq s1 s2)) := pss_weak (pss_cons h1 h2) fun D σ H ⟨G, δ, F, hC, k, h⟩ => ⟨G, δ, F, hC, k, finS_seq h hC⟩
theorem pds_one (h1 : PS X st (ups C s1)) : PSs X [st] (ups C s1) := pss_one h1
def dBreak : Ds := fun δ => .ok .bk δ
def dCont : Ds := fun δ => .ok .ct δ
theorem pds_pass : PS X (.Pass pos) (ups C dSkip) := ps_weak ps_pass fun D σ H ⟨G, δ, F, hC, k, h⟩ => h σ F H k (Same.refl F)
theorem pds_break : PS X (.Break pos) (ups C dBreak) := ps_weak ps_break fun D σ H ⟨G, δ, F, hC, k, h⟩ => h σ F H k (Same.refl F)
theorem pds_continue : PS X (.Continue pos) (ups C dCont) := ps_weak ps_continue fun D σ H ⟨G, δ, F, hC, k, h⟩ => h σ F H k (Same.refl F)
/-- what is never come to -/
def dNever : Ds := fun _ => .bad
theorem pds_never : PS X st (ups C dNever) := ps_weak ps_never fun D σ H ⟨G, δ, F, hC, k, h⟩ => h
def dRet (a : De) : Ds := fun δ => (a δ).bind fun x δ1 => .ok (.rt x) δ1
theorem pds_ret (ha : PE X e (up C ta)) : PS X (.Return (some e) pos) (ups C (dRet ta)) := ps_weak (ps_ret ha) fun D σ H ⟨G, δ, F, hC, k, h⟩ => by
  subst hC
  exact ⟨G, δ, F, rfl, k, finS_bind h fun x δ1 v F1 H1 k1 g1 w1 h1 => h1 v σ F1 H1 k1 (Same.refl F1) w1⟩
def dRetN : Ds := fun δ => .ok (.rt (.fz .none)) δ
theorem pds_retN : PS X (.Return none pos) (ups C dRetN) := ps_weak ps_retN fun D σ H ⟨G, δ, F, hC, k, h⟩ => h .non σ F H k (Same.refl F) .non
def dIfS (t : Dt) (a b : Ds) : Ds := fun δ => (t δ).bind fun t δ1 => match t with
  | true => a δ1
  | false => b δ1
theorem pds_if {t : Dt} {aa bb : List Stmt} (hc : PT X c (upT C t)) (ha : PSs X aa (ups C s1)) (hb : PSs X bb (ups C s2)) : PS X (.If c aa bb pos) (ups C (dIfS t s1 s2)) := ps_weak (ps_if hc ha hb) fun D σ H ⟨G, δ, F, hC, k, h⟩ => by
  subst hC
  refine ⟨G, δ, F, rfl, k, finS_bind h fun x δ1 v F1 H1 k1 g1 w1 h1 => ?_⟩
  have w1 : v = x := w1
  subst w1
  cases v with
  | true => exact iteT ⟨G, δ1, F1, rfl, k1, h1⟩
  | false => exact iteF ⟨G, δ1, F1, rfl, k1, h1⟩
def dDrop (a : De) : Ds := fun δ => (a δ).bind fun _ δ1 => .ok .nx δ1
theorem pds_expr (ha : PE X e (up C ta)) (hs : swapsWith e none pos.line X.env = pure false := by rfl) : PS X (.Expr e pos) (ups C (dDrop ta)) := ps_weak (ps_expr ha hs) fun D σ H ⟨G, δ, F, hC, k, h⟩ => by
  subst hC
  exact ⟨G, δ, F, rfl, k, finS_bind h fun x δ1 v F1 H1 k1 g1 w1 h1 => h1 σ F1 H1 k1 (Same.refl F1)⟩
theorem pds_doc {x : Str} {j : Nat} {pos' : Pos} : PS X (.Expr (.Constant (.str x) j pos) pos') (ups C dSkip) := ps_weak ps_doc fun D σ H ⟨G, δ, F, hC, k, h⟩ => h σ F H k (Same.refl F)

/-! ### targets -/
/-- slot i takes a value -/
def okSet (δ : DS) (i : Nat) : Bool := match δ[i]? with
  | some (.arg _) => false
  | some _ => true
  | none => false
theorem okSet_some {δ : DS} {i : Nat} (h : okSet δ i = true) : ∃ s, δ[i]? = some s ∧ s.isArg = false := by
  unfold okSet at h
  cases e : δ[i]? with
  | none => rw [e] at h; cases h
  | some s =>
    rw [e] at h
    refine ⟨s, rfl, ?_⟩
    cases s with
    | arg c => cases h
    | _ => rfl
def setS (i : Nat) (x : Vl) (δ : DS) : R Out := match x with
  | .fz d => okIf (okSet δ i) (.ok .nx (δ.set i (.fz d)))
  | .own c => okIf (okSet δ i) (.ok .nx (δ.set i (.own c)))
  | .loc j => (kp (.loc j) δ).bind fun d δ1 => okIf (okSet δ1 i) (.ok .nx (δ1.set i (.fz d)))
def dAsg (i : Nat) (a : De) : Ds := fun δ => (a δ).bind fun x δ1 => setS i x δ1
theorem setS_fin {G : Ct} {i : Nat} {x : Vl} {δ : DS} {σ : L2.St} {F H : Hp} {D : Ends} {v : V} (k : St1 G δ σ F H) (h : finS G (setS i x δ) F D) (w : VlOk G δ σ F H v x) : D.nx (σ.set i (some v)) H := by
  cases x with
  | fz d =>
    obtain ⟨z, h⟩ := okIf_finS h
    obtain ⟨s, e, ha⟩ := okSet_some z
    exact h _ F H (k.setFz e ha w) (Same.refl F)
  | own c =>
    obtain ⟨z, h⟩ := okIf_finS h
    obtain ⟨s, e, ha⟩ := okSet_some z
    exact h _ F H (k.setOwn e ha w) (Same.refl F)
  | loc j =>
    obtain ⟨d, δ2, F2, k2, g2, w2, h2⟩ := kp_bindS k h w
    obtain ⟨z, h⟩ := okIf_finS h2
    obtain ⟨s, e, ha⟩ := okSet_some z
    exact h _ F2 H (k2.setFz e ha w2) (Same.refl F2)
theorem rf_asg {te : TE} {i : Nat} (w : ∀ σ H Q, up C ta σ H Q → te σ H Q) : ∀ D σ H, ups C (dAsg i ta) D σ H → tAsg te (gName i) D σ H := fun D σ H ⟨G, δ, F, hC, k, h⟩ => by
  subst hC
  exact w σ H _ ⟨G, δ, F, rfl, k, finS_bind h fun x δ1 v F1 H1 k1 g1 w1 h1 => setS_fin k1 h1 w1⟩
theorem pds_set (i : Nat) {x : Str} {pos' : Pos} (he : PE X e (up C ta)) (hN : X.N.Nodup) (hi : X.N[i]? = some x := by rfl) (hx : Loc X.env.scope x := by first | exact Or.inl rfl | exact Or.inr rfl) (hs : swapsWith e (some (.Name x pos')) pos.line X.env = pure false := by rfl) (hf : X.fn x = true ∨ X.env.scope.names.lookup x = some .local := by first | exact .inl rfl | exact .inr rfl | assumption) :
    PS X (.Assign [.Name x pos'] e pos) (ups C (dAsg i ta)) := ps_weak (ps_set hN hi hx he hs hf) (rf_asg fun _ _ _ q => q)
/-- targets of frozen things -/
abbrev Dg := D → DS → R Out
def gN (i : Nat) : Dg := fun d δ => setS i (.fz d) δ
def Agr (ts : List Nat) (σ σ' : L2.St) : Prop := (∀ j, j ∉ ts → σ'[j]? = σ[j]?) ∧ σ'.length = σ.length
def finG (G : Ct) (r : R Out) (ts : List Nat) (σ : L2.St) (F : Hp) (Q : L2.St → Hp → Prop) : Prop := match r with
  | .ok .nx δ' => ∀ σ' F' H', St1 G δ' σ' F' H' → Same F F' → Agr ts σ σ' → Q σ' H'
  | _ => False
def upG (C : Cf) (ts : List Nat) (g : Dg) : TG := fun v σ H Q => ∃ G δ F d, G.C = C ∧ St1 G δ σ F H ∧ Dp C.K F v d ∧ finG G (g d δ) ts σ F Q
abbrev Dgs := List D → DS → R Out
def upGs (C : Cf) (ts : List Nat) (g : Dgs) : TGs := fun vs σ H Q => ∃ G δ F ds, G.C = C ∧ St1 G δ σ F H ∧ DpAll C.K F vs ds ∧ finG G (g ds δ) ts σ F Q
theorem pg_weak {t t' : TG} (h : PG X e t) (w : ∀ v σ H Q, t' v σ H Q → t v σ H Q) : PG X e t' := ⟨fun pins s σ H v u Q I r q => h.run pins s σ H v u Q I r (w v σ H Q q)⟩
theorem pgs_weak {es : List Expr} {t t' : TGs} (h : PGs X es t) (w : ∀ v σ H Q, t' v σ H Q → t v σ H Q) : PGs X es t' := ⟨fun pins s σ H v u Q I r q => h.run pins s σ H v u Q I r (w v σ H Q q)⟩
theorem pdg_name (i : Nat) {x : Str} (hN : X.N.Nodup) (hi : X.N[i]? = some x := by rfl) (hx : Loc X.env.scope x := by first | exact Or.inl rfl | exact Or.inr rfl) (hf : X.fn x = true ∨ X.env.scope.names.lookup x = some .local := by first | exact .inl rfl | exact .inr rfl | assumption) : PG X (.Name x pos) (upG C [i] (gN i)) :=
  pg_weak (pg_name hN hi hx hf) fun v σ H Q ⟨G, δ, F, d, hC, k, w, h⟩ => by
    subst hC
    cases z : okSet δ i with
    | false =>
      have e : gN i d δ = .bad := by show okIf (okSet δ i) _ = _; rw [z]; rfl
      rw [e] at h
      exact h.elim
    | true =>
      have e : gN i d δ = .ok .nx (δ.set i (.fz d)) := by show okIf (okSet δ i) _ = _; rw [z]; rfl
      rw [e] at h
      obtain ⟨s, e, ha⟩ := okSet_some z
      exact h _ F H (k.setFz e ha w) (Same.refl F) ⟨fun j hj => by
        rw [List.getElem?_set_ne (fun z => hj (by simp [z]))], by simp⟩
def gsNil : Dgs := fun ds δ => match ds with
  | [] => .ok .nx δ
  | _ => .bad
def gsCons (g : Dg) (r : Dgs) : Dgs := fun ds δ => match ds with
  | [] => .bad
  | d :: ds => match g d δ with
    | .ok .nx δ1 => r ds δ1
    | _ => .bad
theorem pdgs_nil : PGs X [] (upGs C [] gsNil) := pgs_weak pgs_nil fun vs σ H Q ⟨G, δ, F, ds, hC, k, w, h⟩ => by
  cases w with
  | nil => exact ⟨rfl, h σ F H k (Same.refl F) ⟨fun _ _ => rfl, rfl⟩⟩
  | cons _ _ => exact h.elim
theorem pdgs_cons {es : List Expr} {ts us : List Nat} {g : Dg} {r : Dgs} (h1 : PG X e (upG C ts g)) (h2 : PGs X es (upGs C us r)) (hs : (assignEach (e :: es) X.env).map (·.2) = assign e X.env :: (assignEach es X.env).map (·.2) := by rfl) : PGs X (e :: es) (upGs C (ts ++ us) (gsCons g r)) :=
  pgs_weak (pgs_cons h1 h2 hs) fun vs σ H Q ⟨G, δ, F, ds, hC, k, w, h⟩ => by
    subst hC
    cases w with
    | nil => exact h.elim
    | @cons v vs d ds w ws =>
      refine ⟨v, vs, rfl, G, δ, F, d, rfl, k, w, ?_⟩
      unfold gsCons at h
      simp only at h
      cases e1 : g d δ with
      | ok o δ1 =>
        rw [e1] at h
        cases o with
        | nx =>
          intro σ1 F1 H1 k1 f1 a1
          refine ⟨G, δ1, F1, ds, rfl, k1, dpa_mono f1 _ _ ws, ?_⟩
          have h : finG G (r ds δ1) (ts ++ us) σ F Q := h
          cases e2 : r ds δ1 with
          | ok o δ2 =>
            rw [e2] at h
            cases o with
            | nx =>
              exact fun σ2 F2 H2 k2 f2 a2 => h σ2 F2 H2 k2 (f1.trans f2) ⟨fun j hj => by
                rw [List.mem_append] at hj
                rw [a2.1 j fun z => hj (.inr z), a1.1 j fun z => hj (.inl z)], a2.2.trans a1.2⟩
            | _ => exact h.elim
          | _ => rw [e2] at h; exact h.elim
        | _ => exact h.elim
      | _ => rw [e1] at h; exact h.elim
def gTupD (n : Nat) (r : Dgs) : Dg := fun d δ => match d with
  | .tuple ds => match ds.length == n with
    | true => r ds δ
    | false => .bad
  | .list ds => match ds.length == n with
    | true => r ds δ
    | false => .bad
  | _ => .bad
theorem pg_two {tg : Expr} {t t' : TG} (h : PG X tg t) (h' : PG X tg t') : PG X tg fun v σ H Q => t v σ H Q ∨ t' v σ H Q := ⟨fun pins s σ H v u Q I r hw => hw.elim (h.run pins s σ H v u Q I r) (h'.run pins s σ H v u Q I r)⟩
theorem pdg_tup {es : List Expr} {kk n : Nat} {ts : List Nat} {r : Dgs} (h : PGs X es (upGs C ts r)) (hc : X.calm = true := by rfl) (hK : C.K = X.K := by rfl) (hn : (assignEach es X.env).length = n := by rfl) (hst : (assignEach es X.env).findIdx? (·.1) = none := by rfl) :
    PG X (.Tuple es kk pos) (upG C ts (gTupD n r)) := pg_weak (pg_two (pg_tup hc h hn hst) (pg_unl hc h hn hst)) fun v σ H Q ⟨G, δ, F, d, hC, k, w, h⟩ => by
  subst hC
  cases d with
  | tuple ds =>
    cases w with
    | @tup a vs _ q ws =>
      have h : finG G (match ds.length == n with | true => r ds δ | false => .bad) ts σ F Q := h
      cases e : ds.length == n with
      | false => rw [e] at h; exact h.elim
      | true =>
        rw [e] at h
        exact .inl ⟨a, vs, rfl, SqT.of (k.fh _ _ q), by rw [dpa_len ws]; exact eq_of_beq e, G, δ, F, ds, rfl, k, ws, h⟩
  | list ds =>
    cases w with
    | @lst a vs _ q ws =>
      have h : finG G (match ds.length == n with | true => r ds δ | false => .bad) ts σ F Q := h
      cases e : ds.length == n with
      | false => rw [e] at h; exact h.elim
      | true =>
        rw [e] at h
        exact .inr ⟨a, vs, rfl, SqL.of (k.fh _ _ q), by rw [dpa_len ws]; exact eq_of_beq e, G, δ, F, ds, rfl, k, ws, h⟩
  | _ => exact h.elim
/-- any target = value -/
def onlyNx (r : R Out) : R Out := match r with
  | .ok .nx δ => .ok .nx δ
  | _ => .bad
theorem onlyNx_fin {G : Ct} {r : R Out} {F : Hp} {D : Ends} {ts : List Nat} {σ : L2.St} (h : finS G (onlyNx r) F D) : finG G r ts σ F D.nx := by
  cases r with
  | ok o δ => cases o with
    | nx => exact fun σ' F' H' k' f' _ => h σ' F' H' k' f'
    | _ => exact h.elim
  | _ => exact h.elim
def dAsgG (g : Dg) (a : De) : Ds := fun δ => (a δ).bind fun x δ1 => (kp x δ1).bind fun d δ2 => onlyNx (g d δ2)
theorem pds_asg {tg : Expr} {ts : List Nat} {g : Dg} (he : PE X e (up C ta)) (hg : PG X tg (upG C ts g)) (hs : swapsWithSole [tg] e pos.line X.env = pure false := by rfl) (hw : swappedStores [tg] e X.env = pure none := by rfl)
    (h1 : (assignEach [tg] X.env).map (·.2) = [assign tg X.env] := by rfl) : PS X (.Assign [tg] e pos) (ups C (dAsgG g ta)) := ps_weak (ps_asg he hg hs hw h1) fun D σ H ⟨G, δ, F, hC, k, h⟩ => by
  subst hC
  refine ⟨G, δ, F, rfl, k, finS_bind h fun x δ1 v F1 H1 k1 g1 w1 h1 => ?_⟩
  obtain ⟨d, δ2, F2, k2, g2, w2, h2⟩ := kp_bindS k1 h1 w1
  exact ⟨G, δ2, F2, d, rfl, k2, w2, onlyNx_fin h2⟩
end
end DL

set_option Elab.async false
set_option linter.all false
set_option maxRecDepth 100000
set_option autoImplicit false
namespace DL
open PySem PySem.Spec PyProof.Rows L2

/-! ### what is walked -/
def ItOk (K : PySem.W.Frag) (J : It) (F : Hp) (items : List D) : Prop := ∀ F2 H2, Same F F2 → Same F2 H2 → ∀ i,
  (∀ d, items[i]? = some d → J.go i H2 ∧ ∀ x H3, J.yld i H2 x H3 → ∃ F3, Same F2 F3 ∧ Same F3 H3 ∧ Same H2 H3 ∧ (∀ b, F3 b ≠ none → F2 b ≠ none ∨ H2 b = none) ∧ Dp K F3 x d) ∧ (i = items.length → J.stop i H2)
abbrev Di := DS → R (List D)
def WI (G : Ct) : DS → Hp → Hp → It → List D → Prop := fun _ F _ J ds => ItOk G.K J F ds
def upI (C : Cf) (ti : Di) : TI := fun σ H Q => ∃ G δ F, G.C = C ∧ St1 G δ σ F H ∧ finA G (WI G) (ti δ) σ F Q
section
variable {X : Cx} {C : Cf} {e a b c l tg : Expr} {ta tb tc : De} {pos : Pos}
theorem pi_weak {t t' : TI} (h : PI X tg e t) (w : ∀ σ H Q, t' σ H Q → t σ H Q) : PI X tg e t' := ⟨fun pins s σ H Q I q => h.run pins s σ H Q I (w σ H Q q)⟩
theorem pi_or {t t' : TI} (h : PI X tg e t) (h' : PI X tg e t') : PI X tg e (fun σ H Q => t σ H Q ∨ t' σ H Q) := ⟨fun pins s σ H Q I q => q.elim (fun q => h.run pins s σ H Q I q) fun q => h'.run pins s σ H Q I q⟩
theorem it_list {K : PySem.W.Frag} {F : Hp} {p : Addr} {vs : List V} {ds : List D} (h : F p = some (.lst vs)) (w : DpAll K F vs ds) : ItOk K (Itl K p) F ds := fun F2 H2 f2 h2 i => by
  have hq : SqL K H2 p vs := SqL.of ((f2.trans h2) _ _ h)
  refine ⟨fun d hd => ?_, fun hi => ⟨vs, hq, by rw [dpa_len w]; exact Nat.le_of_eq hi.symm⟩⟩
  obtain ⟨v, e1, e2⟩ := dpa_get w hd
  refine ⟨⟨vs, v, hq, e1⟩, fun x H3 y => ?_⟩
  obtain ⟨rfl, y⟩ := y
  have ex : v = x := Option.some.inj (e1.symm.trans (y vs hq))
  subst ex
  exact ⟨F2, Same.refl F2, h2, Same.refl _, fun b z => .inl z, dp_mono f2 _ _ e2⟩
theorem it_scr {K : PySem.W.Frag} {F : Hp} {p : Addr} {ns : List Int} (h : SqL K F p (ns.map V.int)) : ItOk K (Itl K p) F (ns.map PyData.int) := fun F2 H2 f2 h2 i => by
  have hq : SqL K H2 p (ns.map V.int) := same_l (f2.trans h2) h
  refine ⟨fun d hd => ?_, fun hi => ⟨_, hq, by rw [hi]; simp⟩⟩
  obtain ⟨v, e1, e2⟩ := dpa_get (dpa_ints (K := K) (F := F) ns) hd
  refine ⟨⟨_, v, hq, e1⟩, fun x H3 y => ?_⟩
  obtain ⟨rfl, y⟩ := y
  have ex : v = x := Option.some.inj (e1.symm.trans (y _ hq))
  subst ex
  exact ⟨F2, Same.refl F2, h2, Same.refl _, fun b z => .inl z, dp_mono f2 _ _ e2⟩
theorem it_tup {K : PySem.W.Frag} {F : Hp} {p : Addr} {vs : List V} {ds : List D} (h : F p = some (.tup vs)) (w : DpAll K F vs ds) : ItOk K (Itt K p) F ds := fun F2 H2 f2 h2 i => by
  have hq : SqT K H2 p vs := SqT.of ((f2.trans h2) _ _ h)
  refine ⟨fun d hd => ?_, fun hi => ⟨vs, hq, by rw [dpa_len w]; exact Nat.le_of_eq hi.symm⟩⟩
  obtain ⟨v, e1, e2⟩ := dpa_get w hd
  refine ⟨⟨vs, v, hq, e1⟩, fun x H3 y => ?_⟩
  obtain ⟨rfl, y⟩ := y
  have ex : v = x := Option.some.inj (e1.symm.trans (y vs hq))
  subst ex
  exact ⟨F2, Same.refl F2, h2, Same.refl _, fun b z => .inl z, dp_mono f2 _ _ e2⟩
def chars (z : Str) : List D := z.cps.toList.map fun c => .str ⟨#[c]⟩
theorem it_str {K : PySem.W.Frag} {F : Hp} {z : Str} : ItOk K (Its z) F (chars z) := fun F2 H2 f2 h2 i => by
  refine ⟨fun d hd => ?_, fun hi => by
    unfold chars at hi
    show z.cps.size ≤ i
    rw [hi]
    simp⟩
  unfold chars at hd
  rw [List.getElem?_map] at hd
  cases e : z.cps.toList[i]? with
  | none => rw [e] at hd; cases hd
  | some c =>
    rw [e] at hd
    cases hd
    have ec : z.cps[i]? = some c := by simpa using e
    refine ⟨(Array.getElem?_eq_some_iff.mp ec).1, fun x H3 y => ?_⟩
    obtain ⟨rfl, c', e1, rfl⟩ := y
    rw [ec] at e1
    cases e1
    exact ⟨F2, Same.refl F2, h2, Same.refl _, fun b z => .inl z, .str _⟩
theorem it_range {K : PySem.W.Frag} {F : Hp} {lo : Int} {n : Nat} : ItOk K (Itr lo n) F ((List.range n).map fun (i : Nat) => .int (lo + i)) := fun F2 H2 f2 h2 i => by
  refine ⟨fun d hd => ?_, fun hi => by
    show n ≤ i
    rw [hi]
    simp⟩
  rw [List.getElem?_map] at hd
  have hi : i < n := by
    have := (List.getElem?_eq_some_iff.mp (show (List.map (fun (i : Nat) => PyData.int (lo + i)) (List.range n))[i]? = some d by rw [List.getElem?_map]; exact hd)).1
    simpa using this
  rw [List.getElem?_range hi] at hd
  cases hd
  refine ⟨hi, fun x H3 y => ?_⟩
  obtain ⟨rfl, rfl⟩ := y
  exact ⟨F2, Same.refl F2, h2, Same.refl _, fun b z => .inl z, .int _⟩
def itemsOf (d : D) (δ : DS) : R (List D) := match d with
  | .list ds => .ok ds δ
  | .tuple ds => .ok ds δ
  | .str z => .ok (chars z) δ
  | .dict [(.none, .list ds)] => .ok ds δ
  | _ => .bad
def dIter (a : De) : Di := fun δ => (a δ).bind fun x δ1 => (kp x δ1).bind fun d δ2 => itemsOf d δ2
/-- a list, a tuple, a text -/
theorem pdi_seq (ha : PE X l (up C ta)) (hK : C.K = X.K := by rfl) : PI X tg l (upI C (dIter ta)) := by
  refine pi_weak (pi_or (pi_list ha) (pi_or (pi_tup ha) (pi_str ha))) fun σ H R ⟨G, δ, F, hC, k, h⟩ => ?_
  subst hC
  unfold dIter at h
  cases e1 : ta δ with
  | bad => rw [e1] at h; exact h.elim
  | ex cc s =>
    rw [e1] at h
    refine .inl ⟨G, δ, F, rfl, k, ?_⟩
    rw [e1]
    exact h
  | ok x δ1 =>
    rw [e1] at h
    have h : finA G (WI G) ((kp x δ1).bind fun d δ2 => itemsOf d δ2) σ F R := h
    have go : ∀ (Q : VK), (∀ v d δ2 F2 H2, St1 G δ2 σ F2 H2 → Dp G.K F2 v d → kp x δ1 = .ok d δ2 → finA G (WI G) (itemsOf d δ2) σ F2 R → Q v H2) → up G.C ta σ H Q := fun Q hq => by
      refine ⟨G, δ, F, rfl, k, ?_⟩
      rw [e1]
      intro v F1 H1 k1 g1 w1
      cases e : kp x δ1 with
      | bad => rw [e] at h; exact h.elim
      | ex cc s =>
        exfalso
        cases x with
        | fz d => cases e
        | own cc => cases cc <;> cases e
        | loc i =>
          unfold kp at e
          simp only at e
          split at e <;> cases e
      | ok d δ2 =>
        rw [e] at h
        obtain ⟨F2, k2, g2, w2⟩ := k1.keepV w1 e
        exact hq v d δ2 F2 H1 k2 w2 e (finA_mono h (g1.trans g2))
    cases e : kp x δ1 with
    | bad => rw [e] at h; exact h.elim
    | ex cc s =>
        exfalso
        cases x with
        | fz d => cases e
        | own cc => cases cc <;> cases e
        | loc i =>
          unfold kp at e
          simp only at e
          split at e <;> cases e
    | ok d δ2 =>
      rw [e] at h
      cases d with
      | list ds =>
        refine .inl (go _ fun v d' δ2' F2 H2 k2 w2 e' h2 => ?_)
        rw [e] at e'
        cases e'
        cases w2 with
        | @lst p vs _ a b => exact ⟨p, rfl, ⟨vs, SqL.of (k2.fh _ _ a)⟩, h2 _ F2 H2 k2 (Same.refl F2) (by rw [← hK]; exact it_list a b)⟩
      | tuple ds =>
        refine .inr (.inl (go _ fun v d' δ2' F2 H2 k2 w2 e' h2 => ?_))
        rw [e] at e'
        cases e'
        cases w2 with
        | @tup p vs _ a b => exact ⟨p, rfl, ⟨vs, SqT.of (k2.fh _ _ a)⟩, h2 _ F2 H2 k2 (Same.refl F2) (by rw [← hK]; exact it_tup a b)⟩
      | str z =>
        refine .inr (.inr (go _ fun v d' δ2' F2 H2 k2 w2 e' h2 => ?_))
        rw [e] at e'
        cases e'
        cases w2
        exact ⟨z, rfl, h2 _ F2 H2 k2 (Same.refl F2) it_str⟩
      | dict kvs =>
        refine .inl (go _ fun v d' δ2' F2 H2 k2 w2 e' h2 => ?_)
        rw [e] at e'
        cases e'
        cases w2 with
        | dct a b => exact h2.elim
        | @scr p ns a => exact ⟨p, rfl, ⟨_, by rw [← hK]; exact same_l k2.fh a⟩, h2 _ F2 H2 k2 (Same.refl F2) (by rw [← hK]; exact it_scr a)⟩
      | _ => exact h.elim
def dRange1 (l : Dl) : Di := fun δ => (l δ).bind fun ds δ1 => match ds with
  | [.int n] => okIf (decide (-1000000 ≤ n) && decide (n ≤ 1000000)) (.ok ((List.range n.toNat).map fun (i : Nat) => PyData.int i) δ1)
  | _ => .bad
def dRange2 (l : Dl) : Di := fun δ => (l δ).bind fun ds δ1 => match ds with
  | [.int lo, .int n] => okIf (decide (-1000000 ≤ n) && decide (n ≤ 1000000) && decide (-1000000 ≤ lo) && decide (lo ≤ 1000000)) (.ok ((List.range (n - lo).toNat).map fun (i : Nat) => PyData.int (lo + i)) δ1)
  | _ => .bad
theorem pdi_range1 {tl : Dl} {p : Pos} (hm : X.mg "range" = none) (ha : PA X [a] (upL C tl)) (hg : Gl X "range" := by rfl) (hs : starEach [a] X.env = [(false, eval a X.env)] := by rfl) : PI X tg (.Call (.Name "range" p) [a] [] pos) (upI C (dRange1 tl)) :=
  pi_weak (pi_range1 hg hm ha hs) fun σ H R ⟨G, δ, F, hC, k, h⟩ => by
    subst hC
    refine ⟨G, δ, F, rfl, k, finA_bind h fun ds δ1 vs F1 H1 k1 g1 w1 h1 => ?_⟩
    have w1 : DpAll G.K F1 vs ds := w1
    cases w1 with
    | nil => exact h1.elim
    | cons w ws =>
      cases ws with
      | cons _ _ => cases w <;> exact h1.elim
      | nil =>
        cases w with
        | int n =>
          obtain ⟨z, h2⟩ := okIf_fin h1
          rw [Bool.and_eq_true] at z
          have z1 := of_decide_eq_true z.1
          have z2 := of_decide_eq_true z.2
          refine ⟨n, rfl, by omega, by omega, h2 _ F1 H1 k1 (Same.refl F1) ?_⟩
          have := it_range (K := G.K) (F := F1) (lo := 0) (n := n.toNat)
          have q : ItOk G.K (Itr 0 n.toNat) F1 ((List.range n.toNat).map fun (i : Nat) => PyData.int i) := by simpa using this
          exact q
        | _ => exact h1.elim
theorem pdi_range2 {tl : Dl} {p : Pos} (hm : X.mg "range" = none) (ha : PA X [a, b] (upL C tl)) (hg : Gl X "range" := by rfl) (hs : starEach [a, b] X.env = [(false, eval a X.env), (false, eval b X.env)] := by rfl) (hs2 : starEach [b] X.env = [(false, eval b X.env)] := by rfl) : PI X tg (.Call (.Name "range" p) [a, b] [] pos) (upI C (dRange2 tl)) :=
  pi_weak (pi_range2 hg hm ha hs hs2) fun σ H R ⟨G, δ, F, hC, k, h⟩ => by
    subst hC
    refine ⟨G, δ, F, rfl, k, finA_bind h fun ds δ1 vs F1 H1 k1 g1 w1 h1 => ?_⟩
    have w1 : DpAll G.K F1 vs ds := w1
    cases w1 with
    | nil => exact h1.elim
    | cons w ws =>
      cases ws with
      | nil => cases w <;> exact h1.elim
      | cons w' ws =>
        cases ws with
        | cons _ _ => cases w <;> cases w' <;> exact h1.elim
        | nil =>
          cases w with
          | int lo =>
            cases w' with
            | int n =>
              obtain ⟨z, h2⟩ := okIf_fin h1
              rw [Bool.and_eq_true, Bool.and_eq_true, Bool.and_eq_true] at z
              have z1 := of_decide_eq_true z.1.1.1
              have z2 := of_decide_eq_true z.1.1.2
              have z3 := of_decide_eq_true z.1.2
              have z4 := of_decide_eq_true z.2
              exact ⟨lo, n, rfl, ⟨by omega, by omega, by omega, by omega⟩, h2 _ F1 H1 k1 (Same.refl F1) it_range⟩
            | _ => exact h1.elim
          | _ => cases w' <;> exact h1.elim

/-! ### for, while -/
def stepB (g : Dg) (body : Ds) (d : D) (δ : DS) : R Out := match g d δ with
  | .ok .nx δ1 => body δ1
  | _ => .bad
def forL (f : D → DS → R Out) : List D → DS → R Out
  | [], δ => .ok .nx δ
  | d :: ds, δ => match f d δ with
    | .ok .nx δ1 => forL f ds δ1
    | .ok .ct δ1 => forL f ds δ1
    | .ok .bk δ1 => .ok .nx δ1
    | r => r
def dFor (ti : Di) (g : Dg) (body : Ds) : Ds := fun δ => (ti δ).bind fun ds δ1 => forL (stepB g body) ds δ1
theorem grow_it {G : Ct} {δ : DS} {σ : L2.St} {F2 H2 F3 H3 : Hp} (k : St1 G δ σ F2 H2) (f1 : Same F2 F3) (f2 : Same F3 H3) (f3 : Same H2 H3) (f4 : ∀ b, F3 b ≠ none → F2 b ≠ none ∨ H2 b = none) : St1 G δ σ F3 H3 := k.grow f1 f2 f3 fun b z => by
  rcases f4 b z with q | q
  · exact .inl q
  · exact .inr ⟨k.new0 q, k.free q⟩
theorem pds_for {ti : Di} {g : Dg} {ts : List Nat} {body : List Stmt} {sb : Ds} (hp : PassesOwn (model X.prog X.w) X.A X.env X.xe) (hi : PI X tg e (upI C ti)) (hg : PG X tg (upG C ts g)) (hb : PSs X body (ups C sb)) (hc : X.calm = true := by rfl)
    (hs : ∀ x, foldedSetIterable e X.env x = pure x := by intro _; rfl) : PS X (.For tg e body [] pos) (ups C (dFor ti g sb)) := ps_weak (ps_for hp hc hi hg hb hs) fun D σ H ⟨G, δ, F, hC, k, h⟩ => by
  subst hC
  refine ⟨G, δ, F, rfl, k, finS_bind h fun ds δ1 J F1 H1 k1 g1 w1 h1 => ?_⟩
  have w1 : ItOk G.K J F1 ds := w1
  refine ⟨fun i m σ H => m = ds.length - i ∧ i ≤ ds.length ∧ ∃ δ F, St1 G δ σ F H ∧ Same F1 F ∧ finS G (forL (stepB g sb) (ds.drop i) δ) F D, ⟨ds.length, by simp, Nat.zero_le _, δ1, F1, k1, Same.refl F1, h1⟩, ?_⟩
  rintro i m σ2 H2 ⟨rfl, hi, δ2, F2, k2, g2, h2⟩
  obtain ⟨wgo, wst⟩ := w1 F2 H2 g2 k2.fh i
  by_cases hlt : i < ds.length
  · right
    obtain ⟨go, yl⟩ := wgo ds[i] (List.getElem?_eq_getElem hlt)
    rw [List.drop_eq_getElem_cons hlt] at h2
    refine ⟨go, fun σ' H' => ∃ δ F, St1 G δ σ' F H' ∧ Same F1 F ∧ finS G (forL (stepB g sb) (ds.drop (i + 1)) δ) F D, fun σ' H' ⟨δ', F', a, b, c⟩ => ⟨ds.length - (i + 1), by omega, rfl, hlt, δ', F', a, b, c⟩, fun x H3 y => ?_⟩
    obtain ⟨F3, f1, f2, f3, f4, w3⟩ := yl x H3 y
    have k3 := grow_it k2 f1 f2 f3 f4
    refine ⟨G, δ2, F3, ds[i], rfl, k3, w3, ?_⟩
    have h3 := finS_mono h2 f1
    unfold forL stepB at h3
    cases e1 : g ds[i] δ2 with
    | ok o δ3 =>
      rw [e1] at h3
      cases o with
      | nx =>
        intro σ' F' H' k' f' _
        refine ⟨G, δ3, F', rfl, k', ?_⟩
        have h4 := finS_mono h3 f'
        simp only at h4
        have gg : Same F1 F' := (g2.trans f1).trans f'
        cases e2 : sb δ3 with
        | ok o δ4 =>
          rw [e2] at h4
          cases o with
          | nx => exact fun σ4 F4 H4 k4 f4 => ⟨δ4, F4, k4, gg.trans f4, finS_mono h4 f4⟩
          | ct => exact fun σ4 F4 H4 k4 f4 => ⟨δ4, F4, k4, gg.trans f4, finS_mono h4 f4⟩
          | bk => exact h4
          | rt v => exact h4
        | ex c δ4 => rw [e2] at h4; exact h4
        | bad => rw [e2] at h4; exact h4
      | bk => exact h3.elim
      | ct => exact h3.elim
      | rt v => exact h3.elim
    | ex c δ3 => rw [e1] at h3; exact h3.elim
    | bad => rw [e1] at h3; exact h3.elim
  · left
    have e : i = ds.length := by omega
    subst e
    refine ⟨wst rfl, ?_⟩
    rw [List.drop_length] at h2
    exact h2 σ2 F2 H2 k2 (Same.refl F2)
def whileL (t : Dt) (body : Ds) : Nat → DS → R Out
  | 0, _ => .bad
  | n + 1, δ => (t δ).bind fun b δ1 => match b with
    | false => .ok .nx δ1
    | true => match body δ1 with
      | .ok .nx δ2 => whileL t body n δ2
      | .ok .ct δ2 => whileL t body n δ2
      | .ok .bk δ2 => .ok .nx δ2
      | r => r
def dWhile (n : Nat) (t : Dt) (body : Ds) : Ds := whileL t body n
theorem pds_while {n : Nat} {t : Dt} {body : List Stmt} {sb : Ds} (hp : PassesOwn (model X.prog X.w) X.A X.env X.xe) (ht : PT X e (upT C t)) (hb : PSs X body (ups C sb)) : PS X (.While e body [] pos) (ups C (dWhile n t sb)) :=
  ps_weak (ps_while hp ht hb) fun D σ H ⟨G, δ, F, hC, k, h⟩ => by
    subst hC
    refine ⟨fun m σ H => ∃ δ F, St1 G δ σ F H ∧ finS G (whileL t sb m δ) F D, ⟨n, δ, F, k, h⟩, ?_⟩
    rintro m σ2 H2 ⟨δ2, F2, k2, h2⟩
    cases m with
    | zero => exact h2.elim
    | succ m =>
      refine ⟨G, δ2, F2, rfl, k2, finS_bind h2 fun b δ3 v F3 H3 k3 g3 w3 h3 => ?_⟩
      have w3 : v = b := w3
      subst w3
      cases v with
      | false => exact iteF (h3 σ2 F3 H3 k3 (Same.refl F3))
      | true =>
        refine iteT ⟨fun σ' H' => ∃ δ F, St1 G δ σ' F H' ∧ finS G (whileL t sb m δ) F D, fun σ' H' z => ⟨m, Nat.lt_succ_self m, z⟩, G, δ3, F3, rfl, k3, ?_⟩
        simp only at h3
        cases e2 : sb δ3 with
        | ok o δ4 =>
          rw [e2] at h3
          cases o with
          | nx => exact fun σ4 F4 H4 k4 f4 => ⟨δ4, F4, k4, finS_mono h3 f4⟩
          | ct => exact fun σ4 F4 H4 k4 f4 => ⟨δ4, F4, k4, finS_mono h3 f4⟩
          | bk => exact h3
          | rt v => exact h3
        | ex c δ4 => rw [e2] at h3; exact h3
        | bad => rw [e2] at h3; exact h3
end
end DL

set_option Elab.async false
set_option linter.all false
set_option maxRecDepth 100000
set_option autoImplicit false
namespace DL
open PySem PySem.Spec PyProof.Rows L2

/-! ### lists of one's own are changed -/
section
variable {X : Cx} {C : Cf} {e a b c : Expr} {ta tb tc : De} {pos : Pos}
def lstAt (i : Nat) (δ : DS) : Option (Sl × List D) := match δ[i]? with
  | some (.own (.lst ds)) => some (.own (.lst ds), ds)
  | some (.arg (.lst ds)) => some (.arg (.lst ds), ds)
  | _ => none
theorem lstAt_some {i : Nat} {δ : DS} {s : Sl} {ds : List D} (h : lstAt i δ = some (s, ds)) : δ[i]? = some s ∧ s.co = some (.lst ds) := by
  unfold lstAt at h
  cases e : δ[i]? with
  | none => rw [e] at h; cases h
  | some t =>
    rw [e] at h
    cases t with
    | own c => cases c with
      | lst l => cases h; exact ⟨rfl, rfl⟩
      | dct _ => cases h
    | arg c => cases c with
      | lst l => cases h; exact ⟨rfl, rfl⟩
      | dct _ => cases h
    | _ => cases h
/-- the list at slot i becomes f of it -/
def mutL (i : Nat) (f : List D → Option (List D)) (δ : DS) : R Out := match lstAt i δ with
  | some (s, ds) => match f ds with
    | some l => .ok .nx (δ.set i (s.with (.lst l)))
    | none => .bad
  | none => .bad
theorem mutL_fin {G : Ct} {i : Nat} {f : List D → Option (List D)} {δ : DS} {F : Hp} {Dd : Ends} (h : finS G (mutL i f δ) F Dd) : ∃ s ds l, δ[i]? = some s ∧ s.co = some (.lst ds) ∧ f ds = some l ∧ finS G (.ok .nx (δ.set i (s.with (.lst l)))) F Dd := by
  unfold mutL at h
  cases e : lstAt i δ with
  | none => rw [e] at h; exact h.elim
  | some q =>
    obtain ⟨s, ds⟩ := q
    rw [e] at h
    simp only at h
    obtain ⟨e1, e2⟩ := lstAt_some e
    cases e3 : f ds with
    | none => rw [e3] at h; exact h.elim
    | some l => rw [e3] at h; exact ⟨s, ds, l, e1, e2, e3, h⟩
def isLst (i : Nat) (δ : DS) : Bool := (lstAt i δ).isSome
theorem isLst_held {G : Ct} {δ : DS} {σ : L2.St} {F H : Hp} {i : Nat} (k : St1 G δ σ F H) (h : isLst i δ = true) : ∃ p vs, σ[i]? = some (some (.ref p)) ∧ H p = some (.lst vs) := by
  unfold isLst at h
  cases e : lstAt i δ with
  | none => rw [e] at h; cases h
  | some q =>
    obtain ⟨s, ds⟩ := q
    obtain ⟨e1, e2⟩ := lstAt_some e
    obtain ⟨p, o, a1, a2, a3, vs, rfl, a4⟩ := k.held e1 e2
    exact ⟨p, vs, a1, a2⟩
def fApp (d : D) (ds : List D) : Option (List D) := okO (small ds.length) (some (ds ++ [d]))
def dApp (i : Nat) (a : De) : Ds := fun δ => okIf (isLst i δ) ((a δ).bind fun x δ1 => (kp x δ1).bind fun d δ2 => mutL i (fApp d) δ2)
theorem okIf_finS' {G : Ct} {t : Bool} {r : R Out} {F : Hp} {Dd : Ends} (h : finS G (okIf t r) F Dd) : t = true ∧ finS G r F Dd := okIf_finS h
theorem pds_app (i : Nat) {x : Str} {p1 p2 p3 : Pos} (ha : PE X e (up C ta)) (hN : X.N[i]? = some x := by rfl) (hv : Vis X.env.scope x := by first | exact Or.inl rfl | exact Or.inr (Or.inl rfl) | exact Or.inr (Or.inr rfl)) (hd : (x == ("__debug__" : Str)) = false := by decide)
    (hcd : (x == ("__classdict__" : Str)) = false := by decide) (hw : swapsWith (.Call (.Attribute (.Name x p1) "append" p2) [e] [] p3) none pos.line X.env = pure false := by rfl)
    (hcall : ∀ (to te : TE), PE X (.Name x p1) to → PE X e te → PE X (.Call (.Attribute (.Name x p1) "append" p2) [e] [] p3) (tBM X.K "list" rAppend to (tCons te tNil)) := by exact fun _ _ h1 h2 => pe_bm PySem.F.plainAttrs_list PySem.F.slot_list_append PySem.F.type_list_append mt_append h1 (pa_cons h2 pa_nil)) :
    PS X (.Expr (.Call (.Attribute (.Name x p1) "append" p2) [e] [] p3) pos) (ups C (dApp i ta)) := by
  refine ps_weak (ps_expr (hcall _ _ (pe_var hN hv hd hcd) ha) hw) fun D σ H ⟨G, δ, F, hC, k, h⟩ => ?_
  subst hC
  obtain ⟨z, h⟩ := okIf_finS h
  obtain ⟨p, vs, e1, e2⟩ := isLst_held k z
  refine ⟨.ref p, e1, .inl ⟨rfl, vs, SqL.of e2⟩, G, δ, F, rfl, k, finS_bind h fun x δ1 v F1 H1 k1 g1 w1 h1 => ?_⟩
  obtain ⟨d, δ2, F2, k2, g2, w2, h2⟩ := kp_bindS k1 h1 w1
  obtain ⟨s, ds, l, q1, q2, q3, h3⟩ := mutL_fin h2
  obtain ⟨p', o, a1, a2, a3, vs', rfl, a4⟩ := k2.held q1 q2
  rw [e1] at a1
  cases a1
  obtain ⟨z1, z2⟩ := okO_some q3
  cases z2
  exact ⟨p, vs', v, rfl, rfl, a2, by rw [dpa_len a4]; exact small_lt z1, h3 σ F2 _ (k2.change q1 q2 e1 ⟨_, rfl, dpa_app a4 (.cons w2 .nil)⟩) (Same.refl F2)⟩
/-- x[i] = e of an own list -/
def fSet (j : Int) (d : D) (ds : List D) : Option (List D) := (ixN ds.length j).map fun m => ds.set m d
def asInt (x : Vl) (δ : DS) : R Int := match x with
  | .fz (.int i) => .ok i δ
  | _ => .bad
def dSetI (i : Nat) (b a : De) : Ds := fun δ => (a δ).bind fun x δ1 => (kp x δ1).bind fun d δ2 => okIf (isLst i δ2) ((b δ2).bind fun y δ3 => (asInt y δ3).bind fun j δ4 => mutL i (fSet j d) δ4)
theorem pds_setI (i : Nat) {x : Str} {p1 p2 : Pos} (ha : PE X e (up C ta)) (hb : PE X b (up C tb)) (hN : X.N[i]? = some x := by rfl) (hv : Vis X.env.scope x := by first | exact Or.inl rfl | exact Or.inr (Or.inl rfl) | exact Or.inr (Or.inr rfl)) (hd : (x == ("__debug__" : Str)) = false := by decide)
    (hcd : (x == ("__classdict__" : Str)) = false := by decide)
    (hs : swapsWithSole [.Subscript (.Name x p1) b p2] e pos.line X.env = pure false := by rfl) (hw : swappedStores [.Subscript (.Name x p1) b p2] e X.env = pure none := by rfl)
    (h1 : (assignEach [.Subscript (.Name x p1) b p2] X.env).map (·.2) = [assign (.Subscript (.Name x p1) b p2) X.env] := by rfl)
    (hpg : ∀ (to ti : TE), PE X (.Name x p1) to → PE X b ti → PG X (.Subscript (.Name x p1) b p2) (gSub to ti rSetL) := by exact fun _ _ h1 h2 => pg_sub h1 h2 set_list) :
    PS X (.Assign [.Subscript (.Name x p1) b p2] e pos) (ups C (dSetI i tb ta)) := by
  refine ps_weak (ps_asg ha (hpg _ _ (pe_var hN hv hd hcd) hb) hs hw h1) fun D σ H ⟨G, δ, F, hC, k, h⟩ => ?_
  subst hC
  refine ⟨G, δ, F, rfl, k, finS_bind h fun x δ1 v F1 H1 k1 g1 w1 h1 => ?_⟩
  obtain ⟨d, δ2, F2, k2, g2, w2, h2⟩ := kp_bindS k1 h1 w1
  obtain ⟨z, h2⟩ := okIf_finS h2
  obtain ⟨p, vs, e1, e2⟩ := isLst_held k2 z
  refine ⟨.ref p, e1, G, δ2, F2, rfl, k2, finS_bind h2 fun y δ3 u F3 H3 k3 g3 w3 h3 => ?_⟩
  cases y with
  | fz d' => cases d' with
    | int j =>
      cases w3
      have h3 : finS G (mutL i (fSet j d) δ3) F3 D := h3
      obtain ⟨s, ds, l, q1, q2, q3, h4⟩ := mutL_fin h3
      obtain ⟨p', o, a1, a2, a3, vs', rfl, a4⟩ := k3.held q1 q2
      rw [e1] at a1
      cases a1
      unfold fSet at q3
      cases eq : ixN ds.length j with
      | none => rw [eq] at q3; cases q3
      | some m =>
        rw [eq] at q3
        cases q3
        exact ⟨p, vs', j, m, rfl, rfl, a2, by rw [dpa_len a4]; exact eq, h4 σ F3 _ (k3.change q1 q2 e1 ⟨_, rfl, dpa_set m a4 (dp_mono g3 _ _ w2)⟩) (Same.refl F3)⟩
    | _ => exact h3.elim
  | _ => exact h3.elim
/-- xs.extend(e): the list handed may be read only -/
def rExtendR : V → List V → Hp → VK → Prop := fun x vs H Q => ∃ l b xs zs, x = .ref l ∧ vs = [.ref b] ∧ H l = some (.lst xs) ∧ Rd H b (.lst zs) ∧ xs.length + zs.length ≤ sizeLine ∧ Q .non (upd H l (.lst (xs ++ zs)))
end

/-! ### the part of a block (a comprehension): what was ours before is handed to it -/
def toArg : Sl → Sl
  | .own c => .arg c
  | s => s
def back1 : Sl → Sl → Sl
  | .own _, .arg c => .own c
  | .arg _, .arg c => .arg c
  | s, _ => s
def back : DS → DS → DS
  | [], _ => []
  | s :: δ, t :: δ' => back1 s t :: back δ δ'
  | s :: δ, [] => s :: back δ []
theorem back_get : ∀ (δ δ' : DS) (i : Nat) (s t : Sl), δ[i]? = some s → δ'[i]? = some t → (back δ δ')[i]? = some (back1 s t)
  | [], _, _, _, _, h, _ => by simp at h
  | _ :: _, [], _, _, _, _, h => by simp at h
  | s :: δ, t :: δ', 0, _, _, h, h' => by simp at h h'; subst h h'; rfl
  | s :: δ, t :: δ', i + 1, _, _, h, h' => by
    show (back δ δ')[i]? = _
    exact back_get δ δ' i _ _ (by simpa using h) (by simpa using h')
theorem back_len : ∀ (δ δ' : DS), (back δ δ').length = δ.length
  | [], _ => rfl
  | s :: δ, t :: δ' => by show (back δ δ').length + 1 = _; rw [back_len]; rfl
  | s :: δ, [] => by show (back δ []).length + 1 = _; rw [back_len]; rfl
def wipeD (δ : DS) : List Nat → DS
  | [] => δ
  | v :: vs => (wipeD δ vs).set v .no
theorem wipeD_len (δ : DS) : ∀ vs : List Nat, (wipeD δ vs).length = δ.length
  | [] => rfl
  | v :: vs => by unfold wipeD; rw [List.length_set, wipeD_len δ vs]
theorem wipeD_out {δ : DS} {i : Nat} : ∀ {vs : List Nat}, i ∉ vs → (wipeD δ vs)[i]? = δ[i]?
  | [], _ => rfl
  | v :: vs, h => by
    rw [List.mem_cons, not_or] at h
    unfold wipeD
    rw [List.getElem?_set_ne (Ne.symm h.1)]
    exact wipeD_out h.2
theorem wipeD_in {δ : DS} {i : Nat} (hl : i < δ.length) : ∀ {vs : List Nat}, i ∈ vs → (wipeD δ vs)[i]? = some .no
  | [], h => by simp at h
  | v :: vs, h => by
    unfold wipeD
    by_cases hv : v = i
    · subst hv
      rw [List.getElem?_set_self (by rw [wipeD_len]; exact hl)]
    · rw [List.getElem?_set_ne hv]
      rcases List.mem_cons.mp h with z | z
      · exact absurd z.symm hv
      · exact wipeD_in hl z
theorem wipe_eq {a b : L2.St} {vs : List Nat} (h : ∀ j, j ∉ vs → a[j]? = b[j]?) (hl : a.length = b.length) : wipe a vs = wipe b vs := by
  have gin : ∀ (σ : L2.St) (i : Nat), i < σ.length → ∀ (vs : List Nat), i ∈ vs → (wipe σ vs)[i]? = some none := by
    intro σ i hi vs
    induction vs with
    | nil => intro h; simp at h
    | cons v vs ih =>
      intro h
      unfold wipe
      by_cases hv : v = i
      · subst hv
        rw [List.getElem?_set_self (by rw [wipe_length]; exact hi)]
      · rw [List.getElem?_set_ne hv]
        rcases List.mem_cons.mp h with z | z
        · exact absurd z.symm hv
        · exact ih z
  apply List.ext_getElem?
  intro i
  by_cases hi : i ∈ vs
  · by_cases hz : i < a.length
    · rw [gin a i hz vs hi, gin b i (by rw [← hl]; exact hz) vs hi]
    · rw [List.getElem?_eq_none (by rw [wipe_length]; omega), List.getElem?_eq_none (by rw [wipe_length]; omega)]
  · rw [wipe_out hi, wipe_out hi, h i hi]
def freeAt (vs : List Nat) (δ : DS) : Bool := vs.all fun i => match δ[i]? with
  | some s => !s.held
  | none => true
def Ct.blk (G : Ct) (C' : Cf) (δ : DS) (σ : L2.St) (F H : Hp) : Ct := ⟨C', F, H, fun i => match δ[i]?, σ[i]? with
  | some s, some (some (.ref p)) => if s.held = true then some p else none
  | _, _ => none⟩
section
variable {G : Ct} {C' : Cf} {δ δ2 : DS} {σ σ2 : L2.St} {F H F2 H2 : Hp} {vs : List Nat}
theorem blk_M {i : Nat} {p : Addr} (h : (G.blk C' δ σ F H).M i = some p) : ∃ s, δ[i]? = some s ∧ s.held = true ∧ σ[i]? = some (some (.ref p)) := by
  have h : (match δ[i]?, σ[i]? with
  | some s, some (some (.ref p)) => if s.held = true then some p else none
  | _, _ => none) = some p := h
  cases e : δ[i]? with
  | none => rw [e] at h; cases h
  | some s =>
    rw [e] at h
    cases e2 : σ[i]? with
    | none => rw [e2] at h; cases h
    | some o =>
      rw [e2] at h
      cases o with
      | none => cases h
      | some v =>
        cases v with
        | ref q =>
          simp only at h
          by_cases hh : s.held = true
          · rw [if_pos hh] at h
            cases h
            exact ⟨s, rfl, hh, rfl⟩
          · rw [if_neg hh] at h
            cases h
        | _ => cases h
theorem blk_M_of {i : Nat} {p : Addr} {s : Sl} (h1 : δ[i]? = some s) (h2 : s.held = true) (h3 : σ[i]? = some (some (.ref p))) : (G.blk C' δ σ F H).M i = some p := by
  show (match δ[i]?, σ[i]? with
  | some s, some (some (.ref p)) => if s.held = true then some p else none
  | _, _ => none) = some p
  rw [h1, h3]
  simp only
  rw [if_pos h2]
theorem blk_in (k : St1 G δ σ F H) (hK : C'.K = G.K) (hv : freeAt vs δ = true) : St1 (G.blk C' δ σ F H) (wipeD (δ.map toArg) vs) (wipe σ vs) F H where
  len := by rw [wipeD_len, wipe_length, List.length_map]; exact k.len
  fh := k.fh
  f0 := Same.refl F
  h0 := fun b o _ e => e
  fn := fun b z => .inl z
  sl := fun i s e => by
    have hl : i < δ.length := by
      have := (List.getElem?_eq_some_iff.mp e).1
      rw [wipeD_len, List.length_map] at this
      exact this
    by_cases hi : i ∈ vs
    · rw [wipeD_in (by rw [List.length_map]; exact hl) hi] at e
      cases e
      trivial
    · rw [wipeD_out hi, List.getElem?_map] at e
      rw [wipe_out hi]
      cases e1 : δ[i]? with
      | none => rw [e1] at e; cases e
      | some t =>
        rw [e1] at e
        have et : toArg t = s := Option.some.inj e
        subst et
        have z := k.sl i t e1
        cases t with
        | no => trivial
        | fz d =>
          obtain ⟨v, a, b⟩ := z
          exact ⟨v, a, by rw [show (G.blk C' δ σ F H).K = G.K from hK]; exact b⟩
        | own c =>
          obtain ⟨p, o, a1, a2, a3, a4, _⟩ := z
          exact ⟨p, o, a1, a2, a3, by rw [show (G.blk C' δ σ F H).K = G.K from hK]; exact a4, blk_M_of e1 rfl a1⟩
        | arg c =>
          obtain ⟨p, o, a1, a2, a3, a4, _⟩ := z
          exact ⟨p, o, a1, a2, a3, by rw [show (G.blk C' δ σ F H).K = G.K from hK]; exact a4, blk_M_of e1 rfl a1⟩
  di := fun i j s t p hij e1 e2 q1 q2 r1 r2 => by
    have get : ∀ (m : Nat) (u : Sl), (wipeD (δ.map toArg) vs)[m]? = some u → u.held = true → m ∉ vs ∧ ∃ u', δ[m]? = some u' ∧ u'.held = true := fun m u e q => by
      have hl : m < δ.length := by
        have := (List.getElem?_eq_some_iff.mp e).1
        rw [wipeD_len, List.length_map] at this
        exact this
      by_cases hi : m ∈ vs
      · rw [wipeD_in (by rw [List.length_map]; exact hl) hi] at e
        cases e
        cases q
      · refine ⟨hi, ?_⟩
        rw [wipeD_out hi, List.getElem?_map] at e
        cases e1 : δ[m]? with
        | none => rw [e1] at e; cases e
        | some t =>
          rw [e1] at e
          have et : toArg t = u := Option.some.inj e
          subst et
          refine ⟨t, rfl, ?_⟩
          cases t <;> first | rfl | exact q
    obtain ⟨n1, u1, a1, b1⟩ := get i s e1 q1
    obtain ⟨n2, u2, a2, b2⟩ := get j t e2 q2
    rw [wipe_out n1] at r1
    rw [wipe_out n2] at r2
    exact k.di i j u1 u2 p hij a1 a2 b1 b2 r1 r2
  ma := fun i p e => by
    obtain ⟨s, h1, h2, h3⟩ := blk_M e
    have hi : i ∉ vs := fun z => by
      have := List.all_eq_true.mp hv i z
      rw [h1] at this
      simp only [h2] at this
      cases this
    rw [wipeD_out hi, List.getElem?_map, h1]
    cases s with
    | own c => exact ⟨c, rfl⟩
    | arg c => exact ⟨c, rfl⟩
    | _ => cases h2
theorem blk_out (k : St1 G δ σ F H) (hK : C'.K = G.K) (k2 : St1 (G.blk C' δ σ F H) δ2 σ2 F2 H2) (hl : σ2.length = σ.length) : St1 G (back δ δ2) σ F2 H2 where
  len := by rw [back_len]; exact k.len
  fh := k2.fh
  f0 := k.f0.trans k2.f0
  h0 := fun b o hm e => k2.h0 b o (fun i hi => by
    obtain ⟨s, h1, h2, h3⟩ := blk_M hi
    have z := k.sl i s h1
    cases s with
    | own c =>
      obtain ⟨p, o', a1, a2, a3, a4, a5, a6⟩ := z
      rw [h3] at a1
      cases a1
      rw [a6] at e
      cases e
    | arg c =>
      obtain ⟨p, o', a1, a2, a3, a4, a5⟩ := z
      rw [h3] at a1
      cases a1
      exact hm i a5
    | _ => cases h2) (k.h0 b o hm e)
  fn := fun b z => by
    rcases k2.fn b z with q | q
    · exact k.fn b q
    · exact .inr (k.new0 q)
  sl := fun i s e => by
    have hlt : i < δ.length := by
      have := (List.getElem?_eq_some_iff.mp e).1
      rw [back_len] at this
      exact this
    have hlt2 : i < δ2.length := by rw [k2.len, hl, ← k.len]; exact hlt
    obtain ⟨t, et⟩ : ∃ t, δ[i]? = some t := ⟨_, List.getElem?_eq_getElem hlt⟩
    obtain ⟨u, eu⟩ : ∃ u, δ2[i]? = some u := ⟨_, List.getElem?_eq_getElem hlt2⟩
    rw [back_get δ δ2 i t u et eu] at e
    cases e
    have z := k.sl i t et
    have zz : ∀ p, t.held = true → σ[i]? = some (some (.ref p)) → ∃ c o, u = .arg c ∧ H2 p = some o ∧ F2 p = none ∧ CoOk G.K F2 c o := fun p th e1 => by
      have em := blk_M_of (G := G) (C' := C') (F := F) (H := H) et th e1
      obtain ⟨c, hc⟩ := k2.ma i p em
      rw [eu] at hc
      cases hc
      obtain ⟨q, o, a1, a2, a3, a4, a5⟩ := k2.sl i _ eu
      rw [em] at a5
      cases a5
      exact ⟨c, o, rfl, a2, a3, by rw [← show (G.blk C' δ σ F H).K = G.K from hK]; exact a4⟩
    cases t with
    | no => trivial
    | fz d =>
      obtain ⟨v, a, b⟩ := z
      exact ⟨v, a, dp_mono k2.f0 _ _ b⟩
    | own c =>
      obtain ⟨p, o, a1, a2, a3, a4, a5, a6⟩ := z
      obtain ⟨c', o', rfl, b1, b2, b3⟩ := zz p rfl a1
      exact ⟨p, o', a1, b1, b2, b3, a5, a6⟩
    | arg c =>
      obtain ⟨p, o, a1, a2, a3, a4, a5⟩ := z
      obtain ⟨c', o', rfl, b1, b2, b3⟩ := zz p rfl a1
      exact ⟨p, o', a1, b1, b2, b3, a5⟩
  di := fun i j s t p hij e1 e2 q1 q2 r1 r2 => by
    have get : ∀ (m : Nat) (u : Sl), (back δ δ2)[m]? = some u → u.held = true → ∃ u', δ[m]? = some u' ∧ u'.held = true := fun m u e q => by
      have hlt : m < δ.length := by
        have := (List.getElem?_eq_some_iff.mp e).1
        rw [back_len] at this
        exact this
      have hlt2 : m < δ2.length := by rw [k2.len, hl, ← k.len]; exact hlt
      obtain ⟨t, et⟩ : ∃ t, δ[m]? = some t := ⟨_, List.getElem?_eq_getElem hlt⟩
      obtain ⟨u', eu⟩ : ∃ u, δ2[m]? = some u := ⟨_, List.getElem?_eq_getElem hlt2⟩
      rw [back_get δ δ2 m t u' et eu] at e
      cases e
      refine ⟨t, et, ?_⟩
      cases t with
      | own c => rfl
      | arg c => rfl
      | no => cases u' <;> exact q
      | fz d => cases u' <;> exact q
    obtain ⟨u1, a1, b1⟩ := get i s e1 q1
    obtain ⟨u2, a2, b2⟩ := get j t e2 q2
    exact k.di i j u1 u2 p hij a1 a2 b1 b2 r1 r2
  ma := fun i p e => by
    obtain ⟨c, hc⟩ := k.ma i p e
    obtain ⟨q, o, a1, a2, a3, a4, a5⟩ := k.sl i _ hc
    have em := blk_M_of (G := G) (C' := C') (F := F) (H := H) hc rfl a1
    obtain ⟨c2, hc2⟩ := k2.ma i q em
    exact ⟨c2, by rw [back_get δ δ2 i _ _ hc hc2]; rfl⟩
/-- what is new and of no slot stays through a block -/
theorem blk_val (k : St1 G δ σ F H) (k2 : St1 (G.blk C' δ σ F H) δ2 σ2 F2 H2) (hl : σ2.length = σ.length) {v : V} {c : Co} (w : VlOk G δ σ F H v (.own c)) : VlOk G (back δ δ2) σ F2 H2 v (.own c) := by
  obtain ⟨p, o, rfl, h1, h2, h3, h4, h5⟩ := w
  refine ⟨p, o, rfl, k2.h0 p o (fun i hi => ?_) h1, ?_, h3.mono k2.f0, h4, fun i s e q => ?_⟩
  · obtain ⟨s, a1, a2, a3⟩ := blk_M hi
    exact h5 i s a1 a2 a3
  · cases e : F2 p with
    | none => rfl
    | some u =>
      rcases k2.fn p (by rw [e]; simp) with z | z
      · exact absurd h2 z
      · have z : H p = none := z
        rw [h1] at z
        cases z
  · have hlt : i < δ.length := by
      have := (List.getElem?_eq_some_iff.mp e).1
      rw [back_len] at this
      exact this
    have hlt2 : i < δ2.length := by rw [k2.len, hl, ← k.len]; exact hlt
    obtain ⟨t, et⟩ : ∃ t, δ[i]? = some t := ⟨_, List.getElem?_eq_getElem hlt⟩
    obtain ⟨u', eu⟩ : ∃ u, δ2[i]? = some u := ⟨_, List.getElem?_eq_getElem hlt2⟩
    rw [back_get δ δ2 i t u' et eu] at e
    cases e
    refine h5 i t et ?_
    cases t with
    | own c => rfl
    | arg c => rfl
    | no => cases u' <;> exact q
    | fz d => cases u' <;> exact q
/-- a new object that is of no slot is changed -/
theorem St1.updTemp (k : St1 G δ σ F H) {p : Addr} {o' : HO} {c : Co} (w : VlOk G δ σ F H (.ref p) (.own c)) : St1 G δ σ F (upd H p o') := by
  obtain ⟨q, o1, e, h1, h2, h3, h4, h5⟩ := w
  cases e
  exact {
    len := k.len
    fh := fun b u e => by
      rw [upd_ne (fun z => by subst z; rw [h2] at e; cases e)]
      exact k.fh _ _ e
    f0 := k.f0
    h0 := fun b u hm e => by
      rw [upd_ne (fun z => by subst z; rw [h4] at e; cases e)]
      exact k.h0 b u hm e
    fn := k.fn
    sl := fun i s e => (k.sl i s e).mono (Same.refl F) fun b u g1 g2 g3 g4 => ⟨by
      rw [upd_ne (fun z => by subst z; exact h5 i s e g3 g4)]
      exact g2, g1⟩
    di := k.di
    ma := k.ma }
end
end DL

set_option Elab.async false
set_option linter.all false
set_option maxRecDepth 100000
set_option autoImplicit false
namespace DL
open PySem PySem.Spec PyProof.Rows L2

/-! ### comprehensions -/
def nox (C : Cf) : Cf := ⟨C.K, fun _ _ _ _ => False⟩
def onTurn (vs : List Nat) (g : Dg) (tt : Dt) (te : De) (d : D) (δb : DS) : R (Option D) := match g d δb with
  | .ok .nx δ2 => (tt δ2).bind fun b δ3 => match b with
    | true => (te δ3).bind fun x δ4 => (kp x δ4).bind fun d δ5 => .ok (some d) δ5
    | false => .ok none δ3
  | _ => .bad
def backR {α : Type} (δ : DS) (r : R α) : R α := match r with
  | .ok o δ' => .ok o (back δ δ')
  | _ => .bad
def turnL (vs : List Nat) (g : Dg) (tt : Dt) (te : De) (d : D) (δ : DS) : R (Option D) := backR δ (onTurn vs g tt te d (wipeD (δ.map toArg) vs))
def compL (f : D → DS → R (Option D)) : List D → DS → R (List D)
  | [], δ => .ok [] δ
  | d :: ds, δ => match f d δ with
    | .ok o δ1 => match compL f ds δ1 with
      | .ok l δ2 => .ok (o.toList ++ l) δ2
      | _ => .bad
    | _ => .bad
def dLc (vs : List Nat) (ti : Di) (g : Dg) (tt : Dt) (te : De) : De := fun δ => (ti δ).bind fun ds δ1 => okIf (small ds.length && freeAt vs δ1) (match compL (turnL vs g tt te) ds δ1 with
  | .ok l δ2 => .ok (.own (.lst l)) δ2
  | _ => .bad)
def dYes : Dt := fun δ => .ok true δ
theorem compL_cons {f : D → DS → R (Option D)} {d : D} {ds l : List D} {δ δe : DS} (h : compL f (d :: ds) δ = .ok l δe) : ∃ o δ1 l', f d δ = .ok o δ1 ∧ compL f ds δ1 = .ok l' δe ∧ l = o.toList ++ l' := by
  unfold compL at h
  cases e : f d δ with
  | ok o δ1 =>
    rw [e] at h
    simp only at h
    cases e2 : compL f ds δ1 with
    | ok l' δ2 =>
      rw [e2] at h
      cases h
      exact ⟨o, δ1, l', rfl, e2, rfl⟩
    | ex c s => rw [e2] at h; cases h
    | bad => rw [e2] at h; cases h
  | ex c s => rw [e] at h; cases h
  | bad => rw [e] at h; cases h
theorem freeAt_back : ∀ {vs : List Nat} {δ δ' : DS}, freeAt vs δ = true → freeAt vs (back δ δ') = true := fun {vs δ δ'} h => by
  refine List.all_eq_true.mpr fun i hi => ?_
  have z := List.all_eq_true.mp h i hi
  cases e : (back δ δ')[i]? with
  | none => rfl
  | some s =>
    have hlt : i < δ.length := by
      have := (List.getElem?_eq_some_iff.mp e).1
      rw [back_len] at this
      exact this
    obtain ⟨t, et⟩ : ∃ t, δ[i]? = some t := ⟨_, List.getElem?_eq_getElem hlt⟩
    rw [et] at z
    have bk : ∀ (δ δ' : DS) (i : Nat) (s t : Sl), δ[i]? = some t → (back δ δ')[i]? = some s → t.held = false → s.held = false := by
      intro δ
      induction δ with
      | nil => intro δ' i s t h; simp at h
      | cons u δ ih =>
        intro δ' i s t h h' hh
        cases δ' with
        | nil => cases i with
          | zero => simp at h; subst h; simp [back] at h'; subst h'; exact hh
          | succ i => exact ih [] i s t (by simpa using h) (by simpa [back] using h') hh
        | cons u' δ' => cases i with
          | zero =>
            simp at h
            subst h
            simp [back] at h'
            subst h'
            cases u with
            | own c => cases hh
            | arg c => cases hh
            | no => cases u' <;> rfl
            | fz d => cases u' <;> rfl
          | succ i => exact ih δ' i s t (by simpa using h) (by simpa [back] using h') hh
    have th : t.held = false := by simpa using z
    have sh := bk δ δ' i s t et e th
    show (!s.held) = true
    rw [sh]
    rfl
section
variable {X : Cx} {C : Cf} {e a b c : Expr} {ta tb tc : De} {pos : Pos}
theorem upT_yes : ∀ σ H Q, upT C dYes σ H Q → tYes σ H Q := fun σ H Q ⟨G, δ, F, hC, k, h⟩ => h true F H k (Same.refl F) rfl
theorem pts_weak {ifs : List Expr} {t t' : TT} (h : PTs X ifs t) (w : ∀ σ H Q, t' σ H Q → t σ H Q) : PTs X ifs t' := ⟨fun pins s σ H Q I q => h.run pins s σ H Q I (w σ H Q q)⟩
theorem ptsd_nil : PTs X [] (upT C dYes) := pts_weak pts_nil upT_yes
theorem ptsd_one {t : Dt} (h : PT X c (upT C t)) : PTs X [c] (upT C t) := pts_one h
/-- one turn of a comprehension, as the rule asks for it -/
theorem lc_turn {G : Ct} {δ : DS} {σ : L2.St} {F H : Hp} {vs ts : List Nat} {g : Dg} {tt : Dt} {te : De} {d : D} {o : Option D} {δ1 : DS} {x : V} {p : Addr} {acc : List D} {Nx : Hp → Prop} (k : St1 G δ σ F H) (w : Dp G.K F x d) (hts : ∀ t ∈ ts, t ∈ vs) (hv : freeAt vs δ = true)
    (wa : VlOk G δ σ F H (.ref p) (.own (.lst acc))) (sz : small acc.length = true) (e : turnL vs g tt te d δ = .ok o δ1)
    (q : ∀ F' H', St1 G δ1 σ F' H' → Same F F' → VlOk G δ1 σ F' H' (.ref p) (.own (.lst (acc ++ o.toList))) → Nx H') :
    upG (nox G.C) ts g x (wipe σ vs) H fun σ2 H2 => wipe σ2 vs = wipe σ vs ∧ upT (nox G.C) tt σ2 H2 fun b H3 => if b = true then up (nox G.C) te σ2 H3 fun y H4 => ∃ acc, H4 p = some (.lst acc) ∧ acc.length < sizeLine ∧ Nx (upd H4 p (.lst (acc ++ [y]))) else Nx H3 := by
  have kb := blk_in (C' := nox G.C) (vs := vs) k rfl hv
  unfold turnL onTurn at e
  refine ⟨G.blk (nox G.C) δ σ F H, _, F, d, rfl, kb, w, ?_⟩
  cases e1 : g d (wipeD (δ.map toArg) vs) with
  | ok og δ2 =>
    rw [e1] at e
    cases og with
    | nx =>
      intro σ2 F2 H2 k2 g2 a2
      have wl : σ2.length = (wipe σ vs).length := a2.2
      refine ⟨?_, ?_⟩
      · have z : wipe σ2 vs = wipe (wipe σ vs) vs := wipe_eq (fun j hj => a2.1 j fun z => hj (hts j z)) wl
        rw [z]
        exact wipe_eq (fun j hj => wipe_out hj) (wipe_length σ vs)
      · rw [wipe_length] at wl
        simp only at e
        cases e2 : tt δ2 with
        | ok b δ3 =>
          rw [e2] at e
          refine ⟨G.blk (nox G.C) δ σ F H, δ2, F2, rfl, k2, ?_⟩
          rw [e2]
          intro b' F3 H3 k3 g3 w3
          have w3 : b' = b := w3
          subst w3
          cases b' with
          | false =>
            refine iteF ?_
            cases e
            have k4 := blk_out (C' := nox G.C) k rfl k3 wl
            refine q F3 H3 k4 (g2.trans g3) ?_
            have := blk_val k k3 wl wa
            simpa using this
          | true =>
            refine iteT ?_
            have e : backR δ ((te δ3).bind fun x δ4 => (kp x δ4).bind fun d δ5 => R.ok (some d) δ5) = .ok o δ1 := e
            cases e3 : te δ3 with
            | ok x4 δ4 =>
              rw [e3] at e
              refine ⟨G.blk (nox G.C) δ σ F H, δ3, F3, rfl, k3, ?_⟩
              rw [e3]
              intro y F4 H4 k4 g4 w4
              have e : backR δ ((kp x4 δ4).bind fun d δ5 => R.ok (some d) δ5) = .ok o δ1 := e
              cases e4 : kp x4 δ4 with
              | ok d5 δ5 =>
                rw [e4] at e
                cases e
                obtain ⟨F5, k5, g5, w5⟩ := k4.keepV w4 e4
                have k6 := blk_out (C' := nox G.C) k rfl k5 wl
                have w6 := blk_val k k5 wl wa
                obtain ⟨p', o6, q1, q2, q3, ⟨vs6, rfl, q4⟩, q5⟩ := id w6
                cases q1
                refine ⟨vs6, q2, by rw [dpa_len q4]; exact small_lt sz, q F5 _ (k6.updTemp w6) (((g2.trans g3).trans g4).trans g5) ⟨p, _, rfl, upd_same, q3, ⟨_, rfl, dpa_app q4 (.cons w5 .nil)⟩, q5.1, q5.2⟩⟩
              | ex cc s => rw [e4] at e; cases e
              | bad => rw [e4] at e; cases e
            | ex cc s => rw [e3] at e; cases e
            | bad => rw [e3] at e; cases e
        | ex cc s => rw [e2] at e; cases e
        | bad => rw [e2] at e; cases e
    | bk => cases e
    | ct => cases e
    | rt v => cases e
  | ex cc s => rw [e1] at e; cases e
  | bad => rw [e1] at e; cases e
theorem VlOk.grow {G : Ct} {δ : DS} {σ : L2.St} {F H F' H' : Hp} {p : Addr} {c : Co} (w : VlOk G δ σ F H (.ref p) (.own c)) (f1 : Same F F') (f3 : Same H H') (f4 : ∀ b, F' b ≠ none → F b ≠ none ∨ H b = none) : VlOk G δ σ F' H' (.ref p) (.own c) := by
  obtain ⟨q, o, e, h1, h2, h3, h4, h5⟩ := w
  cases e
  refine ⟨p, o, rfl, f3 _ _ h1, ?_, h3.mono f1, h4, h5⟩
  cases e : F' p with
  | none => rfl
  | some u =>
    rcases f4 p (by rw [e]; simp) with z | z
    · exact absurd h2 z
    · rw [h1] at z; cases z
theorem rf_lc {vs ts : List Nat} {ti : Di} {g : Dg} {tt : Dt} {te : De} (hts : ∀ t ∈ ts, t ∈ vs) : ∀ σ H Q, up C (dLc vs ti g tt te) σ H Q → tLc (upI C ti) (upG (nox C) ts g) (upT (nox C) tt) (up (nox C) te) vs σ H Q := fun σ H Q ⟨G, δ, F, hC, k, h⟩ => by
  subst hC
  refine ⟨G, δ, F, rfl, k, finA_bind h fun ds δ1 J F1 H1 k1 g1 w1 h1 => ?_⟩
  have w1 : ItOk G.K J F1 ds := w1
  obtain ⟨z, h2⟩ := okIf_fin h1
  rw [Bool.and_eq_true] at z
  obtain ⟨z1, z2⟩ := z
  cases ec : compL (turnL vs g tt te) ds δ1 with
  | ex c s => rw [ec] at h2; exact h2.elim
  | bad => rw [ec] at h2; exact h2.elim
  | ok L δe =>
    rw [ec] at h2
    intro p hp
    have z1' : ds.length ≤ 100000 := of_decide_eq_true z1
    refine ⟨fun i m H => m = ds.length - i ∧ i ≤ ds.length ∧ ∃ δ F acc l, St1 G δ σ F H ∧ Same F1 F ∧ freeAt vs δ = true ∧ VlOk G δ σ F H (.ref p) (.own (.lst acc)) ∧ compL (turnL vs g tt te) (ds.drop i) δ = .ok l δe ∧ acc.length ≤ i ∧ acc ++ l = L,
      ⟨ds.length, by simp, Nat.zero_le _, δ1, F1, [], L, k1.newOwn hp, Same.refl F1, z2, k1.valOwn hp ⟨[], rfl, .nil⟩, ec, Nat.le_refl _, rfl⟩, ?_⟩
    rintro i m H2 ⟨rfl, hi, δ2, F2, acc, l, k2, g2, hv, wa, e2, hacc, rfl⟩
    obtain ⟨wgo, wst⟩ := w1 F2 H2 g2 k2.fh i
    by_cases hlt : i < ds.length
    · right
      obtain ⟨go, yl⟩ := wgo ds[i] (List.getElem?_eq_getElem hlt)
      rw [List.drop_eq_getElem_cons hlt] at e2
      obtain ⟨o, δ3, l', e3, e4, rfl⟩ := compL_cons e2
      refine ⟨go, fun H' => ∃ F', St1 G δ3 σ F' H' ∧ Same F1 F' ∧ VlOk G δ3 σ F' H' (.ref p) (.own (.lst (acc ++ o.toList))), fun H' ⟨F', q1, q2, q3⟩ => ⟨ds.length - (i + 1), by omega, rfl, hlt, δ3, F', acc ++ o.toList, l', q1, q2, ?_, q3, e4, ?_, by rw [List.append_assoc]⟩, fun x H3 y => ?_⟩
      · unfold turnL backR at e3
        split at e3
        · cases e3
          exact freeAt_back hv
        · cases e3
      · rw [List.length_append]
        have : o.toList.length ≤ 1 := by cases o <;> simp
        omega
      · obtain ⟨F3, f1, f2, f3, f4, w3⟩ := yl x H3 y
        have k3 := grow_it k2 f1 f2 f3 f4
        exact lc_turn k3 w3 hts hv (wa.grow f1 f3 f4) (decide_eq_true (by omega)) e3 fun F' H' q1 q2 q3 => ⟨F', q1, (g2.trans f1).trans q2, q3⟩
    · left
      have e : i = ds.length := by omega
      subst e
      refine ⟨wst rfl, ?_⟩
      rw [List.drop_length] at e2
      cases e2
      rw [List.append_nil] at h2
      exact h2 (.ref p) F2 H2 k2 g2 wa
theorem pd_lc {elt tg iter : Expr} {ifs : List Expr} {scope : Scope} {own : List (Str × Nat)} {ts : List Nat} {ti : Di} {g : Dg} {tt : Dt} {te : De} (hi : PI X tg iter (upI C ti)) (hN : X.N.Nodup) (ok : BlkOk X.N X.env.scope scope own)
    (hg : ∀ (s : Shared) (H : Hp) (Ca : Addr) (cl : List (Str × Addr)) (fp : List Addr), PG (X.blk s H scope (compEnvC scope cl Ca X.env) fp) tg (upG (nox C) ts g)) (ht : ∀ (s : Shared) (H : Hp) (Ca : Addr) (cl : List (Str × Addr)) (fp : List Addr), PTs (X.blk s H scope (compEnvC scope cl Ca X.env) fp) ifs (upT (nox C) tt))
    (he : ∀ (s : Shared) (H : Hp) (Ca : Addr) (cl : List (Str × Addr)) (fp : List Addr), PE (X.blk s H scope (compEnvC scope cl Ca X.env) fp) elt (up (nox C) te)) (hts : ∀ t ∈ ts, t ∈ own.map (·.2) := by decide) (hc : X.calm = true := by rfl) (hs : ∀ x, foldedSetIterable iter X.env x = pure x := by intro _; rfl) :
    PE X (.ListComp elt [⟨tg, iter, ifs, 0⟩] scope pos) (up C (dLc (own.map (·.2)) ti g tt te)) := pe_weak (pe_lc hc hN hi ok hg ht he hs) (rf_lc hts)
theorem pds_setLc (i : Nat) {y : Str} {py spos : Pos} {elt tg iter : Expr} {ifs : List Expr} {scope : Scope} {own : List (Str × Nat)} {ts : List Nat} {ti : Di} {g : Dg} {tt : Dt} {te : De} (hi : PI X tg iter (upI C ti)) (hN : X.N.Nodup) (ok : BlkOk X.N X.env.scope scope own)
    (hg : ∀ (s : Shared) (H : Hp) (Ca : Addr) (cl : List (Str × Addr)) (fp : List Addr), PG (X.blk s H scope (compEnvC scope cl Ca X.env) fp) tg (upG (nox C) ts g)) (ht : ∀ (s : Shared) (H : Hp) (Ca : Addr) (cl : List (Str × Addr)) (fp : List Addr), PTs (X.blk s H scope (compEnvC scope cl Ca X.env) fp) ifs (upT (nox C) tt))
    (he : ∀ (s : Shared) (H : Hp) (Ca : Addr) (cl : List (Str × Addr)) (fp : List Addr), PE (X.blk s H scope (compEnvC scope cl Ca X.env) fp) elt (up (nox C) te)) (hsw : swapsWith (.ListComp elt [⟨tg, iter, ifs, 0⟩] scope pos) (some (.Name y py)) spos.line X.env = pure true) (hy : X.N[i]? = some y := by rfl) (hyl : X.env.scope.names.lookup y = some .local := by rfl)
    (hts : ∀ t ∈ ts, t ∈ own.map (·.2) := by decide) (hc : X.calm = true := by rfl) (hs : ∀ x, foldedSetIterable iter X.env x = pure x := by intro _; rfl) :
    PS X (.Assign [.Name y py] (.ListComp elt [⟨tg, iter, ifs, 0⟩] scope pos) spos) (ups C (dAsg i (dLc (own.map (·.2)) ti g tt te))) := ps_weak (ps_setLc hc hN hy hyl hsw hi ok hg ht he hs) (rf_asg (rf_lc hts))
end
end DL

set_option Elab.async false
set_option linter.all false
set_option maxRecDepth 100000
set_option autoImplicit false
namespace DL
open PySem PySem.Spec PyProof.Rows L2

/-! ### arguments: by value, or the slot itself -/
inductive Am where
  | fz (d : D) | ref (i : Nat)
def AmOk (G : Ct) (σ : L2.St) (F : Hp) (v : V) : Am → Prop
  | .fz d => Dp G.K F v d
  | .ref i => σ[i]? = some (some v)
abbrev Da := DS → R (List Am)
def WA (G : Ct) (σ : L2.St) : DS → Hp → Hp → List V → List Am → Prop := fun _ F _ vs as => Paired (fun v a => AmOk G σ F v a) vs as
def upA (C : Cf) (ta : Da) : TA := fun σ H Q => ∃ G δ F, G.C = C ∧ St1 G δ σ F H ∧ finA G (WA G σ) (ta δ) σ F Q
theorem AmOk.mono {G : Ct} {σ : L2.St} {F F' : Hp} {v : V} {a : Am} (h : AmOk G σ F v a) (f : Same F F') : AmOk G σ F' v a := by
  cases a with
  | fz d => exact dp_mono f _ _ h
  | ref i => exact h
def aNil : Da := fun δ => .ok [] δ
def aVal (a : De) (l : Da) : Da := fun δ => (a δ).bind fun x δ1 => (kp x δ1).bind fun d δ2 => (l δ2).bind fun ds δ3 => .ok (.fz d :: ds) δ3
def known (i : Nat) (δ : DS) : Bool := match δ[i]? with
  | some .no => false
  | some _ => true
  | none => false
def aRef (i : Nat) (l : Da) : Da := fun δ => okIf (known i δ) ((l δ).bind fun ds δ3 => .ok (.ref i :: ds) δ3)
theorem known_some {G : Ct} {δ : DS} {σ : L2.St} {F H : Hp} {i : Nat} (k : St1 G δ σ F H) (h : known i δ = true) : ∃ v, σ[i]? = some (some v) := by
  unfold known at h
  cases e : δ[i]? with
  | none => rw [e] at h; cases h
  | some s =>
    rw [e] at h
    have z := k.sl i s e
    cases s with
    | no => cases h
    | fz d => obtain ⟨v, e, _⟩ := z; exact ⟨v, e⟩
    | own c => obtain ⟨p, o, e, _⟩ := z; exact ⟨_, e⟩
    | arg c => obtain ⟨p, o, e, _⟩ := z; exact ⟨_, e⟩
section
variable {X : Cx} {C : Cf} {e a b c : Expr} {ta tb tc : De} {pos : Pos}
theorem paa_nil : PA X [] (upA C aNil) := pa_weak pa_nil fun σ H Q ⟨G, δ, F, hC, k, h⟩ => h [] F H k (Same.refl F) .nil
theorem paa_val {es : List Expr} {tl : Da} (ha : PE X e (up C ta)) (hr : PA X es (upA C tl)) (hs : starEach (e :: es) X.env = (false, eval e X.env) :: starEach es X.env := by rfl) : PA X (e :: es) (upA C (aVal ta tl)) :=
  pa_weak (pa_cons ha hr hs) fun σ H Q ⟨G, δ, F, hC, k, h⟩ => by
    subst hC
    refine ⟨G, δ, F, rfl, k, finA_bind h fun x δ1 v F1 H1 k1 g1 w1 h1 => ?_⟩
    obtain ⟨d, δ2, F2, k2, g2, w2, h2⟩ := kp_bind k1 h1 w1
    refine ⟨G, δ2, F2, rfl, k2, finA_bind h2 fun ds δ3 vs F3 H3 k3 g3 w3 h3 => ?_⟩
    exact h3 (v :: vs) F3 H3 k3 (Same.refl F3) (.cons (dp_mono g3 _ _ w2) w3)
theorem paa_ref (i : Nat) {x : Str} {p1 : Pos} {es : List Expr} {tl : Da} (hr : PA X es (upA C tl)) (hN : X.N[i]? = some x := by rfl) (hv : Vis X.env.scope x := by first | exact Or.inl rfl | exact Or.inr (Or.inl rfl) | exact Or.inr (Or.inr rfl)) (hs : starEach (.Name x p1 :: es) X.env = (false, eval (.Name x p1) X.env) :: starEach es X.env := by rfl) (hd : (x == ("__debug__" : Str)) = false := by decide)
    (hcd : (x == ("__classdict__" : Str)) = false := by decide) : PA X (.Name x p1 :: es) (upA C (aRef i tl)) :=
  pa_weak (pa_cons (pe_var hN hv hd hcd) hr hs) fun σ H Q ⟨G, δ, F, hC, k, h⟩ => by
    subst hC
    obtain ⟨z, h⟩ := okIf_fin h
    obtain ⟨v, e⟩ := known_some k z
    refine ⟨v, e, G, δ, F, rfl, k, finA_bind h fun ds δ3 vs F3 H3 k3 g3 w3 h3 => ?_⟩
    exact h3 (v :: vs) F3 H3 k3 (Same.refl F3) (.cons e w3)
end
/-! ### a def's promise on data -/
def AOk (K : PySem.W.Frag) (F H : Hp) (v : V) : Sl → Prop
  | .fz d => Dp K F v d
  | .arg c => ∃ p o, v = .ref p ∧ H p = some o ∧ F p = none ∧ CoOk K F c o
  | _ => False
structure ArgsOk (K : PySem.W.Frag) (F H : Hp) (vs : List V) (as : List Sl) : Prop where
  len : vs.length = as.length
  here : ∀ (i : Nat) (s : Sl), as[i]? = some s → ∃ v, vs[i]? = some v ∧ AOk K F H v s
  di : ∀ (i j : Nat) (c d : Co) (p : Addr), i ≠ j → as[i]? = some (.arg c) → as[j]? = some (.arg d) → vs[i]? = some (.ref p) → vs[j]? = some (.ref p) → False
structure PostOk (K : PySem.W.Frag) (F H : Hp) (vs : List V) (as : List Sl) (δ' : DS) (F' H' : Hp) : Prop where
  ff : Same F F'
  fh : Same F' H'
  hh : ∀ (b : Addr) (o : HO), (∀ (i : Nat) (c : Co), as[i]? = some (.arg c) → vs[i]? ≠ some (.ref b)) → H b = some o → H' b = some o
  fn : ∀ b, F' b ≠ none → F b ≠ none ∨ H b = none
  ar : ∀ (i : Nat) (c : Co) (p : Addr), as[i]? = some (.arg c) → vs[i]? = some (.ref p) → ∃ c' o', δ'[i]? = some (.arg c') ∧ H' p = some o' ∧ F' p = none ∧ CoOk K F' c' o'
def RetOk (K : PySem.W.Frag) (F' H' H : Hp) (v : V) : Vl → Prop
  | .fz d => Dp K F' v d
  | .own c => ∃ p o, v = .ref p ∧ H p = none ∧ H' p = some o ∧ F' p = none ∧ CoOk K F' c o
  | .loc _ => False
def dspM (K : PySem.W.Frag) (F : Hp) (as : List Sl) (vs : List V) (H : Hp) (Q : VK) (E : XK) : R Vl → Prop
  | .ok r δ' => ∀ v F' H', PostOk K F H vs as δ' F' H' → RetOk K F' H' H v r → Q v H'
  | .ex c δ' => ∀ F' H', PostOk K F H vs as δ' F' H' → E c none H'
  | .bad => False
def dsp (K : PySem.W.Frag) (den : List Sl → R Vl) : Sp := fun vs H Q E => ∃ F as, Same F H ∧ ArgsOk K F H vs as ∧ dspM K F as vs H Q E (den as)

/-- which argument is a slot that holds an own object, at most one -/
def heldRef (δ : DS) : Am → Option Nat
  | .fz _ => none
  | .ref i => match δ[i]? with
    | some s => match s.held with
      | true => some i
      | false => none
    | none => none
def refOne (δ : DS) : List Am → Bool
  | [] => true
  | a :: as => match heldRef δ a with
    | some _ => as.all fun b => (heldRef δ b).isNone
    | none => refOne δ as
def refPos (δ : DS) : List Am → Option (Nat × Nat)
  | [] => none
  | a :: as => match heldRef δ a with
    | some i => some (0, i)
    | none => (refPos δ as).map fun q => (q.1 + 1, q.2)
def amSl (δ : DS) : Am → Sl
  | .fz d => .fz d
  | .ref i => match δ[i]? with
    | some s => toArg s
    | none => .no
def amKnown (δ : DS) : Am → Bool
  | .fz _ => true
  | .ref i => known i δ
def putBack (δ : DS) (ams : List Am) (δ' : DS) : DS := match refPos δ ams with
  | none => δ
  | some (j, i) => match δ[i]?, δ'[j]? with
    | some s, some (.arg c) => δ.set i (s.with c)
    | _, _ => δ
theorem heldRef_some {δ : DS} {a : Am} {i : Nat} (h : heldRef δ a = some i) : a = .ref i ∧ ∃ s, δ[i]? = some s ∧ s.held = true := by
  cases a with
  | fz d => cases h
  | ref j =>
    unfold heldRef at h
    simp only at h
    cases e : δ[j]? with
    | none => rw [e] at h; cases h
    | some s =>
      rw [e] at h
      simp only at h
      cases es : s.held with
      | false => rw [es] at h; cases h
      | true => rw [es] at h; cases h; exact ⟨rfl, s, e, es⟩
theorem refPos_some {δ : DS} : ∀ {ams : List Am} {j i : Nat}, refPos δ ams = some (j, i) → ∃ a, ams[j]? = some a ∧ heldRef δ a = some i
  | [], _, _, h => by cases h
  | a :: as, j, i, h => by
    unfold refPos at h
    cases e : heldRef δ a with
    | some m => rw [e] at h; cases h; exact ⟨a, rfl, e⟩
    | none =>
      rw [e] at h
      simp only at h
      cases e2 : refPos δ as with
      | none => rw [e2] at h; cases h
      | some q =>
        rw [e2] at h
        cases h
        obtain ⟨b, h1, h2⟩ := refPos_some (j := q.1) (i := q.2) e2
        exact ⟨b, by simpa using h1, h2⟩
theorem refPos_none {δ : DS} : ∀ {ams : List Am}, refPos δ ams = none → ∀ (j : Nat) (a : Am), ams[j]? = some a → heldRef δ a = none
  | [], _, _, _, h => by simp at h
  | a :: as, h, j, b, hb => by
    unfold refPos at h
    cases e : heldRef δ a with
    | some m => rw [e] at h; cases h
    | none =>
      rw [e] at h
      simp only at h
      have e2 : refPos δ as = none := by simpa using h
      cases j with
      | zero => simp at hb; subst hb; exact e
      | succ j => exact refPos_none e2 j b (by simpa using hb)
theorem refOne_at {δ : DS} : ∀ {ams : List Am} {j j' i i' : Nat} {a a' : Am}, refOne δ ams = true → ams[j]? = some a → ams[j']? = some a' → heldRef δ a = some i → heldRef δ a' = some i' → j = j'
  | [], _, _, _, _, _, _, _, h, _, _, _ => by simp at h
  | b :: as, j, j', i, i', a, a', h, h1, h2, h3, h4 => by
    unfold refOne at h
    cases e : heldRef δ b with
    | some m =>
      rw [e] at h
      have h : (as.all fun b => (heldRef δ b).isNone) = true := h
      cases j with
      | zero => cases j' with
        | zero => rfl
        | succ j' =>
          have := List.all_eq_true.mp h a' (List.mem_of_getElem? (by simpa using h2))
          rw [h4] at this
          cases this
      | succ j =>
        have := List.all_eq_true.mp h a (List.mem_of_getElem? (by simpa using h1))
        rw [h3] at this
        cases this
    | none =>
      rw [e] at h
      have h : refOne δ as = true := h
      cases j with
      | zero => simp at h1; subst h1; rw [e] at h3; cases h3
      | succ j => cases j' with
        | zero => simp at h2; subst h2; rw [e] at h4; cases h4
        | succ j' => exact congrArg (· + 1) (refOne_at (j := j) (j' := j') h (by simpa using h1) (by simpa using h2) h3 h4)
theorem amSl_arg {δ : DS} {a : Am} {c : Co} (h : amSl δ a = .arg c) : ∃ i s, a = .ref i ∧ heldRef δ a = some i ∧ δ[i]? = some s ∧ s.co = some c ∧ s.held = true := by
  cases a with
  | fz d => cases h
  | ref i =>
    unfold amSl at h
    simp only at h
    cases e : δ[i]? with
    | none => rw [e] at h; cases h
    | some s =>
      rw [e] at h
      simp only at h
      cases s with
      | own c' => cases h; exact ⟨i, _, rfl, by unfold heldRef; simp only; rw [e]; rfl, e, rfl, rfl⟩
      | arg c' => cases h; exact ⟨i, _, rfl, by unfold heldRef; simp only; rw [e]; rfl, e, rfl, rfl⟩
      | _ => cases h
section
variable {G : Ct} {δ : DS} {σ : L2.St} {F H F' H' : Hp} {vs : List V} {ams : List Am} {δ' : DS}
theorem am_at : ∀ {vs : List V} {as : List Am} {j : Nat} {a : Am}, Paired (fun v a => AmOk G σ F v a) vs as → as[j]? = some a → ∃ v, vs[j]? = some v ∧ AmOk G σ F v a
  | _, _, _, _, .nil, e => by simp at e
  | _, _, 0, _, .cons r _, e => by simp at e; subst e; exact ⟨_, rfl, r⟩
  | _, _, j + 1, _, .cons _ t, e => by
    obtain ⟨v, p, q⟩ := am_at (j := j) t (by simpa using e)
    exact ⟨v, by simpa using p, q⟩
theorem args_of (k : St1 G δ σ F H) (w : Paired (fun v a => AmOk G σ F v a) vs ams) (h1 : refOne δ ams = true) (h2 : ams.all (amKnown δ) = true) : ArgsOk G.K F H vs (ams.map (amSl δ)) where
  len := by rw [List.length_map]; exact Paired.length w
  here := fun j s e => by
    rw [List.getElem?_map] at e
    cases ea : ams[j]? with
    | none => rw [ea] at e; cases e
    | some a =>
      rw [ea] at e
      have es : amSl δ a = s := Option.some.inj e
      have ka := List.all_eq_true.mp h2 a (List.mem_of_getElem? ea)
      obtain ⟨v, ev, wv⟩ := am_at w ea
      refine ⟨v, ev, ?_⟩
      cases a with
      | fz d => subst es; exact wv
      | ref i =>
        have wv : σ[i]? = some (some v) := wv
        have ka : known i δ = true := ka
        unfold amSl at es
        simp only at es
        cases e1 : δ[i]? with
        | none => unfold known at ka; rw [e1] at ka; cases ka
        | some t =>
          rw [e1] at es
          subst es
          have z := k.sl i t e1
          cases t with
          | no => unfold known at ka; rw [e1] at ka; cases ka
          | fz d => obtain ⟨u, q1, q2⟩ := z; rw [wv] at q1; cases q1; exact q2
          | own c => obtain ⟨p, o, q1, q2, q3, q4, _⟩ := z; rw [wv] at q1; cases q1; exact ⟨p, o, rfl, q2, q3, q4⟩
          | arg c => obtain ⟨p, o, q1, q2, q3, q4, _⟩ := z; rw [wv] at q1; cases q1; exact ⟨p, o, rfl, q2, q3, q4⟩
  di := fun i j c d p hij e1 e2 r1 r2 => by
    rw [List.getElem?_map] at e1 e2
    cases ea : ams[i]? with
    | none => rw [ea] at e1; cases e1
    | some a => cases eb : ams[j]? with
      | none => rw [eb] at e2; cases e2
      | some b =>
        rw [ea] at e1
        rw [eb] at e2
        obtain ⟨m, _, _, hm, _⟩ := amSl_arg (Option.some.inj e1)
        obtain ⟨m', _, _, hm', _⟩ := amSl_arg (Option.some.inj e2)
        exact hij (refOne_at h1 ea eb hm hm')
/-- the state behind a call -/
theorem after_call (k : St1 G δ σ F H) (w : Paired (fun v a => AmOk G σ F v a) vs ams) (h1 : refOne δ ams = true) (h2 : ams.all (amKnown δ) = true) (P : PostOk G.K F H vs (ams.map (amSl δ)) δ' F' H') : St1 G (putBack δ ams δ') σ F' H' := by
  -- an argument's address is a held slot's
  have isArg : ∀ (j : Nat) (c : Co) (b : Addr), (ams.map (amSl δ))[j]? = some (.arg c) → vs[j]? = some (.ref b) → ∃ i s, refPos δ ams = some (j, i) ∧ δ[i]? = some s ∧ s.held = true ∧ s.co = some c ∧ σ[i]? = some (some (.ref b)) := fun j c b e1 e2 => by
    rw [List.getElem?_map] at e1
    cases ea : ams[j]? with
    | none => rw [ea] at e1; cases e1
    | some a =>
      rw [ea] at e1
      obtain ⟨i, s, rfl, q1, q2, q3, q4⟩ := amSl_arg (Option.some.inj e1)
      obtain ⟨v, ev, wv⟩ := am_at w ea
      rw [e2] at ev
      cases ev
      refine ⟨i, s, ?_, q2, q4, q3, wv⟩
      cases er : refPos δ ams with
      | none => have := refPos_none er j _ ea; rw [q1] at this; cases this
      | some q =>
        obtain ⟨j', i'⟩ := q
        obtain ⟨a', r1, r2⟩ := refPos_some er
        have := refOne_at h1 ea r1 q1 r2
        subst this
        rw [ea] at r1
        cases r1
        rw [q1] at r2
        cases r2
        rfl
  have base : ∀ (b : Addr) (o : HO), (∀ i j, refPos δ ams = some (j, i) → σ[i]? ≠ some (some (.ref b))) → H b = some o → H' b = some o := fun b o hb e => P.hh b o (fun j c e1 e2 => by
    obtain ⟨i, s, r, _, _, _, r2⟩ := isArg j c b e1 e2
    exact hb i j r r2) e
  have free : ∀ (b : Addr) (o : HO), H b = some o → F b = none → F' b = none := fun b o e f => by
    cases q : F' b with
    | none => rfl
    | some u =>
      rcases P.fn b (by rw [q]; simp) with z | z
      · exact absurd f z
      · rw [e] at z; cases z
  have keep : ∀ (m : Nat) (s : Sl), δ[m]? = some s → (∀ j, refPos δ ams ≠ some (j, m)) → SlOk G F' H' m σ[m]? s := fun m s e hm => by
    refine (k.sl m s e).mono P.ff fun b o g1 g2 g3 g4 => ⟨base b o (fun i j hr q => ?_) g2, free b o g2 g1⟩
    obtain ⟨a, r1, r2⟩ := refPos_some hr
    obtain ⟨_, t, t1, t2⟩ := heldRef_some r2
    by_cases hi : i = m
    · subst hi; exact hm j hr
    · exact k.di i m t s b hi t1 e t2 g3 q g4
  have h0' : ∀ b o, (∀ i, G.M i ≠ some b) → G.H0 b = some o → H' b = some o := fun b o hm e => base b o (fun i j hr q => by
    obtain ⟨a, r1, r2⟩ := refPos_some hr
    obtain ⟨_, t, t1, t2⟩ := heldRef_some r2
    have z := k.sl i t t1
    cases t with
    | own c => obtain ⟨p, o', a1, _, _, _, _, a2⟩ := z; rw [q] at a1; cases a1; rw [a2] at e; cases e
    | arg c => obtain ⟨p, o', a1, _, _, _, a2⟩ := z; rw [q] at a1; cases a1; exact hm i a2
    | _ => cases t2) (k.h0 b o hm e)
  have fn' : ∀ b, F' b ≠ none → G.F0 b ≠ none ∨ G.H0 b = none := fun b z => by
    rcases P.fn b z with q | q
    · exact k.fn b q
    · exact .inr (k.new0 q)
  unfold putBack
  cases er : refPos δ ams with
  | none => exact ⟨k.len, P.fh, k.f0.trans P.ff, h0', fn', fun m s e => keep m s e (fun j z => by rw [er] at z; cases z), k.di, k.ma⟩
  | some q =>
    obtain ⟨j, i⟩ := q
    obtain ⟨a, r1, r2⟩ := refPos_some er
    obtain ⟨rfl, s, s1, s2⟩ := heldRef_some r2
    obtain ⟨v, ev, wv⟩ := am_at w r1
    have wv : σ[i]? = some (some v) := wv
    obtain ⟨c, hc⟩ : ∃ c, s.co = some c := by cases s <;> first | exact ⟨_, rfl⟩ | cases s2
    obtain ⟨p, o, p1, p2, p3, p4⟩ := k.held s1 hc
    rw [wv] at p1
    cases p1
    have eas : (ams.map (amSl δ))[j]? = some (.arg c) := by
      rw [List.getElem?_map, r1]
      show some (amSl δ (.ref i)) = _
      unfold amSl
      simp only
      rw [s1]
      cases s <;> first | (cases hc; rfl) | cases s2
    obtain ⟨c', o', a1, a2, a3, a4⟩ := P.ar j c p eas ev
    simp only
    rw [s1, a1]
    simp only
    have sh : (s.with c').held = true := by cases s <;> first | rfl | cases s2
    obtain ⟨l1, l2⟩ := k.lt s1
    refine ⟨by simpa using k.len, P.fh, k.f0.trans P.ff, h0', fn', fun m t e => ?_, fun m m' t t' b hm e e' q q' r r' => ?_, fun m b e => ?_⟩
    · by_cases hm : m = i
      · subst hm
        rw [List.getElem?_set_self l1] at e
        cases e
        have z := k.sl m s s1
        cases s with
        | own c0 =>
          obtain ⟨p', o0, b1, b2, b3, b4, b5, b6⟩ := z
          rw [wv] at b1
          cases b1
          exact ⟨p, o', wv, a2, a3, a4, b5, b6⟩
        | arg c0 =>
          obtain ⟨p', o0, b1, b2, b3, b4, b5⟩ := z
          rw [wv] at b1
          cases b1
          exact ⟨p, o', wv, a2, a3, a4, b5⟩
        | _ => cases s2
      · rw [List.getElem?_set_ne (Ne.symm hm)] at e
        exact keep m t e fun j' z => by rw [er] at z; cases z; exact hm rfl
    · have bk : ∀ (m : Nat) (u : Sl), (δ.set i (s.with c'))[m]? = some u → u.held = true → ∃ u', δ[m]? = some u' ∧ u'.held = true := fun m u z zh => by
        by_cases hm : m = i
        · subst hm; exact ⟨s, s1, s2⟩
        · rw [List.getElem?_set_ne (Ne.symm hm)] at z; exact ⟨u, z, zh⟩
      obtain ⟨u, x1, x2⟩ := bk m t e q
      obtain ⟨u', y1, y2⟩ := bk m' t' e' q'
      exact k.di m m' u u' b hm x1 y1 x2 y2 r r'
    · obtain ⟨c0, hc0⟩ := k.ma m b e
      by_cases hm : m = i
      · subst hm
        rw [s1] at hc0
        cases hc0
        exact ⟨c', List.getElem?_set_self l1⟩
      · rw [List.getElem?_set_ne (Ne.symm hm)]
        exact ⟨c0, hc0⟩
theorem putBack_held {i : Nat} {s : Sl} (h : (putBack δ ams δ')[i]? = some s) (hs : s.held = true) : ∃ t, δ[i]? = some t ∧ t.held = true := by
  unfold putBack at h
  cases er : refPos δ ams with
  | none => rw [er] at h; exact ⟨s, h, hs⟩
  | some q =>
    obtain ⟨j, m⟩ := q
    obtain ⟨a, r1, r2⟩ := refPos_some er
    obtain ⟨rfl, t, s1, s2⟩ := heldRef_some r2
    rw [er] at h
    simp only at h
    rw [s1] at h
    by_cases hm : i = m
    · subst hm; exact ⟨t, s1, s2⟩
    · split at h
      · rw [List.getElem?_set_ne (Ne.symm hm)] at h; exact ⟨s, h, hs⟩
      · exact ⟨s, h, hs⟩
theorem ret_val (k : St1 G δ σ F H) {v : V} {r : Vl} (w : RetOk G.K F' H' H v r) : VlOk G (putBack δ ams δ') σ F' H' v r := by
  cases r with
  | fz d => exact w
  | loc i => exact w.elim
  | own c =>
    obtain ⟨p, o, rfl, h1, h2, h3, h4⟩ := w
    refine ⟨p, o, rfl, h2, h3, h4, k.new0 h1, fun i s e q => ?_⟩
    obtain ⟨t, t1, t2⟩ := putBack_held e q
    exact k.free h1 i t t1 t2
end
/-- a call: an error of it is no one's here -/
def callM (den : List Sl → R Vl) (δ : DS) (ams : List Am) : R Vl := match den (ams.map (amSl δ)) with
  | .ok r δ' => .ok r (putBack δ ams δ')
  | .ex c δ' => .ex c (putBack δ ams δ')
  | .bad => .bad
def dCall (den : List Sl → R Vl) (args : Da) : De := fun δ => (args δ).bind fun ams δ1 => okIf (refOne δ1 ams && ams.all (amKnown δ1)) (callM den δ1 ams)
section
variable {X : Cx} {C : Cf} {e a b c : Expr} {ta tb tc : De} {pos : Pos} {CX : CXT} {k : Nat} {f : Addr} {fd : FuncData} {ps : List Str} {x : Str}
theorem rf_call {den : List Sl → R Vl} {al : Da} {E : XK} (hE : ∀ (σ : L2.St) (c : Value) (H : Hp), C.E σ c none H → E c none H) : ∀ σ H Q, up C (dCall den al) σ H Q → tCall (dsp C.K den) [] E (upA C al) σ H Q := fun σ H Q ⟨G, δ, F, hC, k, h⟩ => by
  subst hC
  refine ⟨G, δ, F, rfl, k, finA_bind h fun ams δ1 vs F1 H1 k1 g1 w1 h1 => ?_⟩
  have w1 : Paired (fun v a => AmOk G σ F1 v a) vs ams := w1
  obtain ⟨z, h2⟩ := okIf_fin h1
  rw [Bool.and_eq_true] at z
  rw [List.append_nil]
  refine ⟨F1, ams.map (amSl δ1), k1.fh, args_of k1 w1 z.1 z.2, ?_⟩
  unfold callM at h2
  cases ed : den (ams.map (amSl δ1)) with
  | ok r δ' =>
    rw [ed] at h2
    exact fun v F' H' P w => h2 v F' H' (after_call k1 w1 z.1 z.2 P) P.ff (ret_val k1 w)
  | ex c δ' =>
    rw [ed] at h2
    exact fun F' H' P => hE σ c H' (h2 F' H' (after_call k1 w1 z.1 z.2 P) P.ff)
  | bad => rw [ed] at h2; exact h2.elim
/-- a call of a def that raises nothing -/
theorem pd_call {es : List Expr} {p : Pos} {den : List Sl → R Vl} {al : Da} (Fn : FnOk X.prog X.w X.K X.mg X.base CX0 k f fd ps (dsp C.K den)) (hr : Room k X.A) (hm : X.mg x = some (.ref f)) (hk : PySem.W.keepIn X.K (.ref f) = true) (hb : Binds X.K fd ps [])
    (ha : PA X (e :: es) (upA C al)) (hE : ∀ (σ : L2.St) (c : Value) (H : Hp), C.E σ c none H → False := by exact fun _ _ _ h => h) (hg : Gl X x := by rfl) (hdb : (x == ("__debug__" : Str)) = false := by decide) (he : starEach (e :: es) X.env = (false, eval e X.env) :: starEach es X.env := by rfl) (hpl : (backTo pos (starEach es X.env)).any (·.1) = false := by rfl) :
    PE X (.Call (.Name x p) (e :: es) [] pos) (up C (dCall den al)) := pe_weak (pe_call Fn hr hg hm hk hb .nil (pass0) ha hdb he hpl) (rf_call fun σ c H h => hE σ c H h)
end

/-! ### a def by its body -/
def retV (v : Vl) (δ : DS) : R Vl := match v with
  | .fz d => .ok (.fz d) δ
  | .own c => .ok (.own c) δ
  | .loc i => match δ[i]? with
    | some (.own c) => .ok (.own c) δ
    | some (.fz d) => .ok (.fz d) δ
    | _ => .bad
def endOf (r : R Out) : R Vl := match r with
  | .ok .nx δ => .ok (.fz .none) δ
  | .ok (.rt v) δ => retV v δ
  | .ex c δ => .ex c δ
  | _ => .bad
def isIn : Sl → Bool
  | .fz _ => true
  | .arg _ => true
  | _ => false
def runDef (np n : Nat) (sd : Ds) (as : List Sl) : R Vl := match as.length == np && as.all isIn with
  | true => endOf (sd (as ++ List.replicate (n - np) .no))
  | false => .bad
def argM (as : List Sl) (vs : List V) (i : Nat) : Option Addr := match as[i]?, vs[i]? with
  | some (.arg _), some (.ref p) => some p
  | _, _ => none
section
variable {K : PySem.W.Frag} {F H : Hp} {vs : List V} {as : List Sl} {n : Nat}
theorem argM_some {i : Nat} {p : Addr} (h : argM as vs i = some p) : ∃ c, as[i]? = some (.arg c) ∧ vs[i]? = some (.ref p) := by
  unfold argM at h
  cases e : as[i]? with
  | none => rw [e] at h; cases h
  | some s => rw [e] at h; cases s with
    | arg c => cases e2 : vs[i]? with
      | none => rw [e2] at h; cases h
      | some v => rw [e2] at h; cases v with
        | ref q => cases h; exact ⟨c, rfl, rfl⟩
        | _ => cases h
    | _ => cases h
theorem argM_of {i : Nat} {p : Addr} {c : Co} (h1 : as[i]? = some (.arg c)) (h2 : vs[i]? = some (.ref p)) : argM as vs i = some p := by
  unfold argM
  rw [h1, h2]
theorem start_at {i : Nat} (hi : i < vs.length) : (vs.map some ++ List.replicate n (none : Option V))[i]? = some vs[i]? := by
  rw [List.getElem?_append_left (by simpa using hi), List.getElem?_map, List.getElem?_eq_getElem hi]
  rfl
theorem begin_ok {C : Cf} (fh : Same F H) (w : ArgsOk C.K F H vs as) : St1 ⟨C, F, H, argM as vs⟩ (as ++ List.replicate n .no) (vs.map some ++ List.replicate n none) F H where
  len := by simp [w.len]
  fh := fh
  f0 := Same.refl F
  h0 := fun b o _ e => e
  fn := fun b z => .inl z
  sl := fun i s e => by
    by_cases hi : i < as.length
    · rw [List.getElem?_append_left hi] at e
      rw [start_at (by rw [w.len]; exact hi)]
      obtain ⟨v, ev, wv⟩ := w.here i s e
      rw [ev]
      cases s with
      | no => exact wv.elim
      | own c => exact wv.elim
      | fz d => exact ⟨v, rfl, wv⟩
      | arg c =>
        obtain ⟨p, o, rfl, h1, h2, h3⟩ := wv
        exact ⟨p, o, rfl, h1, h2, h3, argM_of e ev⟩
    · rw [List.getElem?_append_right (by omega)] at e
      have := List.mem_of_getElem? e
      rw [List.mem_replicate] at this
      rw [this.2]
      trivial
  di := fun i j s t p hij e1 e2 q1 q2 r1 r2 => by
    have get : ∀ (m : Nat) (u : Sl), (as ++ List.replicate n Sl.no)[m]? = some u → u.held = true → m < as.length ∧ ∃ c, as[m]? = some (.arg c) := fun m u e q => by
      by_cases hi : m < as.length
      · rw [List.getElem?_append_left hi] at e
        refine ⟨hi, ?_⟩
        obtain ⟨v, ev, wv⟩ := w.here m u e
        cases u with
        | arg c => exact ⟨c, e⟩
        | own c => exact wv.elim
        | no => cases q
        | fz d => cases q
      · rw [List.getElem?_append_right (by omega)] at e
        have := List.mem_of_getElem? e
        rw [List.mem_replicate] at this
        rw [this.2] at q
        cases q
    obtain ⟨l1, c1, a1⟩ := get i s e1 q1
    obtain ⟨l2, c2, a2⟩ := get j t e2 q2
    rw [start_at (by rw [w.len]; exact l1)] at r1
    rw [start_at (by rw [w.len]; exact l2)] at r2
    exact w.di i j c1 c2 p hij a1 a2 (Option.some.inj r1) (Option.some.inj r2)
  ma := fun i p e => by
    obtain ⟨c, h1, h2⟩ := argM_some e
    exact ⟨c, by rw [List.getElem?_append_left (List.getElem?_eq_some_iff.mp h1).1]; exact h1⟩
theorem post_of {C : Cf} {δ' : DS} {σ' : L2.St} {F' H' : Hp} (w : ArgsOk C.K F H vs as) (k : St1 ⟨C, F, H, argM as vs⟩ δ' σ' F' H') : PostOk C.K F H vs as δ' F' H' where
  ff := k.f0
  fh := k.fh
  hh := fun b o hb e => k.h0 b o (fun i z => by
    obtain ⟨c, h1, h2⟩ := argM_some z
    exact hb i c h1 h2) e
  fn := k.fn
  ar := fun i c p h1 h2 => by
    have em := argM_of h1 h2
    obtain ⟨c', hc'⟩ := k.ma i p em
    obtain ⟨q, o, q1, q2, q3, q4, q5⟩ := k.sl i _ hc'
    have q5 : argM as vs i = some q := q5
    rw [em] at q5
    cases q5
    exact ⟨c', o, hc', q2, q3, q4⟩
end
def noxC (K : PySem.W.Frag) : Cf := ⟨K, fun _ _ _ _ => False⟩
section
variable {P : Program} {w : World} {K : PySem.W.Frag} {mg : Str → Option Value} {base : Heap}
theorem ends_of {C : Cf} {np n : Nat} {sd : Ds} {vs : List V} {H : Hp} {Q : VK} {E : XK} {N : List Str} (hE : ∀ (σ : L2.St) (c : Value) (H : Hp), E c none H → C.E σ c none H) (hn : N.length = n) (h : dsp C.K (runDef np n sd) vs H Q E) : ups C sd { nx := fun _ H' => Q .non H', rt := Q } (start N vs) H := by
  obtain ⟨F, as, fh, wa, h⟩ := h
  unfold runDef at h
  cases el : as.length == np && as.all isIn with
  | false => rw [el] at h; exact h.elim
  | true =>
    rw [el] at h
    rw [Bool.and_eq_true] at el
    have el := eq_of_beq el.1
    subst el
    refine ⟨⟨C, F, H, argM as vs⟩, as ++ List.replicate (n - as.length) .no, F, rfl, ?_, ?_⟩
    · unfold L2.start
      rw [hn, wa.len]
      exact begin_ok fh wa
    · cases es : sd (as ++ List.replicate (n - as.length) .no) with
      | bad => rw [es] at h; exact h.elim
      | ex c δ' =>
        rw [es] at h
        exact fun σ' F' H' k _ => hE σ' c H' (h F' H' (post_of wa k))
      | ok o δ' =>
        rw [es] at h
        cases o with
        | nx => exact fun σ' F' H' k _ => h .non F' H' (post_of wa k) .non
        | bk => exact h.elim
        | ct => exact h.elim
        | rt r =>
          intro v σ' F' H' k _ wv
          have h : dspM C.K F as vs H Q E (retV r δ') := h
          cases r with
          | fz d => exact h v F' H' (post_of wa k) wv
          | own c =>
            obtain ⟨p, o, rfl, h1, h2, h3, h4, _⟩ := wv
            exact h (.ref p) F' H' (post_of wa k) ⟨p, o, rfl, h4, h1, h2, h3⟩
          | loc i =>
            have wv : σ'[i]? = some (some v) := wv
            unfold retV at h
            simp only at h
            cases ei : δ'[i]? with
            | none => rw [ei] at h; exact h.elim
            | some s =>
              rw [ei] at h
              have z := k.sl i s ei
              cases s with
              | no => exact h.elim
              | arg c => exact h.elim
              | fz d =>
                obtain ⟨u, q1, q2⟩ := z
                rw [wv] at q1
                cases q1
                exact h v F' H' (post_of wa k) q2
              | own c =>
                obtain ⟨p, o, q1, q2, q3, q4, q5, q6⟩ := z
                rw [wv] at q1
                cases q1
                exact h (.ref p) F' H' (post_of wa k) ⟨p, o, rfl, q6, q2, q3, q4⟩
theorem dsp_len {np n : Nat} {sd : Ds} {vs : List V} {H : Hp} {Q : VK} {E : XK} (h : dsp K (runDef np n sd) vs H Q E) : vs.length = np := by
  obtain ⟨F, as, fh, wa, h⟩ := h
  unfold runDef at h
  cases el : as.length == np && as.all isIn with
  | false => rw [el] at h; exact h.elim
  | true =>
    rw [Bool.and_eq_true] at el
    rw [wa.len]
    exact eq_of_beq el.1
/-- a def that raises nothing, by its body -/
theorem fn_d {x qual : Str} {st : Stmt} {f : Addr} {fd : FuncData} {N ps : List Str} {k : Nat} {sd : Ds} (Fu : Fun K x qual st f fd) (S : FnScope N ps (defScope st))
    (hb : ∀ (cdv : Value) (A : Around) (outer : List Env) (s : Shared) (H : Hp) (E : XK), Room k (A.deeper (envOfC qual (defScope st) s.heap.objs.size f cdv)) → PSs (cxOf CX0 P w K mg base N qual (defScope st) f cdv A outer s H E).nox (defBody st) (ups (noxC K) sd))
    (den : List Sl → R Vl) (hden : ∀ as : List Sl, den as ≠ .bad → (runDef ps.length N.length sd as) = den as ∧ (∀ c δ, den as ≠ .ex c δ)) : FnOk P w K mg base CX0 (k + 1) f fd ps (dsp K den) := by
  have conv : ∀ vs H Q E, dsp K den vs H Q E → dsp K (runDef ps.length N.length sd) vs H Q E0 := fun vs H Q E ⟨F, as, fh, wa, h⟩ => by
    have nb : den as ≠ .bad := fun z => by rw [z] at h; exact h
    obtain ⟨e, ne⟩ := hden as nb
    refine ⟨F, as, fh, wa, ?_⟩
    rw [e]
    cases ed : den as with
    | ok r δ => rw [ed] at h; exact h
    | ex c δ => exact absurd ed (ne c δ)
    | bad => exact absurd ed nb
  refine Fu.ok S (fun vs H Q E h => dsp_len (conv vs H Q E h)) fun cdv A outer s H vs Q E hr h => ⟨_, hb cdv A outer s H E hr, ?_⟩
  exact ends_of (C := noxC K) (fun _ _ _ z => z) rfl (conv vs H Q E h)
end
end DL

set_option Elab.async false
set_option linter.all false
set_option maxRecDepth 100000
set_option autoImplicit false
namespace DL
open PySem PySem.Spec PyProof.Rows L2
section
variable {X : Cx} {C : Cf} {e a b c : Expr} {ta tb tc : De} {pos : Pos}
/-! ### the operators, ready -/
theorem rfK_bin {r : PySem.W.Frag → R2} {f : D → D → Option Vl} {ta tb : De} (o : ∀ K, Op2 K (r K) f) (hK : C.K = X.K) : ∀ σ H Q, up C (dBin f ta tb) σ H Q → tOp (r X.K) (up C ta) (up C tb) σ H Q := by
  rw [← hK]
  exact rf_bin (o C.K)
theorem pd_add (ha : PE X a (up C ta)) (hb : PE X b (up C tb)) (hK : C.K = X.K := by rfl) : PE X (.BinOp a .Add b pos) (up C (dBin fAdd ta tb)) := pe_weak (pe_op op_addD ha hb) (rfK_bin (r := rAddD) (fun _ => o_add) hK)
theorem pd_sub (ha : PE X a (up C ta)) (hb : PE X b (up C tb)) : PE X (.BinOp a .Sub b pos) (up C (dBin fSub ta tb)) := pd_bin op_sub o_sub ha hb
theorem pd_mul (ha : PE X a (up C ta)) (hb : PE X b (up C tb)) : PE X (.BinOp a .Mult b pos) (up C (dBin fMul ta tb)) := pd_bin op_mulD o_mul ha hb
theorem pd_div (ha : PE X a (up C ta)) (hb : PE X b (up C tb)) : PE X (.BinOp a .FloorDiv b pos) (up C (dBin fDiv ta tb)) := pd_bin op_fdivW o_div ha hb
theorem pd_mod (ha : PE X a (up C ta)) (hb : PE X b (up C tb)) : PE X (.BinOp a .Mod b pos) (up C (dBin fMod ta tb)) := pd_bin op_mod o_mod ha hb
theorem pd_pow (ha : PE X a (up C ta)) (hb : PE X b (up C tb)) : PE X (.BinOp a .Pow b pos) (up C (dBin fPow ta tb)) := pd_bin op_pow o_pow ha hb
theorem pd_neg (ha : PE X a (up C ta)) : PE X (.UnaryOp .USub a pos) (up C (dUn fNeg ta)) := pe_weak (pe_un un_neg ha) (rf_un o_neg)
def rLeD : R2 := fun x y H Q => rI0 (fun i j => .bl (decide (i ≤ j))) x y H Q ∨ (∃ i j, x = .str i ∧ y = .str j ∧ Q (.bl (!decide (j.cps.toList < i.cps.toList))) H)
theorem op_leD : OpR X (compareOp .LtE) rLeD := op_le.or op_le_str
theorem o_le {K : PySem.W.Frag} : Op2 K rLeD fLe := by
  intro G δ σ F H x y d e z Q hK k hx hy ez q
  subst hK
  cases d with
  | int i =>
    have hx := hx.int
    subst hx
    cases e with
    | int j =>
      have hy := hy.int
      subst hy
      cases ez
      exact .inl ⟨i, j, rfl, rfl, q.fz k (.bl _)⟩
    | _ => cases ez
  | str i =>
    have hx := hx.str
    subst hx
    cases e with
    | str j =>
      have hy := hy.str
      subst hy
      cases ez
      exact .inr ⟨i, j, rfl, rfl, q.fz k (.bl _)⟩
    | _ => cases ez
  | _ => cases e <;> cases ez
theorem pd_lt (ha : PE X a (up C ta)) (hb : PE X b (up C tb)) : PE X (.Compare a [.Lt] [b] pos) (up C (dBin fLtI ta tb)) := pd_cmp op_lt o_cmpI ha hb (nomark _)
theorem pd_gt (ha : PE X a (up C ta)) (hb : PE X b (up C tb)) : PE X (.Compare a [.Gt] [b] pos) (up C (dBin fGt ta tb)) := pd_cmp op_gt o_cmpI ha hb (nomark _)
theorem pd_ge (ha : PE X a (up C ta)) (hb : PE X b (up C tb)) : PE X (.Compare a [.GtE] [b] pos) (up C (dBin fGe ta tb)) := pd_cmp op_ge o_cmpI ha hb (nomark _)
theorem pd_le (ha : PE X a (up C ta)) (hb : PE X b (up C tb)) : PE X (.Compare a [.LtE] [b] pos) (up C (dBin fLe ta tb)) := pd_cmp op_leD o_le ha hb (nomark _)
theorem pd_eq (hu : X.A.units + 64 < cLine) (ha : PE X a (up C ta)) (hb : PE X b (up C tb)) (hK : C.K = X.K := by rfl) : PE X (.Compare a [.Eq] [b] pos) (up C (dBin fEq ta tb)) := pe_weak (pe_cmpR (op_eqD hu) ha hb (nomark _)) (rfK_bin (r := rEqD) (fun _ => o_eq) hK)
theorem pd_ne (hu : X.A.units + 64 < cLine) (ha : PE X a (up C ta)) (hb : PE X b (up C tb)) (hK : C.K = X.K := by rfl) : PE X (.Compare a [.NotEq] [b] pos) (up C (dBin fNe ta tb)) := pe_weak (pe_cmpR (op_neD hu) ha hb (nomark _)) (rfK_bin (r := rNeD) (fun _ => o_ne) hK)
theorem pd_isN (ha : PE X a (up C ta)) (hb : PE X b (up C tb)) : PE X (.Compare a [.Is] [b] pos) (up C (dBin fIsN ta tb)) := pd_cmp op_isN o_isN ha hb (nomark _)
theorem pd_notN (ha : PE X a (up C ta)) (hb : PE X b (up C tb)) : PE X (.Compare a [.IsNot] [b] pos) (up C (dBin fNotN ta tb)) := pd_cmp op_notN o_notN ha hb (nomark _)
theorem ptd_lt (ha : PE X a (up C ta)) (hb : PE X b (up C tb)) : PT X (.Compare a [.Lt] [b] pos) (upT C (dTest (dBin fLtI ta tb))) := pdt_cmp op_lt o_cmpI ha hb (nomark _)
theorem ptd_gt (ha : PE X a (up C ta)) (hb : PE X b (up C tb)) : PT X (.Compare a [.Gt] [b] pos) (upT C (dTest (dBin fGt ta tb))) := pdt_cmp op_gt o_cmpI ha hb (nomark _)
theorem ptd_ge (ha : PE X a (up C ta)) (hb : PE X b (up C tb)) : PT X (.Compare a [.GtE] [b] pos) (upT C (dTest (dBin fGe ta tb))) := pdt_cmp op_ge o_cmpI ha hb (nomark _)
theorem ptd_le (ha : PE X a (up C ta)) (hb : PE X b (up C tb)) : PT X (.Compare a [.LtE] [b] pos) (upT C (dTest (dBin fLe ta tb))) := pdt_cmp op_leD o_le ha hb (nomark _)
theorem ptd_eq (hu : X.A.units + 64 < cLine) (ha : PE X a (up C ta)) (hb : PE X b (up C tb)) (hK : C.K = X.K := by rfl) : PT X (.Compare a [.Eq] [b] pos) (upT C (dTest (dBin fEq ta tb))) := pt_weak (pt_cmpR (op_eqD hu) ha hb (nomark _)) (rf_test (rfK_bin (r := rEqD) (fun _ => o_eq) hK))
theorem ptd_ne (hu : X.A.units + 64 < cLine) (ha : PE X a (up C ta)) (hb : PE X b (up C tb)) (hK : C.K = X.K := by rfl) : PT X (.Compare a [.NotEq] [b] pos) (upT C (dTest (dBin fNe ta tb))) := pt_weak (pt_cmpR (op_neD hu) ha hb (nomark _)) (rf_test (rfK_bin (r := rNeD) (fun _ => o_ne) hK))
theorem ptd_isN (ha : PE X a (up C ta)) (hb : PE X b (up C tb)) : PT X (.Compare a [.Is] [b] pos) (upT C (dTest (dBin fIsN ta tb))) := pdt_cmp op_isN o_isN ha hb (nomark _)
theorem ptd_notN (ha : PE X a (up C ta)) (hb : PE X b (up C tb)) : PT X (.Compare a [.IsNot] [b] pos) (upT C (dTest (dBin fNotN ta tb))) := pdt_cmp op_notN o_notN ha hb (nomark _)
/-- a chain of two -/
theorem pd_chain {op op' : CmpOp} {r r' : R2} {f g : D → D → Option Vl} (ho : OpR X (compareOp op) r) (o : Op2 C.K r f) (ho' : OpR X (compareOp op') r') (o' : Op2 C.K r' g) (ha : PE X a (up C ta)) (hb : PE X b (up C tb)) (hc : PE X c (up C tc))
    (hp : ∀ (ta tb tc : TE), PE X a ta → PE X b tb → PE X c tc → PE X (.Compare a [op, op'] [b, c] pos) (tChain r r' ta tb tc)) : PE X (.Compare a [op, op'] [b, c] pos) (up C (dChain f g ta tb tc)) := pe_weak (hp _ _ _ ha hb hc) (rf_chain o o')

/-! ### built-ins of one thing, of two -/
def B1 (K : PySem.W.Frag) (r : List V → Hp → VK → Prop) (f : D → Option Vl) : Prop := ∀ (G : Ct) (δ : DS) (σ : L2.St) (F H : Hp) (x : V) (d : D) (z : Vl) (Q : VK), G.K = K → St1 G δ σ F H → Vw K F H x d → f d = some z → Res G δ σ F H z Q → r [x] H Q
def B2 (K : PySem.W.Frag) (r : List V → Hp → VK → Prop) (f : D → D → Option Vl) : Prop := ∀ (G : Ct) (δ : DS) (σ : L2.St) (F H : Hp) (x y : V) (d e : D) (z : Vl) (Q : VK), G.K = K → St1 G δ σ F H → Vw K F H x d → Vw K F H y e → f d e = some z → Res G δ σ F H z Q → r [x, y] H Q
theorem rf_b1 {r : List V → Hp → VK → Prop} {f : D → Option Vl} (o : B1 C.K r f) : ∀ σ H Q, up C (dUn f ta) σ H Q → tCB r (tCons (up C ta) tNil) σ H Q := fun σ H Q ⟨G, δ, F, hC, k, h⟩ => by
  subst hC
  refine ⟨G, δ, F, rfl, k, finA_bind h fun x δ1 v F1 H1 k1 g1 w1 h1 => ?_⟩
  obtain ⟨F2, k2, g2, w2⟩ := k1.freeze w1
  obtain ⟨d, z, e1, e3, q⟩ := lift1_fin (finA_mono h1 g2)
  exact o G δ1 σ F2 H1 v d z Q rfl k2 (k2.view w2 e1) e3 (q H1)
theorem rf_b2 {r : List V → Hp → VK → Prop} {f : D → D → Option Vl} (o : B2 C.K r f) : ∀ σ H Q, up C (dBin f ta tb) σ H Q → tCB r (tCons (up C ta) (tCons (up C tb) tNil)) σ H Q := fun σ H Q ⟨G, δ, F, hC, k, h⟩ => by
  subst hC
  refine ⟨G, δ, F, rfl, k, finA_bind h fun x δ1 v F1 H1 k1 g1 w1 h1 => ?_⟩
  obtain ⟨F2, k2, g2, w2⟩ := k1.freeze w1
  refine ⟨G, δ1, F2, rfl, k2, finA_bind (finA_mono h1 g2) fun y δ2 u F3 H3 k3 g3 w3 h3 => ?_⟩
  obtain ⟨F4, k4, g4, w4⟩ := k3.freeze w3
  obtain ⟨d, e, z, e1, e2, e3, q⟩ := lift2_fin (finA_mono h3 g4)
  have w2' : VlOk G δ2 σ F4 H3 v (fzT x) := w2.keep (fzT_stays e1) (g3.trans g4)
  exact o G δ2 σ F4 H3 v u d e z Q rfl k4 (k4.view w2' e1) (k4.view w4 e2) e3 (q H3)
def fLen : D → Option Vl
  | .list ds => some (.fz (.int ds.length))
  | .tuple ds => some (.fz (.int ds.length))
  | .dict [(.none, .list ds)] => some (.fz (.int ds.length))
  | .str z => okO (small z.length) (some (.fz (.int z.length)))
  | _ => none
def rLen (K : PySem.W.Frag) : List V → Hp → VK → Prop := fun xs H Q => ∃ x n, xs = [x] ∧ LenV K x H n ∧ Q (.int n) H
theorem b_len {K : PySem.W.Frag} : B1 K (rLen K) fLen := by
  intro G δ σ F H x d z Q hK k hx ez q
  subst hK
  cases d with
  | list ds =>
    obtain ⟨p, vs, rfl, h1, h2⟩ := hx.list k.fh
    cases ez
    rw [← dpa_len h2] at q
    exact ⟨_, _, rfl, .inl ⟨vs, SqL.of h1, rfl⟩, q.fz k (.int _)⟩
  | tuple ds =>
    obtain ⟨p, vs, rfl, h1, h2⟩ := hx.tup
    cases ez
    rw [← dpa_len h2] at q
    exact ⟨_, _, rfl, .inr ⟨vs, SqT.of (k.fh _ _ h1), rfl⟩, q.fz k (.int _)⟩
  | str y =>
    have hx := hx.str
    subst hx
    obtain ⟨e1, e2⟩ := okO_some ez
    cases e2
    exact ⟨_, _, rfl, ⟨small_line e1, rfl⟩, q.fz k (.int _)⟩
  | dict kvs =>
    obtain ⟨p, ns, rfl, rfl, h1⟩ := hx.scr fun ks ds z => by subst z; cases ez
    cases ez
    refine ⟨_, _, rfl, .inl ⟨_, same_l k.fh h1, rfl⟩, ?_⟩
    rw [List.length_map] at q ⊢
    exact q.fz k (.int _)
  | _ => cases ez
theorem pd_len {p : Pos} (hm : X.mg "len" = none) (ha : PE X e (up C ta)) (hK : C.K = X.K := by rfl) (hcall : ∀ (r : List V → Hp → VK → Prop) (te : TE), X.mg "len" = none → CallR X (.builtin "len") r → PE X e te → PE X (.Call (.Name "len" p) [e] [] pos) (tCB r (tCons te tNil)) := by exact fun _ _ hm0 h1 h2 => pe_callB h1 (by rfl) hm0 (by decide +kernel) (pa_cons h2 pa_nil)) :
    PE X (.Call (.Name "len" p) [e] [] pos) (up C (dUn fLen ta)) := pe_weak (hcall _ _ hm call_len ha) (by rw [← hK]; exact rf_b1 b_len)
/-- int(n), int(flag) -/
def fInt : D → Option Vl
  | .int i => some (.fz (.int i))
  | .bool b => some (.fz (.int (if b then 1 else 0)))
  | _ => none
def rInt : List V → Hp → VK → Prop := fun xs H Q => (∃ i, xs = [.int i] ∧ Q (.int i) H) ∨ ∃ k, xs = [.bl k] ∧ Q (.int (if k then 1 else 0)) H
theorem b_int {K : PySem.W.Frag} : B1 K rInt fInt := by
  intro G δ σ F H x d z Q hK k hx ez q
  subst hK
  cases d with
  | int i =>
    have hx := hx.int
    subst hx
    cases ez
    exact .inl ⟨i, rfl, q.fz k (.int _)⟩
  | bool i =>
    have hx := hx.bl
    subst hx
    cases ez
    exact .inr ⟨i, rfl, q.fz k (.int _)⟩
  | _ => cases ez
theorem pd_int1 {p : Pos} (hm : X.mg "int" = none) (ha : PE X e (up C ta)) (hcall : ∀ (r : List V → Hp → VK → Prop) (te : TE), X.mg "int" = none → CallR X (.type "int") r → PE X e te → PE X (.Call (.Name "int" p) [e] [] pos) (tCB r (tCons te tNil)) := by exact fun _ _ hm0 h1 h2 => pe_callTy h1 (by rfl) hm0 (by decide +kernel) (pa_cons h2 pa_nil)) :
    PE X (.Call (.Name "int" p) [e] [] pos) (up C (dUn fInt ta)) := pe_weak (hcall _ _ hm call_int1 ha) (rf_b1 b_int)
/-- list(..), tuple(..) -/
def fList : D → Option Vl
  | .list ds => some (.own (.lst ds))
  | .tuple ds => some (.own (.lst ds))
  | .dict [(.none, .list ds)] => some (.own (.lst ds))
  | _ => none
def rList (K : PySem.W.Frag) : List V → Hp → VK → Prop := fun xs H Q => ∃ p ys, xs = [.ref p] ∧ (SqL K H p ys ∨ SqT K H p ys) ∧ ∀ l, H l = none → Q (.ref l) (upd H l (.lst ys))
theorem b_list {K : PySem.W.Frag} : B1 K (rList K) fList := by
  intro G δ σ F H x d z Q hK k hx ez q
  subst hK
  cases d with
  | list ds =>
    obtain ⟨p, vs, rfl, h1, h2⟩ := hx.list k.fh
    cases ez
    exact ⟨_, _, rfl, .inl (SqL.of h1), q.newL k h2⟩
  | tuple ds =>
    obtain ⟨p, vs, rfl, h1, h2⟩ := hx.tup
    cases ez
    exact ⟨_, _, rfl, .inr (SqT.of (k.fh _ _ h1)), q.newL k h2⟩
  | dict kvs =>
    obtain ⟨p, ns, rfl, rfl, h1⟩ := hx.scr fun ks ds z => by subst z; cases ez
    cases ez
    exact ⟨_, _, rfl, .inl (same_l k.fh h1), q.newL k (dpa_ints ns)⟩
  | _ => cases ez
theorem pd_list {p : Pos} (hm : X.mg "list" = none) (ha : PE X e (up C ta)) (hK : C.K = X.K := by rfl) (hcall : ∀ (r : List V → Hp → VK → Prop) (te : TE), X.mg "list" = none → CallR X (.type "list") r → PE X e te → PE X (.Call (.Name "list" p) [e] [] pos) (tCB r (tCons te tNil)) := by exact fun _ _ hm0 h1 h2 => pe_callTy h1 (by rfl) hm0 (by decide +kernel) (pa_cons h2 pa_nil)) :
    PE X (.Call (.Name "list" p) [e] [] pos) (up C (dUn fList ta)) := pe_weak (hcall _ _ hm call_list_of ha) (by rw [← hK]; exact rf_b1 b_list)
def fTuple : D → Option Vl
  | .list ds => some (.fz (.tuple ds))
  | .tuple ds => some (.fz (.tuple ds))
  | _ => none
def rTuple (K : PySem.W.Frag) : List V → Hp → VK → Prop := fun xs H Q => ∃ p ys, xs = [.ref p] ∧ ((SqL K H p ys ∧ ∀ l, H l = none → Q (.ref l) (upd H l (.tup ys))) ∨ (SqT K H p ys ∧ Q (.ref p) H))
theorem b_tuple {K : PySem.W.Frag} : B1 K (rTuple K) fTuple := by
  intro G δ σ F H x d z Q hK k hx ez q
  subst hK
  cases d with
  | list ds =>
    obtain ⟨p, vs, rfl, h1, h2⟩ := hx.list k.fh
    cases ez
    exact ⟨_, _, rfl, .inl ⟨SqL.of h1, q.newT k h2⟩⟩
  | tuple ds =>
    obtain ⟨p, vs, rfl, h1, h2⟩ := hx.tup
    cases ez
    exact ⟨_, _, rfl, .inr ⟨SqT.of (k.fh _ _ h1), q.fz k (.tup h1 h2)⟩⟩
  | _ => cases ez
theorem pd_tuple {p : Pos} (hm : X.mg "tuple" = none) (ha : PE X e (up C ta)) (hK : C.K = X.K := by rfl) (hcall : ∀ (r : List V → Hp → VK → Prop) (te : TE), X.mg "tuple" = none → CallR X (.type "tuple") r → PE X e te → PE X (.Call (.Name "tuple" p) [e] [] pos) (tCB r (tCons te tNil)) := by exact fun _ _ hm0 h1 h2 => pe_callTy h1 (by rfl) hm0 (by decide +kernel) (pa_cons h2 pa_nil)) :
    PE X (.Call (.Name "tuple" p) [e] [] pos) (up C (dUn fTuple ta)) := pe_weak (hcall _ _ hm call_tuple_of ha) (by rw [← hK]; exact rf_b1 b_tuple)
/-- max, min of two ints -/
def fMax2 : D → D → Option Vl
  | .int i, .int j => some (.fz (.int (if j > i then j else i)))
  | _, _ => none
def fMin2 : D → D → Option Vl
  | .int i, .int j => some (.fz (.int (if j < i then j else i)))
  | _, _ => none
def rMax2 : List V → Hp → VK → Prop := fun xs H Q => ∃ i j, xs = [.int i, .int j] ∧ Q (.int (if j > i then j else i)) H
def rMin2 : List V → Hp → VK → Prop := fun xs H Q => ∃ i j, xs = [.int i, .int j] ∧ Q (.int (if j < i then j else i)) H
theorem b_max2 {K : PySem.W.Frag} : B2 K rMax2 fMax2 := by
  intro G δ σ F H x y d e z Q hK k hx hy ez q
  subst hK
  cases d with
  | int i => cases e with
    | int j =>
      have hx := hx.int
      have hy := hy.int
      subst hx hy
      cases ez
      exact ⟨i, j, rfl, q.fz k (.int _)⟩
    | _ => cases ez
  | _ => cases e <;> cases ez
theorem b_min2 {K : PySem.W.Frag} : B2 K rMin2 fMin2 := by
  intro G δ σ F H x y d e z Q hK k hx hy ez q
  subst hK
  cases d with
  | int i => cases e with
    | int j =>
      have hx := hx.int
      have hy := hy.int
      subst hx hy
      cases ez
      exact ⟨i, j, rfl, q.fz k (.int _)⟩
    | _ => cases ez
  | _ => cases e <;> cases ez
theorem pd_max2 {p : Pos} (hm : X.mg "max" = none) (ha : PE X a (up C ta)) (hb : PE X b (up C tb)) (hc : X.calm = true := by rfl) (hcall : ∀ (r : List V → Hp → VK → Prop) (te te' : TE), X.mg "max" = none → CallR X (.builtin "max") r → PE X a te → PE X b te' → PE X (.Call (.Name "max" p) [a, b] [] pos) (tCB r (tCons te (tCons te' tNil))) := by exact fun _ _ _ hm0 h1 h2 h3 => pe_callB h1 (by rfl) hm0 (by decide +kernel) (pa_cons h2 (pa_cons h3 pa_nil))) :
    PE X (.Call (.Name "max" p) [a, b] [] pos) (up C (dBin fMax2 ta tb)) := pe_weak (hcall _ _ _ hm (call_max2 hc) ha hb) (rf_b2 b_max2)
theorem pd_min2 {p : Pos} (hm : X.mg "min" = none) (ha : PE X a (up C ta)) (hb : PE X b (up C tb)) (hc : X.calm = true := by rfl) (hcall : ∀ (r : List V → Hp → VK → Prop) (te te' : TE), X.mg "min" = none → CallR X (.builtin "min") r → PE X a te → PE X b te' → PE X (.Call (.Name "min" p) [a, b] [] pos) (tCB r (tCons te (tCons te' tNil))) := by exact fun _ _ _ hm0 h1 h2 h3 => pe_callB h1 (by rfl) hm0 (by decide +kernel) (pa_cons h2 (pa_cons h3 pa_nil))) :
    PE X (.Call (.Name "min" p) [a, b] [] pos) (up C (dBin fMin2 ta tb)) := pe_weak (hcall _ _ _ hm (call_min2 hc) ha hb) (rf_b2 b_min2)

/-! ### isinstance of built-in kinds -/
def tyD : D → String
  | .none => "NoneType" | .bool _ => "bool" | .int _ => "int" | .str _ => "str" | .list _ => "list" | .tuple _ => "tuple" | .dict [(.bool true, _), _] => "dict" | .dict _ => "list"
def isTS (t T : String) : Bool := t == T || (t == "bool" && T == "int")
def isT (d : D) (T : String) : Bool := isTS (tyD d) T
theorem kitAll : ∀ t ∈ ["NoneType", "bool", "int", "str", "list", "tuple", "dict"], ∀ T ∈ ["int", "bool", "str", "list", "tuple"], kitB t T = some (isTS t T) := by decide +kernel
theorem ty_of {K : PySem.W.Frag} {F H : Hp} {v : V} {d : D} (h : Vw K F H v d) (fh : Same F H) : TyX K H v (.type (tyD d)) := by
  rcases h with h | ⟨p, vs, ds, rfl, rfl, h1, h2⟩
  · cases h with
    | non => exact .base .non
    | bl b => exact .base (.bl b)
    | int i => exact .base (.int i)
    | str x => exact .base (.str x)
    | lst a b =>
      exact .base (.lst (fh _ _ a))
    | tup a b =>
      exact .base (.tup (fh _ _ a))
    | dct a b => exact .fDict (fh _ _ a)
    | scr a =>
      rcases same_l fh a with (q | ⟨o, q⟩) | ⟨o, its, n, hk, hc, _⟩
      · exact .base (.lst q)
      · exact .base (.frz q)
      · exact .kList hk hc
  · exact .base (.lst h1)
def okTy (T : String) : Bool := T == "int" || T == "bool" || T == "str" || T == "list" || T == "tuple"
theorem kit_d {K : PySem.W.Frag} (d : D) {T : String} (h : okTy T = true) : PySem.W.kitOne K (.type (tyD d)) (.type T) = some (isT d T) := by
  have hT : T ∈ ["int", "bool", "str", "list", "tuple"] := by
    unfold okTy at h
    simp only [Bool.or_eq_true, beq_iff_eq] at h
    rcases h with (((h | h) | h) | h) | h <;> simp [h]
  exact kit_ty (kitAll _ (by unfold tyD; split <;> simp) _ hT)
def fIsi (T : String) (d : D) : Option Vl := some (.fz (.bool (isT d T)))
def fIsiT (Ts : List String) (d : D) : Option Vl := some (.fz (.bool (Ts.any (isT d))))
def rIsi1 (K : PySem.W.Frag) (T : String) : V → Hp → VK → Prop := fun x H Q => rIsi K [x, .ty T] H Q
theorem o_isi {K : PySem.W.Frag} {T : String} (hT : okTy T = true) : Op1 K (rIsi1 K T) (fIsi T) := by
  intro G δ σ F H x d z Q hK k hx ez q
  subst hK
  cases ez
  exact ⟨x, .ty T, _, _, _, rfl, .ty T, ty_of hx k.fh, kit_d d hT, q.fz k (.bl _)⟩
/-- isinstance(x, T) -/
theorem pd_isi {T : Str} {U : String} {p p2 : Pos} (hm : X.mg "isinstance" = none) (hmT : X.mg T = none) (ha : PE X e (up C ta)) (hT : bootBuiltins T = some (.type U) := by decide +kernel) (hU : okTy U = true := by rfl) (hK : C.K = X.K := by rfl)
    (hcall : ∀ (r : List V → Hp → VK → Prop) (te : TE), X.mg "isinstance" = none → X.mg T = none → bootBuiltins T = some (.type U) → CallR X (.builtin "isinstance") r → PE X e te → PE X (.Call (.Name "isinstance" p) [e, .Name T p2] [] pos) (tCB r (tCons te (tCons (tC (.ty U)) tNil))) := by exact fun _ _ hm0 hm1 hm2 h1 h2 => pe_callB h1 (by rfl) hm0 (by decide +kernel) (pa_cons h2 (pa_cons (pe_bltn (by rfl) hm1 hm2 rfl) pa_nil))) :
    PE X (.Call (.Name "isinstance" p) [e, .Name T p2] [] pos) (up C (dUn (fIsi U) ta)) := pe_weak (hcall _ _ hm hmT hT call_isi ha) (fun σ H Q h => by
      rw [← hK]
      exact rf_un (o_isi hU) σ H Q h)
theorem kit_any {K : PySem.W.Frag} (d : D) : ∀ {Ts : List String}, Ts.all okTy = true → PySem.W.kitAny K (.type (tyD d)) (Ts.map Value.type) = some (Ts.any (isT d))
  | [], _ => kitAny_nil
  | T :: Ts, h => by
    have h : (okTy T && Ts.all okTy) = true := h
    rw [Bool.and_eq_true] at h
    refine kitAny_cons (kit_d d h.1) (fun e => ?_) fun e => ?_
    · rw [kit_any d h.2]
      show _ = some (isT d T || Ts.any (isT d))
      rw [e]
      rfl
    · show (isT d T || Ts.any (isT d)) = true
      rw [e]
      rfl
theorem cls_all : ∀ Ts : List String, Paired ClsV (Ts.map V.ty) (Ts.map Value.type)
  | [] => .nil
  | T :: Ts => .cons (.ty T) (cls_all Ts)
/-- isinstance(x, (T1, T2)) -/
def tTys (Ts : List String) : TE := fun _ H Q => ∀ p, H p = none → Q (.ref p) (upd H p (.tup (Ts.map V.ty)))
theorem rf_isiT {Ts : List String} (hT : Ts.all okTy = true) : ∀ σ H Q, up C (dUn (fIsiT Ts) ta) σ H Q → tCB (rIsiT C.K) (tCons (up C ta) (tCons (tTys Ts) tNil)) σ H Q := fun σ H Q ⟨G, δ, F, hC, k, h⟩ => by
  subst hC
  refine ⟨G, δ, F, rfl, k, finA_bind h fun x δ1 v F1 H1 k1 g1 w1 h1 => ?_⟩
  obtain ⟨F2, k2, g2, w2⟩ := k1.freeze w1
  obtain ⟨d, z, e1, e3, q⟩ := lift1_fin (finA_mono h1 g2)
  cases e3
  intro p hp
  have k3 := k2.newOwn (o := .tup (Ts.map V.ty)) hp
  have hx := k2.view w2 e1
  have hx' : Vw G.K F2 (upd H1 p (.tup (Ts.map V.ty))) v d := hx.mono (Same.refl F2) fun p' vs _ e => by rw [upd_ne (ne_of_none e hp)]; exact e
  exact ⟨v, p, _, _, _, _, rfl, upd_same, cls_all Ts, ty_of hx' k3.fh, kit_any d hT, Res.fz (q _) k3 (.bl _)⟩
theorem pd_isiT {Ts : List String} {es : Expr} {p : Pos} (hm : X.mg "isinstance" = none) (ha : PE X e (up C ta)) (ht : PE X es (tTys Ts)) (hU : Ts.all okTy = true := by rfl) (hK : C.K = X.K := by rfl)
    (hcall : ∀ (r : List V → Hp → VK → Prop) (te tt : TE), X.mg "isinstance" = none → CallR X (.builtin "isinstance") r → PE X e te → PE X es tt → PE X (.Call (.Name "isinstance" p) [e, es] [] pos) (tCB r (tCons te (tCons tt tNil))) := by exact fun _ _ _ hm0 h1 h2 h3 => pe_callB h1 (by rfl) hm0 (by decide +kernel) (pa_cons h2 (pa_cons h3 pa_nil))) :
    PE X (.Call (.Name "isinstance" p) [e, es] [] pos) (up C (dUn (fIsiT Ts) ta)) := pe_weak (hcall _ _ _ hm call_isiT ha ht) (by rw [← hK]; exact rf_isiT hU)
theorem pe_tys2 {T1 T2 : Str} {U1 U2 : String} {p1 p2 : Pos} {x1 : Nat} (h1 : X.mg T1 = none) (h2 : X.mg T2 = none) (hT1 : bootBuiltins T1 = some (.type U1) := by decide +kernel) (hT2 : bootBuiltins T2 = some (.type U2) := by decide +kernel)
    (hp : X.mg T1 = none → X.mg T2 = none → bootBuiltins T1 = some (.type U1) → bootBuiltins T2 = some (.type U2) → PA X [.Name T1 p1, .Name T2 p2] (tCons (tC (.ty U1)) (tCons (tC (.ty U2)) tNil)) := by exact fun a1 a2 a3 a4 => pa_cons (pe_bltn (by rfl) a1 a3 rfl) (pa_cons (pe_bltn (by rfl) a2 a4 rfl) pa_nil)) :
    PE X (.Tuple [.Name T1 p1, .Name T2 p2] x1 pos) (tTys [U1, U2]) := pe_weak (pe_tup (hp h1 h2 hT1 hT2)) fun σ H Q h => ⟨by show 2 ≤ sizeLine; decide, h⟩
end
end DL

set_option Elab.async false
set_option linter.all false
set_option maxRecDepth 100000
set_option autoImplicit false
namespace DL
open PySem PySem.Spec PyProof.Rows L2
set_option maxHeartbeats 1000000 in
theorem meets_enum1 {v : Value} {o : Obj} {H : Heap → Prop} (B : Begins v o H) :
    Meets (Builtin.«enumerate.__new__» ⟨[.type "enumerate", v], []⟩) (fun _ R s => H s.heap ∧
      R (.ok (.ret (.ref (s.heap.push o).objs.size))) { s with heap := (s.heap.push o).push { cls := .type "enumerate", data := .fields #[.none, .bool false, .ref s.heap.objs.size, rawInt 0, .none, .none] } }) :=
  .of_wp fun prog w A R s h => by
    obtain ⟨hp, g, d, tk, os⟩ := s; obtain ⟨h1, h⟩ := h
    have hsub := sub_enumerate
    have q1 : ∀ {A' : Around} {E : Value → Shared → Prop} {Q : Value → Shared → Prop}, Q (.ref hp.objs.size) ⟨hp.push o, g, d, tk, os⟩ → wpAny (model prog w) A' (pyIter v) Q E ⟨hp, g, d, tk, os⟩ :=
      fun q => B.iter prog w _ _ ⟨hp, g, d, tk, os⟩ _ h1 q
    wp_walk using q1
    refine wpAny_stack_any fun st => wpAny_pure ?_
    split
    · rename_i c _ _ _ _ _
      cases (c == Value.type "enumerate")
      · wp_walk using q1
        exact ⟨_, rfl, h⟩
      · wp_walk using q1
        exact ⟨_, rfl, h⟩
    · wp_walk using q1
      exact ⟨_, rfl, h⟩
theorem enum_begins1 {prog : Program} {w : World} {A : Around} {E : Value → Shared → Prop} {s : Shared} {v : Value} {o : Obj} {H : Heap → Prop} {Q : Value → Shared → Prop} (B : Begins v o H) (h1 : H s.heap)
    (h : ∀ h', IsEnum h' (s.heap.objs.size + 1) s.heap.objs.size 0 .none → h'.get? s.heap.objs.size = some o → h'.objs.size = s.heap.objs.size + 2 →
      (∀ b o, s.heap.get? b = some o → h'.get? b = some o) → Q (.ref (s.heap.objs.size + 1)) { s with heap := h' }) :
    wpAny (model prog w) A (call (.type "enumerate") [v]) Q E s := by
  refine callType_new F.called_enumerate (by decide) (F.typeCall_enumerate_1 _) (F.newCall_enumerate_1 _) (fun obj => F.args_object_init_2 obj _) F.entry_enumerate_new
    (meets_enum1 B) ⟨h1, ?_⟩
  have hz : (s.heap.push o).objs.size = s.heap.objs.size + 1 := Heap.size_push ..
  show _ ∧ _
  rw [hz]
  have he : IsEnum ((s.heap.push o).push { cls := .type "enumerate", data := .fields #[.none, .bool false, .ref s.heap.objs.size, rawInt 0, .none, .none] }) (s.heap.objs.size + 1) s.heap.objs.size 0 .none := by
    have := Heap.get?_push_size (s.heap.push o) (o := { cls := .type "enumerate", data := .fields #[.none, .bool false, .ref s.heap.objs.size, rawInt 0, .none, .none] }) rfl
    rw [hz] at this; exact this
  refine ⟨⟨_, he, rfl⟩, h _ he (Heap.get?_push_of_some _ (Heap.get?_push_size _ B.free)) (by rw [Heap.size_push, hz]) fun b o x => Heap.get?_push_of_some _ (Heap.get?_push_of_some _ x)⟩
/-- enumerate over a tuple -/
def IteT (K : PySem.W.Frag) (a : Addr) : It :=
  ⟨fun i H => ∃ (xs : List V) (x : V), SqT K H a xs ∧ xs[i]? = some x, fun i H v H' => ∃ T x, v = .ref T ∧ H T = none ∧ H' = upd H T (.tup [.int (i : Nat), x]) ∧ ∀ xs, SqT K H a xs → xs[i]? = some x, fun i H => ∃ xs : List V, SqT K H a xs ∧ i = xs.length⟩
theorem turn_enumT {P : Program} {w : World} {K : PySem.W.Frag} {elts : List Expr} {kk : Nat} {tpos : Pos} (a e it : Addr) (hat : a ≠ it) :
    Turn P w K (.Tuple elts kk tpos) (IteT K a) [e, it] e (fun i h => (∃ old, IsEnum h e it ((i : Nat) : Int) old) ∧ h.IsTupleIter it a i ∧ e ≠ it ∧ e ≠ a) where
  mem := by simp
  obj := fun i h st b hb => by
    obtain ⟨⟨old, he⟩, ⟨o, ho, hc, hd⟩, _⟩ := st
    have e' : b = e ∨ b = it := by simpa using hb
    rcases e' with z | z
    · rw [z]; exact ⟨_, he, fun v q => nomatch q⟩
    · rw [z]; exact ⟨o, ho, fun v q => by rw [hd] at q; cases q⟩
  keep := fun i h h' st k => let ⟨⟨old, he⟩, hi, hne⟩ := st; ⟨⟨old, k e (by simp) _ he⟩, hi.at fun o q => k it (by simp) o q, hne⟩
  item := by
    intro X hP hw hK hc i pins s σ H E I hf st hg
    subst hP hw hK
    obtain ⟨⟨old, he⟩, hit, hne, hea⟩ := st
    obtain ⟨xs, x, hq, hx⟩ := hg
    obtain ⟨its, rv, p, hz⟩ := I.tuple hq
    obtain ⟨u, hu, ru⟩ := rv.get hx
    have hel : e < s.heap.objs.size := Heap.lt_size he
    have hil : it < s.heap.objs.size := by obtain ⟨_, q, _⟩ := hit; exact Heap.lt_size q
    have hd : X.A.in1.handled = none := I.ok.hd hc
    have D := Draws.tuple (prog := X.prog) (w := X.w) hd it a hat its.toArray
    have hlt : i < its.toArray.size := by
      have := (List.getElem?_eq_some_iff.mp hu).1
      simpa using this
    refine wpAny_pyNext_enum_itemD D he ⟨hit, p⟩ hlt hne (by simp [hne, hea]) fun u' h' tk hPx ho hit' hT hsz hk => ?_
    have hPx : its.toArray[i]? = some u' := hPx
    have eu : u' = u := by
      rw [show its.toArray[i]? = its[i]? by simp, hu] at hPx
      exact (Option.some.inj hPx).symm
    subst eu
    refine ⟨_, rfl, wpAny_letOwnedTupleGo_enum (s := { s with heap := h', toks := tk + 1 }) ho fun h'' he' sb => ?_⟩
    have hT2 : h''.get? s.heap.objs.size = some { cls := .type "tuple", data := .seq #[.int i tk, u'] } := (sb.2 _ (Nat.ne_of_gt hel)).trans hT
    have new : ObjOk X.prog X.w (upd H s.heap.objs.size (.tup [.int (i : Nat), x])) h'' s.heap.objs.size (.tup [.int (i : Nat), x]) :=
      ⟨by show 2 ≤ sizeLine; decide, [.int i tk, u'], .cons ⟨_, rfl⟩ (.cons ru .nil), ⟨_, hT2, rfl, _, rfl⟩⟩
    have I1 : Inv X pins σ (upd H s.heap.objs.size (.tup [.int (i : Nat), x])) { s with heap := h'', toks := tk + 1 } :=
      I.turnedNew (ch := [e, it]) (fun b ob hb q => (sb.2 b (fun z => hb (by simp [z]))).trans (hk b ob (fun z => hb (by simp [z])) (fun z => hb (by simp [z])) q)) hf (Nat.le_refl _) new
    refine ⟨.ref s.heap.objs.size, _, I1, rfl, ⟨_, x, rfl, I.hok.fresh (Nat.le_refl _), rfl, fun ys hy => by rw [I.tuple_inj hy hq]; exact hx⟩, ⟨⟨u', ?_⟩, hit'.1.at fun o q => (sb.2 it (Ne.symm hne)).trans q, hne, hea⟩, fun b hb => ?_⟩
    · have e1 : ((i + 1 : Nat) : Int) = (i : Int) + 1 := by omega
      rw [e1]; exact he'
    · have hb' : b < s.heap.objs.size := by
        have e' : b = e ∨ b = it := by simpa using hb
        rcases e' with z | z
        · rw [z]; exact hel
        · rw [z]; exact hil
      rw [upd_ne (Nat.ne_of_lt hb')]
      exact (hf b hb).1
  done := by
    intro X hP hw hK hc i pins s σ H E I hf st hg
    subst hP hw hK
    obtain ⟨⟨old, he⟩, hit, hne, hea⟩ := st
    obtain ⟨xs, hq, hx⟩ := hg
    obtain ⟨its, rv, p, hz⟩ := I.tuple hq
    obtain ⟨f0, f1, f2, f3, f4, f5⟩ := hf it (by simp)
    have hl := rv.length
    have hd : X.A.in1.handled = none := I.ok.hd hc
    have D := Draws.tuple (prog := X.prog) (w := X.w) hd it a hat its.toArray
    refine wpAny_pyNext_enum_endD D he ⟨by rw [show its.toArray.size = i by rw [List.size_toArray, ← hl, hx]]; exact hit, p⟩ fun h' eb => ⟨rfl, I.turned (t' := s.toks) (fun b o hb q => eb b o hb q) f0 f1 f3 f4 f5⟩
  self := fun A i s Q E st h => let ⟨⟨_, he⟩, _⟩ := st; wpAny_pyIter_enum he h
/-- enumerate of a list or a tuple -/
def iEnumT (K : PySem.W.Frag) (ta : TA) : TI := fun σ H R => ta σ H fun vs H1 => ∃ a xs, vs = [.ref a] ∧ SqT K H1 a xs ∧ R (IteT K a) H1
theorem pi_enumT {X : Cx} {e : Expr} {ta : TA} {p pos tpos : Pos} {elts : List Expr} {kk : Nat} (hg : Gl X "enumerate") (hm : X.mg "enumerate" = none) (ha : PA X [e] ta) (hs : starEach [e] X.env = [(false, eval e X.env)] := by rfl) :
    PI X (.Tuple elts kk tpos) (.Call (.Name "enumerate" p) [e] [] pos) (iEnumT X.K ta) := by
  refine ⟨fun pins s σ H R I h => ?_⟩
  refine Call_ (ld_blt I hg hm boot_enumerate (PyProof.Rows.callWith_type1 (thn (ha.run pos pins s σ H _ I h) fun us s1 ⟨vs, H1, I1, r1, q1⟩ => ?_) hs rfl))
  obtain ⟨a, xs, ex, hq, q⟩ := q1
  subst ex
  cases r1 with
  | cons r rr =>
    cases rr
    cases r
    obtain ⟨its, rv, p', hz⟩ := I1.tuple hq
    have hal : a < s1.heap.objs.size := p'.lt
    refine enum_begins1 (begins_tuple a its.toArray) p' fun h' he hit hsz hk => wpAny_pyIter_enum he ?_
    have I2 : Inv X pins σ H1 { s1 with heap := h' } := I1.kept (t' := s1.toks) hk
    refine ⟨s1.heap.objs.size + 1, [s1.heap.objs.size + 1, s1.heap.objs.size], _, _, H1, rfl, I2, turn_enumT a (s1.heap.objs.size + 1) s1.heap.objs.size (Nat.ne_of_lt hal), ⟨⟨.none, he⟩, ⟨_, hit, rfl, rfl⟩, Nat.succ_ne_self _, Nat.ne_of_gt (Nat.lt_succ_of_lt hal)⟩, fun b hb => ?_, q⟩
    have e' : b = s1.heap.objs.size + 1 ∨ b = s1.heap.objs.size := by simpa using hb
    have hle : s1.heap.objs.size ≤ b := by
      rcases e' with z | z
      · rw [z]; exact Nat.le_add_right _ _
      · rw [z]; exact Nat.le_refl _
    exact I1.fpOk hle (I1.hok.fresh hle)
def enumD (ds : List D) : List D := (List.range ds.length).zipWith (fun (i : Nat) d => PyData.tuple [.int i, d]) ds
theorem enumD_get {ds : List D} {i : Nat} {d : D} (h : ds[i]? = some d) : (enumD ds)[i]? = some (.tuple [.int i, d]) := by
  unfold enumD
  have hi := (List.getElem?_eq_some_iff.mp h).1
  rw [List.getElem?_zipWith, List.getElem?_range hi, h]
theorem enumD_len (ds : List D) : (enumD ds).length = ds.length := by
  unfold enumD
  simp
theorem enumD_of {ds : List D} {i : Nat} {e : D} (h : (enumD ds)[i]? = some e) : ∃ d, ds[i]? = some d ∧ e = .tuple [.int i, d] := by
  have hi := (List.getElem?_eq_some_iff.mp h).1
  rw [enumD_len] at hi
  refine ⟨ds[i], List.getElem?_eq_getElem hi, ?_⟩
  rw [enumD_get (List.getElem?_eq_getElem hi)] at h
  exact (Option.some.inj h).symm
section
variable {X : Cx} {C : Cf} {e a b c l tg : Expr} {ta tb tc : De} {pos : Pos}
theorem it_enumL {K : PySem.W.Frag} {F : Hp} {p : Addr} {vs : List V} {ds : List D} (h : F p = some (.lst vs)) (w : DpAll K F vs ds) : ItOk K (Ite K p) F (enumD ds) := fun F2 H2 f2 h2 i => by
  have hq : SqL K H2 p vs := SqL.of ((f2.trans h2) _ _ h)
  refine ⟨fun d hd => ?_, fun hi => ⟨vs, hq, by rw [dpa_len w, hi, enumD_len]; exact Nat.le_refl _⟩⟩
  obtain ⟨d', hd', rfl⟩ := enumD_of hd
  obtain ⟨v, e1, e2⟩ := dpa_get w hd'
  refine ⟨⟨vs, v, hq, e1⟩, fun x H3 y => ?_⟩
  obtain ⟨T, x', rfl, hT, rfl, y⟩ := y
  have ex : v = x' := Option.some.inj (e1.symm.trans (y vs hq))
  subst ex
  have hF : F2 T = none := h2.free hT
  refine ⟨upd F2 T (.tup [.int (i : Nat), v]), same_upd hF, fun b u e => ?_, same_upd hT, fun b z => ?_, .tup upd_same (.cons (.int _) (.cons (dp_mono (f2.trans (same_upd hF)) _ _ e2) .nil))⟩
  · by_cases hb : b = T
    · subst hb; rw [upd_same] at e ⊢; exact e
    · rw [upd_ne hb] at e ⊢; exact h2 _ _ e
  · by_cases hb : b = T
    · subst hb; exact .inr hT
    · rw [upd_ne hb] at z; exact .inl z
theorem it_enumT {K : PySem.W.Frag} {F : Hp} {p : Addr} {vs : List V} {ds : List D} (h : F p = some (.tup vs)) (w : DpAll K F vs ds) : ItOk K (IteT K p) F (enumD ds) := fun F2 H2 f2 h2 i => by
  have hq : SqT K H2 p vs := SqT.of ((f2.trans h2) _ _ h)
  refine ⟨fun d hd => ?_, fun hi => ⟨vs, hq, by rw [dpa_len w, hi, enumD_len]⟩⟩
  obtain ⟨d', hd', rfl⟩ := enumD_of hd
  obtain ⟨v, e1, e2⟩ := dpa_get w hd'
  refine ⟨⟨vs, v, hq, e1⟩, fun x H3 y => ?_⟩
  obtain ⟨T, x', rfl, hT, rfl, y⟩ := y
  have ex : v = x' := Option.some.inj (e1.symm.trans (y vs hq))
  subst ex
  have hF : F2 T = none := h2.free hT
  refine ⟨upd F2 T (.tup [.int (i : Nat), v]), same_upd hF, fun b u e => ?_, same_upd hT, fun b z => ?_, .tup upd_same (.cons (.int _) (.cons (dp_mono (f2.trans (same_upd hF)) _ _ e2) .nil))⟩
  · by_cases hb : b = T
    · subst hb; rw [upd_same] at e ⊢; exact e
    · rw [upd_ne hb] at e ⊢; exact h2 _ _ e
  · by_cases hb : b = T
    · subst hb; exact .inr hT
    · rw [upd_ne hb] at z; exact .inl z
def enumOf (ds : List D) (δ : DS) : R (List D) := match ds with
  | [.list l] => .ok (enumD l) δ
  | [.tuple l] => .ok (enumD l) δ
  | _ => .bad
def dEnum (l : Dl) : Di := fun δ => (l δ).bind enumOf
theorem pdi_enum {tl : Dl} {p tpos : Pos} {elts : List Expr} {kk : Nat} (hm : X.mg "enumerate" = none) (ha : PA X [e] (upL C tl)) (hg : Gl X "enumerate" := by rfl) (hK : C.K = X.K := by rfl) (hs : starEach [e] X.env = [(false, eval e X.env)] := by rfl) :
    PI X (.Tuple elts kk tpos) (.Call (.Name "enumerate" p) [e] [] pos) (upI C (dEnum tl)) := by
  refine pi_weak (pi_or (pi_enum hg hm ha hs) (pi_enumT hg hm ha hs)) fun σ H R ⟨G, δ, F, hC, k, h⟩ => ?_
  subst hC
  unfold dEnum at h
  cases e1 : tl δ with
  | bad => rw [e1] at h; exact h.elim
  | ex cc s =>
    rw [e1] at h
    refine .inl ⟨G, δ, F, rfl, k, ?_⟩
    rw [e1]
    exact h
  | ok ds δ1 =>
    rw [e1] at h
    have h : finA G (WI G) (enumOf ds δ1) σ F R := h
    cases ds with
    | nil => exact h.elim
    | cons d ds => cases ds with
      | cons _ _ => cases d <;> exact h.elim
      | nil => cases d with
        | list l =>
          refine .inl ⟨G, δ, F, rfl, k, ?_⟩
          rw [e1]
          intro vs F1 H1 k1 g1 w1
          have w1 : DpAll G.K F1 vs [.list l] := w1
          cases w1 with
          | cons w ws =>
            cases ws
            cases w with
            | @lst p vs _ a b => exact ⟨p, vs, rfl, SqL.of (k1.fh _ _ a), h _ F1 H1 k1 g1 (by rw [← hK]; exact it_enumL a b)⟩
        | tuple l =>
          refine .inr ⟨G, δ, F, rfl, k, ?_⟩
          rw [e1]
          intro vs F1 H1 k1 g1 w1
          have w1 : DpAll G.K F1 vs [.tuple l] := w1
          cases w1 with
          | cons w ws =>
            cases ws
            cases w with
            | @tup p vs _ a b => exact ⟨p, vs, rfl, SqT.of (k1.fh _ _ a), h _ F1 H1 k1 g1 (by rw [← hK]; exact it_enumT a b)⟩
        | _ => exact h.elim
end
end DL

set_option Elab.async false
set_option linter.all false
set_option maxRecDepth 100000
set_option autoImplicit false
namespace DL
open PySem PySem.Spec PyProof.Rows L2

/-! ### comprehensions of two clauses -/
def back2a : Sl → Sl → Sl
  | .own _, .arg c => .own c
  | .arg _, .arg c => .arg c
  | _, .fz d => .fz d
  | _, _ => .no
def back2 : DS → DS → DS
  | [], _ => []
  | s :: δ, t :: δ' => back2a s t :: back2 δ δ'
  | s :: δ, [] => .no :: back2 δ []
def rest1 : Sl → Sl → Sl
  | .own _, .own c => .own c
  | .arg _, .arg c => .arg c
  | s, _ => s
def restD : DS → DS → DS
  | [], _ => []
  | s :: δ, t :: δ' => rest1 s t :: restD δ δ'
  | s :: δ, [] => s :: restD δ []
theorem back2_get : ∀ (δ δ' : DS) (i : Nat) (s t : Sl), δ[i]? = some s → δ'[i]? = some t → (back2 δ δ')[i]? = some (back2a s t)
  | [], _, _, _, _, h, _ => by simp at h
  | _ :: _, [], _, _, _, _, h => by simp at h
  | s :: δ, t :: δ', 0, _, _, h, h' => by simp at h h'; subst h h'; rfl
  | s :: δ, t :: δ', i + 1, _, _, h, h' => by
    show (back2 δ δ')[i]? = _
    exact back2_get δ δ' i _ _ (by simpa using h) (by simpa using h')
theorem back2_len : ∀ (δ δ' : DS), (back2 δ δ').length = δ.length
  | [], _ => rfl
  | s :: δ, t :: δ' => by show (back2 δ δ').length + 1 = _; rw [back2_len]; rfl
  | s :: δ, [] => by show (back2 δ []).length + 1 = _; rw [back2_len]; rfl
theorem rest_get : ∀ (δ δ' : DS) (i : Nat) (s t : Sl), δ[i]? = some s → δ'[i]? = some t → (restD δ δ')[i]? = some (rest1 s t)
  | [], _, _, _, _, h, _ => by simp at h
  | _ :: _, [], _, _, _, _, h => by simp at h
  | s :: δ, t :: δ', 0, _, _, h, h' => by simp at h h'; subst h h'; rfl
  | s :: δ, t :: δ', i + 1, _, _, h, h' => by
    show (restD δ δ')[i]? = _
    exact rest_get δ δ' i _ _ (by simpa using h) (by simpa using h')
theorem rest_len : ∀ (δ δ' : DS), (restD δ δ').length = δ.length
  | [], _ => rfl
  | s :: δ, t :: δ' => by show (restD δ δ').length + 1 = _; rw [rest_len]; rfl
  | s :: δ, [] => by show (restD δ []).length + 1 = _; rw [rest_len]; rfl
section
variable {G : Ct} {C' : Cf} {δ δ2 : DS} {σ σ2 : L2.St} {F H F2 H2 : Hp} {vs : List Nat}
def Ct.to (G : Ct) (C' : Cf) : Ct := { G with C := C' }
theorem St1.to (k : St1 G δ σ F H) (hK : C'.K = G.K) : St1 (G.to C') δ σ F H := by
  refine ⟨k.len, k.fh, k.f0, k.h0, k.fn, fun i s e => ?_, k.di, k.ma⟩
  have z := k.sl i s e
  have eK : (G.to C').K = G.K := hK
  cases s with
  | no => trivial
  | fz d => obtain ⟨v, a, b⟩ := z; exact ⟨v, a, by rw [eK]; exact b⟩
  | own c => obtain ⟨p, o, a1, a2, a3, a4, a5⟩ := z; exact ⟨p, o, a1, a2, a3, by rw [eK]; exact a4, a5⟩
  | arg c => obtain ⟨p, o, a1, a2, a3, a4, a5⟩ := z; exact ⟨p, o, a1, a2, a3, by rw [eK]; exact a4, a5⟩
theorem VlOk.to {v : V} {c : Co} (w : VlOk G δ σ F H v (.own c)) (hK : C'.K = G.K) : VlOk (G.to C') δ σ F H v (.own c) := by
  obtain ⟨p, o, rfl, h1, h2, h3, h4, h5⟩ := w
  exact ⟨p, o, rfl, h1, h2, by rw [show (G.to C').K = G.K from hK]; exact h3, h4, h5⟩
/-- behind a block's beginning: its slots as ours -/
theorem blk_out2 (k : St1 G δ σ F H) (hK : C'.K = G.K) (k2 : St1 (G.blk C' δ σ F H) δ2 σ2 F2 H2) (hl : σ2.length = σ.length) : St1 (G.to C') (back2 δ δ2) σ2 F2 H2 ∧ ∀ (i : Nat) (t : Sl) (p : Addr), δ[i]? = some t → t.held = true → σ[i]? = some (some (.ref p)) → σ2[i]? = some (some (.ref p)) := by
  have hGK : (G.to C').K = G.K := hK
  have hBK : (G.blk C' δ σ F H).K = G.K := hK
  have both : ∀ i s, (back2 δ δ2)[i]? = some s → ∃ t u, δ[i]? = some t ∧ δ2[i]? = some u ∧ s = back2a t u := fun i s e => by
    have hlt : i < δ.length := by
      have := (List.getElem?_eq_some_iff.mp e).1
      rw [back2_len] at this
      exact this
    have hlt2 : i < δ2.length := by rw [k2.len, hl, ← k.len]; exact hlt
    obtain ⟨t, et⟩ : ∃ t, δ[i]? = some t := ⟨_, List.getElem?_eq_getElem hlt⟩
    obtain ⟨u, eu⟩ : ∃ u, δ2[i]? = some u := ⟨_, List.getElem?_eq_getElem hlt2⟩
    rw [back2_get δ δ2 i t u et eu] at e
    exact ⟨t, u, et, eu, (Option.some.inj e).symm⟩
  have zz : ∀ (i : Nat) (t : Sl) (p : Addr), δ[i]? = some t → t.held = true → σ[i]? = some (some (.ref p)) → σ2[i]? = some (some (.ref p)) ∧ ∃ c o, δ2[i]? = some (.arg c) ∧ H2 p = some o ∧ F2 p = none ∧ CoOk G.K F2 c o := fun i t p et th e1 => by
    have em := blk_M_of (G := G) (C' := C') (F := F) (H := H) et th e1
    obtain ⟨c, hc⟩ := k2.ma i p em
    obtain ⟨q, o, a1, a2, a3, a4, a5⟩ := k2.sl i _ hc
    rw [em] at a5
    cases a5
    exact ⟨a1, c, o, hc, a2, a3, by rw [← hBK]; exact a4⟩
  refine ⟨⟨by rw [back2_len, k.len, hl], k2.fh, k.f0.trans k2.f0, fun b o hm e => k2.h0 b o (fun i hi => ?_) (k.h0 b o hm e), fun b z => ?_, fun i s e => ?_, fun i j s t p hij e1 e2 q1 q2 r1 r2 => ?_, fun i p e => ?_⟩, fun i t p et th e1 => (zz i t p et th e1).1⟩
  · obtain ⟨s, h1, h2, h3⟩ := blk_M hi
    have z := k.sl i s h1
    cases s with
    | own c =>
      obtain ⟨p, o', a1, a2, a3, a4, a5, a6⟩ := z
      rw [h3] at a1
      cases a1
      have e : G.H0 b = some o := e
      rw [a6] at e
      cases e
    | arg c => obtain ⟨p, o', a1, a2, a3, a4, a5⟩ := z; rw [h3] at a1; cases a1; exact hm i a5
    | _ => cases h2
  · rcases k2.fn b z with q | q
    · exact k.fn b q
    · exact .inr (k.new0 q)
  · obtain ⟨t, u, et, eu, rfl⟩ := both i s e
    have fzc : ∀ d, u = .fz d → SlOk (G.to C') F2 H2 i σ2[i]? (.fz d) := fun d hd => by
      subst hd
      obtain ⟨v, a, b⟩ := k2.sl i _ eu
      exact ⟨v, a, by rw [hGK, ← hBK]; exact b⟩
    have z := k.sl i t et
    cases t with
    | own c =>
      obtain ⟨p, o, a1, a2, a3, a4, a5, a6⟩ := z
      obtain ⟨b0, c', o', b1, b2, b3, b4⟩ := zz i _ p et rfl a1
      rw [eu] at b1
      cases b1
      exact ⟨p, o', b0, b2, b3, by rw [hGK]; exact b4, a5, a6⟩
    | arg c =>
      obtain ⟨p, o, a1, a2, a3, a4, a5⟩ := z
      obtain ⟨b0, c', o', b1, b2, b3, b4⟩ := zz i _ p et rfl a1
      rw [eu] at b1
      cases b1
      exact ⟨p, o', b0, b2, b3, by rw [hGK]; exact b4, a5⟩
    | no => cases u with
      | fz d => exact fzc d rfl
      | _ => trivial
    | fz d => cases u with
      | fz d => exact fzc d rfl
      | _ => trivial
  · have get : ∀ (m : Nat) (u : Sl) (b : Addr), (back2 δ δ2)[m]? = some u → u.held = true → σ2[m]? = some (some (.ref b)) → ∃ u', δ[m]? = some u' ∧ u'.held = true ∧ σ[m]? = some (some (.ref b)) := fun m u b e q r => by
      obtain ⟨t, u', et, eu, rfl⟩ := both m u e
      have ht : t.held = true := by cases t <;> first | rfl | (cases u' <;> exact q)
      obtain ⟨c, hc⟩ : ∃ c, t.co = some c := by cases t <;> first | exact ⟨_, rfl⟩ | cases ht
      obtain ⟨p, o, p1, _⟩ := k.held et hc
      have := (zz m t p et ht p1).1
      rw [r] at this
      cases this
      exact ⟨t, et, ht, p1⟩
    obtain ⟨u1, a1, b1, c1⟩ := get i s p e1 q1 r1
    obtain ⟨u2, a2, b2, c2⟩ := get j t p e2 q2 r2
    exact k.di i j u1 u2 p hij a1 a2 b1 b2 c1 c2
  · obtain ⟨c, hc⟩ := k.ma i p e
    obtain ⟨q, o, a1, a2, a3, a4, a5⟩ := k.sl i _ hc
    obtain ⟨_, c', o', b1, _⟩ := zz i _ q hc rfl a1
    exact ⟨c', by rw [back2_get δ δ2 i _ _ hc b1]; rfl⟩
theorem blk_val2 (k : St1 G δ σ F H) (hK : C'.K = G.K) (k2 : St1 (G.blk C' δ σ F H) δ2 σ2 F2 H2) (hl : σ2.length = σ.length) {v : V} {c : Co} (w : VlOk G δ σ F H v (.own c)) : VlOk (G.to C') (back2 δ δ2) σ2 F2 H2 v (.own c) := by
  obtain ⟨kk, addr⟩ := blk_out2 k hK k2 hl
  obtain ⟨p, o, rfl, h1, h2, h3, h4, h5⟩ := w
  refine ⟨p, o, rfl, k2.h0 p o (fun i hi => ?_) h1, ?_, by rw [show (G.to C').K = G.K from hK]; exact h3.mono k2.f0, h4, fun i s e q r => ?_⟩
  · obtain ⟨s, a1, a2, a3⟩ := blk_M hi
    exact h5 i s a1 a2 a3
  · cases e : F2 p with
    | none => rfl
    | some u =>
      rcases k2.fn p (by rw [e]; simp) with z | z
      · exact absurd h2 z
      · have z : H p = none := z
        rw [h1] at z
        cases z
  · have hlt : i < δ.length := by
      have := (List.getElem?_eq_some_iff.mp e).1
      rw [back2_len] at this
      exact this
    have hlt2 : i < δ2.length := by rw [k2.len, hl, ← k.len]; exact hlt
    obtain ⟨t, et⟩ : ∃ t, δ[i]? = some t := ⟨_, List.getElem?_eq_getElem hlt⟩
    obtain ⟨u', eu⟩ : ∃ u, δ2[i]? = some u := ⟨_, List.getElem?_eq_getElem hlt2⟩
    rw [back2_get δ δ2 i t u' et eu] at e
    cases e
    have ht : t.held = true := by cases t <;> first | rfl | (cases u' <;> exact q)
    obtain ⟨c, hc⟩ : ∃ c, t.co = some c := by cases t <;> first | exact ⟨_, rfl⟩ | cases ht
    obtain ⟨p', o', p1, _⟩ := k.held et hc
    have := addr i t p' et ht p1
    rw [r] at this
    cases this
    exact h5 i t et ht p1
/-- back at the slots that were -/
theorem rest_out (k : St1 G δ σ F H) {δ1 : DS} {σ1 : L2.St} {F1 H1 : Hp} {G' : Ct} (hG : G' = G.to C') (hK : C'.K = G.K) (k1 : St1 G' δ1 σ1 F1 H1) (ff : Same F F1) (hl : σ1.length = σ.length)
    (ad : ∀ (i : Nat) (t : Sl) (p : Addr), δ[i]? = some t → t.held = true → σ[i]? = some (some (.ref p)) → σ1[i]? = some (some (.ref p)))
    (own : ∀ (i : Nat) (c : Co), δ[i]? = some (.own c) → ∃ c', δ1[i]? = some (.own c')) : St1 G (restD δ δ1) σ F1 H1 := by
  subst hG
  have hGK : (G.to C').K = G.K := hK
  have both : ∀ i s, (restD δ δ1)[i]? = some s → ∃ t u, δ[i]? = some t ∧ δ1[i]? = some u ∧ s = rest1 t u := fun i s e => by
    have hlt : i < δ.length := by
      have := (List.getElem?_eq_some_iff.mp e).1
      rw [rest_len] at this
      exact this
    have hlt2 : i < δ1.length := by rw [k1.len, hl, ← k.len]; exact hlt
    obtain ⟨t, et⟩ : ∃ t, δ[i]? = some t := ⟨_, List.getElem?_eq_getElem hlt⟩
    obtain ⟨u, eu⟩ : ∃ u, δ1[i]? = some u := ⟨_, List.getElem?_eq_getElem hlt2⟩
    rw [rest_get δ δ1 i t u et eu] at e
    exact ⟨t, u, et, eu, (Option.some.inj e).symm⟩
  refine ⟨by rw [rest_len]; exact k.len, k1.fh, k.f0.trans ff, k1.h0, k1.fn, fun i s e => ?_, fun i j s t p hij e1 e2 q1 q2 r1 r2 => ?_, fun i p e => ?_⟩
  · obtain ⟨t, u, et, eu, rfl⟩ := both i s e
    have z := k.sl i t et
    cases t with
    | no => trivial
    | fz d =>
      obtain ⟨v, a, b⟩ := z
      exact ⟨v, a, dp_mono ff _ _ b⟩
    | own c =>
      obtain ⟨p, o, a1, a2, a3, a4, a5, a6⟩ := z
      obtain ⟨c', hc'⟩ := own i c et
      rw [eu] at hc'
      cases hc'
      obtain ⟨p', o', b1, b2, b3, b4, b5⟩ := k1.sl i _ eu
      rw [ad i _ p et rfl a1] at b1
      cases b1
      exact ⟨p, o', a1, b2, b3, by rw [← hGK]; exact b4, a5, a6⟩
    | arg c =>
      obtain ⟨p, o, a1, a2, a3, a4, a5⟩ := z
      obtain ⟨c', hc'⟩ := k1.ma i p a5
      rw [eu] at hc'
      cases hc'
      obtain ⟨p', o', b1, b2, b3, b4, b5⟩ := k1.sl i _ eu
      rw [ad i _ p et rfl a1] at b1
      cases b1
      exact ⟨p, o', a1, b2, b3, by rw [← hGK]; exact b4, a5⟩
  · have get : ∀ (m : Nat) (u : Sl), (restD δ δ1)[m]? = some u → u.held = true → ∃ u', δ[m]? = some u' ∧ u'.held = true := fun m u e q => by
      obtain ⟨t, u', et, eu, rfl⟩ := both m u e
      exact ⟨t, et, by cases t <;> first | rfl | (cases u' <;> exact q)⟩
    obtain ⟨u1, a1, b1⟩ := get i s e1 q1
    obtain ⟨u2, a2, b2⟩ := get j t e2 q2
    exact k.di i j u1 u2 p hij a1 a2 b1 b2 r1 r2
  · obtain ⟨c, hc⟩ := k.ma i p e
    obtain ⟨c', hc'⟩ := k1.ma i p e
    exact ⟨c', by rw [rest_get δ δ1 i _ _ hc hc']; rfl⟩
end
/-- the kinds of slots that a block leaves -/
theorem turnL_own {vs : List Nat} {g : Dg} {tt : Dt} {te : De} {d : D} {δ δ1 : DS} {o : Option D} (h : turnL vs g tt te d δ = .ok o δ1) : ∃ δ', δ1 = back δ δ' := by
  unfold turnL backR at h
  split at h
  · cases h; exact ⟨_, rfl⟩
  · cases h
def oneTurn2 (vs vs1 : List Nat) (g : Dg) (tt : Dt) (ti1 : Di) (g1 : Dg) (tt1 : Dt) (te : De) (d : D) (δ : DS) : R (List D) := match g d (wipeD (δ.map toArg) vs) with
  | .ok .nx δ2 => match tt δ2 with
    | .ok true δ3 => match ti1 δ3 with
      | .ok ds1 δ4 => match freeAt vs1 (back2 δ δ4) with
        | true => match compL (turnL vs1 g1 tt1 te) ds1 (back2 δ δ4) with
          | .ok l δ7 => .ok l (restD δ δ7)
          | _ => .bad
        | false => .bad
      | _ => .bad
    | .ok false δ3 => .ok [] (back δ δ3)
    | _ => .bad
  | _ => .bad
def compLL (f : D → DS → R (List D)) : List D → DS → R (List D)
  | [], δ => .ok [] δ
  | d :: ds, δ => match f d δ with
    | .ok o δ1 => match compLL f ds δ1 with
      | .ok l δ2 => .ok (o ++ l) δ2
      | _ => .bad
    | _ => .bad
def dLc2 (vs vs1 : List Nat) (ti : Di) (g : Dg) (tt : Dt) (ti1 : Di) (g1 : Dg) (tt1 : Dt) (te : De) : De := fun δ => (ti δ).bind fun ds δ1 => okIf (freeAt vs δ1) (match compLL (oneTurn2 vs vs1 g tt ti1 g1 tt1 te) ds δ1 with
  | .ok l δ2 => okIf (small l.length) (.ok (.own (.lst l)) δ2)
  | _ => .bad)
theorem compLL_cons {f : D → DS → R (List D)} {d : D} {ds l : List D} {δ δe : DS} (h : compLL f (d :: ds) δ = .ok l δe) : ∃ o δ1 l', f d δ = .ok o δ1 ∧ compLL f ds δ1 = .ok l' δe ∧ l = o ++ l' := by
  unfold compLL at h
  cases e : f d δ with
  | ok o δ1 =>
    rw [e] at h
    simp only at h
    cases e2 : compLL f ds δ1 with
    | ok l' δ2 =>
      rw [e2] at h
      cases h
      exact ⟨o, δ1, l', rfl, e2, rfl⟩
    | ex c s => rw [e2] at h; cases h
    | bad => rw [e2] at h; cases h
  | ex c s => rw [e] at h; cases h
  | bad => rw [e] at h; cases h
theorem back_own {δ δ' : DS} {i : Nat} {c c' : Co} (h : δ[i]? = some (.own c)) (h' : δ'[i]? = some (.arg c')) : (back δ δ')[i]? = some (.own c') := back_get δ δ' i _ _ h h'
theorem back_isOwn : ∀ {δ δ' : DS} {i : Nat} {c : Co}, δ[i]? = some (.own c) → ∃ c', (back δ δ')[i]? = some (.own c')
  | [], _, _, _, h => by simp at h
  | s :: δ, [], 0, c, h => by simp at h; subst h; exact ⟨c, rfl⟩
  | s :: δ, [], i + 1, c, h => back_isOwn (δ := δ) (δ' := []) (i := i) (by simpa using h)
  | s :: δ, t :: δ', 0, c, h => by
    simp at h
    subst h
    cases t with
    | arg c' => exact ⟨c', rfl⟩
    | no => exact ⟨c, rfl⟩
    | fz d => exact ⟨c, rfl⟩
    | own d => exact ⟨c, rfl⟩
  | s :: δ, t :: δ', i + 1, c, h => back_isOwn (δ := δ) (δ' := δ') (i := i) (by simpa using h)
theorem compL_own {vs : List Nat} {g : Dg} {tt : Dt} {te : De} : ∀ {ds l : List D} {δ δe : DS}, compL (turnL vs g tt te) ds δ = .ok l δe → ∀ (i : Nat) (c : Co), δ[i]? = some (.own c) → ∃ c', δe[i]? = some (.own c')
  | [], _, _, _, h, i, c, e => by cases h; exact ⟨c, e⟩
  | d :: ds, l, δ, δe, h, i, c, e => by
    obtain ⟨o, δ1, l', e1, e2, _⟩ := compL_cons h
    obtain ⟨δ', rfl⟩ := turnL_own e1
    obtain ⟨c', hc'⟩ := back_isOwn (δ' := δ') e
    exact compL_own e2 i c' hc'
theorem freeAt_rest : ∀ {vs : List Nat} {δ δ' : DS}, freeAt vs δ = true → freeAt vs (restD δ δ') = true := fun {vs δ δ'} h => by
  refine List.all_eq_true.mpr fun i hi => ?_
  have z := List.all_eq_true.mp h i hi
  cases e : (restD δ δ')[i]? with
  | none => rfl
  | some s =>
    have hlt : i < δ.length := by
      have := (List.getElem?_eq_some_iff.mp e).1
      rw [rest_len] at this
      exact this
    obtain ⟨t, et⟩ : ∃ t, δ[i]? = some t := ⟨_, List.getElem?_eq_getElem hlt⟩
    rw [et] at z
    have bk : ∀ (δ δ' : DS) (i : Nat) (s t : Sl), δ[i]? = some t → (restD δ δ')[i]? = some s → t.held = false → s.held = false := by
      intro δ
      induction δ with
      | nil => intro δ' i s t h; simp at h
      | cons u δ ih =>
        intro δ' i s t h h' hh
        cases δ' with
        | nil => cases i with
          | zero => simp at h; subst h; simp [restD] at h'; subst h'; exact hh
          | succ i => exact ih [] i s t (by simpa using h) (by simpa [restD] using h') hh
        | cons u' δ' => cases i with
          | zero =>
            simp at h
            subst h
            simp [restD] at h'
            subst h'
            cases u with
            | own c => cases hh
            | arg c => cases hh
            | no => cases u' <;> rfl
            | fz d => cases u' <;> rfl
          | succ i => exact ih δ' i s t (by simpa using h) (by simpa [restD] using h') hh
    have th : t.held = false := by simpa using z
    have sh := bk δ δ' i s t et e th
    show (!s.held) = true
    rw [sh]
    rfl
section
variable {X : Cx} {C : Cf} {e a b c : Expr} {ta tb tc : De} {pos : Pos}
/-- what one outer turn asks -/
theorem lc2_turn {G : Ct} {δ : DS} {σ : L2.St} {F H : Hp} {vs vs1 ts ts1 : List Nat} {g : Dg} {tt : Dt} {ti1 : Di} {g1 : Dg} {tt1 : Dt} {te : De} {d : D} {l : List D} {δ1 : DS} {x : V} {p : Addr} {acc : List D} {Nx : Hp → Prop} (k : St1 G δ σ F H) (w : Dp G.K F x d) (hts : ∀ t ∈ ts, t ∈ vs) (hts1 : ∀ t ∈ ts1, t ∈ vs1) (hv : freeAt vs δ = true)
    (wa : VlOk G δ σ F H (.ref p) (.own (.lst acc))) (sz : acc.length + l.length ≤ 100000) (e : oneTurn2 vs vs1 g tt ti1 g1 tt1 te d δ = .ok l δ1)
    (q : ∀ F' H', St1 G δ1 σ F' H' → Same F F' → VlOk G δ1 σ F' H' (.ref p) (.own (.lst (acc ++ l))) → Nx H') :
    upG (nox G.C) ts g x (wipe σ vs) H fun σ2 H2 => wipe σ2 vs = wipe σ vs ∧ upT (nox G.C) tt σ2 H2 fun b H3 =>
      if b = true then upI (nox G.C) ti1 σ2 H3 fun J1 H4 => ∃ W1 : Nat → Nat → Hp → Prop, (∃ m, W1 0 m H4) ∧ ∀ j k H, W1 j k H →
        (J1.stop j H ∧ Nx H) ∨ (J1.go j H ∧ ∃ Nx1 : Hp → Prop, (∀ H', Nx1 H' → ∃ k', k' < k ∧ W1 (j + 1) k' H') ∧ ∀ x H', J1.yld j H x H' → upG (nox G.C) ts1 g1 x (wipe σ2 vs1) H' fun σ3 H5 => wipe σ3 vs1 = wipe σ2 vs1 ∧ upT (nox G.C) tt1 σ3 H5 fun b H6 =>
          if b = true then up (nox G.C) te σ3 H6 fun y H7 => ∃ acc, H7 p = some (.lst acc) ∧ acc.length < sizeLine ∧ Nx1 (upd H7 p (.lst (acc ++ [y]))) else Nx1 H6)
      else Nx H3 := by
  have kb := blk_in (C' := nox G.C) (vs := vs) k rfl hv
  unfold oneTurn2 at e
  refine ⟨G.blk (nox G.C) δ σ F H, _, F, d, rfl, kb, w, ?_⟩
  cases e1 : g d (wipeD (δ.map toArg) vs) with
  | ex cc s => rw [e1] at e; cases e
  | bad => rw [e1] at e; cases e
  | ok og δ2 =>
    rw [e1] at e
    cases og with
    | bk => cases e
    | ct => cases e
    | rt v => cases e
    | nx =>
      intro σ2 F2 H2 k2 g2 a2
      have wl : σ2.length = (wipe σ vs).length := a2.2
      refine ⟨?_, ?_⟩
      · have z : wipe σ2 vs = wipe (wipe σ vs) vs := wipe_eq (fun j hj => a2.1 j fun z => hj (hts j z)) wl
        rw [z]
        exact wipe_eq (fun j hj => wipe_out hj) (wipe_length σ vs)
      rw [wipe_length] at wl
      simp only at e
      refine ⟨G.blk (nox G.C) δ σ F H, δ2, F2, rfl, k2, ?_⟩
      cases e2 : tt δ2 with
      | ex cc s => rw [e2] at e; cases e
      | bad => rw [e2] at e; cases e
      | ok b δ3 =>
        rw [e2] at e
        intro b' F3 H3 k3 g3 w3
        have w3 : b' = b := w3
        subst w3
        cases b' with
        | false =>
          refine iteF ?_
          cases e
          have k4 := blk_out (C' := nox G.C) k rfl k3 wl
          refine q F3 H3 k4 (g2.trans g3) ?_
          have := blk_val k k3 wl wa
          rw [List.append_nil]
          exact this
        | true =>
          simp only at e
          refine iteT ⟨G.blk (nox G.C) δ σ F H, δ3, F3, rfl, k3, ?_⟩
          cases e3 : ti1 δ3 with
          | ex cc s => rw [e3] at e; cases e
          | bad => rw [e3] at e; cases e
          | ok ds1 δ4 =>
            rw [e3] at e
            simp only at e
            cases ev : freeAt vs1 (back2 δ δ4) with
            | false => rw [ev] at e; cases e
            | true =>
              rw [ev] at e
              simp only at e
              cases e5 : compL (turnL vs1 g1 tt1 te) ds1 (back2 δ δ4) with
              | ex cc s => rw [e5] at e; cases e
              | bad => rw [e5] at e; cases e
              | ok l' δ7 =>
                rw [e5] at e
                cases e
                intro J1 F4 H4 k4 g4 w4
                have w4 : ItOk G.K J1 F4 ds1 := w4
                obtain ⟨k5, addr⟩ := blk_out2 (C' := nox G.C) k rfl k4 wl
                have wa5 := blk_val2 (C' := nox G.C) k rfl k4 wl wa
                have fin : ∀ (δ9 : DS) (F9 H9 : Hp), St1 (G.to (nox G.C)) δ9 σ2 F9 H9 → Same F4 F9 → VlOk (G.to (nox G.C)) δ9 σ2 F9 H9 (.ref p) (.own (.lst (acc ++ l))) → δ9 = δ7 → Nx H9 := fun δ9 F9 H9 k9 g9 w9 e9 => by
                  subst e9
                  have gg : Same F F9 := ((g2.trans g3).trans g4).trans g9
                  have own9 : ∀ (i : Nat) (c : Co), δ[i]? = some (.own c) → ∃ c', δ9[i]? = some (.own c') := fun i c hc => by
                    obtain ⟨pp, oo, a1, _⟩ := k.sl i _ hc
                    have em := blk_M_of (G := G) (C' := nox G.C) (F := F) (H := H) hc rfl a1
                    obtain ⟨c', hc'⟩ := k4.ma i pp em
                    have e5' : (back2 δ δ4)[i]? = some (.own c') := back2_get δ δ4 i _ _ hc hc'
                    exact compL_own e5 i c' e5'
                  refine q F9 H9 (rest_out (C' := nox G.C) k rfl rfl k9 gg wl addr own9) gg ?_
                  obtain ⟨p', o, ep, h1, h2, h3, h4, h5⟩ := w9
                  cases ep
                  refine ⟨p, o, rfl, h1, h2, h3, h4, fun i s es hs r => ?_⟩
                  have hlt : i < δ.length := by
                    have := (List.getElem?_eq_some_iff.mp es).1
                    rw [rest_len] at this
                    exact this
                  obtain ⟨t, et⟩ : ∃ t, δ[i]? = some t := ⟨_, List.getElem?_eq_getElem hlt⟩
                  have hlt2 : i < δ9.length := by rw [k9.len, wl, ← k.len]; exact hlt
                  obtain ⟨u, eu⟩ : ∃ u, δ9[i]? = some u := ⟨_, List.getElem?_eq_getElem hlt2⟩
                  rw [rest_get δ δ9 i t u et eu] at es
                  cases es
                  have ht : t.held = true := by cases t <;> first | rfl | (cases u <;> exact hs)
                  obtain ⟨_, _, _, _, _, _, _, h5'⟩ := wa
                  rename_i ep' _ _ _ _
                  cases ep'
                  exact h5' i t et ht r
                refine ⟨fun j m H => m = ds1.length - j ∧ j ≤ ds1.length ∧ ∃ δ F acc1 l1, St1 (G.to (nox G.C)) δ σ2 F H ∧ Same F4 F ∧ freeAt vs1 δ = true ∧ VlOk (G.to (nox G.C)) δ σ2 F H (.ref p) (.own (.lst (acc ++ acc1))) ∧ compL (turnL vs1 g1 tt1 te) (ds1.drop j) δ = .ok l1 δ7 ∧ acc1 ++ l1 = l,
                  ⟨ds1.length, by simp, Nat.zero_le _, _, F4, [], l, k5, Same.refl F4, ev, by rw [List.append_nil]; exact wa5, e5, rfl⟩, ?_⟩
                rintro j m H8 ⟨rfl, hj, δ8, F8, acc1, l1, k8, g8, hv8, wa8, e8, rfl⟩
                obtain ⟨wgo, wst⟩ := w4 F8 H8 g8 k8.fh j
                by_cases hlt : j < ds1.length
                · right
                  obtain ⟨go, yl⟩ := wgo ds1[j] (List.getElem?_eq_getElem hlt)
                  rw [List.drop_eq_getElem_cons hlt] at e8
                  obtain ⟨o, δ9, l2, e9, e10, rfl⟩ := compL_cons e8
                  refine ⟨go, fun H' => ∃ F', St1 (G.to (nox G.C)) δ9 σ2 F' H' ∧ Same F4 F' ∧ VlOk (G.to (nox G.C)) δ9 σ2 F' H' (.ref p) (.own (.lst ((acc ++ acc1) ++ o.toList))), fun H' ⟨F', q1, q2, q3⟩ => ⟨ds1.length - (j + 1), by omega, rfl, hlt, δ9, F', acc1 ++ o.toList, l2, q1, q2, ?_, by rw [← List.append_assoc]; exact q3, e10, by rw [List.append_assoc]⟩, fun x H9 y => ?_⟩
                  · obtain ⟨δ', rfl⟩ := turnL_own e9
                    exact freeAt_back hv8
                  · obtain ⟨F9, f1, f2, f3, f4, w9⟩ := yl x H9 y
                    have k9 := grow_it k8 f1 f2 f3 f4
                    have szz : (acc ++ acc1).length ≤ 100000 := by
                      simp only [List.length_append] at sz ⊢
                      omega
                    exact lc_turn (G := G.to (nox G.C)) k9 w9 hts1 hv8 (wa8.grow f1 f3 f4) (decide_eq_true szz) e9 fun F' H' q1 q2 q3 => ⟨F', q1, (g8.trans f1).trans q2, q3⟩
                · left
                  have ej : j = ds1.length := by omega
                  subst ej
                  rw [List.drop_length] at e8
                  cases e8
                  rw [List.append_nil] at fin
                  exact ⟨wst rfl, fin δ7 F8 H8 k8 g8 wa8 rfl⟩
theorem rf_lc2 {vs vs1 ts ts1 : List Nat} {ti : Di} {g : Dg} {tt : Dt} {ti1 : Di} {g1 : Dg} {tt1 : Dt} {te : De} (hts : ∀ t ∈ ts, t ∈ vs) (hts1 : ∀ t ∈ ts1, t ∈ vs1) : ∀ σ H Q, up C (dLc2 vs vs1 ti g tt ti1 g1 tt1 te) σ H Q →
    tLc2 (upI C ti) (upG (nox C) ts g) (upT (nox C) tt) (upI (nox C) ti1) (upG (nox C) ts1 g1) (upT (nox C) tt1) (up (nox C) te) vs vs1 σ H Q := fun σ H Q ⟨G, δ, F, hC, k, h⟩ => by
  subst hC
  refine ⟨G, δ, F, rfl, k, finA_bind h fun ds δ1 J F1 H1 k1 g1 w1 h1 => ?_⟩
  have w1 : ItOk G.K J F1 ds := w1
  obtain ⟨z2, h2⟩ := okIf_fin h1
  cases ec : compLL (oneTurn2 vs vs1 g tt ti1 _ tt1 te) ds δ1 with
  | ex c s => rw [ec] at h2; exact h2.elim
  | bad => rw [ec] at h2; exact h2.elim
  | ok L δe =>
    rw [ec] at h2
    obtain ⟨z1, h3⟩ := okIf_fin h2
    have z1' : L.length ≤ 100000 := of_decide_eq_true z1
    intro p hp
    refine ⟨fun i m H => m = ds.length - i ∧ i ≤ ds.length ∧ ∃ δ F acc l, St1 G δ σ F H ∧ Same F1 F ∧ freeAt vs δ = true ∧ VlOk G δ σ F H (.ref p) (.own (.lst acc)) ∧ compLL (oneTurn2 vs vs1 g tt ti1 _ tt1 te) (ds.drop i) δ = .ok l δe ∧ acc ++ l = L,
      ⟨ds.length, by simp, Nat.zero_le _, δ1, F1, [], L, k1.newOwn hp, Same.refl F1, z2, k1.valOwn hp ⟨[], rfl, .nil⟩, ec, rfl⟩, ?_⟩
    rintro i m H2 ⟨rfl, hi, δ2, F2, acc, l, k2, g2, hv, wa, e2, rfl⟩
    obtain ⟨wgo, wst⟩ := w1 F2 H2 g2 k2.fh i
    by_cases hlt : i < ds.length
    · right
      obtain ⟨go, yl⟩ := wgo ds[i] (List.getElem?_eq_getElem hlt)
      rw [List.drop_eq_getElem_cons hlt] at e2
      obtain ⟨o, δ3, l', e3, e4, rfl⟩ := compLL_cons e2
      have hv3 : freeAt vs δ3 = true := by
        unfold oneTurn2 at e3
        split at e3
        · split at e3
          · split at e3
            · split at e3
              · split at e3
                · cases e3; exact freeAt_rest hv
                · cases e3
              · cases e3
            · cases e3
          · cases e3; exact freeAt_back hv
          · cases e3
        · cases e3
      refine ⟨go, fun H' => ∃ F', St1 G δ3 σ F' H' ∧ Same F1 F' ∧ VlOk G δ3 σ F' H' (.ref p) (.own (.lst (acc ++ o))), fun H' ⟨F', q1, q2, q3⟩ => ⟨ds.length - (i + 1), by omega, rfl, hlt, δ3, F', acc ++ o, l', q1, q2, hv3, q3, e4, by rw [List.append_assoc]⟩, fun x H3 y => ?_⟩
      obtain ⟨F3, f1, f2, f3, f4, w3⟩ := yl x H3 y
      have k3 := grow_it k2 f1 f2 f3 f4
      have szz : acc.length + o.length ≤ 100000 := by
        simp only [List.length_append] at z1'
        omega
      exact lc2_turn k3 w3 hts hts1 hv (wa.grow f1 f3 f4) szz e3 fun F' H' q1 q2 q3 => ⟨F', q1, (g2.trans f1).trans q2, q3⟩
    · left
      have e : i = ds.length := by omega
      subst e
      refine ⟨wst rfl, ?_⟩
      rw [List.drop_length] at e2
      cases e2
      rw [List.append_nil] at h3
      exact h3 (.ref p) F2 H2 k2 g2 wa
theorem pd_lc2 {elt tg iter tg1 iter1 : Expr} {ifs ifs1 : List Expr} {scope : Scope} {own : List (Str × Nat)} {vs1 ts ts1 : List Nat} {ti ti1 : Di} {g g1 : Dg} {tt tt1 : Dt} {te : De} (hi : PI X tg iter (upI C ti)) (hN : X.N.Nodup) (ok : BlkOk X.N X.env.scope scope own)
    (hg : ∀ (s : Shared) (H : Hp) (Ca : Addr) (cl : List (Str × Addr)) (fp : List Addr), PG (X.blk s H scope (compEnvC scope cl Ca X.env) fp) tg (upG (nox C) ts g)) (ht : ∀ (s : Shared) (H : Hp) (Ca : Addr) (cl : List (Str × Addr)) (fp : List Addr), PTs (X.blk s H scope (compEnvC scope cl Ca X.env) fp) ifs (upT (nox C) tt))
    (hi1 : ∀ (s : Shared) (H : Hp) (Ca : Addr) (cl : List (Str × Addr)) (fp : List Addr), PI (X.blk s H scope (compEnvC scope cl Ca X.env) fp) tg1 iter1 (upI (nox C) ti1))
    (hg1 : ∀ (s : Shared) (H : Hp) (Ca : Addr) (cl : List (Str × Addr)) (fp : List Addr), PG (X.blk s H scope (compEnvC scope cl Ca X.env) fp) tg1 (upG (nox C) ts1 g1)) (ht1 : ∀ (s : Shared) (H : Hp) (Ca : Addr) (cl : List (Str × Addr)) (fp : List Addr), PTs (X.blk s H scope (compEnvC scope cl Ca X.env) fp) ifs1 (upT (nox C) tt1))
    (he : ∀ (s : Shared) (H : Hp) (Ca : Addr) (cl : List (Str × Addr)) (fp : List Addr), PE (X.blk s H scope (compEnvC scope cl Ca X.env) fp) elt (up (nox C) te)) (hv : ∀ i ∈ vs1, i ∈ own.map (·.2) := by decide) (hts : ∀ t ∈ ts, t ∈ own.map (·.2) := by decide) (hts1 : ∀ t ∈ ts1, t ∈ vs1 := by decide) (hc : X.calm = true := by rfl)
    (hs : ∀ x, foldedSetIterable iter X.env x = pure x := by intro _; rfl) (hs1 : ∀ env x, foldedSetIterable iter1 env x = pure x := by intro _ _; rfl) :
    PE X (.ListComp elt [⟨tg, iter, ifs, 0⟩, ⟨tg1, iter1, ifs1, 0⟩] scope pos) (up C (dLc2 (own.map (·.2)) vs1 ti g tt ti1 g1 tt1 te)) := pe_weak (pe_lc2 hc hN hi ok hv hg ht hi1 hg1 ht1 he hs hs1) (rf_lc2 hts hts1)
end
end DL

set_option Elab.async false
set_option linter.all false
set_option maxRecDepth 100000
set_option autoImplicit false
namespace DL
open PySem PySem.Spec PyProof.Rows L2
/-- a def that stands at its name and keeps its promise -/
structure Cal (P : Program) (w : World) (K : PySem.W.Frag) (mg : Str → Option Value) (base : Heap) (k : Nat) (x : Str) (ps : List Str) (den : List Sl → R Vl) : Prop where
  ex : ∃ (f : Addr) (fd : FuncData), FnOk P w K mg base CX0 k f fd ps (dsp K den) ∧ mg x = some (.ref f) ∧ PySem.W.keepIn K (.ref f) = true ∧ Binds K fd ps []
section
variable {X : Cx} {C : Cf} {e a b c : Expr} {ta tb tc : De} {pos : Pos} {k : Nat} {ps : List Str} {x : Str}
theorem pd_cal {es : List Expr} {p : Pos} {den : List Sl → R Vl} {al : Da} (F : Cal X.prog X.w X.K X.mg X.base k x ps den) (hr : Room k X.A) (ha : PA X (e :: es) (upA C al)) (hK : C.K = X.K := by rfl) (hE : ∀ (σ : L2.St) (c : Value) (H : Hp), C.E σ c none H → False := by exact fun _ _ _ h => h) (hg : Gl X x := by rfl) (hdb : (x == ("__debug__" : Str)) = false := by decide) (he : starEach (e :: es) X.env = (false, eval e X.env) :: starEach es X.env := by rfl) (hpl : (backTo pos (starEach es X.env)).any (·.1) = false := by rfl) :
    PE X (.Call (.Name x p) (e :: es) [] pos) (up C (dCall den al)) := by
  obtain ⟨f, fd, Fn, hm, hk, hb⟩ := F.ex
  exact pd_call (C := C) (by rw [hK]; exact Fn) hr hm hk hb ha hE hg hdb he hpl
theorem ptd_chain {op op' : CmpOp} {r r' : R2} {f g : D → D → Option Vl} (ho : OpR X (compareOp op) r) (o : Op2 C.K r f) (ho' : OpR X (compareOp op') r') (o' : Op2 C.K r' g) (ha : PE X a (up C ta)) (hb : PE X b (up C tb)) (hc : PE X c (up C tc))
    (hp : ∀ (ta tb tc : TE), PE X a ta → PE X b tb → PE X c tc → PT X (.Compare a [op, op'] [b, c] pos) (tTest (tChain r r' ta tb tc)) := by exact fun _ _ _ h1 h2 h3 => pt_chain (by assumption) (by assumption) h1 h2 h3) : PT X (.Compare a [op, op'] [b, c] pos) (upT C (dTest (dChain f g ta tb tc))) := pt_weak (hp _ _ _ ha hb hc) (rf_test (rf_chain o o'))
/-- a, b = e1, e2 where both are plain locals -/
def dPar (i j : Nat) (l : Dl) : Ds := fun δ => (l δ).bind fun ds δ1 => match ds with
  | [d, e] => okIf (okSet δ1 i && okSet δ1 j) (.ok .nx ((δ1.set i (.fz d)).set j (.fz e)))
  | _ => .bad
theorem okSet_set {δ : DS} {i j : Nat} {d : D} (h : okSet δ j = true) : okSet (δ.set i (.fz d)) j = true := by
  unfold okSet at h ⊢
  by_cases hij : i = j
  · subst hij
    cases e : δ[i]? with
    | none => rw [e] at h; cases h
    | some s =>
      rw [List.getElem?_set_self (List.getElem?_eq_some_iff.mp e).1]
  · rw [List.getElem?_set_ne hij]
    exact h
theorem pds_par (i j : Nat) {y z : Str} {px py pt p2 : Pos} {kt k2 : Nat} {tl : Dl} (ha : PA X [a, b] (upL C tl)) (hN : X.N.Nodup) (hp : ∀ (ta : TA), PA X [a, b] ta → PS X (.Assign [.Tuple [.Name y px, .Name z py] kt pt] (.Tuple [a, b] k2 p2) pos) (tPar i j ta)) :
    PS X (.Assign [.Tuple [.Name y px, .Name z py] kt pt] (.Tuple [a, b] k2 p2) pos) (ups C (dPar i j tl)) := ps_weak (hp _ ha) fun D σ H ⟨G, δ, F, hC, k, h⟩ => by
  subst hC
  refine ⟨G, δ, F, rfl, k, finS_bind h fun ds δ1 vs F1 H1 k1 g1 w1 h1 => ?_⟩
  have w1 : DpAll G.K F1 vs ds := w1
  cases w1 with
  | nil => exact h1.elim
  | @cons v vs d ds w ws =>
    cases ws with
    | nil => exact h1.elim
    | @cons u us d2 ds w2 ws =>
      cases ws with
      | cons _ _ => exact h1.elim
      | nil =>
        obtain ⟨z, h2⟩ := okIf_finS h1
        rw [Bool.and_eq_true] at z
        obtain ⟨s1, e1, a1⟩ := okSet_some z.1
        obtain ⟨s2, e2, a2⟩ := okSet_some (okSet_set (i := i) (d := d) z.2)
        exact ⟨v, u, rfl, h2 _ F1 H1 ((k1.setFz e1 a1 w).setFz e2 a2 w2) (Same.refl F1)⟩
/-- xs.extend(e) -/
def isExact (K : PySem.W.Frag) : V → List V → Hp → VK → Prop := fun x vs H Q => ∃ l b xs zs, x = .ref l ∧ vs = [.ref b] ∧ H l = some (.lst xs) ∧ Rd H b (.lst zs) ∧ xs.length + zs.length ≤ sizeLine ∧ Q .non (upd H l (.lst (xs ++ zs)))
end
end DL

set_option Elab.async false
set_option linter.all false
set_option maxRecDepth 100000
set_option autoImplicit false
namespace DL
open PySem PySem.Spec PyProof.Rows L2
/-! ### rows of ints -/
def intsOf : List D → Option (List Int)
  | [] => some []
  | .int i :: ds => (intsOf ds).map (i :: ·)
  | _ :: _ => none
theorem intsOf_some : ∀ {ds : List D} {ns : List Int}, intsOf ds = some ns → ds = ns.map PyData.int
  | [], _, h => by cases h; rfl
  | .int i :: ds, ns, h => by
    have h : (intsOf ds).map (i :: ·) = some ns := h
    cases e : intsOf ds with
    | none => rw [e] at h; cases h
    | some ms =>
      rw [e] at h
      cases h
      rw [intsOf_some e]
      rfl
  | .none :: _, _, h => by cases h
  | .bool _ :: _, _, h => by cases h
  | .str _ :: _, _, h => by cases h
  | .list _ :: _, _, h => by cases h
  | .tuple _ :: _, _, h => by cases h
  | .dict _ :: _, _, h => by cases h
theorem intsOf_map : ∀ ns : List Int, intsOf (ns.map PyData.int) = some ns
  | [] => rfl
  | n :: ns => by
    show (intsOf (ns.map PyData.int)).map (n :: ·) = _
    rw [intsOf_map ns]
    rfl
theorem dpa_int_eq {K : PySem.W.Frag} {F : Hp} : ∀ {ns : List Int} {vs : List V}, DpAll K F vs (ns.map PyData.int) → vs = ns.map V.int
  | [], _, h => by cases h; rfl
  | n :: ns, _, h => by
    cases h with
    | cons h t =>
      cases h
      rw [dpa_int_eq t]
      rfl
section
variable {X : Cx} {C : Cf} {e a b c : Expr} {ta tb tc : De} {pos : Pos}
/-! ### max of a list, of a tuple of ints -/
theorem fold_max : ∀ (ns : List Int) (n : Int), ns.foldl max n ∈ n :: ns ∧ ∀ y ∈ n :: ns, y ≤ ns.foldl max n
  | [], n => by simp
  | m :: ns, n => by
    obtain ⟨h1, h2⟩ := fold_max ns (max n m)
    refine ⟨?_, fun y hy => ?_⟩
    · show ns.foldl max (max n m) ∈ _
      rcases List.mem_cons.mp h1 with h | h
      · rw [h]
        by_cases hc : n ≤ m
        · rw [Int.max_eq_right hc]; simp
        · rw [Int.max_eq_left (by omega)]; simp
      · exact List.mem_cons_of_mem _ (List.mem_cons_of_mem _ h)
    · show y ≤ ns.foldl max (max n m)
      have z := h2 (max n m) List.mem_cons_self
      rcases List.mem_cons.mp hy with rfl | hy
      · omega
      · rcases List.mem_cons.mp hy with rfl | hy
        · omega
        · exact h2 y (List.mem_cons_of_mem _ hy)
def maxI : List Int → Option Vl
  | [] => none
  | n :: ns => some (.fz (.int (ns.foldl max n)))
def fMaxL : D → Option Vl
  | .list ds => (intsOf ds).bind maxI
  | .tuple ds => (intsOf ds).bind maxI
  | _ => none
def rMaxT (K : PySem.W.Frag) : List V → Hp → VK → Prop := fun vs H Q => ∃ (a : Addr) (n : Int) (ns : List Int), vs = [V.ref a] ∧ (SqL K H a ((n :: ns).map V.int) ∨ SqT K H a ((n :: ns).map V.int)) ∧ Q (.int (ns.foldl max n)) H
theorem dpa_ofInts {K : PySem.W.Frag} {F : Hp} : ∀ ns : List Int, L2.DpAll K F (ns.map V.int) (ns.map PyData.int)
  | [] => .nil
  | n :: ns => .cons (.int n) (dpa_ofInts ns)
theorem call_maxT (hc : X.calm = true) (hu : X.A.units + 64 < cLine) : CallR X (.builtin "max") (rMaxT X.K) := by
  intro pins s σ H vs us Q I r h
  obtain ⟨a, n, ns, rfl, hs, q⟩ := h
  rcases hs with hs | hs
  · exact cr_max hc pins s σ H _ us Q I r ⟨a, n :: ns, rfl, hs, by simp, fun m h1 h2 => by
      obtain ⟨g1, g2⟩ := fold_max ns n
      have e : m = ns.foldl max n := Int.le_antisymm (g2 m h1) (h2 _ g1)
      rw [e]
      exact q⟩
  · obtain ⟨its, rv, hl, _⟩ := I.tuple hs
    rw [Vals.ref1 r]
    obtain ⟨as, ra⟩ := L2.Dp.readsAll I ((n :: ns).map PyData.int) _ _ (dpa_ofInts (n :: ns)) rv
    refine PySem.W.max_tuple_data (x := .int n) (xs := ns.map PyData.int) (I.ok.hd hc) hl ra ⟨?_, ?_⟩ ?_ fun i v h' tk bs _ rd kp => ?_
    · intro x hx y hy
      have gx : ∀ x ∈ PyData.int n :: ns.map PyData.int, ∃ i, x = PyData.int i := fun x hx => by
        rcases List.mem_cons.mp hx with rfl | hx
        · exact ⟨_, rfl⟩
        · obtain ⟨i, _, rfl⟩ := List.mem_map.mp hx
          exact ⟨i, rfl⟩
      obtain ⟨i, rfl⟩ := gx x hx
      obtain ⟨j, rfl⟩ := gx y hy
      rfl
    · intro x hx e
      subst e
      rcases List.mem_cons.mp hx with hx | hx
      · cases hx
      · obtain ⟨i, _, hi⟩ := List.mem_map.mp hx
        cases hi
    · have := PySem.W.depth_ints (n :: ns)
      rw [List.map_cons] at this
      rw [this]
      omega
    · rw [PySem.W.maxD_ints] at rd
      cases rd
      exact ⟨.int _, H, I.kept kp, ⟨_, rfl⟩, q⟩
theorem b_maxL {K : PySem.W.Frag} : B1 K (rMaxT K) fMaxL := by
  intro G δ σ F H x d z Q hK k hx ez q
  subst hK
  have go : ∀ ds, (intsOf ds).bind maxI = some z → ∃ n ns, ds = (n :: ns).map PyData.int ∧ z = .fz (.int (ns.foldl max n)) := fun ds e => by
    cases ei : intsOf ds with
    | none => rw [ei] at e; cases e
    | some ms =>
      rw [ei] at e
      cases ms with
      | nil => cases e
      | cons n ns => cases e; exact ⟨n, ns, intsOf_some ei, rfl⟩
  cases d with
  | list ds =>
    obtain ⟨p, vs, rfl, h1, h2⟩ := hx.list k.fh
    obtain ⟨n, ns, rfl, rfl⟩ := go ds ez
    rw [dpa_int_eq h2] at h1
    exact ⟨_, n, ns, rfl, .inl (SqL.of h1), q.fz k (.int _)⟩
  | tuple ds =>
    obtain ⟨p, vs, rfl, h1, h2⟩ := hx.tup
    obtain ⟨n, ns, rfl, rfl⟩ := go ds ez
    rw [dpa_int_eq h2] at h1
    exact ⟨_, n, ns, rfl, .inr (SqT.of (k.fh _ _ h1)), q.fz k (.int _)⟩
  | _ => cases ez
theorem pd_maxL {p : Pos} (hm : X.mg "max" = none) (hu : X.A.units + 64 < cLine) (ha : PE X e (up C ta)) (hc : X.calm = true := by rfl) (hK : C.K = X.K := by rfl) (hcall : ∀ (r : List V → Hp → VK → Prop) (te : TE), X.mg "max" = none → CallR X (.builtin "max") r → PE X e te → PE X (.Call (.Name "max" p) [e] [] pos) (tCB r (tCons te tNil)) := by exact fun _ _ hm0 h1 h2 => pe_callB h1 (by rfl) hm0 (by decide +kernel) (pa_cons h2 pa_nil)) :
    PE X (.Call (.Name "max" p) [e] [] pos) (up C (dUn fMaxL ta)) := pe_weak (hcall _ _ hm (call_maxT hc hu) ha) (by rw [← hK]; exact rf_b1 b_maxL)
/-! ### sorted -/
def isII : D → Bool
  | .tuple [.int _, .int _] => true
  | _ => false
def isI : D → Bool
  | .int _ => true
  | _ => false
def leD : D → D → Bool := PySem.W.dataLe false id
def fSorted : D → Option Vl
  | .list ds => match (ds.all isII || ds.all isI) && small ds.length with
    | true => some (.own (.lst (ds.mergeSort leD)))
    | false => none
  | _ => none
def okSort (ds : List D) : Bool := (ds.all isII || ds.all isI) && small ds.length
def rSortD (K : PySem.W.Frag) : List V → Hp → VK → Prop := fun vs H Q => ∃ (a : Addr) (F : Hp) (xs : List V) (ds : List D), vs = [V.ref a] ∧ Same F H ∧ SqL K H a xs ∧ DpAll K F xs ds ∧ okSort ds = true ∧
  ∀ (ys : List V) (p : Addr), DpAll K F ys (ds.mergeSort leD) → H p = none → Q (.ref p) (upd H p (.lst ys))
theorem all_ii {ds : List D} (h : ds.all isII = true) : ∀ d ∈ ds, ∃ i j, d = .tuple [.int i, .int j] := fun d hd => by
  have := List.all_eq_true.mp h d hd
  unfold isII at this
  split at this
  · exact ⟨_, _, rfl⟩
  · cases this
theorem all_i {ds : List D} (h : ds.all isI = true) : ∀ d ∈ ds, ∃ i, d = .int i := fun d hd => by
  have := List.all_eq_true.mp h d hd
  unfold isI at this
  split at this
  · exact ⟨_, rfl⟩
  · cases this
theorem sort_alike {ds : List D} (h : okSort ds = true) : PySem.W.AllAlike ds ∧ PySem.W.Sortable ds ∧ ds.length ≤ sizeLine ∧ (∀ d ∈ ds, d.depth ≤ 1) ∧ PyData.canLayAll0 ds = true := by
  unfold okSort at h
  rw [Bool.and_eq_true, Bool.or_eq_true] at h
  obtain ⟨h | h, h2⟩ := h
  · have g := all_ii h
    refine ⟨fun d hd d' hd' => ?_, .inl fun d hd => ?_, small_line h2, fun d hd => ?_, ?_⟩
    · obtain ⟨i, j, rfl⟩ := g d hd
      obtain ⟨i', j', rfl⟩ := g d' hd'
      rfl
    · obtain ⟨i, j, rfl⟩ := g d hd
      exact ⟨_, _, rfl⟩
    · obtain ⟨i, j, rfl⟩ := g d hd
      simp [PyData.depth, PyData.depthAll]
    · clear h2 h
      induction ds with
      | nil => rfl
      | cons d ds ih =>
        obtain ⟨i, j, rfl⟩ := g d List.mem_cons_self
        have := ih fun d hd => g d (List.mem_cons_of_mem _ hd)
        show (_ && PyData.canLayAll0 ds) = true
        rw [this]
        rfl
  · have g := all_i h
    refine ⟨fun d hd d' hd' => ?_, .inr fun d hd => ?_, small_line h2, fun d hd => ?_, ?_⟩
    · obtain ⟨i, rfl⟩ := g d hd
      obtain ⟨i', rfl⟩ := g d' hd'
      rfl
    · obtain ⟨i, rfl⟩ := g d hd
      exact ⟨by simp, by simp⟩
    · obtain ⟨i, rfl⟩ := g d hd
      simp [PyData.depth]
    · clear h2 h
      induction ds with
      | nil => rfl
      | cons d ds ih =>
        obtain ⟨i, rfl⟩ := g d List.mem_cons_self
        have := ih fun d hd => g d (List.mem_cons_of_mem _ hd)
        show (_ && PyData.canLayAll0 ds) = true
        rw [this]
        rfl
theorem each_of_reads {h : Heap} : ∀ {vs : List Value} {ds : List D} {as : List Addr}, ReadsAll h vs ds as → PySem.W.EachIs (fun v d => ∃ as, Reads h v d as) vs ds
  | _, _, _, .nil => .nil
  | _, _, _, .cons r rs => .cons ⟨_, r⟩ (each_of_reads rs)
theorem each_of_vals {K : PySem.W.Frag} {F : Hp} : ∀ {xs : List V} {ds : List D} {us : List Value}, DpAll K F xs ds → Vals xs us → PySem.W.EachIs (fun u d => ∃ x, RelV x u ∧ Dp K F x d) us ds
  | _, _, _, .nil, r => by cases r; exact .nil
  | _, _, _, .cons h t, r => by
    cases r with
    | cons r rs => exact .cons ⟨_, r, h⟩ (each_of_vals t rs)
theorem vals_of_each {K : PySem.W.Frag} {F : Hp} : ∀ {us : List Value} {ds : List D}, PySem.W.EachIs (fun u d => ∃ x, RelV x u ∧ Dp K F x d) us ds → ∃ ys, Vals ys us ∧ DpAll K F ys ds
  | _, _, .nil => ⟨[], .nil, .nil⟩
  | _, _, .cons ⟨x, h1, h2⟩ t => by
    obtain ⟨ys, g1, g2⟩ := vals_of_each t
    exact ⟨x :: ys, .cons h1 g1, .cons h2 g2⟩
theorem call_sortD (hu : X.A.units + 64 < cLine) : CallR X (.builtin "sorted") (rSortD X.K) := by
  intro pins s σ H vs us Q I r h
  obtain ⟨a, F, xs, ds, rfl, fh, hs, hd, hk, q⟩ := h
  obtain ⟨h1, h2, h3, h4, h5⟩ := sort_alike hk
  obtain ⟨its, rv, hl, _⟩ := I.list hs
  rw [Vals.ref1 r]
  obtain ⟨as, ra⟩ := L2.Dp.readsAll I ds _ _ (dpa_lib ds xs h5 (dpa_mono fh _ _ hd)) rv
  refine PySem.W.sorted_data (R := fun u d => ∃ x, RelV x u ∧ Dp X.K F x d) (enc := id) (bs := ds) hl.isList (each_of_vals hd rv) (each_of_reads ra) (by rw [List.map_id]; exact h1) (by rw [List.map_id]; exact h2) h3 (fun b hb => ?_) fun out ho he => ?_
  · have := h4 b hb
    show X.A.units + 2 + b.depth < cLine
    omega
  · obtain ⟨ep, he'⟩ := PyProof.Rows.sortedAll_at s.heap its out.toArray
    obtain ⟨ys, g1, g2⟩ := vals_of_each he
    have hlen : ys.length ≤ sizeLine := by rw [dpa_len g2, List.length_mergeSort]; exact h3
    exact ⟨.ref _, upd H (s.heap.objs.size + 1) (.lst ys), I.laid (t' := s.toks) (fun _ _ => PyProof.Rows.sortedAll_old) (Nat.le_succ _) ⟨hlen, out, ep, g1, he'⟩, rfl, q ys _ g2 (I.hok.fresh (Nat.le_succ _))⟩
theorem b_sorted {K : PySem.W.Frag} : B1 K (rSortD K) fSorted := by
  intro G δ σ F H x d z Q hK k hx ez q
  subst hK
  cases d with
  | list ds =>
    obtain ⟨p, vs, rfl, h1, h2⟩ := hx.list k.fh
    have ez : (match okSort ds with | true => some (Vl.own (.lst (ds.mergeSort leD))) | false => none) = some z := ez
    cases eo : okSort ds with
    | false => rw [eo] at ez; cases ez
    | true =>
      rw [eo] at ez
      cases ez
      exact ⟨_, F, vs, ds, rfl, k.fh, SqL.of h1, h2, eo, fun ys p hy => q.newL k hy p⟩
  | _ => cases ez
theorem pd_sorted {p : Pos} (hm : X.mg "sorted" = none) (hu : X.A.units + 64 < cLine) (ha : PE X e (up C ta)) (hK : C.K = X.K := by rfl) (hcall : ∀ (r : List V → Hp → VK → Prop) (te : TE), X.mg "sorted" = none → CallR X (.builtin "sorted") r → PE X e te → PE X (.Call (.Name "sorted" p) [e] [] pos) (tCB r (tCons te tNil)) := by exact fun _ _ hm0 h1 h2 => pe_callB h1 (by rfl) hm0 (by decide +kernel) (pa_cons h2 pa_nil)) :
    PE X (.Call (.Name "sorted" p) [e] [] pos) (up C (dUn fSorted ta)) := pe_weak (hcall _ _ hm (call_sortD hu) ha) (by rw [← hK]; exact rf_b1 b_sorted)
end
end DL

set_option Elab.async false
set_option linter.all false
set_option maxRecDepth 100000
set_option autoImplicit false
namespace DL
open PySem PySem.Spec PyProof.Rows L2
section
variable {X : Cx} {C : Cf} {e a b c : Expr} {ta tb tc : De} {pos : Pos}
/-! ### xs.extend(e) -/
def fExt (es ds : List D) : Option (List D) := okO (small (ds.length + es.length)) (some (ds ++ es))
def extD (i : Nat) (d : D) (δ : DS) : R Out := match d with
  | .list es => mutL i (fExt es) δ
  | _ => .bad
def dExt (i : Nat) (a : De) : Ds := fun δ => okIf (isLst i δ) ((a δ).bind fun x δ1 => (kp x δ1).bind fun d δ2 => extD i d δ2)
theorem pds_ext (i : Nat) {x : Str} {p1 p2 p3 : Pos} (ha : PE X e (up C ta)) (hN : X.N[i]? = some x := by rfl) (hv : Vis X.env.scope x := by first | exact Or.inl rfl | exact Or.inr (Or.inl rfl) | exact Or.inr (Or.inr rfl)) (hd : (x == ("__debug__" : Str)) = false := by decide)
    (hcd : (x == ("__classdict__" : Str)) = false := by decide) (hw : swapsWith (.Call (.Attribute (.Name x p1) "extend" p2) [e] [] p3) none pos.line X.env = pure false := by rfl)
    (hcall : ∀ (to te : TE), PE X (.Name x p1) to → PE X e te → PE X (.Call (.Attribute (.Name x p1) "extend" p2) [e] [] p3) (tBM X.K "list" rExtend to (tCons te tNil)) := by exact fun _ _ h1 h2 => pe_bm PySem.F.plainAttrs_list PySem.F.slot_list_extend PySem.F.type_list_extend mt_extend h1 (pa_cons h2 pa_nil)) :
    PS X (.Expr (.Call (.Attribute (.Name x p1) "extend" p2) [e] [] p3) pos) (ups C (dExt i ta)) := by
  refine ps_weak (ps_expr (hcall _ _ (pe_var hN hv hd hcd) ha) hw) fun D σ H ⟨G, δ, F, hC, k, h⟩ => ?_
  subst hC
  obtain ⟨z, h⟩ := okIf_finS h
  obtain ⟨p, vs, e1, e2⟩ := isLst_held k z
  refine ⟨.ref p, e1, .inl ⟨rfl, vs, SqL.of e2⟩, G, δ, F, rfl, k, finS_bind h fun x δ1 v F1 H1 k1 g1 w1 h1 => ?_⟩
  obtain ⟨d, δ2, F2, k2, g2, w2, h2⟩ := kp_bindS k1 h1 w1
  cases d with
  | list es =>
    have h2 : finS G (mutL i (fExt es) δ2) F2 D := h2
    cases w2 with
    | @lst q zs _ f2 al =>
      obtain ⟨s, ds, l, q1, q2, q3, h3⟩ := mutL_fin h2
      obtain ⟨p', o, a1, a2, a3, vs', rfl, a4⟩ := k2.held q1 q2
      rw [e1] at a1
      cases a1
      obtain ⟨z1, z2⟩ := okO_some q3
      cases z2
      exact ⟨p, q, vs', zs, rfl, rfl, a2, k2.fh _ _ f2, by rw [dpa_len a4, dpa_len al]; exact small_line z1, h3 σ F2 _ (k2.change q1 q2 e1 ⟨_, rfl, dpa_app a4 al⟩) (Same.refl F2)⟩
  | _ => exact h2.elim
end
/-! ### a def that raises nothing: of what it leaves only its lists by reference are told -/
def trim : List Sl → DS → DS
  | .arg _ :: as, s :: δ => s :: trim as δ
  | _ :: as, _ :: δ => .no :: trim as δ
  | _, _ => []
theorem trim_at : ∀ {as : List Sl} {δ : DS} {i : Nat} {c c' : Co}, as[i]? = some (.arg c) → δ[i]? = some (.arg c') → (trim as δ)[i]? = some (.arg c')
  | [], _, _, _, _, h, _ => by simp at h
  | _ :: _, [], _, _, _, _, h => by simp at h
  | a :: as, s :: δ, 0, c, c', h, h' => by
    have h : a = .arg c := by simpa using h
    have h' : s = .arg c' := by simpa using h'
    subst h h'
    rfl
  | a :: as, s :: δ, i + 1, c, c', h, h' => by
    have z := trim_at (as := as) (δ := δ) (i := i) (by simpa using h) (by simpa using h')
    cases a <;> simpa [trim] using z
def noEx (as : List Sl) (r : R Vl) : R Vl := match r with
  | .ok v δ => .ok v (trim as δ)
  | _ => .bad
def noX (r : R Vl) : R Vl := match r with
  | .ok v δ => .ok v δ
  | _ => .bad
theorem noX_ok {r : R Vl} (h : noX r ≠ .bad) : r = noX r ∧ ∀ c δ, noX r ≠ .ex c δ := by
  cases r with
  | ok v δ => exact ⟨rfl, fun c δ e => by cases e⟩
  | ex c δ => exact absurd rfl h
  | bad => exact absurd rfl h
theorem dsp_trim {K : PySem.W.Frag} {den : List Sl → R Vl} {vs : List V} {H : Hp} {Q : VK} {E : XK} (h : dsp K (fun as => noEx as (den as)) vs H Q E) : dsp K (fun as => noX (den as)) vs H Q E := by
  obtain ⟨F, as, fh, wa, h⟩ := h
  refine ⟨F, as, fh, wa, ?_⟩
  have h : dspM K F as vs H Q E (noEx as (den as)) := h
  show dspM K F as vs H Q E (noX (den as))
  cases e : den as with
  | bad => rw [e] at h; exact h.elim
  | ex c δ => rw [e] at h; exact h.elim
  | ok v δ =>
    rw [e] at h
    intro u F' H' P r
    refine h u F' H' ⟨P.ff, P.fh, P.hh, P.fn, fun i c p h1 h2 => ?_⟩ r
    obtain ⟨c', o', g1, g2⟩ := P.ar i c p h1 h2
    exact ⟨c', o', trim_at h1 g1, g2⟩
section
variable {P : Program} {w : World} {K : PySem.W.Frag} {mg : Str → Option Value} {base : Heap}
theorem fn_n {x qual : Str} {st : Stmt} {f : Addr} {fd : FuncData} {N ps : List Str} {k : Nat} {sd : Ds} (Fu : Fun K x qual st f fd) (S : FnScope N ps (defScope st))
    (hb : ∀ (cdv : Value) (A : Around) (outer : List Env) (s : Shared) (H : Hp) (E : XK), Room k (A.deeper (envOfC qual (defScope st) s.heap.objs.size f cdv)) → PSs (cxOf CX0 P w K mg base N qual (defScope st) f cdv A outer s H E).nox (defBody st) (ups (noxC K) sd)) :
    FnOk P w K mg base CX0 (k + 1) f fd ps (dsp K fun as => noEx as (runDef ps.length N.length sd as)) := (fn_d Fu S hb (fun as => noX (runDef ps.length N.length sd as)) fun as h => noX_ok h).imp fun _ _ _ _ h => dsp_trim h
/-- what stands of a def at its name -/
structure Dfn (K : PySem.W.Frag) (mg : Str → Option Value) (x : Str) (st : Stmt) (ps : List Str) : Prop where
  ex : ∃ (f : Addr) (fd : FuncData), Fun K x x st f fd ∧ mg x = some (.ref f) ∧ PySem.W.keepIn K (.ref f) = true ∧ Binds K fd ps []
theorem cal_of {x : Str} {st : Stmt} {ps : List Str} {k : Nat} {den : List Sl → R Vl} (D : Dfn K mg x st ps) (h : ∀ (f : Addr) (fd : FuncData), Fun K x x st f fd → FnOk P w K mg base CX0 k f fd ps (dsp K den)) : Cal P w K mg base k x ps den := by
  obtain ⟨f, fd, F, a, b, c⟩ := D.ex
  exact ⟨f, fd, h f fd F, a, b, c⟩
theorem law_sp {H : Hp} {a : Addr} {ns : List Int} {den : List Sl → R Vl} {E : XK} {Q : VK} (hS : SqL K H a (ns.map V.int)) (h : ∃ δ, den [.fz (.dict [(.none, .list (ns.map PyData.int))])] = .ok (.fz (.bool true)) δ) (hQ : ∀ H', Q (.bl true) H') : dsp K den [.ref a] H Q E := by
  obtain ⟨δ, e⟩ := h
  refine ⟨H, [.fz (.dict [(.none, .list (ns.map PyData.int))])], Same.refl H, ⟨rfl, fun i s ei => ?_, fun i j c d p hij e1 e2 _ _ => ?_⟩, ?_⟩
  · cases i with
    | zero => cases ei; exact ⟨_, rfl, .scr hS⟩
    | succ i => simp at ei
  · cases i with
    | zero => cases e1
    | succ i => simp at e1
  · rw [e]
    intro v F' H' _ r
    cases r
    exact hQ H'
end
/-- how often a while goes on at most -/
def fuelW : Nat := 100000
/-- how deep a def calls itself at most -/
def fuelR : Nat := 20
/-- a def that calls itself: how deep -/
def itN (f : (List Sl → R Vl) → List Sl → R Vl) : Nat → List Sl → R Vl
  | 0 => fun _ => .bad
  | n + 1 => f (itN f n)
end DL

set_option Elab.async false
set_option linter.all false
set_option maxRecDepth 100000
set_option autoImplicit false
/-! dicts that are made once and then read alone -/
namespace DL
open PySem PySem.Spec PyProof.Rows L2
section
variable {X : Cx} {C : Cf} {e a b l tg : Expr} {ta tb : De} {pos : Pos} {k : Nat}
/-! ### a dict that is not changed any more -/
def tFrz (t : TE) : TE := fun σ H Q => t σ H fun v H1 => ∃ d u, v = .ref d ∧ H1 d = some u ∧ Mut (some u) ∧ ∀ od, Q v (upd H1 d (.frz od u))
theorem pe_frz {t : TE} (h : PE X e t) : PE X e (tFrz t) := ⟨fun pins s σ H Q I q => thn (h.run pins s σ H _ I q) fun u s1 ⟨v, H1, I1, r, d, w, hv, hd, mu, q2⟩ => by
  obtain ⟨od, I2⟩ := I1.lock hd mu
  exact ⟨v, _, I2, r, q2 od⟩⟩
def keysOf (kvs : List (Key × D)) : List D := kvs.map fun q => keyD q.1
def valsOf (kvs : List (Key × D)) : List D := kvs.map fun q => q.2
theorem pairs_keys {K : PySem.W.Frag} {F : Hp} : ∀ {ws : List (Key × V)} {kvs : List (Key × D)}, Paired (fun (p : Key × V) (q : Key × D) => p.1 = q.1 ∧ Dp K F p.2 q.2) ws kvs → (ws.map fun w => keyD w.1) = keysOf kvs ∧ DpAll K F (ws.map Prod.snd) (valsOf kvs) := by
  intro ws kvs h
  induction h with
  | nil => exact ⟨rfl, .nil⟩
  | cons r _ ih =>
    obtain ⟨a, b⟩ := ih
    refine ⟨?_, .cons r.2 b⟩
    unfold keysOf at a ⊢
    rw [List.map_cons, List.map_cons, a, r.1]
def dFrz (a : De) : De := fun δ => (a δ).bind fun x δ1 => match x with
  | .own (.dct kvs) => .ok (.fz (dctD (keysOf kvs) (valsOf kvs))) δ1
  | _ => .bad
theorem St1.lockF {G : Ct} {δ : DS} {σ : L2.St} {F H : Hp} {p : Addr} {o : HO} {od : Obj} (k : St1 G δ σ F H) (hp : H p = some o) (hf : F p = none) (h0 : G.H0 p = none) (fr : ∀ (i : Nat) (s : Sl), δ[i]? = some s → s.held = true → σ[i]? ≠ some (some (.ref p))) :
    St1 G δ σ (upd F p (.frz od o)) (upd H p (.frz od o)) where
  len := k.len
  fh := fun b u e => by
    by_cases hb : b = p
    · subst hb; rw [upd_same] at e ⊢; exact e
    · rw [upd_ne hb] at e ⊢; exact k.fh _ _ e
  f0 := k.f0.trans (same_upd hf)
  h0 := fun b u hm e => by
    have hb : b ≠ p := fun z => by rw [z, h0] at e; cases e
    rw [upd_ne hb]
    exact k.h0 b u hm e
  fn := fun b e => by
    by_cases hb : b = p
    · subst hb; exact .inr h0
    · rw [upd_ne hb] at e; exact k.fn b e
  sl := fun i s e => (k.sl i s e).mono (same_upd hf) fun b u h1 h2 h3 h4 => by
    have hb : b ≠ p := fun z => fr i s e h3 (by rw [← z]; exact h4)
    rw [upd_ne hb, upd_ne hb]
    exact ⟨h2, h1⟩
  di := k.di
  ma := k.ma
theorem rf_frz : ∀ σ H Q, up C (dFrz ta) σ H Q → tFrz (up C ta) σ H Q := fun σ H Q ⟨G, δ, F, hC, k, h⟩ => by
  subst hC
  refine ⟨G, δ, F, rfl, k, finA_bind h fun x δ1 v F1 H1 k1 g1 w1 h1 => ?_⟩
  cases x with
  | fz d => exact h1.elim
  | loc i => exact h1.elim
  | own c =>
    cases c with
    | lst ds => exact h1.elim
    | dct kvs =>
      obtain ⟨p, o, rfl, q1, q2, ⟨ws, rfl, q3⟩, q4, q5⟩ := w1
      refine ⟨p, _, rfl, q1, trivial, fun od => ?_⟩
      obtain ⟨r1, r2⟩ := pairs_keys q3
      refine h1 _ (upd F1 p (.frz od (.dK ws))) (upd H1 p (.frz od (.dK ws))) (k1.lockF q1 q2 q4 q5) (same_upd q2) ?_
      show Dp G.K _ (.ref p) (dctD (keysOf kvs) (valsOf kvs))
      rw [← r1]
      exact .dct (od := od) upd_same (dpa_mono (same_upd q2) _ _ r2)
theorem pd_frz (ha : PE X e (up C ta)) : PE X e (up C (dFrz ta)) := pe_weak (pe_frz ha) rf_frz
/-! ### its things, one by one -/
def valsD (d : D) (δ : DS) : R (List D) := match d with
  | .dict [(.bool true, .list _), (.bool false, .list ds)] => .ok ds δ
  | _ => .bad
def dVals (a : De) : Di := fun δ => (a δ).bind fun x δ1 => (kp x δ1).bind fun d δ2 => valsD d δ2
theorem valsD_some {G : Ct} {d : D} {δ : DS} {σ : L2.St} {F : Hp} {R : It → Hp → Prop} (h : finA G (WI G) (valsD d δ) σ F R) : ∃ ks ds, d = dctD ks ds ∧ finA G (WI G) (.ok ds δ) σ F R := by
  unfold valsD at h
  split at h
  · exact ⟨_, _, rfl, h⟩
  · exact h.elim
theorem it_vals {K : PySem.W.Frag} {F : Hp} {p : Addr} {od : Obj} {ws : List (Key × V)} {ds : List D} (h : F p = some (.frz od (.dK ws))) (w : DpAll K F (ws.map Prod.snd) ds) : ItOk K (Itd p od ws) F ds := fun F2 H2 f2 h2 i => by
  have hq := (f2.trans h2) _ _ h
  have hl : ws.length = ds.length := by
    rw [← dpa_len w, List.length_map]
  refine ⟨fun d hd => ?_, fun hi => ⟨hq, by omega⟩⟩
  obtain ⟨v, e1, e2⟩ := dpa_get w hd
  have hi := (List.getElem?_eq_some_iff.mp hd).1
  refine ⟨⟨hq, by omega⟩, fun x H3 y => ?_⟩
  obtain ⟨rfl, c, y⟩ := y
  have ex : v = x := by
    rw [List.getElem?_map, y] at e1
    exact (Option.some.inj e1).symm
  subst ex
  exact ⟨F2, Same.refl F2, h2, Same.refl _, fun b z => .inl z, dp_mono f2 _ _ e2⟩
theorem kp_ex {x : Vl} {δ s : DS} {c : Value} (e : kp x δ = .ex c s) : False := by
  cases x with
  | fz d => cases e
  | own cc => cases cc <;> cases e
  | loc i =>
    unfold kp at e
    simp only at e
    split at e <;> cases e
theorem pdi_vals {apos cpos : Pos} (ha : PE X e (up C ta)) (hbase : attributeBase e "values" X.env (eval e X.env) = eval e X.env := by rfl) (hline : (apos.endLine == cpos.line) = true := by rfl) (hK : C.K = X.K := by rfl) :
    PI X tg (.Call (.Attribute e "values" apos) [] [] cpos) (upI C (dVals ta)) := by
  refine pi_weak (pi_values ha hbase hline) fun σ H R ⟨G, δ, F, hC, k, h⟩ => ?_
  subst hC
  refine ⟨G, δ, F, rfl, k, finA_bind h fun x δ1 v F1 H1 k1 g1 w1 h1 => ?_⟩
  cases e : kp x δ1 with
  | bad => rw [e] at h1; exact h1.elim
  | ex c s => exact (kp_ex e).elim
  | ok d δ2 =>
    rw [e] at h1
    have h1 : finA G (WI G) (valsD d δ2) σ F1 R := h1
    obtain ⟨F2, k2, g2, w2⟩ := k1.keepV w1 e
    obtain ⟨ks, ds, rfl, h2⟩ := valsD_some h1
    cases w2 with
    | @dct p od ws ds q w =>
      exact ⟨p, od, ws, rfl, k2.fh _ _ q, h2 _ F2 H1 k2 g2 (it_vals q w)⟩
end
end DL

set_option Elab.async false
set_option linter.all false
set_option maxRecDepth 100000
set_option autoImplicit false
/-! things gathered by keys: d.setdefault(k, []).append(v), as a whole loop -/
namespace DL
open PySem PySem.Spec PyProof.Rows L2
def noHeld (δ : DS) : Bool := δ.all fun s => !s.held
theorem noHeld_at {δ : DS} (h : noHeld δ = true) {i : Nat} {s : Sl} (e : δ[i]? = some s) : s.held = false := by
  have := List.all_eq_true.mp h s (List.mem_of_getElem? e)
  simpa using this
def keyOf : D → Option Key
  | .int i => some (.inl i)
  | .str x => some (.inr x)
  | _ => none
def putG (acc : List (Key × List D)) (k : Key) (d : D) : List (Key × List D) := if (acc.any fun q => decide (q.1 = k)) = true then acc.map (fun q => if q.1 = k then (q.1, q.2 ++ [d]) else q) else acc ++ [(k, [d])]
def szG (acc : List (Key × List D)) : Bool := small acc.length && acc.all fun q => small q.2.length
def grpT (kE vE : De) (acc : List (Key × List D)) (δ : DS) : R (List (Key × List D)) := match kE δ with
  | .ok (.fz kd) δ1 => match keyOf kd with
    | some k => match vE δ1 with
      | .ok (.fz vd) δ2 => okIf (noHeld δ && noHeld δ1 && noHeld δ2 && szG acc) (.ok (putG acc k vd) δ2)
      | _ => .bad
    | none => .bad
  | _ => .bad
def grpL (g : Dg) (kE vE : De) : List D → List (Key × List D) → DS → R (List (Key × List D))
  | [], acc, δ => .ok acc δ
  | d :: ds, acc, δ => match g d δ with
    | .ok .nx δ1 => match grpT kE vE acc δ1 with
      | .ok acc' δ2 => grpL g kE vE ds acc' δ2
      | _ => .bad
    | _ => .bad
def lstG (acc : List (Key × List D)) : List (Key × D) := acc.map fun q => (q.1, .list q.2)
def isDct0 : Option Sl → Bool
  | some (.own (.dct [])) => true
  | _ => false
def dGrp (j : Nat) (ti : Di) (g : Dg) (kE vE : De) : Ds := fun δ => okIf (isDct0 δ[j]? && noHeld (δ.set j .no)) (match ti (δ.set j .no) with
  | .ok ds δ1 => match grpL g kE vE ds [] δ1 with
    | .ok acc δ2 => okIf (noHeld δ1 && noHeld δ2) (.ok .nx (δ2.set j (.own (.dct (lstG acc)))))
    | _ => .bad
  | _ => .bad)
theorem isDct0_some {s : Option Sl} (h : isDct0 s = true) : s = some (.own (.dct [])) := by
  unfold isDct0 at h
  split at h
  · rfl
  · cases h
theorem okIf_ok {α : Type} {t : Bool} {r : R α} {a : α} {δ : DS} (h : okIf t r = .ok a δ) : t = true ∧ r = .ok a δ := by
  cases t with
  | true => exact ⟨rfl, h⟩
  | false => cases h
theorem grpT_ok {kE vE : De} {acc acc' : List (Key × List D)} {δ δ2 : DS} (h : grpT kE vE acc δ = .ok acc' δ2) : ∃ kd δ1 k vd, kE δ = .ok (.fz kd) δ1 ∧ keyOf kd = some k ∧ vE δ1 = .ok (.fz vd) δ2 ∧ noHeld δ = true ∧ noHeld δ1 = true ∧ noHeld δ2 = true ∧ szG acc = true ∧ acc' = putG acc k vd := by
  unfold grpT at h
  split at h
  · rename_i kd δ1 e1
    split at h
    · rename_i k e2
      split at h
      · rename_i vd δ3 e3
        obtain ⟨z, h⟩ := okIf_ok h
        cases h
        rw [Bool.and_eq_true, Bool.and_eq_true, Bool.and_eq_true] at z
        exact ⟨kd, δ1, k, vd, e1, e2, e3, z.1.1.1, z.1.1.2, z.1.2, z.2, rfl⟩
      · cases h
    · cases h
  · cases h
theorem grpL_cons {g : Dg} {kE vE : De} {d : D} {ds : List D} {acc r : List (Key × List D)} {δ δe : DS} (h : grpL g kE vE (d :: ds) acc δ = .ok r δe) : ∃ δ1 acc' δ2, g d δ = .ok .nx δ1 ∧ grpT kE vE acc δ1 = .ok acc' δ2 ∧ grpL g kE vE ds acc' δ2 = .ok r δe := by
  unfold grpL at h
  split at h
  · rename_i δ1 e1
    split at h
    · rename_i acc' δ2 e2
      exact ⟨δ1, acc', δ2, e1, e2, h⟩
    · cases h
  · cases h
section
variable {G : Ct} {δ δ' : DS} {σ σ' : L2.St} {F F' H H' : Hp} {p : Addr}
/-- the state with all that there is taken as it stands -/
def iso (C : Cf) (F H : Hp) : Ct := ⟨C, F, H, fun _ => none⟩
theorem St1.iso (k : St1 G δ σ F H) (hn : noHeld δ = true) : St1 (DL.iso G.C F H) δ σ F H where
  len := k.len
  fh := k.fh
  f0 := Same.refl F
  h0 := fun b o _ e => e
  fn := fun b e => .inl e
  sl := fun i s e => by
    have z := k.sl i s e
    have hh := noHeld_at hn e
    cases s with
    | no => trivial
    | fz d => exact z
    | own c => cases hh
    | arg c => cases hh
  di := fun i j s t p hij e1 e2 h1 h2 _ _ => by rw [noHeld_at hn e1] at h1; cases h1
  ma := fun i p e => nomatch (show (none : Option Addr) = some p from e)
theorem St1.back (k : St1 G δ σ F H) (hn : noHeld δ = true) (k' : St1 (DL.iso G.C F H) δ' σ' F' H') (hn' : noHeld δ' = true) : St1 G δ' σ' F' H' where
  len := k'.len
  fh := k'.fh
  f0 := k.f0.trans k'.f0
  h0 := fun b o hm e => k'.h0 b o (fun i z => nomatch (show (none : Option Addr) = some b from z)) (k.h0 b o hm e)
  fn := fun b e => by
    rcases k'.fn b e with q | q
    · exact k.fn b q
    · exact .inr (k.new0 q)
  sl := fun i s e => by
    have z := k'.sl i s e
    have hh := noHeld_at hn' e
    cases s with
    | no => trivial
    | fz d => exact z
    | own c => cases hh
    | arg c => cases hh
  di := fun i j s t p hij e1 e2 h1 h2 _ _ => by rw [noHeld_at hn' e1] at h1; cases h1
  ma := fun i p e => by
    obtain ⟨c, hc⟩ := k.ma i p e
    have := noHeld_at hn hc
    cases this
theorem iso_keep (k' : St1 (DL.iso G.C F H) δ' σ' F' H') : Same H H' := fun b o e => k'.h0 b o (fun i z => nomatch (show (none : Option Addr) = some b from z)) e
theorem iso_fn (k' : St1 (DL.iso G.C F H) δ' σ' F' H') : ∀ b, F' b ≠ none → F b ≠ none ∨ H b = none := k'.fn
theorem St1.updFree (k : St1 G δ σ F H) (hn : noHeld δ = true) {b : Addr} {o : HO} (hf : F b = none) (h0 : G.H0 b = none) : St1 G δ σ F (upd H b o) where
  len := k.len
  fh := fun c u e => by rw [upd_ne (fun z => by rw [z, hf] at e; cases e)]; exact k.fh _ _ e
  f0 := k.f0
  h0 := fun c u hm e => by rw [upd_ne (fun z => by rw [z, h0] at e; cases e)]; exact k.h0 c u hm e
  fn := k.fn
  sl := fun i s e => by
    have z := k.sl i s e
    have hh := noHeld_at hn e
    cases s with
    | no => trivial
    | fz d => exact z
    | own c => cases hh
    | arg c => cases hh
  di := k.di
  ma := k.ma
def GrpE (G : Ct) (F H : Hp) (p : Addr) (w : Key × V) (q : Key × List D) : Prop := w.1 = q.1 ∧ ∃ a vs, w.2 = .ref a ∧ H a = some (.lst vs) ∧ DpAll G.K F vs q.2 ∧ F a = none ∧ G.H0 a = none ∧ a ≠ p
structure Grp (G : Ct) (F H : Hp) (p : Addr) (ws : List (Key × V)) (acc : List (Key × List D)) : Prop where
  d : H p = some (.dK ws)
  f : F p = none
  z : G.H0 p = none
  prs : Paired (GrpE G F H p) ws acc
  nd : (ws.map Prod.snd).Nodup
theorem Grp.keep {ws : List (Key × V)} {acc : List (Key × List D)} (g : Grp G F H p ws acc) (ff : Same F F') (hh : Same H H') (fn : ∀ b, F' b ≠ none → F b ≠ none ∨ H b = none) : Grp G F' H' p ws acc := by
  have nf : ∀ b o, H b = some o → F b = none → F' b = none := fun b o h1 h2 => by
    cases e : F' b with
    | none => rfl
    | some u =>
      rcases fn b (by rw [e]; exact fun z => nomatch z) with z | z
      · exact absurd h2 z
      · rw [h1] at z; cases z
  exact ⟨hh _ _ g.d, nf _ _ g.d g.f, g.z, Paired.mapP g.prs fun w q ⟨e, a, vs, h1, h2, h3, h4, h5, h6⟩ => ⟨e, a, vs, h1, hh _ _ h2, dpa_mono ff _ _ h3, nf _ _ h2 h4, h5, h6⟩, g.nd⟩
theorem grp_len {ws : List (Key × V)} {acc : List (Key × List D)} (g : Paired (GrpE G F H p) ws acc) : ws.length = acc.length := Paired.length g
theorem grp_find {ws : List (Key × V)} {acc : List (Key × List D)} {k : Key} (g : Paired (GrpE G F H p) ws acc) : (acc.any fun q => decide (q.1 = k)) = (ws.any fun w => decide (w.1 = k)) := by
  induction g with
  | nil => rfl
  | cons r _ ih => rw [List.any_cons, List.any_cons, ih, r.1]
theorem grp_none {ws : List (Key × V)} {k : Key} : valV ws k = none → (ws.any fun w => decide (w.1 = k)) = false := by
  induction ws with
  | nil => intro _; rfl
  | cons w ws ih =>
    intro h
    by_cases e : w.1 = k
    · rw [valV_pos e] at h; cases h
    · rw [valV_neg e] at h
      rw [List.any_cons, decide_eq_false e, ih h]
      rfl
theorem grp_rest {ws : List (Key × V)} {acc : List (Key × List D)} {k : Key} {d : D} {a : Addr} {o : HO} (g : Paired (GrpE G F H p) ws acc) : (∀ w ∈ ws, w.2 ≠ .ref a) → (∀ q ∈ acc, ¬q.1 = k) → Paired (GrpE G F (upd H a o) p) ws (acc.map fun q => if q.1 = k then (q.1, q.2 ++ [d]) else q) := by
  induction g with
  | nil => intro _ _; exact .nil
  | @cons w q ws qs r t ih =>
    intro hw hq
    rw [List.map_cons, if_neg (hq q List.mem_cons_self)]
    refine .cons ?_ (ih (fun w' h => hw w' (List.mem_cons_of_mem _ h)) fun q' h => hq q' (List.mem_cons_of_mem _ h))
    obtain ⟨e, b, vs, h1, h2, h3⟩ := r
    have hb : b ≠ a := fun z => hw w List.mem_cons_self (by rw [h1, z])
    exact ⟨e, b, vs, h1, by rw [upd_ne hb]; exact h2, h3⟩
/-- the thing of a key, and what becomes of all when it is made longer -/
theorem grp_some {ws : List (Key × V)} {acc : List (Key × List D)} {k : Key} {v : V} {d : D} (g : Paired (GrpE G F H p) ws acc) : (ws.map Prod.snd).Nodup → (acc.map Prod.fst).Nodup → valV ws k = some v →
    ∃ a vs, v = .ref a ∧ H a = some (.lst vs) ∧ F a = none ∧ G.H0 a = none ∧ a ≠ p ∧ v ∈ ws.map Prod.snd ∧ (acc.any fun q => decide (q.1 = k)) = true ∧ (∃ q ∈ acc, vs.length = q.2.length) ∧
      ∀ x : V, Dp G.K F x d → Paired (GrpE G F (upd H a (.lst (vs ++ [x]))) p) ws (acc.map fun q => if q.1 = k then (q.1, q.2 ++ [d]) else q) := by
  induction g with
  | nil => intro _ _ h; cases h
  | @cons w q ws qs r t ih =>
    intro n1 n2 h
    rw [List.map_cons, List.nodup_cons] at n1 n2
    obtain ⟨e, b, vs, h1, h2, h3, h4, h5, h6⟩ := r
    by_cases hk : w.1 = k
    · rw [valV_pos hk] at h
      have h := Option.some.inj h
      subst h
      have hq : q.1 = k := e.symm.trans hk
      refine ⟨b, vs, h1, h2, h4, h5, h6, List.mem_cons_self, by rw [List.any_cons, decide_eq_true hq]; rfl, ⟨q, List.mem_cons_self, dpa_len h3⟩, fun x hx => ?_⟩
      rw [List.map_cons, if_pos hq]
      refine .cons ⟨e, b, _, h1, upd_same, dpa_app h3 (.cons hx .nil), h4, h5, h6⟩ (grp_rest t (fun w' hw' z => n1.1 ?_) fun q' hq' z => n2.1 ?_)
      · rw [h1, ← z]
        exact List.mem_map.mpr ⟨w', hw', rfl⟩
      · rw [hq, ← z]
        exact List.mem_map.mpr ⟨q', hq', rfl⟩
    · rw [valV_neg hk] at h
      obtain ⟨a, us, g1, g2, g3, g4, g5, g6, g7, ⟨q', g8, g9⟩, g10⟩ := ih n1.2 n2.2 h
      have hq : ¬q.1 = k := fun z => hk (e.trans z)
      have hb : b ≠ a := fun z => n1.1 (by rw [h1, z, ← g1]; exact g6)
      refine ⟨a, us, g1, g2, g3, g4, g5, List.mem_cons_of_mem _ g6, by rw [List.any_cons, g7]; simp, ⟨q', List.mem_cons_of_mem _ g8, g9⟩, fun x hx => ?_⟩
      rw [List.map_cons, if_neg hq]
      exact .cons ⟨e, b, vs, h1, by rw [upd_ne hb]; exact h2, h3, h4, h5, h6⟩ (g10 x hx)
theorem grp_upd {ws : List (Key × V)} {acc : List (Key × List D)} {b : Addr} {o : HO} (g : Paired (GrpE G F H p) ws acc) (h : ∀ c u, H c = some u → c ≠ b) : Paired (GrpE G F (upd H b o) p) ws acc := Paired.mapP g fun w q ⟨e, a, vs, h1, h2, h3⟩ => ⟨e, a, vs, h1, by rw [upd_ne (h a _ h2)]; exact h2, h3⟩
theorem grp_updP {ws : List (Key × V)} {acc : List (Key × List D)} {o : HO} (g : Paired (GrpE G F H p) ws acc) : Paired (GrpE G F (upd H p o) p) ws acc := Paired.mapP g fun w q ⟨e, a, vs, h1, h2, h3, h4, h5, h6⟩ => ⟨e, a, vs, h1, by rw [upd_ne h6]; exact h2, h3, h4, h5, h6⟩
theorem putG_fst {acc : List (Key × List D)} {k : Key} {d : D} (h : (acc.map Prod.fst).Nodup) : ((putG acc k d).map Prod.fst).Nodup := by
  unfold putG
  split
  · rw [List.map_map]
    have : (Prod.fst ∘ fun q : Key × List D => if q.1 = k then (q.1, q.2 ++ [d]) else q) = Prod.fst := by
      funext q
      show (if q.1 = k then (q.1, q.2 ++ [d]) else q).1 = q.1
      split <;> rfl
    rw [this]
    exact h
  · rename_i hn
    rw [List.map_append, List.nodup_append]
    refine ⟨h, by simp, fun a ha b hb => ?_⟩
    have hb : b = k := by simpa using hb
    subst hb
    intro e
    subst e
    obtain ⟨q, hq, e⟩ := List.mem_map.mp ha
    exact hn (List.any_eq_true.mpr ⟨q, hq, decide_eq_true e⟩)
end
end DL

set_option Elab.async false
set_option linter.all false
set_option maxRecDepth 100000
set_option autoImplicit false
namespace DL
open PySem PySem.Spec PyProof.Rows L2
section
variable {G : Ct} {δ δ' : DS} {σ σ' : L2.St} {F F' H H' : Hp} {p : Addr}
theorem St1.hide (k : St1 G δ σ F H) {j : Nat} {c : Co} (ej : δ[j]? = some (.own c)) : St1 G (δ.set j .no) σ F H where
  len := by rw [List.length_set]; exact k.len
  fh := k.fh
  f0 := k.f0
  h0 := k.h0
  fn := k.fn
  sl := fun i s e => by
    by_cases hi : j = i
    · subst hi
      rw [List.getElem?_set_self (List.getElem?_eq_some_iff.mp ej).1] at e
      cases e
      trivial
    · rw [List.getElem?_set_ne hi] at e
      exact k.sl i s e
  di := fun i i' s t q hij e1 e2 h1 h2 s1 s2 => by
    have go : ∀ (n : Nat) (s : Sl), (δ.set j .no)[n]? = some s → s.held = true → δ[n]? = some s := fun n s e hh => by
      by_cases hn : j = n
      · subst hn
        rw [List.getElem?_set_self (List.getElem?_eq_some_iff.mp ej).1] at e
        cases e
        cases hh
      · rw [List.getElem?_set_ne hn] at e
        exact e
    exact k.di i i' s t q hij (go i s e1 h1) (go i' t e2 h2) h1 h2 s1 s2
  ma := fun i q e => by
    obtain ⟨c', hc⟩ := k.ma i q e
    by_cases hi : j = i
    · subst hi
      rw [ej] at hc
      cases hc
    · exact ⟨c', by rw [List.getElem?_set_ne hi]; exact hc⟩
theorem grp_mem {ws : List (Key × V)} {acc : List (Key × List D)} (g : Paired (GrpE G F H p) ws acc) : ∀ w ∈ ws, ∃ a vs, w.2 = .ref a ∧ H a = some (.lst vs) ∧ F a = none ∧ G.H0 a = none ∧ a ≠ p := by
  induction g with
  | nil => intro w hw; cases hw
  | @cons w q ws qs r t ih =>
    intro w' hw'
    obtain ⟨e, a, vs, h1, h2, h3, h4, h5, h6⟩ := r
    rcases List.mem_cons.mp hw' with rfl | hw'
    · exact ⟨a, vs, h1, h2, h4, h5, h6⟩
    · exact ih w' hw'
theorem grp_co {ws : List (Key × V)} {acc : List (Key × List D)} (ff : Same F F') (g : Paired (GrpE G F H p) ws acc) : (∀ w ∈ ws, ∀ a, w.2 = .ref a → F' a = H a) → Paired (fun (w : Key × V) (q : Key × D) => w.1 = q.1 ∧ Dp G.K F' w.2 q.2) ws (lstG acc) := by
  induction g with
  | nil => intro _; exact .nil
  | @cons w q ws qs r t ih =>
    intro h
    obtain ⟨e, a, vs, h1, h2, h3, h4, h5, h6⟩ := r
    refine .cons ⟨e, ?_⟩ (ih fun w' hw' => h w' (List.mem_cons_of_mem _ hw'))
    show Dp G.K F' w.2 (.list q.2)
    rw [h1]
    exact .lst (by rw [h w List.mem_cons_self a h1]; exact h2) (dpa_mono ff _ _ h3)
/-- at the end the things are taken as they stand -/
theorem grp_end (k : St1 G δ σ F H) (hn : noHeld δ = true) {j : Nat} {ws : List (Key × V)} {acc : List (Key × List D)} (g : Grp G F H p ws acc) (ej : σ[j]? = some (some (.ref p))) : ∃ F', St1 G (δ.set j (.own (.dct (lstG acc)))) σ F' H ∧ Same F F' := by
  classical
  have mem := grp_mem g.prs
  let F' : Hp := fun b => if (∃ w ∈ ws, w.2 = V.ref b) then H b else F b
  have in' : ∀ b, (∃ w ∈ ws, w.2 = V.ref b) → F' b = H b := fun b h => if_pos h
  have out' : ∀ b, ¬(∃ w ∈ ws, w.2 = V.ref b) → F' b = F b := fun b h => if_neg h
  have free : ∀ b, (∃ w ∈ ws, w.2 = V.ref b) → F b = none ∧ G.H0 b = none ∧ b ≠ p := fun b ⟨w, hw, e⟩ => by
    obtain ⟨a, vs, h1, h2, h3, h4, h5⟩ := mem w hw
    rw [h1] at e
    cases e
    exact ⟨h3, h4, h5⟩
  have ff : Same F F' := fun b o e => by
    by_cases h : ∃ w ∈ ws, w.2 = V.ref b
    · rw [(free b h).1] at e
      cases e
    · rw [out' b h]
      exact e
  have fp : F' p = none := by
    rw [out' p fun h => (free p h).2.2 rfl]
    exact g.f
  have hM : ∀ i q, G.M i ≠ some q := fun i q e => by
    obtain ⟨c, hc⟩ := k.ma i q e
    have := noHeld_at hn hc
    cases this
  have held : ∀ (n : Nat) (s : Sl), (δ.set j (.own (.dct (lstG acc))))[n]? = some s → s.held = true → n = j := fun n s e hh => by
    by_cases hi : j = n
    · exact hi.symm
    · rw [List.getElem?_set_ne hi] at e
      rw [noHeld_at hn e] at hh
      cases hh
  refine ⟨F', ⟨by rw [List.length_set]; exact k.len, fun b o e => ?_, k.f0.trans ff, k.h0, fun b e => ?_, fun i s e => ?_, fun i i' s t q hij e1 e2 h1 h2 _ _ => hij ((held i s e1 h1).trans (held i' t e2 h2).symm), fun i q e => absurd e (hM i q)⟩, ff⟩
  · by_cases h : ∃ w ∈ ws, w.2 = V.ref b
    · rw [in' b h] at e
      exact e
    · rw [out' b h] at e
      exact k.fh b o e
  · by_cases h : ∃ w ∈ ws, w.2 = V.ref b
    · exact .inr (free b h).2.1
    · rw [out' b h] at e
      exact k.fn b e
  · by_cases hi : j = i
    · subst hi
      have hlt : j < δ.length := by
        have := (List.getElem?_eq_some_iff.mp e).1
        rw [List.length_set] at this
        exact this
      rw [List.getElem?_set_self hlt] at e
      cases e
      refine ⟨p, _, ej, g.d, fp, ⟨ws, rfl, grp_co ff g.prs fun w hw a e => in' a ⟨w, hw, e⟩⟩, ?_, g.z⟩
      cases hm : G.M j with
      | none => rfl
      | some q => exact absurd hm (hM j q)
    · rw [List.getElem?_set_ne hi] at e
      have z := k.sl i s e
      have hh := noHeld_at hn e
      cases s with
      | no => trivial
      | fz d =>
        obtain ⟨v, a, b⟩ := z
        exact ⟨v, a, dp_mono ff _ _ b⟩
      | own c => cases hh
      | arg c => cases hh
theorem key_of {K : PySem.W.Frag} {v : V} {d : D} {k : Key} (h : keyOf d = some k) (w : Dp K F v d) : v = kV k := by
  unfold keyOf at h
  split at h
  · cases h
    cases w
    rfl
  · cases h
    cases w
    rfl
  · cases h
theorem szG_len {acc : List (Key × List D)} (h : szG acc = true) : acc.length < sizeLine ∧ ∀ q ∈ acc, q.2.length < sizeLine := by
  unfold szG at h
  rw [Bool.and_eq_true] at h
  refine ⟨small_lt h.1, fun q hq => small_lt ?_⟩
  exact List.all_eq_true.mp h.2 q hq
end
end DL

set_option Elab.async false
set_option linter.all false
set_option maxRecDepth 100000
set_option autoImplicit false
namespace DL
open PySem PySem.Spec PyProof.Rows L2
section
variable {X : Cx} {C : Cf} {iter tg ke ve : Expr} {kE vE : De} {ti : Di} {g : Dg} {ts : List Nat}
/-- one turn, once its target is stored -/
theorem grp_turn {G : Ct} {δ δ2 : DS} {σ : L2.St} {F H : Hp} {p : Addr} {j : Nat} {ws : List (Key × V)} {acc acc' : List (Key × List D)} {N : L2.St → Hp → Prop}
    (k : St1 G δ σ F H) (gr : Grp G F H p ws acc) (ej : σ[j]? = some (some (.ref p))) (nd : (acc.map Prod.fst).Nodup) (ht : grpT kE vE acc δ = .ok acc' δ2)
    (hN : ∀ (F' H' : Hp) (ws' : List (Key × V)), St1 G δ2 σ F' H' → Same F F' → noHeld δ2 = true → Grp G F' H' p ws' acc' → (acc'.map Prod.fst).Nodup → N σ H') :
    tBM G.K "list" rAppend (tDSetd (tVar j) (up G.C kE) (tLst tNil)) (tCons (up G.C vE) tNil) σ H (fun _ H' => N σ H') := by
  obtain ⟨kd, δ1, key, vd, e1, e2, e3, n0, n1, n2, sz, rfl⟩ := grpT_ok ht
  obtain ⟨sz1, sz2⟩ := szG_len sz
  refine ⟨.ref p, ej, p, rfl, .inl ⟨ws, .inl gr.d⟩, iso G.C F H, δ, F, rfl, k.iso n0, ?_⟩
  rw [e1]
  intro v F5 H5 k5 f5 w5
  have k6 := k.back n0 k5 n1
  have g5 := gr.keep f5 (iso_keep k5) (iso_fn k5)
  have ev : v = kV key := key_of e2 w5
  refine ⟨Nat.zero_le _, fun z hz => ?_⟩
  have fz := k6.newF hz
  have zz := k6.new0 hz
  have zp : z ≠ p := fun e => by rw [e, g5.d] at hz; cases hz
  have k7 : St1 G δ1 σ F5 (upd H5 z (.lst [])) := k6.newOwn hz
  have g6 : Grp G F5 (upd H5 z (.lst [])) p ws acc := g5.keep (Same.refl F5) (same_upd hz) fun b e => .inl e
  refine ⟨ws, key, g6.d, ev, by rw [grp_len g6.prs]; exact sz1, fun v hv => ?_, fun hv => ?_⟩
  · obtain ⟨a, vs, rfl, q2, q3, q4, q5, q6, q7, ⟨qq, q8, q8'⟩, _⟩ := grp_some (d := vd) g6.prs g6.nd nd hv
    refine ⟨.inl ⟨rfl, vs, SqL.of q2⟩, iso G.C F5 (upd H5 z (.lst [])), δ1, F5, rfl, k7.iso n1, ?_⟩
    rw [e3]
    intro u F8 H8 k8 f8 w8
    have k9 := k7.back n1 k8 n2
    have g8 := g6.keep f8 (iso_keep k8) (iso_fn k8)
    obtain ⟨a', vs', e', r2, r3, r4, r5, r6, r7, r8, r9⟩ := grp_some (d := vd) g8.prs g8.nd nd hv
    cases e'
    have evs : vs' = vs := by
      have := iso_keep k8 _ _ q2
      rw [r2] at this
      cases this
      rfl
    subst evs
    refine ⟨a, vs', u, rfl, rfl, r2, by rw [q8']; exact sz2 qq q8, ?_⟩
    refine hN F8 _ ws (k9.updFree n2 r3 r4) (f5.trans f8) n2 ⟨by rw [upd_ne (fun z => r5 z.symm)]; exact g8.d, g8.f, g8.z, ?_, g8.nd⟩ (putG_fst nd)
    unfold putG
    rw [if_pos r7]
    exact r9 u w8
  · have hf := grp_none hv
    have hput : putK ws key (.ref z) = ws ++ [(key, .ref z)] := by
      unfold putK
      rw [if_neg (by rw [hf]; exact Bool.false_ne_true)]
    have hacc : (acc.any fun q => decide (q.1 = key)) = false := by rw [grp_find g6.prs]; exact hf
    have hne : ∀ q ∈ acc, ¬q.1 = key := fun q hq e => by
      have := List.any_eq_false.mp hacc q hq
      rw [decide_eq_true e] at this
      exact this rfl
    have fresh : ∀ w ∈ ws, w.2 ≠ .ref z := fun w hw e => by
      obtain ⟨a, vs, h1, h2, _⟩ := grp_mem g5.prs w hw
      rw [h1] at e
      cases e
      rw [hz] at h2
      cases h2
    have pz : p ≠ z := fun e => zp e.symm
    have k8 : St1 G δ1 σ F5 (upd (upd H5 z (.lst [])) p (.dK (putK ws key (.ref z)))) := k7.updFree n1 g6.f g6.z
    have zat : (upd (upd H5 z (.lst [])) p (.dK (putK ws key (.ref z)))) z = some (.lst []) := by rw [upd_ne zp, upd_same]
    have g7 : Grp G F5 (upd (upd H5 z (.lst [])) p (.dK (putK ws key (.ref z)))) p (ws ++ [(key, .ref z)]) (acc ++ [(key, [])]) := by
      refine ⟨by rw [upd_same, hput], g6.f, g6.z, Paired.snoc (grp_updP g6.prs) ⟨rfl, z, [], rfl, zat, .nil, fz, zz, zp⟩, ?_⟩
      rw [List.map_append, List.nodup_append]
      refine ⟨g6.nd, by simp, fun x hx y hy e => ?_⟩
      obtain ⟨w, hw, rfl⟩ := List.mem_map.mp hx
      have hy : y = .ref z := by simpa using hy
      exact fresh w hw (e.trans hy)
    have nd7 : ((acc ++ [(key, ([] : List D))]).map Prod.fst).Nodup := by
      rw [List.map_append, List.nodup_append]
      refine ⟨nd, by simp, fun x hx y hy e => ?_⟩
      obtain ⟨q, hq, rfl⟩ := List.mem_map.mp hx
      have hy : y = key := by simpa using hy
      exact hne q hq (e.trans hy)
    have hv7 : valV (ws ++ [(key, V.ref z)]) key = some (.ref z) := by
      clear g7 g6 g5 gr k8 zat hput hf fresh
      induction ws with
      | nil => exact valV_pos rfl
      | cons w ws ih =>
        by_cases e : w.1 = key
        · rw [valV_pos e] at hv
          cases hv
        · rw [valV_neg e] at hv
          rw [List.cons_append, valV_neg e]
          exact ih hv
    refine ⟨.inl ⟨rfl, [], SqL.of zat⟩, iso G.C F5 _, δ1, F5, rfl, k8.iso n1, ?_⟩
    rw [e3]
    intro u F8 H8 k9 f8 w8
    have k10 := k8.back n1 k9 n2
    have g8 := g7.keep f8 (iso_keep k9) (iso_fn k9)
    obtain ⟨a', vs', e', r2, r3, r4, r5, r6, r7, r8, r9⟩ := grp_some (d := vd) g8.prs g8.nd nd7 hv7
    cases e'
    have evs : vs' = [] := by
      have := iso_keep k9 _ _ zat
      rw [r2] at this
      cases this
      rfl
    subst evs
    refine ⟨z, [], u, rfl, rfl, r2, by show 0 < sizeLine; exact Nat.lt_of_le_of_lt (Nat.zero_le _) sz1, ?_⟩
    refine hN F8 _ (ws ++ [(key, .ref z)]) (k10.updFree n2 r3 r4) (f5.trans f8) n2 ⟨by rw [upd_ne pz]; exact g8.d, g8.f, g8.z, ?_, g8.nd⟩ (putG_fst nd)
    have hp : putG acc key vd = (acc ++ [(key, ([] : List D))]).map fun q => if q.1 = key then (q.1, q.2 ++ [vd]) else q := by
      unfold putG
      rw [if_neg (by rw [hacc]; exact Bool.false_ne_true), List.map_append]
      have : acc.map (fun q => if q.1 = key then (q.1, q.2 ++ [vd]) else q) = acc := by
        conv => rhs; rw [← List.map_id acc]
        exact List.map_congr_left fun q hq => if_neg (hne q hq)
      rw [this]
      simp
    rw [hp]
    exact r9 u w8
end
end DL

set_option Elab.async false
set_option linter.all false
set_option maxRecDepth 100000
set_option autoImplicit false
namespace DL
open PySem PySem.Spec PyProof.Rows L2
section
variable {X : Cx} {C : Cf} {iter tg ke ve : Expr} {kE vE : De} {ti : Di} {g : Dg} {ts : List Nat}
theorem pds_grp (j : Nat) {y : Str} {p1 p2 p3 p4 p5 p6 p7 p8 : Pos} (hp : PassesOwn (model X.prog X.w) X.A X.env X.xe) (hi : PI X tg iter (upI C ti)) (hg : PG X tg (upG C ts g)) (hk : PE X ke (up C kE)) (hv : PE X ve (up C vE)) (hjt : j ∉ ts := by decide)
    (hN : X.N[j]? = some y := by rfl) (hvis : Vis X.env.scope y := by first | exact Or.inl rfl | exact Or.inr (Or.inl rfl) | exact Or.inr (Or.inr rfl)) (hd : (y == ("__debug__" : Str)) = false := by decide) (hcd : (y == ("__classdict__" : Str)) = false := by decide)
    (m : M2 X (.Name y p1) "setdefault" p2 ke (.List [] p3) p4 := by exact ⟨by rfl, by rfl, by rfl, by rfl⟩)
    (hcall : ∀ (to te : TE), PE X (.Call (.Attribute (.Name y p1) "setdefault" p2) [ke, .List [] p3] [] p4) to → PE X ve te → PE X (.Call (.Attribute (.Call (.Attribute (.Name y p1) "setdefault" p2) [ke, .List [] p3] [] p4) "append" p5) [ve] [] p6) (tBM X.K "list" rAppend to (tCons te tNil)) := by
      exact fun _ _ h1 h2 => pe_bm PySem.F.plainAttrs_list PySem.F.slot_list_append PySem.F.type_list_append mt_append h1 (pa_cons h2 pa_nil))
    (hw : swapsWith (.Call (.Attribute (.Call (.Attribute (.Name y p1) "setdefault" p2) [ke, .List [] p3] [] p4) "append" p5) [ve] [] p6) none p7.line X.env = pure false := by rfl)
    (hc : X.calm = true := by rfl) (hs : ∀ x, foldedSetIterable iter X.env x = pure x := by intro _; rfl) (hK : C.K = X.K := by rfl) :
    PS X (.For tg iter [.Expr (.Call (.Attribute (.Call (.Attribute (.Name y p1) "setdefault" p2) [ke, .List [] p3] [] p4) "append" p5) [ve] [] p6) p7] [] p8) (ups C (dGrp j ti g kE vE)) := by
  refine ps_weak (ps_for hp hc hi hg (pss_one (ps_expr (hcall _ _ (pe_dsetd (pe_var hN hvis hd hcd) hk (pe_lst pa_nil) m) hv) hw)) hs) fun Dd σ H ⟨G, δ, F, hC, k, h⟩ => ?_
  subst hC
  obtain ⟨z0, h⟩ := okIf_finS h
  rw [Bool.and_eq_true] at z0
  obtain ⟨z1, n0⟩ := z0
  have ej := isDct0_some z1
  obtain ⟨p, o, sj, q1, q2, ⟨ws, rfl, q3⟩, q4, q5⟩ := k.sl j _ ej
  have hws : ws = [] := by
    cases q3
    rfl
  subst hws
  have k0 := k.hide ej
  cases e1 : ti (δ.set j .no) with
  | bad => rw [e1] at h; exact h.elim
  | ex c s => rw [e1] at h; exact h.elim
  | ok ds δ1 =>
    rw [e1] at h
    simp only at h
    cases e2 : grpL g kE vE ds [] δ1 with
    | bad => rw [e2] at h; exact h.elim
    | ex c s => rw [e2] at h; exact h.elim
    | ok accE δe =>
      rw [e2] at h
      simp only at h
      obtain ⟨z2, h⟩ := okIf_finS h
      rw [Bool.and_eq_true] at z2
      obtain ⟨n1, ne⟩ := z2
      refine ⟨iso G.C F H, δ.set j .no, F, rfl, k0.iso n0, ?_⟩
      rw [e1]
      intro J F1 H1 k1' g1 w1
      have w1 : ItOk G.K J F1 ds := w1
      have k1 := k0.back n0 k1' n1
      have gr0 : Grp G F H p [] [] := ⟨q1, q2, q5, .nil, List.nodup_nil⟩
      have gr1 := gr0.keep g1 (iso_keep k1') (iso_fn k1')
      refine ⟨fun i m σ' H' => m = ds.length - i ∧ i ≤ ds.length ∧ ∃ δ' F' ws acc, St1 G δ' σ' F' H' ∧ Same F1 F' ∧ noHeld δ' = true ∧ σ'[j]? = some (some (.ref p)) ∧ Grp G F' H' p ws acc ∧ (acc.map Prod.fst).Nodup ∧ grpL g kE vE (ds.drop i) acc δ' = .ok accE δe,
        ⟨ds.length, by simp, Nat.zero_le _, δ1, F1, [], [], k1, Same.refl F1, n1, sj, gr1, List.nodup_nil, e2⟩, ?_⟩
      rintro i m σ2 H2 ⟨rfl, hi, δ2, F2, ws, acc, k2, g2, n2, s2, gr2, nd2, e3⟩
      obtain ⟨wgo, wst⟩ := w1 F2 H2 g2 k2.fh i
      by_cases hlt : i < ds.length
      · right
        obtain ⟨go, yl⟩ := wgo ds[i] (List.getElem?_eq_getElem hlt)
        rw [List.drop_eq_getElem_cons hlt] at e3
        obtain ⟨δ3, acc', δ4, r1, r2, r3⟩ := grpL_cons e3
        obtain ⟨_, _, _, _, _, _, _, n3, _⟩ := grpT_ok r2
        refine ⟨go, fun σ' H' => ∃ δ' F' ws acc, St1 G δ' σ' F' H' ∧ Same F1 F' ∧ noHeld δ' = true ∧ σ'[j]? = some (some (.ref p)) ∧ Grp G F' H' p ws acc ∧ (acc.map Prod.fst).Nodup ∧ grpL g kE vE (ds.drop (i + 1)) acc δ' = .ok accE δe,
          fun σ' H' ⟨a1, a2, a3, a4, a5, a6, a7, a8, a9, a10, a11⟩ => ⟨ds.length - (i + 1), by omega, rfl, hlt, a1, a2, a3, a4, a5, a6, a7, a8, a9, a10, a11⟩, fun x H3 yy => ?_⟩
        obtain ⟨F3, f1, f2, f3, f4, w3⟩ := yl x H3 yy
        have k3 := grow_it k2 f1 f2 f3 f4
        have gr3 := gr2.keep f1 f3 f4
        refine ⟨iso G.C F3 H3, δ2, F3, ds[i], rfl, k3.iso n2, w3, ?_⟩
        rw [r1]
        intro σ4 F4 H4 k4' f' ag
        have k4 := k3.back n2 k4' n3
        have gr4 := gr3.keep f' (iso_keep k4') (iso_fn k4')
        have s4 : σ4[j]? = some (some (.ref p)) := by rw [ag.1 j hjt]; exact s2
        rw [← hK]
        exact grp_turn k4 gr4 s4 nd2 r2 fun F5 H5 ws5 k5 f5 n5 gr5 nd5 => ⟨δ4, F5, ws5, acc', k5, ((g2.trans f1).trans f').trans f5, n5, s4, gr5, nd5, r3⟩
      · left
        have e : i = ds.length := by omega
        subst e
        refine ⟨wst rfl, ?_⟩
        rw [List.drop_length] at e3
        cases e3
        obtain ⟨F', k', ff⟩ := grp_end k2 ne gr2 s2
        exact h σ2 F' H2 k' ((g1.trans g2).trans ff)
/-- {} -/
def dDct0 : De := fun δ => .ok (.own (.dct [])) δ
theorem pd_dct0 {pos : Pos} : PE X (.Dict [] [] pos) (up C dDct0) := pe_weak pe_dnewK fun σ H Q ⟨G, δ, F, hC, k, h⟩ => by
  subst hC
  intro p hp
  exact h (.ref p) F _ (k.newOwn hp) (Same.refl F) (k.valOwn hp ⟨[], rfl, .nil⟩)
end
end DL

set_option Elab.async false
set_option linter.all false
set_option maxRecDepth 100000
set_option autoImplicit false
namespace DL
open PySem PySem.Spec PyProof.Rows L2
section
variable {X : Cx} {C : Cf} {e a b : Expr} {ta tb : De} {pos : Pos}
/-! ### sum, abs -/
def fSum : D → Option Vl
  | .list ds => (intsOf ds).map fun ns => .fz (.int ns.sum)
  | _ => none
theorem b_sum {K : PySem.W.Frag} : B1 K (rSum K) fSum := by
  intro G δ σ F H x d z Q hK k hx ez q
  subst hK
  cases d with
  | list ds =>
    obtain ⟨p, vs, rfl, h1, h2⟩ := hx.list k.fh
    have ez : (intsOf ds).map (fun ns => Vl.fz (.int ns.sum)) = some z := ez
    cases ei : intsOf ds with
    | none => rw [ei] at ez; cases ez
    | some ns =>
      rw [ei] at ez
      cases ez
      have := intsOf_some ei
      subst this
      rw [dpa_int_eq h2] at h1
      exact ⟨p, ns, rfl, SqL.of h1, q.fz k (.int _)⟩
  | _ => cases ez
theorem pd_sum {p : Pos} (hm : X.mg "sum" = none) (ha : PE X e (up C ta)) (hc : X.calm = true := by rfl) (hK : C.K = X.K := by rfl) (hcall : ∀ (r : List V → Hp → VK → Prop) (te : TE), X.mg "sum" = none → CallR X (.builtin "sum") r → PE X e te → PE X (.Call (.Name "sum" p) [e] [] pos) (tCB r (tCons te tNil)) := by exact fun _ _ hm0 h1 h2 => pe_callB h1 (by rfl) hm0 (by decide +kernel) (pa_cons h2 pa_nil)) :
    PE X (.Call (.Name "sum" p) [e] [] pos) (up C (dUn fSum ta)) := pe_weak (hcall _ _ hm (cr_sum hc) ha) (by rw [← hK]; exact rf_b1 b_sum)
def fAbs : D → Option Vl
  | .int i => some (.fz (.int (if i < 0 then -i else i)))
  | _ => none
theorem b_abs {K : PySem.W.Frag} : B1 K (fun xs H Q => ∃ i, xs = [.int i] ∧ Q (.int (if i < 0 then -i else i)) H) fAbs := by
  intro G δ σ F H x d z Q hK k hx ez q
  subst hK
  cases d with
  | int i =>
    have hx := hx.int
    subst hx
    cases ez
    exact ⟨i, rfl, q.fz k (.int _)⟩
  | _ => cases ez
theorem pd_abs {p : Pos} (hm : X.mg "abs" = none) (ha : PE X e (up C ta)) (hcall : ∀ (r : List V → Hp → VK → Prop) (te : TE), X.mg "abs" = none → CallR X (.builtin "abs") r → PE X e te → PE X (.Call (.Name "abs" p) [e] [] pos) (tCB r (tCons te tNil)) := by exact fun _ _ hm0 h1 h2 => pe_callB h1 (by rfl) hm0 (by decide +kernel) (pa_cons h2 pa_nil)) :
    PE X (.Call (.Name "abs" p) [e] [] pos) (up C (dUn fAbs ta)) := pe_weak (hcall _ _ hm call_abs ha) (rf_b1 b_abs)
/-! ### max(xs, default=n) -/
def mx0 (d : Int) : List Int → Int
  | [] => d
  | n :: ns => ns.foldl max n
def fMaxD : D → D → Option Vl
  | .list ds, .int d => (intsOf ds).map fun ns => .fz (.int (mx0 d ns))
  | _, _ => none
def rMaxD0 (K : PySem.W.Frag) : List V → List V → Hp → VK → Prop := fun vs zs H Q => ∃ (a : Addr) (ns : List Int) (d : Int), vs = [V.ref a] ∧ zs = [V.int d] ∧ SqL K H a (ns.map V.int) ∧ Q (.int (mx0 d ns)) H
theorem alike_all_ints (ns : List Int) : PySem.W.AlikeAll (ns.map PyData.int) := by
  have gx : ∀ x ∈ ns.map PyData.int, ∃ i, x = PyData.int i := fun x hx => by
    obtain ⟨i, _, rfl⟩ := List.mem_map.mp hx
    exact ⟨i, rfl⟩
  refine ⟨fun x hx y hy => ?_, fun x hx e => ?_⟩
  · obtain ⟨i, rfl⟩ := gx x hx
    obtain ⟨j, rfl⟩ := gx y hy
    rfl
  · obtain ⟨i, rfl⟩ := gx x hx
    cases e
theorem call_maxD (hc : X.calm = true) (hu : X.A.units + 64 < cLine) : CallRK X (.builtin "max") ["default"] (rMaxD0 X.K) := by
  intro pins s σ H xs zs us ws Q I r rz h
  obtain ⟨a, ns, d, rfl, rfl, hs, q⟩ := h
  obtain ⟨its, rv, hl, _⟩ := I.list hs
  rw [Vals.ref1 r]
  obtain ⟨u, rfl, t, rfl⟩ := vals1 rz
  obtain ⟨as, ra⟩ := L2.Dp.readsAll I (ns.map PyData.int) _ _ (dpa_ofInts ns) rv
  refine PySem.W.max_list_default (xs := ns.map PyData.int) (I.ok.hd hc) hl.isList ra (alike_all_ints ns) (by rw [PySem.W.depth_ints]; omega) (fun hz h' tk kp => ?_) fun y ys i v h' tk bs hy _ rd kp => ?_
  · have : ns = [] := by
      cases ns with
      | nil => rfl
      | cons n ns => cases hz
    subst this
    exact ⟨.int d, H, I.kept kp, ⟨t, rfl⟩, q⟩
  · cases ns with
    | nil => cases hy
    | cons n ns =>
      cases hy
      rw [PySem.W.maxD_ints] at rd
      cases rd
      exact ⟨.int _, H, I.kept kp, ⟨_, rfl⟩, q⟩
theorem up_imp {td : De} {σ : L2.St} {H : Hp} {Q Q' : VK} (h : up C td σ H Q) (w : ∀ v H, Q v H → Q' v H) : up C td σ H Q' := by
  obtain ⟨G, δ, F, hC, k, h⟩ := h
  refine ⟨G, δ, F, hC, k, ?_⟩
  cases e : td δ with
  | bad => rw [e] at h; exact h
  | ex c s => rw [e] at h; exact h
  | ok x δ1 =>
    rw [e] at h
    exact fun v F' H' k' f' w' => w _ _ (h v F' H' k' f' w')
theorem b_maxD {K : PySem.W.Frag} : B2 K (fun l H Q => ∃ x y, l = [x, y] ∧ rMaxD0 K [x] [y] H Q) fMaxD := by
  intro G δ σ F H x y d e z Q hK k hx hy ez q
  subst hK
  cases d with
  | list ds =>
    cases e with
    | int n =>
      have hy := hy.int
      subst hy
      obtain ⟨p, vs, rfl, h1, h2⟩ := hx.list k.fh
      have ez : (intsOf ds).map (fun ns => Vl.fz (.int (mx0 n ns))) = some z := ez
      cases ei : intsOf ds with
      | none => rw [ei] at ez; cases ez
      | some ns =>
        rw [ei] at ez
        cases ez
        have := intsOf_some ei
        subst this
        rw [dpa_int_eq h2] at h1
        exact ⟨_, _, rfl, p, ns, n, rfl, rfl, SqL.of h1, q.fz k (.int _)⟩
    | _ => cases ez
  | _ => cases e <;> cases ez
theorem pd_maxD {p kp : Pos} (hm : X.mg "max" = none) (hu : X.A.units + 64 < cLine) (ha : PE X a (up C ta)) (hb : PE X b (up C tb)) (hc : X.calm = true := by rfl) (hK : C.K = X.K := by rfl)
    (hcall : ∀ (r : List V → List V → Hp → VK → Prop) (te te' : TE), X.mg "max" = none → CallRK X (.builtin "max") ["default"] r → PE X a te → PE X b te' → PE X (.Call (.Name "max" p) [a] [⟨some "default", b, kp⟩] pos) (tCKw r (tCons te tNil) (tCons te' tNil)) := by
      exact fun _ _ _ hm0 h1 h2 h3 => pe_callBK h1 (by rfl) hm0 (by decide +kernel) (pa_cons h2 pa_nil) (pk_cons h3 pk_nil)) :
    PE X (.Call (.Name "max" p) [a] [⟨some "default", b, kp⟩] pos) (up C (dBin fMaxD ta tb)) := pe_weak (hcall _ _ _ hm (call_maxD hc hu) ha hb) fun σ H Q h => by
  have h := rf_b2 (C := C) (b_maxD (K := C.K)) σ H Q h
  refine up_imp h fun x H1 h => up_imp h fun y H2 h => ?_
  obtain ⟨x', y', e, h⟩ := h
  cases e
  rw [← hK]
  exact h
/-! ### zip of two lists -/
def zipD : List D → List D → List D
  | x :: xs, y :: ys => .tuple [x, y] :: zipD xs ys
  | _, _ => []
def zipOf (ds : List D) (δ : DS) : R (List D) := match ds with
  | [.list l, .list m] => .ok (zipD l m) δ
  | _ => .bad
def dZip (l : Dl) : Di := fun δ => (l δ).bind zipOf
theorem zipD_of : ∀ {l m : List D} {i : Nat} {d : D}, (zipD l m)[i]? = some d → ∃ x y, l[i]? = some x ∧ m[i]? = some y ∧ d = .tuple [x, y]
  | x :: l, y :: m, 0, d, h => ⟨x, y, rfl, rfl, (Option.some.inj h).symm⟩
  | x :: l, y :: m, i + 1, d, h => by
    obtain ⟨x', y', h1, h2, h3⟩ := zipD_of (l := l) (m := m) (i := i) (by simpa [zipD] using h)
    exact ⟨x', y', by simpa using h1, by simpa using h2, h3⟩
  | [], _, _, _, h => by simp [zipD] at h
  | _ :: _, [], _, _, h => by simp [zipD] at h
theorem zipD_len : ∀ (l m : List D), (zipD l m).length = min l.length m.length
  | x :: l, y :: m => by
    show (zipD l m).length + 1 = _
    rw [zipD_len l m, List.length_cons, List.length_cons]
    omega
  | [], m => by simp [zipD]
  | x :: l, [] => by simp [zipD]
theorem it_zip {K : PySem.W.Frag} {F : Hp} {p q : Addr} {vs us : List V} {ds es : List D} (h : F p = some (.lst vs)) (h' : F q = some (.lst us)) (w : DpAll K F vs ds) (w' : DpAll K F us es) : ItOk K (Itz K p q) F (zipD ds es) := fun F2 H2 f2 h2 i => by
  have hq : SqL K H2 p vs := SqL.of ((f2.trans h2) _ _ h)
  have hq' : SqL K H2 q us := SqL.of ((f2.trans h2) _ _ h')
  refine ⟨fun d hd => ?_, fun hi => ⟨vs, us, hq, hq', by rw [zipD_len] at hi; rw [dpa_len w, dpa_len w']; omega⟩⟩
  obtain ⟨x, y, hx, hy, rfl⟩ := zipD_of hd
  obtain ⟨v, e1, e2⟩ := dpa_get w hx
  obtain ⟨u, e3, e4⟩ := dpa_get w' hy
  refine ⟨⟨vs, us, v, u, hq, hq', e1, e3⟩, fun z H3 yy => ?_⟩
  obtain ⟨T, x', y', rfl, hT, rfl, y1, y2⟩ := yy
  have ex : v = x' := Option.some.inj (e1.symm.trans (y1 vs hq))
  have ey : u = y' := Option.some.inj (e3.symm.trans (y2 us hq'))
  subst ex ey
  have hF : F2 T = none := h2.free hT
  have ff := f2.trans (same_upd (o := HO.tup [v, u]) hF)
  refine ⟨upd F2 T (.tup [v, u]), same_upd hF, fun b o e => ?_, same_upd hT, fun b z => ?_, .tup upd_same (.cons (dp_mono ff _ _ e2) (.cons (dp_mono ff _ _ e4) .nil))⟩
  · by_cases hb : b = T
    · subst hb; rw [upd_same] at e ⊢; exact e
    · rw [upd_ne hb] at e ⊢; exact h2 _ _ e
  · by_cases hb : b = T
    · subst hb; exact .inr hT
    · rw [upd_ne hb] at z; exact .inl z
theorem zipOf_some {G : Ct} {ds : List D} {δ : DS} {σ : L2.St} {F : Hp} {R : It → Hp → Prop} (h : finA G (WI G) (zipOf ds δ) σ F R) : ∃ l m, ds = [.list l, .list m] ∧ finA G (WI G) (.ok (zipD l m) δ) σ F R := by
  unfold zipOf at h
  split at h
  · exact ⟨_, _, rfl, h⟩
  · exact h.elim
theorem pdi_zip {tl : Dl} {p pos tpos : Pos} {elts : List Expr} {kk : Nat} (hm : X.mg "zip" = none) (ha : PA X [a, b] (upL C tl)) (hg : Gl X "zip" := by rfl) (hK : C.K = X.K := by rfl) (hs : starEach [a, b] X.env = (false, eval a X.env) :: starEach [b] X.env := by rfl) (hpl : (backTo pos (starEach [b] X.env)).any (·.1) = false := by rfl) :
    PI X (.Tuple elts kk tpos) (.Call (.Name "zip" p) [a, b] [] pos) (upI C (dZip tl)) := by
  refine pi_weak (pi_zip hg hm ha hs hpl) fun σ H R ⟨G, δ, F, hC, k, h⟩ => ?_
  subst hC
  refine ⟨G, δ, F, rfl, k, finA_bind h fun ds δ1 vs F1 H1 k1 g1 w1 h1 => ?_⟩
  obtain ⟨l, m, rfl, h2⟩ := zipOf_some h1
  have w1 : DpAll G.K F1 vs [.list l, .list m] := w1
  cases w1 with
  | cons w ws =>
    cases ws with
    | cons w' ws =>
      cases ws
      cases w with
      | @lst p vs _ q0 q1 =>
        cases w' with
        | @lst p' vs' _ r0 r1 =>
          exact ⟨p, p', vs, vs', rfl, SqL.of (k1.fh _ _ q0), SqL.of (k1.fh _ _ r0), h2 _ F1 H1 k1 (Same.refl F1) (by rw [← hK]; exact it_zip q0 r0 q1 r1)⟩
end
end DL

set_option Elab.async false
set_option linter.all false
set_option maxRecDepth 100000
set_option autoImplicit false
namespace DL
open PySem PySem.Spec L2
/-! ### the data readings, step by step -/
def pick {α : Type} (b : Bool) (x y : α) : α := match b with
  | true => x
  | false => y
section
variable {δ δ1 δ2 δ3 δ4 δ' : DS} {a b c : De} {t u : Dt} {l : Dl} {s s' : Ds} {g : Dg} {gs : Dgs} {x y z : Vl} {d e : D} {ds es : List D} {i j : Nat} {k m : Bool} {o : Out} {co : Co}
theorem p_t {α : Type} {b : Bool} {x y r : α} (h : b = true) (q : x = r) : pick b x y = r := by subst h; exact q
theorem p_f {α : Type} {b : Bool} {x y r : α} (h : b = false) (q : y = r) : pick b x y = r := by subst h; exact q
theorem v_fz (h : δ[i]? = some (.fz d)) : dVar i δ = .ok (.fz d) δ := by unfold dVar; rw [h]
theorem v_own (h : δ[i]? = some (.own co)) : dVar i δ = .ok (.loc i) δ := by unfold dVar; rw [h]
theorem v_arg (h : δ[i]? = some (.arg co)) : dVar i δ = .ok (.loc i) δ := by unfold dVar; rw [h]
theorem r_c : dC d δ = .ok (.fz d) δ := rfl
theorem r_bin {f : D → D → Option Vl} (ha : a δ = .ok x δ1) (hb : b δ1 = .ok y δ2) (hx : vw δ2 (fzT x) = some d) (hy : vw δ2 (fzT y) = some e) (hf : f d e = some z) : dBin f a b δ = .ok z δ2 := by
  unfold dBin
  simp only [ha, hb, R.bind, hx, hy, lift2, hf, ret]
theorem r_un {f : D → Option Vl} (ha : a δ = .ok x δ1) (hx : vw δ1 (fzT x) = some d) (hf : f d = some z) : dUn f a δ = .ok z δ1 := by
  unfold dUn
  simp only [ha, R.bind, hx, lift1, hf, ret]
theorem r_test (ha : a δ = .ok (.fz (.bool k)) δ1) : dTest a δ = .ok k δ1 := by
  unfold dTest
  rw [ha]
  rfl
theorem r_andV {r : R Vl} (ha : a δ = .ok (.fz (.bool k)) δ1) (h : pick k (b δ1) (.ok (.fz (.bool false)) δ1) = r) : dAndV a b δ = r := by
  unfold dAndV
  rw [ha]
  exact h
theorem r_orV {r : R Vl} (ha : a δ = .ok (.fz (.bool k)) δ1) (h : pick k (.ok (.fz (.bool true)) δ1) (b δ1) = r) : dOrV a b δ = r := by
  unfold dOrV
  rw [ha]
  exact h
theorem r_andB (ha : a δ = .ok (.fz (.bool k)) δ1) (hb : b δ1 = .ok (.fz (.bool m)) δ1) : dAndV a b δ = .ok (.fz (.bool (k && m))) δ1 := r_andV ha (by cases k <;> first | exact hb | rfl)
theorem r_notV (ha : a δ = .ok (.fz (.bool k)) δ1) : dNotV a δ = .ok (.fz (.bool (!k))) δ1 := by
  unfold dNotV
  rw [ha]
  rfl
theorem r_and {r : R Bool} (ha : t δ = .ok k δ1) (h : pick k (u δ1) (.ok false δ1) = r) : dAnd t u δ = r := by
  unfold dAnd
  rw [ha]
  exact h
theorem r_or {r : R Bool} (ha : t δ = .ok k δ1) (h : pick k (.ok true δ1) (u δ1) = r) : dOr t u δ = r := by
  unfold dOr
  rw [ha]
  exact h
theorem r_not (ha : t δ = .ok k δ1) : dNot t δ = .ok (!k) δ1 := by
  unfold dNot
  rw [ha]
  rfl
theorem r_if {r : R Vl} (ha : t δ = .ok k δ1) (h : pick k (a δ1) (b δ1) = r) : dIf t a b δ = r := by
  unfold dIf
  rw [ha]
  exact h
theorem r_chain {f f' : D → D → Option Vl} {v : D} {w : Vl} {r : R Vl} (ha : a δ = .ok x δ1) (hb : b δ1 = .ok y δ2) (hx : vw δ2 (fzT x) = some d) (hy : vw δ2 (fzT y) = some e) (hf : f d e = some (.fz (.bool k)))
    (h : pick k ((c δ2).bind fun u δ5 => lift2 f' (vw δ5 (fzT y)) (vw δ5 (fzT u)) δ5) (.ok (.fz (.bool false)) δ2) = r) : dChain f f' a b c δ = r := by
  unfold dChain
  simp only [ha, hb, R.bind, hx, hy, lift2, hf, ret, asB]
  exact h
theorem r_chainB {f f' : D → D → Option Vl} {v : D} {w : D} (ha : a δ = .ok x δ1) (hb : b δ1 = .ok y δ2) (hx : vw δ2 (fzT x) = some d) (hy : vw δ2 (fzT y) = some e) (hf : f d e = some (.fz (.bool k))) (hc : c δ2 = .ok z δ3) (hy2 : vw δ3 (fzT y) = some v) (hz : vw δ3 (fzT z) = some w) (hf2 : f' v w = some (.fz (.bool m))) (hs : δ3 = δ2) : dChain f f' a b c δ = .ok (.fz (.bool (k && m))) δ3 := by
  subst hs
  unfold dChain
  simp only [ha, hb, R.bind, hx, hy, lift2, hf, ret, asB]
  cases k
  · rfl
  · simp only [hc, R.bind, hy2, hz, hf2]
    rfl
theorem r_ch2 {f' : D → D → Option Vl} (hc : c δ = .ok x δ1) (hx : vw δ1 (fzT y) = some d) (hy : vw δ1 (fzT x) = some e) (hf : f' d e = some z) : ((c δ).bind fun u δ5 => lift2 f' (vw δ5 (fzT y)) (vw δ5 (fzT u)) δ5) = .ok z δ1 := by
  simp only [hc, R.bind, hx, hy, lift2, hf, ret]
theorem l_nil : dNil δ = .ok [] δ := rfl
theorem l_cons (ha : a δ = .ok x δ1) (hk : kp x δ1 = .ok d δ2) (hl : l δ2 = .ok ds δ3) : dCons a l δ = .ok (d :: ds) δ3 := by
  unfold dCons
  simp only [ha, R.bind, hk, hl]
theorem r_tup (hl : l δ = .ok ds δ1) (hs : small ds.length = true) : dTup l δ = .ok (.fz (.tuple ds)) δ1 := by
  unfold dTup
  simp only [hl, R.bind, hs, okIf]
theorem r_lst (hl : l δ = .ok ds δ1) (hs : small ds.length = true) : dLst l δ = .ok (.own (.lst ds)) δ1 := by
  unfold dLst
  simp only [hl, R.bind, hs, okIf]
theorem o_some {v : Int} (ha : a δ = .ok (.fz (.int v)) δ1) : oSome a δ = .ok (some v) δ1 := by
  unfold oSome
  rw [ha]
  rfl
theorem o_none : oNone δ = .ok none δ := rfl
theorem r_sl {p q : Dopt} {v w : Option Int} (ha : a δ = .ok x δ1) (hp : p δ1 = .ok v δ2) (hq : q δ2 = .ok w δ3) (hx : vw δ3 (fzT x) = some d) (hf : fSl d v w = some z) : dSl a p q δ = .ok z δ3 := by
  unfold dSl
  simp only [ha, hp, hq, R.bind, hx, liftS, hf, ret]
variable {al : Da} {ams : List Am} {den : List Sl → R Vl}
theorem a_nil : aNil δ = .ok [] δ := rfl
theorem a_val (ha : a δ = .ok x δ1) (hk : kp x δ1 = .ok d δ2) (hl : al δ2 = .ok ams δ3) : aVal a al δ = .ok (.fz d :: ams) δ3 := by
  unfold aVal
  simp only [ha, R.bind, hk, hl]
theorem a_ref (hk : known i δ = true) (hl : al δ = .ok ams δ3) : aRef i al δ = .ok (.ref i :: ams) δ3 := by
  unfold aRef
  simp only [hk, okIf, hl, R.bind]
theorem r_call (ha : al δ = .ok ams δ1) (h1 : refPos δ1 ams = none) (h2 : (refOne δ1 ams && ams.all (amKnown δ1)) = true) (hd : den (ams.map (amSl δ1)) = .ok z δ') : dCall den al δ = .ok z δ1 := by
  unfold dCall
  simp only [ha, R.bind, h2, okIf, callM, hd, putBack, h1]
variable {r : R Out}
theorem s_skip : dSkip δ = .ok .nx δ := rfl
theorem s_seq (h : s δ = .ok .nx δ1) (q : s' δ1 = r) : dSeq s s' δ = r := by
  unfold dSeq
  rw [h]
  exact q
theorem s_seqR {v : Vl} (h : s δ = .ok (.rt v) δ1) : dSeq s s' δ = .ok (.rt v) δ1 := by
  unfold dSeq
  rw [h]
theorem s_ret (ha : a δ = .ok x δ1) : dRet a δ = .ok (.rt x) δ1 := by
  unfold dRet
  rw [ha]
  rfl
theorem s_if (ht : t δ = .ok k δ1) (h : pick k (s δ1) (s' δ1) = r) : dIfS t s s' δ = r := by
  unfold dIfS
  rw [ht]
  exact h
theorem s_drop (ha : a δ = .ok x δ1) : dDrop a δ = .ok .nx δ1 := by
  unfold dDrop
  rw [ha]
  rfl
theorem s_asg (ha : a δ = .ok x δ1) (h : setS i x δ1 = r) : dAsg i a δ = r := by
  unfold dAsg
  rw [ha]
  exact h
theorem set_fz (h : okSet δ i = true) (hs : δ.set i (.fz d) = δ') : setS i (.fz d) δ = .ok .nx δ' := by
  subst hs
  unfold setS
  rw [h]
  rfl
theorem set_own (h : okSet δ i = true) (hs : δ.set i (.own co) = δ') : setS i (.own co) δ = .ok .nx δ' := by
  subst hs
  unfold setS
  rw [h]
  rfl
theorem s_asgG (ha : a δ = .ok x δ1) (hk : kp x δ1 = .ok d δ2) (h : g d δ2 = .ok .nx δ3) : dAsgG g a δ = .ok .nx δ3 := by
  unfold dAsgG
  simp only [ha, R.bind, hk, h, onlyNx]
theorem g_n (h : setS i (.fz d) δ = r) : gN i d δ = r := h
theorem g_nil : gsNil [] δ = .ok .nx δ := rfl
theorem g_cons (h : g d δ = .ok .nx δ1) (q : gs ds δ1 = r) : gsCons g gs (d :: ds) δ = r := by
  unfold gsCons
  simp only [h]
  exact q
theorem g_tup {n : Nat} (hn : (ds.length == n) = true) (h : gs ds δ = r) : gTupD n gs (.tuple ds) δ = r := by
  unfold gTupD
  simp only [hn]
  exact h
theorem g_lst {n : Nat} (hn : (ds.length == n) = true) (h : gs ds δ = r) : gTupD n gs (.list ds) δ = r := by
  unfold gTupD
  simp only [hn]
  exact h
theorem s_par (hl : l δ = .ok [d, e] δ1) (h : (okSet δ1 i && okSet δ1 j) = true) (hs : (δ1.set i (.fz d)).set j (.fz e) = δ') : dPar i j l δ = .ok .nx δ' := by
  subst hs
  unfold dPar
  simp only [hl, R.bind, h, okIf]
theorem run_rt {np n : Nat} {as : List Sl} {v : Vl} (h0 : (as.length == np && as.all isIn) = true) {δ0 : DS} (hz : as ++ List.replicate (n - np) .no = δ0) (h : s δ0 = .ok (.rt v) δ) (hv : retV v δ = .ok x δ1) (ht : trim as δ1 = δ2) : noEx as (runDef np n s as) = .ok x δ2 := by
  subst ht hz
  unfold runDef
  simp only [h0, h, endOf, hv, noEx]
theorem run_nx {np n : Nat} {as : List Sl} (h0 : (as.length == np && as.all isIn) = true) {δ0 : DS} (hz : as ++ List.replicate (n - np) .no = δ0) (h : s δ0 = .ok .nx δ) (ht : trim as δ = δ2) : noEx as (runDef np n s as) = .ok (.fz .none) δ2 := by
  subst ht hz
  unfold runDef
  simp only [h0, h, endOf, noEx]
end
theorem run_b {np n : Nat} {as : List Sl} {s : Ds} {δ δ2 : DS} {b k : Bool} (h0 : (as.length == np && as.all isIn) = true) {δ0 : DS} (hz : as ++ List.replicate (n - np) .no = δ0) (h : s δ0 = .ok (.rt (.fz (.bool b))) δ) (hv : b = k) (ht : trim as δ = δ2) : noEx as (runDef np n s as) = .ok (.fz (.bool k)) δ2 := by
  subst hv
  exact run_rt h0 hz h rfl ht
theorem run_v {np n : Nat} {as : List Sl} {s : Ds} {δ δ2 : DS} {d e : D} (h0 : (as.length == np && as.all isIn) = true) {δ0 : DS} (hz : as ++ List.replicate (n - np) .no = δ0) (h : s δ0 = .ok (.rt (.fz d)) δ) (hv : d = e) (ht : trim as δ = δ2) : noEx as (runDef np n s as) = .ok (.fz e) δ2 := by
  subst hv
  exact run_rt h0 hz h rfl ht
theorem run_o {np n : Nat} {as : List Sl} {s : Ds} {δ δ2 : DS} {d e : Co} (h0 : (as.length == np && as.all isIn) = true) {δ0 : DS} (hz : as ++ List.replicate (n - np) .no = δ0) (h : s δ0 = .ok (.rt (.own d)) δ) (hv : d = e) (ht : trim as δ = δ2) : noEx as (runDef np n s as) = .ok (.own e) δ2 := by
  subst hv
  exact run_rt h0 hz h rfl ht
/-! ### loops -/
def lastSl (s : Sl) : List D → Sl
  | [] => s
  | d :: ds => lastSl (.fz d) ds
theorem lastSl_free : ∀ (ds : List D) (s : Sl), s.held = false → (lastSl s ds).held = false
  | [], _, h => h
  | d :: ds, s, _ => lastSl_free ds (.fz d) rfl
theorem set_same {δ : DS} {i : Nat} {s : Sl} (h : δ[i]? = some s) : δ.set i s = δ := by
  obtain ⟨h1, h2⟩ := List.getElem?_eq_some_iff.mp h
  subst h2
  exact List.set_getElem_self h1
theorem okSet_fz {δ : DS} {i : Nat} {d : D} (h : okSet δ i = true) (e : D) : okSet (δ.set i (.fz d)) i = true := okSet_set h
theorem for_keep {i : Nat} {body : Ds} : ∀ (ds : List D) (δ : DS) (s : Sl), δ[i]? = some s → okSet δ i = true → (∀ d ∈ ds, body (δ.set i (.fz d)) = .ok .nx (δ.set i (.fz d))) → forL (stepB (gN i) body) ds δ = .ok .nx (δ.set i (lastSl s ds))
  | [], δ, s, h, _, _ => by
    show R.ok Out.nx δ = _
    rw [show lastSl s [] = s from rfl, set_same h]
  | d :: ds, δ, s, h, ho, hb => by
    have e1 : stepB (gN i) body d δ = .ok .nx (δ.set i (.fz d)) := by
      unfold stepB
      rw [show gN i d δ = .ok .nx (δ.set i (.fz d)) from set_fz ho rfl]
      exact hb d List.mem_cons_self
    have hi := (List.getElem?_eq_some_iff.mp h).1
    have e2 := for_keep (i := i) (body := body) ds (δ.set i (.fz d)) (.fz d) (List.getElem?_set_self hi) (okSet_set ho) fun e he => by
      rw [List.set_set]
      exact hb e (List.mem_cons_of_mem _ he)
    show (match stepB (gN i) body d δ with
      | .ok .nx δ1 => forL (stepB (gN i) body) ds δ1
      | .ok .ct δ1 => forL (stepB (gN i) body) ds δ1
      | .ok .bk δ1 => .ok .nx δ1
      | r => r) = _
    rw [e1]
    simp only
    rw [e2, List.set_set]
    rfl
theorem s_for {ti : Di} {g : Dg} {body : Ds} {δ δ1 : DS} {ds : List D} {r : R Out} (hi : ti δ = .ok ds δ1) (hf : forL (stepB g body) ds δ1 = r) : dFor ti g body δ = r := by
  unfold dFor
  rw [hi]
  exact hf
theorem i_it {a : De} {δ δ1 δ2 δ3 : DS} {x : Vl} {d : D} {ds : List D} (ha : a δ = .ok x δ1) (hk : kp x δ1 = .ok d δ2) (h : itemsOf d δ2 = .ok ds δ3) : dIter a δ = .ok ds δ3 := by
  unfold dIter
  simp only [ha, R.bind, hk, h]
theorem i_r1 {l : Dl} {δ δ1 : DS} {n : Int} (hl : l δ = .ok [.int n] δ1) (h1 : -1000000 ≤ n) (h2 : n ≤ 1000000) : dRange1 l δ = .ok ((List.range n.toNat).map fun (i : Nat) => PyData.int i) δ1 := by
  unfold dRange1
  simp only [hl, R.bind, h1, h2, decide_true, Bool.and_self, okIf]
/-- a comprehension of one clause that changes no list -/
theorem comp_map {α : Type} {f : D → DS → R (Option D)} {δ : DS} {enc : α → D} {φ : α → Option D} : ∀ xs : List α, (∀ x ∈ xs, f (enc x) δ = .ok (φ x) δ) → compL f (xs.map enc) δ = .ok (xs.filterMap φ) δ
  | [], _ => rfl
  | x :: xs, h => by
    have e1 := h x List.mem_cons_self
    have e2 := comp_map (φ := φ) xs fun y hy => h y (List.mem_cons_of_mem _ hy)
    rw [List.map_cons]
    unfold compL
    rw [e1]
    simp only
    rw [e2]
    simp only [List.filterMap_cons]
    cases φ x <;> rfl
theorem comp_map1 {α : Type} {f : D → DS → R (Option D)} {δ : DS} {enc ψ : α → D} {xs : List α} (h : ∀ x ∈ xs, f (enc x) δ = .ok (some (ψ x)) δ) : compL f (xs.map enc) δ = .ok (xs.map ψ) δ := by
  rw [comp_map (φ := fun x => some (ψ x)) xs h]
  congr 1
  induction xs with
  | nil => rfl
  | cons x xs ih => simp [ih fun y hy => h y (List.mem_cons_of_mem _ hy)]
theorem turn_1 {vs : List Nat} {g : Dg} {tt : Dt} {te : De} {d : D} {δ δ2 δ4 δ3 : DS} {k : Bool} {o : Option D} {δ0 : DS} (hw : wipeD (δ.map toArg) vs = δ0) (hg : g d δ0 = .ok .nx δ2) (ht : tt δ2 = .ok k δ3) (he : pick k ((te δ3).bind fun x δ4 => (kp x δ4).bind fun d δ5 => .ok (some d) δ5) (.ok none δ3) = .ok o δ4) (hb : back δ δ4 = δ) : turnL vs g tt te d δ = .ok o δ := by
  subst hw
  unfold turnL onTurn
  simp only [hg, ht]
  cases k with
  | false =>
    have he : (R.ok none δ3 : R (Option D)) = .ok o δ4 := he
    cases he
    simp only [R.bind, backR, hb]
  | true =>
    have he : ((te δ3).bind fun x δ4 => (kp x δ4).bind fun d δ5 => R.ok (some d) δ5) = .ok o δ4 := he
    show backR δ ((te δ3).bind fun x δ4 => (kp x δ4).bind fun d δ5 => R.ok (some d) δ5) = _
    rw [he]
    simp only [backR, hb]
theorem turn_e {te : De} {δ δ1 δ2 : DS} {x : Vl} {d : D} (he : te δ = .ok x δ1) (hk : kp x δ1 = .ok d δ2) : ((te δ).bind fun x δ4 => (kp x δ4).bind fun d δ5 => R.ok (some d) δ5) = .ok (some d) δ2 := by
  simp only [he, R.bind, hk]
theorem r_lc {vs : List Nat} {ti : Di} {g : Dg} {tt : Dt} {te : De} {δ δ1 δ2 : DS} {ds l : List D} (hi : ti δ = .ok ds δ1) (h0 : (small ds.length && freeAt vs δ1) = true) (h : compL (turnL vs g tt te) ds δ1 = .ok l δ2) : dLc vs ti g tt te δ = .ok (.own (.lst l)) δ2 := by
  unfold dLc
  simp only [hi, R.bind, h0, okIf, h]
theorem t_yes {δ : DS} : dYes δ = .ok true δ := rfl
/-- a comprehension of two clauses that changes no list -/
theorem comp_flat {α : Type} {f : D → DS → R (List D)} {δ : DS} {enc : α → D} {φ : α → List D} : ∀ xs : List α, (∀ x ∈ xs, f (enc x) δ = .ok (φ x) δ) → compLL f (xs.map enc) δ = .ok (xs.flatMap φ) δ
  | [], _ => rfl
  | x :: xs, h => by
    have e1 := h x List.mem_cons_self
    have e2 := comp_flat (φ := φ) xs fun y hy => h y (List.mem_cons_of_mem _ hy)
    rw [List.map_cons]
    unfold compLL
    rw [e1]
    simp only
    rw [e2]
    rfl
theorem turn_2 {vs vs1 : List Nat} {g g1 : Dg} {tt tt1 : Dt} {ti1 : Di} {te : De} {d : D} {δ δ2 δ3 δ4 δ7 : DS} {ds1 l : List D} {δ0 : DS} (hw : wipeD (δ.map toArg) vs = δ0) (hg : g d δ0 = .ok .nx δ2) (ht : tt δ2 = .ok true δ3) (hi : ti1 δ3 = .ok ds1 δ4) {δ5 : DS} (hy : back2 δ δ4 = δ5) (hf : freeAt vs1 δ5 = true)
    (hc : compL (turnL vs1 g1 tt1 te) ds1 δ5 = .ok l δ7) (hr : restD δ δ7 = δ) : oneTurn2 vs vs1 g tt ti1 g1 tt1 te d δ = .ok l δ := by
  subst hw hy
  unfold oneTurn2
  simp only [hg, ht, hi, hf, hc, hr]
theorem r_lc2 {vs vs1 : List Nat} {ti ti1 : Di} {g g1 : Dg} {tt tt1 : Dt} {te : De} {δ δ1 δ2 : DS} {ds l : List D} (hi : ti δ = .ok ds δ1) (h0 : freeAt vs δ1 = true) (h : compLL (oneTurn2 vs vs1 g tt ti1 g1 tt1 te) ds δ1 = .ok l δ2) (hs : small l.length = true) : dLc2 vs vs1 ti g tt ti1 g1 tt1 te δ = .ok (.own (.lst l)) δ2 := by
  unfold dLc2
  simp only [hi, R.bind, h0, okIf, h, hs]
theorem i_enumT {l : Dl} {δ δ1 : DS} {ds : List D} (hl : l δ = .ok [.tuple ds] δ1) : dEnum l δ = .ok (enumD ds) δ1 := by
  unfold dEnum
  rw [hl]
  rfl
theorem enumD_map {α : Type} (enc : α → D) (xs : List α) : enumD (xs.map enc) = ((List.range xs.length).zip xs).map fun q => PyData.tuple [.int (q.1 : Nat), enc q.2] := by
  unfold enumD
  rw [List.length_map, List.zipWith_map_right, List.zip, List.map_zipWith]
theorem comp2 {f : D → DS → R (Option D)} {d1 d2 : D} {o1 o2 : Option D} {δ : DS} (h1 : f d1 δ = .ok o1 δ) (h2 : f d2 δ = .ok o2 δ) {l : List D} (hl : o1.toList ++ (o2.toList ++ []) = l) : compL f [d1, d2] δ = .ok l δ := by
  subst hl
  unfold compL
  rw [h1]
  simp only
  unfold compL
  rw [h2]
  rfl
/-- a turn with a test -/
theorem turn_c {vs : List Nat} {g : Dg} {tt : Dt} {te : De} {d y : D} {δ δ2 δ3 δ4 δ5 : DS} {k : Bool} {x : Vl} {δ0 : DS} (hw : wipeD (δ.map toArg) vs = δ0) (hg : g d δ0 = .ok .nx δ2) (ht : tt δ2 = .ok k δ3) (he : te δ3 = .ok x δ4) (hk : kp x δ4 = .ok y δ5) (hb : back δ δ5 = δ) (hb3 : back δ δ3 = δ) : turnL vs g tt te d δ = .ok (if k = true then some y else none) δ := by
  cases k with
  | false => exact turn_1 hw hg ht rfl hb3
  | true => exact turn_1 hw hg ht (turn_e he hk) hb
theorem f_addT {xs ys : List D} (h : small (xs.length + ys.length) = true) : fAdd (.tuple xs) (.tuple ys) = some (.fz (.tuple (xs ++ ys))) := by
  unfold fAdd
  simp only [h, okO]
theorem f_addL {xs ys : List D} (h : small (xs.length + ys.length) = true) : fAdd (.list xs) (.list ys) = some (.own (.lst (xs ++ ys))) := by
  unfold fAdd
  simp only [h, okO]
theorem atI_nat {α : Type} {xs : List α} {n : Nat} {x : α} (h : xs[n]? = some x) : atI xs (n : Int) = some x := by
  have hn := (List.getElem?_eq_some_iff.mp h).1
  unfold atI ixN
  rw [if_pos (by omega), if_pos (by omega)]
  simpa using h
theorem f_ixT {xs : List D} {n : Nat} {d : D} (h : xs[n]? = some d) : fIx (.tuple xs) (.int (n : Nat)) = some (.fz d) := by
  show (atI xs (n : Int)).map Vl.fz = _
  rw [atI_nat h]
  rfl
theorem f_ixL {xs : List D} {n : Nat} {d : D} (h : xs[n]? = some d) : fIx (.list xs) (.int (n : Nat)) = some (.fz d) := by
  show (atI xs (n : Int)).map Vl.fz = _
  rw [atI_nat h]
  rfl
theorem f_eq {d e : D} (h1 : SeqAt.shaped d = true) (h2 : SeqAt.shaped e = true) : fEq d e = some (.fz (.bool (PyData.eqv d e))) := by
  unfold fEq
  rw [h1, h2]
  rfl
theorem f_ne {d e : D} (h1 : SeqAt.shaped d = true) (h2 : SeqAt.shaped e = true) : fNe d e = some (.fz (.bool (!PyData.eqv d e))) := by
  unfold fNe
  rw [h1, h2]
  rfl
theorem shaped_ch {c : Nat} (h : c ≤ 127) : SeqAt.shaped (.str ⟨#[c]⟩) = true := by
  have e : PyData.canLay0 (.str ⟨#[c]⟩) = true := by
    simp [PyData.canLay0, PyData.strOk]
    omega
  unfold SeqAt.shaped
  rw [e]
  rfl
theorem r_callR {den : List Sl → R Vl} {al : Da} {ams : List Am} {δ δ1 δ2 rest : DS} {i : Nat} {sl : Sl} {z : Vl} {co : Co} (hl : al δ = .ok ams δ1) (hk : known i δ = true) (h2 : (refOne δ1 (.ref i :: ams) && (Am.ref i :: ams).all (amKnown δ1)) = true) (h1 : refPos δ1 (.ref i :: ams) = some (0, i)) (hs : δ1[i]? = some sl)
    (hd : den ((Am.ref i :: ams).map (amSl δ1)) = .ok z (.arg co :: rest)) (hδ : δ1.set i (sl.with co) = δ2) : dCall den (aRef i al) δ = .ok z δ2 := by
  subst hδ
  unfold dCall
  rw [a_ref hk hl]
  simp only [R.bind, h2, okIf, callM, hd, putBack, h1, hs]
  rfl
theorem s_setI {i : Nat} {a b : De} {δ δ1 δ2 δ3 : DS} {x : Vl} {d : D} {j : Int} {r : R Out} (ha : a δ = .ok x δ1) (hk : kp x δ1 = .ok d δ2) (h1 : isLst i δ2 = true) (hb : b δ2 = .ok (.fz (.int j)) δ3) (hm : mutL i (fSet j d) δ3 = r) : dSetI i b a δ = r := by
  unfold dSetI
  simp only [ha, R.bind, hk, h1, okIf, hb, asInt]
  exact hm
theorem s_app {i : Nat} {a : De} {δ δ1 δ2 : DS} {x : Vl} {d : D} {r : R Out} (h1 : isLst i δ = true) (ha : a δ = .ok x δ1) (hk : kp x δ1 = .ok d δ2) (hm : mutL i (fApp d) δ2 = r) : dApp i a δ = r := by
  unfold dApp
  simp only [ha, R.bind, hk, h1, okIf]
  exact hm
theorem s_ext {i : Nat} {a : De} {δ δ1 δ2 : DS} {x : Vl} {es : List D} {r : R Out} (h1 : isLst i δ = true) (ha : a δ = .ok x δ1) (hk : kp x δ1 = .ok (.list es) δ2) (hm : mutL i (fExt es) δ2 = r) : dExt i a δ = r := by
  unfold dExt
  simp only [ha, R.bind, hk, h1, okIf, extD]
  exact hm
theorem m_arg {i : Nat} {f : List D → Option (List D)} {δ δ' : DS} {ds l : List D} (h1 : δ[i]? = some (.arg (.lst ds))) (h2 : f ds = some l) (hs : δ.set i (.arg (.lst l)) = δ') : mutL i f δ = .ok .nx δ' := by
  subst hs
  unfold mutL lstAt
  simp only [h1, h2]
  rfl
theorem m_own {i : Nat} {f : List D → Option (List D)} {δ δ' : DS} {ds l : List D} (h1 : δ[i]? = some (.own (.lst ds))) (h2 : f ds = some l) (hs : δ.set i (.own (.lst l)) = δ') : mutL i f δ = .ok .nx δ' := by
  subst hs
  unfold mutL lstAt
  simp only [h1, h2]
  rfl
theorem f_set {j : Int} {d : D} {ds l : List D} {m : Nat} (h : ixN ds.length j = some m) (hs : ds.set m d = l) : fSet j d ds = some l := by
  unfold fSet
  rw [h, ← hs]
  rfl
theorem f_app {d : D} {ds : List D} (h : small ds.length = true) : fApp d ds = some (ds ++ [d]) := by
  unfold fApp
  rw [h]
  rfl
theorem f_ext {es ds : List D} (h : small (ds.length + es.length) = true) : fExt es ds = some (ds ++ es) := by
  unfold fExt
  rw [h]
  rfl
theorem f_mod {i j : Int} (h : 0 < j) : fMod (.int i) (.int j) = some (.fz (.int (i % j))) := by
  unfold fMod
  simp only [decide_eq_true h, okO]
theorem f_div {i j : Int} (h : 0 < j) (h2 : wide j = true) : fDiv (.int i) (.int j) = some (.fz (.int (i / j))) := by
  unfold fDiv
  simp only [decide_eq_true h, h2, okO, Bool.and_self]
theorem f_mulI {i j : Int} (h : wide i = true) (h2 : wide j = true) : fMul (.int i) (.int j) = some (.fz (.int (i * j))) := by
  unfold fMul
  simp only [h, h2, okO, Bool.and_self]
theorem wide_lt {i : Int} (h : i.natAbs < 2 ^ 200) : wide i = true := by
  unfold wide bits
  exact decide_eq_true (Nat.lt_trans h (Nat.pow_lt_pow_right (by decide) (by decide)))
theorem shaped_ints (ns : List Int) : SeqAt.shaped (.list (ns.map PyData.int)) = true := by
  have e : PyData.canLayAll0 (ns.map PyData.int) = true := by
    induction ns with
    | nil => rfl
    | cons n ns ih => rw [List.map_cons, PyData.canLayAll0, ih]; rfl
  have e2 : (PyData.list (ns.map PyData.int)).depth ≤ 64 := by
    rw [PyData.depth, PySem.W.depth_ints]
    decide
  unfold SeqAt.shaped
  rw [show (PyData.list (ns.map PyData.int)).canLay0 = PyData.canLayAll0 (ns.map PyData.int) from rfl, e, decide_eq_true e2]
  rfl
def seqK (o : Out) (δ : DS) (t : Ds) : R Out := match o with
  | .nx => t δ
  | o => .ok o δ
theorem k_nx {δ : DS} {t : Ds} {r : R Out} (h : t δ = r) : seqK .nx δ t = r := h
theorem k_rt {δ : DS} {t : Ds} {v : Vl} : seqK (.rt v) δ t = .ok (.rt v) δ := rfl
theorem k_ct {δ : DS} {t : Ds} : seqK .ct δ t = .ok .ct δ := rfl
theorem k_bk {δ : DS} {t : Ds} : seqK .bk δ t = .ok .bk δ := rfl
theorem s_seqG {s t : Ds} {δ δ1 : DS} {o : Out} {r : R Out} (h : s δ = .ok o δ1) (q : seqK o δ1 t = r) : dSeq s t δ = r := by
  unfold dSeq
  rw [h]
  cases o <;> exact q
theorem for_inv {f : D → DS → R Out} {P : DS → Prop} : ∀ (ds : List D), (∀ d ∈ ds, ∀ δ, P δ → ∃ δ', f d δ = .ok .nx δ' ∧ P δ') → ∀ δ, P δ → ∃ δ', forL f ds δ = .ok .nx δ' ∧ P δ'
  | [], _, δ, h => ⟨δ, rfl, h⟩
  | d :: ds, hf, δ, h => by
    obtain ⟨δ1, e1, h1⟩ := hf d List.mem_cons_self δ h
    obtain ⟨δ2, e2, h2⟩ := for_inv ds (fun d hd => hf d (List.mem_cons_of_mem _ hd)) δ1 h1
    refine ⟨δ2, ?_, h2⟩
    unfold forL
    rw [e1]
    exact e2
theorem step_b {g : Dg} {body : Ds} {d : D} {δ δ1 : DS} {r : R Out} (hg : g d δ = .ok .nx δ1) (hb : body δ1 = r) : stepB g body d δ = r := by
  unfold stepB
  rw [hg]
  exact hb
theorem small_of0 {n : Nat} (h : n ≤ 100000) : small n = true := decide_eq_true h
theorem for_idx {f : D → DS → R Out} {P : Nat → DS → Prop} : ∀ (ds : List D) (j : Nat), (∀ (i : Nat) (d : D), ds[i]? = some d → ∀ δ, P (j + i) δ → ∃ δ', f d δ = .ok .nx δ' ∧ P (j + i + 1) δ') → ∀ δ, P j δ → ∃ δ', forL f ds δ = .ok .nx δ' ∧ P (j + ds.length) δ'
  | [], _, _, δ, h => ⟨δ, rfl, h⟩
  | d :: ds, j, hf, δ, h => by
    obtain ⟨δ1, e1, h1⟩ := hf 0 d rfl δ h
    obtain ⟨δ2, e2, h2⟩ := for_idx (P := P) ds (j + 1) (fun i d hd δ hP => by
      have z := hf (i + 1) d (by simpa using hd) δ
      rw [show j + (i + 1) = j + 1 + i by omega] at z
      exact z hP) δ1 h1
    refine ⟨δ2, ?_, by rw [List.length_cons, show j + (ds.length + 1) = j + 1 + ds.length by omega]; exact h2⟩
    unfold forL
    rw [e1]
    exact e2
theorem ix_inD {xs : List D} {j : Int} (h0 : 0 ≤ j) (h1 : j < xs.length) : ∃ x, x ∈ xs ∧ fIx (.list xs) (.int j) = some (.fz x) := by
  obtain ⟨n, rfl⟩ := Int.eq_ofNat_of_zero_le h0
  have hn : n < xs.length := by omega
  exact ⟨xs[n], List.getElem_mem hn, f_ixL (List.getElem?_eq_getElem hn)⟩
theorem ix_str {z : Str} {j : Int} (hz : z.cps.size ≤ 1000) (h0 : 0 ≤ j) (h1 : j < z.cps.size) : ∃ c, c ∈ z.cps.toList ∧ fIx (.str z) (.int j) = some (.fz (.str ⟨#[c]⟩)) := by
  obtain ⟨n, rfl⟩ := Int.eq_ofNat_of_zero_le h0
  have hn : n < z.cps.toList.length := by simp; omega
  refine ⟨z.cps.toList[n], List.getElem_mem hn, ?_⟩
  show (match small z.length with
    | true => (atI z.cps.toList (n : Int)).map fun c => Vl.fz (.str ⟨#[c]⟩)
    | false => none) = _
  rw [show small z.length = true from small_of0 (show z.cps.size ≤ 100000 by omega)]
  simp only
  rw [atI_nat (List.getElem?_eq_getElem hn)]
  rfl
theorem len_str {z : Str} (hz : z.cps.size ≤ 1000) : fLen (.str z) = some (.fz (.int z.cps.size)) := by
  show okO (small z.length) _ = _
  rw [show small z.length = true from small_of0 (show z.cps.size ≤ 100000 by omega)]
  rfl
theorem sf_goal {n : Nat} {vs : List Nat} {δ : DS} (h1 : small n = true) (h2 : freeAt vs δ = true) : (small n && freeAt vs δ) = true := by
  rw [h1, h2]
  rfl
theorem set_goal {δ δ' : DS} {i : Nat} {t : Sl} (h : δ.set i t = δ') : δ.set i t = δ' := h
theorem with_arg {c c' : Co} : (Sl.arg c).with c' = .arg c' := rfl
theorem with_own {c c' : Co} : (Sl.own c).with c' = .own c' := rfl
theorem small_of {n : Nat} (h : n ≤ 100000) : small n = true := decide_eq_true h
end DL

set_option Elab.async false
set_option linter.all false
set_option maxRecDepth 100000
namespace Lk13
open PySem PySem.Spec PyProof.Rows L2 DL
def topS (i : Nat) : Stmt := PySem.Challenge.pw_changeride_k13_whole_wants_under_deeds.main.body.getD i (.Pass ⟨0, 0, 0, 0⟩)
structure Txt (K : PySem.W.Frag) (mg : Str → Option Value) : Prop where
  b_abs : mg "abs" = none
  b_bool : mg "bool" = none
  b_enumerate : mg "enumerate" = none
  b_int : mg "int" = none
  b_isinstance : mg "isinstance" = none
  b_len : mg "len" = none
  b_list : mg "list" = none
  b_max : mg "max" = none
  b_min : mg "min" = none
  b_range : mg "range" = none
  b_str : mg "str" = none
  b_sum : mg "sum" = none
  b_tuple : mg "tuple" = none
  b_zip : mg "zip" = none
abbrev s_is_whole : Stmt := topS 1
abbrev N_is_whole : List Str := ["thing"]
abbrev P_is_whole : List Str := ["thing"]
theorem sc_is_whole : FnScope N_is_whole P_is_whole (defScope s_is_whole) := ⟨rfl, rfl, rfl, by decide +kernel, rfl, by decide +kernel, by decide +kernel⟩
def sd_is_whole : Ds :=
  (dRet (dAndV (dUn (fIsi "int") (dVar 0)) (dNotV (dUn (fIsi "bool") (dVar 0)))))
@[irreducible] def d_is_whole (as : List Sl) : R Vl := noEx as (runDef 1 1 sd_is_whole as)
theorem ok_is_whole {P : Program} {w : World} {K : PySem.W.Frag} {mg : Str → Option Value} {base : Heap} (T : Txt K mg) (D : Dfn K mg "is_whole" s_is_whole P_is_whole)  : Cal P w K mg base 1 "is_whole" P_is_whole d_is_whole := by
  rw [show d_is_whole = (fun as => noEx as (runDef 1 1 sd_is_whole as)) from by funext as; rw [d_is_whole]]
  exact cal_of D fun f fd F => fn_n F sc_is_whole fun cdv A outer s H E hr =>
    (pds_one (pds_ret (pd_and (pd_isi T.b_isinstance T.b_int (pd_var 0)) (pd_one (pd_not (pd_isi T.b_isinstance T.b_bool (pd_var 0)))))))
abbrev s_is_below : Stmt := topS 2
abbrev N_is_below : List Str := ["thing", "limit"]
abbrev P_is_below : List Str := ["thing", "limit"]
theorem sc_is_below : FnScope N_is_below P_is_below (defScope s_is_below) := ⟨rfl, rfl, rfl, by decide +kernel, rfl, by decide +kernel, by decide +kernel⟩
def sd_is_below : Ds :=
  (dRet (dAndV (dCall d_is_whole (aVal (dVar 0) aNil)) (dChain fLe fLtI (dC (.int 0)) (dVar 0) (dVar 1))))
@[irreducible] def d_is_below (as : List Sl) : R Vl := noEx as (runDef 2 2 sd_is_below as)
theorem ok_is_below {P : Program} {w : World} {K : PySem.W.Frag} {mg : Str → Option Value} {base : Heap} (T : Txt K mg) (D : Dfn K mg "is_below" s_is_below P_is_below) (c_is_whole : Cal P w K mg base 1 "is_whole" P_is_whole d_is_whole) : Cal P w K mg base 2 "is_below" P_is_below d_is_below := by
  rw [show d_is_below = (fun as => noEx as (runDef 2 2 sd_is_below as)) from by funext as; rw [d_is_below]]
  exact cal_of D fun f fd F => fn_n F sc_is_below fun cdv A outer s H E hr =>
    (pds_one (pds_ret (pd_and (pd_cal c_is_whole (hr.mono (by decide)) (paa_val (pd_var 0) paa_nil)) (pd_one (pd_chain op_leD o_le op_lt o_cmpI pd_int (pd_var 0) (pd_var 1) (fun _ _ _ h1 h2 h3 => pe_chain op_leD op_lt h1 h2 h3))))))
abbrev s_is_row : Stmt := topS 3
abbrev N_is_row : List Str := ["thing"]
abbrev P_is_row : List Str := ["thing"]
theorem sc_is_row : FnScope N_is_row P_is_row (defScope s_is_row) := ⟨rfl, rfl, rfl, by decide +kernel, rfl, by decide +kernel, by decide +kernel⟩
def sd_is_row : Ds :=
  (dRet (dUn (fIsiT ["list", "tuple"]) (dVar 0)))
@[irreducible] def d_is_row (as : List Sl) : R Vl := noEx as (runDef 1 1 sd_is_row as)
theorem ok_is_row {P : Program} {w : World} {K : PySem.W.Frag} {mg : Str → Option Value} {base : Heap} (T : Txt K mg) (D : Dfn K mg "is_row" s_is_row P_is_row)  : Cal P w K mg base 1 "is_row" P_is_row d_is_row := by
  rw [show d_is_row = (fun as => noEx as (runDef 1 1 sd_is_row as)) from by funext as; rw [d_is_row]]
  exact cal_of D fun f fd F => fn_n F sc_is_row fun cdv A outer s H E hr =>
    (pds_one (pds_ret (pd_isiT T.b_isinstance (pd_var 0) (pe_tys2 T.b_list T.b_tuple))))
abbrev s_is_row_of : Stmt := topS 4
abbrev N_is_row_of : List Str := ["thing", "length"]
abbrev P_is_row_of : List Str := ["thing", "length"]
theorem sc_is_row_of : FnScope N_is_row_of P_is_row_of (defScope s_is_row_of) := ⟨rfl, rfl, rfl, by decide +kernel, rfl, by decide +kernel, by decide +kernel⟩
def sd_is_row_of : Ds :=
  (dRet (dAndV (dCall d_is_row (aVal (dVar 0) aNil)) (dBin fEq (dUn fLen (dVar 0)) (dVar 1))))
@[irreducible] def d_is_row_of (as : List Sl) : R Vl := noEx as (runDef 2 2 sd_is_row_of as)
theorem ok_is_row_of {P : Program} {w : World} {K : PySem.W.Frag} {mg : Str → Option Value} {base : Heap} (T : Txt K mg) (D : Dfn K mg "is_row_of" s_is_row_of P_is_row_of) (c_is_row : Cal P w K mg base 1 "is_row" P_is_row d_is_row) : Cal P w K mg base 2 "is_row_of" P_is_row_of d_is_row_of := by
  rw [show d_is_row_of = (fun as => noEx as (runDef 2 2 sd_is_row_of as)) from by funext as; rw [d_is_row_of]]
  exact cal_of D fun f fd F => fn_n F sc_is_row_of fun cdv A outer s H E hr =>
    (pds_one (pds_ret (pd_and (pd_cal c_is_row (hr.mono (by decide)) (paa_val (pd_var 0) paa_nil)) (pd_one (pd_eq hr.units (pd_len T.b_len (pd_var 0)) (pd_var 1))))))
abbrev s_is_company : Stmt := topS 5
abbrev N_is_company : List Str := ["thing"]
abbrev P_is_company : List Str := ["thing"]
theorem sc_is_company : FnScope N_is_company P_is_company (defScope s_is_company) := ⟨rfl, rfl, rfl, by decide +kernel, rfl, by decide +kernel, by decide +kernel⟩
def sd_is_company : Ds :=
  (dRet (dAndV (dUn (fIsi "str") (dVar 0)) (dAndV (dBin fEq (dUn fLen (dVar 0)) (dC (.int 1))) (dChain fLe fLe (dC (.str ("a" : PySem.Str))) (dVar 0) (dC (.str ("z" : PySem.Str)))))))
@[irreducible] def d_is_company (as : List Sl) : R Vl := noEx as (runDef 1 1 sd_is_company as)
theorem ok_is_company {P : Program} {w : World} {K : PySem.W.Frag} {mg : Str → Option Value} {base : Heap} (T : Txt K mg) (D : Dfn K mg "is_company" s_is_company P_is_company)  : Cal P w K mg base 1 "is_company" P_is_company d_is_company := by
  rw [show d_is_company = (fun as => noEx as (runDef 1 1 sd_is_company as)) from by funext as; rw [d_is_company]]
  exact cal_of D fun f fd F => fn_n F sc_is_company fun cdv A outer s H E hr =>
    (pds_one (pds_ret (pd_and (pd_isi T.b_isinstance T.b_str (pd_var 0)) (pd_and (pd_eq hr.units (pd_len T.b_len (pd_var 0)) pd_int) (pd_one (pd_chain op_leD o_le op_leD o_le pd_str (pd_var 0) pd_str (fun _ _ _ h1 h2 h3 => pe_chain op_leD op_leD h1 h2 h3)))))))
abbrev s_is_line : Stmt := topS 15
abbrev N_is_line : List Str := ["places", "thing"]
abbrev P_is_line : List Str := ["places", "thing"]
theorem sc_is_line : FnScope N_is_line P_is_line (defScope s_is_line) := ⟨rfl, rfl, rfl, by decide +kernel, rfl, by decide +kernel, by decide +kernel⟩
def sd_is_line : Ds :=
  (dSeq (dIfS (dNot (dTest (dCall d_is_row_of (aVal (dVar 1) (aVal (dC (.int 3)) aNil))))) (dRet (dC (.bool false))) dSkip) (dRet (dAndV (dCall d_is_below (aVal (dBin fIx (dVar 1) (dC (.int 0))) (aVal (dVar 0) aNil))) (dAndV (dCall d_is_below (aVal (dBin fIx (dVar 1) (dC (.int 1))) (aVal (dVar 0) aNil))) (dCall d_is_company (aVal (dBin fIx (dVar 1) (dC (.int 2))) aNil))))))
@[irreducible] def d_is_line (as : List Sl) : R Vl := noEx as (runDef 2 2 sd_is_line as)
theorem ok_is_line {P : Program} {w : World} {K : PySem.W.Frag} {mg : Str → Option Value} {base : Heap} (T : Txt K mg) (D : Dfn K mg "is_line" s_is_line P_is_line) (c_is_below : Cal P w K mg base 2 "is_below" P_is_below d_is_below) (c_is_row_of : Cal P w K mg base 2 "is_row_of" P_is_row_of d_is_row_of) (c_is_company : Cal P w K mg base 1 "is_company" P_is_company d_is_company) : Cal P w K mg base 3 "is_line" P_is_line d_is_line := by
  rw [show d_is_line = (fun as => noEx as (runDef 2 2 sd_is_line as)) from by funext as; rw [d_is_line]]
  exact cal_of D fun f fd F => fn_n F sc_is_line fun cdv A outer s H E hr =>
    (pds_cons (pds_if (ptd_not (pdt_val (pd_cal c_is_row_of (hr.mono (by decide)) (paa_val (pd_var 1) (paa_val pd_int paa_nil))))) (pds_one (pds_ret pd_bl)) pds_nil) (pds_one (pds_ret (pd_and (pd_cal c_is_below (hr.mono (by decide)) (paa_val (pd_ix (pd_var 1) pd_int) (paa_val (pd_var 0) paa_nil))) (pd_and (pd_cal c_is_below (hr.mono (by decide)) (paa_val (pd_ix (pd_var 1) pd_int) (paa_val (pd_var 0) paa_nil))) (pd_one (pd_cal c_is_company (hr.mono (by decide)) (paa_val (pd_ix (pd_var 1) pd_int) paa_nil))))))))
abbrev s_web_of : Stmt := topS 14
abbrev N_web_of : List Str := ["places", "lines", "line"]
abbrev P_web_of : List Str := ["places", "lines"]
theorem sc_web_of : FnScope N_web_of P_web_of (defScope s_web_of) := ⟨rfl, rfl, rfl, by decide +kernel, rfl, by decide +kernel, by decide +kernel⟩
def sd_web_of : Ds :=
  (dSeq (dIfS (dOr (dNot (dTest (dCall d_is_whole (aVal (dVar 0) aNil)))) (dTest (dBin fLtI (dVar 0) (dC (.int 0))))) dNever dSkip) (dSeq (dIfS (dNot (dTest (dCall d_is_row (aVal (dVar 1) aNil)))) dNever dSkip) (dSeq (dFor (dIter (dVar 1)) (gN 2) (dIfS (dNot (dTest (dCall d_is_line (aVal (dVar 0) (aVal (dVar 2) aNil))))) dNever dSkip)) (dRet (dTup (dCons (dVar 0) (dCons (dUn fTuple (dLc [2] (dIter (dVar 1)) (gN 2) dYes (dUn fTuple (dVar 2)))) dNil)))))))
@[irreducible] def d_web_of (as : List Sl) : R Vl := noEx as (runDef 2 3 sd_web_of as)
theorem ok_web_of {P : Program} {w : World} {K : PySem.W.Frag} {mg : Str → Option Value} {base : Heap} (T : Txt K mg) (D : Dfn K mg "web_of" s_web_of P_web_of) (c_is_whole : Cal P w K mg base 1 "is_whole" P_is_whole d_is_whole) (c_is_row : Cal P w K mg base 1 "is_row" P_is_row d_is_row) (c_is_line : Cal P w K mg base 3 "is_line" P_is_line d_is_line) : Cal P w K mg base 4 "web_of" P_web_of d_web_of := by
  rw [show d_web_of = (fun as => noEx as (runDef 2 3 sd_web_of as)) from by funext as; rw [d_web_of]]
  exact cal_of D fun f fd F => fn_n F sc_web_of fun cdv A outer s H E hr =>
    (pds_cons (pds_if (PW.pt (ptd_or (ptd_not (pdt_val (pd_cal c_is_whole (hr.mono (by decide)) (paa_val (pd_var 0) paa_nil)))) (pw_or1 (ptd_lt (pd_var 0) pd_int)))) (pds_one pds_never) pds_nil) (pds_cons (pds_if (ptd_not (pdt_val (pd_cal c_is_row (hr.mono (by decide)) (paa_val (pd_var 1) paa_nil)))) (pds_one pds_never) pds_nil) (pds_cons (pds_for PassesOwn.never (pdi_seq (pd_var 1)) (pdg_name 2 sc_web_of.nd) (pds_one (pds_if (ptd_not (pdt_val (pd_cal c_is_line (hr.mono (by decide)) (paa_val (pd_var 0) (paa_val (pd_var 2) paa_nil))))) (pds_one pds_never) pds_nil))) (pds_one (pds_ret (pd_tup (pad_cons (pd_var 0) (pad_cons (pd_tuple T.b_tuple (pd_lc (own := [("line", 2)]) (pdi_seq (pd_var 1)) sc_web_of.nd (blkOk_by (N := N_web_of) (sc := defScope s_web_of) (by decide +kernel)) (fun _ _ _ _ _ => (pdg_name 2 sc_web_of.nd)) (fun _ _ _ _ _ => ptsd_nil) (fun _ _ _ _ _ => (pd_tuple T.b_tuple (pd_var 2))))) pad_nil))))))))
abbrev s_is_end : Stmt := topS 16
abbrev N_is_end : List Str := ["lines", "thing"]
abbrev P_is_end : List Str := ["lines", "thing"]
theorem sc_is_end : FnScope N_is_end P_is_end (defScope s_is_end) := ⟨rfl, rfl, rfl, by decide +kernel, rfl, by decide +kernel, by decide +kernel⟩
def sd_is_end : Ds :=
  (dRet (dAndV (dCall d_is_row_of (aVal (dVar 1) (aVal (dC (.int 2)) aNil))) (dAndV (dCall d_is_below (aVal (dBin fIx (dVar 1) (dC (.int 0))) (aVal (dUn fLen (dVar 0)) aNil))) (dCall d_is_below (aVal (dBin fIx (dVar 1) (dC (.int 1))) (aVal (dC (.int 2)) aNil))))))
@[irreducible] def d_is_end (as : List Sl) : R Vl := noEx as (runDef 2 2 sd_is_end as)
theorem ok_is_end {P : Program} {w : World} {K : PySem.W.Frag} {mg : Str → Option Value} {base : Heap} (T : Txt K mg) (D : Dfn K mg "is_end" s_is_end P_is_end) (c_is_below : Cal P w K mg base 2 "is_below" P_is_below d_is_below) (c_is_row_of : Cal P w K mg base 2 "is_row_of" P_is_row_of d_is_row_of) : Cal P w K mg base 3 "is_end" P_is_end d_is_end := by
  rw [show d_is_end = (fun as => noEx as (runDef 2 2 sd_is_end as)) from by funext as; rw [d_is_end]]
  exact cal_of D fun f fd F => fn_n F sc_is_end fun cdv A outer s H E hr =>
    (pds_one (pds_ret (pd_and (pd_cal c_is_row_of (hr.mono (by decide)) (paa_val (pd_var 1) (paa_val pd_int paa_nil))) (pd_and (pd_cal c_is_below (hr.mono (by decide)) (paa_val (pd_ix (pd_var 1) pd_int) (paa_val (pd_len T.b_len (pd_var 0)) paa_nil))) (pd_one (pd_cal c_is_below (hr.mono (by decide)) (paa_val (pd_ix (pd_var 1) pd_int) (paa_val pd_int paa_nil))))))))
abbrev s_checked_web : Stmt := topS 17
abbrev N_checked_web : List Str := ["web"]
abbrev P_checked_web : List Str := ["web"]
theorem sc_checked_web : FnScope N_checked_web P_checked_web (defScope s_checked_web) := ⟨rfl, rfl, rfl, by decide +kernel, rfl, by decide +kernel, by decide +kernel⟩
def sd_checked_web : Ds :=
  (dSeq (dIfS (dNot (dTest (dCall d_is_row_of (aVal (dVar 0) (aVal (dC (.int 2)) aNil))))) dNever dSkip) (dRet (dCall d_web_of (aVal (dBin fIx (dVar 0) (dC (.int 0))) (aVal (dBin fIx (dVar 0) (dC (.int 1))) aNil)))))
@[irreducible] def d_checked_web (as : List Sl) : R Vl := noEx as (runDef 1 1 sd_checked_web as)
theorem ok_checked_web {P : Program} {w : World} {K : PySem.W.Frag} {mg : Str → Option Value} {base : Heap} (T : Txt K mg) (D : Dfn K mg "checked_web" s_checked_web P_checked_web) (c_is_row_of : Cal P w K mg base 2 "is_row_of" P_is_row_of d_is_row_of) (c_web_of : Cal P w K mg base 4 "web_of" P_web_of d_web_of) : Cal P w K mg base 5 "checked_web" P_checked_web d_checked_web := by
  rw [show d_checked_web = (fun as => noEx as (runDef 1 1 sd_checked_web as)) from by funext as; rw [d_checked_web]]
  exact cal_of D fun f fd F => fn_n F sc_checked_web fun cdv A outer s H E hr =>
    (pds_cons (pds_if (ptd_not (pdt_val (pd_cal c_is_row_of (hr.mono (by decide)) (paa_val (pd_var 0) (paa_val pd_int paa_nil))))) (pds_one pds_never) pds_nil) (pds_one (pds_ret (pd_cal c_web_of (hr.mono (by decide)) (paa_val (pd_ix (pd_var 0) pd_int) (paa_val (pd_ix (pd_var 0) pd_int) paa_nil))))))
abbrev s_check_place : Stmt := topS 18
abbrev N_check_place : List Str := ["places", "place"]
abbrev P_check_place : List Str := ["places", "place"]
theorem sc_check_place : FnScope N_check_place P_check_place (defScope s_check_place) := ⟨rfl, rfl, rfl, by decide +kernel, rfl, by decide +kernel, by decide +kernel⟩
def sd_check_place : Ds :=
  (dIfS (dNot (dTest (dCall d_is_below (aVal (dVar 1) (aVal (dVar 0) aNil))))) dNever dSkip)
@[irreducible] def d_check_place (as : List Sl) : R Vl := noEx as (runDef 2 2 sd_check_place as)
theorem ok_check_place {P : Program} {w : World} {K : PySem.W.Frag} {mg : Str → Option Value} {base : Heap} (T : Txt K mg) (D : Dfn K mg "check_place" s_check_place P_check_place) (c_is_below : Cal P w K mg base 2 "is_below" P_is_below d_is_below) : Cal P w K mg base 3 "check_place" P_check_place d_check_place := by
  rw [show d_check_place = (fun as => noEx as (runDef 2 2 sd_check_place as)) from by funext as; rw [d_check_place]]
  exact cal_of D fun f fd F => fn_n F sc_check_place fun cdv A outer s H E hr =>
    (pds_one (pds_if (ptd_not (pdt_val (pd_cal c_is_below (hr.mono (by decide)) (paa_val (pd_var 1) (paa_val (pd_var 0) paa_nil))))) (pds_one pds_never) pds_nil))
abbrev s_check_line : Stmt := topS 19
abbrev N_check_line : List Str := ["lines", "line"]
abbrev P_check_line : List Str := ["lines", "line"]
theorem sc_check_line : FnScope N_check_line P_check_line (defScope s_check_line) := ⟨rfl, rfl, rfl, by decide +kernel, rfl, by decide +kernel, by decide +kernel⟩
def sd_check_line : Ds :=
  (dIfS (dNot (dTest (dCall d_is_below (aVal (dVar 1) (aVal (dUn fLen (dVar 0)) aNil))))) dNever dSkip)
@[irreducible] def d_check_line (as : List Sl) : R Vl := noEx as (runDef 2 2 sd_check_line as)
theorem ok_check_line {P : Program} {w : World} {K : PySem.W.Frag} {mg : Str → Option Value} {base : Heap} (T : Txt K mg) (D : Dfn K mg "check_line" s_check_line P_check_line) (c_is_below : Cal P w K mg base 2 "is_below" P_is_below d_is_below) : Cal P w K mg base 3 "check_line" P_check_line d_check_line := by
  rw [show d_check_line = (fun as => noEx as (runDef 2 2 sd_check_line as)) from by funext as; rw [d_check_line]]
  exact cal_of D fun f fd F => fn_n F sc_check_line fun cdv A outer s H E hr =>
    (pds_one (pds_if (ptd_not (pdt_val (pd_cal c_is_below (hr.mono (by decide)) (paa_val (pd_var 1) (paa_val (pd_len T.b_len (pd_var 0)) paa_nil))))) (pds_one pds_never) pds_nil))
abbrev s_check_company : Stmt := topS 20
abbrev N_check_company : List Str := ["company"]
abbrev P_check_company : List Str := ["company"]
theorem sc_check_company : FnScope N_check_company P_check_company (defScope s_check_company) := ⟨rfl, rfl, rfl, by decide +kernel, rfl, by decide +kernel, by decide +kernel⟩
def sd_check_company : Ds :=
  (dIfS (dNot (dTest (dCall d_is_company (aVal (dVar 0) aNil)))) dNever dSkip)
@[irreducible] def d_check_company (as : List Sl) : R Vl := noEx as (runDef 1 1 sd_check_company as)
theorem ok_check_company {P : Program} {w : World} {K : PySem.W.Frag} {mg : Str → Option Value} {base : Heap} (T : Txt K mg) (D : Dfn K mg "check_company" s_check_company P_check_company) (c_is_company : Cal P w K mg base 1 "is_company" P_is_company d_is_company) : Cal P w K mg base 2 "check_company" P_check_company d_check_company := by
  rw [show d_check_company = (fun as => noEx as (runDef 1 1 sd_check_company as)) from by funext as; rw [d_check_company]]
  exact cal_of D fun f fd F => fn_n F sc_check_company fun cdv A outer s H E hr =>
    (pds_one (pds_if (ptd_not (pdt_val (pd_cal c_is_company (hr.mono (by decide)) (paa_val (pd_var 0) paa_nil)))) (pds_one pds_never) pds_nil))
abbrev s_ends_of : Stmt := topS 21
abbrev N_ends_of : List Str := ["lines", "place", "number", "line", "side"]
abbrev P_ends_of : List Str := ["lines", "place"]
theorem sc_ends_of : FnScope N_ends_of P_ends_of (defScope s_ends_of) := ⟨rfl, rfl, rfl, by decide +kernel, rfl, by decide +kernel, by decide +kernel⟩
def sd_ends_of : Ds :=
  (dRet (dLc2 [2, 3, 4] [4] (dEnum (dCons (dVar 0) dNil)) (gTupD 2 (gsCons (gN 2) (gsCons (gN 3) gsNil))) dYes (dIter (dTup (dCons (dC (.int 0)) (dCons (dC (.int 1)) dNil)))) (gN 4) (dTest (dBin fEq (dBin fIx (dVar 3) (dVar 4)) (dVar 1))) (dTup (dCons (dVar 2) (dCons (dVar 4) dNil)))))
@[irreducible] def d_ends_of (as : List Sl) : R Vl := noEx as (runDef 2 5 sd_ends_of as)
theorem ok_ends_of {P : Program} {w : World} {K : PySem.W.Frag} {mg : Str → Option Value} {base : Heap} (T : Txt K mg) (D : Dfn K mg "ends_of" s_ends_of P_ends_of)  : Cal P w K mg base 1 "ends_of" P_ends_of d_ends_of := by
  rw [show d_ends_of = (fun as => noEx as (runDef 2 5 sd_ends_of as)) from by funext as; rw [d_ends_of]]
  exact cal_of D fun f fd F => fn_n F sc_ends_of fun cdv A outer s H E hr =>
    (pds_one (pds_ret (pd_lc2 (own := [("number", 2), ("line", 3), ("side", 4)]) (vs1 := [4]) (pdi_enum T.b_enumerate (pad_cons (pd_var 0) pad_nil)) sc_ends_of.nd (blkOk_by (N := N_ends_of) (sc := defScope s_ends_of) (by decide +kernel)) (fun _ _ _ _ _ => (pdg_tup (pdgs_cons (pdg_name 2 sc_ends_of.nd) (pdgs_cons (pdg_name 3 sc_ends_of.nd) pdgs_nil)))) (fun _ _ _ _ _ => ptsd_nil) (fun _ _ _ _ _ => (pdi_seq (pd_tup (pad_cons pd_int (pad_cons pd_int pad_nil))))) (fun _ _ _ _ _ => (pdg_name 4 sc_ends_of.nd)) (fun _ _ _ _ _ => (ptsd_one (ptd_eq hr.units (pd_ix (pd_var 3) (pd_var 4)) (pd_var 1)))) (fun _ _ _ _ _ => (pd_tup (pad_cons (pd_var 2) (pad_cons (pd_var 4) pad_nil)))))))
abbrev s_ends_at : Stmt := topS 22
abbrev N_ends_at : List Str := ["web", "place", "places", "lines"]
abbrev P_ends_at : List Str := ["web", "place"]
theorem sc_ends_at : FnScope N_ends_at P_ends_at (defScope s_ends_at) := ⟨rfl, rfl, rfl, by decide +kernel, rfl, by decide +kernel, by decide +kernel⟩
def sd_ends_at : Ds :=
  (dSeq (dAsgG (gTupD 2 (gsCons (gN 2) (gsCons (gN 3) gsNil))) (dCall d_checked_web (aVal (dVar 0) aNil))) (dSeq (dDrop (dCall d_check_place (aVal (dVar 2) (aVal (dVar 1) aNil)))) (dRet (dCall d_ends_of (aVal (dVar 3) (aVal (dVar 1) aNil))))))
@[irreducible] def d_ends_at (as : List Sl) : R Vl := noEx as (runDef 2 4 sd_ends_at as)
theorem ok_ends_at {P : Program} {w : World} {K : PySem.W.Frag} {mg : Str → Option Value} {base : Heap} (T : Txt K mg) (D : Dfn K mg "ends_at" s_ends_at P_ends_at) (c_checked_web : Cal P w K mg base 5 "checked_web" P_checked_web d_checked_web) (c_check_place : Cal P w K mg base 3 "check_place" P_check_place d_check_place) (c_ends_of : Cal P w K mg base 1 "ends_of" P_ends_of d_ends_of) : Cal P w K mg base 6 "ends_at" P_ends_at d_ends_at := by
  rw [show d_ends_at = (fun as => noEx as (runDef 2 4 sd_ends_at as)) from by funext as; rw [d_ends_at]]
  exact cal_of D fun f fd F => fn_n F sc_ends_at fun cdv A outer s H E hr =>
    (pds_cons (pds_asg (pd_cal c_checked_web (hr.mono (by decide)) (paa_val (pd_var 0) paa_nil)) (pdg_tup (pdgs_cons (pdg_name 2 sc_ends_at.nd) (pdgs_cons (pdg_name 3 sc_ends_at.nd) pdgs_nil)))) (pds_cons (pds_expr (pd_cal c_check_place (hr.mono (by decide)) (paa_val (pd_var 2) (paa_val (pd_var 1) paa_nil)))) (pds_one (pds_ret (pd_cal c_ends_of (hr.mono (by decide)) (paa_val (pd_var 3) (paa_val (pd_var 1) paa_nil)))))))
abbrev s_with_line : Stmt := topS 23
abbrev N_with_line : List Str := ["web", "one", "other", "company", "places", "lines"]
abbrev P_with_line : List Str := ["web", "one", "other", "company"]
theorem sc_with_line : FnScope N_with_line P_with_line (defScope s_with_line) := ⟨rfl, rfl, rfl, by decide +kernel, rfl, by decide +kernel, by decide +kernel⟩
def sd_with_line : Ds :=
  (dSeq (dAsgG (gTupD 2 (gsCons (gN 4) (gsCons (gN 5) gsNil))) (dCall d_checked_web (aVal (dVar 0) aNil))) (dSeq (dDrop (dCall d_check_place (aVal (dVar 4) (aVal (dVar 1) aNil)))) (dSeq (dDrop (dCall d_check_place (aVal (dVar 4) (aVal (dVar 2) aNil)))) (dSeq (dDrop (dCall d_check_company (aVal (dVar 3) aNil))) (dRet (dTup (dCons (dVar 4) (dCons (dBin fAdd (dVar 5) (dTup (dCons (dTup (dCons (dVar 1) (dCons (dVar 2) (dCons (dVar 3) dNil)))) dNil))) dNil))))))))
@[irreducible] def d_with_line (as : List Sl) : R Vl := noEx as (runDef 4 6 sd_with_line as)
theorem ok_with_line {P : Program} {w : World} {K : PySem.W.Frag} {mg : Str → Option Value} {base : Heap} (T : Txt K mg) (D : Dfn K mg "with_line" s_with_line P_with_line) (c_checked_web : Cal P w K mg base 5 "checked_web" P_checked_web d_checked_web) (c_check_place : Cal P w K mg base 3 "check_place" P_check_place d_check_place) (c_check_company : Cal P w K mg base 2 "check_company" P_check_company d_check_company) : Cal P w K mg base 6 "with_line" P_with_line d_with_line := by
  rw [show d_with_line = (fun as => noEx as (runDef 4 6 sd_with_line as)) from by funext as; rw [d_with_line]]
  exact cal_of D fun f fd F => fn_n F sc_with_line fun cdv A outer s H E hr =>
    (pds_cons (pds_asg (pd_cal c_checked_web (hr.mono (by decide)) (paa_val (pd_var 0) paa_nil)) (pdg_tup (pdgs_cons (pdg_name 4 sc_with_line.nd) (pdgs_cons (pdg_name 5 sc_with_line.nd) pdgs_nil)))) (pds_cons (pds_expr (pd_cal c_check_place (hr.mono (by decide)) (paa_val (pd_var 4) (paa_val (pd_var 1) paa_nil)))) (pds_cons (pds_expr (pd_cal c_check_place (hr.mono (by decide)) (paa_val (pd_var 4) (paa_val (pd_var 2) paa_nil)))) (pds_cons (pds_expr (pd_cal c_check_company (hr.mono (by decide)) (paa_val (pd_var 3) paa_nil))) (pds_one (pds_ret (pd_tup (pad_cons (pd_var 4) (pad_cons (pd_add (pd_var 5) (pd_tup (pad_cons (pd_tup (pad_cons (pd_var 1) (pad_cons (pd_var 2) (pad_cons (pd_var 3) pad_nil)))) pad_nil))) pad_nil)))))))))
abbrev s_replaced : Stmt := topS 24
abbrev N_replaced : List Str := ["lines", "number", "line"]
abbrev P_replaced : List Str := ["lines", "number", "line"]
theorem sc_replaced : FnScope N_replaced P_replaced (defScope s_replaced) := ⟨rfl, rfl, rfl, by decide +kernel, rfl, by decide +kernel, by decide +kernel⟩
def sd_replaced : Ds :=
  (dRet (dBin fAdd (dBin fAdd (dSl (dVar 0) oNone (oSome (dVar 1))) (dTup (dCons (dVar 2) dNil))) (dSl (dVar 0) (oSome (dBin fAdd (dVar 1) (dC (.int 1)))) oNone)))
@[irreducible] def d_replaced (as : List Sl) : R Vl := noEx as (runDef 3 3 sd_replaced as)
theorem ok_replaced {P : Program} {w : World} {K : PySem.W.Frag} {mg : Str → Option Value} {base : Heap} (T : Txt K mg) (D : Dfn K mg "replaced" s_replaced P_replaced)  : Cal P w K mg base 1 "replaced" P_replaced d_replaced := by
  rw [show d_replaced = (fun as => noEx as (runDef 3 3 sd_replaced as)) from by funext as; rw [d_replaced]]
  exact cal_of D fun f fd F => fn_n F sc_replaced fun cdv A outer s H E hr =>
    (pds_one (pds_ret (pd_add (pd_add (pd_sl (pd_var 0) pod_none (pod_some (pd_var 1))) (pd_tup (pad_cons (pd_var 2) pad_nil))) (pd_sl (pd_var 0) (pod_some (pd_add (pd_var 1) pd_int)) pod_none))))
abbrev s_painted : Stmt := topS 25
abbrev N_painted : List Str := ["web", "line", "company", "places", "lines", "one", "other", "_"]
abbrev P_painted : List Str := ["web", "line", "company"]
theorem sc_painted : FnScope N_painted P_painted (defScope s_painted) := ⟨rfl, rfl, rfl, by decide +kernel, rfl, by decide +kernel, by decide +kernel⟩
def sd_painted : Ds :=
  (dSeq (dAsgG (gTupD 2 (gsCons (gN 3) (gsCons (gN 4) gsNil))) (dCall d_checked_web (aVal (dVar 0) aNil))) (dSeq (dDrop (dCall d_check_line (aVal (dVar 4) (aVal (dVar 1) aNil)))) (dSeq (dDrop (dCall d_check_company (aVal (dVar 2) aNil))) (dSeq (dAsgG (gTupD 3 (gsCons (gN 5) (gsCons (gN 6) (gsCons (gN 7) gsNil)))) (dBin fIx (dVar 4) (dVar 1))) (dRet (dTup (dCons (dVar 3) (dCons (dCall d_replaced (aVal (dVar 4) (aVal (dVar 1) (aVal (dTup (dCons (dVar 5) (dCons (dVar 6) (dCons (dVar 2) dNil)))) aNil)))) dNil))))))))
@[irreducible] def d_painted (as : List Sl) : R Vl := noEx as (runDef 3 8 sd_painted as)
theorem ok_painted {P : Program} {w : World} {K : PySem.W.Frag} {mg : Str → Option Value} {base : Heap} (T : Txt K mg) (D : Dfn K mg "painted" s_painted P_painted) (c_checked_web : Cal P w K mg base 5 "checked_web" P_checked_web d_checked_web) (c_check_line : Cal P w K mg base 3 "check_line" P_check_line d_check_line) (c_check_company : Cal P w K mg base 2 "check_company" P_check_company d_check_company) (c_replaced : Cal P w K mg base 1 "replaced" P_replaced d_replaced) : Cal P w K mg base 6 "painted" P_painted d_painted := by
  rw [show d_painted = (fun as => noEx as (runDef 3 8 sd_painted as)) from by funext as; rw [d_painted]]
  exact cal_of D fun f fd F => fn_n F sc_painted fun cdv A outer s H E hr =>
    (pds_cons (pds_asg (pd_cal c_checked_web (hr.mono (by decide)) (paa_val (pd_var 0) paa_nil)) (pdg_tup (pdgs_cons (pdg_name 3 sc_painted.nd) (pdgs_cons (pdg_name 4 sc_painted.nd) pdgs_nil)))) (pds_cons (pds_expr (pd_cal c_check_line (hr.mono (by decide)) (paa_val (pd_var 4) (paa_val (pd_var 1) paa_nil)))) (pds_cons (pds_expr (pd_cal c_check_company (hr.mono (by decide)) (paa_val (pd_var 2) paa_nil))) (pds_cons (pds_asg (pd_ix (pd_var 4) (pd_var 1)) (pdg_tup (pdgs_cons (pdg_name 5 sc_painted.nd) (pdgs_cons (pdg_name 6 sc_painted.nd) (pdgs_cons (pdg_name 7 sc_painted.nd) pdgs_nil))))) (pds_one (pds_ret (pd_tup (pad_cons (pd_var 3) (pad_cons (pd_cal c_replaced (hr.mono (by decide)) (paa_val (pd_var 4) (paa_val (pd_var 1) (paa_val (pd_tup (pad_cons (pd_var 5) (pad_cons (pd_var 6) (pad_cons (pd_var 2) pad_nil)))) paa_nil)))) pad_nil)))))))))
abbrev s_merged : Stmt := topS 26
abbrev N_merged : List Str := ["web", "company", "other", "places", "lines", "changed", "line"]
abbrev P_merged : List Str := ["web", "company", "other"]
theorem sc_merged : FnScope N_merged P_merged (defScope s_merged) := ⟨rfl, rfl, rfl, by decide +kernel, rfl, by decide +kernel, by decide +kernel⟩
def sd_merged : Ds :=
  (dSeq (dAsgG (gTupD 2 (gsCons (gN 3) (gsCons (gN 4) gsNil))) (dCall d_checked_web (aVal (dVar 0) aNil))) (dSeq (dDrop (dCall d_check_company (aVal (dVar 1) aNil))) (dSeq (dDrop (dCall d_check_company (aVal (dVar 2) aNil))) (dSeq (dAsg 5 (dLc [6] (dIter (dVar 4)) (gN 6) dYes (dTup (dCons (dBin fIx (dVar 6) (dC (.int 0))) (dCons (dBin fIx (dVar 6) (dC (.int 1))) (dCons (dIf (dTest (dBin fEq (dBin fIx (dVar 6) (dC (.int 2))) (dVar 1))) (dVar 2) (dBin fIx (dVar 6) (dC (.int 2)))) dNil)))))) (dRet (dTup (dCons (dVar 3) (dCons (dUn fTuple (dVar 5)) dNil))))))))
@[irreducible] def d_merged (as : List Sl) : R Vl := noEx as (runDef 3 7 sd_merged as)
theorem ok_merged {P : Program} {w : World} {K : PySem.W.Frag} {mg : Str → Option Value} {base : Heap} (T : Txt K mg) (D : Dfn K mg "merged" s_merged P_merged) (c_checked_web : Cal P w K mg base 5 "checked_web" P_checked_web d_checked_web) (c_check_company : Cal P w K mg base 2 "check_company" P_check_company d_check_company) : Cal P w K mg base 6 "merged" P_merged d_merged := by
  rw [show d_merged = (fun as => noEx as (runDef 3 7 sd_merged as)) from by funext as; rw [d_merged]]
  exact cal_of D fun f fd F => fn_n F sc_merged fun cdv A outer s H E hr =>
    (pds_cons (pds_asg (pd_cal c_checked_web (hr.mono (by decide)) (paa_val (pd_var 0) paa_nil)) (pdg_tup (pdgs_cons (pdg_name 3 sc_merged.nd) (pdgs_cons (pdg_name 4 sc_merged.nd) pdgs_nil)))) (pds_cons (pds_expr (pd_cal c_check_company (hr.mono (by decide)) (paa_val (pd_var 1) paa_nil))) (pds_cons (pds_expr (pd_cal c_check_company (hr.mono (by decide)) (paa_val (pd_var 2) paa_nil))) (pds_cons (pds_setLc 5  (own := [("line", 6)]) (pdi_seq (pd_var 4)) sc_merged.nd (blkOk_by (N := N_merged) (sc := defScope s_merged) (by decide +kernel)) (fun _ _ _ _ _ => (pdg_name 6 sc_merged.nd)) (fun _ _ _ _ _ => ptsd_nil) (fun _ _ _ _ _ => (pd_tup (pad_cons (pd_ix (pd_var 6) pd_int) (pad_cons (pd_ix (pd_var 6) pd_int) (pad_cons (pd_if (ptd_eq hr.units (pd_ix (pd_var 6) pd_int) (pd_var 1)) (pd_var 2) (pd_ix (pd_var 6) pd_int)) pad_nil))))) (sw_true rfl rfl rfl (by decide +kernel))) (pds_one (pds_ret (pd_tup (pad_cons (pd_var 3) (pad_cons (pd_tuple T.b_tuple (pd_var 5)) pad_nil)))))))))
abbrev s_loosened : Stmt := topS 27
abbrev N_loosened : List Str := ["web", "end", "places", "lines", "number", "side", "one", "other", "company", "moved"]
abbrev P_loosened : List Str := ["web", "end"]
theorem sc_loosened : FnScope N_loosened P_loosened (defScope s_loosened) := ⟨rfl, rfl, rfl, by decide +kernel, rfl, by decide +kernel, by decide +kernel⟩
def sd_loosened : Ds :=
  (dSeq (dAsgG (gTupD 2 (gsCons (gN 2) (gsCons (gN 3) gsNil))) (dCall d_checked_web (aVal (dVar 0) aNil))) (dSeq (dIfS (dNot (dTest (dCall d_is_end (aVal (dVar 3) (aVal (dVar 1) aNil))))) dNever dSkip) (dSeq (dAsgG (gTupD 2 (gsCons (gN 4) (gsCons (gN 5) gsNil))) (dVar 1)) (dSeq (dAsgG (gTupD 3 (gsCons (gN 6) (gsCons (gN 7) (gsCons (gN 8) gsNil)))) (dBin fIx (dVar 3) (dVar 4))) (dSeq (dAsg 9 (dIf (dTest (dBin fEq (dVar 5) (dC (.int 0)))) (dTup (dCons (dVar 2) (dCons (dVar 7) (dCons (dVar 8) dNil)))) (dTup (dCons (dVar 6) (dCons (dVar 2) (dCons (dVar 8) dNil)))))) (dRet (dTup (dCons (dBin fAdd (dVar 2) (dC (.int 1))) (dCons (dCall d_replaced (aVal (dVar 3) (aVal (dVar 4) (aVal (dVar 9) aNil)))) dNil)))))))))
@[irreducible] def d_loosened (as : List Sl) : R Vl := noEx as (runDef 2 10 sd_loosened as)
theorem ok_loosened {P : Program} {w : World} {K : PySem.W.Frag} {mg : Str → Option Value} {base : Heap} (T : Txt K mg) (D : Dfn K mg "loosened" s_loosened P_loosened) (c_is_end : Cal P w K mg base 3 "is_end" P_is_end d_is_end) (c_checked_web : Cal P w K mg base 5 "checked_web" P_checked_web d_checked_web) (c_replaced : Cal P w K mg base 1 "replaced" P_replaced d_replaced) : Cal P w K mg base 6 "loosened" P_loosened d_loosened := by
  rw [show d_loosened = (fun as => noEx as (runDef 2 10 sd_loosened as)) from by funext as; rw [d_loosened]]
  exact cal_of D fun f fd F => fn_n F sc_loosened fun cdv A outer s H E hr =>
    (pds_cons (pds_asg (pd_cal c_checked_web (hr.mono (by decide)) (paa_val (pd_var 0) paa_nil)) (pdg_tup (pdgs_cons (pdg_name 2 sc_loosened.nd) (pdgs_cons (pdg_name 3 sc_loosened.nd) pdgs_nil)))) (pds_cons (pds_if (ptd_not (pdt_val (pd_cal c_is_end (hr.mono (by decide)) (paa_val (pd_var 3) (paa_val (pd_var 1) paa_nil))))) (pds_one pds_never) pds_nil) (pds_cons (pds_asg (pd_var 1) (pdg_tup (pdgs_cons (pdg_name 4 sc_loosened.nd) (pdgs_cons (pdg_name 5 sc_loosened.nd) pdgs_nil)))) (pds_cons (pds_asg (pd_ix (pd_var 3) (pd_var 4)) (pdg_tup (pdgs_cons (pdg_name 6 sc_loosened.nd) (pdgs_cons (pdg_name 7 sc_loosened.nd) (pdgs_cons (pdg_name 8 sc_loosened.nd) pdgs_nil))))) (pds_cons (pds_set 9 (pd_if (ptd_eq hr.units (pd_var 5) pd_int) (pd_tup (pad_cons (pd_var 2) (pad_cons (pd_var 7) (pad_cons (pd_var 8) pad_nil)))) (pd_tup (pad_cons (pd_var 6) (pad_cons (pd_var 2) (pad_cons (pd_var 8) pad_nil))))) sc_loosened.nd) (pds_one (pds_ret (pd_tup (pad_cons (pd_add (pd_var 2) pd_int) (pad_cons (pd_cal c_replaced (hr.mono (by decide)) (paa_val (pd_var 3) (paa_val (pd_var 4) (paa_val (pd_var 9) paa_nil)))) pad_nil))))))))))
abbrev s_groups_of : Stmt := topS 29
abbrev N_groups_of : List Str := ["lines", "place", "groups", "number", "side"]
abbrev P_groups_of : List Str := ["lines", "place"]
theorem sc_groups_of : FnScope N_groups_of P_groups_of (defScope s_groups_of) := ⟨rfl, rfl, rfl, by decide +kernel, rfl, by decide +kernel, by decide +kernel⟩
def sd_groups_of : Ds :=
  (dSeq (dAsg 2 dDct0) (dSeq (dGrp 2 (dIter (dCall d_ends_of (aVal (dVar 0) (aVal (dVar 1) aNil)))) (gTupD 2 (gsCons (gN 3) (gsCons (gN 4) gsNil))) (dBin fIx (dBin fIx (dVar 0) (dVar 3)) (dC (.int 2))) (dTup (dCons (dVar 3) (dCons (dVar 4) dNil)))) (dRet (dVar 2))))
@[irreducible] def d_groups_of (as : List Sl) : R Vl := noEx as (runDef 2 5 sd_groups_of as)
theorem ok_groups_of {P : Program} {w : World} {K : PySem.W.Frag} {mg : Str → Option Value} {base : Heap} (T : Txt K mg) (D : Dfn K mg "groups_of" s_groups_of P_groups_of) (c_ends_of : Cal P w K mg base 1 "ends_of" P_ends_of d_ends_of) : Cal P w K mg base 2 "groups_of" P_groups_of d_groups_of := by
  rw [show d_groups_of = (fun as => noEx as (runDef 2 5 sd_groups_of as)) from by funext as; rw [d_groups_of]]
  exact cal_of D fun f fd F => fn_n F sc_groups_of fun cdv A outer s H E hr =>
    (pds_cons (pds_set 2 pd_dct0 sc_groups_of.nd) (pds_cons (pds_grp 2 PassesOwn.never (pdi_seq (pd_cal c_ends_of (hr.mono (by decide)) (paa_val (pd_var 0) (paa_val (pd_var 1) paa_nil)))) (pdg_tup (pdgs_cons (pdg_name 3 sc_groups_of.nd) (pdgs_cons (pdg_name 4 sc_groups_of.nd) pdgs_nil))) (pd_ix (pd_ix (pd_var 0) (pd_var 3)) pd_int) (pd_tup (pad_cons (pd_var 3) (pad_cons (pd_var 4) pad_nil)))) (pds_one (pds_ret (pd_var 2)))))
abbrev s_want_of : Stmt := topS 30
abbrev N_want_of : List Str := ["groups", "counts", "ends", "group"]
abbrev P_want_of : List Str := ["groups"]
theorem sc_want_of : FnScope N_want_of P_want_of (defScope s_want_of) := ⟨rfl, rfl, rfl, by decide +kernel, rfl, by decide +kernel, by decide +kernel⟩
def sd_want_of : Ds :=
  (dSeq (dAsg 1 (dLc [3] (dVals (dVar 0)) (gN 3) dYes (dUn fLen (dVar 3)))) (dSeq (dAsg 2 (dUn fSum (dVar 1))) (dRet (dBin fMax2 (dBin fSub (dBin fMul (dC (.int 2)) (dBin fMaxD (dVar 1) (dC (.int 0)))) (dVar 2)) (dBin fMod (dVar 2) (dC (.int 2)))))))
@[irreducible] def d_want_of (as : List Sl) : R Vl := noEx as (runDef 1 4 sd_want_of as)
theorem ok_want_of {P : Program} {w : World} {K : PySem.W.Frag} {mg : Str → Option Value} {base : Heap} (T : Txt K mg) (D : Dfn K mg "want_of" s_want_of P_want_of)  : Cal P w K mg base 1 "want_of" P_want_of d_want_of := by
  rw [show d_want_of = (fun as => noEx as (runDef 1 4 sd_want_of as)) from by funext as; rw [d_want_of]]
  exact cal_of D fun f fd F => fn_n F sc_want_of fun cdv A outer s H E hr =>
    (pds_cons (pds_setLc 1  (own := [("group", 3)]) (pdi_vals (pd_var 0)) sc_want_of.nd (blkOk_by (N := N_want_of) (sc := defScope s_want_of) (by decide +kernel)) (fun _ _ _ _ _ => (pdg_name 3 sc_want_of.nd)) (fun _ _ _ _ _ => ptsd_nil) (fun _ _ _ _ _ => (pd_len T.b_len (pd_var 3))) (sw_true rfl rfl rfl (by decide +kernel))) (pds_cons (pds_set 2 (pd_sum T.b_sum (pd_var 1)) sc_want_of.nd) (pds_one (pds_ret (pd_max2 T.b_max (pd_sub (pd_mul pd_int (pd_maxD T.b_max hr.units (pd_var 1) pd_int)) (pd_var 2)) (pd_mod (pd_var 2) pd_int))))))
abbrev s_want_at : Stmt := topS 31
abbrev N_want_at : List Str := ["web", "place", "places", "lines"]
abbrev P_want_at : List Str := ["web", "place"]
theorem sc_want_at : FnScope N_want_at P_want_at (defScope s_want_at) := ⟨rfl, rfl, rfl, by decide +kernel, rfl, by decide +kernel, by decide +kernel⟩
def sd_want_at : Ds :=
  (dSeq (dAsgG (gTupD 2 (gsCons (gN 2) (gsCons (gN 3) gsNil))) (dCall d_checked_web (aVal (dVar 0) aNil))) (dSeq (dDrop (dCall d_check_place (aVal (dVar 2) (aVal (dVar 1) aNil)))) (dRet (dCall d_want_of (aVal (dFrz (dCall d_groups_of (aVal (dVar 3) (aVal (dVar 1) aNil)))) aNil)))))
@[irreducible] def d_want_at (as : List Sl) : R Vl := noEx as (runDef 2 4 sd_want_at as)
theorem ok_want_at {P : Program} {w : World} {K : PySem.W.Frag} {mg : Str → Option Value} {base : Heap} (T : Txt K mg) (D : Dfn K mg "want_at" s_want_at P_want_at) (c_checked_web : Cal P w K mg base 5 "checked_web" P_checked_web d_checked_web) (c_check_place : Cal P w K mg base 3 "check_place" P_check_place d_check_place) (c_groups_of : Cal P w K mg base 2 "groups_of" P_groups_of d_groups_of) (c_want_of : Cal P w K mg base 1 "want_of" P_want_of d_want_of) : Cal P w K mg base 6 "want_at" P_want_at d_want_at := by
  rw [show d_want_at = (fun as => noEx as (runDef 2 4 sd_want_at as)) from by funext as; rw [d_want_at]]
  exact cal_of D fun f fd F => fn_n F sc_want_at fun cdv A outer s H E hr =>
    (pds_cons (pds_asg (pd_cal c_checked_web (hr.mono (by decide)) (paa_val (pd_var 0) paa_nil)) (pdg_tup (pdgs_cons (pdg_name 2 sc_want_at.nd) (pdgs_cons (pdg_name 3 sc_want_at.nd) pdgs_nil)))) (pds_cons (pds_expr (pd_cal c_check_place (hr.mono (by decide)) (paa_val (pd_var 2) (paa_val (pd_var 1) paa_nil)))) (pds_one (pds_ret (pd_cal c_want_of (hr.mono (by decide)) (paa_val (pd_frz (pd_cal c_groups_of (hr.mono (by decide)) (paa_val (pd_var 3) (paa_val (pd_var 1) paa_nil)))) paa_nil))))))
abbrev s_wants : Stmt := topS 32
abbrev N_wants : List Str := ["web", "places", "lines", "place"]
abbrev P_wants : List Str := ["web"]
theorem sc_wants : FnScope N_wants P_wants (defScope s_wants) := ⟨rfl, rfl, rfl, by decide +kernel, rfl, by decide +kernel, by decide +kernel⟩
def sd_wants : Ds :=
  (dSeq (dAsgG (gTupD 2 (gsCons (gN 1) (gsCons (gN 2) gsNil))) (dCall d_checked_web (aVal (dVar 0) aNil))) (dRet (dLc [3] (dRange1 (dCons (dVar 1) dNil)) (gN 3) dYes (dCall d_want_of (aVal (dFrz (dCall d_groups_of (aVal (dVar 2) (aVal (dVar 3) aNil)))) aNil)))))
@[irreducible] def d_wants (as : List Sl) : R Vl := noEx as (runDef 1 4 sd_wants as)
theorem ok_wants {P : Program} {w : World} {K : PySem.W.Frag} {mg : Str → Option Value} {base : Heap} (T : Txt K mg) (D : Dfn K mg "wants" s_wants P_wants) (c_checked_web : Cal P w K mg base 5 "checked_web" P_checked_web d_checked_web) (c_groups_of : Cal P w K mg base 2 "groups_of" P_groups_of d_groups_of) (c_want_of : Cal P w K mg base 1 "want_of" P_want_of d_want_of) : Cal P w K mg base 6 "wants" P_wants d_wants := by
  rw [show d_wants = (fun as => noEx as (runDef 1 4 sd_wants as)) from by funext as; rw [d_wants]]
  exact cal_of D fun f fd F => fn_n F sc_wants fun cdv A outer s H E hr =>
    (pds_cons (pds_asg (pd_cal c_checked_web (hr.mono (by decide)) (paa_val (pd_var 0) paa_nil)) (pdg_tup (pdgs_cons (pdg_name 1 sc_wants.nd) (pdgs_cons (pdg_name 2 sc_wants.nd) pdgs_nil)))) (pds_one (pds_ret (pd_lc (own := [("place", 3)]) (pdi_range1 T.b_range (pad_cons (pd_var 1) pad_nil)) sc_wants.nd (blkOk_by (N := N_wants) (sc := defScope s_wants) (by decide +kernel)) (fun _ _ _ _ _ => (pdg_name 3 sc_wants.nd)) (fun _ _ _ _ _ => ptsd_nil) (fun _ _ _ _ _ => (pd_cal c_want_of (hr.mono (by decide)) (paa_val (pd_frz (pd_cal c_groups_of (hr.mono (by decide)) (paa_val (pd_var 2) (paa_val (pd_var 3) paa_nil)))) paa_nil)))))))
abbrev s__law_reel : Stmt := topS 34
abbrev N__law_reel : List Str := ["script", "stir", "cell", "great"]
abbrev P__law_reel : List Str := ["script"]
theorem sc__law_reel : FnScope N__law_reel P__law_reel (defScope s__law_reel) := ⟨rfl, rfl, rfl, by decide +kernel, rfl, by decide +kernel, by decide +kernel⟩
def sd__law_reel : Ds :=
  (dSeq (dAsg 1 (dBin fPow (dC (.int 3)) (dC (.int 60)))) (dSeq (dFor (dIter (dSl (dVar 0) oNone (oSome (dC (.int 63))))) (gN 2) (dAsg 1 (dBin fMod (dBin fAdd (dBin fAdd (dBin fMul (dVar 1) (dVar 1)) (dBin fMod (dVar 2) (dC (.int 1000000000000000003)))) (dC (.int 11))) (dBin fSub (dBin fMul (dBin fPow (dC (.int 2)) (dC (.int 64))) (dBin fPow (dC (.int 2)) (dC (.int 63)))) (dC (.int 1)))))) (dSeq (dAsg 3 (dLc [2] (dIter (dSl (dVar 0) oNone (oSome (dC (.int 63))))) (gN 2) (dTest (dBin fGe (dVar 2) (dBin fPow (dC (.int 10)) (dC (.int 18))))) (dBin fSub (dVar 2) (dBin fPow (dC (.int 10)) (dC (.int 18)))))) (dRet (dLst (dCons (dVar 3) (dCons (dBin fAdd (dLc [2] (dIter (dSl (dVar 0) oNone (oSome (dC (.int 63))))) (gN 2) dYes (dBin fMod (dVar 2) (dC (.int 1000003)))) (dLst (dCons (dC (.int 41)) dNil))) (dCons (dC (.int 0)) (dCons (dVar 1) dNil)))))))))
@[irreducible] def d__law_reel (as : List Sl) : R Vl := noEx as (runDef 1 4 sd__law_reel as)
theorem ok__law_reel {P : Program} {w : World} {K : PySem.W.Frag} {mg : Str → Option Value} {base : Heap} (T : Txt K mg) (D : Dfn K mg "_law_reel" s__law_reel P__law_reel)  : Cal P w K mg base 1 "_law_reel" P__law_reel d__law_reel := by
  rw [show d__law_reel = (fun as => noEx as (runDef 1 4 sd__law_reel as)) from by funext as; rw [d__law_reel]]
  exact cal_of D fun f fd F => fn_n F sc__law_reel fun cdv A outer s H E hr =>
    (pds_cons (pds_set 1 (pd_pow pd_int pd_int) sc__law_reel.nd) (pds_cons (pds_for PassesOwn.never (pdi_seq (pd_sl (pd_var 0) pod_none (pod_some pd_int))) (pdg_name 2 sc__law_reel.nd) (pds_one (pds_set 1 (pd_mod (pd_add (pd_add (pd_mul (pd_var 1) (pd_var 1)) (pd_mod (pd_var 2) pd_int)) pd_int) (pd_sub (pd_mul (pd_pow pd_int pd_int) (pd_pow pd_int pd_int)) pd_int)) sc__law_reel.nd))) (pds_cons (pds_setLc 3  (own := [("cell", 2)]) (pdi_seq (pd_sl (pd_var 0) pod_none (pod_some pd_int))) sc__law_reel.nd (blkOk_by (N := N__law_reel) (sc := defScope s__law_reel) (by decide +kernel)) (fun _ _ _ _ _ => (pdg_name 2 sc__law_reel.nd)) (fun _ _ _ _ _ => (ptsd_one (ptd_ge (pd_var 2) (pd_pow pd_int pd_int)))) (fun _ _ _ _ _ => (pd_sub (pd_var 2) (pd_pow pd_int pd_int))) (sw_true rfl rfl rfl (by decide +kernel))) (pds_one (pds_ret (pd_lst (pad_cons (pd_var 3) (pad_cons (pd_add (pd_lc (own := [("cell", 2)]) (pdi_seq (pd_sl (pd_var 0) pod_none (pod_some pd_int))) sc__law_reel.nd (blkOk_by (N := N__law_reel) (sc := defScope s__law_reel) (by decide +kernel)) (fun _ _ _ _ _ => (pdg_name 2 sc__law_reel.nd)) (fun _ _ _ _ _ => ptsd_nil) (fun _ _ _ _ _ => (pd_mod (pd_var 2) pd_int))) (pd_lst (pad_cons pd_int pad_nil))) (pad_cons pd_int (pad_cons (pd_var 1) pad_nil))))))))))
abbrev s__law_draw : Stmt := topS 35
abbrev N__law_draw : List Str := ["reel", "many", "rest", "told", "stir"]
abbrev P__law_draw : List Str := ["reel", "many"]
theorem sc__law_draw : FnScope N__law_draw P__law_draw (defScope s__law_draw) := ⟨rfl, rfl, rfl, by decide +kernel, rfl, by decide +kernel, by decide +kernel⟩
def sd__law_draw : Ds :=
  (dSeq (dIfS (dTest (dBin fNe (dBin fIx (dVar 0) (dC (.int 0))) (dLst dNil))) (dSeq (dAsg 2 (dBin fIx (dBin fIx (dVar 0) (dC (.int 0))) (dC (.int 0)))) (dSeq (dSetI 0 (dC (.int 0)) (dBin fAdd (dBin fMul (dLst (dCons (dBin fDiv (dVar 2) (dVar 1)) dNil)) (dUn fInt (dBin fGe (dVar 2) (dVar 1)))) (dSl (dBin fIx (dVar 0) (dC (.int 0))) (oSome (dC (.int 1))) oNone))) (dRet (dBin fMod (dVar 2) (dVar 1))))) dSkip) (dSeq (dSetI 0 (dC (.int 2)) (dBin fAdd (dBin fIx (dVar 0) (dC (.int 2))) (dC (.int 1)))) (dSeq (dAsg 3 (dBin fIx (dBin fIx (dVar 0) (dC (.int 1))) (dBin fMod (dBin fIx (dVar 0) (dC (.int 2))) (dUn fLen (dBin fIx (dVar 0) (dC (.int 1))))))) (dSeq (dAsg 4 (dBin fAdd (dBin fAdd (dBin fMul (dBin fIx (dVar 0) (dC (.int 3))) (dBin fIx (dVar 0) (dC (.int 3)))) (dBin fMul (dBin fAdd (dVar 3) (dC (.int 7))) (dC (.int 69621)))) (dBin fMul (dBin fIx (dVar 0) (dC (.int 2))) (dC (.int 1000003))))) (dSeq (dSetI 0 (dC (.int 3)) (dBin fMod (dVar 4) (dBin fSub (dBin fMul (dBin fPow (dC (.int 2)) (dC (.int 64))) (dBin fPow (dC (.int 2)) (dC (.int 63)))) (dC (.int 1))))) (dRet (dBin fMod (dBin fDiv (dBin fIx (dVar 0) (dC (.int 3))) (dBin fPow (dC (.int 2)) (dC (.int 40)))) (dVar 1))))))))
@[irreducible] def d__law_draw (as : List Sl) : R Vl := noEx as (runDef 2 5 sd__law_draw as)
theorem ok__law_draw {P : Program} {w : World} {K : PySem.W.Frag} {mg : Str → Option Value} {base : Heap} (T : Txt K mg) (D : Dfn K mg "_law_draw" s__law_draw P__law_draw)  : Cal P w K mg base 1 "_law_draw" P__law_draw d__law_draw := by
  rw [show d__law_draw = (fun as => noEx as (runDef 2 5 sd__law_draw as)) from by funext as; rw [d__law_draw]]
  exact cal_of D fun f fd F => fn_n F sc__law_draw fun cdv A outer s H E hr =>
    (pds_cons (pds_if (ptd_ne hr.units (pd_ix (pd_var 0) pd_int) (pd_lst pad_nil)) (pds_cons (pds_set 2 (pd_ix (pd_ix (pd_var 0) pd_int) pd_int) sc__law_draw.nd) (pds_cons (pds_setI 0 (pd_add (pd_mul (pd_lst (pad_cons (pd_div (pd_var 2) (pd_var 1)) pad_nil)) (pd_int1 T.b_int (pd_ge (pd_var 2) (pd_var 1)))) (pd_sl (pd_ix (pd_var 0) pd_int) (pod_some pd_int) pod_none)) pd_int) (pds_one (pds_ret (pd_mod (pd_var 2) (pd_var 1)))))) pds_nil) (pds_cons (pds_setI 0 (pd_add (pd_ix (pd_var 0) pd_int) pd_int) pd_int) (pds_cons (pds_set 3 (pd_ix (pd_ix (pd_var 0) pd_int) (pd_mod (pd_ix (pd_var 0) pd_int) (pd_len T.b_len (pd_ix (pd_var 0) pd_int)))) sc__law_draw.nd) (pds_cons (pds_set 4 (pd_add (pd_add (pd_mul (pd_ix (pd_var 0) pd_int) (pd_ix (pd_var 0) pd_int)) (pd_mul (pd_add (pd_var 3) pd_int) pd_int)) (pd_mul (pd_ix (pd_var 0) pd_int) pd_int)) sc__law_draw.nd) (pds_cons (pds_setI 0 (pd_mod (pd_var 4) (pd_sub (pd_mul (pd_pow pd_int pd_int) (pd_pow pd_int pd_int)) pd_int)) pd_int) (pds_one (pds_ret (pd_mod (pd_div (pd_ix (pd_var 0) pd_int) (pd_pow pd_int pd_int)) (pd_var 1)))))))))
abbrev s__law_net : Stmt := topS 36
abbrev N__law_net : List Str := ["reel", "most", "some", "places", "many", "letters", "wide", "found", "k"]
abbrev P__law_net : List Str := ["reel", "most"]
theorem sc__law_net : FnScope N__law_net P__law_net (defScope s__law_net) := ⟨rfl, rfl, rfl, by decide +kernel, rfl, by decide +kernel, by decide +kernel⟩
def sd__law_net : Ds :=
  (dSeq (dAsg 2 (dLst (dCons (dCall d__law_draw (aRef 0 (aVal (dC (.int 4)) aNil))) (dCons (dBin fAdd (dC (.int 1)) (dCall d__law_draw (aRef 0 (aVal (dC (.int 4)) aNil)))) (dCons (dBin fAdd (dC (.int 2)) (dCall d__law_draw (aRef 0 (aVal (dC (.int 7)) aNil)))) (dCons (dCall d__law_draw (aRef 0 (aVal (dC (.int 25)) aNil))) dNil)))))) (dSeq (dAsg 3 (dBin fIx (dVar 2) (dCall d__law_draw (aRef 0 (aVal (dC (.int 4)) aNil))))) (dSeq (dAsg 4 (dBin fIx (dLst (dCons (dCall d__law_draw (aRef 0 (aVal (dC (.int 9)) aNil))) (dCons (dCall d__law_draw (aRef 0 (aVal (dC (.int 16)) aNil))) (dCons (dCall d__law_draw (aRef 0 (aVal (dBin fAdd (dVar 1) (dC (.int 1))) aNil))) dNil)))) (dCall d__law_draw (aRef 0 (aVal (dC (.int 3)) aNil))))) (dSeq (dAsg 5 (dBin fIx (dLst (dCons (dC (.str ("a" : PySem.Str))) (dCons (dC (.str ("ab" : PySem.Str))) (dCons (dC (.str ("aab" : PySem.Str))) (dCons (dC (.str ("abc" : PySem.Str))) (dCons (dC (.str ("abcdxyz" : PySem.Str))) dNil)))))) (dCall d__law_draw (aRef 0 (aVal (dC (.int 5)) aNil))))) (dSeq (dAsg 6 (dBin fAdd (dC (.int 1)) (dCall d__law_draw (aRef 0 (aVal (dBin fMax2 (dC (.int 1)) (dVar 3)) aNil))))) (dSeq (dAsg 7 (dLst dNil)) (dSeq (dFor (dRange1 (dCons (dBin fMul (dBin fMin2 (dVar 4) (dVar 1)) (dUn fInt (dBin fGt (dVar 3) (dC (.int 0))))) dNil)) (gN 8) (dApp 7 (dTup (dCons (dCall d__law_draw (aRef 0 (aVal (dVar 6) aNil))) (dCons (dCall d__law_draw (aRef 0 (aVal (dVar 6) aNil))) (dCons (dBin fIx (dVar 5) (dCall d__law_draw (aRef 0 (aVal (dUn fLen (dVar 5)) aNil)))) dNil)))))) (dRet (dTup (dCons (dVar 3) (dCons (dUn fTuple (dVar 7)) dNil)))))))))))
@[irreducible] def d__law_net (as : List Sl) : R Vl := noEx as (runDef 2 9 sd__law_net as)
theorem ok__law_net {P : Program} {w : World} {K : PySem.W.Frag} {mg : Str → Option Value} {base : Heap} (T : Txt K mg) (D : Dfn K mg "_law_net" s__law_net P__law_net) (c__law_draw : Cal P w K mg base 1 "_law_draw" P__law_draw d__law_draw) : Cal P w K mg base 2 "_law_net" P__law_net d__law_net := by
  rw [show d__law_net = (fun as => noEx as (runDef 2 9 sd__law_net as)) from by funext as; rw [d__law_net]]
  exact cal_of D fun f fd F => fn_n F sc__law_net fun cdv A outer s H E hr =>
    (pds_cons (pds_set 2 (pd_lst (pad_cons (pd_cal c__law_draw (hr.mono (by decide)) (paa_ref 0 (paa_val pd_int paa_nil))) (pad_cons (pd_add pd_int (pd_cal c__law_draw (hr.mono (by decide)) (paa_ref 0 (paa_val pd_int paa_nil)))) (pad_cons (pd_add pd_int (pd_cal c__law_draw (hr.mono (by decide)) (paa_ref 0 (paa_val pd_int paa_nil)))) (pad_cons (pd_cal c__law_draw (hr.mono (by decide)) (paa_ref 0 (paa_val pd_int paa_nil))) pad_nil))))) sc__law_net.nd) (pds_cons (pds_set 3 (pd_ix (pd_var 2) (pd_cal c__law_draw (hr.mono (by decide)) (paa_ref 0 (paa_val pd_int paa_nil)))) sc__law_net.nd) (pds_cons (pds_set 4 (pd_ix (pd_lst (pad_cons (pd_cal c__law_draw (hr.mono (by decide)) (paa_ref 0 (paa_val pd_int paa_nil))) (pad_cons (pd_cal c__law_draw (hr.mono (by decide)) (paa_ref 0 (paa_val pd_int paa_nil))) (pad_cons (pd_cal c__law_draw (hr.mono (by decide)) (paa_ref 0 (paa_val (pd_add (pd_var 1) pd_int) paa_nil))) pad_nil)))) (pd_cal c__law_draw (hr.mono (by decide)) (paa_ref 0 (paa_val pd_int paa_nil)))) sc__law_net.nd) (pds_cons (pds_set 5 (pd_ix (pd_lst (pad_cons pd_str (pad_cons pd_str (pad_cons pd_str (pad_cons pd_str (pad_cons pd_str pad_nil)))))) (pd_cal c__law_draw (hr.mono (by decide)) (paa_ref 0 (paa_val pd_int paa_nil)))) sc__law_net.nd) (pds_cons (pds_set 6 (pd_add pd_int (pd_cal c__law_draw (hr.mono (by decide)) (paa_ref 0 (paa_val (pd_max2 T.b_max pd_int (pd_var 3)) paa_nil)))) sc__law_net.nd) (pds_cons (pds_set 7 (pd_lst pad_nil) sc__law_net.nd) (pds_cons (pds_for PassesOwn.never (pdi_range1 T.b_range (pad_cons (pd_mul (pd_min2 T.b_min (pd_var 4) (pd_var 1)) (pd_int1 T.b_int (pd_gt (pd_var 3) pd_int))) pad_nil)) (pdg_name 8 sc__law_net.nd) (pds_one (pds_app 7 (pd_tup (pad_cons (pd_cal c__law_draw (hr.mono (by decide)) (paa_ref 0 (paa_val (pd_var 6) paa_nil))) (pad_cons (pd_cal c__law_draw (hr.mono (by decide)) (paa_ref 0 (paa_val (pd_var 6) paa_nil))) (pad_cons (pd_ix (pd_var 5) (pd_cal c__law_draw (hr.mono (by decide)) (paa_ref 0 (paa_val (pd_len T.b_len (pd_var 5)) paa_nil)))) pad_nil))))))) (pds_one (pds_ret (pd_tup (pad_cons (pd_var 3) (pad_cons (pd_tuple T.b_tuple (pd_var 7)) pad_nil))))))))))))
abbrev s__law_line_right : Stmt := topS 37
abbrev N__law_line_right : List Str := ["reel", "net", "old", "spot", "other", "new", "due", "place"]
abbrev P__law_line_right : List Str := ["reel", "net", "old"]
theorem sc__law_line_right : FnScope N__law_line_right P__law_line_right (defScope s__law_line_right) := ⟨rfl, rfl, rfl, by decide +kernel, rfl, by decide +kernel, by decide +kernel⟩
def sd__law_line_right : Ds :=
  (dSeq (dPar 3 4 (dCons (dCall d__law_draw (aRef 0 (aVal (dBin fIx (dVar 1) (dC (.int 0))) aNil))) (dCons (dCall d__law_draw (aRef 0 (aVal (dBin fIx (dVar 1) (dC (.int 0))) aNil))) dNil))) (dSeq (dAsg 5 (dCall d_wants (aVal (dCall d_with_line (aVal (dVar 1) (aVal (dVar 3) (aVal (dVar 4) (aVal (dC (.str ("n" : PySem.Str))) aNil))))) aNil))) (dSeq (dAsg 6 (dUn fList (dVar 2))) (dSeq (dIfS (dTest (dBin fEq (dVar 3) (dVar 4))) (dSeq (dSetI 6 (dVar 3) (dIf (dTest (dBin fGt (dBin fIx (dVar 2) (dVar 3)) (dC (.int 1)))) (dBin fSub (dBin fIx (dVar 2) (dVar 3)) (dC (.int 2))) (dBin fIx (dVar 2) (dVar 3)))) (dIfS (dAnd (dTest (dBin fEq (dBin fIx (dVar 2) (dVar 3)) (dC (.int 0)))) (dTest (dBin fEq (dCall d_ends_at (aVal (dVar 1) (aVal (dVar 3) aNil))) (dLst dNil)))) (dSetI 6 (dVar 3) (dC (.int 2))) dSkip)) (dFor (dIter (dLst (dCons (dVar 3) (dCons (dVar 4) dNil)))) (gN 7) (dSetI 6 (dVar 7) (dIf (dTest (dBin fGt (dBin fIx (dVar 2) (dVar 7)) (dC (.int 0)))) (dBin fSub (dBin fIx (dVar 2) (dVar 7)) (dC (.int 1))) (dC (.int 1)))))) (dRet (dBin fEq (dVar 5) (dVar 6)))))))
@[irreducible] def d__law_line_right (as : List Sl) : R Vl := noEx as (runDef 3 8 sd__law_line_right as)
theorem ok__law_line_right {P : Program} {w : World} {K : PySem.W.Frag} {mg : Str → Option Value} {base : Heap} (T : Txt K mg) (D : Dfn K mg "_law_line_right" s__law_line_right P__law_line_right) (c_ends_at : Cal P w K mg base 6 "ends_at" P_ends_at d_ends_at) (c_with_line : Cal P w K mg base 6 "with_line" P_with_line d_with_line) (c_wants : Cal P w K mg base 6 "wants" P_wants d_wants) (c__law_draw : Cal P w K mg base 1 "_law_draw" P__law_draw d__law_draw) : Cal P w K mg base 7 "_law_line_right" P__law_line_right d__law_line_right := by
  rw [show d__law_line_right = (fun as => noEx as (runDef 3 8 sd__law_line_right as)) from by funext as; rw [d__law_line_right]]
  exact cal_of D fun f fd F => fn_n F sc__law_line_right fun cdv A outer s H E hr =>
    (pds_cons (pds_par 3 4 (pad_cons (pd_cal c__law_draw (hr.mono (by decide)) (paa_ref 0 (paa_val (pd_ix (pd_var 1) pd_int) paa_nil))) (pad_cons (pd_cal c__law_draw (hr.mono (by decide)) (paa_ref 0 (paa_val (pd_ix (pd_var 1) pd_int) paa_nil))) pad_nil)) sc__law_line_right.nd (fun _ h => ps_par (i := 3) (j := 4) rfl sc__law_line_right.nd rfl rfl (by decide) rfl rfl h (by rfl))) (pds_cons (pds_set 5 (pd_cal c_wants (hr.mono (by decide)) (paa_val (pd_cal c_with_line (hr.mono (by decide)) (paa_val (pd_var 1) (paa_val (pd_var 3) (paa_val (pd_var 4) (paa_val pd_str paa_nil))))) paa_nil)) sc__law_line_right.nd) (pds_cons (pds_set 6 (pd_list T.b_list (pd_var 2)) sc__law_line_right.nd) (pds_cons (pds_if (ptd_eq hr.units (pd_var 3) (pd_var 4)) (pds_cons (pds_setI 6 (pd_if (ptd_gt (pd_ix (pd_var 2) (pd_var 3)) pd_int) (pd_sub (pd_ix (pd_var 2) (pd_var 3)) pd_int) (pd_ix (pd_var 2) (pd_var 3))) (pd_var 3)) (pds_one (pds_if (PW.pt (ptd_and (ptd_eq hr.units (pd_ix (pd_var 2) (pd_var 3)) pd_int) (pw_and1 (ptd_eq hr.units (pd_cal c_ends_at (hr.mono (by decide)) (paa_val (pd_var 1) (paa_val (pd_var 3) paa_nil))) (pd_lst pad_nil))))) (pds_one (pds_setI 6 pd_int (pd_var 3))) pds_nil))) (pds_one (pds_for PassesOwn.never (pdi_seq (pd_lst (pad_cons (pd_var 3) (pad_cons (pd_var 4) pad_nil)))) (pdg_name 7 sc__law_line_right.nd) (pds_one (pds_setI 6 (pd_if (ptd_gt (pd_ix (pd_var 2) (pd_var 7)) pd_int) (pd_sub (pd_ix (pd_var 2) (pd_var 7)) pd_int) pd_int) (pd_var 7)))))) (pds_one (pds_ret (pd_eq hr.units (pd_var 5) (pd_var 6))))))))
abbrev s__law_right : Stmt := topS 38
abbrev N__law_right : List Str := ["reel", "net", "old", "at", "side", "letter", "more", "new", "spot", "place", "one", "other"]
abbrev P__law_right : List Str := ["reel", "net"]
theorem sc__law_right : FnScope N__law_right P__law_right (defScope s__law_right) := ⟨rfl, rfl, rfl, by decide +kernel, rfl, by decide +kernel, by decide +kernel⟩
def sd__law_right : Ds :=
  (dSeq (dAsg 2 (dCall d_wants (aVal (dVar 1) aNil))) (dSeq (dIfS (dOr (dTest (dBin fNe (dBin fMod (dUn fSum (dVar 2)) (dC (.int 2))) (dC (.int 0)))) (dNot (dTest (dCall d__law_line_right (aRef 0 (aVal (dVar 1) (aVal (dVar 2) aNil))))))) (dRet (dC (.bool false))) dSkip) (dSeq (dAsgG (gTupD 2 (gsCons (gN 3) (gsCons (gN 4) gsNil))) (dTup (dCons (dCall d__law_draw (aRef 0 (aVal (dUn fLen (dBin fIx (dVar 1) (dC (.int 1)))) aNil))) (dCons (dCall d__law_draw (aRef 0 (aVal (dC (.int 2)) aNil))) dNil)))) (dSeq (dIfS (dTest (dBin fNe (dLc [9] (dRange1 (dCons (dBin fIx (dVar 1) (dC (.int 0))) dNil)) (gN 9) (dTest (dBin fGt (dCall d_want_at (aVal (dCall d_painted (aVal (dVar 1) (aVal (dVar 3) (aVal (dC (.str ("n" : PySem.Str))) aNil)))) (aVal (dVar 9) aNil))) (dBin fIx (dVar 2) (dVar 9)))) (dVar 9)) (dLst dNil))) (dRet (dC (.bool false))) dSkip) (dSeq (dPar 5 6 (dCons (dBin fIx (dC (.str ("abc" : PySem.Str))) (dCall d__law_draw (aRef 0 (aVal (dC (.int 3)) aNil)))) (dCons (dBin fIx (dC (.str ("abc" : PySem.Str))) (dCall d__law_draw (aRef 0 (aVal (dC (.int 3)) aNil)))) dNil))) (dSeq (dIfS (dTest (dBin fNe (dLc [10, 11] (dZip (dCons (dVar 2) (dCons (dCall d_wants (aVal (dCall d_merged (aVal (dVar 1) (aVal (dVar 5) (aVal (dVar 6) aNil)))) aNil)) dNil))) (gTupD 2 (gsCons (gN 10) (gsCons (gN 11) gsNil))) (dTest (dBin fLtI (dVar 11) (dVar 10))) (dC (.int 1))) (dLst dNil))) (dRet (dC (.bool false))) dSkip) (dSeq (dAsg 7 (dCall d_wants (aVal (dCall d_loosened (aVal (dVar 1) (aVal (dTup (dCons (dVar 3) (dCons (dVar 4) dNil))) aNil))) aNil))) (dSeq (dAsg 8 (dBin fIx (dBin fIx (dBin fIx (dVar 1) (dC (.int 1))) (dVar 3)) (dVar 4))) (dSeq (dIfS (dOr (dTest (dBin fNe (dUn fAbs (dBin fSub (dBin fIx (dVar 7) (dVar 8)) (dBin fIx (dVar 2) (dVar 8)))) (dC (.int 1)))) (dTest (dBin fNe (dBin fIx (dVar 7) (dBin fIx (dVar 1) (dC (.int 0)))) (dC (.int 1))))) (dRet (dC (.bool false))) dSkip) (dRet (dBin fEq (dLc [9] (dRange1 (dCons (dBin fIx (dVar 1) (dC (.int 0))) dNil)) (gN 9) (dAnd (dTest (dBin fNe (dVar 9) (dVar 8))) (dTest (dBin fNe (dBin fIx (dVar 7) (dVar 9)) (dBin fIx (dVar 2) (dVar 9))))) (dVar 9)) (dLst dNil))))))))))))
@[irreducible] def d__law_right (as : List Sl) : R Vl := noEx as (runDef 2 12 sd__law_right as)
theorem ok__law_right {P : Program} {w : World} {K : PySem.W.Frag} {mg : Str → Option Value} {base : Heap} (T : Txt K mg) (D : Dfn K mg "_law_right" s__law_right P__law_right) (c_painted : Cal P w K mg base 6 "painted" P_painted d_painted) (c_merged : Cal P w K mg base 6 "merged" P_merged d_merged) (c_loosened : Cal P w K mg base 6 "loosened" P_loosened d_loosened) (c_want_at : Cal P w K mg base 6 "want_at" P_want_at d_want_at) (c_wants : Cal P w K mg base 6 "wants" P_wants d_wants) (c__law_draw : Cal P w K mg base 1 "_law_draw" P__law_draw d__law_draw) (c__law_line_right : Cal P w K mg base 7 "_law_line_right" P__law_line_right d__law_line_right) : Cal P w K mg base 8 "_law_right" P__law_right d__law_right := by
  rw [show d__law_right = (fun as => noEx as (runDef 2 12 sd__law_right as)) from by funext as; rw [d__law_right]]
  exact cal_of D fun f fd F => fn_n F sc__law_right fun cdv A outer s H E hr =>
    (pds_cons (pds_set 2 (pd_cal c_wants (hr.mono (by decide)) (paa_val (pd_var 1) paa_nil)) sc__law_right.nd) (pds_cons (pds_if (PW.pt (ptd_or (ptd_ne hr.units (pd_mod (pd_sum T.b_sum (pd_var 2)) pd_int) pd_int) (pw_or1 (ptd_not (pdt_val (pd_cal c__law_line_right (hr.mono (by decide)) (paa_ref 0 (paa_val (pd_var 1) (paa_val (pd_var 2) paa_nil))))))))) (pds_one (pds_ret pd_bl)) pds_nil) (pds_cons (pds_asg (pd_tup (pad_cons (pd_cal c__law_draw (hr.mono (by decide)) (paa_ref 0 (paa_val (pd_len T.b_len (pd_ix (pd_var 1) pd_int)) paa_nil))) (pad_cons (pd_cal c__law_draw (hr.mono (by decide)) (paa_ref 0 (paa_val pd_int paa_nil))) pad_nil))) (pdg_tup (pdgs_cons (pdg_name 3 sc__law_right.nd) (pdgs_cons (pdg_name 4 sc__law_right.nd) pdgs_nil)))) (pds_cons (pds_if (ptd_ne hr.units (pd_lc (own := [("place", 9)]) (pdi_range1 T.b_range (pad_cons (pd_ix (pd_var 1) pd_int) pad_nil)) sc__law_right.nd (blkOk_by (N := N__law_right) (sc := defScope s__law_right) (by decide +kernel)) (fun _ _ _ _ _ => (pdg_name 9 sc__law_right.nd)) (fun _ _ _ _ _ => (ptsd_one (ptd_gt (pd_cal c_want_at (hr.mono (by decide)) (paa_val (pd_cal c_painted (hr.mono (by decide)) (paa_val (pd_var 1) (paa_val (pd_var 3) (paa_val pd_str paa_nil)))) (paa_val (pd_var 9) paa_nil))) (pd_ix (pd_var 2) (pd_var 9))))) (fun _ _ _ _ _ => (pd_var 9))) (pd_lst pad_nil)) (pds_one (pds_ret pd_bl)) pds_nil) (pds_cons (pds_par 5 6 (pad_cons (pd_ix pd_str (pd_cal c__law_draw (hr.mono (by decide)) (paa_ref 0 (paa_val pd_int paa_nil)))) (pad_cons (pd_ix pd_str (pd_cal c__law_draw (hr.mono (by decide)) (paa_ref 0 (paa_val pd_int paa_nil)))) pad_nil)) sc__law_right.nd (fun _ h => ps_par (i := 5) (j := 6) rfl sc__law_right.nd rfl rfl (by decide) rfl rfl h (by rfl))) (pds_cons (pds_if (ptd_ne hr.units (pd_lc (own := [("one", 10), ("other", 11)]) (pdi_zip T.b_zip (pad_cons (pd_var 2) (pad_cons (pd_cal c_wants (hr.mono (by decide)) (paa_val (pd_cal c_merged (hr.mono (by decide)) (paa_val (pd_var 1) (paa_val (pd_var 5) (paa_val (pd_var 6) paa_nil)))) paa_nil)) pad_nil))) sc__law_right.nd (blkOk_by (N := N__law_right) (sc := defScope s__law_right) (by decide +kernel)) (fun _ _ _ _ _ => (pdg_tup (pdgs_cons (pdg_name 10 sc__law_right.nd) (pdgs_cons (pdg_name 11 sc__law_right.nd) pdgs_nil)))) (fun _ _ _ _ _ => (ptsd_one (ptd_lt (pd_var 11) (pd_var 10)))) (fun _ _ _ _ _ => pd_int)) (pd_lst pad_nil)) (pds_one (pds_ret pd_bl)) pds_nil) (pds_cons (pds_set 7 (pd_cal c_wants (hr.mono (by decide)) (paa_val (pd_cal c_loosened (hr.mono (by decide)) (paa_val (pd_var 1) (paa_val (pd_tup (pad_cons (pd_var 3) (pad_cons (pd_var 4) pad_nil))) paa_nil))) paa_nil)) sc__law_right.nd) (pds_cons (pds_set 8 (pd_ix (pd_ix (pd_ix (pd_var 1) pd_int) (pd_var 3)) (pd_var 4)) sc__law_right.nd) (pds_cons (pds_if (PW.pt (ptd_or (ptd_ne hr.units (pd_abs T.b_abs (pd_sub (pd_ix (pd_var 7) (pd_var 8)) (pd_ix (pd_var 2) (pd_var 8)))) pd_int) (pw_or1 (ptd_ne hr.units (pd_ix (pd_var 7) (pd_ix (pd_var 1) pd_int)) pd_int)))) (pds_one (pds_ret pd_bl)) pds_nil) (pds_one (pds_ret (pd_eq hr.units (pd_lc (own := [("place", 9)]) (pdi_range1 T.b_range (pad_cons (pd_ix (pd_var 1) pd_int) pad_nil)) sc__law_right.nd (blkOk_by (N := N__law_right) (sc := defScope s__law_right) (by decide +kernel)) (fun _ _ _ _ _ => (pdg_name 9 sc__law_right.nd)) (fun _ _ _ _ _ => (ptsd_one (PW.pt (ptd_and (ptd_ne hr.units (pd_var 9) (pd_var 8)) (pw_and1 (ptd_ne hr.units (pd_ix (pd_var 7) (pd_var 9)) (pd_ix (pd_var 2) (pd_var 9)))))))) (fun _ _ _ _ _ => (pd_var 9))) (pd_lst pad_nil)))))))))))))
abbrev s_law : Stmt := topS 39
abbrev N_law : List Str := ["script", "reel", "k", "places", "lines", "net"]
abbrev P_law : List Str := ["script"]
theorem sc_law : FnScope N_law P_law (defScope s_law) := ⟨rfl, rfl, rfl, by decide +kernel, rfl, by decide +kernel, by decide +kernel⟩
def sd_law : Ds :=
  (dSeq (dAsg 1 (dCall d__law_reel (aVal (dVar 0) aNil))) (dSeq (dFor (dRange1 (dCons (dBin fAdd (dC (.int 1)) (dBin fMin2 (dUn fLen (dVar 0)) (dC (.int 11)))) dNil)) (gN 2) (dSeq (dAsgG (gTupD 2 (gsCons (gN 3) (gsCons (gN 4) gsNil))) (dCall d__law_net (aRef 1 (aVal (dC (.int 58)) aNil)))) (dSeq (dAsg 5 (dTup (dCons (dBin fMax2 (dC (.int 1)) (dVar 3)) (dCons (dIf (dTest (dBin fNe (dVar 4) (dTup dNil))) (dVar 4) (dTup (dCons (dTup (dCons (dC (.int 0)) (dCons (dC (.int 0)) (dCons (dC (.str ("a" : PySem.Str))) dNil)))) dNil))) dNil)))) (dIfS (dNot (dTest (dCall d__law_right (aRef 1 (aVal (dVar 5) aNil))))) (dRet (dC (.bool false))) dSkip)))) (dRet (dC (.bool true)))))
def d_law (as : List Sl) : R Vl := noEx as (runDef 1 6 sd_law as)

end Lk13
namespace Lk13
open PySem PySem.Spec DL L2
abbrev Ln := Int × Int × Nat
abbrev encL (l : Ln) : D := .tuple [.int l.1, .int l.2.1, .str ⟨#[l.2.2]⟩]
abbrev encW (p : Int) (ls : List Ln) : D := .tuple [.int p, .tuple (ls.map encL)]
def okC (c : Nat) : Prop := 97 ≤ c ∧ c ≤ 122
def okL (p : Int) (l : Ln) : Prop := 0 ≤ l.1 ∧ l.1 < p ∧ 0 ≤ l.2.1 ∧ l.2.1 < p ∧ okC l.2.2
structure OkW (p : Int) (ls : List Ln) : Prop where
  p0 : 0 ≤ p
  ln : ls.length ≤ 1000
  ok : ∀ l ∈ ls, okL p l
theorem e_is_whole (i : Int) : d_is_whole [.fz (.int i)] = .ok (.fz (.bool true)) [.no] := by
  unfold d_is_whole sd_is_whole
  rfl
theorem e_is_below (i n : Int) : d_is_below [.fz (.int i), .fz (.int n)] = .ok (.fz (.bool (true && (decide (0 ≤ i) && decide (i < n))))) [.no, .no] := by
  unfold d_is_below
  apply run_rt rfl
  · focus ((try simp only [List.cons_append, List.nil_append, List.replicate_succ, List.replicate_zero, Nat.reduceSub, List.set_cons_zero, List.set_cons_succ, DL.with_arg, DL.with_own, DL.wipeD, List.map_cons, List.map_nil, DL.toArg, DL.back2, DL.back2a, DL.back, DL.back1]); rfl)
  · unfold sd_is_below
    (repeat' (first | with_reducible apply DL.s_setI | with_reducible apply DL.s_app | with_reducible apply DL.s_ext | (with_reducible apply DL.m_arg; rfl) | (with_reducible apply DL.m_own; rfl) | (with_reducible apply DL.f_set; rfl; focus ((try simp only [List.cons_append, List.nil_append, List.replicate_succ, List.replicate_zero, Nat.reduceSub, List.set_cons_zero, List.set_cons_succ, DL.with_arg, DL.with_own, DL.wipeD, List.map_cons, List.map_nil, DL.toArg, DL.back2, DL.back2a, DL.back, DL.back1]); rfl)) | with_reducible apply DL.f_app | with_reducible apply DL.f_ext | (with_reducible apply DL.set_goal; focus ((try simp only [List.cons_append, List.nil_append, List.replicate_succ, List.replicate_zero, Nat.reduceSub, List.set_cons_zero, List.set_cons_succ, DL.with_arg, DL.with_own, DL.wipeD, List.map_cons, List.map_nil, DL.toArg, DL.back2, DL.back2a, DL.back, DL.back1]); rfl)) | with_reducible apply DL.s_seqG | with_reducible apply DL.step_b | with_reducible apply DL.k_nx | with_reducible exact DL.k_rt | with_reducible exact DL.k_ct | with_reducible exact DL.k_bk | with_reducible apply DL.s_asgG | with_reducible apply DL.s_asg | with_reducible apply DL.s_drop | with_reducible apply DL.s_ret | with_reducible apply DL.s_if | with_reducible exact DL.s_skip | (with_reducible apply DL.f_eq; (first | rfl | assumption); (first | rfl | assumption)) | (with_reducible apply DL.f_ne; (first | rfl | assumption); (first | rfl | assumption)) | with_reducible apply DL.f_addT | (with_reducible apply DL.f_ixT; assumption) | (with_reducible apply DL.f_ixL; assumption) | with_reducible apply DL.f_addL | with_reducible apply DL.s_par | with_reducible apply DL.s_for | with_reducible apply DL.i_it | with_reducible apply DL.i_r1 | with_reducible apply DL.r_lc | with_reducible apply DL.r_lc2 | with_reducible apply DL.i_enumT | with_reducible exact DL.t_yes | with_reducible apply DL.turn_e | with_reducible apply DL.g_tup | with_reducible apply DL.g_lst | with_reducible apply DL.g_cons | with_reducible exact DL.g_nil | with_reducible apply DL.g_n | (with_reducible apply DL.set_fz; rfl; focus ((try simp only [List.cons_append, List.nil_append, List.replicate_succ, List.replicate_zero, Nat.reduceSub, List.set_cons_zero, List.set_cons_succ, DL.with_arg, DL.with_own, DL.wipeD, List.map_cons, List.map_nil, DL.toArg, DL.back2, DL.back2a, DL.back, DL.back1]); rfl)) | (with_reducible apply DL.set_own; rfl; focus ((try simp only [List.cons_append, List.nil_append, List.replicate_succ, List.replicate_zero, Nat.reduceSub, List.set_cons_zero, List.set_cons_succ, DL.with_arg, DL.with_own, DL.wipeD, List.map_cons, List.map_nil, DL.toArg, DL.back2, DL.back2a, DL.back, DL.back1]); rfl)) | (with_reducible apply DL.p_t; (first | rfl | focus (simp [*]; done) | assumption)) | (with_reducible apply DL.p_f; (first | rfl | focus (simp [*]; done) | assumption)) | (with_reducible apply DL.v_fz; rfl) | (with_reducible apply DL.v_own; rfl) | (with_reducible apply DL.v_arg; rfl) | with_reducible exact DL.r_c | with_reducible apply DL.r_andB | with_reducible apply DL.r_bin | with_reducible apply DL.r_un | with_reducible apply DL.r_test | with_reducible apply DL.r_notV | with_reducible apply DL.r_and | with_reducible apply DL.r_or | with_reducible apply DL.r_not | with_reducible apply DL.r_if | with_reducible apply DL.r_chainB | with_reducible exact DL.l_nil | with_reducible apply DL.l_cons | with_reducible apply DL.r_tup | with_reducible apply DL.r_lst | with_reducible apply DL.o_some | with_reducible exact DL.o_none | with_reducible apply DL.r_sl | with_reducible exact DL.a_nil | with_reducible apply DL.a_val | with_reducible apply DL.a_ref | (with_reducible apply DL.small_of; focus (first | omega | (simp <;> omega))) | with_reducible apply DL.r_callR | with_reducible apply DL.r_call | (first | exact e_is_whole _ | assumption) | (with_reducible apply DL.f_mod; (first | assumption | omega | focus (simp; omega))) | (with_reducible apply DL.f_div; (first | assumption | omega | focus (simp; omega))) | with_reducible apply DL.f_mulI | (with_reducible apply DL.wide_lt; (first | assumption | omega | focus (simp; omega))) | rfl | (focus ((try simp only [List.cons_append, List.nil_append, List.replicate_succ, List.replicate_zero, Nat.reduceSub, List.set_cons_zero, List.set_cons_succ, DL.with_arg, DL.with_own, DL.wipeD, List.map_cons, List.map_nil, DL.toArg, DL.back2, DL.back2a, DL.back, DL.back1]); rfl); done)))
  all_goals rfl
theorem e_is_row (ds : List D) : d_is_row [.fz (.tuple ds)] = .ok (.fz (.bool true)) [.no] := by
  unfold d_is_row sd_is_row
  rfl
theorem e_is_row_of (ds : List D) (n : Int) : d_is_row_of [.fz (.tuple ds), .fz (.int n)] = .ok (.fz (.bool ((ds.length : Int) == n))) [.no, .no] := by
  unfold d_is_row_of
  apply run_rt rfl
  · focus ((try simp only [List.cons_append, List.nil_append, List.replicate_succ, List.replicate_zero, Nat.reduceSub, List.set_cons_zero, List.set_cons_succ, DL.with_arg, DL.with_own, DL.wipeD, List.map_cons, List.map_nil, DL.toArg, DL.back2, DL.back2a, DL.back, DL.back1]); rfl)
  · unfold sd_is_row_of
    (repeat' (first | with_reducible apply DL.s_setI | with_reducible apply DL.s_app | with_reducible apply DL.s_ext | (with_reducible apply DL.m_arg; rfl) | (with_reducible apply DL.m_own; rfl) | (with_reducible apply DL.f_set; rfl; focus ((try simp only [List.cons_append, List.nil_append, List.replicate_succ, List.replicate_zero, Nat.reduceSub, List.set_cons_zero, List.set_cons_succ, DL.with_arg, DL.with_own, DL.wipeD, List.map_cons, List.map_nil, DL.toArg, DL.back2, DL.back2a, DL.back, DL.back1]); rfl)) | with_reducible apply DL.f_app | with_reducible apply DL.f_ext | (with_reducible apply DL.set_goal; focus ((try simp only [List.cons_append, List.nil_append, List.replicate_succ, List.replicate_zero, Nat.reduceSub, List.set_cons_zero, List.set_cons_succ, DL.with_arg, DL.with_own, DL.wipeD, List.map_cons, List.map_nil, DL.toArg, DL.back2, DL.back2a, DL.back, DL.back1]); rfl)) | with_reducible apply DL.s_seqG | with_reducible apply DL.step_b | with_reducible apply DL.k_nx | with_reducible exact DL.k_rt | with_reducible exact DL.k_ct | with_reducible exact DL.k_bk | with_reducible apply DL.s_asgG | with_reducible apply DL.s_asg | with_reducible apply DL.s_drop | with_reducible apply DL.s_ret | with_reducible apply DL.s_if | with_reducible exact DL.s_skip | (with_reducible apply DL.f_eq; (first | rfl | assumption); (first | rfl | assumption)) | (with_reducible apply DL.f_ne; (first | rfl | assumption); (first | rfl | assumption)) | with_reducible apply DL.f_addT | (with_reducible apply DL.f_ixT; assumption) | (with_reducible apply DL.f_ixL; assumption) | with_reducible apply DL.f_addL | with_reducible apply DL.s_par | with_reducible apply DL.s_for | with_reducible apply DL.i_it | with_reducible apply DL.i_r1 | with_reducible apply DL.r_lc | with_reducible apply DL.r_lc2 | with_reducible apply DL.i_enumT | with_reducible exact DL.t_yes | with_reducible apply DL.turn_e | with_reducible apply DL.g_tup | with_reducible apply DL.g_lst | with_reducible apply DL.g_cons | with_reducible exact DL.g_nil | with_reducible apply DL.g_n | (with_reducible apply DL.set_fz; rfl; focus ((try simp only [List.cons_append, List.nil_append, List.replicate_succ, List.replicate_zero, Nat.reduceSub, List.set_cons_zero, List.set_cons_succ, DL.with_arg, DL.with_own, DL.wipeD, List.map_cons, List.map_nil, DL.toArg, DL.back2, DL.back2a, DL.back, DL.back1]); rfl)) | (with_reducible apply DL.set_own; rfl; focus ((try simp only [List.cons_append, List.nil_append, List.replicate_succ, List.replicate_zero, Nat.reduceSub, List.set_cons_zero, List.set_cons_succ, DL.with_arg, DL.with_own, DL.wipeD, List.map_cons, List.map_nil, DL.toArg, DL.back2, DL.back2a, DL.back, DL.back1]); rfl)) | (with_reducible apply DL.p_t; (first | rfl | focus (simp [*]; done) | assumption)) | (with_reducible apply DL.p_f; (first | rfl | focus (simp [*]; done) | assumption)) | (with_reducible apply DL.v_fz; rfl) | (with_reducible apply DL.v_own; rfl) | (with_reducible apply DL.v_arg; rfl) | with_reducible exact DL.r_c | with_reducible apply DL.r_andB | with_reducible apply DL.r_bin | with_reducible apply DL.r_un | with_reducible apply DL.r_test | with_reducible apply DL.r_notV | with_reducible apply DL.r_and | with_reducible apply DL.r_or | with_reducible apply DL.r_not | with_reducible apply DL.r_if | with_reducible apply DL.r_chainB | with_reducible exact DL.l_nil | with_reducible apply DL.l_cons | with_reducible apply DL.r_tup | with_reducible apply DL.r_lst | with_reducible apply DL.o_some | with_reducible exact DL.o_none | with_reducible apply DL.r_sl | with_reducible exact DL.a_nil | with_reducible apply DL.a_val | with_reducible apply DL.a_ref | (with_reducible apply DL.small_of; focus (first | omega | (simp <;> omega))) | with_reducible apply DL.r_callR | with_reducible apply DL.r_call | (first | exact e_is_row _ | exact e_is_below _ _ | exact e_is_whole _ | assumption) | (with_reducible apply DL.f_mod; (first | assumption | omega | focus (simp; omega))) | (with_reducible apply DL.f_div; (first | assumption | omega | focus (simp; omega))) | with_reducible apply DL.f_mulI | (with_reducible apply DL.wide_lt; (first | assumption | omega | focus (simp; omega))) | rfl | (focus ((try simp only [List.cons_append, List.nil_append, List.replicate_succ, List.replicate_zero, Nat.reduceSub, List.set_cons_zero, List.set_cons_succ, DL.with_arg, DL.with_own, DL.wipeD, List.map_cons, List.map_nil, DL.toArg, DL.back2, DL.back2a, DL.back, DL.back1]); rfl); done)))
  all_goals rfl
theorem e_is_company (c : Nat) (h : okC c) : d_is_company [.fz (.str ⟨#[c]⟩)] = .ok (.fz (.bool true)) [.no] := by
  have z : d_is_company [.fz (.str ⟨#[c]⟩)] = .ok (.fz (.bool (true && (true && (!decide ([c] < [97]) && !decide ([122] < [c])))))) [.no] := by
    unfold d_is_company
    apply run_rt rfl
    · focus ((try simp only [List.cons_append, List.nil_append, List.replicate_succ, List.replicate_zero, Nat.reduceSub, List.set_cons_zero, List.set_cons_succ, DL.with_arg, DL.with_own, DL.wipeD, List.map_cons, List.map_nil, DL.toArg, DL.back2, DL.back2a, DL.back, DL.back1]); rfl)
    · unfold sd_is_company
      (repeat' (first | with_reducible apply DL.s_setI | with_reducible apply DL.s_app | with_reducible apply DL.s_ext | (with_reducible apply DL.m_arg; rfl) | (with_reducible apply DL.m_own; rfl) | (with_reducible apply DL.f_set; rfl; focus ((try simp only [List.cons_append, List.nil_append, List.replicate_succ, List.replicate_zero, Nat.reduceSub, List.set_cons_zero, List.set_cons_succ, DL.with_arg, DL.with_own, DL.wipeD, List.map_cons, List.map_nil, DL.toArg, DL.back2, DL.back2a, DL.back, DL.back1]); rfl)) | with_reducible apply DL.f_app | with_reducible apply DL.f_ext | (with_reducible apply DL.set_goal; focus ((try simp only [List.cons_append, List.nil_append, List.replicate_succ, List.replicate_zero, Nat.reduceSub, List.set_cons_zero, List.set_cons_succ, DL.with_arg, DL.with_own, DL.wipeD, List.map_cons, List.map_nil, DL.toArg, DL.back2, DL.back2a, DL.back, DL.back1]); rfl)) | with_reducible apply DL.s_seqG | with_reducible apply DL.step_b | with_reducible apply DL.k_nx | with_reducible exact DL.k_rt | with_reducible exact DL.k_ct | with_reducible exact DL.k_bk | with_reducible apply DL.s_asgG | with_reducible apply DL.s_asg | with_reducible apply DL.s_drop | with_reducible apply DL.s_ret | with_reducible apply DL.s_if | with_reducible exact DL.s_skip | (with_reducible apply DL.f_eq; (first | rfl | assumption); (first | rfl | assumption)) | (with_reducible apply DL.f_ne; (first | rfl | assumption); (first | rfl | assumption)) | with_reducible apply DL.f_addT | (with_reducible apply DL.f_ixT; assumption) | (with_reducible apply DL.f_ixL; assumption) | with_reducible apply DL.f_addL | with_reducible apply DL.s_par | with_reducible apply DL.s_for | with_reducible apply DL.i_it | with_reducible apply DL.i_r1 | with_reducible apply DL.r_lc | with_reducible apply DL.r_lc2 | with_reducible apply DL.i_enumT | with_reducible exact DL.t_yes | with_reducible apply DL.turn_e | with_reducible apply DL.g_tup | with_reducible apply DL.g_lst | with_reducible apply DL.g_cons | with_reducible exact DL.g_nil | with_reducible apply DL.g_n | (with_reducible apply DL.set_fz; rfl; focus ((try simp only [List.cons_append, List.nil_append, List.replicate_succ, List.replicate_zero, Nat.reduceSub, List.set_cons_zero, List.set_cons_succ, DL.with_arg, DL.with_own, DL.wipeD, List.map_cons, List.map_nil, DL.toArg, DL.back2, DL.back2a, DL.back, DL.back1]); rfl)) | (with_reducible apply DL.set_own; rfl; focus ((try simp only [List.cons_append, List.nil_append, List.replicate_succ, List.replicate_zero, Nat.reduceSub, List.set_cons_zero, List.set_cons_succ, DL.with_arg, DL.with_own, DL.wipeD, List.map_cons, List.map_nil, DL.toArg, DL.back2, DL.back2a, DL.back, DL.back1]); rfl)) | (with_reducible apply DL.p_t; (first | rfl | focus (simp [*]; done) | assumption)) | (with_reducible apply DL.p_f; (first | rfl | focus (simp [*]; done) | assumption)) | (with_reducible apply DL.v_fz; rfl) | (with_reducible apply DL.v_own; rfl) | (with_reducible apply DL.v_arg; rfl) | with_reducible exact DL.r_c | with_reducible apply DL.r_andB | with_reducible apply DL.r_bin | with_reducible apply DL.r_un | with_reducible apply DL.r_test | with_reducible apply DL.r_notV | with_reducible apply DL.r_and | with_reducible apply DL.r_or | with_reducible apply DL.r_not | with_reducible apply DL.r_if | with_reducible apply DL.r_chainB | with_reducible exact DL.l_nil | with_reducible apply DL.l_cons | with_reducible apply DL.r_tup | with_reducible apply DL.r_lst | with_reducible apply DL.o_some | with_reducible exact DL.o_none | with_reducible apply DL.r_sl | with_reducible exact DL.a_nil | with_reducible apply DL.a_val | with_reducible apply DL.a_ref | (with_reducible apply DL.small_of; focus (first | omega | (simp <;> omega))) | with_reducible apply DL.r_callR | with_reducible apply DL.r_call | (first | exact e_is_row_of _ _ | exact e_is_row _ | exact e_is_below _ _ | exact e_is_whole _ | assumption) | (with_reducible apply DL.f_mod; (first | assumption | omega | focus (simp; omega))) | (with_reducible apply DL.f_div; (first | assumption | omega | focus (simp; omega))) | with_reducible apply DL.f_mulI | (with_reducible apply DL.wide_lt; (first | assumption | omega | focus (simp; omega))) | rfl | (focus ((try simp only [List.cons_append, List.nil_append, List.replicate_succ, List.replicate_zero, Nat.reduceSub, List.set_cons_zero, List.set_cons_succ, DL.with_arg, DL.with_own, DL.wipeD, List.map_cons, List.map_nil, DL.toArg, DL.back2, DL.back2a, DL.back, DL.back1]); rfl); done)))
    all_goals rfl
  rw [z]
  have h1 : decide ([c] < [97]) = false := by simp [List.cons_lt_cons_iff]; exact h.1
  have h2 : decide ([122] < [c]) = false := by simp [List.cons_lt_cons_iff]; exact h.2
  rw [h1, h2]
  rfl
/-- a line that is one -/
theorem e_is_line (p : Int) (l : Ln) (h : okL p l) : d_is_line [.fz (.int p), .fz (encL l)] = .ok (.fz (.bool true)) [.no, .no] := by
  obtain ⟨h1, h2, h3, h4, h5⟩ := h
  have c := e_is_company l.2.2 h5
  unfold d_is_line
  apply run_b rfl
  · focus ((try simp only [List.cons_append, List.nil_append, List.replicate_succ, List.replicate_zero, Nat.reduceSub, List.set_cons_zero, List.set_cons_succ, DL.with_arg, DL.with_own, DL.wipeD, List.map_cons, List.map_nil, DL.toArg, DL.back2, DL.back2a, DL.back, DL.back1]); rfl)
  · unfold sd_is_line encL
    (repeat' (first | with_reducible apply DL.s_setI | with_reducible apply DL.s_app | with_reducible apply DL.s_ext | (with_reducible apply DL.m_arg; rfl) | (with_reducible apply DL.m_own; rfl) | (with_reducible apply DL.f_set; rfl; focus ((try simp only [List.cons_append, List.nil_append, List.replicate_succ, List.replicate_zero, Nat.reduceSub, List.set_cons_zero, List.set_cons_succ, DL.with_arg, DL.with_own, DL.wipeD, List.map_cons, List.map_nil, DL.toArg, DL.back2, DL.back2a, DL.back, DL.back1]); rfl)) | with_reducible apply DL.f_app | with_reducible apply DL.f_ext | (with_reducible apply DL.set_goal; focus ((try simp only [List.cons_append, List.nil_append, List.replicate_succ, List.replicate_zero, Nat.reduceSub, List.set_cons_zero, List.set_cons_succ, DL.with_arg, DL.with_own, DL.wipeD, List.map_cons, List.map_nil, DL.toArg, DL.back2, DL.back2a, DL.back, DL.back1]); rfl)) | with_reducible apply DL.s_seqG | with_reducible apply DL.step_b | with_reducible apply DL.k_nx | with_reducible exact DL.k_rt | with_reducible exact DL.k_ct | with_reducible exact DL.k_bk | with_reducible apply DL.s_asgG | with_reducible apply DL.s_asg | with_reducible apply DL.s_drop | with_reducible apply DL.s_ret | with_reducible apply DL.s_if | with_reducible exact DL.s_skip | (with_reducible apply DL.f_eq; (first | rfl | assumption); (first | rfl | assumption)) | (with_reducible apply DL.f_ne; (first | rfl | assumption); (first | rfl | assumption)) | with_reducible apply DL.f_addT | (with_reducible apply DL.f_ixT; assumption) | (with_reducible apply DL.f_ixL; assumption) | with_reducible apply DL.f_addL | with_reducible apply DL.s_par | with_reducible apply DL.s_for | with_reducible apply DL.i_it | with_reducible apply DL.i_r1 | with_reducible apply DL.r_lc | with_reducible apply DL.r_lc2 | with_reducible apply DL.i_enumT | with_reducible exact DL.t_yes | with_reducible apply DL.turn_e | with_reducible apply DL.g_tup | with_reducible apply DL.g_lst | with_reducible apply DL.g_cons | with_reducible exact DL.g_nil | with_reducible apply DL.g_n | (with_reducible apply DL.set_fz; rfl; focus ((try simp only [List.cons_append, List.nil_append, List.replicate_succ, List.replicate_zero, Nat.reduceSub, List.set_cons_zero, List.set_cons_succ, DL.with_arg, DL.with_own, DL.wipeD, List.map_cons, List.map_nil, DL.toArg, DL.back2, DL.back2a, DL.back, DL.back1]); rfl)) | (with_reducible apply DL.set_own; rfl; focus ((try simp only [List.cons_append, List.nil_append, List.replicate_succ, List.replicate_zero, Nat.reduceSub, List.set_cons_zero, List.set_cons_succ, DL.with_arg, DL.with_own, DL.wipeD, List.map_cons, List.map_nil, DL.toArg, DL.back2, DL.back2a, DL.back, DL.back1]); rfl)) | (with_reducible apply DL.p_t; (first | rfl | focus (simp [*]; done) | assumption)) | (with_reducible apply DL.p_f; (first | rfl | focus (simp [*]; done) | assumption)) | (with_reducible apply DL.v_fz; rfl) | (with_reducible apply DL.v_own; rfl) | (with_reducible apply DL.v_arg; rfl) | with_reducible exact DL.r_c | with_reducible apply DL.r_andB | with_reducible apply DL.r_bin | with_reducible apply DL.r_un | with_reducible apply DL.r_test | with_reducible apply DL.r_notV | with_reducible apply DL.r_and | with_reducible apply DL.r_or | with_reducible apply DL.r_not | with_reducible apply DL.r_if | with_reducible apply DL.r_chainB | with_reducible exact DL.l_nil | with_reducible apply DL.l_cons | with_reducible apply DL.r_tup | with_reducible apply DL.r_lst | with_reducible apply DL.o_some | with_reducible exact DL.o_none | with_reducible apply DL.r_sl | with_reducible exact DL.a_nil | with_reducible apply DL.a_val | with_reducible apply DL.a_ref | (with_reducible apply DL.small_of; focus (first | omega | (simp <;> omega))) | with_reducible apply DL.r_callR | with_reducible apply DL.r_call | (first | exact e_is_row_of _ _ | exact e_is_row _ | exact e_is_below _ _ | exact e_is_whole _ | assumption) | (with_reducible apply DL.f_mod; (first | assumption | omega | focus (simp; omega))) | (with_reducible apply DL.f_div; (first | assumption | omega | focus (simp; omega))) | with_reducible apply DL.f_mulI | (with_reducible apply DL.wide_lt; (first | assumption | omega | focus (simp; omega))) | rfl | (focus ((try simp only [List.cons_append, List.nil_append, List.replicate_succ, List.replicate_zero, Nat.reduceSub, List.set_cons_zero, List.set_cons_succ, DL.with_arg, DL.with_own, DL.wipeD, List.map_cons, List.map_nil, DL.toArg, DL.back2, DL.back2a, DL.back, DL.back1]); rfl); done)))
  · simp [h1, h2, h3, h4]
  · rfl
theorem e_web_of (p : Int) (ls : List Ln) (h : OkW p ls) : d_web_of [.fz (.int p), .fz (.tuple (ls.map encL))] = .ok (.fz (encW p ls)) [.no, .no] := by
  have h0 : decide (p < 0) = false := decide_eq_false (by have := h.p0; omega)
  have hs : small (ls.map encL).length = true := small_of (by have := h.ln; rw [List.length_map]; omega)
  unfold d_web_of
  apply run_v rfl
  · focus ((try simp only [List.cons_append, List.nil_append, List.replicate_succ, List.replicate_zero, Nat.reduceSub, List.set_cons_zero, List.set_cons_succ, DL.with_arg, DL.with_own, DL.wipeD, List.map_cons, List.map_nil, DL.toArg, DL.back2, DL.back2a, DL.back, DL.back1]); rfl)
  · unfold sd_web_of
    (repeat' (first | with_reducible apply DL.s_setI | with_reducible apply DL.s_app | with_reducible apply DL.s_ext | (with_reducible apply DL.m_arg; rfl) | (with_reducible apply DL.m_own; rfl) | (with_reducible apply DL.f_set; rfl; focus ((try simp only [List.cons_append, List.nil_append, List.replicate_succ, List.replicate_zero, Nat.reduceSub, List.set_cons_zero, List.set_cons_succ, DL.with_arg, DL.with_own, DL.wipeD, List.map_cons, List.map_nil, DL.toArg, DL.back2, DL.back2a, DL.back, DL.back1]); rfl)) | with_reducible apply DL.f_app | with_reducible apply DL.f_ext | (with_reducible apply DL.set_goal; focus ((try simp only [List.cons_append, List.nil_append, List.replicate_succ, List.replicate_zero, Nat.reduceSub, List.set_cons_zero, List.set_cons_succ, DL.with_arg, DL.with_own, DL.wipeD, List.map_cons, List.map_nil, DL.toArg, DL.back2, DL.back2a, DL.back, DL.back1]); rfl)) | with_reducible apply DL.s_seqG | with_reducible apply DL.step_b | with_reducible apply DL.k_nx | with_reducible exact DL.k_rt | with_reducible exact DL.k_ct | with_reducible exact DL.k_bk | with_reducible apply DL.s_asgG | with_reducible apply DL.s_asg | with_reducible apply DL.s_drop | with_reducible apply DL.s_ret | with_reducible apply DL.s_if | with_reducible exact DL.s_skip | (with_reducible apply DL.f_eq; (first | rfl | assumption); (first | rfl | assumption)) | (with_reducible apply DL.f_ne; (first | rfl | assumption); (first | rfl | assumption)) | with_reducible apply DL.f_addT | (with_reducible apply DL.f_ixT; assumption) | (with_reducible apply DL.f_ixL; assumption) | with_reducible apply DL.f_addL | with_reducible apply DL.s_par | with_reducible apply DL.s_for | with_reducible apply DL.i_it | with_reducible apply DL.i_r1 | with_reducible apply DL.r_lc | with_reducible apply DL.r_lc2 | with_reducible apply DL.i_enumT | with_reducible exact DL.t_yes | with_reducible apply DL.turn_e | with_reducible apply DL.g_tup | with_reducible apply DL.g_lst | with_reducible apply DL.g_cons | with_reducible exact DL.g_nil | with_reducible apply DL.g_n | (with_reducible apply DL.set_fz; rfl; focus ((try simp only [List.cons_append, List.nil_append, List.replicate_succ, List.replicate_zero, Nat.reduceSub, List.set_cons_zero, List.set_cons_succ, DL.with_arg, DL.with_own, DL.wipeD, List.map_cons, List.map_nil, DL.toArg, DL.back2, DL.back2a, DL.back, DL.back1]); rfl)) | (with_reducible apply DL.set_own; rfl; focus ((try simp only [List.cons_append, List.nil_append, List.replicate_succ, List.replicate_zero, Nat.reduceSub, List.set_cons_zero, List.set_cons_succ, DL.with_arg, DL.with_own, DL.wipeD, List.map_cons, List.map_nil, DL.toArg, DL.back2, DL.back2a, DL.back, DL.back1]); rfl)) | (with_reducible apply DL.p_t; (first | rfl | focus (simp [*]; done) | assumption)) | (with_reducible apply DL.p_f; (first | rfl | focus (simp [*]; done) | assumption)) | (with_reducible apply DL.v_fz; rfl) | (with_reducible apply DL.v_own; rfl) | (with_reducible apply DL.v_arg; rfl) | with_reducible exact DL.r_c | with_reducible apply DL.r_andB | with_reducible apply DL.r_bin | with_reducible apply DL.r_un | with_reducible apply DL.r_test | with_reducible apply DL.r_notV | with_reducible apply DL.r_and | with_reducible apply DL.r_or | with_reducible apply DL.r_not | with_reducible apply DL.r_if | with_reducible apply DL.r_chainB | with_reducible exact DL.l_nil | with_reducible apply DL.l_cons | with_reducible apply DL.r_tup | with_reducible apply DL.r_lst | with_reducible apply DL.o_some | with_reducible exact DL.o_none | with_reducible apply DL.r_sl | with_reducible exact DL.a_nil | with_reducible apply DL.a_val | with_reducible apply DL.a_ref | (with_reducible apply DL.small_of; focus (first | omega | (simp <;> omega))) | with_reducible apply DL.r_callR | with_reducible apply DL.r_call | (first | exact e_is_row_of _ _ | exact e_is_row _ | exact e_is_below _ _ | exact e_is_whole _ | assumption) | (with_reducible apply DL.f_mod; (first | assumption | omega | focus (simp; omega))) | (with_reducible apply DL.f_div; (first | assumption | omega | focus (simp; omega))) | with_reducible apply DL.f_mulI | (with_reducible apply DL.wide_lt; (first | assumption | omega | focus (simp; omega))) | rfl | (focus ((try simp only [List.cons_append, List.nil_append, List.replicate_succ, List.replicate_zero, Nat.reduceSub, List.set_cons_zero, List.set_cons_succ, DL.with_arg, DL.with_own, DL.wipeD, List.map_cons, List.map_nil, DL.toArg, DL.back2, DL.back2a, DL.back, DL.back1]); rfl); done)))
    · refine for_keep _ _ .no rfl rfl fun d hd => ?_
      obtain ⟨l, hl, rfl⟩ := List.mem_map.mp hd
      have c := e_is_line p l (h.ok l hl)
      (repeat' (first | with_reducible apply DL.s_setI | with_reducible apply DL.s_app | with_reducible apply DL.s_ext | (with_reducible apply DL.m_arg; rfl) | (with_reducible apply DL.m_own; rfl) | (with_reducible apply DL.f_set; rfl; focus ((try simp only [List.cons_append, List.nil_append, List.replicate_succ, List.replicate_zero, Nat.reduceSub, List.set_cons_zero, List.set_cons_succ, DL.with_arg, DL.with_own, DL.wipeD, List.map_cons, List.map_nil, DL.toArg, DL.back2, DL.back2a, DL.back, DL.back1]); rfl)) | with_reducible apply DL.f_app | with_reducible apply DL.f_ext | (with_reducible apply DL.set_goal; focus ((try simp only [List.cons_append, List.nil_append, List.replicate_succ, List.replicate_zero, Nat.reduceSub, List.set_cons_zero, List.set_cons_succ, DL.with_arg, DL.with_own, DL.wipeD, List.map_cons, List.map_nil, DL.toArg, DL.back2, DL.back2a, DL.back, DL.back1]); rfl)) | with_reducible apply DL.s_seqG | with_reducible apply DL.step_b | with_reducible apply DL.k_nx | with_reducible exact DL.k_rt | with_reducible exact DL.k_ct | with_reducible exact DL.k_bk | with_reducible apply DL.s_asgG | with_reducible apply DL.s_asg | with_reducible apply DL.s_drop | with_reducible apply DL.s_ret | with_reducible apply DL.s_if | with_reducible exact DL.s_skip | (with_reducible apply DL.f_eq; (first | rfl | assumption); (first | rfl | assumption)) | (with_reducible apply DL.f_ne; (first | rfl | assumption); (first | rfl | assumption)) | with_reducible apply DL.f_addT | (with_reducible apply DL.f_ixT; assumption) | (with_reducible apply DL.f_ixL; assumption) | with_reducible apply DL.f_addL | with_reducible apply DL.s_par | with_reducible apply DL.s_for | with_reducible apply DL.i_it | with_reducible apply DL.i_r1 | with_reducible apply DL.r_lc | with_reducible apply DL.r_lc2 | with_reducible apply DL.i_enumT | with_reducible exact DL.t_yes | with_reducible apply DL.turn_e | with_reducible apply DL.g_tup | with_reducible apply DL.g_lst | with_reducible apply DL.g_cons | with_reducible exact DL.g_nil | with_reducible apply DL.g_n | (with_reducible apply DL.set_fz; rfl; focus ((try simp only [List.cons_append, List.nil_append, List.replicate_succ, List.replicate_zero, Nat.reduceSub, List.set_cons_zero, List.set_cons_succ, DL.with_arg, DL.with_own, DL.wipeD, List.map_cons, List.map_nil, DL.toArg, DL.back2, DL.back2a, DL.back, DL.back1]); rfl)) | (with_reducible apply DL.set_own; rfl; focus ((try simp only [List.cons_append, List.nil_append, List.replicate_succ, List.replicate_zero, Nat.reduceSub, List.set_cons_zero, List.set_cons_succ, DL.with_arg, DL.with_own, DL.wipeD, List.map_cons, List.map_nil, DL.toArg, DL.back2, DL.back2a, DL.back, DL.back1]); rfl)) | (with_reducible apply DL.p_t; (first | rfl | focus (simp [*]; done) | assumption)) | (with_reducible apply DL.p_f; (first | rfl | focus (simp [*]; done) | assumption)) | (with_reducible apply DL.v_fz; rfl) | (with_reducible apply DL.v_own; rfl) | (with_reducible apply DL.v_arg; rfl) | with_reducible exact DL.r_c | with_reducible apply DL.r_andB | with_reducible apply DL.r_bin | with_reducible apply DL.r_un | with_reducible apply DL.r_test | with_reducible apply DL.r_notV | with_reducible apply DL.r_and | with_reducible apply DL.r_or | with_reducible apply DL.r_not | with_reducible apply DL.r_if | with_reducible apply DL.r_chainB | with_reducible exact DL.l_nil | with_reducible apply DL.l_cons | with_reducible apply DL.r_tup | with_reducible apply DL.r_lst | with_reducible apply DL.o_some | with_reducible exact DL.o_none | with_reducible apply DL.r_sl | with_reducible exact DL.a_nil | with_reducible apply DL.a_val | with_reducible apply DL.a_ref | (with_reducible apply DL.small_of; focus (first | omega | (simp <;> omega))) | with_reducible apply DL.r_callR | with_reducible apply DL.r_call | (first | exact e_is_row_of _ _ | exact e_is_row _ | exact e_is_below _ _ | exact e_is_whole _ | assumption) | (with_reducible apply DL.f_mod; (first | assumption | omega | focus (simp; omega))) | (with_reducible apply DL.f_div; (first | assumption | omega | focus (simp; omega))) | with_reducible apply DL.f_mulI | (with_reducible apply DL.wide_lt; (first | assumption | omega | focus (simp; omega))) | rfl | (focus ((try simp only [List.cons_append, List.nil_append, List.replicate_succ, List.replicate_zero, Nat.reduceSub, List.set_cons_zero, List.set_cons_succ, DL.with_arg, DL.with_own, DL.wipeD, List.map_cons, List.map_nil, DL.toArg, DL.back2, DL.back2a, DL.back, DL.back1]); rfl); done)))
    (repeat' (first | with_reducible apply DL.s_setI | with_reducible apply DL.s_app | with_reducible apply DL.s_ext | (with_reducible apply DL.m_arg; rfl) | (with_reducible apply DL.m_own; rfl) | (with_reducible apply DL.f_set; rfl; focus ((try simp only [List.cons_append, List.nil_append, List.replicate_succ, List.replicate_zero, Nat.reduceSub, List.set_cons_zero, List.set_cons_succ, DL.with_arg, DL.with_own, DL.wipeD, List.map_cons, List.map_nil, DL.toArg, DL.back2, DL.back2a, DL.back, DL.back1]); rfl)) | with_reducible apply DL.f_app | with_reducible apply DL.f_ext | (with_reducible apply DL.set_goal; focus ((try simp only [List.cons_append, List.nil_append, List.replicate_succ, List.replicate_zero, Nat.reduceSub, List.set_cons_zero, List.set_cons_succ, DL.with_arg, DL.with_own, DL.wipeD, List.map_cons, List.map_nil, DL.toArg, DL.back2, DL.back2a, DL.back, DL.back1]); rfl)) | with_reducible apply DL.s_seqG | with_reducible apply DL.step_b | with_reducible apply DL.k_nx | with_reducible exact DL.k_rt | with_reducible exact DL.k_ct | with_reducible exact DL.k_bk | with_reducible apply DL.s_asgG | with_reducible apply DL.s_asg | with_reducible apply DL.s_drop | with_reducible apply DL.s_ret | with_reducible apply DL.s_if | with_reducible exact DL.s_skip | (with_reducible apply DL.f_eq; (first | rfl | assumption); (first | rfl | assumption)) | (with_reducible apply DL.f_ne; (first | rfl | assumption); (first | rfl | assumption)) | with_reducible apply DL.f_addT | (with_reducible apply DL.f_ixT; assumption) | (with_reducible apply DL.f_ixL; assumption) | with_reducible apply DL.f_addL | with_reducible apply DL.s_par | with_reducible apply DL.s_for | with_reducible apply DL.i_it | with_reducible apply DL.i_r1 | with_reducible apply DL.r_lc | with_reducible apply DL.r_lc2 | with_reducible apply DL.i_enumT | with_reducible exact DL.t_yes | with_reducible apply DL.turn_e | with_reducible apply DL.g_tup | with_reducible apply DL.g_lst | with_reducible apply DL.g_cons | with_reducible exact DL.g_nil | with_reducible apply DL.g_n | (with_reducible apply DL.set_fz; rfl; focus ((try simp only [List.cons_append, List.nil_append, List.replicate_succ, List.replicate_zero, Nat.reduceSub, List.set_cons_zero, List.set_cons_succ, DL.with_arg, DL.with_own, DL.wipeD, List.map_cons, List.map_nil, DL.toArg, DL.back2, DL.back2a, DL.back, DL.back1]); rfl)) | (with_reducible apply DL.set_own; rfl; focus ((try simp only [List.cons_append, List.nil_append, List.replicate_succ, List.replicate_zero, Nat.reduceSub, List.set_cons_zero, List.set_cons_succ, DL.with_arg, DL.with_own, DL.wipeD, List.map_cons, List.map_nil, DL.toArg, DL.back2, DL.back2a, DL.back, DL.back1]); rfl)) | (with_reducible apply DL.p_t; (first | rfl | focus (simp [*]; done) | assumption)) | (with_reducible apply DL.p_f; (first | rfl | focus (simp [*]; done) | assumption)) | (with_reducible apply DL.v_fz; rfl) | (with_reducible apply DL.v_own; rfl) | (with_reducible apply DL.v_arg; rfl) | with_reducible exact DL.r_c | with_reducible apply DL.r_andB | with_reducible apply DL.r_bin | with_reducible apply DL.r_un | with_reducible apply DL.r_test | with_reducible apply DL.r_notV | with_reducible apply DL.r_and | with_reducible apply DL.r_or | with_reducible apply DL.r_not | with_reducible apply DL.r_if | with_reducible apply DL.r_chainB | with_reducible exact DL.l_nil | with_reducible apply DL.l_cons | with_reducible apply DL.r_tup | with_reducible apply DL.r_lst | with_reducible apply DL.o_some | with_reducible exact DL.o_none | with_reducible apply DL.r_sl | with_reducible exact DL.a_nil | with_reducible apply DL.a_val | with_reducible apply DL.a_ref | (with_reducible apply DL.small_of; focus (first | omega | (simp <;> omega))) | with_reducible apply DL.r_callR | with_reducible apply DL.r_call | (first | exact e_is_row_of _ _ | exact e_is_row _ | exact e_is_below _ _ | exact e_is_whole _ | assumption) | (with_reducible apply DL.f_mod; (first | assumption | omega | focus (simp; omega))) | (with_reducible apply DL.f_div; (first | assumption | omega | focus (simp; omega))) | with_reducible apply DL.f_mulI | (with_reducible apply DL.wide_lt; (first | assumption | omega | focus (simp; omega))) | rfl | (focus ((try simp only [List.cons_append, List.nil_append, List.replicate_succ, List.replicate_zero, Nat.reduceSub, List.set_cons_zero, List.set_cons_succ, DL.with_arg, DL.with_own, DL.wipeD, List.map_cons, List.map_nil, DL.toArg, DL.back2, DL.back2a, DL.back, DL.back1]); rfl); done)))
    · refine (Bool.and_eq_true _ _).mpr ⟨hs, ?_⟩
      show (!(lastSl Sl.no (ls.map encL)).held && true) = true
      rw [lastSl_free _ _ rfl]
      rfl
    · refine comp_map1 (ψ := encL) fun l hl => ?_
      apply turn_1
      focus ((try simp only [List.cons_append, List.nil_append, List.replicate_succ, List.replicate_zero, Nat.reduceSub, List.set_cons_zero, List.set_cons_succ, DL.with_arg, DL.with_own, DL.wipeD, List.map_cons, List.map_nil, DL.toArg, DL.back2, DL.back2a, DL.back, DL.back1]); rfl)
      (repeat' (first | with_reducible apply DL.s_setI | with_reducible apply DL.s_app | with_reducible apply DL.s_ext | (with_reducible apply DL.m_arg; rfl) | (with_reducible apply DL.m_own; rfl) | (with_reducible apply DL.f_set; rfl; focus ((try simp only [List.cons_append, List.nil_append, List.replicate_succ, List.replicate_zero, Nat.reduceSub, List.set_cons_zero, List.set_cons_succ, DL.with_arg, DL.with_own, DL.wipeD, List.map_cons, List.map_nil, DL.toArg, DL.back2, DL.back2a, DL.back, DL.back1]); rfl)) | with_reducible apply DL.f_app | with_reducible apply DL.f_ext | (with_reducible apply DL.set_goal; focus ((try simp only [List.cons_append, List.nil_append, List.replicate_succ, List.replicate_zero, Nat.reduceSub, List.set_cons_zero, List.set_cons_succ, DL.with_arg, DL.with_own, DL.wipeD, List.map_cons, List.map_nil, DL.toArg, DL.back2, DL.back2a, DL.back, DL.back1]); rfl)) | with_reducible apply DL.s_seqG | with_reducible apply DL.step_b | with_reducible apply DL.k_nx | with_reducible exact DL.k_rt | with_reducible exact DL.k_ct | with_reducible exact DL.k_bk | with_reducible apply DL.s_asgG | with_reducible apply DL.s_asg | with_reducible apply DL.s_drop | with_reducible apply DL.s_ret | with_reducible apply DL.s_if | with_reducible exact DL.s_skip | (with_reducible apply DL.f_eq; (first | rfl | assumption); (first | rfl | assumption)) | (with_reducible apply DL.f_ne; (first | rfl | assumption); (first | rfl | assumption)) | with_reducible apply DL.f_addT | (with_reducible apply DL.f_ixT; assumption) | (with_reducible apply DL.f_ixL; assumption) | with_reducible apply DL.f_addL | with_reducible apply DL.s_par | with_reducible apply DL.s_for | with_reducible apply DL.i_it | with_reducible apply DL.i_r1 | with_reducible apply DL.r_lc | with_reducible apply DL.r_lc2 | with_reducible apply DL.i_enumT | with_reducible exact DL.t_yes | with_reducible apply DL.turn_e | with_reducible apply DL.g_tup | with_reducible apply DL.g_lst | with_reducible apply DL.g_cons | with_reducible exact DL.g_nil | with_reducible apply DL.g_n | (with_reducible apply DL.set_fz; rfl; focus ((try simp only [List.cons_append, List.nil_append, List.replicate_succ, List.replicate_zero, Nat.reduceSub, List.set_cons_zero, List.set_cons_succ, DL.with_arg, DL.with_own, DL.wipeD, List.map_cons, List.map_nil, DL.toArg, DL.back2, DL.back2a, DL.back, DL.back1]); rfl)) | (with_reducible apply DL.set_own; rfl; focus ((try simp only [List.cons_append, List.nil_append, List.replicate_succ, List.replicate_zero, Nat.reduceSub, List.set_cons_zero, List.set_cons_succ, DL.with_arg, DL.with_own, DL.wipeD, List.map_cons, List.map_nil, DL.toArg, DL.back2, DL.back2a, DL.back, DL.back1]); rfl)) | (with_reducible apply DL.p_t; (first | rfl | focus (simp [*]; done) | assumption)) | (with_reducible apply DL.p_f; (first | rfl | focus (simp [*]; done) | assumption)) | (with_reducible apply DL.v_fz; rfl) | (with_reducible apply DL.v_own; rfl) | (with_reducible apply DL.v_arg; rfl) | with_reducible exact DL.r_c | with_reducible apply DL.r_andB | with_reducible apply DL.r_bin | with_reducible apply DL.r_un | with_reducible apply DL.r_test | with_reducible apply DL.r_notV | with_reducible apply DL.r_and | with_reducible apply DL.r_or | with_reducible apply DL.r_not | with_reducible apply DL.r_if | with_reducible apply DL.r_chainB | with_reducible exact DL.l_nil | with_reducible apply DL.l_cons | with_reducible apply DL.r_tup | with_reducible apply DL.r_lst | with_reducible apply DL.o_some | with_reducible exact DL.o_none | with_reducible apply DL.r_sl | with_reducible exact DL.a_nil | with_reducible apply DL.a_val | with_reducible apply DL.a_ref | (with_reducible apply DL.small_of; focus (first | omega | (simp <;> omega))) | with_reducible apply DL.r_callR | with_reducible apply DL.r_call | (first | exact e_is_row_of _ _ | exact e_is_row _ | exact e_is_below _ _ | exact e_is_whole _ | assumption) | (with_reducible apply DL.f_mod; (first | assumption | omega | focus (simp; omega))) | (with_reducible apply DL.f_div; (first | assumption | omega | focus (simp; omega))) | with_reducible apply DL.f_mulI | (with_reducible apply DL.wide_lt; (first | assumption | omega | focus (simp; omega))) | rfl | (focus ((try simp only [List.cons_append, List.nil_append, List.replicate_succ, List.replicate_zero, Nat.reduceSub, List.set_cons_zero, List.set_cons_succ, DL.with_arg, DL.with_own, DL.wipeD, List.map_cons, List.map_nil, DL.toArg, DL.back2, DL.back2a, DL.back, DL.back1]); rfl); done)))
      have hf := lastSl_free (ls.map encL) .no rfl
      generalize lastSl .no (ls.map encL) = s at hf ⊢
      cases s <;> first | rfl | cases hf
    (repeat' (first | with_reducible apply DL.s_setI | with_reducible apply DL.s_app | with_reducible apply DL.s_ext | (with_reducible apply DL.m_arg; rfl) | (with_reducible apply DL.m_own; rfl) | (with_reducible apply DL.f_set; rfl; focus ((try simp only [List.cons_append, List.nil_append, List.replicate_succ, List.replicate_zero, Nat.reduceSub, List.set_cons_zero, List.set_cons_succ, DL.with_arg, DL.with_own, DL.wipeD, List.map_cons, List.map_nil, DL.toArg, DL.back2, DL.back2a, DL.back, DL.back1]); rfl)) | with_reducible apply DL.f_app | with_reducible apply DL.f_ext | (with_reducible apply DL.set_goal; focus ((try simp only [List.cons_append, List.nil_append, List.replicate_succ, List.replicate_zero, Nat.reduceSub, List.set_cons_zero, List.set_cons_succ, DL.with_arg, DL.with_own, DL.wipeD, List.map_cons, List.map_nil, DL.toArg, DL.back2, DL.back2a, DL.back, DL.back1]); rfl)) | with_reducible apply DL.s_seqG | with_reducible apply DL.step_b | with_reducible apply DL.k_nx | with_reducible exact DL.k_rt | with_reducible exact DL.k_ct | with_reducible exact DL.k_bk | with_reducible apply DL.s_asgG | with_reducible apply DL.s_asg | with_reducible apply DL.s_drop | with_reducible apply DL.s_ret | with_reducible apply DL.s_if | with_reducible exact DL.s_skip | (with_reducible apply DL.f_eq; (first | rfl | assumption); (first | rfl | assumption)) | (with_reducible apply DL.f_ne; (first | rfl | assumption); (first | rfl | assumption)) | with_reducible apply DL.f_addT | (with_reducible apply DL.f_ixT; assumption) | (with_reducible apply DL.f_ixL; assumption) | with_reducible apply DL.f_addL | with_reducible apply DL.s_par | with_reducible apply DL.s_for | with_reducible apply DL.i_it | with_reducible apply DL.i_r1 | with_reducible apply DL.r_lc | with_reducible apply DL.r_lc2 | with_reducible apply DL.i_enumT | with_reducible exact DL.t_yes | with_reducible apply DL.turn_e | with_reducible apply DL.g_tup | with_reducible apply DL.g_lst | with_reducible apply DL.g_cons | with_reducible exact DL.g_nil | with_reducible apply DL.g_n | (with_reducible apply DL.set_fz; rfl; focus ((try simp only [List.cons_append, List.nil_append, List.replicate_succ, List.replicate_zero, Nat.reduceSub, List.set_cons_zero, List.set_cons_succ, DL.with_arg, DL.with_own, DL.wipeD, List.map_cons, List.map_nil, DL.toArg, DL.back2, DL.back2a, DL.back, DL.back1]); rfl)) | (with_reducible apply DL.set_own; rfl; focus ((try simp only [List.cons_append, List.nil_append, List.replicate_succ, List.replicate_zero, Nat.reduceSub, List.set_cons_zero, List.set_cons_succ, DL.with_arg, DL.with_own, DL.wipeD, List.map_cons, List.map_nil, DL.toArg, DL.back2, DL.back2a, DL.back, DL.back1]); rfl)) | (with_reducible apply DL.p_t; (first | rfl | focus (simp [*]; done) | assumption)) | (with_reducible apply DL.p_f; (first | rfl | focus (simp [*]; done) | assumption)) | (with_reducible apply DL.v_fz; rfl) | (with_reducible apply DL.v_own; rfl) | (with_reducible apply DL.v_arg; rfl) | with_reducible exact DL.r_c | with_reducible apply DL.r_andB | with_reducible apply DL.r_bin | with_reducible apply DL.r_un | with_reducible apply DL.r_test | with_reducible apply DL.r_notV | with_reducible apply DL.r_and | with_reducible apply DL.r_or | with_reducible apply DL.r_not | with_reducible apply DL.r_if | with_reducible apply DL.r_chainB | with_reducible exact DL.l_nil | with_reducible apply DL.l_cons | with_reducible apply DL.r_tup | with_reducible apply DL.r_lst | with_reducible apply DL.o_some | with_reducible exact DL.o_none | with_reducible apply DL.r_sl | with_reducible exact DL.a_nil | with_reducible apply DL.a_val | with_reducible apply DL.a_ref | (with_reducible apply DL.small_of; focus (first | omega | (simp <;> omega))) | with_reducible apply DL.r_callR | with_reducible apply DL.r_call | (first | exact e_is_row_of _ _ | exact e_is_row _ | exact e_is_below _ _ | exact e_is_whole _ | assumption) | (with_reducible apply DL.f_mod; (first | assumption | omega | focus (simp; omega))) | (with_reducible apply DL.f_div; (first | assumption | omega | focus (simp; omega))) | with_reducible apply DL.f_mulI | (with_reducible apply DL.wide_lt; (first | assumption | omega | focus (simp; omega))) | rfl | (focus ((try simp only [List.cons_append, List.nil_append, List.replicate_succ, List.replicate_zero, Nat.reduceSub, List.set_cons_zero, List.set_cons_succ, DL.with_arg, DL.with_own, DL.wipeD, List.map_cons, List.map_nil, DL.toArg, DL.back2, DL.back2a, DL.back, DL.back1]); rfl); done)))
  all_goals rfl
theorem e_checked_web (p : Int) (ls : List Ln) (h : OkW p ls) : d_checked_web [.fz (encW p ls)] = .ok (.fz (encW p ls)) [.no] := by
  have c := e_web_of p ls h
  unfold d_checked_web
  apply run_v rfl
  · focus ((try simp only [List.cons_append, List.nil_append, List.replicate_succ, List.replicate_zero, Nat.reduceSub, List.set_cons_zero, List.set_cons_succ, DL.with_arg, DL.with_own, DL.wipeD, List.map_cons, List.map_nil, DL.toArg, DL.back2, DL.back2a, DL.back, DL.back1]); rfl)
  · unfold sd_checked_web encW
    (repeat' (first | with_reducible apply DL.s_setI | with_reducible apply DL.s_app | with_reducible apply DL.s_ext | (with_reducible apply DL.m_arg; rfl) | (with_reducible apply DL.m_own; rfl) | (with_reducible apply DL.f_set; rfl; focus ((try simp only [List.cons_append, List.nil_append, List.replicate_succ, List.replicate_zero, Nat.reduceSub, List.set_cons_zero, List.set_cons_succ, DL.with_arg, DL.with_own, DL.wipeD, List.map_cons, List.map_nil, DL.toArg, DL.back2, DL.back2a, DL.back, DL.back1]); rfl)) | with_reducible apply DL.f_app | with_reducible apply DL.f_ext | (with_reducible apply DL.set_goal; focus ((try simp only [List.cons_append, List.nil_append, List.replicate_succ, List.replicate_zero, Nat.reduceSub, List.set_cons_zero, List.set_cons_succ, DL.with_arg, DL.with_own, DL.wipeD, List.map_cons, List.map_nil, DL.toArg, DL.back2, DL.back2a, DL.back, DL.back1]); rfl)) | with_reducible apply DL.s_seqG | with_reducible apply DL.step_b | with_reducible apply DL.k_nx | with_reducible exact DL.k_rt | with_reducible exact DL.k_ct | with_reducible exact DL.k_bk | with_reducible apply DL.s_asgG | with_reducible apply DL.s_asg | with_reducible apply DL.s_drop | with_reducible apply DL.s_ret | with_reducible apply DL.s_if | with_reducible exact DL.s_skip | (with_reducible apply DL.f_eq; (first | rfl | assumption); (first | rfl | assumption)) | (with_reducible apply DL.f_ne; (first | rfl | assumption); (first | rfl | assumption)) | with_reducible apply DL.f_addT | (with_reducible apply DL.f_ixT; assumption) | (with_reducible apply DL.f_ixL; assumption) | with_reducible apply DL.f_addL | with_reducible apply DL.s_par | with_reducible apply DL.s_for | with_reducible apply DL.i_it | with_reducible apply DL.i_r1 | with_reducible apply DL.r_lc | with_reducible apply DL.r_lc2 | with_reducible apply DL.i_enumT | with_reducible exact DL.t_yes | with_reducible apply DL.turn_e | with_reducible apply DL.g_tup | with_reducible apply DL.g_lst | with_reducible apply DL.g_cons | with_reducible exact DL.g_nil | with_reducible apply DL.g_n | (with_reducible apply DL.set_fz; rfl; focus ((try simp only [List.cons_append, List.nil_append, List.replicate_succ, List.replicate_zero, Nat.reduceSub, List.set_cons_zero, List.set_cons_succ, DL.with_arg, DL.with_own, DL.wipeD, List.map_cons, List.map_nil, DL.toArg, DL.back2, DL.back2a, DL.back, DL.back1]); rfl)) | (with_reducible apply DL.set_own; rfl; focus ((try simp only [List.cons_append, List.nil_append, List.replicate_succ, List.replicate_zero, Nat.reduceSub, List.set_cons_zero, List.set_cons_succ, DL.with_arg, DL.with_own, DL.wipeD, List.map_cons, List.map_nil, DL.toArg, DL.back2, DL.back2a, DL.back, DL.back1]); rfl)) | (with_reducible apply DL.p_t; (first | rfl | focus (simp [*]; done) | assumption)) | (with_reducible apply DL.p_f; (first | rfl | focus (simp [*]; done) | assumption)) | (with_reducible apply DL.v_fz; rfl) | (with_reducible apply DL.v_own; rfl) | (with_reducible apply DL.v_arg; rfl) | with_reducible exact DL.r_c | with_reducible apply DL.r_andB | with_reducible apply DL.r_bin | with_reducible apply DL.r_un | with_reducible apply DL.r_test | with_reducible apply DL.r_notV | with_reducible apply DL.r_and | with_reducible apply DL.r_or | with_reducible apply DL.r_not | with_reducible apply DL.r_if | with_reducible apply DL.r_chainB | with_reducible exact DL.l_nil | with_reducible apply DL.l_cons | with_reducible apply DL.r_tup | with_reducible apply DL.r_lst | with_reducible apply DL.o_some | with_reducible exact DL.o_none | with_reducible apply DL.r_sl | with_reducible exact DL.a_nil | with_reducible apply DL.a_val | with_reducible apply DL.a_ref | (with_reducible apply DL.small_of; focus (first | omega | (simp <;> omega))) | with_reducible apply DL.r_callR | with_reducible apply DL.r_call | (first | exact e_is_row_of _ _ | exact e_is_row _ | exact e_is_below _ _ | exact e_is_whole _ | assumption) | (with_reducible apply DL.f_mod; (first | assumption | omega | focus (simp; omega))) | (with_reducible apply DL.f_div; (first | assumption | omega | focus (simp; omega))) | with_reducible apply DL.f_mulI | (with_reducible apply DL.wide_lt; (first | assumption | omega | focus (simp; omega))) | rfl | (focus ((try simp only [List.cons_append, List.nil_append, List.replicate_succ, List.replicate_zero, Nat.reduceSub, List.set_cons_zero, List.set_cons_succ, DL.with_arg, DL.with_own, DL.wipeD, List.map_cons, List.map_nil, DL.toArg, DL.back2, DL.back2a, DL.back, DL.back1]); rfl); done)))
  all_goals rfl

theorem e_check_place (p i : Int) (h0 : 0 ≤ i) (h1 : i < p) : d_check_place [.fz (.int p), .fz (.int i)] = .ok (.fz .none) [.no, .no] := by
  unfold d_check_place
  apply run_nx rfl
  · focus ((try simp only [List.cons_append, List.nil_append, List.replicate_succ, List.replicate_zero, Nat.reduceSub, List.set_cons_zero, List.set_cons_succ, DL.with_arg, DL.with_own, DL.wipeD, List.map_cons, List.map_nil, DL.toArg, DL.back2, DL.back2a, DL.back, DL.back1]); rfl)
  · unfold sd_check_place
    (repeat' (first | with_reducible apply DL.s_setI | with_reducible apply DL.s_app | with_reducible apply DL.s_ext | (with_reducible apply DL.m_arg; rfl) | (with_reducible apply DL.m_own; rfl) | (with_reducible apply DL.f_set; rfl; focus ((try simp only [List.cons_append, List.nil_append, List.replicate_succ, List.replicate_zero, Nat.reduceSub, List.set_cons_zero, List.set_cons_succ, DL.with_arg, DL.with_own, DL.wipeD, List.map_cons, List.map_nil, DL.toArg, DL.back2, DL.back2a, DL.back, DL.back1]); rfl)) | with_reducible apply DL.f_app | with_reducible apply DL.f_ext | (with_reducible apply DL.set_goal; focus ((try simp only [List.cons_append, List.nil_append, List.replicate_succ, List.replicate_zero, Nat.reduceSub, List.set_cons_zero, List.set_cons_succ, DL.with_arg, DL.with_own, DL.wipeD, List.map_cons, List.map_nil, DL.toArg, DL.back2, DL.back2a, DL.back, DL.back1]); rfl)) | with_reducible apply DL.s_seqG | with_reducible apply DL.step_b | with_reducible apply DL.k_nx | with_reducible exact DL.k_rt | with_reducible exact DL.k_ct | with_reducible exact DL.k_bk | with_reducible apply DL.s_asgG | with_reducible apply DL.s_asg | with_reducible apply DL.s_drop | with_reducible apply DL.s_ret | with_reducible apply DL.s_if | with_reducible exact DL.s_skip | (with_reducible apply DL.f_eq; (first | rfl | assumption); (first | rfl | assumption)) | (with_reducible apply DL.f_ne; (first | rfl | assumption); (first | rfl | assumption)) | with_reducible apply DL.f_addT | (with_reducible apply DL.f_ixT; assumption) | (with_reducible apply DL.f_ixL; assumption) | with_reducible apply DL.f_addL | with_reducible apply DL.s_par | with_reducible apply DL.s_for | with_reducible apply DL.i_it | with_reducible apply DL.i_r1 | with_reducible apply DL.r_lc | with_reducible apply DL.r_lc2 | with_reducible apply DL.i_enumT | with_reducible exact DL.t_yes | with_reducible apply DL.turn_e | with_reducible apply DL.g_tup | with_reducible apply DL.g_lst | with_reducible apply DL.g_cons | with_reducible exact DL.g_nil | with_reducible apply DL.g_n | (with_reducible apply DL.set_fz; rfl; focus ((try simp only [List.cons_append, List.nil_append, List.replicate_succ, List.replicate_zero, Nat.reduceSub, List.set_cons_zero, List.set_cons_succ, DL.with_arg, DL.with_own, DL.wipeD, List.map_cons, List.map_nil, DL.toArg, DL.back2, DL.back2a, DL.back, DL.back1]); rfl)) | (with_reducible apply DL.set_own; rfl; focus ((try simp only [List.cons_append, List.nil_append, List.replicate_succ, List.replicate_zero, Nat.reduceSub, List.set_cons_zero, List.set_cons_succ, DL.with_arg, DL.with_own, DL.wipeD, List.map_cons, List.map_nil, DL.toArg, DL.back2, DL.back2a, DL.back, DL.back1]); rfl)) | (with_reducible apply DL.p_t; (first | rfl | focus (simp [*]; done) | assumption)) | (with_reducible apply DL.p_f; (first | rfl | focus (simp [*]; done) | assumption)) | (with_reducible apply DL.v_fz; rfl) | (with_reducible apply DL.v_own; rfl) | (with_reducible apply DL.v_arg; rfl) | with_reducible exact DL.r_c | with_reducible apply DL.r_andB | with_reducible apply DL.r_bin | with_reducible apply DL.r_un | with_reducible apply DL.r_test | with_reducible apply DL.r_notV | with_reducible apply DL.r_and | with_reducible apply DL.r_or | with_reducible apply DL.r_not | with_reducible apply DL.r_if | with_reducible apply DL.r_chainB | with_reducible exact DL.l_nil | with_reducible apply DL.l_cons | with_reducible apply DL.r_tup | with_reducible apply DL.r_lst | with_reducible apply DL.o_some | with_reducible exact DL.o_none | with_reducible apply DL.r_sl | with_reducible exact DL.a_nil | with_reducible apply DL.a_val | with_reducible apply DL.a_ref | (with_reducible apply DL.small_of; focus (first | omega | (simp <;> omega))) | with_reducible apply DL.r_callR | with_reducible apply DL.r_call | (first | exact e_is_row_of _ _ | exact e_is_row _ | exact e_is_below _ _ | exact e_is_whole _ | assumption) | (with_reducible apply DL.f_mod; (first | assumption | omega | focus (simp; omega))) | (with_reducible apply DL.f_div; (first | assumption | omega | focus (simp; omega))) | with_reducible apply DL.f_mulI | (with_reducible apply DL.wide_lt; (first | assumption | omega | focus (simp; omega))) | rfl | (focus ((try simp only [List.cons_append, List.nil_append, List.replicate_succ, List.replicate_zero, Nat.reduceSub, List.set_cons_zero, List.set_cons_succ, DL.with_arg, DL.with_own, DL.wipeD, List.map_cons, List.map_nil, DL.toArg, DL.back2, DL.back2a, DL.back, DL.back1]); rfl); done)))
  all_goals rfl
theorem e_check_line (ls : List Ln) (i : Int) (h0 : 0 ≤ i) (h1 : i < ls.length) : d_check_line [.fz (.tuple (ls.map encL)), .fz (.int i)] = .ok (.fz .none) [.no, .no] := by
  unfold d_check_line
  apply run_nx rfl
  · focus ((try simp only [List.cons_append, List.nil_append, List.replicate_succ, List.replicate_zero, Nat.reduceSub, List.set_cons_zero, List.set_cons_succ, DL.with_arg, DL.with_own, DL.wipeD, List.map_cons, List.map_nil, DL.toArg, DL.back2, DL.back2a, DL.back, DL.back1]); rfl)
  · unfold sd_check_line
    (repeat' (first | with_reducible apply DL.s_setI | with_reducible apply DL.s_app | with_reducible apply DL.s_ext | (with_reducible apply DL.m_arg; rfl) | (with_reducible apply DL.m_own; rfl) | (with_reducible apply DL.f_set; rfl; focus ((try simp only [List.cons_append, List.nil_append, List.replicate_succ, List.replicate_zero, Nat.reduceSub, List.set_cons_zero, List.set_cons_succ, DL.with_arg, DL.with_own, DL.wipeD, List.map_cons, List.map_nil, DL.toArg, DL.back2, DL.back2a, DL.back, DL.back1]); rfl)) | with_reducible apply DL.f_app | with_reducible apply DL.f_ext | (with_reducible apply DL.set_goal; focus ((try simp only [List.cons_append, List.nil_append, List.replicate_succ, List.replicate_zero, Nat.reduceSub, List.set_cons_zero, List.set_cons_succ, DL.with_arg, DL.with_own, DL.wipeD, List.map_cons, List.map_nil, DL.toArg, DL.back2, DL.back2a, DL.back, DL.back1]); rfl)) | with_reducible apply DL.s_seqG | with_reducible apply DL.step_b | with_reducible apply DL.k_nx | with_reducible exact DL.k_rt | with_reducible exact DL.k_ct | with_reducible exact DL.k_bk | with_reducible apply DL.s_asgG | with_reducible apply DL.s_asg | with_reducible apply DL.s_drop | with_reducible apply DL.s_ret | with_reducible apply DL.s_if | with_reducible exact DL.s_skip | (with_reducible apply DL.f_eq; (first | rfl | assumption); (first | rfl | assumption)) | (with_reducible apply DL.f_ne; (first | rfl | assumption); (first | rfl | assumption)) | with_reducible apply DL.f_addT | (with_reducible apply DL.f_ixT; assumption) | (with_reducible apply DL.f_ixL; assumption) | with_reducible apply DL.f_addL | with_reducible apply DL.s_par | with_reducible apply DL.s_for | with_reducible apply DL.i_it | with_reducible apply DL.i_r1 | with_reducible apply DL.r_lc | with_reducible apply DL.r_lc2 | with_reducible apply DL.i_enumT | with_reducible exact DL.t_yes | with_reducible apply DL.turn_e | with_reducible apply DL.g_tup | with_reducible apply DL.g_lst | with_reducible apply DL.g_cons | with_reducible exact DL.g_nil | with_reducible apply DL.g_n | (with_reducible apply DL.set_fz; rfl; focus ((try simp only [List.cons_append, List.nil_append, List.replicate_succ, List.replicate_zero, Nat.reduceSub, List.set_cons_zero, List.set_cons_succ, DL.with_arg, DL.with_own, DL.wipeD, List.map_cons, List.map_nil, DL.toArg, DL.back2, DL.back2a, DL.back, DL.back1]); rfl)) | (with_reducible apply DL.set_own; rfl; focus ((try simp only [List.cons_append, List.nil_append, List.replicate_succ, List.replicate_zero, Nat.reduceSub, List.set_cons_zero, List.set_cons_succ, DL.with_arg, DL.with_own, DL.wipeD, List.map_cons, List.map_nil, DL.toArg, DL.back2, DL.back2a, DL.back, DL.back1]); rfl)) | (with_reducible apply DL.p_t; (first | rfl | focus (simp [*]; done) | assumption)) | (with_reducible apply DL.p_f; (first | rfl | focus (simp [*]; done) | assumption)) | (with_reducible apply DL.v_fz; rfl) | (with_reducible apply DL.v_own; rfl) | (with_reducible apply DL.v_arg; rfl) | with_reducible exact DL.r_c | with_reducible apply DL.r_andB | with_reducible apply DL.r_bin | with_reducible apply DL.r_un | with_reducible apply DL.r_test | with_reducible apply DL.r_notV | with_reducible apply DL.r_and | with_reducible apply DL.r_or | with_reducible apply DL.r_not | with_reducible apply DL.r_if | with_reducible apply DL.r_chainB | with_reducible exact DL.l_nil | with_reducible apply DL.l_cons | with_reducible apply DL.r_tup | with_reducible apply DL.r_lst | with_reducible apply DL.o_some | with_reducible exact DL.o_none | with_reducible apply DL.r_sl | with_reducible exact DL.a_nil | with_reducible apply DL.a_val | with_reducible apply DL.a_ref | (with_reducible apply DL.small_of; focus (first | omega | (simp <;> omega))) | with_reducible apply DL.r_callR | with_reducible apply DL.r_call | (first | exact e_is_row_of _ _ | exact e_is_row _ | exact e_is_below _ _ | exact e_is_whole _ | assumption) | (with_reducible apply DL.f_mod; (first | assumption | omega | focus (simp; omega))) | (with_reducible apply DL.f_div; (first | assumption | omega | focus (simp; omega))) | with_reducible apply DL.f_mulI | (with_reducible apply DL.wide_lt; (first | assumption | omega | focus (simp; omega))) | rfl | (focus ((try simp only [List.cons_append, List.nil_append, List.replicate_succ, List.replicate_zero, Nat.reduceSub, List.set_cons_zero, List.set_cons_succ, DL.with_arg, DL.with_own, DL.wipeD, List.map_cons, List.map_nil, DL.toArg, DL.back2, DL.back2a, DL.back, DL.back1]); rfl); done)))
  all_goals rfl
theorem e_check_company (c : Nat) (h : okC c) : d_check_company [.fz (.str ⟨#[c]⟩)] = .ok (.fz .none) [.no] := by
  have e := e_is_company c h
  unfold d_check_company
  apply run_nx rfl
  · focus ((try simp only [List.cons_append, List.nil_append, List.replicate_succ, List.replicate_zero, Nat.reduceSub, List.set_cons_zero, List.set_cons_succ, DL.with_arg, DL.with_own, DL.wipeD, List.map_cons, List.map_nil, DL.toArg, DL.back2, DL.back2a, DL.back, DL.back1]); rfl)
  · unfold sd_check_company
    (repeat' (first | with_reducible apply DL.s_setI | with_reducible apply DL.s_app | with_reducible apply DL.s_ext | (with_reducible apply DL.m_arg; rfl) | (with_reducible apply DL.m_own; rfl) | (with_reducible apply DL.f_set; rfl; focus ((try simp only [List.cons_append, List.nil_append, List.replicate_succ, List.replicate_zero, Nat.reduceSub, List.set_cons_zero, List.set_cons_succ, DL.with_arg, DL.with_own, DL.wipeD, List.map_cons, List.map_nil, DL.toArg, DL.back2, DL.back2a, DL.back, DL.back1]); rfl)) | with_reducible apply DL.f_app | with_reducible apply DL.f_ext | (with_reducible apply DL.set_goal; focus ((try simp only [List.cons_append, List.nil_append, List.replicate_succ, List.replicate_zero, Nat.reduceSub, List.set_cons_zero, List.set_cons_succ, DL.with_arg, DL.with_own, DL.wipeD, List.map_cons, List.map_nil, DL.toArg, DL.back2, DL.back2a, DL.back, DL.back1]); rfl)) | with_reducible apply DL.s_seqG | with_reducible apply DL.step_b | with_reducible apply DL.k_nx | with_reducible exact DL.k_rt | with_reducible exact DL.k_ct | with_reducible exact DL.k_bk | with_reducible apply DL.s_asgG | with_reducible apply DL.s_asg | with_reducible apply DL.s_drop | with_reducible apply DL.s_ret | with_reducible apply DL.s_if | with_reducible exact DL.s_skip | (with_reducible apply DL.f_eq; (first | rfl | assumption); (first | rfl | assumption)) | (with_reducible apply DL.f_ne; (first | rfl | assumption); (first | rfl | assumption)) | with_reducible apply DL.f_addT | (with_reducible apply DL.f_ixT; assumption) | (with_reducible apply DL.f_ixL; assumption) | with_reducible apply DL.f_addL | with_reducible apply DL.s_par | with_reducible apply DL.s_for | with_reducible apply DL.i_it | with_reducible apply DL.i_r1 | with_reducible apply DL.r_lc | with_reducible apply DL.r_lc2 | with_reducible apply DL.i_enumT | with_reducible exact DL.t_yes | with_reducible apply DL.turn_e | with_reducible apply DL.g_tup | with_reducible apply DL.g_lst | with_reducible apply DL.g_cons | with_reducible exact DL.g_nil | with_reducible apply DL.g_n | (with_reducible apply DL.set_fz; rfl; focus ((try simp only [List.cons_append, List.nil_append, List.replicate_succ, List.replicate_zero, Nat.reduceSub, List.set_cons_zero, List.set_cons_succ, DL.with_arg, DL.with_own, DL.wipeD, List.map_cons, List.map_nil, DL.toArg, DL.back2, DL.back2a, DL.back, DL.back1]); rfl)) | (with_reducible apply DL.set_own; rfl; focus ((try simp only [List.cons_append, List.nil_append, List.replicate_succ, List.replicate_zero, Nat.reduceSub, List.set_cons_zero, List.set_cons_succ, DL.with_arg, DL.with_own, DL.wipeD, List.map_cons, List.map_nil, DL.toArg, DL.back2, DL.back2a, DL.back, DL.back1]); rfl)) | (with_reducible apply DL.p_t; (first | rfl | focus (simp [*]; done) | assumption)) | (with_reducible apply DL.p_f; (first | rfl | focus (simp [*]; done) | assumption)) | (with_reducible apply DL.v_fz; rfl) | (with_reducible apply DL.v_own; rfl) | (with_reducible apply DL.v_arg; rfl) | with_reducible exact DL.r_c | with_reducible apply DL.r_andB | with_reducible apply DL.r_bin | with_reducible apply DL.r_un | with_reducible apply DL.r_test | with_reducible apply DL.r_notV | with_reducible apply DL.r_and | with_reducible apply DL.r_or | with_reducible apply DL.r_not | with_reducible apply DL.r_if | with_reducible apply DL.r_chainB | with_reducible exact DL.l_nil | with_reducible apply DL.l_cons | with_reducible apply DL.r_tup | with_reducible apply DL.r_lst | with_reducible apply DL.o_some | with_reducible exact DL.o_none | with_reducible apply DL.r_sl | with_reducible exact DL.a_nil | with_reducible apply DL.a_val | with_reducible apply DL.a_ref | (with_reducible apply DL.small_of; focus (first | omega | (simp <;> omega))) | with_reducible apply DL.r_callR | with_reducible apply DL.r_call | (first | exact e_is_row_of _ _ | exact e_is_row _ | exact e_is_below _ _ | exact e_is_whole _ | assumption) | (with_reducible apply DL.f_mod; (first | assumption | omega | focus (simp; omega))) | (with_reducible apply DL.f_div; (first | assumption | omega | focus (simp; omega))) | with_reducible apply DL.f_mulI | (with_reducible apply DL.wide_lt; (first | assumption | omega | focus (simp; omega))) | rfl | (focus ((try simp only [List.cons_append, List.nil_append, List.replicate_succ, List.replicate_zero, Nat.reduceSub, List.set_cons_zero, List.set_cons_succ, DL.with_arg, DL.with_own, DL.wipeD, List.map_cons, List.map_nil, DL.toArg, DL.back2, DL.back2a, DL.back, DL.back1]); rfl); done)))
  all_goals rfl
abbrev encE (q : Nat × Nat) : D := .tuple [.int q.1, .int q.2]
def endAt (pl : Int) (n : Nat) (l : Ln) : List (Nat × Nat) := (if l.1 = pl then [(n, 0)] else []) ++ (if l.2.1 = pl then [(n, 1)] else [])
def endsOf (ls : List Ln) (pl : Int) : List (Nat × Nat) := ((List.range ls.length).zip ls).flatMap fun q => endAt pl q.1 q.2
theorem endAt_len (pl : Int) (n : Nat) (l : Ln) : (endAt pl n l).length ≤ 2 := by
  unfold endAt
  split <;> split <;> simp
theorem flat_len {α β : Type} (f : α → List β) (k : Nat) (h : ∀ x, (f x).length ≤ k) : ∀ xs : List α, (xs.flatMap f).length ≤ k * xs.length
  | [] => by simp
  | x :: xs => by
    have := flat_len f k h xs
    have := h x
    simp only [List.flatMap_cons, List.length_append, List.length_cons, Nat.mul_add]
    omega
theorem endsOf_len (ls : List Ln) (pl : Int) : (endsOf ls pl).length ≤ 2 * ls.length := by
  have := flat_len (fun q : Nat × Ln => endAt pl q.1 q.2) 2 (fun q => endAt_len pl q.1 q.2) ((List.range ls.length).zip ls)
  simp only [List.length_zip, List.length_range, Nat.min_self] at this
  exact this
theorem zip_len {α : Type} (xs : List α) : ((List.range xs.length).zip xs).length = xs.length := by simp
theorem e_ends_of (ls : List Ln) (pl : Int) (hl : ls.length ≤ 1000) : d_ends_of [.fz (.tuple (ls.map encL)), .fz (.int pl)] = .ok (.own (.lst ((endsOf ls pl).map encE))) [.no, .no] := by
  have main : ∀ (n : Nat) (l : Ln), oneTurn2 [2, 3, 4] [4] (gTupD 2 (gsCons (gN 2) (gsCons (gN 3) gsNil))) dYes
        (dIter (dTup (dCons (dC (PyData.int 0)) (dCons (dC (PyData.int 1)) dNil)))) (gN 4)
        (dTest (dBin fEq (dBin fIx (dVar 3) (dVar 4)) (dVar 1))) (dTup (dCons (dVar 2) (dCons (dVar 4) dNil)))
        (.tuple [.int (n : Nat), encL l]) [Sl.fz (PyData.tuple (List.map encL ls)), Sl.fz (PyData.int pl), Sl.no, Sl.no, Sl.no] = .ok ((endAt pl n l).map encE) [Sl.fz (PyData.tuple (List.map encL ls)), Sl.fz (PyData.int pl), Sl.no, Sl.no, Sl.no] := fun n l => by
    apply turn_2
    · focus ((try simp only [List.cons_append, List.nil_append, List.replicate_succ, List.replicate_zero, Nat.reduceSub, List.set_cons_zero, List.set_cons_succ, DL.with_arg, DL.with_own, DL.wipeD, List.map_cons, List.map_nil, DL.toArg, DL.back2, DL.back2a, DL.back, DL.back1]); rfl)
    · (repeat' (first | with_reducible apply DL.s_setI | with_reducible apply DL.s_app | with_reducible apply DL.s_ext | (with_reducible apply DL.m_arg; rfl) | (with_reducible apply DL.m_own; rfl) | (with_reducible apply DL.f_set; rfl; focus ((try simp only [List.cons_append, List.nil_append, List.replicate_succ, List.replicate_zero, Nat.reduceSub, List.set_cons_zero, List.set_cons_succ, DL.with_arg, DL.with_own, DL.wipeD, List.map_cons, List.map_nil, DL.toArg, DL.back2, DL.back2a, DL.back, DL.back1]); rfl)) | with_reducible apply DL.f_app | with_reducible apply DL.f_ext | (with_reducible apply DL.set_goal; focus ((try simp only [List.cons_append, List.nil_append, List.replicate_succ, List.replicate_zero, Nat.reduceSub, List.set_cons_zero, List.set_cons_succ, DL.with_arg, DL.with_own, DL.wipeD, List.map_cons, List.map_nil, DL.toArg, DL.back2, DL.back2a, DL.back, DL.back1]); rfl)) | with_reducible apply DL.s_seqG | with_reducible apply DL.step_b | with_reducible apply DL.k_nx | with_reducible exact DL.k_rt | with_reducible exact DL.k_ct | with_reducible exact DL.k_bk | with_reducible apply DL.s_asgG | with_reducible apply DL.s_asg | with_reducible apply DL.s_drop | with_reducible apply DL.s_ret | with_reducible apply DL.s_if | with_reducible exact DL.s_skip | (with_reducible apply DL.f_eq; (first | rfl | assumption); (first | rfl | assumption)) | (with_reducible apply DL.f_ne; (first | rfl | assumption); (first | rfl | assumption)) | with_reducible apply DL.f_addT | (with_reducible apply DL.f_ixT; assumption) | (with_reducible apply DL.f_ixL; assumption) | with_reducible apply DL.f_addL | with_reducible apply DL.s_par | with_reducible apply DL.s_for | with_reducible apply DL.i_it | with_reducible apply DL.i_r1 | with_reducible apply DL.r_lc | with_reducible apply DL.r_lc2 | with_reducible apply DL.i_enumT | with_reducible exact DL.t_yes | with_reducible apply DL.turn_e | with_reducible apply DL.g_tup | with_reducible apply DL.g_lst | with_reducible apply DL.g_cons | with_reducible exact DL.g_nil | with_reducible apply DL.g_n | (with_reducible apply DL.set_fz; rfl; focus ((try simp only [List.cons_append, List.nil_append, List.replicate_succ, List.replicate_zero, Nat.reduceSub, List.set_cons_zero, List.set_cons_succ, DL.with_arg, DL.with_own, DL.wipeD, List.map_cons, List.map_nil, DL.toArg, DL.back2, DL.back2a, DL.back, DL.back1]); rfl)) | (with_reducible apply DL.set_own; rfl; focus ((try simp only [List.cons_append, List.nil_append, List.replicate_succ, List.replicate_zero, Nat.reduceSub, List.set_cons_zero, List.set_cons_succ, DL.with_arg, DL.with_own, DL.wipeD, List.map_cons, List.map_nil, DL.toArg, DL.back2, DL.back2a, DL.back, DL.back1]); rfl)) | (with_reducible apply DL.p_t; (first | rfl | focus (simp [*]; done) | assumption)) | (with_reducible apply DL.p_f; (first | rfl | focus (simp [*]; done) | assumption)) | (with_reducible apply DL.v_fz; rfl) | (with_reducible apply DL.v_own; rfl) | (with_reducible apply DL.v_arg; rfl) | with_reducible exact DL.r_c | with_reducible apply DL.r_andB | with_reducible apply DL.r_bin | with_reducible apply DL.r_un | with_reducible apply DL.r_test | with_reducible apply DL.r_notV | with_reducible apply DL.r_and | with_reducible apply DL.r_or | with_reducible apply DL.r_not | with_reducible apply DL.r_if | with_reducible apply DL.r_chainB | with_reducible exact DL.l_nil | with_reducible apply DL.l_cons | with_reducible apply DL.r_tup | with_reducible apply DL.r_lst | with_reducible apply DL.o_some | with_reducible exact DL.o_none | with_reducible apply DL.r_sl | with_reducible exact DL.a_nil | with_reducible apply DL.a_val | with_reducible apply DL.a_ref | (with_reducible apply DL.small_of; focus (first | omega | (simp <;> omega))) | with_reducible apply DL.r_callR | with_reducible apply DL.r_call | (first | exact e_is_row_of _ _ | exact e_is_row _ | exact e_is_below _ _ | exact e_is_whole _ | assumption) | (with_reducible apply DL.f_mod; (first | assumption | omega | focus (simp; omega))) | (with_reducible apply DL.f_div; (first | assumption | omega | focus (simp; omega))) | with_reducible apply DL.f_mulI | (with_reducible apply DL.wide_lt; (first | assumption | omega | focus (simp; omega))) | rfl | (focus ((try simp only [List.cons_append, List.nil_append, List.replicate_succ, List.replicate_zero, Nat.reduceSub, List.set_cons_zero, List.set_cons_succ, DL.with_arg, DL.with_own, DL.wipeD, List.map_cons, List.map_nil, DL.toArg, DL.back2, DL.back2a, DL.back, DL.back1]); rfl); done)))
    · (repeat' (first | with_reducible apply DL.s_setI | with_reducible apply DL.s_app | with_reducible apply DL.s_ext | (with_reducible apply DL.m_arg; rfl) | (with_reducible apply DL.m_own; rfl) | (with_reducible apply DL.f_set; rfl; focus ((try simp only [List.cons_append, List.nil_append, List.replicate_succ, List.replicate_zero, Nat.reduceSub, List.set_cons_zero, List.set_cons_succ, DL.with_arg, DL.with_own, DL.wipeD, List.map_cons, List.map_nil, DL.toArg, DL.back2, DL.back2a, DL.back, DL.back1]); rfl)) | with_reducible apply DL.f_app | with_reducible apply DL.f_ext | (with_reducible apply DL.set_goal; focus ((try simp only [List.cons_append, List.nil_append, List.replicate_succ, List.replicate_zero, Nat.reduceSub, List.set_cons_zero, List.set_cons_succ, DL.with_arg, DL.with_own, DL.wipeD, List.map_cons, List.map_nil, DL.toArg, DL.back2, DL.back2a, DL.back, DL.back1]); rfl)) | with_reducible apply DL.s_seqG | with_reducible apply DL.step_b | with_reducible apply DL.k_nx | with_reducible exact DL.k_rt | with_reducible exact DL.k_ct | with_reducible exact DL.k_bk | with_reducible apply DL.s_asgG | with_reducible apply DL.s_asg | with_reducible apply DL.s_drop | with_reducible apply DL.s_ret | with_reducible apply DL.s_if | with_reducible exact DL.s_skip | (with_reducible apply DL.f_eq; (first | rfl | assumption); (first | rfl | assumption)) | (with_reducible apply DL.f_ne; (first | rfl | assumption); (first | rfl | assumption)) | with_reducible apply DL.f_addT | (with_reducible apply DL.f_ixT; assumption) | (with_reducible apply DL.f_ixL; assumption) | with_reducible apply DL.f_addL | with_reducible apply DL.s_par | with_reducible apply DL.s_for | with_reducible apply DL.i_it | with_reducible apply DL.i_r1 | with_reducible apply DL.r_lc | with_reducible apply DL.r_lc2 | with_reducible apply DL.i_enumT | with_reducible exact DL.t_yes | with_reducible apply DL.turn_e | with_reducible apply DL.g_tup | with_reducible apply DL.g_lst | with_reducible apply DL.g_cons | with_reducible exact DL.g_nil | with_reducible apply DL.g_n | (with_reducible apply DL.set_fz; rfl; focus ((try simp only [List.cons_append, List.nil_append, List.replicate_succ, List.replicate_zero, Nat.reduceSub, List.set_cons_zero, List.set_cons_succ, DL.with_arg, DL.with_own, DL.wipeD, List.map_cons, List.map_nil, DL.toArg, DL.back2, DL.back2a, DL.back, DL.back1]); rfl)) | (with_reducible apply DL.set_own; rfl; focus ((try simp only [List.cons_append, List.nil_append, List.replicate_succ, List.replicate_zero, Nat.reduceSub, List.set_cons_zero, List.set_cons_succ, DL.with_arg, DL.with_own, DL.wipeD, List.map_cons, List.map_nil, DL.toArg, DL.back2, DL.back2a, DL.back, DL.back1]); rfl)) | (with_reducible apply DL.p_t; (first | rfl | focus (simp [*]; done) | assumption)) | (with_reducible apply DL.p_f; (first | rfl | focus (simp [*]; done) | assumption)) | (with_reducible apply DL.v_fz; rfl) | (with_reducible apply DL.v_own; rfl) | (with_reducible apply DL.v_arg; rfl) | with_reducible exact DL.r_c | with_reducible apply DL.r_andB | with_reducible apply DL.r_bin | with_reducible apply DL.r_un | with_reducible apply DL.r_test | with_reducible apply DL.r_notV | with_reducible apply DL.r_and | with_reducible apply DL.r_or | with_reducible apply DL.r_not | with_reducible apply DL.r_if | with_reducible apply DL.r_chainB | with_reducible exact DL.l_nil | with_reducible apply DL.l_cons | with_reducible apply DL.r_tup | with_reducible apply DL.r_lst | with_reducible apply DL.o_some | with_reducible exact DL.o_none | with_reducible apply DL.r_sl | with_reducible exact DL.a_nil | with_reducible apply DL.a_val | with_reducible apply DL.a_ref | (with_reducible apply DL.small_of; focus (first | omega | (simp <;> omega))) | with_reducible apply DL.r_callR | with_reducible apply DL.r_call | (first | exact e_is_row_of _ _ | exact e_is_row _ | exact e_is_below _ _ | exact e_is_whole _ | assumption) | (with_reducible apply DL.f_mod; (first | assumption | omega | focus (simp; omega))) | (with_reducible apply DL.f_div; (first | assumption | omega | focus (simp; omega))) | with_reducible apply DL.f_mulI | (with_reducible apply DL.wide_lt; (first | assumption | omega | focus (simp; omega))) | rfl | (focus ((try simp only [List.cons_append, List.nil_append, List.replicate_succ, List.replicate_zero, Nat.reduceSub, List.set_cons_zero, List.set_cons_succ, DL.with_arg, DL.with_own, DL.wipeD, List.map_cons, List.map_nil, DL.toArg, DL.back2, DL.back2a, DL.back, DL.back1]); rfl); done)))
    · (repeat' (first | with_reducible apply DL.s_setI | with_reducible apply DL.s_app | with_reducible apply DL.s_ext | (with_reducible apply DL.m_arg; rfl) | (with_reducible apply DL.m_own; rfl) | (with_reducible apply DL.f_set; rfl; focus ((try simp only [List.cons_append, List.nil_append, List.replicate_succ, List.replicate_zero, Nat.reduceSub, List.set_cons_zero, List.set_cons_succ, DL.with_arg, DL.with_own, DL.wipeD, List.map_cons, List.map_nil, DL.toArg, DL.back2, DL.back2a, DL.back, DL.back1]); rfl)) | with_reducible apply DL.f_app | with_reducible apply DL.f_ext | (with_reducible apply DL.set_goal; focus ((try simp only [List.cons_append, List.nil_append, List.replicate_succ, List.replicate_zero, Nat.reduceSub, List.set_cons_zero, List.set_cons_succ, DL.with_arg, DL.with_own, DL.wipeD, List.map_cons, List.map_nil, DL.toArg, DL.back2, DL.back2a, DL.back, DL.back1]); rfl)) | with_reducible apply DL.s_seqG | with_reducible apply DL.step_b | with_reducible apply DL.k_nx | with_reducible exact DL.k_rt | with_reducible exact DL.k_ct | with_reducible exact DL.k_bk | with_reducible apply DL.s_asgG | with_reducible apply DL.s_asg | with_reducible apply DL.s_drop | with_reducible apply DL.s_ret | with_reducible apply DL.s_if | with_reducible exact DL.s_skip | (with_reducible apply DL.f_eq; (first | rfl | assumption); (first | rfl | assumption)) | (with_reducible apply DL.f_ne; (first | rfl | assumption); (first | rfl | assumption)) | with_reducible apply DL.f_addT | (with_reducible apply DL.f_ixT; assumption) | (with_reducible apply DL.f_ixL; assumption) | with_reducible apply DL.f_addL | with_reducible apply DL.s_par | with_reducible apply DL.s_for | with_reducible apply DL.i_it | with_reducible apply DL.i_r1 | with_reducible apply DL.r_lc | with_reducible apply DL.r_lc2 | with_reducible apply DL.i_enumT | with_reducible exact DL.t_yes | with_reducible apply DL.turn_e | with_reducible apply DL.g_tup | with_reducible apply DL.g_lst | with_reducible apply DL.g_cons | with_reducible exact DL.g_nil | with_reducible apply DL.g_n | (with_reducible apply DL.set_fz; rfl; focus ((try simp only [List.cons_append, List.nil_append, List.replicate_succ, List.replicate_zero, Nat.reduceSub, List.set_cons_zero, List.set_cons_succ, DL.with_arg, DL.with_own, DL.wipeD, List.map_cons, List.map_nil, DL.toArg, DL.back2, DL.back2a, DL.back, DL.back1]); rfl)) | (with_reducible apply DL.set_own; rfl; focus ((try simp only [List.cons_append, List.nil_append, List.replicate_succ, List.replicate_zero, Nat.reduceSub, List.set_cons_zero, List.set_cons_succ, DL.with_arg, DL.with_own, DL.wipeD, List.map_cons, List.map_nil, DL.toArg, DL.back2, DL.back2a, DL.back, DL.back1]); rfl)) | (with_reducible apply DL.p_t; (first | rfl | focus (simp [*]; done) | assumption)) | (with_reducible apply DL.p_f; (first | rfl | focus (simp [*]; done) | assumption)) | (with_reducible apply DL.v_fz; rfl) | (with_reducible apply DL.v_own; rfl) | (with_reducible apply DL.v_arg; rfl) | with_reducible exact DL.r_c | with_reducible apply DL.r_andB | with_reducible apply DL.r_bin | with_reducible apply DL.r_un | with_reducible apply DL.r_test | with_reducible apply DL.r_notV | with_reducible apply DL.r_and | with_reducible apply DL.r_or | with_reducible apply DL.r_not | with_reducible apply DL.r_if | with_reducible apply DL.r_chainB | with_reducible exact DL.l_nil | with_reducible apply DL.l_cons | with_reducible apply DL.r_tup | with_reducible apply DL.r_lst | with_reducible apply DL.o_some | with_reducible exact DL.o_none | with_reducible apply DL.r_sl | with_reducible exact DL.a_nil | with_reducible apply DL.a_val | with_reducible apply DL.a_ref | (with_reducible apply DL.small_of; focus (first | omega | (simp <;> omega))) | with_reducible apply DL.r_callR | with_reducible apply DL.r_call | (first | exact e_is_row_of _ _ | exact e_is_row _ | exact e_is_below _ _ | exact e_is_whole _ | assumption) | (with_reducible apply DL.f_mod; (first | assumption | omega | focus (simp; omega))) | (with_reducible apply DL.f_div; (first | assumption | omega | focus (simp; omega))) | with_reducible apply DL.f_mulI | (with_reducible apply DL.wide_lt; (first | assumption | omega | focus (simp; omega))) | rfl | (focus ((try simp only [List.cons_append, List.nil_append, List.replicate_succ, List.replicate_zero, Nat.reduceSub, List.set_cons_zero, List.set_cons_succ, DL.with_arg, DL.with_own, DL.wipeD, List.map_cons, List.map_nil, DL.toArg, DL.back2, DL.back2a, DL.back, DL.back1]); rfl); done)))
    · focus ((try simp only [List.cons_append, List.nil_append, List.replicate_succ, List.replicate_zero, Nat.reduceSub, List.set_cons_zero, List.set_cons_succ, DL.with_arg, DL.with_own, DL.wipeD, List.map_cons, List.map_nil, DL.toArg, DL.back2, DL.back2a, DL.back, DL.back1]); rfl)
    · rfl
    · apply comp2
      · apply turn_c
        · focus ((try simp only [List.cons_append, List.nil_append, List.replicate_succ, List.replicate_zero, Nat.reduceSub, List.set_cons_zero, List.set_cons_succ, DL.with_arg, DL.with_own, DL.wipeD, List.map_cons, List.map_nil, DL.toArg, DL.back2, DL.back2a, DL.back, DL.back1]); rfl)
        · (repeat' (first | with_reducible apply DL.s_setI | with_reducible apply DL.s_app | with_reducible apply DL.s_ext | (with_reducible apply DL.m_arg; rfl) | (with_reducible apply DL.m_own; rfl) | (with_reducible apply DL.f_set; rfl; focus ((try simp only [List.cons_append, List.nil_append, List.replicate_succ, List.replicate_zero, Nat.reduceSub, List.set_cons_zero, List.set_cons_succ, DL.with_arg, DL.with_own, DL.wipeD, List.map_cons, List.map_nil, DL.toArg, DL.back2, DL.back2a, DL.back, DL.back1]); rfl)) | with_reducible apply DL.f_app | with_reducible apply DL.f_ext | (with_reducible apply DL.set_goal; focus ((try simp only [List.cons_append, List.nil_append, List.replicate_succ, List.replicate_zero, Nat.reduceSub, List.set_cons_zero, List.set_cons_succ, DL.with_arg, DL.with_own, DL.wipeD, List.map_cons, List.map_nil, DL.toArg, DL.back2, DL.back2a, DL.back, DL.back1]); rfl)) | with_reducible apply DL.s_seqG | with_reducible apply DL.step_b | with_reducible apply DL.k_nx | with_reducible exact DL.k_rt | with_reducible exact DL.k_ct | with_reducible exact DL.k_bk | with_reducible apply DL.s_asgG | with_reducible apply DL.s_asg | with_reducible apply DL.s_drop | with_reducible apply DL.s_ret | with_reducible apply DL.s_if | with_reducible exact DL.s_skip | (with_reducible apply DL.f_eq; (first | rfl | assumption); (first | rfl | assumption)) | (with_reducible apply DL.f_ne; (first | rfl | assumption); (first | rfl | assumption)) | with_reducible apply DL.f_addT | (with_reducible apply DL.f_ixT; assumption) | (with_reducible apply DL.f_ixL; assumption) | with_reducible apply DL.f_addL | with_reducible apply DL.s_par | with_reducible apply DL.s_for | with_reducible apply DL.i_it | with_reducible apply DL.i_r1 | with_reducible apply DL.r_lc | with_reducible apply DL.r_lc2 | with_reducible apply DL.i_enumT | with_reducible exact DL.t_yes | with_reducible apply DL.turn_e | with_reducible apply DL.g_tup | with_reducible apply DL.g_lst | with_reducible apply DL.g_cons | with_reducible exact DL.g_nil | with_reducible apply DL.g_n | (with_reducible apply DL.set_fz; rfl; focus ((try simp only [List.cons_append, List.nil_append, List.replicate_succ, List.replicate_zero, Nat.reduceSub, List.set_cons_zero, List.set_cons_succ, DL.with_arg, DL.with_own, DL.wipeD, List.map_cons, List.map_nil, DL.toArg, DL.back2, DL.back2a, DL.back, DL.back1]); rfl)) | (with_reducible apply DL.set_own; rfl; focus ((try simp only [List.cons_append, List.nil_append, List.replicate_succ, List.replicate_zero, Nat.reduceSub, List.set_cons_zero, List.set_cons_succ, DL.with_arg, DL.with_own, DL.wipeD, List.map_cons, List.map_nil, DL.toArg, DL.back2, DL.back2a, DL.back, DL.back1]); rfl)) | (with_reducible apply DL.p_t; (first | rfl | focus (simp [*]; done) | assumption)) | (with_reducible apply DL.p_f; (first | rfl | focus (simp [*]; done) | assumption)) | (with_reducible apply DL.v_fz; rfl) | (with_reducible apply DL.v_own; rfl) | (with_reducible apply DL.v_arg; rfl) | with_reducible exact DL.r_c | with_reducible apply DL.r_andB | with_reducible apply DL.r_bin | with_reducible apply DL.r_un | with_reducible apply DL.r_test | with_reducible apply DL.r_notV | with_reducible apply DL.r_and | with_reducible apply DL.r_or | with_reducible apply DL.r_not | with_reducible apply DL.r_if | with_reducible apply DL.r_chainB | with_reducible exact DL.l_nil | with_reducible apply DL.l_cons | with_reducible apply DL.r_tup | with_reducible apply DL.r_lst | with_reducible apply DL.o_some | with_reducible exact DL.o_none | with_reducible apply DL.r_sl | with_reducible exact DL.a_nil | with_reducible apply DL.a_val | with_reducible apply DL.a_ref | (with_reducible apply DL.small_of; focus (first | omega | (simp <;> omega))) | with_reducible apply DL.r_callR | with_reducible apply DL.r_call | (first | exact e_is_row_of _ _ | exact e_is_row _ | exact e_is_below _ _ | exact e_is_whole _ | assumption) | (with_reducible apply DL.f_mod; (first | assumption | omega | focus (simp; omega))) | (with_reducible apply DL.f_div; (first | assumption | omega | focus (simp; omega))) | with_reducible apply DL.f_mulI | (with_reducible apply DL.wide_lt; (first | assumption | omega | focus (simp; omega))) | rfl | (focus ((try simp only [List.cons_append, List.nil_append, List.replicate_succ, List.replicate_zero, Nat.reduceSub, List.set_cons_zero, List.set_cons_succ, DL.with_arg, DL.with_own, DL.wipeD, List.map_cons, List.map_nil, DL.toArg, DL.back2, DL.back2a, DL.back, DL.back1]); rfl); done)))
        · apply r_test
          unfold encL
          (repeat' (first | with_reducible apply DL.s_setI | with_reducible apply DL.s_app | with_reducible apply DL.s_ext | (with_reducible apply DL.m_arg; rfl) | (with_reducible apply DL.m_own; rfl) | (with_reducible apply DL.f_set; rfl; focus ((try simp only [List.cons_append, List.nil_append, List.replicate_succ, List.replicate_zero, Nat.reduceSub, List.set_cons_zero, List.set_cons_succ, DL.with_arg, DL.with_own, DL.wipeD, List.map_cons, List.map_nil, DL.toArg, DL.back2, DL.back2a, DL.back, DL.back1]); rfl)) | with_reducible apply DL.f_app | with_reducible apply DL.f_ext | (with_reducible apply DL.set_goal; focus ((try simp only [List.cons_append, List.nil_append, List.replicate_succ, List.replicate_zero, Nat.reduceSub, List.set_cons_zero, List.set_cons_succ, DL.with_arg, DL.with_own, DL.wipeD, List.map_cons, List.map_nil, DL.toArg, DL.back2, DL.back2a, DL.back, DL.back1]); rfl)) | with_reducible apply DL.s_seqG | with_reducible apply DL.step_b | with_reducible apply DL.k_nx | with_reducible exact DL.k_rt | with_reducible exact DL.k_ct | with_reducible exact DL.k_bk | with_reducible apply DL.s_asgG | with_reducible apply DL.s_asg | with_reducible apply DL.s_drop | with_reducible apply DL.s_ret | with_reducible apply DL.s_if | with_reducible exact DL.s_skip | (with_reducible apply DL.f_eq; (first | rfl | assumption); (first | rfl | assumption)) | (with_reducible apply DL.f_ne; (first | rfl | assumption); (first | rfl | assumption)) | with_reducible apply DL.f_addT | (with_reducible apply DL.f_ixT; assumption) | (with_reducible apply DL.f_ixL; assumption) | with_reducible apply DL.f_addL | with_reducible apply DL.s_par | with_reducible apply DL.s_for | with_reducible apply DL.i_it | with_reducible apply DL.i_r1 | with_reducible apply DL.r_lc | with_reducible apply DL.r_lc2 | with_reducible apply DL.i_enumT | with_reducible exact DL.t_yes | with_reducible apply DL.turn_e | with_reducible apply DL.g_tup | with_reducible apply DL.g_lst | with_reducible apply DL.g_cons | with_reducible exact DL.g_nil | with_reducible apply DL.g_n | (with_reducible apply DL.set_fz; rfl; focus ((try simp only [List.cons_append, List.nil_append, List.replicate_succ, List.replicate_zero, Nat.reduceSub, List.set_cons_zero, List.set_cons_succ, DL.with_arg, DL.with_own, DL.wipeD, List.map_cons, List.map_nil, DL.toArg, DL.back2, DL.back2a, DL.back, DL.back1]); rfl)) | (with_reducible apply DL.set_own; rfl; focus ((try simp only [List.cons_append, List.nil_append, List.replicate_succ, List.replicate_zero, Nat.reduceSub, List.set_cons_zero, List.set_cons_succ, DL.with_arg, DL.with_own, DL.wipeD, List.map_cons, List.map_nil, DL.toArg, DL.back2, DL.back2a, DL.back, DL.back1]); rfl)) | (with_reducible apply DL.p_t; (first | rfl | focus (simp [*]; done) | assumption)) | (with_reducible apply DL.p_f; (first | rfl | focus (simp [*]; done) | assumption)) | (with_reducible apply DL.v_fz; rfl) | (with_reducible apply DL.v_own; rfl) | (with_reducible apply DL.v_arg; rfl) | with_reducible exact DL.r_c | with_reducible apply DL.r_andB | with_reducible apply DL.r_bin | with_reducible apply DL.r_un | with_reducible apply DL.r_test | with_reducible apply DL.r_notV | with_reducible apply DL.r_and | with_reducible apply DL.r_or | with_reducible apply DL.r_not | with_reducible apply DL.r_if | with_reducible apply DL.r_chainB | with_reducible exact DL.l_nil | with_reducible apply DL.l_cons | with_reducible apply DL.r_tup | with_reducible apply DL.r_lst | with_reducible apply DL.o_some | with_reducible exact DL.o_none | with_reducible apply DL.r_sl | with_reducible exact DL.a_nil | with_reducible apply DL.a_val | with_reducible apply DL.a_ref | (with_reducible apply DL.small_of; focus (first | omega | (simp <;> omega))) | with_reducible apply DL.r_callR | with_reducible apply DL.r_call | (first | exact e_is_row_of _ _ | exact e_is_row _ | exact e_is_below _ _ | exact e_is_whole _ | assumption) | (with_reducible apply DL.f_mod; (first | assumption | omega | focus (simp; omega))) | (with_reducible apply DL.f_div; (first | assumption | omega | focus (simp; omega))) | with_reducible apply DL.f_mulI | (with_reducible apply DL.wide_lt; (first | assumption | omega | focus (simp; omega))) | rfl | (focus ((try simp only [List.cons_append, List.nil_append, List.replicate_succ, List.replicate_zero, Nat.reduceSub, List.set_cons_zero, List.set_cons_succ, DL.with_arg, DL.with_own, DL.wipeD, List.map_cons, List.map_nil, DL.toArg, DL.back2, DL.back2a, DL.back, DL.back1]); rfl); done)))
        · (repeat' (first | with_reducible apply DL.s_setI | with_reducible apply DL.s_app | with_reducible apply DL.s_ext | (with_reducible apply DL.m_arg; rfl) | (with_reducible apply DL.m_own; rfl) | (with_reducible apply DL.f_set; rfl; focus ((try simp only [List.cons_append, List.nil_append, List.replicate_succ, List.replicate_zero, Nat.reduceSub, List.set_cons_zero, List.set_cons_succ, DL.with_arg, DL.with_own, DL.wipeD, List.map_cons, List.map_nil, DL.toArg, DL.back2, DL.back2a, DL.back, DL.back1]); rfl)) | with_reducible apply DL.f_app | with_reducible apply DL.f_ext | (with_reducible apply DL.set_goal; focus ((try simp only [List.cons_append, List.nil_append, List.replicate_succ, List.replicate_zero, Nat.reduceSub, List.set_cons_zero, List.set_cons_succ, DL.with_arg, DL.with_own, DL.wipeD, List.map_cons, List.map_nil, DL.toArg, DL.back2, DL.back2a, DL.back, DL.back1]); rfl)) | with_reducible apply DL.s_seqG | with_reducible apply DL.step_b | with_reducible apply DL.k_nx | with_reducible exact DL.k_rt | with_reducible exact DL.k_ct | with_reducible exact DL.k_bk | with_reducible apply DL.s_asgG | with_reducible apply DL.s_asg | with_reducible apply DL.s_drop | with_reducible apply DL.s_ret | with_reducible apply DL.s_if | with_reducible exact DL.s_skip | (with_reducible apply DL.f_eq; (first | rfl | assumption); (first | rfl | assumption)) | (with_reducible apply DL.f_ne; (first | rfl | assumption); (first | rfl | assumption)) | with_reducible apply DL.f_addT | (with_reducible apply DL.f_ixT; assumption) | (with_reducible apply DL.f_ixL; assumption) | with_reducible apply DL.f_addL | with_reducible apply DL.s_par | with_reducible apply DL.s_for | with_reducible apply DL.i_it | with_reducible apply DL.i_r1 | with_reducible apply DL.r_lc | with_reducible apply DL.r_lc2 | with_reducible apply DL.i_enumT | with_reducible exact DL.t_yes | with_reducible apply DL.turn_e | with_reducible apply DL.g_tup | with_reducible apply DL.g_lst | with_reducible apply DL.g_cons | with_reducible exact DL.g_nil | with_reducible apply DL.g_n | (with_reducible apply DL.set_fz; rfl; focus ((try simp only [List.cons_append, List.nil_append, List.replicate_succ, List.replicate_zero, Nat.reduceSub, List.set_cons_zero, List.set_cons_succ, DL.with_arg, DL.with_own, DL.wipeD, List.map_cons, List.map_nil, DL.toArg, DL.back2, DL.back2a, DL.back, DL.back1]); rfl)) | (with_reducible apply DL.set_own; rfl; focus ((try simp only [List.cons_append, List.nil_append, List.replicate_succ, List.replicate_zero, Nat.reduceSub, List.set_cons_zero, List.set_cons_succ, DL.with_arg, DL.with_own, DL.wipeD, List.map_cons, List.map_nil, DL.toArg, DL.back2, DL.back2a, DL.back, DL.back1]); rfl)) | (with_reducible apply DL.p_t; (first | rfl | focus (simp [*]; done) | assumption)) | (with_reducible apply DL.p_f; (first | rfl | focus (simp [*]; done) | assumption)) | (with_reducible apply DL.v_fz; rfl) | (with_reducible apply DL.v_own; rfl) | (with_reducible apply DL.v_arg; rfl) | with_reducible exact DL.r_c | with_reducible apply DL.r_andB | with_reducible apply DL.r_bin | with_reducible apply DL.r_un | with_reducible apply DL.r_test | with_reducible apply DL.r_notV | with_reducible apply DL.r_and | with_reducible apply DL.r_or | with_reducible apply DL.r_not | with_reducible apply DL.r_if | with_reducible apply DL.r_chainB | with_reducible exact DL.l_nil | with_reducible apply DL.l_cons | with_reducible apply DL.r_tup | with_reducible apply DL.r_lst | with_reducible apply DL.o_some | with_reducible exact DL.o_none | with_reducible apply DL.r_sl | with_reducible exact DL.a_nil | with_reducible apply DL.a_val | with_reducible apply DL.a_ref | (with_reducible apply DL.small_of; focus (first | omega | (simp <;> omega))) | with_reducible apply DL.r_callR | with_reducible apply DL.r_call | (first | exact e_is_row_of _ _ | exact e_is_row _ | exact e_is_below _ _ | exact e_is_whole _ | assumption) | (with_reducible apply DL.f_mod; (first | assumption | omega | focus (simp; omega))) | (with_reducible apply DL.f_div; (first | assumption | omega | focus (simp; omega))) | with_reducible apply DL.f_mulI | (with_reducible apply DL.wide_lt; (first | assumption | omega | focus (simp; omega))) | rfl | (focus ((try simp only [List.cons_append, List.nil_append, List.replicate_succ, List.replicate_zero, Nat.reduceSub, List.set_cons_zero, List.set_cons_succ, DL.with_arg, DL.with_own, DL.wipeD, List.map_cons, List.map_nil, DL.toArg, DL.back2, DL.back2a, DL.back, DL.back1]); rfl); done)))
        · (repeat' (first | with_reducible apply DL.s_setI | with_reducible apply DL.s_app | with_reducible apply DL.s_ext | (with_reducible apply DL.m_arg; rfl) | (with_reducible apply DL.m_own; rfl) | (with_reducible apply DL.f_set; rfl; focus ((try simp only [List.cons_append, List.nil_append, List.replicate_succ, List.replicate_zero, Nat.reduceSub, List.set_cons_zero, List.set_cons_succ, DL.with_arg, DL.with_own, DL.wipeD, List.map_cons, List.map_nil, DL.toArg, DL.back2, DL.back2a, DL.back, DL.back1]); rfl)) | with_reducible apply DL.f_app | with_reducible apply DL.f_ext | (with_reducible apply DL.set_goal; focus ((try simp only [List.cons_append, List.nil_append, List.replicate_succ, List.replicate_zero, Nat.reduceSub, List.set_cons_zero, List.set_cons_succ, DL.with_arg, DL.with_own, DL.wipeD, List.map_cons, List.map_nil, DL.toArg, DL.back2, DL.back2a, DL.back, DL.back1]); rfl)) | with_reducible apply DL.s_seqG | with_reducible apply DL.step_b | with_reducible apply DL.k_nx | with_reducible exact DL.k_rt | with_reducible exact DL.k_ct | with_reducible exact DL.k_bk | with_reducible apply DL.s_asgG | with_reducible apply DL.s_asg | with_reducible apply DL.s_drop | with_reducible apply DL.s_ret | with_reducible apply DL.s_if | with_reducible exact DL.s_skip | (with_reducible apply DL.f_eq; (first | rfl | assumption); (first | rfl | assumption)) | (with_reducible apply DL.f_ne; (first | rfl | assumption); (first | rfl | assumption)) | with_reducible apply DL.f_addT | (with_reducible apply DL.f_ixT; assumption) | (with_reducible apply DL.f_ixL; assumption) | with_reducible apply DL.f_addL | with_reducible apply DL.s_par | with_reducible apply DL.s_for | with_reducible apply DL.i_it | with_reducible apply DL.i_r1 | with_reducible apply DL.r_lc | with_reducible apply DL.r_lc2 | with_reducible apply DL.i_enumT | with_reducible exact DL.t_yes | with_reducible apply DL.turn_e | with_reducible apply DL.g_tup | with_reducible apply DL.g_lst | with_reducible apply DL.g_cons | with_reducible exact DL.g_nil | with_reducible apply DL.g_n | (with_reducible apply DL.set_fz; rfl; focus ((try simp only [List.cons_append, List.nil_append, List.replicate_succ, List.replicate_zero, Nat.reduceSub, List.set_cons_zero, List.set_cons_succ, DL.with_arg, DL.with_own, DL.wipeD, List.map_cons, List.map_nil, DL.toArg, DL.back2, DL.back2a, DL.back, DL.back1]); rfl)) | (with_reducible apply DL.set_own; rfl; focus ((try simp only [List.cons_append, List.nil_append, List.replicate_succ, List.replicate_zero, Nat.reduceSub, List.set_cons_zero, List.set_cons_succ, DL.with_arg, DL.with_own, DL.wipeD, List.map_cons, List.map_nil, DL.toArg, DL.back2, DL.back2a, DL.back, DL.back1]); rfl)) | (with_reducible apply DL.p_t; (first | rfl | focus (simp [*]; done) | assumption)) | (with_reducible apply DL.p_f; (first | rfl | focus (simp [*]; done) | assumption)) | (with_reducible apply DL.v_fz; rfl) | (with_reducible apply DL.v_own; rfl) | (with_reducible apply DL.v_arg; rfl) | with_reducible exact DL.r_c | with_reducible apply DL.r_andB | with_reducible apply DL.r_bin | with_reducible apply DL.r_un | with_reducible apply DL.r_test | with_reducible apply DL.r_notV | with_reducible apply DL.r_and | with_reducible apply DL.r_or | with_reducible apply DL.r_not | with_reducible apply DL.r_if | with_reducible apply DL.r_chainB | with_reducible exact DL.l_nil | with_reducible apply DL.l_cons | with_reducible apply DL.r_tup | with_reducible apply DL.r_lst | with_reducible apply DL.o_some | with_reducible exact DL.o_none | with_reducible apply DL.r_sl | with_reducible exact DL.a_nil | with_reducible apply DL.a_val | with_reducible apply DL.a_ref | (with_reducible apply DL.small_of; focus (first | omega | (simp <;> omega))) | with_reducible apply DL.r_callR | with_reducible apply DL.r_call | (first | exact e_is_row_of _ _ | exact e_is_row _ | exact e_is_below _ _ | exact e_is_whole _ | assumption) | (with_reducible apply DL.f_mod; (first | assumption | omega | focus (simp; omega))) | (with_reducible apply DL.f_div; (first | assumption | omega | focus (simp; omega))) | with_reducible apply DL.f_mulI | (with_reducible apply DL.wide_lt; (first | assumption | omega | focus (simp; omega))) | rfl | (focus ((try simp only [List.cons_append, List.nil_append, List.replicate_succ, List.replicate_zero, Nat.reduceSub, List.set_cons_zero, List.set_cons_succ, DL.with_arg, DL.with_own, DL.wipeD, List.map_cons, List.map_nil, DL.toArg, DL.back2, DL.back2a, DL.back, DL.back1]); rfl); done)))
        · rfl
        · rfl
      · apply turn_c
        · focus ((try simp only [List.cons_append, List.nil_append, List.replicate_succ, List.replicate_zero, Nat.reduceSub, List.set_cons_zero, List.set_cons_succ, DL.with_arg, DL.with_own, DL.wipeD, List.map_cons, List.map_nil, DL.toArg, DL.back2, DL.back2a, DL.back, DL.back1]); rfl)
        · (repeat' (first | with_reducible apply DL.s_setI | with_reducible apply DL.s_app | with_reducible apply DL.s_ext | (with_reducible apply DL.m_arg; rfl) | (with_reducible apply DL.m_own; rfl) | (with_reducible apply DL.f_set; rfl; focus ((try simp only [List.cons_append, List.nil_append, List.replicate_succ, List.replicate_zero, Nat.reduceSub, List.set_cons_zero, List.set_cons_succ, DL.with_arg, DL.with_own, DL.wipeD, List.map_cons, List.map_nil, DL.toArg, DL.back2, DL.back2a, DL.back, DL.back1]); rfl)) | with_reducible apply DL.f_app | with_reducible apply DL.f_ext | (with_reducible apply DL.set_goal; focus ((try simp only [List.cons_append, List.nil_append, List.replicate_succ, List.replicate_zero, Nat.reduceSub, List.set_cons_zero, List.set_cons_succ, DL.with_arg, DL.with_own, DL.wipeD, List.map_cons, List.map_nil, DL.toArg, DL.back2, DL.back2a, DL.back, DL.back1]); rfl)) | with_reducible apply DL.s_seqG | with_reducible apply DL.step_b | with_reducible apply DL.k_nx | with_reducible exact DL.k_rt | with_reducible exact DL.k_ct | with_reducible exact DL.k_bk | with_reducible apply DL.s_asgG | with_reducible apply DL.s_asg | with_reducible apply DL.s_drop | with_reducible apply DL.s_ret | with_reducible apply DL.s_if | with_reducible exact DL.s_skip | (with_reducible apply DL.f_eq; (first | rfl | assumption); (first | rfl | assumption)) | (with_reducible apply DL.f_ne; (first | rfl | assumption); (first | rfl | assumption)) | with_reducible apply DL.f_addT | (with_reducible apply DL.f_ixT; assumption) | (with_reducible apply DL.f_ixL; assumption) | with_reducible apply DL.f_addL | with_reducible apply DL.s_par | with_reducible apply DL.s_for | with_reducible apply DL.i_it | with_reducible apply DL.i_r1 | with_reducible apply DL.r_lc | with_reducible apply DL.r_lc2 | with_reducible apply DL.i_enumT | with_reducible exact DL.t_yes | with_reducible apply DL.turn_e | with_reducible apply DL.g_tup | with_reducible apply DL.g_lst | with_reducible apply DL.g_cons | with_reducible exact DL.g_nil | with_reducible apply DL.g_n | (with_reducible apply DL.set_fz; rfl; focus ((try simp only [List.cons_append, List.nil_append, List.replicate_succ, List.replicate_zero, Nat.reduceSub, List.set_cons_zero, List.set_cons_succ, DL.with_arg, DL.with_own, DL.wipeD, List.map_cons, List.map_nil, DL.toArg, DL.back2, DL.back2a, DL.back, DL.back1]); rfl)) | (with_reducible apply DL.set_own; rfl; focus ((try simp only [List.cons_append, List.nil_append, List.replicate_succ, List.replicate_zero, Nat.reduceSub, List.set_cons_zero, List.set_cons_succ, DL.with_arg, DL.with_own, DL.wipeD, List.map_cons, List.map_nil, DL.toArg, DL.back2, DL.back2a, DL.back, DL.back1]); rfl)) | (with_reducible apply DL.p_t; (first | rfl | focus (simp [*]; done) | assumption)) | (with_reducible apply DL.p_f; (first | rfl | focus (simp [*]; done) | assumption)) | (with_reducible apply DL.v_fz; rfl) | (with_reducible apply DL.v_own; rfl) | (with_reducible apply DL.v_arg; rfl) | with_reducible exact DL.r_c | with_reducible apply DL.r_andB | with_reducible apply DL.r_bin | with_reducible apply DL.r_un | with_reducible apply DL.r_test | with_reducible apply DL.r_notV | with_reducible apply DL.r_and | with_reducible apply DL.r_or | with_reducible apply DL.r_not | with_reducible apply DL.r_if | with_reducible apply DL.r_chainB | with_reducible exact DL.l_nil | with_reducible apply DL.l_cons | with_reducible apply DL.r_tup | with_reducible apply DL.r_lst | with_reducible apply DL.o_some | with_reducible exact DL.o_none | with_reducible apply DL.r_sl | with_reducible exact DL.a_nil | with_reducible apply DL.a_val | with_reducible apply DL.a_ref | (with_reducible apply DL.small_of; focus (first | omega | (simp <;> omega))) | with_reducible apply DL.r_callR | with_reducible apply DL.r_call | (first | exact e_is_row_of _ _ | exact e_is_row _ | exact e_is_below _ _ | exact e_is_whole _ | assumption) | (with_reducible apply DL.f_mod; (first | assumption | omega | focus (simp; omega))) | (with_reducible apply DL.f_div; (first | assumption | omega | focus (simp; omega))) | with_reducible apply DL.f_mulI | (with_reducible apply DL.wide_lt; (first | assumption | omega | focus (simp; omega))) | rfl | (focus ((try simp only [List.cons_append, List.nil_append, List.replicate_succ, List.replicate_zero, Nat.reduceSub, List.set_cons_zero, List.set_cons_succ, DL.with_arg, DL.with_own, DL.wipeD, List.map_cons, List.map_nil, DL.toArg, DL.back2, DL.back2a, DL.back, DL.back1]); rfl); done)))
        · apply r_test
          unfold encL
          (repeat' (first | with_reducible apply DL.s_setI | with_reducible apply DL.s_app | with_reducible apply DL.s_ext | (with_reducible apply DL.m_arg; rfl) | (with_reducible apply DL.m_own; rfl) | (with_reducible apply DL.f_set; rfl; focus ((try simp only [List.cons_append, List.nil_append, List.replicate_succ, List.replicate_zero, Nat.reduceSub, List.set_cons_zero, List.set_cons_succ, DL.with_arg, DL.with_own, DL.wipeD, List.map_cons, List.map_nil, DL.toArg, DL.back2, DL.back2a, DL.back, DL.back1]); rfl)) | with_reducible apply DL.f_app | with_reducible apply DL.f_ext | (with_reducible apply DL.set_goal; focus ((try simp only [List.cons_append, List.nil_append, List.replicate_succ, List.replicate_zero, Nat.reduceSub, List.set_cons_zero, List.set_cons_succ, DL.with_arg, DL.with_own, DL.wipeD, List.map_cons, List.map_nil, DL.toArg, DL.back2, DL.back2a, DL.back, DL.back1]); rfl)) | with_reducible apply DL.s_seqG | with_reducible apply DL.step_b | with_reducible apply DL.k_nx | with_reducible exact DL.k_rt | with_reducible exact DL.k_ct | with_reducible exact DL.k_bk | with_reducible apply DL.s_asgG | with_reducible apply DL.s_asg | with_reducible apply DL.s_drop | with_reducible apply DL.s_ret | with_reducible apply DL.s_if | with_reducible exact DL.s_skip | (with_reducible apply DL.f_eq; (first | rfl | assumption); (first | rfl | assumption)) | (with_reducible apply DL.f_ne; (first | rfl | assumption); (first | rfl | assumption)) | with_reducible apply DL.f_addT | (with_reducible apply DL.f_ixT; assumption) | (with_reducible apply DL.f_ixL; assumption) | with_reducible apply DL.f_addL | with_reducible apply DL.s_par | with_reducible apply DL.s_for | with_reducible apply DL.i_it | with_reducible apply DL.i_r1 | with_reducible apply DL.r_lc | with_reducible apply DL.r_lc2 | with_reducible apply DL.i_enumT | with_reducible exact DL.t_yes | with_reducible apply DL.turn_e | with_reducible apply DL.g_tup | with_reducible apply DL.g_lst | with_reducible apply DL.g_cons | with_reducible exact DL.g_nil | with_reducible apply DL.g_n | (with_reducible apply DL.set_fz; rfl; focus ((try simp only [List.cons_append, List.nil_append, List.replicate_succ, List.replicate_zero, Nat.reduceSub, List.set_cons_zero, List.set_cons_succ, DL.with_arg, DL.with_own, DL.wipeD, List.map_cons, List.map_nil, DL.toArg, DL.back2, DL.back2a, DL.back, DL.back1]); rfl)) | (with_reducible apply DL.set_own; rfl; focus ((try simp only [List.cons_append, List.nil_append, List.replicate_succ, List.replicate_zero, Nat.reduceSub, List.set_cons_zero, List.set_cons_succ, DL.with_arg, DL.with_own, DL.wipeD, List.map_cons, List.map_nil, DL.toArg, DL.back2, DL.back2a, DL.back, DL.back1]); rfl)) | (with_reducible apply DL.p_t; (first | rfl | focus (simp [*]; done) | assumption)) | (with_reducible apply DL.p_f; (first | rfl | focus (simp [*]; done) | assumption)) | (with_reducible apply DL.v_fz; rfl) | (with_reducible apply DL.v_own; rfl) | (with_reducible apply DL.v_arg; rfl) | with_reducible exact DL.r_c | with_reducible apply DL.r_andB | with_reducible apply DL.r_bin | with_reducible apply DL.r_un | with_reducible apply DL.r_test | with_reducible apply DL.r_notV | with_reducible apply DL.r_and | with_reducible apply DL.r_or | with_reducible apply DL.r_not | with_reducible apply DL.r_if | with_reducible apply DL.r_chainB | with_reducible exact DL.l_nil | with_reducible apply DL.l_cons | with_reducible apply DL.r_tup | with_reducible apply DL.r_lst | with_reducible apply DL.o_some | with_reducible exact DL.o_none | with_reducible apply DL.r_sl | with_reducible exact DL.a_nil | with_reducible apply DL.a_val | with_reducible apply DL.a_ref | (with_reducible apply DL.small_of; focus (first | omega | (simp <;> omega))) | with_reducible apply DL.r_callR | with_reducible apply DL.r_call | (first | exact e_is_row_of _ _ | exact e_is_row _ | exact e_is_below _ _ | exact e_is_whole _ | assumption) | (with_reducible apply DL.f_mod; (first | assumption | omega | focus (simp; omega))) | (with_reducible apply DL.f_div; (first | assumption | omega | focus (simp; omega))) | with_reducible apply DL.f_mulI | (with_reducible apply DL.wide_lt; (first | assumption | omega | focus (simp; omega))) | rfl | (focus ((try simp only [List.cons_append, List.nil_append, List.replicate_succ, List.replicate_zero, Nat.reduceSub, List.set_cons_zero, List.set_cons_succ, DL.with_arg, DL.with_own, DL.wipeD, List.map_cons, List.map_nil, DL.toArg, DL.back2, DL.back2a, DL.back, DL.back1]); rfl); done)))
        · (repeat' (first | with_reducible apply DL.s_setI | with_reducible apply DL.s_app | with_reducible apply DL.s_ext | (with_reducible apply DL.m_arg; rfl) | (with_reducible apply DL.m_own; rfl) | (with_reducible apply DL.f_set; rfl; focus ((try simp only [List.cons_append, List.nil_append, List.replicate_succ, List.replicate_zero, Nat.reduceSub, List.set_cons_zero, List.set_cons_succ, DL.with_arg, DL.with_own, DL.wipeD, List.map_cons, List.map_nil, DL.toArg, DL.back2, DL.back2a, DL.back, DL.back1]); rfl)) | with_reducible apply DL.f_app | with_reducible apply DL.f_ext | (with_reducible apply DL.set_goal; focus ((try simp only [List.cons_append, List.nil_append, List.replicate_succ, List.replicate_zero, Nat.reduceSub, List.set_cons_zero, List.set_cons_succ, DL.with_arg, DL.with_own, DL.wipeD, List.map_cons, List.map_nil, DL.toArg, DL.back2, DL.back2a, DL.back, DL.back1]); rfl)) | with_reducible apply DL.s_seqG | with_reducible apply DL.step_b | with_reducible apply DL.k_nx | with_reducible exact DL.k_rt | with_reducible exact DL.k_ct | with_reducible exact DL.k_bk | with_reducible apply DL.s_asgG | with_reducible apply DL.s_asg | with_reducible apply DL.s_drop | with_reducible apply DL.s_ret | with_reducible apply DL.s_if | with_reducible exact DL.s_skip | (with_reducible apply DL.f_eq; (first | rfl | assumption); (first | rfl | assumption)) | (with_reducible apply DL.f_ne; (first | rfl | assumption); (first | rfl | assumption)) | with_reducible apply DL.f_addT | (with_reducible apply DL.f_ixT; assumption) | (with_reducible apply DL.f_ixL; assumption) | with_reducible apply DL.f_addL | with_reducible apply DL.s_par | with_reducible apply DL.s_for | with_reducible apply DL.i_it | with_reducible apply DL.i_r1 | with_reducible apply DL.r_lc | with_reducible apply DL.r_lc2 | with_reducible apply DL.i_enumT | with_reducible exact DL.t_yes | with_reducible apply DL.turn_e | with_reducible apply DL.g_tup | with_reducible apply DL.g_lst | with_reducible apply DL.g_cons | with_reducible exact DL.g_nil | with_reducible apply DL.g_n | (with_reducible apply DL.set_fz; rfl; focus ((try simp only [List.cons_append, List.nil_append, List.replicate_succ, List.replicate_zero, Nat.reduceSub, List.set_cons_zero, List.set_cons_succ, DL.with_arg, DL.with_own, DL.wipeD, List.map_cons, List.map_nil, DL.toArg, DL.back2, DL.back2a, DL.back, DL.back1]); rfl)) | (with_reducible apply DL.set_own; rfl; focus ((try simp only [List.cons_append, List.nil_append, List.replicate_succ, List.replicate_zero, Nat.reduceSub, List.set_cons_zero, List.set_cons_succ, DL.with_arg, DL.with_own, DL.wipeD, List.map_cons, List.map_nil, DL.toArg, DL.back2, DL.back2a, DL.back, DL.back1]); rfl)) | (with_reducible apply DL.p_t; (first | rfl | focus (simp [*]; done) | assumption)) | (with_reducible apply DL.p_f; (first | rfl | focus (simp [*]; done) | assumption)) | (with_reducible apply DL.v_fz; rfl) | (with_reducible apply DL.v_own; rfl) | (with_reducible apply DL.v_arg; rfl) | with_reducible exact DL.r_c | with_reducible apply DL.r_andB | with_reducible apply DL.r_bin | with_reducible apply DL.r_un | with_reducible apply DL.r_test | with_reducible apply DL.r_notV | with_reducible apply DL.r_and | with_reducible apply DL.r_or | with_reducible apply DL.r_not | with_reducible apply DL.r_if | with_reducible apply DL.r_chainB | with_reducible exact DL.l_nil | with_reducible apply DL.l_cons | with_reducible apply DL.r_tup | with_reducible apply DL.r_lst | with_reducible apply DL.o_some | with_reducible exact DL.o_none | with_reducible apply DL.r_sl | with_reducible exact DL.a_nil | with_reducible apply DL.a_val | with_reducible apply DL.a_ref | (with_reducible apply DL.small_of; focus (first | omega | (simp <;> omega))) | with_reducible apply DL.r_callR | with_reducible apply DL.r_call | (first | exact e_is_row_of _ _ | exact e_is_row _ | exact e_is_below _ _ | exact e_is_whole _ | assumption) | (with_reducible apply DL.f_mod; (first | assumption | omega | focus (simp; omega))) | (with_reducible apply DL.f_div; (first | assumption | omega | focus (simp; omega))) | with_reducible apply DL.f_mulI | (with_reducible apply DL.wide_lt; (first | assumption | omega | focus (simp; omega))) | rfl | (focus ((try simp only [List.cons_append, List.nil_append, List.replicate_succ, List.replicate_zero, Nat.reduceSub, List.set_cons_zero, List.set_cons_succ, DL.with_arg, DL.with_own, DL.wipeD, List.map_cons, List.map_nil, DL.toArg, DL.back2, DL.back2a, DL.back, DL.back1]); rfl); done)))
        · (repeat' (first | with_reducible apply DL.s_setI | with_reducible apply DL.s_app | with_reducible apply DL.s_ext | (with_reducible apply DL.m_arg; rfl) | (with_reducible apply DL.m_own; rfl) | (with_reducible apply DL.f_set; rfl; focus ((try simp only [List.cons_append, List.nil_append, List.replicate_succ, List.replicate_zero, Nat.reduceSub, List.set_cons_zero, List.set_cons_succ, DL.with_arg, DL.with_own, DL.wipeD, List.map_cons, List.map_nil, DL.toArg, DL.back2, DL.back2a, DL.back, DL.back1]); rfl)) | with_reducible apply DL.f_app | with_reducible apply DL.f_ext | (with_reducible apply DL.set_goal; focus ((try simp only [List.cons_append, List.nil_append, List.replicate_succ, List.replicate_zero, Nat.reduceSub, List.set_cons_zero, List.set_cons_succ, DL.with_arg, DL.with_own, DL.wipeD, List.map_cons, List.map_nil, DL.toArg, DL.back2, DL.back2a, DL.back, DL.back1]); rfl)) | with_reducible apply DL.s_seqG | with_reducible apply DL.step_b | with_reducible apply DL.k_nx | with_reducible exact DL.k_rt | with_reducible exact DL.k_ct | with_reducible exact DL.k_bk | with_reducible apply DL.s_asgG | with_reducible apply DL.s_asg | with_reducible apply DL.s_drop | with_reducible apply DL.s_ret | with_reducible apply DL.s_if | with_reducible exact DL.s_skip | (with_reducible apply DL.f_eq; (first | rfl | assumption); (first | rfl | assumption)) | (with_reducible apply DL.f_ne; (first | rfl | assumption); (first | rfl | assumption)) | with_reducible apply DL.f_addT | (with_reducible apply DL.f_ixT; assumption) | (with_reducible apply DL.f_ixL; assumption) | with_reducible apply DL.f_addL | with_reducible apply DL.s_par | with_reducible apply DL.s_for | with_reducible apply DL.i_it | with_reducible apply DL.i_r1 | with_reducible apply DL.r_lc | with_reducible apply DL.r_lc2 | with_reducible apply DL.i_enumT | with_reducible exact DL.t_yes | with_reducible apply DL.turn_e | with_reducible apply DL.g_tup | with_reducible apply DL.g_lst | with_reducible apply DL.g_cons | with_reducible exact DL.g_nil | with_reducible apply DL.g_n | (with_reducible apply DL.set_fz; rfl; focus ((try simp only [List.cons_append, List.nil_append, List.replicate_succ, List.replicate_zero, Nat.reduceSub, List.set_cons_zero, List.set_cons_succ, DL.with_arg, DL.with_own, DL.wipeD, List.map_cons, List.map_nil, DL.toArg, DL.back2, DL.back2a, DL.back, DL.back1]); rfl)) | (with_reducible apply DL.set_own; rfl; focus ((try simp only [List.cons_append, List.nil_append, List.replicate_succ, List.replicate_zero, Nat.reduceSub, List.set_cons_zero, List.set_cons_succ, DL.with_arg, DL.with_own, DL.wipeD, List.map_cons, List.map_nil, DL.toArg, DL.back2, DL.back2a, DL.back, DL.back1]); rfl)) | (with_reducible apply DL.p_t; (first | rfl | focus (simp [*]; done) | assumption)) | (with_reducible apply DL.p_f; (first | rfl | focus (simp [*]; done) | assumption)) | (with_reducible apply DL.v_fz; rfl) | (with_reducible apply DL.v_own; rfl) | (with_reducible apply DL.v_arg; rfl) | with_reducible exact DL.r_c | with_reducible apply DL.r_andB | with_reducible apply DL.r_bin | with_reducible apply DL.r_un | with_reducible apply DL.r_test | with_reducible apply DL.r_notV | with_reducible apply DL.r_and | with_reducible apply DL.r_or | with_reducible apply DL.r_not | with_reducible apply DL.r_if | with_reducible apply DL.r_chainB | with_reducible exact DL.l_nil | with_reducible apply DL.l_cons | with_reducible apply DL.r_tup | with_reducible apply DL.r_lst | with_reducible apply DL.o_some | with_reducible exact DL.o_none | with_reducible apply DL.r_sl | with_reducible exact DL.a_nil | with_reducible apply DL.a_val | with_reducible apply DL.a_ref | (with_reducible apply DL.small_of; focus (first | omega | (simp <;> omega))) | with_reducible apply DL.r_callR | with_reducible apply DL.r_call | (first | exact e_is_row_of _ _ | exact e_is_row _ | exact e_is_below _ _ | exact e_is_whole _ | assumption) | (with_reducible apply DL.f_mod; (first | assumption | omega | focus (simp; omega))) | (with_reducible apply DL.f_div; (first | assumption | omega | focus (simp; omega))) | with_reducible apply DL.f_mulI | (with_reducible apply DL.wide_lt; (first | assumption | omega | focus (simp; omega))) | rfl | (focus ((try simp only [List.cons_append, List.nil_append, List.replicate_succ, List.replicate_zero, Nat.reduceSub, List.set_cons_zero, List.set_cons_succ, DL.with_arg, DL.with_own, DL.wipeD, List.map_cons, List.map_nil, DL.toArg, DL.back2, DL.back2a, DL.back, DL.back1]); rfl); done)))
        · rfl
        · rfl
      · have e1 : (PyData.int l.1).eqv (PyData.int pl) = decide (l.1 = pl) := rfl
        have e2 : (PyData.int l.2.1).eqv (PyData.int pl) = decide (l.2.1 = pl) := rfl
        rw [e1, e2]
        unfold endAt encE
        by_cases h1 : l.1 = pl <;> by_cases h2 : l.2.1 = pl <;> simp [h1, h2]
    · rfl
  have hs : small ((endsOf ls pl).map encE).length = true := small_of (by have := endsOf_len ls pl; rw [List.length_map]; omega)
  have fl : ((List.range ls.length).zip ls).flatMap (fun q => (endAt pl q.1 q.2).map encE) = (endsOf ls pl).map encE := by
    unfold endsOf
    rw [List.map_flatMap]
  unfold d_ends_of
  apply run_o rfl
  · focus ((try simp only [List.cons_append, List.nil_append, List.replicate_succ, List.replicate_zero, Nat.reduceSub, List.set_cons_zero, List.set_cons_succ, DL.with_arg, DL.with_own, DL.wipeD, List.map_cons, List.map_nil, DL.toArg, DL.back2, DL.back2a, DL.back, DL.back1]); rfl)
  · unfold sd_ends_of
    apply s_ret
    apply r_lc2
    · (repeat' (first | with_reducible apply DL.s_setI | with_reducible apply DL.s_app | with_reducible apply DL.s_ext | (with_reducible apply DL.m_arg; rfl) | (with_reducible apply DL.m_own; rfl) | (with_reducible apply DL.f_set; rfl; focus ((try simp only [List.cons_append, List.nil_append, List.replicate_succ, List.replicate_zero, Nat.reduceSub, List.set_cons_zero, List.set_cons_succ, DL.with_arg, DL.with_own, DL.wipeD, List.map_cons, List.map_nil, DL.toArg, DL.back2, DL.back2a, DL.back, DL.back1]); rfl)) | with_reducible apply DL.f_app | with_reducible apply DL.f_ext | (with_reducible apply DL.set_goal; focus ((try simp only [List.cons_append, List.nil_append, List.replicate_succ, List.replicate_zero, Nat.reduceSub, List.set_cons_zero, List.set_cons_succ, DL.with_arg, DL.with_own, DL.wipeD, List.map_cons, List.map_nil, DL.toArg, DL.back2, DL.back2a, DL.back, DL.back1]); rfl)) | with_reducible apply DL.s_seqG | with_reducible apply DL.step_b | with_reducible apply DL.k_nx | with_reducible exact DL.k_rt | with_reducible exact DL.k_ct | with_reducible exact DL.k_bk | with_reducible apply DL.s_asgG | with_reducible apply DL.s_asg | with_reducible apply DL.s_drop | with_reducible apply DL.s_ret | with_reducible apply DL.s_if | with_reducible exact DL.s_skip | (with_reducible apply DL.f_eq; (first | rfl | assumption); (first | rfl | assumption)) | (with_reducible apply DL.f_ne; (first | rfl | assumption); (first | rfl | assumption)) | with_reducible apply DL.f_addT | (with_reducible apply DL.f_ixT; assumption) | (with_reducible apply DL.f_ixL; assumption) | with_reducible apply DL.f_addL | with_reducible apply DL.s_par | with_reducible apply DL.s_for | with_reducible apply DL.i_it | with_reducible apply DL.i_r1 | with_reducible apply DL.r_lc | with_reducible apply DL.r_lc2 | with_reducible apply DL.i_enumT | with_reducible exact DL.t_yes | with_reducible apply DL.turn_e | with_reducible apply DL.g_tup | with_reducible apply DL.g_lst | with_reducible apply DL.g_cons | with_reducible exact DL.g_nil | with_reducible apply DL.g_n | (with_reducible apply DL.set_fz; rfl; focus ((try simp only [List.cons_append, List.nil_append, List.replicate_succ, List.replicate_zero, Nat.reduceSub, List.set_cons_zero, List.set_cons_succ, DL.with_arg, DL.with_own, DL.wipeD, List.map_cons, List.map_nil, DL.toArg, DL.back2, DL.back2a, DL.back, DL.back1]); rfl)) | (with_reducible apply DL.set_own; rfl; focus ((try simp only [List.cons_append, List.nil_append, List.replicate_succ, List.replicate_zero, Nat.reduceSub, List.set_cons_zero, List.set_cons_succ, DL.with_arg, DL.with_own, DL.wipeD, List.map_cons, List.map_nil, DL.toArg, DL.back2, DL.back2a, DL.back, DL.back1]); rfl)) | (with_reducible apply DL.p_t; (first | rfl | focus (simp [*]; done) | assumption)) | (with_reducible apply DL.p_f; (first | rfl | focus (simp [*]; done) | assumption)) | (with_reducible apply DL.v_fz; rfl) | (with_reducible apply DL.v_own; rfl) | (with_reducible apply DL.v_arg; rfl) | with_reducible exact DL.r_c | with_reducible apply DL.r_andB | with_reducible apply DL.r_bin | with_reducible apply DL.r_un | with_reducible apply DL.r_test | with_reducible apply DL.r_notV | with_reducible apply DL.r_and | with_reducible apply DL.r_or | with_reducible apply DL.r_not | with_reducible apply DL.r_if | with_reducible apply DL.r_chainB | with_reducible exact DL.l_nil | with_reducible apply DL.l_cons | with_reducible apply DL.r_tup | with_reducible apply DL.r_lst | with_reducible apply DL.o_some | with_reducible exact DL.o_none | with_reducible apply DL.r_sl | with_reducible exact DL.a_nil | with_reducible apply DL.a_val | with_reducible apply DL.a_ref | (with_reducible apply DL.small_of; focus (first | omega | (simp <;> omega))) | with_reducible apply DL.r_callR | with_reducible apply DL.r_call | (first | exact e_is_row_of _ _ | exact e_is_row _ | exact e_is_below _ _ | exact e_is_whole _ | assumption) | (with_reducible apply DL.f_mod; (first | assumption | omega | focus (simp; omega))) | (with_reducible apply DL.f_div; (first | assumption | omega | focus (simp; omega))) | with_reducible apply DL.f_mulI | (with_reducible apply DL.wide_lt; (first | assumption | omega | focus (simp; omega))) | rfl | (focus ((try simp only [List.cons_append, List.nil_append, List.replicate_succ, List.replicate_zero, Nat.reduceSub, List.set_cons_zero, List.set_cons_succ, DL.with_arg, DL.with_own, DL.wipeD, List.map_cons, List.map_nil, DL.toArg, DL.back2, DL.back2a, DL.back, DL.back1]); rfl); done)))
    · rfl
    · rw [enumD_map]
      exact comp_flat (φ := fun q : Nat × Ln => (endAt pl q.1 q.2).map encE) _ fun q _ => main q.1 q.2
    · rw [fl]
      exact hs
  · rw [fl]
  · rfl
theorem e_ends_at (p : Int) (ls : List Ln) (pl : Int) (h : OkW p ls) (h0 : 0 ≤ pl) (h1 : pl < p) : d_ends_at [.fz (encW p ls), .fz (.int pl)] = .ok (.own (.lst ((endsOf ls pl).map encE))) [.no, .no] := by
  have c1 := e_checked_web p ls h
  have c2 := e_check_place p pl h0 h1
  have c3 := e_ends_of ls pl h.ln
  unfold d_ends_at
  apply run_o rfl
  · focus ((try simp only [List.cons_append, List.nil_append, List.replicate_succ, List.replicate_zero, Nat.reduceSub, List.set_cons_zero, List.set_cons_succ, DL.with_arg, DL.with_own, DL.wipeD, List.map_cons, List.map_nil, DL.toArg, DL.back2, DL.back2a, DL.back, DL.back1]); rfl)
  · unfold sd_ends_at
    (repeat' (first | with_reducible apply DL.s_setI | with_reducible apply DL.s_app | with_reducible apply DL.s_ext | (with_reducible apply DL.m_arg; rfl) | (with_reducible apply DL.m_own; rfl) | (with_reducible apply DL.f_set; rfl; focus ((try simp only [List.cons_append, List.nil_append, List.replicate_succ, List.replicate_zero, Nat.reduceSub, List.set_cons_zero, List.set_cons_succ, DL.with_arg, DL.with_own, DL.wipeD, List.map_cons, List.map_nil, DL.toArg, DL.back2, DL.back2a, DL.back, DL.back1]); rfl)) | with_reducible apply DL.f_app | with_reducible apply DL.f_ext | (with_reducible apply DL.set_goal; focus ((try simp only [List.cons_append, List.nil_append, List.replicate_succ, List.replicate_zero, Nat.reduceSub, List.set_cons_zero, List.set_cons_succ, DL.with_arg, DL.with_own, DL.wipeD, List.map_cons, List.map_nil, DL.toArg, DL.back2, DL.back2a, DL.back, DL.back1]); rfl)) | with_reducible apply DL.s_seqG | with_reducible apply DL.step_b | with_reducible apply DL.k_nx | with_reducible exact DL.k_rt | with_reducible exact DL.k_ct | with_reducible exact DL.k_bk | with_reducible apply DL.s_asgG | with_reducible apply DL.s_asg | with_reducible apply DL.s_drop | with_reducible apply DL.s_ret | with_reducible apply DL.s_if | with_reducible exact DL.s_skip | (with_reducible apply DL.f_eq; (first | rfl | assumption); (first | rfl | assumption)) | (with_reducible apply DL.f_ne; (first | rfl | assumption); (first | rfl | assumption)) | with_reducible apply DL.f_addT | (with_reducible apply DL.f_ixT; assumption) | (with_reducible apply DL.f_ixL; assumption) | with_reducible apply DL.f_addL | with_reducible apply DL.s_par | with_reducible apply DL.s_for | with_reducible apply DL.i_it | with_reducible apply DL.i_r1 | with_reducible apply DL.r_lc | with_reducible apply DL.r_lc2 | with_reducible apply DL.i_enumT | with_reducible exact DL.t_yes | with_reducible apply DL.turn_e | with_reducible apply DL.g_tup | with_reducible apply DL.g_lst | with_reducible apply DL.g_cons | with_reducible exact DL.g_nil | with_reducible apply DL.g_n | (with_reducible apply DL.set_fz; rfl; focus ((try simp only [List.cons_append, List.nil_append, List.replicate_succ, List.replicate_zero, Nat.reduceSub, List.set_cons_zero, List.set_cons_succ, DL.with_arg, DL.with_own, DL.wipeD, List.map_cons, List.map_nil, DL.toArg, DL.back2, DL.back2a, DL.back, DL.back1]); rfl)) | (with_reducible apply DL.set_own; rfl; focus ((try simp only [List.cons_append, List.nil_append, List.replicate_succ, List.replicate_zero, Nat.reduceSub, List.set_cons_zero, List.set_cons_succ, DL.with_arg, DL.with_own, DL.wipeD, List.map_cons, List.map_nil, DL.toArg, DL.back2, DL.back2a, DL.back, DL.back1]); rfl)) | (with_reducible apply DL.p_t; (first | rfl | focus (simp [*]; done) | assumption)) | (with_reducible apply DL.p_f; (first | rfl | focus (simp [*]; done) | assumption)) | (with_reducible apply DL.v_fz; rfl) | (with_reducible apply DL.v_own; rfl) | (with_reducible apply DL.v_arg; rfl) | with_reducible exact DL.r_c | with_reducible apply DL.r_andB | with_reducible apply DL.r_bin | with_reducible apply DL.r_un | with_reducible apply DL.r_test | with_reducible apply DL.r_notV | with_reducible apply DL.r_and | with_reducible apply DL.r_or | with_reducible apply DL.r_not | with_reducible apply DL.r_if | with_reducible apply DL.r_chainB | with_reducible exact DL.l_nil | with_reducible apply DL.l_cons | with_reducible apply DL.r_tup | with_reducible apply DL.r_lst | with_reducible apply DL.o_some | with_reducible exact DL.o_none | with_reducible apply DL.r_sl | with_reducible exact DL.a_nil | with_reducible apply DL.a_val | with_reducible apply DL.a_ref | (with_reducible apply DL.small_of; focus (first | omega | (simp <;> omega))) | with_reducible apply DL.r_callR | with_reducible apply DL.r_call | (first | exact e_is_row_of _ _ | exact e_is_row _ | exact e_is_below _ _ | exact e_is_whole _ | assumption) | (with_reducible apply DL.f_mod; (first | assumption | omega | focus (simp; omega))) | (with_reducible apply DL.f_div; (first | assumption | omega | focus (simp; omega))) | with_reducible apply DL.f_mulI | (with_reducible apply DL.wide_lt; (first | assumption | omega | focus (simp; omega))) | rfl | (focus ((try simp only [List.cons_append, List.nil_append, List.replicate_succ, List.replicate_zero, Nat.reduceSub, List.set_cons_zero, List.set_cons_succ, DL.with_arg, DL.with_own, DL.wipeD, List.map_cons, List.map_nil, DL.toArg, DL.back2, DL.back2a, DL.back, DL.back1]); rfl); done)))
  all_goals rfl
theorem e_with_line (p : Int) (ls : List Ln) (a b : Int) (c : Nat) (h : OkW p ls) (h0 : 0 ≤ a) (h1 : a < p) (h2 : 0 ≤ b) (h3 : b < p) (h4 : okC c) : d_with_line [.fz (encW p ls), .fz (.int a), .fz (.int b), .fz (.str ⟨#[c]⟩)] = .ok (.fz (encW p (ls ++ [(a, b, c)]))) [.no, .no, .no, .no] := by
  have c1 := e_checked_web p ls h
  have c2 := e_check_place p a h0 h1
  have c3 := e_check_place p b h2 h3
  have c4 := e_check_company c h4
  have hs : small ((ls.map encL).length + 1) = true := small_of (by have := h.ln; rw [List.length_map]; omega)
  unfold d_with_line
  apply run_v rfl
  · focus ((try simp only [List.cons_append, List.nil_append, List.replicate_succ, List.replicate_zero, Nat.reduceSub, List.set_cons_zero, List.set_cons_succ, DL.with_arg, DL.with_own, DL.wipeD, List.map_cons, List.map_nil, DL.toArg, DL.back2, DL.back2a, DL.back, DL.back1]); rfl)
  · unfold sd_with_line
    (repeat' (first | with_reducible apply DL.s_setI | with_reducible apply DL.s_app | with_reducible apply DL.s_ext | (with_reducible apply DL.m_arg; rfl) | (with_reducible apply DL.m_own; rfl) | (with_reducible apply DL.f_set; rfl; focus ((try simp only [List.cons_append, List.nil_append, List.replicate_succ, List.replicate_zero, Nat.reduceSub, List.set_cons_zero, List.set_cons_succ, DL.with_arg, DL.with_own, DL.wipeD, List.map_cons, List.map_nil, DL.toArg, DL.back2, DL.back2a, DL.back, DL.back1]); rfl)) | with_reducible apply DL.f_app | with_reducible apply DL.f_ext | (with_reducible apply DL.set_goal; focus ((try simp only [List.cons_append, List.nil_append, List.replicate_succ, List.replicate_zero, Nat.reduceSub, List.set_cons_zero, List.set_cons_succ, DL.with_arg, DL.with_own, DL.wipeD, List.map_cons, List.map_nil, DL.toArg, DL.back2, DL.back2a, DL.back, DL.back1]); rfl)) | with_reducible apply DL.s_seqG | with_reducible apply DL.step_b | with_reducible apply DL.k_nx | with_reducible exact DL.k_rt | with_reducible exact DL.k_ct | with_reducible exact DL.k_bk | with_reducible apply DL.s_asgG | with_reducible apply DL.s_asg | with_reducible apply DL.s_drop | with_reducible apply DL.s_ret | with_reducible apply DL.s_if | with_reducible exact DL.s_skip | (with_reducible apply DL.f_eq; (first | rfl | assumption); (first | rfl | assumption)) | (with_reducible apply DL.f_ne; (first | rfl | assumption); (first | rfl | assumption)) | with_reducible apply DL.f_addT | (with_reducible apply DL.f_ixT; assumption) | (with_reducible apply DL.f_ixL; assumption) | with_reducible apply DL.f_addL | with_reducible apply DL.s_par | with_reducible apply DL.s_for | with_reducible apply DL.i_it | with_reducible apply DL.i_r1 | with_reducible apply DL.r_lc | with_reducible apply DL.r_lc2 | with_reducible apply DL.i_enumT | with_reducible exact DL.t_yes | with_reducible apply DL.turn_e | with_reducible apply DL.g_tup | with_reducible apply DL.g_lst | with_reducible apply DL.g_cons | with_reducible exact DL.g_nil | with_reducible apply DL.g_n | (with_reducible apply DL.set_fz; rfl; focus ((try simp only [List.cons_append, List.nil_append, List.replicate_succ, List.replicate_zero, Nat.reduceSub, List.set_cons_zero, List.set_cons_succ, DL.with_arg, DL.with_own, DL.wipeD, List.map_cons, List.map_nil, DL.toArg, DL.back2, DL.back2a, DL.back, DL.back1]); rfl)) | (with_reducible apply DL.set_own; rfl; focus ((try simp only [List.cons_append, List.nil_append, List.replicate_succ, List.replicate_zero, Nat.reduceSub, List.set_cons_zero, List.set_cons_succ, DL.with_arg, DL.with_own, DL.wipeD, List.map_cons, List.map_nil, DL.toArg, DL.back2, DL.back2a, DL.back, DL.back1]); rfl)) | (with_reducible apply DL.p_t; (first | rfl | focus (simp [*]; done) | assumption)) | (with_reducible apply DL.p_f; (first | rfl | focus (simp [*]; done) | assumption)) | (with_reducible apply DL.v_fz; rfl) | (with_reducible apply DL.v_own; rfl) | (with_reducible apply DL.v_arg; rfl) | with_reducible exact DL.r_c | with_reducible apply DL.r_andB | with_reducible apply DL.r_bin | with_reducible apply DL.r_un | with_reducible apply DL.r_test | with_reducible apply DL.r_notV | with_reducible apply DL.r_and | with_reducible apply DL.r_or | with_reducible apply DL.r_not | with_reducible apply DL.r_if | with_reducible apply DL.r_chainB | with_reducible exact DL.l_nil | with_reducible apply DL.l_cons | with_reducible apply DL.r_tup | with_reducible apply DL.r_lst | with_reducible apply DL.o_some | with_reducible exact DL.o_none | with_reducible apply DL.r_sl | with_reducible exact DL.a_nil | with_reducible apply DL.a_val | with_reducible apply DL.a_ref | (with_reducible apply DL.small_of; focus (first | omega | (simp <;> omega))) | with_reducible apply DL.r_callR | with_reducible apply DL.r_call | (first | exact e_is_row_of _ _ | exact e_is_row _ | exact e_is_below _ _ | exact e_is_whole _ | assumption) | (with_reducible apply DL.f_mod; (first | assumption | omega | focus (simp; omega))) | (with_reducible apply DL.f_div; (first | assumption | omega | focus (simp; omega))) | with_reducible apply DL.f_mulI | (with_reducible apply DL.wide_lt; (first | assumption | omega | focus (simp; omega))) | rfl | (focus ((try simp only [List.cons_append, List.nil_append, List.replicate_succ, List.replicate_zero, Nat.reduceSub, List.set_cons_zero, List.set_cons_succ, DL.with_arg, DL.with_own, DL.wipeD, List.map_cons, List.map_nil, DL.toArg, DL.back2, DL.back2a, DL.back, DL.back1]); rfl); done)))
  · show PyData.tuple [.int p, .tuple (ls.map encL ++ [encL (a, b, c)])] = _
    unfold encW
    rw [List.map_append]
    rfl
  · rfl
theorem cut_lo {α : Type} (xs : List α) (n : Nat) : cutL xs none (some (n : Int)) = xs.take n := by
  unfold cutL
  rw [HT.sIx_none, HT.sIx_nat, List.drop_zero, Nat.sub_zero, Nat.min_def]
  split
  · rfl
  · rw [List.take_of_length_le (Nat.le_refl _), List.take_of_length_le (by omega)]
theorem cut_hi {α : Type} (xs : List α) (n : Nat) : cutL xs (some (n : Int)) none = xs.drop n := by
  unfold cutL
  rw [HT.sIx_none, HT.sIx_nat, Nat.min_def]
  split
  · rw [List.take_of_length_le (by simp)]
  · rw [List.drop_of_length_le (Nat.le_refl _), List.drop_of_length_le (by omega)]
    simp
theorem e_replaced (xs : List D) (n : Nat) (x : D) (hl : xs.length ≤ 1000) (hn : n < xs.length) : d_replaced [.fz (.tuple xs), .fz (.int n), .fz x] = .ok (.fz (.tuple (xs.set n x))) [.no, .no, .no] := by
  have hs : ∀ a b, (cutL xs a b).length ≤ 1000 := fun a b => by
    unfold cutL
    rw [List.length_take, List.length_drop]
    omega
  have hs1 := hs none (some (n : Int))
  have hs2 := hs (some ((n : Int) + 1)) none
  unfold d_replaced
  apply run_v rfl
  · focus ((try simp only [List.cons_append, List.nil_append, List.replicate_succ, List.replicate_zero, Nat.reduceSub, List.set_cons_zero, List.set_cons_succ, DL.with_arg, DL.with_own, DL.wipeD, List.map_cons, List.map_nil, DL.toArg, DL.back2, DL.back2a, DL.back, DL.back1]); rfl)
  · unfold sd_replaced
    (repeat' (first | with_reducible apply DL.s_setI | with_reducible apply DL.s_app | with_reducible apply DL.s_ext | (with_reducible apply DL.m_arg; rfl) | (with_reducible apply DL.m_own; rfl) | (with_reducible apply DL.f_set; rfl; focus ((try simp only [List.cons_append, List.nil_append, List.replicate_succ, List.replicate_zero, Nat.reduceSub, List.set_cons_zero, List.set_cons_succ, DL.with_arg, DL.with_own, DL.wipeD, List.map_cons, List.map_nil, DL.toArg, DL.back2, DL.back2a, DL.back, DL.back1]); rfl)) | with_reducible apply DL.f_app | with_reducible apply DL.f_ext | (with_reducible apply DL.set_goal; focus ((try simp only [List.cons_append, List.nil_append, List.replicate_succ, List.replicate_zero, Nat.reduceSub, List.set_cons_zero, List.set_cons_succ, DL.with_arg, DL.with_own, DL.wipeD, List.map_cons, List.map_nil, DL.toArg, DL.back2, DL.back2a, DL.back, DL.back1]); rfl)) | with_reducible apply DL.s_seqG | with_reducible apply DL.step_b | with_reducible apply DL.k_nx | with_reducible exact DL.k_rt | with_reducible exact DL.k_ct | with_reducible exact DL.k_bk | with_reducible apply DL.s_asgG | with_reducible apply DL.s_asg | with_reducible apply DL.s_drop | with_reducible apply DL.s_ret | with_reducible apply DL.s_if | with_reducible exact DL.s_skip | (with_reducible apply DL.f_eq; (first | rfl | assumption); (first | rfl | assumption)) | (with_reducible apply DL.f_ne; (first | rfl | assumption); (first | rfl | assumption)) | with_reducible apply DL.f_addT | (with_reducible apply DL.f_ixT; assumption) | (with_reducible apply DL.f_ixL; assumption) | with_reducible apply DL.f_addL | with_reducible apply DL.s_par | with_reducible apply DL.s_for | with_reducible apply DL.i_it | with_reducible apply DL.i_r1 | with_reducible apply DL.r_lc | with_reducible apply DL.r_lc2 | with_reducible apply DL.i_enumT | with_reducible exact DL.t_yes | with_reducible apply DL.turn_e | with_reducible apply DL.g_tup | with_reducible apply DL.g_lst | with_reducible apply DL.g_cons | with_reducible exact DL.g_nil | with_reducible apply DL.g_n | (with_reducible apply DL.set_fz; rfl; focus ((try simp only [List.cons_append, List.nil_append, List.replicate_succ, List.replicate_zero, Nat.reduceSub, List.set_cons_zero, List.set_cons_succ, DL.with_arg, DL.with_own, DL.wipeD, List.map_cons, List.map_nil, DL.toArg, DL.back2, DL.back2a, DL.back, DL.back1]); rfl)) | (with_reducible apply DL.set_own; rfl; focus ((try simp only [List.cons_append, List.nil_append, List.replicate_succ, List.replicate_zero, Nat.reduceSub, List.set_cons_zero, List.set_cons_succ, DL.with_arg, DL.with_own, DL.wipeD, List.map_cons, List.map_nil, DL.toArg, DL.back2, DL.back2a, DL.back, DL.back1]); rfl)) | (with_reducible apply DL.p_t; (first | rfl | focus (simp [*]; done) | assumption)) | (with_reducible apply DL.p_f; (first | rfl | focus (simp [*]; done) | assumption)) | (with_reducible apply DL.v_fz; rfl) | (with_reducible apply DL.v_own; rfl) | (with_reducible apply DL.v_arg; rfl) | with_reducible exact DL.r_c | with_reducible apply DL.r_andB | with_reducible apply DL.r_bin | with_reducible apply DL.r_un | with_reducible apply DL.r_test | with_reducible apply DL.r_notV | with_reducible apply DL.r_and | with_reducible apply DL.r_or | with_reducible apply DL.r_not | with_reducible apply DL.r_if | with_reducible apply DL.r_chainB | with_reducible exact DL.l_nil | with_reducible apply DL.l_cons | with_reducible apply DL.r_tup | with_reducible apply DL.r_lst | with_reducible apply DL.o_some | with_reducible exact DL.o_none | with_reducible apply DL.r_sl | with_reducible exact DL.a_nil | with_reducible apply DL.a_val | with_reducible apply DL.a_ref | (with_reducible apply DL.small_of; focus (first | omega | (simp <;> omega))) | with_reducible apply DL.r_callR | with_reducible apply DL.r_call | (first | exact e_is_row_of _ _ | exact e_is_row _ | exact e_is_below _ _ | exact e_is_whole _ | assumption) | (with_reducible apply DL.f_mod; (first | assumption | omega | focus (simp; omega))) | (with_reducible apply DL.f_div; (first | assumption | omega | focus (simp; omega))) | with_reducible apply DL.f_mulI | (with_reducible apply DL.wide_lt; (first | assumption | omega | focus (simp; omega))) | rfl | (focus ((try simp only [List.cons_append, List.nil_append, List.replicate_succ, List.replicate_zero, Nat.reduceSub, List.set_cons_zero, List.set_cons_succ, DL.with_arg, DL.with_own, DL.wipeD, List.map_cons, List.map_nil, DL.toArg, DL.back2, DL.back2a, DL.back, DL.back1]); rfl); done)))
  · rw [show ((n : Int) + 1) = ((n + 1 : Nat) : Int) from rfl, cut_lo, cut_hi]
    rw [List.set_eq_take_append_cons_drop, if_pos hn]
    simp
  · rfl
theorem at_enc {ls : List Ln} {n : Nat} {l : Ln} (h : ls[n]? = some l) : (ls.map encL)[n]? = some (encL l) := by
  rw [List.getElem?_map, h]
  rfl
theorem e_painted (p : Int) (ls : List Ln) (n : Nat) (l : Ln) (c : Nat) (h : OkW p ls) (hn : ls[n]? = some l) (hc : okC c) : d_painted [.fz (encW p ls), .fz (.int n), .fz (.str ⟨#[c]⟩)] = .ok (.fz (encW p (ls.set n (l.1, l.2.1, c)))) [.no, .no, .no] := by
  have hlt := (List.getElem?_eq_some_iff.mp hn).1
  have c1 := e_checked_web p ls h
  have c2 := e_check_line ls n (by omega) (by omega)
  have c3 := e_check_company c hc
  have hl := h.ln
  have c4 := e_replaced (ls.map encL) n (encL (l.1, l.2.1, c)) (by rw [List.length_map]; omega) (by rw [List.length_map]; omega)
  have hx := at_enc hn
  unfold d_painted
  apply run_v rfl
  · focus ((try simp only [List.cons_append, List.nil_append, List.replicate_succ, List.replicate_zero, Nat.reduceSub, List.set_cons_zero, List.set_cons_succ, DL.with_arg, DL.with_own, DL.wipeD, List.map_cons, List.map_nil, DL.toArg, DL.back2, DL.back2a, DL.back, DL.back1]); rfl)
  · unfold sd_painted
    (repeat' (first | with_reducible apply DL.s_setI | with_reducible apply DL.s_app | with_reducible apply DL.s_ext | (with_reducible apply DL.m_arg; rfl) | (with_reducible apply DL.m_own; rfl) | (with_reducible apply DL.f_set; rfl; focus ((try simp only [List.cons_append, List.nil_append, List.replicate_succ, List.replicate_zero, Nat.reduceSub, List.set_cons_zero, List.set_cons_succ, DL.with_arg, DL.with_own, DL.wipeD, List.map_cons, List.map_nil, DL.toArg, DL.back2, DL.back2a, DL.back, DL.back1]); rfl)) | with_reducible apply DL.f_app | with_reducible apply DL.f_ext | (with_reducible apply DL.set_goal; focus ((try simp only [List.cons_append, List.nil_append, List.replicate_succ, List.replicate_zero, Nat.reduceSub, List.set_cons_zero, List.set_cons_succ, DL.with_arg, DL.with_own, DL.wipeD, List.map_cons, List.map_nil, DL.toArg, DL.back2, DL.back2a, DL.back, DL.back1]); rfl)) | with_reducible apply DL.s_seqG | with_reducible apply DL.step_b | with_reducible apply DL.k_nx | with_reducible exact DL.k_rt | with_reducible exact DL.k_ct | with_reducible exact DL.k_bk | with_reducible apply DL.s_asgG | with_reducible apply DL.s_asg | with_reducible apply DL.s_drop | with_reducible apply DL.s_ret | with_reducible apply DL.s_if | with_reducible exact DL.s_skip | (with_reducible apply DL.f_eq; (first | rfl | assumption); (first | rfl | assumption)) | (with_reducible apply DL.f_ne; (first | rfl | assumption); (first | rfl | assumption)) | with_reducible apply DL.f_addT | (with_reducible apply DL.f_ixT; assumption) | (with_reducible apply DL.f_ixL; assumption) | with_reducible apply DL.f_addL | with_reducible apply DL.s_par | with_reducible apply DL.s_for | with_reducible apply DL.i_it | with_reducible apply DL.i_r1 | with_reducible apply DL.r_lc | with_reducible apply DL.r_lc2 | with_reducible apply DL.i_enumT | with_reducible exact DL.t_yes | with_reducible apply DL.turn_e | with_reducible apply DL.g_tup | with_reducible apply DL.g_lst | with_reducible apply DL.g_cons | with_reducible exact DL.g_nil | with_reducible apply DL.g_n | (with_reducible apply DL.set_fz; rfl; focus ((try simp only [List.cons_append, List.nil_append, List.replicate_succ, List.replicate_zero, Nat.reduceSub, List.set_cons_zero, List.set_cons_succ, DL.with_arg, DL.with_own, DL.wipeD, List.map_cons, List.map_nil, DL.toArg, DL.back2, DL.back2a, DL.back, DL.back1]); rfl)) | (with_reducible apply DL.set_own; rfl; focus ((try simp only [List.cons_append, List.nil_append, List.replicate_succ, List.replicate_zero, Nat.reduceSub, List.set_cons_zero, List.set_cons_succ, DL.with_arg, DL.with_own, DL.wipeD, List.map_cons, List.map_nil, DL.toArg, DL.back2, DL.back2a, DL.back, DL.back1]); rfl)) | (with_reducible apply DL.p_t; (first | rfl | focus (simp [*]; done) | assumption)) | (with_reducible apply DL.p_f; (first | rfl | focus (simp [*]; done) | assumption)) | (with_reducible apply DL.v_fz; rfl) | (with_reducible apply DL.v_own; rfl) | (with_reducible apply DL.v_arg; rfl) | with_reducible exact DL.r_c | with_reducible apply DL.r_andB | with_reducible apply DL.r_bin | with_reducible apply DL.r_un | with_reducible apply DL.r_test | with_reducible apply DL.r_notV | with_reducible apply DL.r_and | with_reducible apply DL.r_or | with_reducible apply DL.r_not | with_reducible apply DL.r_if | with_reducible apply DL.r_chainB | with_reducible exact DL.l_nil | with_reducible apply DL.l_cons | with_reducible apply DL.r_tup | with_reducible apply DL.r_lst | with_reducible apply DL.o_some | with_reducible exact DL.o_none | with_reducible apply DL.r_sl | with_reducible exact DL.a_nil | with_reducible apply DL.a_val | with_reducible apply DL.a_ref | (with_reducible apply DL.small_of; focus (first | omega | (simp <;> omega))) | with_reducible apply DL.r_callR | with_reducible apply DL.r_call | (first | exact e_is_row_of _ _ | exact e_is_row _ | exact e_is_below _ _ | exact e_is_whole _ | assumption) | (with_reducible apply DL.f_mod; (first | assumption | omega | focus (simp; omega))) | (with_reducible apply DL.f_div; (first | assumption | omega | focus (simp; omega))) | with_reducible apply DL.f_mulI | (with_reducible apply DL.wide_lt; (first | assumption | omega | focus (simp; omega))) | rfl | (focus ((try simp only [List.cons_append, List.nil_append, List.replicate_succ, List.replicate_zero, Nat.reduceSub, List.set_cons_zero, List.set_cons_succ, DL.with_arg, DL.with_own, DL.wipeD, List.map_cons, List.map_nil, DL.toArg, DL.back2, DL.back2a, DL.back, DL.back1]); rfl); done)))
  · unfold encW
    rw [List.map_set]
  · rfl
theorem eqv_ch (a b : Nat) : (PyData.str ⟨#[a]⟩).eqv (.str ⟨#[b]⟩) = decide (a = b) := by
  show ((⟨#[a]⟩ : Str) == ⟨#[b]⟩) = _
  by_cases h : a = b
  · subst h; simp
  · simp [h]
def mergeL (c c' : Nat) (l : Ln) : Ln := (l.1, l.2.1, if l.2.2 = c then c' else l.2.2)
theorem e_merged (p : Int) (ls : List Ln) (c c' : Nat) (h : OkW p ls) (hc : okC c) (hc' : okC c') : d_merged [.fz (encW p ls), .fz (.str ⟨#[c]⟩), .fz (.str ⟨#[c']⟩)] = .ok (.fz (encW p (ls.map (mergeL c c')))) [.no, .no, .no] := by
  have c1 := e_checked_web p ls h
  have c2 := e_check_company c hc
  have c3 := e_check_company c' hc'
  have hl := h.ln
  unfold d_merged
  apply run_v rfl
  · focus ((try simp only [List.cons_append, List.nil_append, List.replicate_succ, List.replicate_zero, Nat.reduceSub, List.set_cons_zero, List.set_cons_succ, DL.with_arg, DL.with_own, DL.wipeD, List.map_cons, List.map_nil, DL.toArg, DL.back2, DL.back2a, DL.back, DL.back1]); rfl)
  · unfold sd_merged
    (repeat' (first | with_reducible apply DL.s_setI | with_reducible apply DL.s_app | with_reducible apply DL.s_ext | (with_reducible apply DL.m_arg; rfl) | (with_reducible apply DL.m_own; rfl) | (with_reducible apply DL.f_set; rfl; focus ((try simp only [List.cons_append, List.nil_append, List.replicate_succ, List.replicate_zero, Nat.reduceSub, List.set_cons_zero, List.set_cons_succ, DL.with_arg, DL.with_own, DL.wipeD, List.map_cons, List.map_nil, DL.toArg, DL.back2, DL.back2a, DL.back, DL.back1]); rfl)) | with_reducible apply DL.f_app | with_reducible apply DL.f_ext | (with_reducible apply DL.set_goal; focus ((try simp only [List.cons_append, List.nil_append, List.replicate_succ, List.replicate_zero, Nat.reduceSub, List.set_cons_zero, List.set_cons_succ, DL.with_arg, DL.with_own, DL.wipeD, List.map_cons, List.map_nil, DL.toArg, DL.back2, DL.back2a, DL.back, DL.back1]); rfl)) | with_reducible apply DL.s_seqG | with_reducible apply DL.step_b | with_reducible apply DL.k_nx | with_reducible exact DL.k_rt | with_reducible exact DL.k_ct | with_reducible exact DL.k_bk | with_reducible apply DL.s_asgG | with_reducible apply DL.s_asg | with_reducible apply DL.s_drop | with_reducible apply DL.s_ret | with_reducible apply DL.s_if | with_reducible exact DL.s_skip | (with_reducible apply DL.f_eq; (first | rfl | assumption); (first | rfl | assumption)) | (with_reducible apply DL.f_ne; (first | rfl | assumption); (first | rfl | assumption)) | with_reducible apply DL.f_addT | (with_reducible apply DL.f_ixT; assumption) | (with_reducible apply DL.f_ixL; assumption) | with_reducible apply DL.f_addL | with_reducible apply DL.s_par | with_reducible apply DL.s_for | with_reducible apply DL.i_it | with_reducible apply DL.i_r1 | with_reducible apply DL.r_lc | with_reducible apply DL.r_lc2 | with_reducible apply DL.i_enumT | with_reducible exact DL.t_yes | with_reducible apply DL.turn_e | with_reducible apply DL.g_tup | with_reducible apply DL.g_lst | with_reducible apply DL.g_cons | with_reducible exact DL.g_nil | with_reducible apply DL.g_n | (with_reducible apply DL.set_fz; rfl; focus ((try simp only [List.cons_append, List.nil_append, List.replicate_succ, List.replicate_zero, Nat.reduceSub, List.set_cons_zero, List.set_cons_succ, DL.with_arg, DL.with_own, DL.wipeD, List.map_cons, List.map_nil, DL.toArg, DL.back2, DL.back2a, DL.back, DL.back1]); rfl)) | (with_reducible apply DL.set_own; rfl; focus ((try simp only [List.cons_append, List.nil_append, List.replicate_succ, List.replicate_zero, Nat.reduceSub, List.set_cons_zero, List.set_cons_succ, DL.with_arg, DL.with_own, DL.wipeD, List.map_cons, List.map_nil, DL.toArg, DL.back2, DL.back2a, DL.back, DL.back1]); rfl)) | (with_reducible apply DL.p_t; (first | rfl | focus (simp [*]; done) | assumption)) | (with_reducible apply DL.p_f; (first | rfl | focus (simp [*]; done) | assumption)) | (with_reducible apply DL.v_fz; rfl) | (with_reducible apply DL.v_own; rfl) | (with_reducible apply DL.v_arg; rfl) | with_reducible exact DL.r_c | with_reducible apply DL.r_andB | with_reducible apply DL.r_bin | with_reducible apply DL.r_un | with_reducible apply DL.r_test | with_reducible apply DL.r_notV | with_reducible apply DL.r_and | with_reducible apply DL.r_or | with_reducible apply DL.r_not | with_reducible apply DL.r_if | with_reducible apply DL.r_chainB | with_reducible exact DL.l_nil | with_reducible apply DL.l_cons | with_reducible apply DL.r_tup | with_reducible apply DL.r_lst | with_reducible apply DL.o_some | with_reducible exact DL.o_none | with_reducible apply DL.r_sl | with_reducible exact DL.a_nil | with_reducible apply DL.a_val | with_reducible apply DL.a_ref | (with_reducible apply DL.small_of; focus (first | omega | (simp <;> omega))) | with_reducible apply DL.r_callR | with_reducible apply DL.r_call | (first | exact e_is_row_of _ _ | exact e_is_row _ | exact e_is_below _ _ | exact e_is_whole _ | assumption) | (with_reducible apply DL.f_mod; (first | assumption | omega | focus (simp; omega))) | (with_reducible apply DL.f_div; (first | assumption | omega | focus (simp; omega))) | with_reducible apply DL.f_mulI | (with_reducible apply DL.wide_lt; (first | assumption | omega | focus (simp; omega))) | rfl | (focus ((try simp only [List.cons_append, List.nil_append, List.replicate_succ, List.replicate_zero, Nat.reduceSub, List.set_cons_zero, List.set_cons_succ, DL.with_arg, DL.with_own, DL.wipeD, List.map_cons, List.map_nil, DL.toArg, DL.back2, DL.back2a, DL.back, DL.back1]); rfl); done)))
    · exact (Bool.and_eq_true _ _).mpr ⟨small_of (by rw [List.length_map]; omega), rfl⟩
    · refine comp_map1 (ψ := fun l => encL (mergeL c c' l)) fun l hl => ?_
      have hk := eqv_ch l.2.2 c
      have s1 := shaped_ch (c := l.2.2) (by have := (h.ok l hl).2.2.2.2.2; omega)
      have s2 := shaped_ch (c := c) (by have := hc.2; omega)
      unfold mergeL
      by_cases hq : l.2.2 = c
      · rw [decide_eq_true hq] at hk
        rw [if_pos hq]
        apply turn_1
        · focus ((try simp only [List.cons_append, List.nil_append, List.replicate_succ, List.replicate_zero, Nat.reduceSub, List.set_cons_zero, List.set_cons_succ, DL.with_arg, DL.with_own, DL.wipeD, List.map_cons, List.map_nil, DL.toArg, DL.back2, DL.back2a, DL.back, DL.back1]); rfl)
        (repeat' (first | with_reducible apply DL.s_setI | with_reducible apply DL.s_app | with_reducible apply DL.s_ext | (with_reducible apply DL.m_arg; rfl) | (with_reducible apply DL.m_own; rfl) | (with_reducible apply DL.f_set; rfl; focus ((try simp only [List.cons_append, List.nil_append, List.replicate_succ, List.replicate_zero, Nat.reduceSub, List.set_cons_zero, List.set_cons_succ, DL.with_arg, DL.with_own, DL.wipeD, List.map_cons, List.map_nil, DL.toArg, DL.back2, DL.back2a, DL.back, DL.back1]); rfl)) | with_reducible apply DL.f_app | with_reducible apply DL.f_ext | (with_reducible apply DL.set_goal; focus ((try simp only [List.cons_append, List.nil_append, List.replicate_succ, List.replicate_zero, Nat.reduceSub, List.set_cons_zero, List.set_cons_succ, DL.with_arg, DL.with_own, DL.wipeD, List.map_cons, List.map_nil, DL.toArg, DL.back2, DL.back2a, DL.back, DL.back1]); rfl)) | with_reducible apply DL.s_seqG | with_reducible apply DL.step_b | with_reducible apply DL.k_nx | with_reducible exact DL.k_rt | with_reducible exact DL.k_ct | with_reducible exact DL.k_bk | with_reducible apply DL.s_asgG | with_reducible apply DL.s_asg | with_reducible apply DL.s_drop | with_reducible apply DL.s_ret | with_reducible apply DL.s_if | with_reducible exact DL.s_skip | (with_reducible apply DL.f_eq; (first | rfl | assumption); (first | rfl | assumption)) | (with_reducible apply DL.f_ne; (first | rfl | assumption); (first | rfl | assumption)) | with_reducible apply DL.f_addT | (with_reducible apply DL.f_ixT; assumption) | (with_reducible apply DL.f_ixL; assumption) | with_reducible apply DL.f_addL | with_reducible apply DL.s_par | with_reducible apply DL.s_for | with_reducible apply DL.i_it | with_reducible apply DL.i_r1 | with_reducible apply DL.r_lc | with_reducible apply DL.r_lc2 | with_reducible apply DL.i_enumT | with_reducible exact DL.t_yes | with_reducible apply DL.turn_e | with_reducible apply DL.g_tup | with_reducible apply DL.g_lst | with_reducible apply DL.g_cons | with_reducible exact DL.g_nil | with_reducible apply DL.g_n | (with_reducible apply DL.set_fz; rfl; focus ((try simp only [List.cons_append, List.nil_append, List.replicate_succ, List.replicate_zero, Nat.reduceSub, List.set_cons_zero, List.set_cons_succ, DL.with_arg, DL.with_own, DL.wipeD, List.map_cons, List.map_nil, DL.toArg, DL.back2, DL.back2a, DL.back, DL.back1]); rfl)) | (with_reducible apply DL.set_own; rfl; focus ((try simp only [List.cons_append, List.nil_append, List.replicate_succ, List.replicate_zero, Nat.reduceSub, List.set_cons_zero, List.set_cons_succ, DL.with_arg, DL.with_own, DL.wipeD, List.map_cons, List.map_nil, DL.toArg, DL.back2, DL.back2a, DL.back, DL.back1]); rfl)) | (with_reducible apply DL.p_t; (first | rfl | focus (simp [*]; done) | assumption)) | (with_reducible apply DL.p_f; (first | rfl | focus (simp [*]; done) | assumption)) | (with_reducible apply DL.v_fz; rfl) | (with_reducible apply DL.v_own; rfl) | (with_reducible apply DL.v_arg; rfl) | with_reducible exact DL.r_c | with_reducible apply DL.r_andB | with_reducible apply DL.r_bin | with_reducible apply DL.r_un | with_reducible apply DL.r_test | with_reducible apply DL.r_notV | with_reducible apply DL.r_and | with_reducible apply DL.r_or | with_reducible apply DL.r_not | with_reducible apply DL.r_if | with_reducible apply DL.r_chainB | with_reducible exact DL.l_nil | with_reducible apply DL.l_cons | with_reducible apply DL.r_tup | with_reducible apply DL.r_lst | with_reducible apply DL.o_some | with_reducible exact DL.o_none | with_reducible apply DL.r_sl | with_reducible exact DL.a_nil | with_reducible apply DL.a_val | with_reducible apply DL.a_ref | (with_reducible apply DL.small_of; focus (first | omega | (simp <;> omega))) | with_reducible apply DL.r_callR | with_reducible apply DL.r_call | (first | exact e_is_row_of _ _ | exact e_is_row _ | exact e_is_below _ _ | exact e_is_whole _ | assumption) | (with_reducible apply DL.f_mod; (first | assumption | omega | focus (simp; omega))) | (with_reducible apply DL.f_div; (first | assumption | omega | focus (simp; omega))) | with_reducible apply DL.f_mulI | (with_reducible apply DL.wide_lt; (first | assumption | omega | focus (simp; omega))) | rfl | (focus ((try simp only [List.cons_append, List.nil_append, List.replicate_succ, List.replicate_zero, Nat.reduceSub, List.set_cons_zero, List.set_cons_succ, DL.with_arg, DL.with_own, DL.wipeD, List.map_cons, List.map_nil, DL.toArg, DL.back2, DL.back2a, DL.back, DL.back1]); rfl); done)))
      · rw [decide_eq_false hq] at hk
        rw [if_neg hq]
        apply turn_1
        · focus ((try simp only [List.cons_append, List.nil_append, List.replicate_succ, List.replicate_zero, Nat.reduceSub, List.set_cons_zero, List.set_cons_succ, DL.with_arg, DL.with_own, DL.wipeD, List.map_cons, List.map_nil, DL.toArg, DL.back2, DL.back2a, DL.back, DL.back1]); rfl)
        (repeat' (first | with_reducible apply DL.s_setI | with_reducible apply DL.s_app | with_reducible apply DL.s_ext | (with_reducible apply DL.m_arg; rfl) | (with_reducible apply DL.m_own; rfl) | (with_reducible apply DL.f_set; rfl; focus ((try simp only [List.cons_append, List.nil_append, List.replicate_succ, List.replicate_zero, Nat.reduceSub, List.set_cons_zero, List.set_cons_succ, DL.with_arg, DL.with_own, DL.wipeD, List.map_cons, List.map_nil, DL.toArg, DL.back2, DL.back2a, DL.back, DL.back1]); rfl)) | with_reducible apply DL.f_app | with_reducible apply DL.f_ext | (with_reducible apply DL.set_goal; focus ((try simp only [List.cons_append, List.nil_append, List.replicate_succ, List.replicate_zero, Nat.reduceSub, List.set_cons_zero, List.set_cons_succ, DL.with_arg, DL.with_own, DL.wipeD, List.map_cons, List.map_nil, DL.toArg, DL.back2, DL.back2a, DL.back, DL.back1]); rfl)) | with_reducible apply DL.s_seqG | with_reducible apply DL.step_b | with_reducible apply DL.k_nx | with_reducible exact DL.k_rt | with_reducible exact DL.k_ct | with_reducible exact DL.k_bk | with_reducible apply DL.s_asgG | with_reducible apply DL.s_asg | with_reducible apply DL.s_drop | with_reducible apply DL.s_ret | with_reducible apply DL.s_if | with_reducible exact DL.s_skip | (with_reducible apply DL.f_eq; (first | rfl | assumption); (first | rfl | assumption)) | (with_reducible apply DL.f_ne; (first | rfl | assumption); (first | rfl | assumption)) | with_reducible apply DL.f_addT | (with_reducible apply DL.f_ixT; assumption) | (with_reducible apply DL.f_ixL; assumption) | with_reducible apply DL.f_addL | with_reducible apply DL.s_par | with_reducible apply DL.s_for | with_reducible apply DL.i_it | with_reducible apply DL.i_r1 | with_reducible apply DL.r_lc | with_reducible apply DL.r_lc2 | with_reducible apply DL.i_enumT | with_reducible exact DL.t_yes | with_reducible apply DL.turn_e | with_reducible apply DL.g_tup | with_reducible apply DL.g_lst | with_reducible apply DL.g_cons | with_reducible exact DL.g_nil | with_reducible apply DL.g_n | (with_reducible apply DL.set_fz; rfl; focus ((try simp only [List.cons_append, List.nil_append, List.replicate_succ, List.replicate_zero, Nat.reduceSub, List.set_cons_zero, List.set_cons_succ, DL.with_arg, DL.with_own, DL.wipeD, List.map_cons, List.map_nil, DL.toArg, DL.back2, DL.back2a, DL.back, DL.back1]); rfl)) | (with_reducible apply DL.set_own; rfl; focus ((try simp only [List.cons_append, List.nil_append, List.replicate_succ, List.replicate_zero, Nat.reduceSub, List.set_cons_zero, List.set_cons_succ, DL.with_arg, DL.with_own, DL.wipeD, List.map_cons, List.map_nil, DL.toArg, DL.back2, DL.back2a, DL.back, DL.back1]); rfl)) | (with_reducible apply DL.p_t; (first | rfl | focus (simp [*]; done) | assumption)) | (with_reducible apply DL.p_f; (first | rfl | focus (simp [*]; done) | assumption)) | (with_reducible apply DL.v_fz; rfl) | (with_reducible apply DL.v_own; rfl) | (with_reducible apply DL.v_arg; rfl) | with_reducible exact DL.r_c | with_reducible apply DL.r_andB | with_reducible apply DL.r_bin | with_reducible apply DL.r_un | with_reducible apply DL.r_test | with_reducible apply DL.r_notV | with_reducible apply DL.r_and | with_reducible apply DL.r_or | with_reducible apply DL.r_not | with_reducible apply DL.r_if | with_reducible apply DL.r_chainB | with_reducible exact DL.l_nil | with_reducible apply DL.l_cons | with_reducible apply DL.r_tup | with_reducible apply DL.r_lst | with_reducible apply DL.o_some | with_reducible exact DL.o_none | with_reducible apply DL.r_sl | with_reducible exact DL.a_nil | with_reducible apply DL.a_val | with_reducible apply DL.a_ref | (with_reducible apply DL.small_of; focus (first | omega | (simp <;> omega))) | with_reducible apply DL.r_callR | with_reducible apply DL.r_call | (first | exact e_is_row_of _ _ | exact e_is_row _ | exact e_is_below _ _ | exact e_is_whole _ | assumption) | (with_reducible apply DL.f_mod; (first | assumption | omega | focus (simp; omega))) | (with_reducible apply DL.f_div; (first | assumption | omega | focus (simp; omega))) | with_reducible apply DL.f_mulI | (with_reducible apply DL.wide_lt; (first | assumption | omega | focus (simp; omega))) | rfl | (focus ((try simp only [List.cons_append, List.nil_append, List.replicate_succ, List.replicate_zero, Nat.reduceSub, List.set_cons_zero, List.set_cons_succ, DL.with_arg, DL.with_own, DL.wipeD, List.map_cons, List.map_nil, DL.toArg, DL.back2, DL.back2a, DL.back, DL.back1]); rfl); done)))
    (repeat' (first | with_reducible apply DL.s_setI | with_reducible apply DL.s_app | with_reducible apply DL.s_ext | (with_reducible apply DL.m_arg; rfl) | (with_reducible apply DL.m_own; rfl) | (with_reducible apply DL.f_set; rfl; focus ((try simp only [List.cons_append, List.nil_append, List.replicate_succ, List.replicate_zero, Nat.reduceSub, List.set_cons_zero, List.set_cons_succ, DL.with_arg, DL.with_own, DL.wipeD, List.map_cons, List.map_nil, DL.toArg, DL.back2, DL.back2a, DL.back, DL.back1]); rfl)) | with_reducible apply DL.f_app | with_reducible apply DL.f_ext | (with_reducible apply DL.set_goal; focus ((try simp only [List.cons_append, List.nil_append, List.replicate_succ, List.replicate_zero, Nat.reduceSub, List.set_cons_zero, List.set_cons_succ, DL.with_arg, DL.with_own, DL.wipeD, List.map_cons, List.map_nil, DL.toArg, DL.back2, DL.back2a, DL.back, DL.back1]); rfl)) | with_reducible apply DL.s_seqG | with_reducible apply DL.step_b | with_reducible apply DL.k_nx | with_reducible exact DL.k_rt | with_reducible exact DL.k_ct | with_reducible exact DL.k_bk | with_reducible apply DL.s_asgG | with_reducible apply DL.s_asg | with_reducible apply DL.s_drop | with_reducible apply DL.s_ret | with_reducible apply DL.s_if | with_reducible exact DL.s_skip | (with_reducible apply DL.f_eq; (first | rfl | assumption); (first | rfl | assumption)) | (with_reducible apply DL.f_ne; (first | rfl | assumption); (first | rfl | assumption)) | with_reducible apply DL.f_addT | (with_reducible apply DL.f_ixT; assumption) | (with_reducible apply DL.f_ixL; assumption) | with_reducible apply DL.f_addL | with_reducible apply DL.s_par | with_reducible apply DL.s_for | with_reducible apply DL.i_it | with_reducible apply DL.i_r1 | with_reducible apply DL.r_lc | with_reducible apply DL.r_lc2 | with_reducible apply DL.i_enumT | with_reducible exact DL.t_yes | with_reducible apply DL.turn_e | with_reducible apply DL.g_tup | with_reducible apply DL.g_lst | with_reducible apply DL.g_cons | with_reducible exact DL.g_nil | with_reducible apply DL.g_n | (with_reducible apply DL.set_fz; rfl; focus ((try simp only [List.cons_append, List.nil_append, List.replicate_succ, List.replicate_zero, Nat.reduceSub, List.set_cons_zero, List.set_cons_succ, DL.with_arg, DL.with_own, DL.wipeD, List.map_cons, List.map_nil, DL.toArg, DL.back2, DL.back2a, DL.back, DL.back1]); rfl)) | (with_reducible apply DL.set_own; rfl; focus ((try simp only [List.cons_append, List.nil_append, List.replicate_succ, List.replicate_zero, Nat.reduceSub, List.set_cons_zero, List.set_cons_succ, DL.with_arg, DL.with_own, DL.wipeD, List.map_cons, List.map_nil, DL.toArg, DL.back2, DL.back2a, DL.back, DL.back1]); rfl)) | (with_reducible apply DL.p_t; (first | rfl | focus (simp [*]; done) | assumption)) | (with_reducible apply DL.p_f; (first | rfl | focus (simp [*]; done) | assumption)) | (with_reducible apply DL.v_fz; rfl) | (with_reducible apply DL.v_own; rfl) | (with_reducible apply DL.v_arg; rfl) | with_reducible exact DL.r_c | with_reducible apply DL.r_andB | with_reducible apply DL.r_bin | with_reducible apply DL.r_un | with_reducible apply DL.r_test | with_reducible apply DL.r_notV | with_reducible apply DL.r_and | with_reducible apply DL.r_or | with_reducible apply DL.r_not | with_reducible apply DL.r_if | with_reducible apply DL.r_chainB | with_reducible exact DL.l_nil | with_reducible apply DL.l_cons | with_reducible apply DL.r_tup | with_reducible apply DL.r_lst | with_reducible apply DL.o_some | with_reducible exact DL.o_none | with_reducible apply DL.r_sl | with_reducible exact DL.a_nil | with_reducible apply DL.a_val | with_reducible apply DL.a_ref | (with_reducible apply DL.small_of; focus (first | omega | (simp <;> omega))) | with_reducible apply DL.r_callR | with_reducible apply DL.r_call | (first | exact e_is_row_of _ _ | exact e_is_row _ | exact e_is_below _ _ | exact e_is_whole _ | assumption) | (with_reducible apply DL.f_mod; (first | assumption | omega | focus (simp; omega))) | (with_reducible apply DL.f_div; (first | assumption | omega | focus (simp; omega))) | with_reducible apply DL.f_mulI | (with_reducible apply DL.wide_lt; (first | assumption | omega | focus (simp; omega))) | rfl | (focus ((try simp only [List.cons_append, List.nil_append, List.replicate_succ, List.replicate_zero, Nat.reduceSub, List.set_cons_zero, List.set_cons_succ, DL.with_arg, DL.with_own, DL.wipeD, List.map_cons, List.map_nil, DL.toArg, DL.back2, DL.back2a, DL.back, DL.back1]); rfl); done)))
  · unfold encW
    rw [List.map_map]
    rfl
  · rfl
theorem e_is_end (ls : List Ln) (n s : Nat) (hn : n < ls.length) (hs : s = 0 ∨ s = 1) : d_is_end [.fz (.tuple (ls.map encL)), .fz (encE (n, s))] = .ok (.fz (.bool true)) [.no, .no] := by
  unfold d_is_end
  apply run_b rfl
  · focus ((try simp only [List.cons_append, List.nil_append, List.replicate_succ, List.replicate_zero, Nat.reduceSub, List.set_cons_zero, List.set_cons_succ, DL.with_arg, DL.with_own, DL.wipeD, List.map_cons, List.map_nil, DL.toArg, DL.back2, DL.back2a, DL.back, DL.back1]); rfl)
  · unfold sd_is_end
    (repeat' (first | with_reducible apply DL.s_setI | with_reducible apply DL.s_app | with_reducible apply DL.s_ext | (with_reducible apply DL.m_arg; rfl) | (with_reducible apply DL.m_own; rfl) | (with_reducible apply DL.f_set; rfl; focus ((try simp only [List.cons_append, List.nil_append, List.replicate_succ, List.replicate_zero, Nat.reduceSub, List.set_cons_zero, List.set_cons_succ, DL.with_arg, DL.with_own, DL.wipeD, List.map_cons, List.map_nil, DL.toArg, DL.back2, DL.back2a, DL.back, DL.back1]); rfl)) | with_reducible apply DL.f_app | with_reducible apply DL.f_ext | (with_reducible apply DL.set_goal; focus ((try simp only [List.cons_append, List.nil_append, List.replicate_succ, List.replicate_zero, Nat.reduceSub, List.set_cons_zero, List.set_cons_succ, DL.with_arg, DL.with_own, DL.wipeD, List.map_cons, List.map_nil, DL.toArg, DL.back2, DL.back2a, DL.back, DL.back1]); rfl)) | with_reducible apply DL.s_seqG | with_reducible apply DL.step_b | with_reducible apply DL.k_nx | with_reducible exact DL.k_rt | with_reducible exact DL.k_ct | with_reducible exact DL.k_bk | with_reducible apply DL.s_asgG | with_reducible apply DL.s_asg | with_reducible apply DL.s_drop | with_reducible apply DL.s_ret | with_reducible apply DL.s_if | with_reducible exact DL.s_skip | (with_reducible apply DL.f_eq; (first | rfl | assumption); (first | rfl | assumption)) | (with_reducible apply DL.f_ne; (first | rfl | assumption); (first | rfl | assumption)) | with_reducible apply DL.f_addT | (with_reducible apply DL.f_ixT; assumption) | (with_reducible apply DL.f_ixL; assumption) | with_reducible apply DL.f_addL | with_reducible apply DL.s_par | with_reducible apply DL.s_for | with_reducible apply DL.i_it | with_reducible apply DL.i_r1 | with_reducible apply DL.r_lc | with_reducible apply DL.r_lc2 | with_reducible apply DL.i_enumT | with_reducible exact DL.t_yes | with_reducible apply DL.turn_e | with_reducible apply DL.g_tup | with_reducible apply DL.g_lst | with_reducible apply DL.g_cons | with_reducible exact DL.g_nil | with_reducible apply DL.g_n | (with_reducible apply DL.set_fz; rfl; focus ((try simp only [List.cons_append, List.nil_append, List.replicate_succ, List.replicate_zero, Nat.reduceSub, List.set_cons_zero, List.set_cons_succ, DL.with_arg, DL.with_own, DL.wipeD, List.map_cons, List.map_nil, DL.toArg, DL.back2, DL.back2a, DL.back, DL.back1]); rfl)) | (with_reducible apply DL.set_own; rfl; focus ((try simp only [List.cons_append, List.nil_append, List.replicate_succ, List.replicate_zero, Nat.reduceSub, List.set_cons_zero, List.set_cons_succ, DL.with_arg, DL.with_own, DL.wipeD, List.map_cons, List.map_nil, DL.toArg, DL.back2, DL.back2a, DL.back, DL.back1]); rfl)) | (with_reducible apply DL.p_t; (first | rfl | focus (simp [*]; done) | assumption)) | (with_reducible apply DL.p_f; (first | rfl | focus (simp [*]; done) | assumption)) | (with_reducible apply DL.v_fz; rfl) | (with_reducible apply DL.v_own; rfl) | (with_reducible apply DL.v_arg; rfl) | with_reducible exact DL.r_c | with_reducible apply DL.r_andB | with_reducible apply DL.r_bin | with_reducible apply DL.r_un | with_reducible apply DL.r_test | with_reducible apply DL.r_notV | with_reducible apply DL.r_and | with_reducible apply DL.r_or | with_reducible apply DL.r_not | with_reducible apply DL.r_if | with_reducible apply DL.r_chainB | with_reducible exact DL.l_nil | with_reducible apply DL.l_cons | with_reducible apply DL.r_tup | with_reducible apply DL.r_lst | with_reducible apply DL.o_some | with_reducible exact DL.o_none | with_reducible apply DL.r_sl | with_reducible exact DL.a_nil | with_reducible apply DL.a_val | with_reducible apply DL.a_ref | (with_reducible apply DL.small_of; focus (first | omega | (simp <;> omega))) | with_reducible apply DL.r_callR | with_reducible apply DL.r_call | (first | exact e_is_row_of _ _ | exact e_is_row _ | exact e_is_below _ _ | exact e_is_whole _ | assumption) | (with_reducible apply DL.f_mod; (first | assumption | omega | focus (simp; omega))) | (with_reducible apply DL.f_div; (first | assumption | omega | focus (simp; omega))) | with_reducible apply DL.f_mulI | (with_reducible apply DL.wide_lt; (first | assumption | omega | focus (simp; omega))) | rfl | (focus ((try simp only [List.cons_append, List.nil_append, List.replicate_succ, List.replicate_zero, Nat.reduceSub, List.set_cons_zero, List.set_cons_succ, DL.with_arg, DL.with_own, DL.wipeD, List.map_cons, List.map_nil, DL.toArg, DL.back2, DL.back2a, DL.back, DL.back1]); rfl); done)))
  · have h1 : decide ((n : Int) < ((ls.map encL).length : Int)) = true := decide_eq_true (by rw [List.length_map]; omega)
    have h2 : decide ((s : Int) < 2) = true := decide_eq_true (by omega)
    have h3 : decide (0 ≤ (n : Int)) = true := decide_eq_true (by omega)
    have h4 : decide (0 ≤ (s : Int)) = true := decide_eq_true (by omega)
    simp only [h1, h2, h3, h4]
    rfl
  · rfl
def looseL (p : Int) (s : Nat) (l : Ln) : Ln := if s = 0 then (p, l.2.1, l.2.2) else (l.1, p, l.2.2)
set_option maxHeartbeats 0 in
theorem e_loosened (p : Int) (ls : List Ln) (n s : Nat) (l : Ln) (h : OkW p ls) (hn : ls[n]? = some l) (hs : s = 0 ∨ s = 1) : d_loosened [.fz (encW p ls), .fz (encE (n, s))] = .ok (.fz (encW (p + 1) (ls.set n (looseL p s l)))) [.no, .no] := by
  have hlt := (List.getElem?_eq_some_iff.mp hn).1
  have c1 := e_checked_web p ls h
  have c2 := e_is_end ls n s hlt hs
  have hl := h.ln
  have c4 := e_replaced (ls.map encL) n (encL (looseL p s l)) (by rw [List.length_map]; omega) (by rw [List.length_map]; omega)
  have hx := at_enc hn
  rcases hs with rfl | rfl
  · unfold d_loosened
    apply run_v rfl
    · focus ((try simp only [List.cons_append, List.nil_append, List.replicate_succ, List.replicate_zero, Nat.reduceSub, List.set_cons_zero, List.set_cons_succ, DL.with_arg, DL.with_own, DL.wipeD, List.map_cons, List.map_nil, DL.toArg, DL.back2, DL.back2a, DL.back, DL.back1]); rfl)
    · unfold sd_loosened
      (repeat' (first | with_reducible apply DL.s_setI | with_reducible apply DL.s_app | with_reducible apply DL.s_ext | (with_reducible apply DL.m_arg; rfl) | (with_reducible apply DL.m_own; rfl) | (with_reducible apply DL.f_set; rfl; focus ((try simp only [List.cons_append, List.nil_append, List.replicate_succ, List.replicate_zero, Nat.reduceSub, List.set_cons_zero, List.set_cons_succ, DL.with_arg, DL.with_own, DL.wipeD, List.map_cons, List.map_nil, DL.toArg, DL.back2, DL.back2a, DL.back, DL.back1]); rfl)) | with_reducible apply DL.f_app | with_reducible apply DL.f_ext | (with_reducible apply DL.set_goal; focus ((try simp only [List.cons_append, List.nil_append, List.replicate_succ, List.replicate_zero, Nat.reduceSub, List.set_cons_zero, List.set_cons_succ, DL.with_arg, DL.with_own, DL.wipeD, List.map_cons, List.map_nil, DL.toArg, DL.back2, DL.back2a, DL.back, DL.back1]); rfl)) | with_reducible apply DL.s_seqG | with_reducible apply DL.step_b | with_reducible apply DL.k_nx | with_reducible exact DL.k_rt | with_reducible exact DL.k_ct | with_reducible exact DL.k_bk | with_reducible apply DL.s_asgG | with_reducible apply DL.s_asg | with_reducible apply DL.s_drop | with_reducible apply DL.s_ret | with_reducible apply DL.s_if | with_reducible exact DL.s_skip | (with_reducible apply DL.f_eq; (first | rfl | assumption); (first | rfl | assumption)) | (with_reducible apply DL.f_ne; (first | rfl | assumption); (first | rfl | assumption)) | with_reducible apply DL.f_addT | (with_reducible apply DL.f_ixT; assumption) | (with_reducible apply DL.f_ixL; assumption) | with_reducible apply DL.f_addL | with_reducible apply DL.s_par | with_reducible apply DL.s_for | with_reducible apply DL.i_it | with_reducible apply DL.i_r1 | with_reducible apply DL.r_lc | with_reducible apply DL.r_lc2 | with_reducible apply DL.i_enumT | with_reducible exact DL.t_yes | with_reducible apply DL.turn_e | with_reducible apply DL.g_tup | with_reducible apply DL.g_lst | with_reducible apply DL.g_cons | with_reducible exact DL.g_nil | with_reducible apply DL.g_n | (with_reducible apply DL.set_fz; rfl; focus ((try simp only [List.cons_append, List.nil_append, List.replicate_succ, List.replicate_zero, Nat.reduceSub, List.set_cons_zero, List.set_cons_succ, DL.with_arg, DL.with_own, DL.wipeD, List.map_cons, List.map_nil, DL.toArg, DL.back2, DL.back2a, DL.back, DL.back1]); rfl)) | (with_reducible apply DL.set_own; rfl; focus ((try simp only [List.cons_append, List.nil_append, List.replicate_succ, List.replicate_zero, Nat.reduceSub, List.set_cons_zero, List.set_cons_succ, DL.with_arg, DL.with_own, DL.wipeD, List.map_cons, List.map_nil, DL.toArg, DL.back2, DL.back2a, DL.back, DL.back1]); rfl)) | (with_reducible apply DL.p_t; (first | rfl | focus (simp [*]; done) | assumption)) | (with_reducible apply DL.p_f; (first | rfl | focus (simp [*]; done) | assumption)) | (with_reducible apply DL.v_fz; rfl) | (with_reducible apply DL.v_own; rfl) | (with_reducible apply DL.v_arg; rfl) | with_reducible exact DL.r_c | with_reducible apply DL.r_andB | with_reducible apply DL.r_bin | with_reducible apply DL.r_un | with_reducible apply DL.r_test | with_reducible apply DL.r_notV | with_reducible apply DL.r_and | with_reducible apply DL.r_or | with_reducible apply DL.r_not | with_reducible apply DL.r_if | with_reducible apply DL.r_chainB | with_reducible exact DL.l_nil | with_reducible apply DL.l_cons | with_reducible apply DL.r_tup | with_reducible apply DL.r_lst | with_reducible apply DL.o_some | with_reducible exact DL.o_none | with_reducible apply DL.r_sl | with_reducible exact DL.a_nil | with_reducible apply DL.a_val | with_reducible apply DL.a_ref | (with_reducible apply DL.small_of; focus (first | omega | (simp <;> omega))) | with_reducible apply DL.r_callR | with_reducible apply DL.r_call | (first | exact e_is_row_of _ _ | exact e_is_row _ | exact e_is_below _ _ | exact e_is_whole _ | assumption) | (with_reducible apply DL.f_mod; (first | assumption | omega | focus (simp; omega))) | (with_reducible apply DL.f_div; (first | assumption | omega | focus (simp; omega))) | with_reducible apply DL.f_mulI | (with_reducible apply DL.wide_lt; (first | assumption | omega | focus (simp; omega))) | rfl | (focus ((try simp only [List.cons_append, List.nil_append, List.replicate_succ, List.replicate_zero, Nat.reduceSub, List.set_cons_zero, List.set_cons_succ, DL.with_arg, DL.with_own, DL.wipeD, List.map_cons, List.map_nil, DL.toArg, DL.back2, DL.back2a, DL.back, DL.back1]); rfl); done)))
    · unfold encW
      rw [List.map_set]
    · rfl
  · unfold d_loosened
    apply run_v rfl
    · focus ((try simp only [List.cons_append, List.nil_append, List.replicate_succ, List.replicate_zero, Nat.reduceSub, List.set_cons_zero, List.set_cons_succ, DL.with_arg, DL.with_own, DL.wipeD, List.map_cons, List.map_nil, DL.toArg, DL.back2, DL.back2a, DL.back, DL.back1]); rfl)
    · unfold sd_loosened
      (repeat' (first | with_reducible apply DL.s_setI | with_reducible apply DL.s_app | with_reducible apply DL.s_ext | (with_reducible apply DL.m_arg; rfl) | (with_reducible apply DL.m_own; rfl) | (with_reducible apply DL.f_set; rfl; focus ((try simp only [List.cons_append, List.nil_append, List.replicate_succ, List.replicate_zero, Nat.reduceSub, List.set_cons_zero, List.set_cons_succ, DL.with_arg, DL.with_own, DL.wipeD, List.map_cons, List.map_nil, DL.toArg, DL.back2, DL.back2a, DL.back, DL.back1]); rfl)) | with_reducible apply DL.f_app | with_reducible apply DL.f_ext | (with_reducible apply DL.set_goal; focus ((try simp only [List.cons_append, List.nil_append, List.replicate_succ, List.replicate_zero, Nat.reduceSub, List.set_cons_zero, List.set_cons_succ, DL.with_arg, DL.with_own, DL.wipeD, List.map_cons, List.map_nil, DL.toArg, DL.back2, DL.back2a, DL.back, DL.back1]); rfl)) | with_reducible apply DL.s_seqG | with_reducible apply DL.step_b | with_reducible apply DL.k_nx | with_reducible exact DL.k_rt | with_reducible exact DL.k_ct | with_reducible exact DL.k_bk | with_reducible apply DL.s_asgG | with_reducible apply DL.s_asg | with_reducible apply DL.s_drop | with_reducible apply DL.s_ret | with_reducible apply DL.s_if | with_reducible exact DL.s_skip | (with_reducible apply DL.f_eq; (first | rfl | assumption); (first | rfl | assumption)) | (with_reducible apply DL.f_ne; (first | rfl | assumption); (first | rfl | assumption)) | with_reducible apply DL.f_addT | (with_reducible apply DL.f_ixT; assumption) | (with_reducible apply DL.f_ixL; assumption) | with_reducible apply DL.f_addL | with_reducible apply DL.s_par | with_reducible apply DL.s_for | with_reducible apply DL.i_it | with_reducible apply DL.i_r1 | with_reducible apply DL.r_lc | with_reducible apply DL.r_lc2 | with_reducible apply DL.i_enumT | with_reducible exact DL.t_yes | with_reducible apply DL.turn_e | with_reducible apply DL.g_tup | with_reducible apply DL.g_lst | with_reducible apply DL.g_cons | with_reducible exact DL.g_nil | with_reducible apply DL.g_n | (with_reducible apply DL.set_fz; rfl; focus ((try simp only [List.cons_append, List.nil_append, List.replicate_succ, List.replicate_zero, Nat.reduceSub, List.set_cons_zero, List.set_cons_succ, DL.with_arg, DL.with_own, DL.wipeD, List.map_cons, List.map_nil, DL.toArg, DL.back2, DL.back2a, DL.back, DL.back1]); rfl)) | (with_reducible apply DL.set_own; rfl; focus ((try simp only [List.cons_append, List.nil_append, List.replicate_succ, List.replicate_zero, Nat.reduceSub, List.set_cons_zero, List.set_cons_succ, DL.with_arg, DL.with_own, DL.wipeD, List.map_cons, List.map_nil, DL.toArg, DL.back2, DL.back2a, DL.back, DL.back1]); rfl)) | (with_reducible apply DL.p_t; (first | rfl | focus (simp [*]; done) | assumption)) | (with_reducible apply DL.p_f; (first | rfl | focus (simp [*]; done) | assumption)) | (with_reducible apply DL.v_fz; rfl) | (with_reducible apply DL.v_own; rfl) | (with_reducible apply DL.v_arg; rfl) | with_reducible exact DL.r_c | with_reducible apply DL.r_andB | with_reducible apply DL.r_bin | with_reducible apply DL.r_un | with_reducible apply DL.r_test | with_reducible apply DL.r_notV | with_reducible apply DL.r_and | with_reducible apply DL.r_or | with_reducible apply DL.r_not | with_reducible apply DL.r_if | with_reducible apply DL.r_chainB | with_reducible exact DL.l_nil | with_reducible apply DL.l_cons | with_reducible apply DL.r_tup | with_reducible apply DL.r_lst | with_reducible apply DL.o_some | with_reducible exact DL.o_none | with_reducible apply DL.r_sl | with_reducible exact DL.a_nil | with_reducible apply DL.a_val | with_reducible apply DL.a_ref | (with_reducible apply DL.small_of; focus (first | omega | (simp <;> omega))) | with_reducible apply DL.r_callR | with_reducible apply DL.r_call | (first | exact e_is_row_of _ _ | exact e_is_row _ | exact e_is_below _ _ | exact e_is_whole _ | assumption) | (with_reducible apply DL.f_mod; (first | assumption | omega | focus (simp; omega))) | (with_reducible apply DL.f_div; (first | assumption | omega | focus (simp; omega))) | with_reducible apply DL.f_mulI | (with_reducible apply DL.wide_lt; (first | assumption | omega | focus (simp; omega))) | rfl | (focus ((try simp only [List.cons_append, List.nil_append, List.replicate_succ, List.replicate_zero, Nat.reduceSub, List.set_cons_zero, List.set_cons_succ, DL.with_arg, DL.with_own, DL.wipeD, List.map_cons, List.map_nil, DL.toArg, DL.back2, DL.back2a, DL.back, DL.back1]); rfl); done)))
    · unfold encW
      rw [List.map_set]
    · rfl

structure Rl where
  g : List Int
  t : List Int
  i : Nat
  s : Int
abbrev encR (r : Rl) : List D := [.list (r.g.map .int), .list (r.t.map .int), .int r.i, .int r.s]
structure RlOk (b : Nat) (r : Rl) : Prop where
  gp : ∀ x ∈ r.g, 0 ≤ x
  gl : r.g.length ≤ 1000
  t0 : 0 < r.t.length
  tl : r.t.length ≤ 1000
  tp : ∀ x ∈ r.t, 0 ≤ x ∧ x < 1000003
  ib : r.i ≤ b
  s0 : 0 ≤ r.s
  s1 : r.s < 2 ^ 127
theorem p64 : fPow (.int 2) (.int 64) = some (.fz (.int (2 ^ 64))) := rfl
theorem p63 : fPow (.int 2) (.int 63) = some (.fz (.int (2 ^ 63))) := rfl
theorem p40 : fPow (.int 2) (.int 40) = some (.fz (.int (2 ^ 40))) := rfl
theorem ix_in {xs : List Int} {j : Int} (h0 : 0 ≤ j) (h1 : j < xs.length) : ∃ x, x ∈ xs ∧ fIx (.list (xs.map PyData.int)) (.int j) = some (.fz (.int x)) := by
  obtain ⟨n, rfl⟩ := Int.eq_ofNat_of_zero_le h0
  have hn : n < xs.length := by omega
  refine ⟨xs[n], List.getElem_mem hn, ?_⟩
  exact f_ixL (by rw [List.getElem?_map, List.getElem?_eq_getElem hn]; rfl)
theorem mul_1 (q : Int) : fMul (.list [.int q]) (.int 1) = some (.own (.lst [.int q])) := by
  show okO (small (1 * Int.toNat 1) && decide (-1000000 ≤ (1 : Int)) && decide ((1 : Int) ≤ 1000000)) (some (Vl.own (.lst [.int q]))) = _
  rw [show (small (1 * Int.toNat 1) && decide (-1000000 ≤ (1 : Int)) && decide ((1 : Int) ≤ 1000000)) = true from by decide]
  rfl
theorem mul_0 (q : Int) : fMul (.list [.int q]) (.int 0) = some (.own (.lst [])) := by
  show okO (small (1 * Int.toNat 0) && decide (-1000000 ≤ (0 : Int)) && decide ((0 : Int) ≤ 1000000)) (some (Vl.own (.lst []))) = _
  rw [show (small (1 * Int.toNat 0) && decide (-1000000 ≤ (0 : Int)) && decide ((0 : Int) ≤ 1000000)) = true from by decide]
  rfl
theorem e_draw {b : Nat} {r : Rl} (h : RlOk b r) (hb : b ≤ 1000000) (m : Int) (h0 : 0 < m) (h1 : m ≤ 1000000) :
    ∃ v r', d__law_draw [.arg (.lst (encR r)), .fz (.int m)] = .ok (.fz (.int v)) [.arg (.lst (encR r')), .no] ∧ 0 ≤ v ∧ v < m ∧ RlOk (b + 1) r' := by
  have wm : wide m = true := wide_lt (by omega)
  obtain ⟨g, t, i, s⟩ := r
  obtain ⟨gp, gl, t0, tl, tp, ib, s0, s1⟩ := h
  simp only at gp gl t0 tl tp ib s0 s1
  have e64 := p64
  have e63 := p63
  have e40 := p40
  cases g with
  | nil =>
    have hj0 : 0 ≤ ((i : Int) + 1) % (t.map PyData.int).length := Int.emod_nonneg _ (by rw [List.length_map]; omega)
    have hj1 : ((i : Int) + 1) % (t.map PyData.int).length < t.length := by
      have := Int.emod_lt_of_pos ((i : Int) + 1) (b := ((t.map PyData.int).length : Int)) (by rw [List.length_map]; omega)
      rw [List.length_map] at this ⊢
      exact this
    obtain ⟨x, hx, ex⟩ := ix_in hj0 hj1
    have hx := tp x hx
    have hlen : 0 < ((t.map PyData.int).length : Int) := by rw [List.length_map]; omega
    have wss : wide s = true := wide_lt (by omega)
    have w40 : wide (2 ^ 40) = true := wide_lt (by decide)
    have hS0 : 0 ≤ (s * s + (x + 7) * 69621 + ((i : Int) + 1) * 1000003) % (2 ^ 64 * 2 ^ 63 - 1) := Int.emod_nonneg _ (by decide)
    have hS1 : (s * s + (x + 7) * 69621 + ((i : Int) + 1) * 1000003) % (2 ^ 64 * 2 ^ 63 - 1) < (2 ^ 64 * 2 ^ 63 - 1) := Int.emod_lt_of_pos _ (by decide)
    refine ⟨((s * s + (x + 7) * 69621 + ((i : Int) + 1) * 1000003) % (2 ^ 64 * 2 ^ 63 - 1)) / 2 ^ 40 % m, ⟨[], t, i + 1, (s * s + (x + 7) * 69621 + ((i : Int) + 1) * 1000003) % (2 ^ 64 * 2 ^ 63 - 1)⟩, ?_, Int.emod_nonneg _ (by omega), Int.emod_lt_of_pos _ h0, ⟨by simp, by simp, t0, tl, tp, by show i + 1 ≤ b + 1; omega, hS0, Int.lt_trans hS1 (by decide)⟩⟩
    unfold d__law_draw
    apply run_v rfl
    · focus ((try simp only [List.cons_append, List.nil_append, List.replicate_succ, List.replicate_zero, Nat.reduceSub, List.set_cons_zero, List.set_cons_succ, DL.with_arg, DL.with_own, DL.wipeD, List.map_cons, List.map_nil, DL.toArg, DL.back2, DL.back2a, DL.back, DL.back1]); rfl)
    · unfold sd__law_draw
      (repeat' (first | with_reducible apply DL.s_setI | with_reducible apply DL.s_app | with_reducible apply DL.s_ext | (with_reducible apply DL.m_arg; rfl) | (with_reducible apply DL.m_own; rfl) | (with_reducible apply DL.f_set; rfl; focus ((try simp only [List.cons_append, List.nil_append, List.replicate_succ, List.replicate_zero, Nat.reduceSub, List.set_cons_zero, List.set_cons_succ, DL.with_arg, DL.with_own, DL.wipeD, List.map_cons, List.map_nil, DL.toArg, DL.back2, DL.back2a, DL.back, DL.back1]); rfl)) | with_reducible apply DL.f_app | with_reducible apply DL.f_ext | (with_reducible apply DL.set_goal; focus ((try simp only [List.cons_append, List.nil_append, List.replicate_succ, List.replicate_zero, Nat.reduceSub, List.set_cons_zero, List.set_cons_succ, DL.with_arg, DL.with_own, DL.wipeD, List.map_cons, List.map_nil, DL.toArg, DL.back2, DL.back2a, DL.back, DL.back1]); rfl)) | with_reducible apply DL.s_seqG | with_reducible apply DL.step_b | with_reducible apply DL.k_nx | with_reducible exact DL.k_rt | with_reducible exact DL.k_ct | with_reducible exact DL.k_bk | with_reducible apply DL.s_asgG | with_reducible apply DL.s_asg | with_reducible apply DL.s_drop | with_reducible apply DL.s_ret | with_reducible apply DL.s_if | with_reducible exact DL.s_skip | (with_reducible apply DL.f_eq; (first | rfl | assumption); (first | rfl | assumption)) | (with_reducible apply DL.f_ne; (first | rfl | assumption); (first | rfl | assumption)) | with_reducible apply DL.f_addT | (with_reducible apply DL.f_ixT; assumption) | (with_reducible apply DL.f_ixL; assumption) | with_reducible apply DL.f_addL | with_reducible apply DL.s_par | with_reducible apply DL.s_for | with_reducible apply DL.i_it | with_reducible apply DL.i_r1 | with_reducible apply DL.r_lc | with_reducible apply DL.r_lc2 | with_reducible apply DL.i_enumT | with_reducible exact DL.t_yes | with_reducible apply DL.turn_e | with_reducible apply DL.g_tup | with_reducible apply DL.g_lst | with_reducible apply DL.g_cons | with_reducible exact DL.g_nil | with_reducible apply DL.g_n | (with_reducible apply DL.set_fz; rfl; focus ((try simp only [List.cons_append, List.nil_append, List.replicate_succ, List.replicate_zero, Nat.reduceSub, List.set_cons_zero, List.set_cons_succ, DL.with_arg, DL.with_own, DL.wipeD, List.map_cons, List.map_nil, DL.toArg, DL.back2, DL.back2a, DL.back, DL.back1]); rfl)) | (with_reducible apply DL.set_own; rfl; focus ((try simp only [List.cons_append, List.nil_append, List.replicate_succ, List.replicate_zero, Nat.reduceSub, List.set_cons_zero, List.set_cons_succ, DL.with_arg, DL.with_own, DL.wipeD, List.map_cons, List.map_nil, DL.toArg, DL.back2, DL.back2a, DL.back, DL.back1]); rfl)) | (with_reducible apply DL.p_t; (first | rfl | focus (simp [*]; done) | assumption)) | (with_reducible apply DL.p_f; (first | rfl | focus (simp [*]; done) | assumption)) | (with_reducible apply DL.v_fz; rfl) | (with_reducible apply DL.v_own; rfl) | (with_reducible apply DL.v_arg; rfl) | with_reducible exact DL.r_c | with_reducible apply DL.r_andB | with_reducible apply DL.r_bin | with_reducible apply DL.r_un | with_reducible apply DL.r_test | with_reducible apply DL.r_notV | with_reducible apply DL.r_and | with_reducible apply DL.r_or | with_reducible apply DL.r_not | with_reducible apply DL.r_if | with_reducible apply DL.r_chainB | with_reducible exact DL.l_nil | with_reducible apply DL.l_cons | with_reducible apply DL.r_tup | with_reducible apply DL.r_lst | with_reducible apply DL.o_some | with_reducible exact DL.o_none | with_reducible apply DL.r_sl | with_reducible exact DL.a_nil | with_reducible apply DL.a_val | with_reducible apply DL.a_ref | (with_reducible apply DL.small_of; focus (first | omega | (simp <;> omega))) | with_reducible apply DL.r_callR | with_reducible apply DL.r_call | (first | exact e_is_row_of _ _ | exact e_is_row _ | exact e_is_below _ _ | exact e_is_whole _ | assumption) | (with_reducible apply DL.f_mod; (first | assumption | omega | focus (simp; omega))) | (with_reducible apply DL.f_div; (first | assumption | omega | focus (simp; omega))) | with_reducible apply DL.f_mulI | (with_reducible apply DL.wide_lt; (first | assumption | omega | focus (simp; omega))) | rfl | (focus ((try simp only [List.cons_append, List.nil_append, List.replicate_succ, List.replicate_zero, Nat.reduceSub, List.set_cons_zero, List.set_cons_succ, DL.with_arg, DL.with_own, DL.wipeD, List.map_cons, List.map_nil, DL.toArg, DL.back2, DL.back2a, DL.back, DL.back1]); rfl); done)))
    all_goals rfl
  | cons x gs =>
    show ∃ v r', d__law_draw [.arg (.lst [.list (PyData.int x :: gs.map PyData.int), .list (t.map .int), .int i, .int s]), .fz (.int m)] = .ok (.fz (.int v)) [.arg (.lst (encR r')), .no] ∧ 0 ≤ v ∧ v < m ∧ RlOk (b + 1) r'
    have hx0 : 0 ≤ x := gp x List.mem_cons_self
    have hsh : SeqAt.shaped (.list (PyData.int x :: gs.map PyData.int)) = true := shaped_ints (x :: gs)
    have hsm : (cutL (PyData.int x :: gs.map PyData.int) (some 1) none).length ≤ 1000 := (by
      rw [show (1 : Int) = ((1 : Nat) : Int) from rfl, cut_hi, List.length_drop, List.length_cons, List.length_map]
      have : gs.length + 1 ≤ 1000 := gl
      omega)
    have hcut : cutL (PyData.int x :: gs.map PyData.int) (some 1) none = gs.map PyData.int := by
      rw [show (1 : Int) = ((1 : Nat) : Int) from rfl, cut_hi]
      rfl
    have i1 : fInt (.bool true) = some (.fz (.int 1)) := rfl
    have i0 : fInt (.bool false) = some (.fz (.int 0)) := rfl
    have m1 := mul_1 (x / m)
    have m0 := mul_0 (x / m)
    have hn : fNe (.list (PyData.int x :: gs.map PyData.int)) (.list []) = some (.fz (.bool true)) := f_ne hsh rfl
    have hx00 : fIx (.list (PyData.int x :: gs.map PyData.int)) (.int 0) = some (.fz (.int x)) := f_ixL (n := 0) rfl
    by_cases hge : m ≤ x
    · have hq : fGe (.int x) (.int m) = some (.fz (.bool true)) := by
        show some (Vl.fz (.bool (decide (m ≤ x)))) = _
        rw [decide_eq_true hge]
      refine ⟨x % m, ⟨x / m :: gs, t, i, s⟩, ?_, Int.emod_nonneg _ (by omega), Int.emod_lt_of_pos _ h0, ⟨fun y hy => ?_, by have : (x :: gs).length ≤ 1000 := gl; simpa using this, t0, tl, tp, by show i ≤ b + 1; omega, s0, s1⟩⟩
      · unfold d__law_draw
        apply run_v rfl
        · focus ((try simp only [List.cons_append, List.nil_append, List.replicate_succ, List.replicate_zero, Nat.reduceSub, List.set_cons_zero, List.set_cons_succ, DL.with_arg, DL.with_own, DL.wipeD, List.map_cons, List.map_nil, DL.toArg, DL.back2, DL.back2a, DL.back, DL.back1]); rfl)
        · unfold sd__law_draw
          (repeat' (first | with_reducible apply DL.s_setI | with_reducible apply DL.s_app | with_reducible apply DL.s_ext | (with_reducible apply DL.m_arg; rfl) | (with_reducible apply DL.m_own; rfl) | (with_reducible apply DL.f_set; rfl; focus ((try simp only [List.cons_append, List.nil_append, List.replicate_succ, List.replicate_zero, Nat.reduceSub, List.set_cons_zero, List.set_cons_succ, DL.with_arg, DL.with_own, DL.wipeD, List.map_cons, List.map_nil, DL.toArg, DL.back2, DL.back2a, DL.back, DL.back1]); rfl)) | with_reducible apply DL.f_app | with_reducible apply DL.f_ext | (with_reducible apply DL.set_goal; focus ((try simp only [List.cons_append, List.nil_append, List.replicate_succ, List.replicate_zero, Nat.reduceSub, List.set_cons_zero, List.set_cons_succ, DL.with_arg, DL.with_own, DL.wipeD, List.map_cons, List.map_nil, DL.toArg, DL.back2, DL.back2a, DL.back, DL.back1]); rfl)) | with_reducible apply DL.s_seqG | with_reducible apply DL.step_b | with_reducible apply DL.k_nx | with_reducible exact DL.k_rt | with_reducible exact DL.k_ct | with_reducible exact DL.k_bk | with_reducible apply DL.s_asgG | with_reducible apply DL.s_asg | with_reducible apply DL.s_drop | with_reducible apply DL.s_ret | with_reducible apply DL.s_if | with_reducible exact DL.s_skip | (with_reducible apply DL.f_eq; (first | rfl | assumption); (first | rfl | assumption)) | (with_reducible apply DL.f_ne; (first | rfl | assumption); (first | rfl | assumption)) | with_reducible apply DL.f_addT | (with_reducible apply DL.f_ixT; assumption) | (with_reducible apply DL.f_ixL; assumption) | with_reducible apply DL.f_addL | with_reducible apply DL.s_par | with_reducible apply DL.s_for | with_reducible apply DL.i_it | with_reducible apply DL.i_r1 | with_reducible apply DL.r_lc | with_reducible apply DL.r_lc2 | with_reducible apply DL.i_enumT | with_reducible exact DL.t_yes | with_reducible apply DL.turn_e | with_reducible apply DL.g_tup | with_reducible apply DL.g_lst | with_reducible apply DL.g_cons | with_reducible exact DL.g_nil | with_reducible apply DL.g_n | (with_reducible apply DL.set_fz; rfl; focus ((try simp only [List.cons_append, List.nil_append, List.replicate_succ, List.replicate_zero, Nat.reduceSub, List.set_cons_zero, List.set_cons_succ, DL.with_arg, DL.with_own, DL.wipeD, List.map_cons, List.map_nil, DL.toArg, DL.back2, DL.back2a, DL.back, DL.back1]); rfl)) | (with_reducible apply DL.set_own; rfl; focus ((try simp only [List.cons_append, List.nil_append, List.replicate_succ, List.replicate_zero, Nat.reduceSub, List.set_cons_zero, List.set_cons_succ, DL.with_arg, DL.with_own, DL.wipeD, List.map_cons, List.map_nil, DL.toArg, DL.back2, DL.back2a, DL.back, DL.back1]); rfl)) | (with_reducible apply DL.p_t; (first | rfl | focus (simp [*]; done) | assumption)) | (with_reducible apply DL.p_f; (first | rfl | focus (simp [*]; done) | assumption)) | (with_reducible apply DL.v_fz; rfl) | (with_reducible apply DL.v_own; rfl) | (with_reducible apply DL.v_arg; rfl) | with_reducible exact DL.r_c | with_reducible apply DL.r_andB | with_reducible apply DL.r_bin | with_reducible apply DL.r_un | with_reducible apply DL.r_test | with_reducible apply DL.r_notV | with_reducible apply DL.r_and | with_reducible apply DL.r_or | with_reducible apply DL.r_not | with_reducible apply DL.r_if | with_reducible apply DL.r_chainB | with_reducible exact DL.l_nil | with_reducible apply DL.l_cons | with_reducible apply DL.r_tup | with_reducible apply DL.r_lst | with_reducible apply DL.o_some | with_reducible exact DL.o_none | with_reducible apply DL.r_sl | with_reducible exact DL.a_nil | with_reducible apply DL.a_val | with_reducible apply DL.a_ref | (with_reducible apply DL.small_of; focus (first | omega | (simp <;> omega))) | with_reducible apply DL.r_callR | with_reducible apply DL.r_call | (first | exact e_is_row_of _ _ | exact e_is_row _ | exact e_is_below _ _ | exact e_is_whole _ | assumption) | (with_reducible apply DL.f_mod; (first | assumption | omega | focus (simp; omega))) | (with_reducible apply DL.f_div; (first | assumption | omega | focus (simp; omega))) | with_reducible apply DL.f_mulI | (with_reducible apply DL.wide_lt; (first | assumption | omega | focus (simp; omega))) | rfl | (focus ((try simp only [List.cons_append, List.nil_append, List.replicate_succ, List.replicate_zero, Nat.reduceSub, List.set_cons_zero, List.set_cons_succ, DL.with_arg, DL.with_own, DL.wipeD, List.map_cons, List.map_nil, DL.toArg, DL.back2, DL.back2a, DL.back, DL.back1]); rfl); done)))
        all_goals first | rfl | (rw [hcut]; rfl)
      · rcases List.mem_cons.mp hy with rfl | hy
        · exact Int.ediv_nonneg hx0 (by omega)
        · exact gp y (List.mem_cons_of_mem _ hy)
    · have hq : fGe (.int x) (.int m) = some (.fz (.bool false)) := by
        show some (Vl.fz (.bool (decide (m ≤ x)))) = _
        rw [decide_eq_false hge]
      refine ⟨x % m, ⟨gs, t, i, s⟩, ?_, Int.emod_nonneg _ (by omega), Int.emod_lt_of_pos _ h0, ⟨fun y hy => gp y (List.mem_cons_of_mem _ hy), by have : (x :: gs).length ≤ 1000 := gl; have : gs.length + 1 ≤ 1000 := this; show gs.length ≤ 1000; omega, t0, tl, tp, by show i ≤ b + 1; omega, s0, s1⟩⟩
      · unfold d__law_draw
        apply run_v rfl
        · focus ((try simp only [List.cons_append, List.nil_append, List.replicate_succ, List.replicate_zero, Nat.reduceSub, List.set_cons_zero, List.set_cons_succ, DL.with_arg, DL.with_own, DL.wipeD, List.map_cons, List.map_nil, DL.toArg, DL.back2, DL.back2a, DL.back, DL.back1]); rfl)
        · unfold sd__law_draw
          (repeat' (first | with_reducible apply DL.s_setI | with_reducible apply DL.s_app | with_reducible apply DL.s_ext | (with_reducible apply DL.m_arg; rfl) | (with_reducible apply DL.m_own; rfl) | (with_reducible apply DL.f_set; rfl; focus ((try simp only [List.cons_append, List.nil_append, List.replicate_succ, List.replicate_zero, Nat.reduceSub, List.set_cons_zero, List.set_cons_succ, DL.with_arg, DL.with_own, DL.wipeD, List.map_cons, List.map_nil, DL.toArg, DL.back2, DL.back2a, DL.back, DL.back1]); rfl)) | with_reducible apply DL.f_app | with_reducible apply DL.f_ext | (with_reducible apply DL.set_goal; focus ((try simp only [List.cons_append, List.nil_append, List.replicate_succ, List.replicate_zero, Nat.reduceSub, List.set_cons_zero, List.set_cons_succ, DL.with_arg, DL.with_own, DL.wipeD, List.map_cons, List.map_nil, DL.toArg, DL.back2, DL.back2a, DL.back, DL.back1]); rfl)) | with_reducible apply DL.s_seqG | with_reducible apply DL.step_b | with_reducible apply DL.k_nx | with_reducible exact DL.k_rt | with_reducible exact DL.k_ct | with_reducible exact DL.k_bk | with_reducible apply DL.s_asgG | with_reducible apply DL.s_asg | with_reducible apply DL.s_drop | with_reducible apply DL.s_ret | with_reducible apply DL.s_if | with_reducible exact DL.s_skip | (with_reducible apply DL.f_eq; (first | rfl | assumption); (first | rfl | assumption)) | (with_reducible apply DL.f_ne; (first | rfl | assumption); (first | rfl | assumption)) | with_reducible apply DL.f_addT | (with_reducible apply DL.f_ixT; assumption) | (with_reducible apply DL.f_ixL; assumption) | with_reducible apply DL.f_addL | with_reducible apply DL.s_par | with_reducible apply DL.s_for | with_reducible apply DL.i_it | with_reducible apply DL.i_r1 | with_reducible apply DL.r_lc | with_reducible apply DL.r_lc2 | with_reducible apply DL.i_enumT | with_reducible exact DL.t_yes | with_reducible apply DL.turn_e | with_reducible apply DL.g_tup | with_reducible apply DL.g_lst | with_reducible apply DL.g_cons | with_reducible exact DL.g_nil | with_reducible apply DL.g_n | (with_reducible apply DL.set_fz; rfl; focus ((try simp only [List.cons_append, List.nil_append, List.replicate_succ, List.replicate_zero, Nat.reduceSub, List.set_cons_zero, List.set_cons_succ, DL.with_arg, DL.with_own, DL.wipeD, List.map_cons, List.map_nil, DL.toArg, DL.back2, DL.back2a, DL.back, DL.back1]); rfl)) | (with_reducible apply DL.set_own; rfl; focus ((try simp only [List.cons_append, List.nil_append, List.replicate_succ, List.replicate_zero, Nat.reduceSub, List.set_cons_zero, List.set_cons_succ, DL.with_arg, DL.with_own, DL.wipeD, List.map_cons, List.map_nil, DL.toArg, DL.back2, DL.back2a, DL.back, DL.back1]); rfl)) | (with_reducible apply DL.p_t; (first | rfl | focus (simp [*]; done) | assumption)) | (with_reducible apply DL.p_f; (first | rfl | focus (simp [*]; done) | assumption)) | (with_reducible apply DL.v_fz; rfl) | (with_reducible apply DL.v_own; rfl) | (with_reducible apply DL.v_arg; rfl) | with_reducible exact DL.r_c | with_reducible apply DL.r_andB | with_reducible apply DL.r_bin | with_reducible apply DL.r_un | with_reducible apply DL.r_test | with_reducible apply DL.r_notV | with_reducible apply DL.r_and | with_reducible apply DL.r_or | with_reducible apply DL.r_not | with_reducible apply DL.r_if | with_reducible apply DL.r_chainB | with_reducible exact DL.l_nil | with_reducible apply DL.l_cons | with_reducible apply DL.r_tup | with_reducible apply DL.r_lst | with_reducible apply DL.o_some | with_reducible exact DL.o_none | with_reducible apply DL.r_sl | with_reducible exact DL.a_nil | with_reducible apply DL.a_val | with_reducible apply DL.a_ref | (with_reducible apply DL.small_of; focus (first | omega | (simp <;> omega))) | with_reducible apply DL.r_callR | with_reducible apply DL.r_call | (first | exact e_is_row_of _ _ | exact e_is_row _ | exact e_is_below _ _ | exact e_is_whole _ | assumption) | (with_reducible apply DL.f_mod; (first | assumption | omega | focus (simp; omega))) | (with_reducible apply DL.f_div; (first | assumption | omega | focus (simp; omega))) | with_reducible apply DL.f_mulI | (with_reducible apply DL.wide_lt; (first | assumption | omega | focus (simp; omega))) | rfl | (focus ((try simp only [List.cons_append, List.nil_append, List.replicate_succ, List.replicate_zero, Nat.reduceSub, List.set_cons_zero, List.set_cons_succ, DL.with_arg, DL.with_own, DL.wipeD, List.map_cons, List.map_nil, DL.toArg, DL.back2, DL.back2a, DL.back, DL.back1]); rfl); done)))
        all_goals first | rfl | (rw [hcut]; rfl)

theorem p360 : fPow (.int 3) (.int 60) = some (.fz (.int (3 ^ 60))) := rfl
theorem p1018 : fPow (.int 10) (.int 18) = some (.fz (.int (10 ^ 18))) := rfl
theorem e_reel (ns : List Int) (h : ns.length ≤ 63) : ∃ r, d__law_reel [.fz (.dict [(.none, .list (ns.map PyData.int))])] = .ok (.own (.lst (encR r))) [.no] ∧ RlOk 0 r := by
  have e360 := p360
  have e1018 := p1018
  have e64 := p64
  have e63 := p63
  have hcut : cutL (ns.map PyData.int) none (some 63) = ns.map PyData.int := by
    rw [show (63 : Int) = ((63 : Nat) : Int) from rfl, cut_lo, List.take_of_length_le (by rw [List.length_map]; exact h)]
  have hsl : fSl (.dict [(.none, .list (ns.map PyData.int))]) none (some 63) = some (.own (.lst (ns.map PyData.int))) := by
    show some (Vl.own (.lst (cutL (ns.map PyData.int) none (some 63)))) = _
    rw [hcut]
  obtain ⟨δ', e1, s, sl, rfl, hs0, hs1, hsl1⟩ := for_inv (f := stepB (gN 2) (dAsg 1 (dBin fMod (dBin fAdd (dBin fAdd (dBin fMul (dVar 1) (dVar 1)) (dBin fMod (dVar 2) (dC (.int 1000000000000000003)))) (dC (.int 11))) (dBin fSub (dBin fMul (dBin fPow (dC (.int 2)) (dC (.int 64))) (dBin fPow (dC (.int 2)) (dC (.int 63)))) (dC (.int 1)))))) (P := fun δ => ∃ (s : Int) (sl : Sl), δ = [.fz (.dict [(.none, .list (ns.map PyData.int))]), .fz (.int s), sl, .no] ∧ 0 ≤ s ∧ s < 2 ^ 127 ∧ sl.held = false) (ns.map PyData.int) (fun d hd δ hP => by
    obtain ⟨n, hn, rfl⟩ := List.mem_map.mp hd
    obtain ⟨s, sl, rfl, h0, h1, h2⟩ := hP
    have ws : wide s = true := wide_lt (by omega)
    have hS0 : 0 ≤ (s * s + n % 1000000000000000003 + 11) % (2 ^ 64 * 2 ^ 63 - 1) := Int.emod_nonneg _ (by decide)
    have hS1 : (s * s + n % 1000000000000000003 + 11) % (2 ^ 64 * 2 ^ 63 - 1) < (2 ^ 64 * 2 ^ 63 - 1) := Int.emod_lt_of_pos _ (by decide)
    refine ⟨[.fz (.dict [(.none, .list (ns.map PyData.int))]), .fz (.int ((s * s + n % 1000000000000000003 + 11) % (2 ^ 64 * 2 ^ 63 - 1))), .fz (.int n), .no], ?_, _, _, rfl, hS0, Int.lt_trans hS1 (by decide), rfl⟩
    apply step_b
    · cases sl with
      | no => (repeat' (first | with_reducible apply DL.s_setI | with_reducible apply DL.s_app | with_reducible apply DL.s_ext | (with_reducible apply DL.m_arg; rfl) | (with_reducible apply DL.m_own; rfl) | (with_reducible apply DL.f_set; rfl; focus ((try simp only [List.cons_append, List.nil_append, List.replicate_succ, List.replicate_zero, Nat.reduceSub, List.set_cons_zero, List.set_cons_succ, DL.with_arg, DL.with_own, DL.wipeD, List.map_cons, List.map_nil, DL.toArg, DL.back2, DL.back2a, DL.back, DL.back1]); rfl)) | with_reducible apply DL.f_app | with_reducible apply DL.f_ext | (with_reducible apply DL.set_goal; focus ((try simp only [List.cons_append, List.nil_append, List.replicate_succ, List.replicate_zero, Nat.reduceSub, List.set_cons_zero, List.set_cons_succ, DL.with_arg, DL.with_own, DL.wipeD, List.map_cons, List.map_nil, DL.toArg, DL.back2, DL.back2a, DL.back, DL.back1]); rfl)) | with_reducible apply DL.s_seqG | with_reducible apply DL.step_b | with_reducible apply DL.k_nx | with_reducible exact DL.k_rt | with_reducible exact DL.k_ct | with_reducible exact DL.k_bk | with_reducible apply DL.s_asgG | with_reducible apply DL.s_asg | with_reducible apply DL.s_drop | with_reducible apply DL.s_ret | with_reducible apply DL.s_if | with_reducible exact DL.s_skip | (with_reducible apply DL.f_eq; (first | rfl | assumption); (first | rfl | assumption)) | (with_reducible apply DL.f_ne; (first | rfl | assumption); (first | rfl | assumption)) | with_reducible apply DL.f_addT | (with_reducible apply DL.f_ixT; assumption) | (with_reducible apply DL.f_ixL; assumption) | with_reducible apply DL.f_addL | with_reducible apply DL.s_par | with_reducible apply DL.s_for | with_reducible apply DL.i_it | with_reducible apply DL.i_r1 | with_reducible apply DL.r_lc | with_reducible apply DL.r_lc2 | with_reducible apply DL.i_enumT | with_reducible exact DL.t_yes | with_reducible apply DL.turn_e | with_reducible apply DL.g_tup | with_reducible apply DL.g_lst | with_reducible apply DL.g_cons | with_reducible exact DL.g_nil | with_reducible apply DL.g_n | (with_reducible apply DL.set_fz; rfl; focus ((try simp only [List.cons_append, List.nil_append, List.replicate_succ, List.replicate_zero, Nat.reduceSub, List.set_cons_zero, List.set_cons_succ, DL.with_arg, DL.with_own, DL.wipeD, List.map_cons, List.map_nil, DL.toArg, DL.back2, DL.back2a, DL.back, DL.back1]); rfl)) | (with_reducible apply DL.set_own; rfl; focus ((try simp only [List.cons_append, List.nil_append, List.replicate_succ, List.replicate_zero, Nat.reduceSub, List.set_cons_zero, List.set_cons_succ, DL.with_arg, DL.with_own, DL.wipeD, List.map_cons, List.map_nil, DL.toArg, DL.back2, DL.back2a, DL.back, DL.back1]); rfl)) | (with_reducible apply DL.p_t; (first | rfl | focus (simp [*]; done) | assumption)) | (with_reducible apply DL.p_f; (first | rfl | focus (simp [*]; done) | assumption)) | (with_reducible apply DL.v_fz; rfl) | (with_reducible apply DL.v_own; rfl) | (with_reducible apply DL.v_arg; rfl) | with_reducible exact DL.r_c | with_reducible apply DL.r_andB | with_reducible apply DL.r_bin | with_reducible apply DL.r_un | with_reducible apply DL.r_test | with_reducible apply DL.r_notV | with_reducible apply DL.r_and | with_reducible apply DL.r_or | with_reducible apply DL.r_not | with_reducible apply DL.r_if | with_reducible apply DL.r_chainB | with_reducible exact DL.l_nil | with_reducible apply DL.l_cons | with_reducible apply DL.r_tup | with_reducible apply DL.r_lst | with_reducible apply DL.o_some | with_reducible exact DL.o_none | with_reducible apply DL.r_sl | with_reducible exact DL.a_nil | with_reducible apply DL.a_val | with_reducible apply DL.a_ref | (with_reducible apply DL.small_of; focus (first | omega | (simp <;> omega))) | with_reducible apply DL.r_callR | with_reducible apply DL.r_call | (first | exact e_is_row_of _ _ | exact e_is_row _ | exact e_is_below _ _ | exact e_is_whole _ | assumption) | (with_reducible apply DL.f_mod; (first | assumption | omega | focus (simp; omega))) | (with_reducible apply DL.f_div; (first | assumption | omega | focus (simp; omega))) | with_reducible apply DL.f_mulI | (with_reducible apply DL.wide_lt; (first | assumption | omega | focus (simp; omega))) | rfl | (focus ((try simp only [List.cons_append, List.nil_append, List.replicate_succ, List.replicate_zero, Nat.reduceSub, List.set_cons_zero, List.set_cons_succ, DL.with_arg, DL.with_own, DL.wipeD, List.map_cons, List.map_nil, DL.toArg, DL.back2, DL.back2a, DL.back, DL.back1]); rfl); done)))
      | fz d => (repeat' (first | with_reducible apply DL.s_setI | with_reducible apply DL.s_app | with_reducible apply DL.s_ext | (with_reducible apply DL.m_arg; rfl) | (with_reducible apply DL.m_own; rfl) | (with_reducible apply DL.f_set; rfl; focus ((try simp only [List.cons_append, List.nil_append, List.replicate_succ, List.replicate_zero, Nat.reduceSub, List.set_cons_zero, List.set_cons_succ, DL.with_arg, DL.with_own, DL.wipeD, List.map_cons, List.map_nil, DL.toArg, DL.back2, DL.back2a, DL.back, DL.back1]); rfl)) | with_reducible apply DL.f_app | with_reducible apply DL.f_ext | (with_reducible apply DL.set_goal; focus ((try simp only [List.cons_append, List.nil_append, List.replicate_succ, List.replicate_zero, Nat.reduceSub, List.set_cons_zero, List.set_cons_succ, DL.with_arg, DL.with_own, DL.wipeD, List.map_cons, List.map_nil, DL.toArg, DL.back2, DL.back2a, DL.back, DL.back1]); rfl)) | with_reducible apply DL.s_seqG | with_reducible apply DL.step_b | with_reducible apply DL.k_nx | with_reducible exact DL.k_rt | with_reducible exact DL.k_ct | with_reducible exact DL.k_bk | with_reducible apply DL.s_asgG | with_reducible apply DL.s_asg | with_reducible apply DL.s_drop | with_reducible apply DL.s_ret | with_reducible apply DL.s_if | with_reducible exact DL.s_skip | (with_reducible apply DL.f_eq; (first | rfl | assumption); (first | rfl | assumption)) | (with_reducible apply DL.f_ne; (first | rfl | assumption); (first | rfl | assumption)) | with_reducible apply DL.f_addT | (with_reducible apply DL.f_ixT; assumption) | (with_reducible apply DL.f_ixL; assumption) | with_reducible apply DL.f_addL | with_reducible apply DL.s_par | with_reducible apply DL.s_for | with_reducible apply DL.i_it | with_reducible apply DL.i_r1 | with_reducible apply DL.r_lc | with_reducible apply DL.r_lc2 | with_reducible apply DL.i_enumT | with_reducible exact DL.t_yes | with_reducible apply DL.turn_e | with_reducible apply DL.g_tup | with_reducible apply DL.g_lst | with_reducible apply DL.g_cons | with_reducible exact DL.g_nil | with_reducible apply DL.g_n | (with_reducible apply DL.set_fz; rfl; focus ((try simp only [List.cons_append, List.nil_append, List.replicate_succ, List.replicate_zero, Nat.reduceSub, List.set_cons_zero, List.set_cons_succ, DL.with_arg, DL.with_own, DL.wipeD, List.map_cons, List.map_nil, DL.toArg, DL.back2, DL.back2a, DL.back, DL.back1]); rfl)) | (with_reducible apply DL.set_own; rfl; focus ((try simp only [List.cons_append, List.nil_append, List.replicate_succ, List.replicate_zero, Nat.reduceSub, List.set_cons_zero, List.set_cons_succ, DL.with_arg, DL.with_own, DL.wipeD, List.map_cons, List.map_nil, DL.toArg, DL.back2, DL.back2a, DL.back, DL.back1]); rfl)) | (with_reducible apply DL.p_t; (first | rfl | focus (simp [*]; done) | assumption)) | (with_reducible apply DL.p_f; (first | rfl | focus (simp [*]; done) | assumption)) | (with_reducible apply DL.v_fz; rfl) | (with_reducible apply DL.v_own; rfl) | (with_reducible apply DL.v_arg; rfl) | with_reducible exact DL.r_c | with_reducible apply DL.r_andB | with_reducible apply DL.r_bin | with_reducible apply DL.r_un | with_reducible apply DL.r_test | with_reducible apply DL.r_notV | with_reducible apply DL.r_and | with_reducible apply DL.r_or | with_reducible apply DL.r_not | with_reducible apply DL.r_if | with_reducible apply DL.r_chainB | with_reducible exact DL.l_nil | with_reducible apply DL.l_cons | with_reducible apply DL.r_tup | with_reducible apply DL.r_lst | with_reducible apply DL.o_some | with_reducible exact DL.o_none | with_reducible apply DL.r_sl | with_reducible exact DL.a_nil | with_reducible apply DL.a_val | with_reducible apply DL.a_ref | (with_reducible apply DL.small_of; focus (first | omega | (simp <;> omega))) | with_reducible apply DL.r_callR | with_reducible apply DL.r_call | (first | exact e_is_row_of _ _ | exact e_is_row _ | exact e_is_below _ _ | exact e_is_whole _ | assumption) | (with_reducible apply DL.f_mod; (first | assumption | omega | focus (simp; omega))) | (with_reducible apply DL.f_div; (first | assumption | omega | focus (simp; omega))) | with_reducible apply DL.f_mulI | (with_reducible apply DL.wide_lt; (first | assumption | omega | focus (simp; omega))) | rfl | (focus ((try simp only [List.cons_append, List.nil_append, List.replicate_succ, List.replicate_zero, Nat.reduceSub, List.set_cons_zero, List.set_cons_succ, DL.with_arg, DL.with_own, DL.wipeD, List.map_cons, List.map_nil, DL.toArg, DL.back2, DL.back2a, DL.back, DL.back1]); rfl); done)))
      | own c => cases h2
      | arg c => cases h2
    · (repeat' (first | with_reducible apply DL.s_setI | with_reducible apply DL.s_app | with_reducible apply DL.s_ext | (with_reducible apply DL.m_arg; rfl) | (with_reducible apply DL.m_own; rfl) | (with_reducible apply DL.f_set; rfl; focus ((try simp only [List.cons_append, List.nil_append, List.replicate_succ, List.replicate_zero, Nat.reduceSub, List.set_cons_zero, List.set_cons_succ, DL.with_arg, DL.with_own, DL.wipeD, List.map_cons, List.map_nil, DL.toArg, DL.back2, DL.back2a, DL.back, DL.back1]); rfl)) | with_reducible apply DL.f_app | with_reducible apply DL.f_ext | (with_reducible apply DL.set_goal; focus ((try simp only [List.cons_append, List.nil_append, List.replicate_succ, List.replicate_zero, Nat.reduceSub, List.set_cons_zero, List.set_cons_succ, DL.with_arg, DL.with_own, DL.wipeD, List.map_cons, List.map_nil, DL.toArg, DL.back2, DL.back2a, DL.back, DL.back1]); rfl)) | with_reducible apply DL.s_seqG | with_reducible apply DL.step_b | with_reducible apply DL.k_nx | with_reducible exact DL.k_rt | with_reducible exact DL.k_ct | with_reducible exact DL.k_bk | with_reducible apply DL.s_asgG | with_reducible apply DL.s_asg | with_reducible apply DL.s_drop | with_reducible apply DL.s_ret | with_reducible apply DL.s_if | with_reducible exact DL.s_skip | (with_reducible apply DL.f_eq; (first | rfl | assumption); (first | rfl | assumption)) | (with_reducible apply DL.f_ne; (first | rfl | assumption); (first | rfl | assumption)) | with_reducible apply DL.f_addT | (with_reducible apply DL.f_ixT; assumption) | (with_reducible apply DL.f_ixL; assumption) | with_reducible apply DL.f_addL | with_reducible apply DL.s_par | with_reducible apply DL.s_for | with_reducible apply DL.i_it | with_reducible apply DL.i_r1 | with_reducible apply DL.r_lc | with_reducible apply DL.r_lc2 | with_reducible apply DL.i_enumT | with_reducible exact DL.t_yes | with_reducible apply DL.turn_e | with_reducible apply DL.g_tup | with_reducible apply DL.g_lst | with_reducible apply DL.g_cons | with_reducible exact DL.g_nil | with_reducible apply DL.g_n | (with_reducible apply DL.set_fz; rfl; focus ((try simp only [List.cons_append, List.nil_append, List.replicate_succ, List.replicate_zero, Nat.reduceSub, List.set_cons_zero, List.set_cons_succ, DL.with_arg, DL.with_own, DL.wipeD, List.map_cons, List.map_nil, DL.toArg, DL.back2, DL.back2a, DL.back, DL.back1]); rfl)) | (with_reducible apply DL.set_own; rfl; focus ((try simp only [List.cons_append, List.nil_append, List.replicate_succ, List.replicate_zero, Nat.reduceSub, List.set_cons_zero, List.set_cons_succ, DL.with_arg, DL.with_own, DL.wipeD, List.map_cons, List.map_nil, DL.toArg, DL.back2, DL.back2a, DL.back, DL.back1]); rfl)) | (with_reducible apply DL.p_t; (first | rfl | focus (simp [*]; done) | assumption)) | (with_reducible apply DL.p_f; (first | rfl | focus (simp [*]; done) | assumption)) | (with_reducible apply DL.v_fz; rfl) | (with_reducible apply DL.v_own; rfl) | (with_reducible apply DL.v_arg; rfl) | with_reducible exact DL.r_c | with_reducible apply DL.r_andB | with_reducible apply DL.r_bin | with_reducible apply DL.r_un | with_reducible apply DL.r_test | with_reducible apply DL.r_notV | with_reducible apply DL.r_and | with_reducible apply DL.r_or | with_reducible apply DL.r_not | with_reducible apply DL.r_if | with_reducible apply DL.r_chainB | with_reducible exact DL.l_nil | with_reducible apply DL.l_cons | with_reducible apply DL.r_tup | with_reducible apply DL.r_lst | with_reducible apply DL.o_some | with_reducible exact DL.o_none | with_reducible apply DL.r_sl | with_reducible exact DL.a_nil | with_reducible apply DL.a_val | with_reducible apply DL.a_ref | (with_reducible apply DL.small_of; focus (first | omega | (simp <;> omega))) | with_reducible apply DL.r_callR | with_reducible apply DL.r_call | (first | exact e_is_row_of _ _ | exact e_is_row _ | exact e_is_below _ _ | exact e_is_whole _ | assumption) | (with_reducible apply DL.f_mod; (first | assumption | omega | focus (simp; omega))) | (with_reducible apply DL.f_div; (first | assumption | omega | focus (simp; omega))) | with_reducible apply DL.f_mulI | (with_reducible apply DL.wide_lt; (first | assumption | omega | focus (simp; omega))) | rfl | (focus ((try simp only [List.cons_append, List.nil_append, List.replicate_succ, List.replicate_zero, Nat.reduceSub, List.set_cons_zero, List.set_cons_succ, DL.with_arg, DL.with_own, DL.wipeD, List.map_cons, List.map_nil, DL.toArg, DL.back2, DL.back2a, DL.back, DL.back1]); rfl); done)))) [.fz (.dict [(.none, .list (ns.map PyData.int))]), .fz (.int (3 ^ 60)), .no, .no] ⟨_, _, rfl, by decide, by decide, rfl⟩
  have hsm : small (ns.map PyData.int).length = true := small_of (by rw [List.length_map]; omega)
  have hfr : ∀ x : Sl, freeAt [2] [.fz (.dict [(.none, .list (ns.map PyData.int))]), .fz (.int s), sl, x] = true := fun x => by
    show (!sl.held && true) = true
    rw [hsl1]
    rfl
  have hbk : ∀ x y : Sl, x.held = false → back [.fz (.dict [(.none, .list (ns.map PyData.int))]), .fz (.int s), sl, x] [.fz (.dict [(.none, .list (ns.map PyData.int))]), .fz (.int s), y, x] = [.fz (.dict [(.none, .list (ns.map PyData.int))]), .fz (.int s), sl, x] := fun x y hx => by
    have hb : ∀ u v : Sl, u.held = false → back1 u v = u := fun u v hu => by cases u <;> first | rfl | cases hu
    show [back1 (.fz (.dict [(.none, .list (ns.map PyData.int))])) (.fz (.dict [(.none, .list (ns.map PyData.int))])), back1 (.fz (.int s)) (.fz (.int s)), back1 sl y, back1 x x] = _
    rw [hb sl y hsl1, hb x x hx]
    rfl
  have hf1 : (ns.filterMap fun n => if decide (10 ^ 18 ≤ n) = true then some (PyData.int (n - 10 ^ 18)) else none) = (ns.filterMap fun n => if decide (10 ^ 18 ≤ n) = true then some (n - 10 ^ 18) else none).map PyData.int := by
    rw [List.map_filterMap]
    congr 1
    funext n
    split <;> rfl
  refine ⟨⟨ns.filterMap fun n => if decide (10 ^ 18 ≤ n) = true then some (n - 10 ^ 18) else none, (ns.map fun n => n % 1000003) ++ [41], 0, s⟩, ?_, ?_⟩
  · unfold d__law_reel
    apply run_o rfl
    · focus ((try simp only [List.cons_append, List.nil_append, List.replicate_succ, List.replicate_zero, Nat.reduceSub, List.set_cons_zero, List.set_cons_succ, DL.with_arg, DL.with_own, DL.wipeD, List.map_cons, List.map_nil, DL.toArg, DL.back2, DL.back2a, DL.back, DL.back1]); rfl)
    · unfold sd__law_reel
      (repeat' (first | with_reducible apply DL.s_setI | with_reducible apply DL.s_app | with_reducible apply DL.s_ext | (with_reducible apply DL.m_arg; rfl) | (with_reducible apply DL.m_own; rfl) | (with_reducible apply DL.f_set; rfl; focus ((try simp only [List.cons_append, List.nil_append, List.replicate_succ, List.replicate_zero, Nat.reduceSub, List.set_cons_zero, List.set_cons_succ, DL.with_arg, DL.with_own, DL.wipeD, List.map_cons, List.map_nil, DL.toArg, DL.back2, DL.back2a, DL.back, DL.back1]); rfl)) | with_reducible apply DL.f_app | with_reducible apply DL.f_ext | (with_reducible apply DL.set_goal; focus ((try simp only [List.cons_append, List.nil_append, List.replicate_succ, List.replicate_zero, Nat.reduceSub, List.set_cons_zero, List.set_cons_succ, DL.with_arg, DL.with_own, DL.wipeD, List.map_cons, List.map_nil, DL.toArg, DL.back2, DL.back2a, DL.back, DL.back1]); rfl)) | with_reducible apply DL.s_seqG | with_reducible apply DL.step_b | with_reducible apply DL.k_nx | with_reducible exact DL.k_rt | with_reducible exact DL.k_ct | with_reducible exact DL.k_bk | with_reducible apply DL.s_asgG | with_reducible apply DL.s_asg | with_reducible apply DL.s_drop | with_reducible apply DL.s_ret | with_reducible apply DL.s_if | with_reducible exact DL.s_skip | (with_reducible apply DL.f_eq; (first | rfl | assumption); (first | rfl | assumption)) | (with_reducible apply DL.f_ne; (first | rfl | assumption); (first | rfl | assumption)) | with_reducible apply DL.f_addT | (with_reducible apply DL.f_ixT; assumption) | (with_reducible apply DL.f_ixL; assumption) | with_reducible apply DL.f_addL | with_reducible apply DL.s_par | with_reducible apply DL.s_for | with_reducible apply DL.i_it | with_reducible apply DL.i_r1 | with_reducible apply DL.r_lc | with_reducible apply DL.r_lc2 | with_reducible apply DL.i_enumT | with_reducible exact DL.t_yes | with_reducible apply DL.turn_e | with_reducible apply DL.g_tup | with_reducible apply DL.g_lst | with_reducible apply DL.g_cons | with_reducible exact DL.g_nil | with_reducible apply DL.g_n | (with_reducible apply DL.set_fz; rfl; focus ((try simp only [List.cons_append, List.nil_append, List.replicate_succ, List.replicate_zero, Nat.reduceSub, List.set_cons_zero, List.set_cons_succ, DL.with_arg, DL.with_own, DL.wipeD, List.map_cons, List.map_nil, DL.toArg, DL.back2, DL.back2a, DL.back, DL.back1]); rfl)) | (with_reducible apply DL.set_own; rfl; focus ((try simp only [List.cons_append, List.nil_append, List.replicate_succ, List.replicate_zero, Nat.reduceSub, List.set_cons_zero, List.set_cons_succ, DL.with_arg, DL.with_own, DL.wipeD, List.map_cons, List.map_nil, DL.toArg, DL.back2, DL.back2a, DL.back, DL.back1]); rfl)) | (with_reducible apply DL.p_t; (first | rfl | focus (simp [*]; done) | assumption)) | (with_reducible apply DL.p_f; (first | rfl | focus (simp [*]; done) | assumption)) | (with_reducible apply DL.v_fz; rfl) | (with_reducible apply DL.v_own; rfl) | (with_reducible apply DL.v_arg; rfl) | with_reducible exact DL.r_c | with_reducible apply DL.r_andB | with_reducible apply DL.r_bin | with_reducible apply DL.r_un | with_reducible apply DL.r_test | with_reducible apply DL.r_notV | with_reducible apply DL.r_and | with_reducible apply DL.r_or | with_reducible apply DL.r_not | with_reducible apply DL.r_if | with_reducible apply DL.r_chainB | with_reducible exact DL.l_nil | with_reducible apply DL.l_cons | with_reducible apply DL.r_tup | with_reducible apply DL.r_lst | with_reducible apply DL.o_some | with_reducible exact DL.o_none | with_reducible apply DL.r_sl | with_reducible exact DL.a_nil | with_reducible apply DL.a_val | with_reducible apply DL.a_ref | (with_reducible apply DL.small_of; focus (first | omega | (simp <;> omega))) | with_reducible apply DL.r_callR | with_reducible apply DL.r_call | (first | exact e_is_row_of _ _ | exact e_is_row _ | exact e_is_below _ _ | exact e_is_whole _ | assumption) | (with_reducible apply DL.f_mod; (first | assumption | omega | focus (simp; omega))) | (with_reducible apply DL.f_div; (first | assumption | omega | focus (simp; omega))) | with_reducible apply DL.f_mulI | (with_reducible apply DL.wide_lt; (first | assumption | omega | focus (simp; omega))) | rfl | (focus ((try simp only [List.cons_append, List.nil_append, List.replicate_succ, List.replicate_zero, Nat.reduceSub, List.set_cons_zero, List.set_cons_succ, DL.with_arg, DL.with_own, DL.wipeD, List.map_cons, List.map_nil, DL.toArg, DL.back2, DL.back2a, DL.back, DL.back1]); rfl); done)))
      · exact (Bool.and_eq_true _ _).mpr ⟨hsm, hfr _⟩
      · refine DL.comp_map (φ := fun n => if decide (10 ^ 18 ≤ n) = true then some (PyData.int (n - 10 ^ 18)) else none) ns fun n hn => ?_
        apply turn_c
        · focus ((try simp only [List.cons_append, List.nil_append, List.replicate_succ, List.replicate_zero, Nat.reduceSub, List.set_cons_zero, List.set_cons_succ, DL.with_arg, DL.with_own, DL.wipeD, List.map_cons, List.map_nil, DL.toArg, DL.back2, DL.back2a, DL.back, DL.back1]); rfl)
        · (repeat' (first | with_reducible apply DL.s_setI | with_reducible apply DL.s_app | with_reducible apply DL.s_ext | (with_reducible apply DL.m_arg; rfl) | (with_reducible apply DL.m_own; rfl) | (with_reducible apply DL.f_set; rfl; focus ((try simp only [List.cons_append, List.nil_append, List.replicate_succ, List.replicate_zero, Nat.reduceSub, List.set_cons_zero, List.set_cons_succ, DL.with_arg, DL.with_own, DL.wipeD, List.map_cons, List.map_nil, DL.toArg, DL.back2, DL.back2a, DL.back, DL.back1]); rfl)) | with_reducible apply DL.f_app | with_reducible apply DL.f_ext | (with_reducible apply DL.set_goal; focus ((try simp only [List.cons_append, List.nil_append, List.replicate_succ, List.replicate_zero, Nat.reduceSub, List.set_cons_zero, List.set_cons_succ, DL.with_arg, DL.with_own, DL.wipeD, List.map_cons, List.map_nil, DL.toArg, DL.back2, DL.back2a, DL.back, DL.back1]); rfl)) | with_reducible apply DL.s_seqG | with_reducible apply DL.step_b | with_reducible apply DL.k_nx | with_reducible exact DL.k_rt | with_reducible exact DL.k_ct | with_reducible exact DL.k_bk | with_reducible apply DL.s_asgG | with_reducible apply DL.s_asg | with_reducible apply DL.s_drop | with_reducible apply DL.s_ret | with_reducible apply DL.s_if | with_reducible exact DL.s_skip | (with_reducible apply DL.f_eq; (first | rfl | assumption); (first | rfl | assumption)) | (with_reducible apply DL.f_ne; (first | rfl | assumption); (first | rfl | assumption)) | with_reducible apply DL.f_addT | (with_reducible apply DL.f_ixT; assumption) | (with_reducible apply DL.f_ixL; assumption) | with_reducible apply DL.f_addL | with_reducible apply DL.s_par | with_reducible apply DL.s_for | with_reducible apply DL.i_it | with_reducible apply DL.i_r1 | with_reducible apply DL.r_lc | with_reducible apply DL.r_lc2 | with_reducible apply DL.i_enumT | with_reducible exact DL.t_yes | with_reducible apply DL.turn_e | with_reducible apply DL.g_tup | with_reducible apply DL.g_lst | with_reducible apply DL.g_cons | with_reducible exact DL.g_nil | with_reducible apply DL.g_n | (with_reducible apply DL.set_fz; rfl; focus ((try simp only [List.cons_append, List.nil_append, List.replicate_succ, List.replicate_zero, Nat.reduceSub, List.set_cons_zero, List.set_cons_succ, DL.with_arg, DL.with_own, DL.wipeD, List.map_cons, List.map_nil, DL.toArg, DL.back2, DL.back2a, DL.back, DL.back1]); rfl)) | (with_reducible apply DL.set_own; rfl; focus ((try simp only [List.cons_append, List.nil_append, List.replicate_succ, List.replicate_zero, Nat.reduceSub, List.set_cons_zero, List.set_cons_succ, DL.with_arg, DL.with_own, DL.wipeD, List.map_cons, List.map_nil, DL.toArg, DL.back2, DL.back2a, DL.back, DL.back1]); rfl)) | (with_reducible apply DL.p_t; (first | rfl | focus (simp [*]; done) | assumption)) | (with_reducible apply DL.p_f; (first | rfl | focus (simp [*]; done) | assumption)) | (with_reducible apply DL.v_fz; rfl) | (with_reducible apply DL.v_own; rfl) | (with_reducible apply DL.v_arg; rfl) | with_reducible exact DL.r_c | with_reducible apply DL.r_andB | with_reducible apply DL.r_bin | with_reducible apply DL.r_un | with_reducible apply DL.r_test | with_reducible apply DL.r_notV | with_reducible apply DL.r_and | with_reducible apply DL.r_or | with_reducible apply DL.r_not | with_reducible apply DL.r_if | with_reducible apply DL.r_chainB | with_reducible exact DL.l_nil | with_reducible apply DL.l_cons | with_reducible apply DL.r_tup | with_reducible apply DL.r_lst | with_reducible apply DL.o_some | with_reducible exact DL.o_none | with_reducible apply DL.r_sl | with_reducible exact DL.a_nil | with_reducible apply DL.a_val | with_reducible apply DL.a_ref | (with_reducible apply DL.small_of; focus (first | omega | (simp <;> omega))) | with_reducible apply DL.r_callR | with_reducible apply DL.r_call | (first | exact e_is_row_of _ _ | exact e_is_row _ | exact e_is_below _ _ | exact e_is_whole _ | assumption) | (with_reducible apply DL.f_mod; (first | assumption | omega | focus (simp; omega))) | (with_reducible apply DL.f_div; (first | assumption | omega | focus (simp; omega))) | with_reducible apply DL.f_mulI | (with_reducible apply DL.wide_lt; (first | assumption | omega | focus (simp; omega))) | rfl | (focus ((try simp only [List.cons_append, List.nil_append, List.replicate_succ, List.replicate_zero, Nat.reduceSub, List.set_cons_zero, List.set_cons_succ, DL.with_arg, DL.with_own, DL.wipeD, List.map_cons, List.map_nil, DL.toArg, DL.back2, DL.back2a, DL.back, DL.back1]); rfl); done)))
        · (repeat' (first | with_reducible apply DL.s_setI | with_reducible apply DL.s_app | with_reducible apply DL.s_ext | (with_reducible apply DL.m_arg; rfl) | (with_reducible apply DL.m_own; rfl) | (with_reducible apply DL.f_set; rfl; focus ((try simp only [List.cons_append, List.nil_append, List.replicate_succ, List.replicate_zero, Nat.reduceSub, List.set_cons_zero, List.set_cons_succ, DL.with_arg, DL.with_own, DL.wipeD, List.map_cons, List.map_nil, DL.toArg, DL.back2, DL.back2a, DL.back, DL.back1]); rfl)) | with_reducible apply DL.f_app | with_reducible apply DL.f_ext | (with_reducible apply DL.set_goal; focus ((try simp only [List.cons_append, List.nil_append, List.replicate_succ, List.replicate_zero, Nat.reduceSub, List.set_cons_zero, List.set_cons_succ, DL.with_arg, DL.with_own, DL.wipeD, List.map_cons, List.map_nil, DL.toArg, DL.back2, DL.back2a, DL.back, DL.back1]); rfl)) | with_reducible apply DL.s_seqG | with_reducible apply DL.step_b | with_reducible apply DL.k_nx | with_reducible exact DL.k_rt | with_reducible exact DL.k_ct | with_reducible exact DL.k_bk | with_reducible apply DL.s_asgG | with_reducible apply DL.s_asg | with_reducible apply DL.s_drop | with_reducible apply DL.s_ret | with_reducible apply DL.s_if | with_reducible exact DL.s_skip | (with_reducible apply DL.f_eq; (first | rfl | assumption); (first | rfl | assumption)) | (with_reducible apply DL.f_ne; (first | rfl | assumption); (first | rfl | assumption)) | with_reducible apply DL.f_addT | (with_reducible apply DL.f_ixT; assumption) | (with_reducible apply DL.f_ixL; assumption) | with_reducible apply DL.f_addL | with_reducible apply DL.s_par | with_reducible apply DL.s_for | with_reducible apply DL.i_it | with_reducible apply DL.i_r1 | with_reducible apply DL.r_lc | with_reducible apply DL.r_lc2 | with_reducible apply DL.i_enumT | with_reducible exact DL.t_yes | with_reducible apply DL.turn_e | with_reducible apply DL.g_tup | with_reducible apply DL.g_lst | with_reducible apply DL.g_cons | with_reducible exact DL.g_nil | with_reducible apply DL.g_n | (with_reducible apply DL.set_fz; rfl; focus ((try simp only [List.cons_append, List.nil_append, List.replicate_succ, List.replicate_zero, Nat.reduceSub, List.set_cons_zero, List.set_cons_succ, DL.with_arg, DL.with_own, DL.wipeD, List.map_cons, List.map_nil, DL.toArg, DL.back2, DL.back2a, DL.back, DL.back1]); rfl)) | (with_reducible apply DL.set_own; rfl; focus ((try simp only [List.cons_append, List.nil_append, List.replicate_succ, List.replicate_zero, Nat.reduceSub, List.set_cons_zero, List.set_cons_succ, DL.with_arg, DL.with_own, DL.wipeD, List.map_cons, List.map_nil, DL.toArg, DL.back2, DL.back2a, DL.back, DL.back1]); rfl)) | (with_reducible apply DL.p_t; (first | rfl | focus (simp [*]; done) | assumption)) | (with_reducible apply DL.p_f; (first | rfl | focus (simp [*]; done) | assumption)) | (with_reducible apply DL.v_fz; rfl) | (with_reducible apply DL.v_own; rfl) | (with_reducible apply DL.v_arg; rfl) | with_reducible exact DL.r_c | with_reducible apply DL.r_andB | with_reducible apply DL.r_bin | with_reducible apply DL.r_un | with_reducible apply DL.r_test | with_reducible apply DL.r_notV | with_reducible apply DL.r_and | with_reducible apply DL.r_or | with_reducible apply DL.r_not | with_reducible apply DL.r_if | with_reducible apply DL.r_chainB | with_reducible exact DL.l_nil | with_reducible apply DL.l_cons | with_reducible apply DL.r_tup | with_reducible apply DL.r_lst | with_reducible apply DL.o_some | with_reducible exact DL.o_none | with_reducible apply DL.r_sl | with_reducible exact DL.a_nil | with_reducible apply DL.a_val | with_reducible apply DL.a_ref | (with_reducible apply DL.small_of; focus (first | omega | (simp <;> omega))) | with_reducible apply DL.r_callR | with_reducible apply DL.r_call | (first | exact e_is_row_of _ _ | exact e_is_row _ | exact e_is_below _ _ | exact e_is_whole _ | assumption) | (with_reducible apply DL.f_mod; (first | assumption | omega | focus (simp; omega))) | (with_reducible apply DL.f_div; (first | assumption | omega | focus (simp; omega))) | with_reducible apply DL.f_mulI | (with_reducible apply DL.wide_lt; (first | assumption | omega | focus (simp; omega))) | rfl | (focus ((try simp only [List.cons_append, List.nil_append, List.replicate_succ, List.replicate_zero, Nat.reduceSub, List.set_cons_zero, List.set_cons_succ, DL.with_arg, DL.with_own, DL.wipeD, List.map_cons, List.map_nil, DL.toArg, DL.back2, DL.back2a, DL.back, DL.back1]); rfl); done)))
        · (repeat' (first | with_reducible apply DL.s_setI | with_reducible apply DL.s_app | with_reducible apply DL.s_ext | (with_reducible apply DL.m_arg; rfl) | (with_reducible apply DL.m_own; rfl) | (with_reducible apply DL.f_set; rfl; focus ((try simp only [List.cons_append, List.nil_append, List.replicate_succ, List.replicate_zero, Nat.reduceSub, List.set_cons_zero, List.set_cons_succ, DL.with_arg, DL.with_own, DL.wipeD, List.map_cons, List.map_nil, DL.toArg, DL.back2, DL.back2a, DL.back, DL.back1]); rfl)) | with_reducible apply DL.f_app | with_reducible apply DL.f_ext | (with_reducible apply DL.set_goal; focus ((try simp only [List.cons_append, List.nil_append, List.replicate_succ, List.replicate_zero, Nat.reduceSub, List.set_cons_zero, List.set_cons_succ, DL.with_arg, DL.with_own, DL.wipeD, List.map_cons, List.map_nil, DL.toArg, DL.back2, DL.back2a, DL.back, DL.back1]); rfl)) | with_reducible apply DL.s_seqG | with_reducible apply DL.step_b | with_reducible apply DL.k_nx | with_reducible exact DL.k_rt | with_reducible exact DL.k_ct | with_reducible exact DL.k_bk | with_reducible apply DL.s_asgG | with_reducible apply DL.s_asg | with_reducible apply DL.s_drop | with_reducible apply DL.s_ret | with_reducible apply DL.s_if | with_reducible exact DL.s_skip | (with_reducible apply DL.f_eq; (first | rfl | assumption); (first | rfl | assumption)) | (with_reducible apply DL.f_ne; (first | rfl | assumption); (first | rfl | assumption)) | with_reducible apply DL.f_addT | (with_reducible apply DL.f_ixT; assumption) | (with_reducible apply DL.f_ixL; assumption) | with_reducible apply DL.f_addL | with_reducible apply DL.s_par | with_reducible apply DL.s_for | with_reducible apply DL.i_it | with_reducible apply DL.i_r1 | with_reducible apply DL.r_lc | with_reducible apply DL.r_lc2 | with_reducible apply DL.i_enumT | with_reducible exact DL.t_yes | with_reducible apply DL.turn_e | with_reducible apply DL.g_tup | with_reducible apply DL.g_lst | with_reducible apply DL.g_cons | with_reducible exact DL.g_nil | with_reducible apply DL.g_n | (with_reducible apply DL.set_fz; rfl; focus ((try simp only [List.cons_append, List.nil_append, List.replicate_succ, List.replicate_zero, Nat.reduceSub, List.set_cons_zero, List.set_cons_succ, DL.with_arg, DL.with_own, DL.wipeD, List.map_cons, List.map_nil, DL.toArg, DL.back2, DL.back2a, DL.back, DL.back1]); rfl)) | (with_reducible apply DL.set_own; rfl; focus ((try simp only [List.cons_append, List.nil_append, List.replicate_succ, List.replicate_zero, Nat.reduceSub, List.set_cons_zero, List.set_cons_succ, DL.with_arg, DL.with_own, DL.wipeD, List.map_cons, List.map_nil, DL.toArg, DL.back2, DL.back2a, DL.back, DL.back1]); rfl)) | (with_reducible apply DL.p_t; (first | rfl | focus (simp [*]; done) | assumption)) | (with_reducible apply DL.p_f; (first | rfl | focus (simp [*]; done) | assumption)) | (with_reducible apply DL.v_fz; rfl) | (with_reducible apply DL.v_own; rfl) | (with_reducible apply DL.v_arg; rfl) | with_reducible exact DL.r_c | with_reducible apply DL.r_andB | with_reducible apply DL.r_bin | with_reducible apply DL.r_un | with_reducible apply DL.r_test | with_reducible apply DL.r_notV | with_reducible apply DL.r_and | with_reducible apply DL.r_or | with_reducible apply DL.r_not | with_reducible apply DL.r_if | with_reducible apply DL.r_chainB | with_reducible exact DL.l_nil | with_reducible apply DL.l_cons | with_reducible apply DL.r_tup | with_reducible apply DL.r_lst | with_reducible apply DL.o_some | with_reducible exact DL.o_none | with_reducible apply DL.r_sl | with_reducible exact DL.a_nil | with_reducible apply DL.a_val | with_reducible apply DL.a_ref | (with_reducible apply DL.small_of; focus (first | omega | (simp <;> omega))) | with_reducible apply DL.r_callR | with_reducible apply DL.r_call | (first | exact e_is_row_of _ _ | exact e_is_row _ | exact e_is_below _ _ | exact e_is_whole _ | assumption) | (with_reducible apply DL.f_mod; (first | assumption | omega | focus (simp; omega))) | (with_reducible apply DL.f_div; (first | assumption | omega | focus (simp; omega))) | with_reducible apply DL.f_mulI | (with_reducible apply DL.wide_lt; (first | assumption | omega | focus (simp; omega))) | rfl | (focus ((try simp only [List.cons_append, List.nil_append, List.replicate_succ, List.replicate_zero, Nat.reduceSub, List.set_cons_zero, List.set_cons_succ, DL.with_arg, DL.with_own, DL.wipeD, List.map_cons, List.map_nil, DL.toArg, DL.back2, DL.back2a, DL.back, DL.back1]); rfl); done)))
        · (repeat' (first | with_reducible apply DL.s_setI | with_reducible apply DL.s_app | with_reducible apply DL.s_ext | (with_reducible apply DL.m_arg; rfl) | (with_reducible apply DL.m_own; rfl) | (with_reducible apply DL.f_set; rfl; focus ((try simp only [List.cons_append, List.nil_append, List.replicate_succ, List.replicate_zero, Nat.reduceSub, List.set_cons_zero, List.set_cons_succ, DL.with_arg, DL.with_own, DL.wipeD, List.map_cons, List.map_nil, DL.toArg, DL.back2, DL.back2a, DL.back, DL.back1]); rfl)) | with_reducible apply DL.f_app | with_reducible apply DL.f_ext | (with_reducible apply DL.set_goal; focus ((try simp only [List.cons_append, List.nil_append, List.replicate_succ, List.replicate_zero, Nat.reduceSub, List.set_cons_zero, List.set_cons_succ, DL.with_arg, DL.with_own, DL.wipeD, List.map_cons, List.map_nil, DL.toArg, DL.back2, DL.back2a, DL.back, DL.back1]); rfl)) | with_reducible apply DL.s_seqG | with_reducible apply DL.step_b | with_reducible apply DL.k_nx | with_reducible exact DL.k_rt | with_reducible exact DL.k_ct | with_reducible exact DL.k_bk | with_reducible apply DL.s_asgG | with_reducible apply DL.s_asg | with_reducible apply DL.s_drop | with_reducible apply DL.s_ret | with_reducible apply DL.s_if | with_reducible exact DL.s_skip | (with_reducible apply DL.f_eq; (first | rfl | assumption); (first | rfl | assumption)) | (with_reducible apply DL.f_ne; (first | rfl | assumption); (first | rfl | assumption)) | with_reducible apply DL.f_addT | (with_reducible apply DL.f_ixT; assumption) | (with_reducible apply DL.f_ixL; assumption) | with_reducible apply DL.f_addL | with_reducible apply DL.s_par | with_reducible apply DL.s_for | with_reducible apply DL.i_it | with_reducible apply DL.i_r1 | with_reducible apply DL.r_lc | with_reducible apply DL.r_lc2 | with_reducible apply DL.i_enumT | with_reducible exact DL.t_yes | with_reducible apply DL.turn_e | with_reducible apply DL.g_tup | with_reducible apply DL.g_lst | with_reducible apply DL.g_cons | with_reducible exact DL.g_nil | with_reducible apply DL.g_n | (with_reducible apply DL.set_fz; rfl; focus ((try simp only [List.cons_append, List.nil_append, List.replicate_succ, List.replicate_zero, Nat.reduceSub, List.set_cons_zero, List.set_cons_succ, DL.with_arg, DL.with_own, DL.wipeD, List.map_cons, List.map_nil, DL.toArg, DL.back2, DL.back2a, DL.back, DL.back1]); rfl)) | (with_reducible apply DL.set_own; rfl; focus ((try simp only [List.cons_append, List.nil_append, List.replicate_succ, List.replicate_zero, Nat.reduceSub, List.set_cons_zero, List.set_cons_succ, DL.with_arg, DL.with_own, DL.wipeD, List.map_cons, List.map_nil, DL.toArg, DL.back2, DL.back2a, DL.back, DL.back1]); rfl)) | (with_reducible apply DL.p_t; (first | rfl | focus (simp [*]; done) | assumption)) | (with_reducible apply DL.p_f; (first | rfl | focus (simp [*]; done) | assumption)) | (with_reducible apply DL.v_fz; rfl) | (with_reducible apply DL.v_own; rfl) | (with_reducible apply DL.v_arg; rfl) | with_reducible exact DL.r_c | with_reducible apply DL.r_andB | with_reducible apply DL.r_bin | with_reducible apply DL.r_un | with_reducible apply DL.r_test | with_reducible apply DL.r_notV | with_reducible apply DL.r_and | with_reducible apply DL.r_or | with_reducible apply DL.r_not | with_reducible apply DL.r_if | with_reducible apply DL.r_chainB | with_reducible exact DL.l_nil | with_reducible apply DL.l_cons | with_reducible apply DL.r_tup | with_reducible apply DL.r_lst | with_reducible apply DL.o_some | with_reducible exact DL.o_none | with_reducible apply DL.r_sl | with_reducible exact DL.a_nil | with_reducible apply DL.a_val | with_reducible apply DL.a_ref | (with_reducible apply DL.small_of; focus (first | omega | (simp <;> omega))) | with_reducible apply DL.r_callR | with_reducible apply DL.r_call | (first | exact e_is_row_of _ _ | exact e_is_row _ | exact e_is_below _ _ | exact e_is_whole _ | assumption) | (with_reducible apply DL.f_mod; (first | assumption | omega | focus (simp; omega))) | (with_reducible apply DL.f_div; (first | assumption | omega | focus (simp; omega))) | with_reducible apply DL.f_mulI | (with_reducible apply DL.wide_lt; (first | assumption | omega | focus (simp; omega))) | rfl | (focus ((try simp only [List.cons_append, List.nil_append, List.replicate_succ, List.replicate_zero, Nat.reduceSub, List.set_cons_zero, List.set_cons_succ, DL.with_arg, DL.with_own, DL.wipeD, List.map_cons, List.map_nil, DL.toArg, DL.back2, DL.back2a, DL.back, DL.back1]); rfl); done)))
        · exact hbk _ _ rfl
        · exact hbk _ _ rfl
      (repeat' (first | with_reducible apply DL.s_setI | with_reducible apply DL.s_app | with_reducible apply DL.s_ext | (with_reducible apply DL.m_arg; rfl) | (with_reducible apply DL.m_own; rfl) | (with_reducible apply DL.f_set; rfl; focus ((try simp only [List.cons_append, List.nil_append, List.replicate_succ, List.replicate_zero, Nat.reduceSub, List.set_cons_zero, List.set_cons_succ, DL.with_arg, DL.with_own, DL.wipeD, List.map_cons, List.map_nil, DL.toArg, DL.back2, DL.back2a, DL.back, DL.back1]); rfl)) | with_reducible apply DL.f_app | with_reducible apply DL.f_ext | (with_reducible apply DL.set_goal; focus ((try simp only [List.cons_append, List.nil_append, List.replicate_succ, List.replicate_zero, Nat.reduceSub, List.set_cons_zero, List.set_cons_succ, DL.with_arg, DL.with_own, DL.wipeD, List.map_cons, List.map_nil, DL.toArg, DL.back2, DL.back2a, DL.back, DL.back1]); rfl)) | with_reducible apply DL.s_seqG | with_reducible apply DL.step_b | with_reducible apply DL.k_nx | with_reducible exact DL.k_rt | with_reducible exact DL.k_ct | with_reducible exact DL.k_bk | with_reducible apply DL.s_asgG | with_reducible apply DL.s_asg | with_reducible apply DL.s_drop | with_reducible apply DL.s_ret | with_reducible apply DL.s_if | with_reducible exact DL.s_skip | (with_reducible apply DL.f_eq; (first | rfl | assumption); (first | rfl | assumption)) | (with_reducible apply DL.f_ne; (first | rfl | assumption); (first | rfl | assumption)) | with_reducible apply DL.f_addT | (with_reducible apply DL.f_ixT; assumption) | (with_reducible apply DL.f_ixL; assumption) | with_reducible apply DL.f_addL | with_reducible apply DL.s_par | with_reducible apply DL.s_for | with_reducible apply DL.i_it | with_reducible apply DL.i_r1 | with_reducible apply DL.r_lc | with_reducible apply DL.r_lc2 | with_reducible apply DL.i_enumT | with_reducible exact DL.t_yes | with_reducible apply DL.turn_e | with_reducible apply DL.g_tup | with_reducible apply DL.g_lst | with_reducible apply DL.g_cons | with_reducible exact DL.g_nil | with_reducible apply DL.g_n | (with_reducible apply DL.set_fz; rfl; focus ((try simp only [List.cons_append, List.nil_append, List.replicate_succ, List.replicate_zero, Nat.reduceSub, List.set_cons_zero, List.set_cons_succ, DL.with_arg, DL.with_own, DL.wipeD, List.map_cons, List.map_nil, DL.toArg, DL.back2, DL.back2a, DL.back, DL.back1]); rfl)) | (with_reducible apply DL.set_own; rfl; focus ((try simp only [List.cons_append, List.nil_append, List.replicate_succ, List.replicate_zero, Nat.reduceSub, List.set_cons_zero, List.set_cons_succ, DL.with_arg, DL.with_own, DL.wipeD, List.map_cons, List.map_nil, DL.toArg, DL.back2, DL.back2a, DL.back, DL.back1]); rfl)) | (with_reducible apply DL.p_t; (first | rfl | focus (simp [*]; done) | assumption)) | (with_reducible apply DL.p_f; (first | rfl | focus (simp [*]; done) | assumption)) | (with_reducible apply DL.v_fz; rfl) | (with_reducible apply DL.v_own; rfl) | (with_reducible apply DL.v_arg; rfl) | with_reducible exact DL.r_c | with_reducible apply DL.r_andB | with_reducible apply DL.r_bin | with_reducible apply DL.r_un | with_reducible apply DL.r_test | with_reducible apply DL.r_notV | with_reducible apply DL.r_and | with_reducible apply DL.r_or | with_reducible apply DL.r_not | with_reducible apply DL.r_if | with_reducible apply DL.r_chainB | with_reducible exact DL.l_nil | with_reducible apply DL.l_cons | with_reducible apply DL.r_tup | with_reducible apply DL.r_lst | with_reducible apply DL.o_some | with_reducible exact DL.o_none | with_reducible apply DL.r_sl | with_reducible exact DL.a_nil | with_reducible apply DL.a_val | with_reducible apply DL.a_ref | (with_reducible apply DL.small_of; focus (first | omega | (simp <;> omega))) | with_reducible apply DL.r_callR | with_reducible apply DL.r_call | (first | exact e_is_row_of _ _ | exact e_is_row _ | exact e_is_below _ _ | exact e_is_whole _ | assumption) | (with_reducible apply DL.f_mod; (first | assumption | omega | focus (simp; omega))) | (with_reducible apply DL.f_div; (first | assumption | omega | focus (simp; omega))) | with_reducible apply DL.f_mulI | (with_reducible apply DL.wide_lt; (first | assumption | omega | focus (simp; omega))) | rfl | (focus ((try simp only [List.cons_append, List.nil_append, List.replicate_succ, List.replicate_zero, Nat.reduceSub, List.set_cons_zero, List.set_cons_succ, DL.with_arg, DL.with_own, DL.wipeD, List.map_cons, List.map_nil, DL.toArg, DL.back2, DL.back2a, DL.back, DL.back1]); rfl); done)))
      · exact (Bool.and_eq_true _ _).mpr ⟨hsm, hfr _⟩
      · refine comp_map1 (ψ := fun n => PyData.int (n % 1000003)) fun n hn => ?_
        apply turn_1
        · focus ((try simp only [List.cons_append, List.nil_append, List.replicate_succ, List.replicate_zero, Nat.reduceSub, List.set_cons_zero, List.set_cons_succ, DL.with_arg, DL.with_own, DL.wipeD, List.map_cons, List.map_nil, DL.toArg, DL.back2, DL.back2a, DL.back, DL.back1]); rfl)
        · (repeat' (first | with_reducible apply DL.s_setI | with_reducible apply DL.s_app | with_reducible apply DL.s_ext | (with_reducible apply DL.m_arg; rfl) | (with_reducible apply DL.m_own; rfl) | (with_reducible apply DL.f_set; rfl; focus ((try simp only [List.cons_append, List.nil_append, List.replicate_succ, List.replicate_zero, Nat.reduceSub, List.set_cons_zero, List.set_cons_succ, DL.with_arg, DL.with_own, DL.wipeD, List.map_cons, List.map_nil, DL.toArg, DL.back2, DL.back2a, DL.back, DL.back1]); rfl)) | with_reducible apply DL.f_app | with_reducible apply DL.f_ext | (with_reducible apply DL.set_goal; focus ((try simp only [List.cons_append, List.nil_append, List.replicate_succ, List.replicate_zero, Nat.reduceSub, List.set_cons_zero, List.set_cons_succ, DL.with_arg, DL.with_own, DL.wipeD, List.map_cons, List.map_nil, DL.toArg, DL.back2, DL.back2a, DL.back, DL.back1]); rfl)) | with_reducible apply DL.s_seqG | with_reducible apply DL.step_b | with_reducible apply DL.k_nx | with_reducible exact DL.k_rt | with_reducible exact DL.k_ct | with_reducible exact DL.k_bk | with_reducible apply DL.s_asgG | with_reducible apply DL.s_asg | with_reducible apply DL.s_drop | with_reducible apply DL.s_ret | with_reducible apply DL.s_if | with_reducible exact DL.s_skip | (with_reducible apply DL.f_eq; (first | rfl | assumption); (first | rfl | assumption)) | (with_reducible apply DL.f_ne; (first | rfl | assumption); (first | rfl | assumption)) | with_reducible apply DL.f_addT | (with_reducible apply DL.f_ixT; assumption) | (with_reducible apply DL.f_ixL; assumption) | with_reducible apply DL.f_addL | with_reducible apply DL.s_par | with_reducible apply DL.s_for | with_reducible apply DL.i_it | with_reducible apply DL.i_r1 | with_reducible apply DL.r_lc | with_reducible apply DL.r_lc2 | with_reducible apply DL.i_enumT | with_reducible exact DL.t_yes | with_reducible apply DL.turn_e | with_reducible apply DL.g_tup | with_reducible apply DL.g_lst | with_reducible apply DL.g_cons | with_reducible exact DL.g_nil | with_reducible apply DL.g_n | (with_reducible apply DL.set_fz; rfl; focus ((try simp only [List.cons_append, List.nil_append, List.replicate_succ, List.replicate_zero, Nat.reduceSub, List.set_cons_zero, List.set_cons_succ, DL.with_arg, DL.with_own, DL.wipeD, List.map_cons, List.map_nil, DL.toArg, DL.back2, DL.back2a, DL.back, DL.back1]); rfl)) | (with_reducible apply DL.set_own; rfl; focus ((try simp only [List.cons_append, List.nil_append, List.replicate_succ, List.replicate_zero, Nat.reduceSub, List.set_cons_zero, List.set_cons_succ, DL.with_arg, DL.with_own, DL.wipeD, List.map_cons, List.map_nil, DL.toArg, DL.back2, DL.back2a, DL.back, DL.back1]); rfl)) | (with_reducible apply DL.p_t; (first | rfl | focus (simp [*]; done) | assumption)) | (with_reducible apply DL.p_f; (first | rfl | focus (simp [*]; done) | assumption)) | (with_reducible apply DL.v_fz; rfl) | (with_reducible apply DL.v_own; rfl) | (with_reducible apply DL.v_arg; rfl) | with_reducible exact DL.r_c | with_reducible apply DL.r_andB | with_reducible apply DL.r_bin | with_reducible apply DL.r_un | with_reducible apply DL.r_test | with_reducible apply DL.r_notV | with_reducible apply DL.r_and | with_reducible apply DL.r_or | with_reducible apply DL.r_not | with_reducible apply DL.r_if | with_reducible apply DL.r_chainB | with_reducible exact DL.l_nil | with_reducible apply DL.l_cons | with_reducible apply DL.r_tup | with_reducible apply DL.r_lst | with_reducible apply DL.o_some | with_reducible exact DL.o_none | with_reducible apply DL.r_sl | with_reducible exact DL.a_nil | with_reducible apply DL.a_val | with_reducible apply DL.a_ref | (with_reducible apply DL.small_of; focus (first | omega | (simp <;> omega))) | with_reducible apply DL.r_callR | with_reducible apply DL.r_call | (first | exact e_is_row_of _ _ | exact e_is_row _ | exact e_is_below _ _ | exact e_is_whole _ | assumption) | (with_reducible apply DL.f_mod; (first | assumption | omega | focus (simp; omega))) | (with_reducible apply DL.f_div; (first | assumption | omega | focus (simp; omega))) | with_reducible apply DL.f_mulI | (with_reducible apply DL.wide_lt; (first | assumption | omega | focus (simp; omega))) | rfl | (focus ((try simp only [List.cons_append, List.nil_append, List.replicate_succ, List.replicate_zero, Nat.reduceSub, List.set_cons_zero, List.set_cons_succ, DL.with_arg, DL.with_own, DL.wipeD, List.map_cons, List.map_nil, DL.toArg, DL.back2, DL.back2a, DL.back, DL.back1]); rfl); done)))
        · (repeat' (first | with_reducible apply DL.s_setI | with_reducible apply DL.s_app | with_reducible apply DL.s_ext | (with_reducible apply DL.m_arg; rfl) | (with_reducible apply DL.m_own; rfl) | (with_reducible apply DL.f_set; rfl; focus ((try simp only [List.cons_append, List.nil_append, List.replicate_succ, List.replicate_zero, Nat.reduceSub, List.set_cons_zero, List.set_cons_succ, DL.with_arg, DL.with_own, DL.wipeD, List.map_cons, List.map_nil, DL.toArg, DL.back2, DL.back2a, DL.back, DL.back1]); rfl)) | with_reducible apply DL.f_app | with_reducible apply DL.f_ext | (with_reducible apply DL.set_goal; focus ((try simp only [List.cons_append, List.nil_append, List.replicate_succ, List.replicate_zero, Nat.reduceSub, List.set_cons_zero, List.set_cons_succ, DL.with_arg, DL.with_own, DL.wipeD, List.map_cons, List.map_nil, DL.toArg, DL.back2, DL.back2a, DL.back, DL.back1]); rfl)) | with_reducible apply DL.s_seqG | with_reducible apply DL.step_b | with_reducible apply DL.k_nx | with_reducible exact DL.k_rt | with_reducible exact DL.k_ct | with_reducible exact DL.k_bk | with_reducible apply DL.s_asgG | with_reducible apply DL.s_asg | with_reducible apply DL.s_drop | with_reducible apply DL.s_ret | with_reducible apply DL.s_if | with_reducible exact DL.s_skip | (with_reducible apply DL.f_eq; (first | rfl | assumption); (first | rfl | assumption)) | (with_reducible apply DL.f_ne; (first | rfl | assumption); (first | rfl | assumption)) | with_reducible apply DL.f_addT | (with_reducible apply DL.f_ixT; assumption) | (with_reducible apply DL.f_ixL; assumption) | with_reducible apply DL.f_addL | with_reducible apply DL.s_par | with_reducible apply DL.s_for | with_reducible apply DL.i_it | with_reducible apply DL.i_r1 | with_reducible apply DL.r_lc | with_reducible apply DL.r_lc2 | with_reducible apply DL.i_enumT | with_reducible exact DL.t_yes | with_reducible apply DL.turn_e | with_reducible apply DL.g_tup | with_reducible apply DL.g_lst | with_reducible apply DL.g_cons | with_reducible exact DL.g_nil | with_reducible apply DL.g_n | (with_reducible apply DL.set_fz; rfl; focus ((try simp only [List.cons_append, List.nil_append, List.replicate_succ, List.replicate_zero, Nat.reduceSub, List.set_cons_zero, List.set_cons_succ, DL.with_arg, DL.with_own, DL.wipeD, List.map_cons, List.map_nil, DL.toArg, DL.back2, DL.back2a, DL.back, DL.back1]); rfl)) | (with_reducible apply DL.set_own; rfl; focus ((try simp only [List.cons_append, List.nil_append, List.replicate_succ, List.replicate_zero, Nat.reduceSub, List.set_cons_zero, List.set_cons_succ, DL.with_arg, DL.with_own, DL.wipeD, List.map_cons, List.map_nil, DL.toArg, DL.back2, DL.back2a, DL.back, DL.back1]); rfl)) | (with_reducible apply DL.p_t; (first | rfl | focus (simp [*]; done) | assumption)) | (with_reducible apply DL.p_f; (first | rfl | focus (simp [*]; done) | assumption)) | (with_reducible apply DL.v_fz; rfl) | (with_reducible apply DL.v_own; rfl) | (with_reducible apply DL.v_arg; rfl) | with_reducible exact DL.r_c | with_reducible apply DL.r_andB | with_reducible apply DL.r_bin | with_reducible apply DL.r_un | with_reducible apply DL.r_test | with_reducible apply DL.r_notV | with_reducible apply DL.r_and | with_reducible apply DL.r_or | with_reducible apply DL.r_not | with_reducible apply DL.r_if | with_reducible apply DL.r_chainB | with_reducible exact DL.l_nil | with_reducible apply DL.l_cons | with_reducible apply DL.r_tup | with_reducible apply DL.r_lst | with_reducible apply DL.o_some | with_reducible exact DL.o_none | with_reducible apply DL.r_sl | with_reducible exact DL.a_nil | with_reducible apply DL.a_val | with_reducible apply DL.a_ref | (with_reducible apply DL.small_of; focus (first | omega | (simp <;> omega))) | with_reducible apply DL.r_callR | with_reducible apply DL.r_call | (first | exact e_is_row_of _ _ | exact e_is_row _ | exact e_is_below _ _ | exact e_is_whole _ | assumption) | (with_reducible apply DL.f_mod; (first | assumption | omega | focus (simp; omega))) | (with_reducible apply DL.f_div; (first | assumption | omega | focus (simp; omega))) | with_reducible apply DL.f_mulI | (with_reducible apply DL.wide_lt; (first | assumption | omega | focus (simp; omega))) | rfl | (focus ((try simp only [List.cons_append, List.nil_append, List.replicate_succ, List.replicate_zero, Nat.reduceSub, List.set_cons_zero, List.set_cons_succ, DL.with_arg, DL.with_own, DL.wipeD, List.map_cons, List.map_nil, DL.toArg, DL.back2, DL.back2a, DL.back, DL.back1]); rfl); done)))
        · (repeat' (first | with_reducible apply DL.s_setI | with_reducible apply DL.s_app | with_reducible apply DL.s_ext | (with_reducible apply DL.m_arg; rfl) | (with_reducible apply DL.m_own; rfl) | (with_reducible apply DL.f_set; rfl; focus ((try simp only [List.cons_append, List.nil_append, List.replicate_succ, List.replicate_zero, Nat.reduceSub, List.set_cons_zero, List.set_cons_succ, DL.with_arg, DL.with_own, DL.wipeD, List.map_cons, List.map_nil, DL.toArg, DL.back2, DL.back2a, DL.back, DL.back1]); rfl)) | with_reducible apply DL.f_app | with_reducible apply DL.f_ext | (with_reducible apply DL.set_goal; focus ((try simp only [List.cons_append, List.nil_append, List.replicate_succ, List.replicate_zero, Nat.reduceSub, List.set_cons_zero, List.set_cons_succ, DL.with_arg, DL.with_own, DL.wipeD, List.map_cons, List.map_nil, DL.toArg, DL.back2, DL.back2a, DL.back, DL.back1]); rfl)) | with_reducible apply DL.s_seqG | with_reducible apply DL.step_b | with_reducible apply DL.k_nx | with_reducible exact DL.k_rt | with_reducible exact DL.k_ct | with_reducible exact DL.k_bk | with_reducible apply DL.s_asgG | with_reducible apply DL.s_asg | with_reducible apply DL.s_drop | with_reducible apply DL.s_ret | with_reducible apply DL.s_if | with_reducible exact DL.s_skip | (with_reducible apply DL.f_eq; (first | rfl | assumption); (first | rfl | assumption)) | (with_reducible apply DL.f_ne; (first | rfl | assumption); (first | rfl | assumption)) | with_reducible apply DL.f_addT | (with_reducible apply DL.f_ixT; assumption) | (with_reducible apply DL.f_ixL; assumption) | with_reducible apply DL.f_addL | with_reducible apply DL.s_par | with_reducible apply DL.s_for | with_reducible apply DL.i_it | with_reducible apply DL.i_r1 | with_reducible apply DL.r_lc | with_reducible apply DL.r_lc2 | with_reducible apply DL.i_enumT | with_reducible exact DL.t_yes | with_reducible apply DL.turn_e | with_reducible apply DL.g_tup | with_reducible apply DL.g_lst | with_reducible apply DL.g_cons | with_reducible exact DL.g_nil | with_reducible apply DL.g_n | (with_reducible apply DL.set_fz; rfl; focus ((try simp only [List.cons_append, List.nil_append, List.replicate_succ, List.replicate_zero, Nat.reduceSub, List.set_cons_zero, List.set_cons_succ, DL.with_arg, DL.with_own, DL.wipeD, List.map_cons, List.map_nil, DL.toArg, DL.back2, DL.back2a, DL.back, DL.back1]); rfl)) | (with_reducible apply DL.set_own; rfl; focus ((try simp only [List.cons_append, List.nil_append, List.replicate_succ, List.replicate_zero, Nat.reduceSub, List.set_cons_zero, List.set_cons_succ, DL.with_arg, DL.with_own, DL.wipeD, List.map_cons, List.map_nil, DL.toArg, DL.back2, DL.back2a, DL.back, DL.back1]); rfl)) | (with_reducible apply DL.p_t; (first | rfl | focus (simp [*]; done) | assumption)) | (with_reducible apply DL.p_f; (first | rfl | focus (simp [*]; done) | assumption)) | (with_reducible apply DL.v_fz; rfl) | (with_reducible apply DL.v_own; rfl) | (with_reducible apply DL.v_arg; rfl) | with_reducible exact DL.r_c | with_reducible apply DL.r_andB | with_reducible apply DL.r_bin | with_reducible apply DL.r_un | with_reducible apply DL.r_test | with_reducible apply DL.r_notV | with_reducible apply DL.r_and | with_reducible apply DL.r_or | with_reducible apply DL.r_not | with_reducible apply DL.r_if | with_reducible apply DL.r_chainB | with_reducible exact DL.l_nil | with_reducible apply DL.l_cons | with_reducible apply DL.r_tup | with_reducible apply DL.r_lst | with_reducible apply DL.o_some | with_reducible exact DL.o_none | with_reducible apply DL.r_sl | with_reducible exact DL.a_nil | with_reducible apply DL.a_val | with_reducible apply DL.a_ref | (with_reducible apply DL.small_of; focus (first | omega | (simp <;> omega))) | with_reducible apply DL.r_callR | with_reducible apply DL.r_call | (first | exact e_is_row_of _ _ | exact e_is_row _ | exact e_is_below _ _ | exact e_is_whole _ | assumption) | (with_reducible apply DL.f_mod; (first | assumption | omega | focus (simp; omega))) | (with_reducible apply DL.f_div; (first | assumption | omega | focus (simp; omega))) | with_reducible apply DL.f_mulI | (with_reducible apply DL.wide_lt; (first | assumption | omega | focus (simp; omega))) | rfl | (focus ((try simp only [List.cons_append, List.nil_append, List.replicate_succ, List.replicate_zero, Nat.reduceSub, List.set_cons_zero, List.set_cons_succ, DL.with_arg, DL.with_own, DL.wipeD, List.map_cons, List.map_nil, DL.toArg, DL.back2, DL.back2a, DL.back, DL.back1]); rfl); done)))
        · exact hbk _ _ rfl
      (repeat' (first | with_reducible apply DL.s_setI | with_reducible apply DL.s_app | with_reducible apply DL.s_ext | (with_reducible apply DL.m_arg; rfl) | (with_reducible apply DL.m_own; rfl) | (with_reducible apply DL.f_set; rfl; focus ((try simp only [List.cons_append, List.nil_append, List.replicate_succ, List.replicate_zero, Nat.reduceSub, List.set_cons_zero, List.set_cons_succ, DL.with_arg, DL.with_own, DL.wipeD, List.map_cons, List.map_nil, DL.toArg, DL.back2, DL.back2a, DL.back, DL.back1]); rfl)) | with_reducible apply DL.f_app | with_reducible apply DL.f_ext | (with_reducible apply DL.set_goal; focus ((try simp only [List.cons_append, List.nil_append, List.replicate_succ, List.replicate_zero, Nat.reduceSub, List.set_cons_zero, List.set_cons_succ, DL.with_arg, DL.with_own, DL.wipeD, List.map_cons, List.map_nil, DL.toArg, DL.back2, DL.back2a, DL.back, DL.back1]); rfl)) | with_reducible apply DL.s_seqG | with_reducible apply DL.step_b | with_reducible apply DL.k_nx | with_reducible exact DL.k_rt | with_reducible exact DL.k_ct | with_reducible exact DL.k_bk | with_reducible apply DL.s_asgG | with_reducible apply DL.s_asg | with_reducible apply DL.s_drop | with_reducible apply DL.s_ret | with_reducible apply DL.s_if | with_reducible exact DL.s_skip | (with_reducible apply DL.f_eq; (first | rfl | assumption); (first | rfl | assumption)) | (with_reducible apply DL.f_ne; (first | rfl | assumption); (first | rfl | assumption)) | with_reducible apply DL.f_addT | (with_reducible apply DL.f_ixT; assumption) | (with_reducible apply DL.f_ixL; assumption) | with_reducible apply DL.f_addL | with_reducible apply DL.s_par | with_reducible apply DL.s_for | with_reducible apply DL.i_it | with_reducible apply DL.i_r1 | with_reducible apply DL.r_lc | with_reducible apply DL.r_lc2 | with_reducible apply DL.i_enumT | with_reducible exact DL.t_yes | with_reducible apply DL.turn_e | with_reducible apply DL.g_tup | with_reducible apply DL.g_lst | with_reducible apply DL.g_cons | with_reducible exact DL.g_nil | with_reducible apply DL.g_n | (with_reducible apply DL.set_fz; rfl; focus ((try simp only [List.cons_append, List.nil_append, List.replicate_succ, List.replicate_zero, Nat.reduceSub, List.set_cons_zero, List.set_cons_succ, DL.with_arg, DL.with_own, DL.wipeD, List.map_cons, List.map_nil, DL.toArg, DL.back2, DL.back2a, DL.back, DL.back1]); rfl)) | (with_reducible apply DL.set_own; rfl; focus ((try simp only [List.cons_append, List.nil_append, List.replicate_succ, List.replicate_zero, Nat.reduceSub, List.set_cons_zero, List.set_cons_succ, DL.with_arg, DL.with_own, DL.wipeD, List.map_cons, List.map_nil, DL.toArg, DL.back2, DL.back2a, DL.back, DL.back1]); rfl)) | (with_reducible apply DL.p_t; (first | rfl | focus (simp [*]; done) | assumption)) | (with_reducible apply DL.p_f; (first | rfl | focus (simp [*]; done) | assumption)) | (with_reducible apply DL.v_fz; rfl) | (with_reducible apply DL.v_own; rfl) | (with_reducible apply DL.v_arg; rfl) | with_reducible exact DL.r_c | with_reducible apply DL.r_andB | with_reducible apply DL.r_bin | with_reducible apply DL.r_un | with_reducible apply DL.r_test | with_reducible apply DL.r_notV | with_reducible apply DL.r_and | with_reducible apply DL.r_or | with_reducible apply DL.r_not | with_reducible apply DL.r_if | with_reducible apply DL.r_chainB | with_reducible exact DL.l_nil | with_reducible apply DL.l_cons | with_reducible apply DL.r_tup | with_reducible apply DL.r_lst | with_reducible apply DL.o_some | with_reducible exact DL.o_none | with_reducible apply DL.r_sl | with_reducible exact DL.a_nil | with_reducible apply DL.a_val | with_reducible apply DL.a_ref | (with_reducible apply DL.small_of; focus (first | omega | (simp <;> omega))) | with_reducible apply DL.r_callR | with_reducible apply DL.r_call | (first | exact e_is_row_of _ _ | exact e_is_row _ | exact e_is_below _ _ | exact e_is_whole _ | assumption) | (with_reducible apply DL.f_mod; (first | assumption | omega | focus (simp; omega))) | (with_reducible apply DL.f_div; (first | assumption | omega | focus (simp; omega))) | with_reducible apply DL.f_mulI | (with_reducible apply DL.wide_lt; (first | assumption | omega | focus (simp; omega))) | rfl | (focus ((try simp only [List.cons_append, List.nil_append, List.replicate_succ, List.replicate_zero, Nat.reduceSub, List.set_cons_zero, List.set_cons_succ, DL.with_arg, DL.with_own, DL.wipeD, List.map_cons, List.map_nil, DL.toArg, DL.back2, DL.back2a, DL.back, DL.back1]); rfl); done)))
    · show Co.lst [.list _, .list _, .int 0, .int s] = Co.lst [.list _, .list _, .int 0, .int s]
      rw [hf1, List.map_append, List.map_map]
      rfl
    · rfl
  · refine ⟨fun x hx => ?_, ?_, by simp, by simp; omega, fun x hx => ?_, Nat.le_refl 0, hs0, hs1⟩
    · obtain ⟨n, _, hq⟩ := List.mem_filterMap.mp hx
      split at hq
      · rename_i hc
        have := of_decide_eq_true hc
        cases hq
        omega
      · cases hq
    · exact Nat.le_trans (List.length_filterMap_le _ _) (by omega)
    · rcases List.mem_append.mp hx with hx | hx
      · obtain ⟨n, _, rfl⟩ := List.mem_map.mp hx
        exact ⟨Int.emod_nonneg _ (by decide), Int.emod_lt_of_pos _ (by decide)⟩
      · have : x = 41 := by simpa using hx
        subst this
        exact ⟨by decide, by decide⟩

theorem RlOk.mono {b c : Nat} {r : Rl} (h : RlOk b r) (hc : b ≤ c) : RlOk c r := ⟨h.gp, h.gl, h.t0, h.tl, h.tp, Nat.le_trans h.ib hc, h.s0, h.s1⟩
def okS (w : Str) : Prop := 0 < w.cps.size ∧ w.cps.size ≤ 7 ∧ ∀ c ∈ w.cps.toList, okC c ∧ c ≠ 110
theorem okS_all : ∀ w ∈ [("a" : PySem.Str), ("ab" : PySem.Str), ("aab" : PySem.Str), ("abc" : PySem.Str), ("abcdxyz" : PySem.Str)], okS w := by
  unfold okS okC
  decide +kernel
def netP (pl many wd : Int) (w : Str) (b : Nat) (xs : List D) (j : Nat) (δ : DS) : Prop := ∃ (r : Rl) (ls : List Ln) (sl : Sl), δ = [.arg (.lst (encR r)), .fz (.int 58), .own (.lst xs), .fz (.int pl), .fz (.int many), .fz (.str w), .fz (.int wd), .own (.lst (ls.map encL)), sl] ∧ sl.held = false ∧ RlOk (b + 3 * j) r ∧ ls.length = j ∧ ∀ l ∈ ls, okL pl l ∧ l.2.2 ≠ 110
theorem net_loop {pl many wd : Int} {w : Str} {b : Nat} {xs : List D} (hw : okS w) (hp : 0 < pl) (hd : 0 < wd) (hdp : wd ≤ pl) (hpl : pl ≤ 1000) (hb : b ≤ 100000) (n : Nat) (hn : n ≤ 58) (δ : DS) (h : netP pl many wd w b xs 0 δ) :
    ∃ δ', forL (stepB (gN 8) (dApp 7 (dTup (dCons (dCall d__law_draw (aRef 0 (aVal (dVar 6) aNil))) (dCons (dCall d__law_draw (aRef 0 (aVal (dVar 6) aNil))) (dCons (dBin fIx (dVar 5) (dCall d__law_draw (aRef 0 (aVal (dUn fLen (dVar 5)) aNil)))) dNil)))))) ((List.range n).map fun (i : Nat) => PyData.int i) δ = .ok .nx δ' ∧ netP pl many wd w b xs n δ' := by
  have key := for_idx (P := netP pl many wd w b xs) (f := stepB (gN 8) (dApp 7 (dTup (dCons (dCall d__law_draw (aRef 0 (aVal (dVar 6) aNil))) (dCons (dCall d__law_draw (aRef 0 (aVal (dVar 6) aNil))) (dCons (dBin fIx (dVar 5) (dCall d__law_draw (aRef 0 (aVal (dUn fLen (dVar 5)) aNil)))) dNil)))))) ((List.range n).map fun (i : Nat) => PyData.int i) 0 (fun j d hj δ hP => by
    have hjn : j < n := by
      have := (List.getElem?_eq_some_iff.mp hj).1
      simpa using this
    rw [Nat.zero_add] at hP ⊢
    obtain ⟨r, ls, sl, rfl, hs, hr, hl, hok⟩ := hP
    obtain ⟨v1, r1, e1, a1, a2, h1⟩ := e_draw hr (by omega) wd hd (by omega)
    obtain ⟨v2, r2, e2, b1, b2, h2⟩ := e_draw h1 (by omega) wd hd (by omega)
    obtain ⟨v3, r3, e3, c1, c2, h3⟩ := e_draw h2 (by omega) w.cps.size (by have := hw.1; omega) (by have := hw.2.1; omega)
    obtain ⟨c, hc, e4⟩ := ix_str (z := w) (by have := hw.2.1; omega) c1 c2
    have e5 := len_str (z := w) (by have := hw.2.1; omega)
    have hsm : (ls.map encL).length ≤ 58 := by rw [List.length_map]; omega
    refine ⟨[.arg (.lst (encR r3)), .fz (.int 58), .own (.lst xs), .fz (.int pl), .fz (.int many), .fz (.str w), .fz (.int wd), .own (.lst (ls.map encL ++ [encL (v1, v2, c)])), .fz d], ?_, r3, ls ++ [(v1, v2, c)], .fz d, ?_, rfl, h3.mono (by omega), by simp [hl], fun l hlm => ?_⟩
    · apply step_b
      · cases sl with
        | no => (repeat' (first | with_reducible apply DL.s_setI | with_reducible apply DL.s_app | with_reducible apply DL.s_ext | (with_reducible apply DL.m_arg; rfl) | (with_reducible apply DL.m_own; rfl) | (with_reducible apply DL.f_set; rfl; focus ((try simp only [List.cons_append, List.nil_append, List.replicate_succ, List.replicate_zero, Nat.reduceSub, List.set_cons_zero, List.set_cons_succ, DL.with_arg, DL.with_own, DL.wipeD, List.map_cons, List.map_nil, DL.toArg, DL.back2, DL.back2a, DL.back, DL.back1]); rfl)) | with_reducible apply DL.f_app | with_reducible apply DL.f_ext | (with_reducible apply DL.set_goal; focus ((try simp only [List.cons_append, List.nil_append, List.replicate_succ, List.replicate_zero, Nat.reduceSub, List.set_cons_zero, List.set_cons_succ, DL.with_arg, DL.with_own, DL.wipeD, List.map_cons, List.map_nil, DL.toArg, DL.back2, DL.back2a, DL.back, DL.back1]); rfl)) | with_reducible apply DL.s_seqG | with_reducible apply DL.step_b | with_reducible apply DL.k_nx | with_reducible exact DL.k_rt | with_reducible exact DL.k_ct | with_reducible exact DL.k_bk | with_reducible apply DL.s_asgG | with_reducible apply DL.s_asg | with_reducible apply DL.s_drop | with_reducible apply DL.s_ret | with_reducible apply DL.s_if | with_reducible exact DL.s_skip | (with_reducible apply DL.f_eq; (first | rfl | assumption); (first | rfl | assumption)) | (with_reducible apply DL.f_ne; (first | rfl | assumption); (first | rfl | assumption)) | with_reducible apply DL.f_addT | (with_reducible apply DL.f_ixT; assumption) | (with_reducible apply DL.f_ixL; assumption) | with_reducible apply DL.f_addL | with_reducible apply DL.s_par | with_reducible apply DL.s_for | with_reducible apply DL.i_it | with_reducible apply DL.i_r1 | with_reducible apply DL.r_lc | with_reducible apply DL.r_lc2 | with_reducible apply DL.i_enumT | with_reducible exact DL.t_yes | with_reducible apply DL.turn_e | with_reducible apply DL.g_tup | with_reducible apply DL.g_lst | with_reducible apply DL.g_cons | with_reducible exact DL.g_nil | with_reducible apply DL.g_n | (with_reducible apply DL.set_fz; rfl; focus ((try simp only [List.cons_append, List.nil_append, List.replicate_succ, List.replicate_zero, Nat.reduceSub, List.set_cons_zero, List.set_cons_succ, DL.with_arg, DL.with_own, DL.wipeD, List.map_cons, List.map_nil, DL.toArg, DL.back2, DL.back2a, DL.back, DL.back1]); rfl)) | (with_reducible apply DL.set_own; rfl; focus ((try simp only [List.cons_append, List.nil_append, List.replicate_succ, List.replicate_zero, Nat.reduceSub, List.set_cons_zero, List.set_cons_succ, DL.with_arg, DL.with_own, DL.wipeD, List.map_cons, List.map_nil, DL.toArg, DL.back2, DL.back2a, DL.back, DL.back1]); rfl)) | (with_reducible apply DL.p_t; (first | rfl | focus (simp [*]; done) | assumption)) | (with_reducible apply DL.p_f; (first | rfl | focus (simp [*]; done) | assumption)) | (with_reducible apply DL.v_fz; rfl) | (with_reducible apply DL.v_own; rfl) | (with_reducible apply DL.v_arg; rfl) | with_reducible exact DL.r_c | with_reducible apply DL.r_andB | with_reducible apply DL.r_bin | with_reducible apply DL.r_un | with_reducible apply DL.r_test | with_reducible apply DL.r_notV | with_reducible apply DL.r_and | with_reducible apply DL.r_or | with_reducible apply DL.r_not | with_reducible apply DL.r_if | with_reducible apply DL.r_chainB | with_reducible exact DL.l_nil | with_reducible apply DL.l_cons | with_reducible apply DL.r_tup | with_reducible apply DL.r_lst | with_reducible apply DL.o_some | with_reducible exact DL.o_none | with_reducible apply DL.r_sl | with_reducible exact DL.a_nil | with_reducible apply DL.a_val | with_reducible apply DL.a_ref | (with_reducible apply DL.small_of; focus (first | omega | (simp <;> omega))) | with_reducible apply DL.r_callR | with_reducible apply DL.r_call | (first | exact e_is_row_of _ _ | exact e_is_row _ | exact e_is_below _ _ | exact e_is_whole _ | assumption) | (with_reducible apply DL.f_mod; (first | assumption | omega | focus (simp; omega))) | (with_reducible apply DL.f_div; (first | assumption | omega | focus (simp; omega))) | with_reducible apply DL.f_mulI | (with_reducible apply DL.wide_lt; (first | assumption | omega | focus (simp; omega))) | rfl | (focus ((try simp only [List.cons_append, List.nil_append, List.replicate_succ, List.replicate_zero, Nat.reduceSub, List.set_cons_zero, List.set_cons_succ, DL.with_arg, DL.with_own, DL.wipeD, List.map_cons, List.map_nil, DL.toArg, DL.back2, DL.back2a, DL.back, DL.back1]); rfl); done)))
        | fz d => (repeat' (first | with_reducible apply DL.s_setI | with_reducible apply DL.s_app | with_reducible apply DL.s_ext | (with_reducible apply DL.m_arg; rfl) | (with_reducible apply DL.m_own; rfl) | (with_reducible apply DL.f_set; rfl; focus ((try simp only [List.cons_append, List.nil_append, List.replicate_succ, List.replicate_zero, Nat.reduceSub, List.set_cons_zero, List.set_cons_succ, DL.with_arg, DL.with_own, DL.wipeD, List.map_cons, List.map_nil, DL.toArg, DL.back2, DL.back2a, DL.back, DL.back1]); rfl)) | with_reducible apply DL.f_app | with_reducible apply DL.f_ext | (with_reducible apply DL.set_goal; focus ((try simp only [List.cons_append, List.nil_append, List.replicate_succ, List.replicate_zero, Nat.reduceSub, List.set_cons_zero, List.set_cons_succ, DL.with_arg, DL.with_own, DL.wipeD, List.map_cons, List.map_nil, DL.toArg, DL.back2, DL.back2a, DL.back, DL.back1]); rfl)) | with_reducible apply DL.s_seqG | with_reducible apply DL.step_b | with_reducible apply DL.k_nx | with_reducible exact DL.k_rt | with_reducible exact DL.k_ct | with_reducible exact DL.k_bk | with_reducible apply DL.s_asgG | with_reducible apply DL.s_asg | with_reducible apply DL.s_drop | with_reducible apply DL.s_ret | with_reducible apply DL.s_if | with_reducible exact DL.s_skip | (with_reducible apply DL.f_eq; (first | rfl | assumption); (first | rfl | assumption)) | (with_reducible apply DL.f_ne; (first | rfl | assumption); (first | rfl | assumption)) | with_reducible apply DL.f_addT | (with_reducible apply DL.f_ixT; assumption) | (with_reducible apply DL.f_ixL; assumption) | with_reducible apply DL.f_addL | with_reducible apply DL.s_par | with_reducible apply DL.s_for | with_reducible apply DL.i_it | with_reducible apply DL.i_r1 | with_reducible apply DL.r_lc | with_reducible apply DL.r_lc2 | with_reducible apply DL.i_enumT | with_reducible exact DL.t_yes | with_reducible apply DL.turn_e | with_reducible apply DL.g_tup | with_reducible apply DL.g_lst | with_reducible apply DL.g_cons | with_reducible exact DL.g_nil | with_reducible apply DL.g_n | (with_reducible apply DL.set_fz; rfl; focus ((try simp only [List.cons_append, List.nil_append, List.replicate_succ, List.replicate_zero, Nat.reduceSub, List.set_cons_zero, List.set_cons_succ, DL.with_arg, DL.with_own, DL.wipeD, List.map_cons, List.map_nil, DL.toArg, DL.back2, DL.back2a, DL.back, DL.back1]); rfl)) | (with_reducible apply DL.set_own; rfl; focus ((try simp only [List.cons_append, List.nil_append, List.replicate_succ, List.replicate_zero, Nat.reduceSub, List.set_cons_zero, List.set_cons_succ, DL.with_arg, DL.with_own, DL.wipeD, List.map_cons, List.map_nil, DL.toArg, DL.back2, DL.back2a, DL.back, DL.back1]); rfl)) | (with_reducible apply DL.p_t; (first | rfl | focus (simp [*]; done) | assumption)) | (with_reducible apply DL.p_f; (first | rfl | focus (simp [*]; done) | assumption)) | (with_reducible apply DL.v_fz; rfl) | (with_reducible apply DL.v_own; rfl) | (with_reducible apply DL.v_arg; rfl) | with_reducible exact DL.r_c | with_reducible apply DL.r_andB | with_reducible apply DL.r_bin | with_reducible apply DL.r_un | with_reducible apply DL.r_test | with_reducible apply DL.r_notV | with_reducible apply DL.r_and | with_reducible apply DL.r_or | with_reducible apply DL.r_not | with_reducible apply DL.r_if | with_reducible apply DL.r_chainB | with_reducible exact DL.l_nil | with_reducible apply DL.l_cons | with_reducible apply DL.r_tup | with_reducible apply DL.r_lst | with_reducible apply DL.o_some | with_reducible exact DL.o_none | with_reducible apply DL.r_sl | with_reducible exact DL.a_nil | with_reducible apply DL.a_val | with_reducible apply DL.a_ref | (with_reducible apply DL.small_of; focus (first | omega | (simp <;> omega))) | with_reducible apply DL.r_callR | with_reducible apply DL.r_call | (first | exact e_is_row_of _ _ | exact e_is_row _ | exact e_is_below _ _ | exact e_is_whole _ | assumption) | (with_reducible apply DL.f_mod; (first | assumption | omega | focus (simp; omega))) | (with_reducible apply DL.f_div; (first | assumption | omega | focus (simp; omega))) | with_reducible apply DL.f_mulI | (with_reducible apply DL.wide_lt; (first | assumption | omega | focus (simp; omega))) | rfl | (focus ((try simp only [List.cons_append, List.nil_append, List.replicate_succ, List.replicate_zero, Nat.reduceSub, List.set_cons_zero, List.set_cons_succ, DL.with_arg, DL.with_own, DL.wipeD, List.map_cons, List.map_nil, DL.toArg, DL.back2, DL.back2a, DL.back, DL.back1]); rfl); done)))
        | own c => cases hs
        | arg c => cases hs
      · (repeat' (first | with_reducible apply DL.s_setI | with_reducible apply DL.s_app | with_reducible apply DL.s_ext | (with_reducible apply DL.m_arg; rfl) | (with_reducible apply DL.m_own; rfl) | (with_reducible apply DL.f_set; rfl; focus ((try simp only [List.cons_append, List.nil_append, List.replicate_succ, List.replicate_zero, Nat.reduceSub, List.set_cons_zero, List.set_cons_succ, DL.with_arg, DL.with_own, DL.wipeD, List.map_cons, List.map_nil, DL.toArg, DL.back2, DL.back2a, DL.back, DL.back1]); rfl)) | with_reducible apply DL.f_app | with_reducible apply DL.f_ext | (with_reducible apply DL.set_goal; focus ((try simp only [List.cons_append, List.nil_append, List.replicate_succ, List.replicate_zero, Nat.reduceSub, List.set_cons_zero, List.set_cons_succ, DL.with_arg, DL.with_own, DL.wipeD, List.map_cons, List.map_nil, DL.toArg, DL.back2, DL.back2a, DL.back, DL.back1]); rfl)) | with_reducible apply DL.s_seqG | with_reducible apply DL.step_b | with_reducible apply DL.k_nx | with_reducible exact DL.k_rt | with_reducible exact DL.k_ct | with_reducible exact DL.k_bk | with_reducible apply DL.s_asgG | with_reducible apply DL.s_asg | with_reducible apply DL.s_drop | with_reducible apply DL.s_ret | with_reducible apply DL.s_if | with_reducible exact DL.s_skip | (with_reducible apply DL.f_eq; (first | rfl | assumption); (first | rfl | assumption)) | (with_reducible apply DL.f_ne; (first | rfl | assumption); (first | rfl | assumption)) | with_reducible apply DL.f_addT | (with_reducible apply DL.f_ixT; assumption) | (with_reducible apply DL.f_ixL; assumption) | with_reducible apply DL.f_addL | with_reducible apply DL.s_par | with_reducible apply DL.s_for | with_reducible apply DL.i_it | with_reducible apply DL.i_r1 | with_reducible apply DL.r_lc | with_reducible apply DL.r_lc2 | with_reducible apply DL.i_enumT | with_reducible exact DL.t_yes | with_reducible apply DL.turn_e | with_reducible apply DL.g_tup | with_reducible apply DL.g_lst | with_reducible apply DL.g_cons | with_reducible exact DL.g_nil | with_reducible apply DL.g_n | (with_reducible apply DL.set_fz; rfl; focus ((try simp only [List.cons_append, List.nil_append, List.replicate_succ, List.replicate_zero, Nat.reduceSub, List.set_cons_zero, List.set_cons_succ, DL.with_arg, DL.with_own, DL.wipeD, List.map_cons, List.map_nil, DL.toArg, DL.back2, DL.back2a, DL.back, DL.back1]); rfl)) | (with_reducible apply DL.set_own; rfl; focus ((try simp only [List.cons_append, List.nil_append, List.replicate_succ, List.replicate_zero, Nat.reduceSub, List.set_cons_zero, List.set_cons_succ, DL.with_arg, DL.with_own, DL.wipeD, List.map_cons, List.map_nil, DL.toArg, DL.back2, DL.back2a, DL.back, DL.back1]); rfl)) | (with_reducible apply DL.p_t; (first | rfl | focus (simp [*]; done) | assumption)) | (with_reducible apply DL.p_f; (first | rfl | focus (simp [*]; done) | assumption)) | (with_reducible apply DL.v_fz; rfl) | (with_reducible apply DL.v_own; rfl) | (with_reducible apply DL.v_arg; rfl) | with_reducible exact DL.r_c | with_reducible apply DL.r_andB | with_reducible apply DL.r_bin | with_reducible apply DL.r_un | with_reducible apply DL.r_test | with_reducible apply DL.r_notV | with_reducible apply DL.r_and | with_reducible apply DL.r_or | with_reducible apply DL.r_not | with_reducible apply DL.r_if | with_reducible apply DL.r_chainB | with_reducible exact DL.l_nil | with_reducible apply DL.l_cons | with_reducible apply DL.r_tup | with_reducible apply DL.r_lst | with_reducible apply DL.o_some | with_reducible exact DL.o_none | with_reducible apply DL.r_sl | with_reducible exact DL.a_nil | with_reducible apply DL.a_val | with_reducible apply DL.a_ref | (with_reducible apply DL.small_of; focus (first | omega | (simp <;> omega))) | with_reducible apply DL.r_callR | with_reducible apply DL.r_call | (first | exact e_is_row_of _ _ | exact e_is_row _ | exact e_is_below _ _ | exact e_is_whole _ | assumption) | (with_reducible apply DL.f_mod; (first | assumption | omega | focus (simp; omega))) | (with_reducible apply DL.f_div; (first | assumption | omega | focus (simp; omega))) | with_reducible apply DL.f_mulI | (with_reducible apply DL.wide_lt; (first | assumption | omega | focus (simp; omega))) | rfl | (focus ((try simp only [List.cons_append, List.nil_append, List.replicate_succ, List.replicate_zero, Nat.reduceSub, List.set_cons_zero, List.set_cons_succ, DL.with_arg, DL.with_own, DL.wipeD, List.map_cons, List.map_nil, DL.toArg, DL.back2, DL.back2a, DL.back, DL.back1]); rfl); done)))
        exact m_own rfl (f_app (small_of (by omega))) rfl
    · rw [List.map_append]
      rfl
    · rcases List.mem_append.mp hlm with q | q
      · exact hok l q
      · have : l = (v1, v2, c) := by simpa using q
        subst this
        exact ⟨⟨a1, by show v1 < pl; omega, b1, by show v2 < pl; omega, (hw.2.2 c hc).1⟩, (hw.2.2 c hc).2⟩) δ h
  rw [List.length_map, List.length_range, Nat.zero_add] at key
  exact key

theorem e_net {b : Nat} {r : Rl} (h : RlOk b r) (hb : b ≤ 90000) : ∃ pl ls r', d__law_net [.arg (.lst (encR r)), .fz (.int 58)] = .ok (.fz (encW pl ls)) [.arg (.lst (encR r')), .no] ∧ RlOk (b + 200) r' ∧ OkW pl ls ∧ pl ≤ 28 ∧ ls.length ≤ 58 ∧ ∀ l ∈ ls, l.2.2 ≠ 110 := by
  obtain ⟨v1, r1, e1, a1, b1, h1⟩ := e_draw h (by omega) 4 (by decide) (by decide)
  obtain ⟨v2, r2, e2, a2, b2, h2⟩ := e_draw h1 (by omega) 4 (by decide) (by decide)
  obtain ⟨v3, r3, e3, a3, b3, h3⟩ := e_draw h2 (by omega) 7 (by decide) (by decide)
  obtain ⟨v4, r4, e4, a4, b4, h4⟩ := e_draw h3 (by omega) 25 (by decide) (by decide)
  obtain ⟨v5, r5, e5, a5, b5, h5⟩ := e_draw h4 (by omega) 4 (by decide) (by decide)
  obtain ⟨v6, r6, e6, a6, b6, h6⟩ := e_draw h5 (by omega) 9 (by decide) (by decide)
  obtain ⟨v7, r7, e7, a7, b7, h7⟩ := e_draw h6 (by omega) 16 (by decide) (by decide)
  obtain ⟨v8, r8, e8, a8, b8, h8⟩ := e_draw h7 (by omega) (58 + 1) (by decide) (by decide)
  obtain ⟨v9, r9, e9, a9, b9, h9⟩ := e_draw h8 (by omega) 3 (by decide) (by decide)
  obtain ⟨v10, r10, e10, a10, b10, h10⟩ := e_draw h9 (by omega) 5 (by decide) (by decide)
  obtain ⟨pl, hpl, x1⟩ := ix_in (xs := [v1, 1 + v2, 2 + v3, v4]) (j := v5) a5 (by show v5 < 4; exact b5)
  simp only [List.map_cons, List.map_nil] at x1
  obtain ⟨many, hmany, x2⟩ := ix_in (xs := [v6, v7, v8]) (j := v9) a9 (by show v9 < 3; exact b9)
  simp only [List.map_cons, List.map_nil] at x2
  have pl0 : 0 ≤ pl ∧ pl ≤ 28 := by
    simp only [List.mem_cons, List.not_mem_nil, or_false] at hpl
    omega
  have mn0 : 0 ≤ many ∧ many ≤ 58 := by
    simp only [List.mem_cons, List.not_mem_nil, or_false] at hmany
    omega
  obtain ⟨w0, hw0, x3⟩ := ix_inD (xs := [.str ("a" : PySem.Str), .str ("ab" : PySem.Str), .str ("aab" : PySem.Str), .str ("abc" : PySem.Str), .str ("abcdxyz" : PySem.Str)]) (j := v10) a10 (by show v10 < 5; exact b10)
  obtain ⟨w, rfl, hw⟩ : ∃ w, w0 = .str w ∧ okS w := by
    have q := okS_all
    simp only [List.mem_cons, List.not_mem_nil, or_false] at hw0
    rcases hw0 with rfl | rfl | rfl | rfl | rfl <;> exact ⟨_, rfl, q _ (by simp)⟩
  have hm1 : 0 < (if pl > 1 then pl else 1) ∧ (if pl > 1 then pl else 1) ≤ 28 := by split <;> omega
  obtain ⟨v11, r11, e11, a11, b11, h11⟩ := e_draw h10 (by omega) (if pl > 1 then pl else 1) hm1.1 (by omega)
  have x4 : fMax2 (.int 1) (.int pl) = some (.fz (.int (if pl > 1 then pl else 1))) := rfl
  have x5 : fMin2 (.int many) (.int 58) = some (.fz (.int (if 58 < many then 58 else many))) := rfl
  have hmi : 0 ≤ (if 58 < many then 58 else many) ∧ (if 58 < many then 58 else many) ≤ 58 := by split <;> omega
  generalize (if 58 < many then 58 else many) = mn at x5 hmi
  have w1 : wide mn = true := wide_lt (by omega)
  obtain ⟨t, k, hq, hi, hk, r12, ls, sl, eL, hr12, hls, hok⟩ : ∃ (t : Bool) (k : Int), fGt (.int pl) (.int 0) = some (.fz (.bool t)) ∧ fInt (.bool t) = some (.fz (.int k)) ∧ (0 ≤ k ∧ k ≤ 1) ∧ ∃ (r12 : Rl) (ls : List Ln) (sl : Sl),
      forL (stepB (gN 8) (dApp 7 (dTup (dCons (dCall d__law_draw (aRef 0 (aVal (dVar 6) aNil))) (dCons (dCall d__law_draw (aRef 0 (aVal (dVar 6) aNil))) (dCons (dBin fIx (dVar 5) (dCall d__law_draw (aRef 0 (aVal (dUn fLen (dVar 5)) aNil)))) dNil)))))) ((List.range (mn * k).toNat).map fun (i : Nat) => PyData.int i) [.arg (.lst (encR r11)), .fz (.int 58), .own (.lst [.int v1, .int (1 + v2), .int (2 + v3), .int v4]), .fz (.int pl), .fz (.int many), .fz (.str w), .fz (.int (1 + v11)), .own (.lst []), .no]
        = .ok .nx [.arg (.lst (encR r12)), .fz (.int 58), .own (.lst [.int v1, .int (1 + v2), .int (2 + v3), .int v4]), .fz (.int pl), .fz (.int many), .fz (.str w), .fz (.int (1 + v11)), .own (.lst (ls.map encL)), sl] ∧ RlOk (b + 200) r12 ∧ ls.length ≤ 58 ∧ ∀ l ∈ ls, okL pl l ∧ l.2.2 ≠ 110 := by
    by_cases hp : 0 < pl
    · refine ⟨true, 1, by show some (Vl.fz (.bool (decide (0 < pl)))) = _; rw [decide_eq_true hp], rfl, by decide, ?_⟩
      have hwd : 1 + v11 ≤ pl := by
        by_cases q : pl > 1
        · rw [if_pos q] at b11; omega
        · rw [if_neg q] at b11; omega
      obtain ⟨δ', eL, r12, ls, sl, rfl, hs, hr, hl, hok⟩ := net_loop (xs := [.int v1, .int (1 + v2), .int (2 + v3), .int v4]) (many := many) (b := b + 11) hw hp (wd := 1 + v11) (by omega) hwd (by omega) (by omega) (mn * 1).toNat (by omega) _ ⟨r11, [], .no, rfl, rfl, h11, rfl, by simp⟩
      exact ⟨r12, ls, sl, eL, hr.mono (by omega), by omega, hok⟩
    · refine ⟨false, 0, by show some (Vl.fz (.bool (decide (0 < pl)))) = _; rw [decide_eq_false hp], rfl, by decide, r11, [], .no, ?_, h11.mono (by omega), by simp, by simp⟩
      rw [Int.mul_zero]
      rfl
  have hb3 : (-1000000 : Int) ≤ mn * k := by
    have : k = 0 ∨ k = 1 := by omega
    rcases this with rfl | rfl <;> omega
  have hb4 : mn * k ≤ (1000000 : Int) := by
    have : k = 0 ∨ k = 1 := by omega
    rcases this with rfl | rfl <;> omega
  have wk : wide k = true := wide_lt (by omega)
  refine ⟨pl, ls, r12, ?_, hr12, ⟨pl0.1, by omega, fun l hl => (hok l hl).1⟩, pl0.2, hls, fun l hl => (hok l hl).2⟩
  unfold d__law_net
  apply run_v rfl
  · focus ((try simp only [List.cons_append, List.nil_append, List.replicate_succ, List.replicate_zero, Nat.reduceSub, List.set_cons_zero, List.set_cons_succ, DL.with_arg, DL.with_own, DL.wipeD, List.map_cons, List.map_nil, DL.toArg, DL.back2, DL.back2a, DL.back, DL.back1]); rfl)
  · unfold sd__law_net
    (repeat' (first | with_reducible apply DL.s_setI | with_reducible apply DL.s_app | with_reducible apply DL.s_ext | (with_reducible apply DL.m_arg; rfl) | (with_reducible apply DL.m_own; rfl) | (with_reducible apply DL.f_set; rfl; focus ((try simp only [List.cons_append, List.nil_append, List.replicate_succ, List.replicate_zero, Nat.reduceSub, List.set_cons_zero, List.set_cons_succ, DL.with_arg, DL.with_own, DL.wipeD, List.map_cons, List.map_nil, DL.toArg, DL.back2, DL.back2a, DL.back, DL.back1]); rfl)) | with_reducible apply DL.f_app | with_reducible apply DL.f_ext | (with_reducible apply DL.set_goal; focus ((try simp only [List.cons_append, List.nil_append, List.replicate_succ, List.replicate_zero, Nat.reduceSub, List.set_cons_zero, List.set_cons_succ, DL.with_arg, DL.with_own, DL.wipeD, List.map_cons, List.map_nil, DL.toArg, DL.back2, DL.back2a, DL.back, DL.back1]); rfl)) | with_reducible apply DL.s_seqG | with_reducible apply DL.step_b | with_reducible apply DL.k_nx | with_reducible exact DL.k_rt | with_reducible exact DL.k_ct | with_reducible exact DL.k_bk | with_reducible apply DL.s_asgG | with_reducible apply DL.s_asg | with_reducible apply DL.s_drop | with_reducible apply DL.s_ret | with_reducible apply DL.s_if | with_reducible exact DL.s_skip | (with_reducible apply DL.f_eq; (first | rfl | assumption); (first | rfl | assumption)) | (with_reducible apply DL.f_ne; (first | rfl | assumption); (first | rfl | assumption)) | with_reducible apply DL.f_addT | (with_reducible apply DL.f_ixT; assumption) | (with_reducible apply DL.f_ixL; assumption) | with_reducible apply DL.f_addL | with_reducible apply DL.s_par | with_reducible apply DL.s_for | with_reducible apply DL.i_it | with_reducible apply DL.i_r1 | with_reducible apply DL.r_lc | with_reducible apply DL.r_lc2 | with_reducible apply DL.i_enumT | with_reducible exact DL.t_yes | with_reducible apply DL.turn_e | with_reducible apply DL.g_tup | with_reducible apply DL.g_lst | with_reducible apply DL.g_cons | with_reducible exact DL.g_nil | with_reducible apply DL.g_n | (with_reducible apply DL.set_fz; rfl; focus ((try simp only [List.cons_append, List.nil_append, List.replicate_succ, List.replicate_zero, Nat.reduceSub, List.set_cons_zero, List.set_cons_succ, DL.with_arg, DL.with_own, DL.wipeD, List.map_cons, List.map_nil, DL.toArg, DL.back2, DL.back2a, DL.back, DL.back1]); rfl)) | (with_reducible apply DL.set_own; rfl; focus ((try simp only [List.cons_append, List.nil_append, List.replicate_succ, List.replicate_zero, Nat.reduceSub, List.set_cons_zero, List.set_cons_succ, DL.with_arg, DL.with_own, DL.wipeD, List.map_cons, List.map_nil, DL.toArg, DL.back2, DL.back2a, DL.back, DL.back1]); rfl)) | (with_reducible apply DL.p_t; (first | rfl | focus (simp [*]; done) | assumption)) | (with_reducible apply DL.p_f; (first | rfl | focus (simp [*]; done) | assumption)) | (with_reducible apply DL.v_fz; rfl) | (with_reducible apply DL.v_own; rfl) | (with_reducible apply DL.v_arg; rfl) | with_reducible exact DL.r_c | with_reducible apply DL.r_andB | with_reducible apply DL.r_bin | with_reducible apply DL.r_un | with_reducible apply DL.r_test | with_reducible apply DL.r_notV | with_reducible apply DL.r_and | with_reducible apply DL.r_or | with_reducible apply DL.r_not | with_reducible apply DL.r_if | with_reducible apply DL.r_chainB | with_reducible exact DL.l_nil | with_reducible apply DL.l_cons | with_reducible apply DL.r_tup | with_reducible apply DL.r_lst | with_reducible apply DL.o_some | with_reducible exact DL.o_none | with_reducible apply DL.r_sl | with_reducible exact DL.a_nil | with_reducible apply DL.a_val | with_reducible apply DL.a_ref | (with_reducible apply DL.small_of; focus (first | omega | (simp <;> omega))) | with_reducible apply DL.r_callR | with_reducible apply DL.r_call | (first | exact e_is_row_of _ _ | exact e_is_row _ | exact e_is_below _ _ | exact e_is_whole _ | assumption) | (with_reducible apply DL.f_mod; (first | assumption | omega | focus (simp; omega))) | (with_reducible apply DL.f_div; (first | assumption | omega | focus (simp; omega))) | with_reducible apply DL.f_mulI | (with_reducible apply DL.wide_lt; (first | assumption | omega | focus (simp; omega))) | rfl | (focus ((try simp only [List.cons_append, List.nil_append, List.replicate_succ, List.replicate_zero, Nat.reduceSub, List.set_cons_zero, List.set_cons_succ, DL.with_arg, DL.with_own, DL.wipeD, List.map_cons, List.map_nil, DL.toArg, DL.back2, DL.back2a, DL.back, DL.back1]); rfl); done)))
  all_goals rfl

/-! ### the companies at a place -/
def comp (ls : List Ln) (n : Nat) : Nat := (ls[n]?.map fun l => l.2.2).getD 0
def chK (c : Nat) : Key := .inr ⟨#[c]⟩
theorem chK_inj {a b : Nat} (h : chK a = chK b) : a = b := by
  unfold chK at h
  cases h
  rfl
def gstep (ls : List Ln) (acc : List (Key × List D)) (q : Nat × Nat) : List (Key × List D) := putG acc (chK (comp ls q.1)) (encE q)
theorem putG_len (acc : List (Key × List D)) (k : Key) (d : D) {n : Nat} (h1 : acc.length ≤ n) (h2 : ∀ q ∈ acc, q.2.length ≤ n) : (putG acc k d).length ≤ n + 1 ∧ ∀ q ∈ putG acc k d, q.2.length ≤ n + 1 := by
  unfold putG
  split
  · refine ⟨by rw [List.length_map]; omega, fun q hq => ?_⟩
    obtain ⟨r, hr, rfl⟩ := List.mem_map.mp hq
    have := h2 r hr
    split
    · show (r.2 ++ [d]).length ≤ n + 1
      rw [List.length_append]
      show r.2.length + 1 ≤ n + 1
      omega
    · omega
  · refine ⟨by rw [List.length_append]; show acc.length + 1 ≤ n + 1; omega, fun q hq => ?_⟩
    rcases List.mem_append.mp hq with hq | hq
    · have := h2 q hq
      omega
    · have : q = (k, [d]) := by simpa using hq
      subst this
      show 1 ≤ n + 1
      omega
theorem szG_of {acc : List (Key × List D)} {n : Nat} (hn : n ≤ 100000) (h1 : acc.length ≤ n) (h2 : ∀ q ∈ acc, q.2.length ≤ n) : szG acc = true := by
  unfold szG
  rw [Bool.and_eq_true]
  refine ⟨small_of (by omega), List.all_eq_true.mpr fun q hq => small_of (by have := h2 q hq; omega)⟩
def gSt (ls : List Ln) (pl : Int) (s3 s4 : Sl) : DS := [.fz (.tuple (ls.map encL)), .fz (.int pl), .no, s3, s4]
abbrev gTg : Dg := gTupD 2 (gsCons (gN 3) (gsCons (gN 4) gsNil))
abbrev gKe : De := dBin fIx (dBin fIx (dVar 0) (dVar 3)) (dC (.int 2))
abbrev gVe : De := dTup (dCons (dVar 3) (dCons (dVar 4) dNil))
theorem grpL_go {g : Dg} {kE vE : De} {d : D} {ds : List D} {acc acc' : List (Key × List D)} {δ δ1 δ2 : DS} (h1 : g d δ = .ok .nx δ1) (h2 : grpT kE vE acc δ1 = .ok acc' δ2) : grpL g kE vE (d :: ds) acc δ = grpL g kE vE ds acc' δ2 := by
  conv => lhs; unfold grpL
  rw [h1]
  simp only
  rw [h2]
theorem grp_all (ls : List Ln) (pl : Int) : ∀ (es : List (Nat × Nat)) (acc : List (Key × List D)) (n : Nat) (s3 s4 : Sl), (∀ q ∈ es, q.1 < ls.length) → n + es.length ≤ 50000 → acc.length ≤ n → (∀ q ∈ acc, q.2.length ≤ n) → s3.held = false → s4.held = false →
    ∃ t3 t4, grpL gTg gKe gVe (es.map encE) acc (gSt ls pl s3 s4) = .ok (es.foldl (gstep ls) acc) (gSt ls pl t3 t4) ∧ t3.held = false ∧ t4.held = false
  | [], acc, n, s3, s4, _, _, _, _, h3, h4 => ⟨s3, s4, rfl, h3, h4⟩
  | q :: es, acc, n, s3, s4, hq, hn, h1, h2, h3, h4 => by
    rw [List.length_cons] at hn
    have hlt := hq q List.mem_cons_self
    have hl : ls[q.1]? = some ls[q.1] := List.getElem?_eq_getElem hlt
    have hx := at_enc hl
    have hc : comp ls q.1 = (ls[q.1]).2.2 := by
      unfold comp
      rw [hl]
      rfl
    obtain ⟨g1, g2⟩ := putG_len acc (chK (comp ls q.1)) (encE q) h1 h2
    obtain ⟨t3, t4, e, r3, r4⟩ := grp_all ls pl es (gstep ls acc q) (n + 1) (.fz (.int q.1)) (.fz (.int q.2)) (fun r hr => hq r (List.mem_cons_of_mem _ hr)) (by omega) g1 g2 rfl rfl
    refine ⟨t3, t4, ?_, r3, r4⟩
    rw [List.map_cons, List.foldl_cons, ← e]
    generalize ls[q.1] = l at hx hc
    have w1 : gTg (encE q) (gSt ls pl s3 s4) = .ok .nx (gSt ls pl (.fz (.int q.1)) (.fz (.int q.2))) := by
      unfold gSt
      cases s3 with
      | own c => cases h3
      | arg c => cases h3
      | no =>
        cases s4 with
        | own c => cases h4
        | arg c => cases h4
        | no => (repeat' (first | with_reducible apply DL.s_setI | with_reducible apply DL.s_app | with_reducible apply DL.s_ext | (with_reducible apply DL.m_arg; rfl) | (with_reducible apply DL.m_own; rfl) | (with_reducible apply DL.f_set; rfl; focus ((try simp only [List.cons_append, List.nil_append, List.replicate_succ, List.replicate_zero, Nat.reduceSub, List.set_cons_zero, List.set_cons_succ, DL.with_arg, DL.with_own, DL.wipeD, List.map_cons, List.map_nil, DL.toArg, DL.back2, DL.back2a, DL.back, DL.back1]); rfl)) | with_reducible apply DL.f_app | with_reducible apply DL.f_ext | (with_reducible apply DL.set_goal; focus ((try simp only [List.cons_append, List.nil_append, List.replicate_succ, List.replicate_zero, Nat.reduceSub, List.set_cons_zero, List.set_cons_succ, DL.with_arg, DL.with_own, DL.wipeD, List.map_cons, List.map_nil, DL.toArg, DL.back2, DL.back2a, DL.back, DL.back1]); rfl)) | with_reducible apply DL.s_seqG | with_reducible apply DL.step_b | with_reducible apply DL.k_nx | with_reducible exact DL.k_rt | with_reducible exact DL.k_ct | with_reducible exact DL.k_bk | with_reducible apply DL.s_asgG | with_reducible apply DL.s_asg | with_reducible apply DL.s_drop | with_reducible apply DL.s_ret | with_reducible apply DL.s_if | with_reducible exact DL.s_skip | (with_reducible apply DL.f_eq; (first | rfl | assumption); (first | rfl | assumption)) | (with_reducible apply DL.f_ne; (first | rfl | assumption); (first | rfl | assumption)) | with_reducible apply DL.f_addT | (with_reducible apply DL.f_ixT; assumption) | (with_reducible apply DL.f_ixL; assumption) | with_reducible apply DL.f_addL | with_reducible apply DL.s_par | with_reducible apply DL.s_for | with_reducible apply DL.i_it | with_reducible apply DL.i_r1 | with_reducible apply DL.r_lc | with_reducible apply DL.r_lc2 | with_reducible apply DL.i_enumT | with_reducible exact DL.t_yes | with_reducible apply DL.turn_e | with_reducible apply DL.g_tup | with_reducible apply DL.g_lst | with_reducible apply DL.g_cons | with_reducible exact DL.g_nil | with_reducible apply DL.g_n | (with_reducible apply DL.set_fz; rfl; focus ((try simp only [List.cons_append, List.nil_append, List.replicate_succ, List.replicate_zero, Nat.reduceSub, List.set_cons_zero, List.set_cons_succ, DL.with_arg, DL.with_own, DL.wipeD, List.map_cons, List.map_nil, DL.toArg, DL.back2, DL.back2a, DL.back, DL.back1]); rfl)) | (with_reducible apply DL.set_own; rfl; focus ((try simp only [List.cons_append, List.nil_append, List.replicate_succ, List.replicate_zero, Nat.reduceSub, List.set_cons_zero, List.set_cons_succ, DL.with_arg, DL.with_own, DL.wipeD, List.map_cons, List.map_nil, DL.toArg, DL.back2, DL.back2a, DL.back, DL.back1]); rfl)) | (with_reducible apply DL.p_t; (first | rfl | focus (simp [*]; done) | assumption)) | (with_reducible apply DL.p_f; (first | rfl | focus (simp [*]; done) | assumption)) | (with_reducible apply DL.v_fz; rfl) | (with_reducible apply DL.v_own; rfl) | (with_reducible apply DL.v_arg; rfl) | with_reducible exact DL.r_c | with_reducible apply DL.r_andB | with_reducible apply DL.r_bin | with_reducible apply DL.r_un | with_reducible apply DL.r_test | with_reducible apply DL.r_notV | with_reducible apply DL.r_and | with_reducible apply DL.r_or | with_reducible apply DL.r_not | with_reducible apply DL.r_if | with_reducible apply DL.r_chainB | with_reducible exact DL.l_nil | with_reducible apply DL.l_cons | with_reducible apply DL.r_tup | with_reducible apply DL.r_lst | with_reducible apply DL.o_some | with_reducible exact DL.o_none | with_reducible apply DL.r_sl | with_reducible exact DL.a_nil | with_reducible apply DL.a_val | with_reducible apply DL.a_ref | (with_reducible apply DL.small_of; focus (first | omega | (simp <;> omega))) | with_reducible apply DL.r_callR | with_reducible apply DL.r_call | (first | exact e_is_row_of _ _ | exact e_is_row _ | exact e_is_below _ _ | exact e_is_whole _ | assumption) | (with_reducible apply DL.f_mod; (first | assumption | omega | focus (simp; omega))) | (with_reducible apply DL.f_div; (first | assumption | omega | focus (simp; omega))) | with_reducible apply DL.f_mulI | (with_reducible apply DL.wide_lt; (first | assumption | omega | focus (simp; omega))) | rfl | (focus ((try simp only [List.cons_append, List.nil_append, List.replicate_succ, List.replicate_zero, Nat.reduceSub, List.set_cons_zero, List.set_cons_succ, DL.with_arg, DL.with_own, DL.wipeD, List.map_cons, List.map_nil, DL.toArg, DL.back2, DL.back2a, DL.back, DL.back1]); rfl); done)))
        | fz d => (repeat' (first | with_reducible apply DL.s_setI | with_reducible apply DL.s_app | with_reducible apply DL.s_ext | (with_reducible apply DL.m_arg; rfl) | (with_reducible apply DL.m_own; rfl) | (with_reducible apply DL.f_set; rfl; focus ((try simp only [List.cons_append, List.nil_append, List.replicate_succ, List.replicate_zero, Nat.reduceSub, List.set_cons_zero, List.set_cons_succ, DL.with_arg, DL.with_own, DL.wipeD, List.map_cons, List.map_nil, DL.toArg, DL.back2, DL.back2a, DL.back, DL.back1]); rfl)) | with_reducible apply DL.f_app | with_reducible apply DL.f_ext | (with_reducible apply DL.set_goal; focus ((try simp only [List.cons_append, List.nil_append, List.replicate_succ, List.replicate_zero, Nat.reduceSub, List.set_cons_zero, List.set_cons_succ, DL.with_arg, DL.with_own, DL.wipeD, List.map_cons, List.map_nil, DL.toArg, DL.back2, DL.back2a, DL.back, DL.back1]); rfl)) | with_reducible apply DL.s_seqG | with_reducible apply DL.step_b | with_reducible apply DL.k_nx | with_reducible exact DL.k_rt | with_reducible exact DL.k_ct | with_reducible exact DL.k_bk | with_reducible apply DL.s_asgG | with_reducible apply DL.s_asg | with_reducible apply DL.s_drop | with_reducible apply DL.s_ret | with_reducible apply DL.s_if | with_reducible exact DL.s_skip | (with_reducible apply DL.f_eq; (first | rfl | assumption); (first | rfl | assumption)) | (with_reducible apply DL.f_ne; (first | rfl | assumption); (first | rfl | assumption)) | with_reducible apply DL.f_addT | (with_reducible apply DL.f_ixT; assumption) | (with_reducible apply DL.f_ixL; assumption) | with_reducible apply DL.f_addL | with_reducible apply DL.s_par | with_reducible apply DL.s_for | with_reducible apply DL.i_it | with_reducible apply DL.i_r1 | with_reducible apply DL.r_lc | with_reducible apply DL.r_lc2 | with_reducible apply DL.i_enumT | with_reducible exact DL.t_yes | with_reducible apply DL.turn_e | with_reducible apply DL.g_tup | with_reducible apply DL.g_lst | with_reducible apply DL.g_cons | with_reducible exact DL.g_nil | with_reducible apply DL.g_n | (with_reducible apply DL.set_fz; rfl; focus ((try simp only [List.cons_append, List.nil_append, List.replicate_succ, List.replicate_zero, Nat.reduceSub, List.set_cons_zero, List.set_cons_succ, DL.with_arg, DL.with_own, DL.wipeD, List.map_cons, List.map_nil, DL.toArg, DL.back2, DL.back2a, DL.back, DL.back1]); rfl)) | (with_reducible apply DL.set_own; rfl; focus ((try simp only [List.cons_append, List.nil_append, List.replicate_succ, List.replicate_zero, Nat.reduceSub, List.set_cons_zero, List.set_cons_succ, DL.with_arg, DL.with_own, DL.wipeD, List.map_cons, List.map_nil, DL.toArg, DL.back2, DL.back2a, DL.back, DL.back1]); rfl)) | (with_reducible apply DL.p_t; (first | rfl | focus (simp [*]; done) | assumption)) | (with_reducible apply DL.p_f; (first | rfl | focus (simp [*]; done) | assumption)) | (with_reducible apply DL.v_fz; rfl) | (with_reducible apply DL.v_own; rfl) | (with_reducible apply DL.v_arg; rfl) | with_reducible exact DL.r_c | with_reducible apply DL.r_andB | with_reducible apply DL.r_bin | with_reducible apply DL.r_un | with_reducible apply DL.r_test | with_reducible apply DL.r_notV | with_reducible apply DL.r_and | with_reducible apply DL.r_or | with_reducible apply DL.r_not | with_reducible apply DL.r_if | with_reducible apply DL.r_chainB | with_reducible exact DL.l_nil | with_reducible apply DL.l_cons | with_reducible apply DL.r_tup | with_reducible apply DL.r_lst | with_reducible apply DL.o_some | with_reducible exact DL.o_none | with_reducible apply DL.r_sl | with_reducible exact DL.a_nil | with_reducible apply DL.a_val | with_reducible apply DL.a_ref | (with_reducible apply DL.small_of; focus (first | omega | (simp <;> omega))) | with_reducible apply DL.r_callR | with_reducible apply DL.r_call | (first | exact e_is_row_of _ _ | exact e_is_row _ | exact e_is_below _ _ | exact e_is_whole _ | assumption) | (with_reducible apply DL.f_mod; (first | assumption | omega | focus (simp; omega))) | (with_reducible apply DL.f_div; (first | assumption | omega | focus (simp; omega))) | with_reducible apply DL.f_mulI | (with_reducible apply DL.wide_lt; (first | assumption | omega | focus (simp; omega))) | rfl | (focus ((try simp only [List.cons_append, List.nil_append, List.replicate_succ, List.replicate_zero, Nat.reduceSub, List.set_cons_zero, List.set_cons_succ, DL.with_arg, DL.with_own, DL.wipeD, List.map_cons, List.map_nil, DL.toArg, DL.back2, DL.back2a, DL.back, DL.back1]); rfl); done)))
      | fz d' =>
        cases s4 with
        | own c => cases h4
        | arg c => cases h4
        | no => (repeat' (first | with_reducible apply DL.s_setI | with_reducible apply DL.s_app | with_reducible apply DL.s_ext | (with_reducible apply DL.m_arg; rfl) | (with_reducible apply DL.m_own; rfl) | (with_reducible apply DL.f_set; rfl; focus ((try simp only [List.cons_append, List.nil_append, List.replicate_succ, List.replicate_zero, Nat.reduceSub, List.set_cons_zero, List.set_cons_succ, DL.with_arg, DL.with_own, DL.wipeD, List.map_cons, List.map_nil, DL.toArg, DL.back2, DL.back2a, DL.back, DL.back1]); rfl)) | with_reducible apply DL.f_app | with_reducible apply DL.f_ext | (with_reducible apply DL.set_goal; focus ((try simp only [List.cons_append, List.nil_append, List.replicate_succ, List.replicate_zero, Nat.reduceSub, List.set_cons_zero, List.set_cons_succ, DL.with_arg, DL.with_own, DL.wipeD, List.map_cons, List.map_nil, DL.toArg, DL.back2, DL.back2a, DL.back, DL.back1]); rfl)) | with_reducible apply DL.s_seqG | with_reducible apply DL.step_b | with_reducible apply DL.k_nx | with_reducible exact DL.k_rt | with_reducible exact DL.k_ct | with_reducible exact DL.k_bk | with_reducible apply DL.s_asgG | with_reducible apply DL.s_asg | with_reducible apply DL.s_drop | with_reducible apply DL.s_ret | with_reducible apply DL.s_if | with_reducible exact DL.s_skip | (with_reducible apply DL.f_eq; (first | rfl | assumption); (first | rfl | assumption)) | (with_reducible apply DL.f_ne; (first | rfl | assumption); (first | rfl | assumption)) | with_reducible apply DL.f_addT | (with_reducible apply DL.f_ixT; assumption) | (with_reducible apply DL.f_ixL; assumption) | with_reducible apply DL.f_addL | with_reducible apply DL.s_par | with_reducible apply DL.s_for | with_reducible apply DL.i_it | with_reducible apply DL.i_r1 | with_reducible apply DL.r_lc | with_reducible apply DL.r_lc2 | with_reducible apply DL.i_enumT | with_reducible exact DL.t_yes | with_reducible apply DL.turn_e | with_reducible apply DL.g_tup | with_reducible apply DL.g_lst | with_reducible apply DL.g_cons | with_reducible exact DL.g_nil | with_reducible apply DL.g_n | (with_reducible apply DL.set_fz; rfl; focus ((try simp only [List.cons_append, List.nil_append, List.replicate_succ, List.replicate_zero, Nat.reduceSub, List.set_cons_zero, List.set_cons_succ, DL.with_arg, DL.with_own, DL.wipeD, List.map_cons, List.map_nil, DL.toArg, DL.back2, DL.back2a, DL.back, DL.back1]); rfl)) | (with_reducible apply DL.set_own; rfl; focus ((try simp only [List.cons_append, List.nil_append, List.replicate_succ, List.replicate_zero, Nat.reduceSub, List.set_cons_zero, List.set_cons_succ, DL.with_arg, DL.with_own, DL.wipeD, List.map_cons, List.map_nil, DL.toArg, DL.back2, DL.back2a, DL.back, DL.back1]); rfl)) | (with_reducible apply DL.p_t; (first | rfl | focus (simp [*]; done) | assumption)) | (with_reducible apply DL.p_f; (first | rfl | focus (simp [*]; done) | assumption)) | (with_reducible apply DL.v_fz; rfl) | (with_reducible apply DL.v_own; rfl) | (with_reducible apply DL.v_arg; rfl) | with_reducible exact DL.r_c | with_reducible apply DL.r_andB | with_reducible apply DL.r_bin | with_reducible apply DL.r_un | with_reducible apply DL.r_test | with_reducible apply DL.r_notV | with_reducible apply DL.r_and | with_reducible apply DL.r_or | with_reducible apply DL.r_not | with_reducible apply DL.r_if | with_reducible apply DL.r_chainB | with_reducible exact DL.l_nil | with_reducible apply DL.l_cons | with_reducible apply DL.r_tup | with_reducible apply DL.r_lst | with_reducible apply DL.o_some | with_reducible exact DL.o_none | with_reducible apply DL.r_sl | with_reducible exact DL.a_nil | with_reducible apply DL.a_val | with_reducible apply DL.a_ref | (with_reducible apply DL.small_of; focus (first | omega | (simp <;> omega))) | with_reducible apply DL.r_callR | with_reducible apply DL.r_call | (first | exact e_is_row_of _ _ | exact e_is_row _ | exact e_is_below _ _ | exact e_is_whole _ | assumption) | (with_reducible apply DL.f_mod; (first | assumption | omega | focus (simp; omega))) | (with_reducible apply DL.f_div; (first | assumption | omega | focus (simp; omega))) | with_reducible apply DL.f_mulI | (with_reducible apply DL.wide_lt; (first | assumption | omega | focus (simp; omega))) | rfl | (focus ((try simp only [List.cons_append, List.nil_append, List.replicate_succ, List.replicate_zero, Nat.reduceSub, List.set_cons_zero, List.set_cons_succ, DL.with_arg, DL.with_own, DL.wipeD, List.map_cons, List.map_nil, DL.toArg, DL.back2, DL.back2a, DL.back, DL.back1]); rfl); done)))
        | fz d => (repeat' (first | with_reducible apply DL.s_setI | with_reducible apply DL.s_app | with_reducible apply DL.s_ext | (with_reducible apply DL.m_arg; rfl) | (with_reducible apply DL.m_own; rfl) | (with_reducible apply DL.f_set; rfl; focus ((try simp only [List.cons_append, List.nil_append, List.replicate_succ, List.replicate_zero, Nat.reduceSub, List.set_cons_zero, List.set_cons_succ, DL.with_arg, DL.with_own, DL.wipeD, List.map_cons, List.map_nil, DL.toArg, DL.back2, DL.back2a, DL.back, DL.back1]); rfl)) | with_reducible apply DL.f_app | with_reducible apply DL.f_ext | (with_reducible apply DL.set_goal; focus ((try simp only [List.cons_append, List.nil_append, List.replicate_succ, List.replicate_zero, Nat.reduceSub, List.set_cons_zero, List.set_cons_succ, DL.with_arg, DL.with_own, DL.wipeD, List.map_cons, List.map_nil, DL.toArg, DL.back2, DL.back2a, DL.back, DL.back1]); rfl)) | with_reducible apply DL.s_seqG | with_reducible apply DL.step_b | with_reducible apply DL.k_nx | with_reducible exact DL.k_rt | with_reducible exact DL.k_ct | with_reducible exact DL.k_bk | with_reducible apply DL.s_asgG | with_reducible apply DL.s_asg | with_reducible apply DL.s_drop | with_reducible apply DL.s_ret | with_reducible apply DL.s_if | with_reducible exact DL.s_skip | (with_reducible apply DL.f_eq; (first | rfl | assumption); (first | rfl | assumption)) | (with_reducible apply DL.f_ne; (first | rfl | assumption); (first | rfl | assumption)) | with_reducible apply DL.f_addT | (with_reducible apply DL.f_ixT; assumption) | (with_reducible apply DL.f_ixL; assumption) | with_reducible apply DL.f_addL | with_reducible apply DL.s_par | with_reducible apply DL.s_for | with_reducible apply DL.i_it | with_reducible apply DL.i_r1 | with_reducible apply DL.r_lc | with_reducible apply DL.r_lc2 | with_reducible apply DL.i_enumT | with_reducible exact DL.t_yes | with_reducible apply DL.turn_e | with_reducible apply DL.g_tup | with_reducible apply DL.g_lst | with_reducible apply DL.g_cons | with_reducible exact DL.g_nil | with_reducible apply DL.g_n | (with_reducible apply DL.set_fz; rfl; focus ((try simp only [List.cons_append, List.nil_append, List.replicate_succ, List.replicate_zero, Nat.reduceSub, List.set_cons_zero, List.set_cons_succ, DL.with_arg, DL.with_own, DL.wipeD, List.map_cons, List.map_nil, DL.toArg, DL.back2, DL.back2a, DL.back, DL.back1]); rfl)) | (with_reducible apply DL.set_own; rfl; focus ((try simp only [List.cons_append, List.nil_append, List.replicate_succ, List.replicate_zero, Nat.reduceSub, List.set_cons_zero, List.set_cons_succ, DL.with_arg, DL.with_own, DL.wipeD, List.map_cons, List.map_nil, DL.toArg, DL.back2, DL.back2a, DL.back, DL.back1]); rfl)) | (with_reducible apply DL.p_t; (first | rfl | focus (simp [*]; done) | assumption)) | (with_reducible apply DL.p_f; (first | rfl | focus (simp [*]; done) | assumption)) | (with_reducible apply DL.v_fz; rfl) | (with_reducible apply DL.v_own; rfl) | (with_reducible apply DL.v_arg; rfl) | with_reducible exact DL.r_c | with_reducible apply DL.r_andB | with_reducible apply DL.r_bin | with_reducible apply DL.r_un | with_reducible apply DL.r_test | with_reducible apply DL.r_notV | with_reducible apply DL.r_and | with_reducible apply DL.r_or | with_reducible apply DL.r_not | with_reducible apply DL.r_if | with_reducible apply DL.r_chainB | with_reducible exact DL.l_nil | with_reducible apply DL.l_cons | with_reducible apply DL.r_tup | with_reducible apply DL.r_lst | with_reducible apply DL.o_some | with_reducible exact DL.o_none | with_reducible apply DL.r_sl | with_reducible exact DL.a_nil | with_reducible apply DL.a_val | with_reducible apply DL.a_ref | (with_reducible apply DL.small_of; focus (first | omega | (simp <;> omega))) | with_reducible apply DL.r_callR | with_reducible apply DL.r_call | (first | exact e_is_row_of _ _ | exact e_is_row _ | exact e_is_below _ _ | exact e_is_whole _ | assumption) | (with_reducible apply DL.f_mod; (first | assumption | omega | focus (simp; omega))) | (with_reducible apply DL.f_div; (first | assumption | omega | focus (simp; omega))) | with_reducible apply DL.f_mulI | (with_reducible apply DL.wide_lt; (first | assumption | omega | focus (simp; omega))) | rfl | (focus ((try simp only [List.cons_append, List.nil_append, List.replicate_succ, List.replicate_zero, Nat.reduceSub, List.set_cons_zero, List.set_cons_succ, DL.with_arg, DL.with_own, DL.wipeD, List.map_cons, List.map_nil, DL.toArg, DL.back2, DL.back2a, DL.back, DL.back1]); rfl); done)))
    have w2 : gKe (gSt ls pl (.fz (.int q.1)) (.fz (.int q.2))) = .ok (.fz (.str ⟨#[l.2.2]⟩)) (gSt ls pl (.fz (.int q.1)) (.fz (.int q.2))) := by
      unfold gSt
      (repeat' (first | with_reducible apply DL.s_setI | with_reducible apply DL.s_app | with_reducible apply DL.s_ext | (with_reducible apply DL.m_arg; rfl) | (with_reducible apply DL.m_own; rfl) | (with_reducible apply DL.f_set; rfl; focus ((try simp only [List.cons_append, List.nil_append, List.replicate_succ, List.replicate_zero, Nat.reduceSub, List.set_cons_zero, List.set_cons_succ, DL.with_arg, DL.with_own, DL.wipeD, List.map_cons, List.map_nil, DL.toArg, DL.back2, DL.back2a, DL.back, DL.back1]); rfl)) | with_reducible apply DL.f_app | with_reducible apply DL.f_ext | (with_reducible apply DL.set_goal; focus ((try simp only [List.cons_append, List.nil_append, List.replicate_succ, List.replicate_zero, Nat.reduceSub, List.set_cons_zero, List.set_cons_succ, DL.with_arg, DL.with_own, DL.wipeD, List.map_cons, List.map_nil, DL.toArg, DL.back2, DL.back2a, DL.back, DL.back1]); rfl)) | with_reducible apply DL.s_seqG | with_reducible apply DL.step_b | with_reducible apply DL.k_nx | with_reducible exact DL.k_rt | with_reducible exact DL.k_ct | with_reducible exact DL.k_bk | with_reducible apply DL.s_asgG | with_reducible apply DL.s_asg | with_reducible apply DL.s_drop | with_reducible apply DL.s_ret | with_reducible apply DL.s_if | with_reducible exact DL.s_skip | (with_reducible apply DL.f_eq; (first | rfl | assumption); (first | rfl | assumption)) | (with_reducible apply DL.f_ne; (first | rfl | assumption); (first | rfl | assumption)) | with_reducible apply DL.f_addT | (with_reducible apply DL.f_ixT; assumption) | (with_reducible apply DL.f_ixL; assumption) | with_reducible apply DL.f_addL | with_reducible apply DL.s_par | with_reducible apply DL.s_for | with_reducible apply DL.i_it | with_reducible apply DL.i_r1 | with_reducible apply DL.r_lc | with_reducible apply DL.r_lc2 | with_reducible apply DL.i_enumT | with_reducible exact DL.t_yes | with_reducible apply DL.turn_e | with_reducible apply DL.g_tup | with_reducible apply DL.g_lst | with_reducible apply DL.g_cons | with_reducible exact DL.g_nil | with_reducible apply DL.g_n | (with_reducible apply DL.set_fz; rfl; focus ((try simp only [List.cons_append, List.nil_append, List.replicate_succ, List.replicate_zero, Nat.reduceSub, List.set_cons_zero, List.set_cons_succ, DL.with_arg, DL.with_own, DL.wipeD, List.map_cons, List.map_nil, DL.toArg, DL.back2, DL.back2a, DL.back, DL.back1]); rfl)) | (with_reducible apply DL.set_own; rfl; focus ((try simp only [List.cons_append, List.nil_append, List.replicate_succ, List.replicate_zero, Nat.reduceSub, List.set_cons_zero, List.set_cons_succ, DL.with_arg, DL.with_own, DL.wipeD, List.map_cons, List.map_nil, DL.toArg, DL.back2, DL.back2a, DL.back, DL.back1]); rfl)) | (with_reducible apply DL.p_t; (first | rfl | focus (simp [*]; done) | assumption)) | (with_reducible apply DL.p_f; (first | rfl | focus (simp [*]; done) | assumption)) | (with_reducible apply DL.v_fz; rfl) | (with_reducible apply DL.v_own; rfl) | (with_reducible apply DL.v_arg; rfl) | with_reducible exact DL.r_c | with_reducible apply DL.r_andB | with_reducible apply DL.r_bin | with_reducible apply DL.r_un | with_reducible apply DL.r_test | with_reducible apply DL.r_notV | with_reducible apply DL.r_and | with_reducible apply DL.r_or | with_reducible apply DL.r_not | with_reducible apply DL.r_if | with_reducible apply DL.r_chainB | with_reducible exact DL.l_nil | with_reducible apply DL.l_cons | with_reducible apply DL.r_tup | with_reducible apply DL.r_lst | with_reducible apply DL.o_some | with_reducible exact DL.o_none | with_reducible apply DL.r_sl | with_reducible exact DL.a_nil | with_reducible apply DL.a_val | with_reducible apply DL.a_ref | (with_reducible apply DL.small_of; focus (first | omega | (simp <;> omega))) | with_reducible apply DL.r_callR | with_reducible apply DL.r_call | (first | exact e_is_row_of _ _ | exact e_is_row _ | exact e_is_below _ _ | exact e_is_whole _ | assumption) | (with_reducible apply DL.f_mod; (first | assumption | omega | focus (simp; omega))) | (with_reducible apply DL.f_div; (first | assumption | omega | focus (simp; omega))) | with_reducible apply DL.f_mulI | (with_reducible apply DL.wide_lt; (first | assumption | omega | focus (simp; omega))) | rfl | (focus ((try simp only [List.cons_append, List.nil_append, List.replicate_succ, List.replicate_zero, Nat.reduceSub, List.set_cons_zero, List.set_cons_succ, DL.with_arg, DL.with_own, DL.wipeD, List.map_cons, List.map_nil, DL.toArg, DL.back2, DL.back2a, DL.back, DL.back1]); rfl); done)))
    have w3 : gVe (gSt ls pl (.fz (.int q.1)) (.fz (.int q.2))) = .ok (.fz (encE q)) (gSt ls pl (.fz (.int q.1)) (.fz (.int q.2))) := by
      unfold gSt
      (repeat' (first | with_reducible apply DL.s_setI | with_reducible apply DL.s_app | with_reducible apply DL.s_ext | (with_reducible apply DL.m_arg; rfl) | (with_reducible apply DL.m_own; rfl) | (with_reducible apply DL.f_set; rfl; focus ((try simp only [List.cons_append, List.nil_append, List.replicate_succ, List.replicate_zero, Nat.reduceSub, List.set_cons_zero, List.set_cons_succ, DL.with_arg, DL.with_own, DL.wipeD, List.map_cons, List.map_nil, DL.toArg, DL.back2, DL.back2a, DL.back, DL.back1]); rfl)) | with_reducible apply DL.f_app | with_reducible apply DL.f_ext | (with_reducible apply DL.set_goal; focus ((try simp only [List.cons_append, List.nil_append, List.replicate_succ, List.replicate_zero, Nat.reduceSub, List.set_cons_zero, List.set_cons_succ, DL.with_arg, DL.with_own, DL.wipeD, List.map_cons, List.map_nil, DL.toArg, DL.back2, DL.back2a, DL.back, DL.back1]); rfl)) | with_reducible apply DL.s_seqG | with_reducible apply DL.step_b | with_reducible apply DL.k_nx | with_reducible exact DL.k_rt | with_reducible exact DL.k_ct | with_reducible exact DL.k_bk | with_reducible apply DL.s_asgG | with_reducible apply DL.s_asg | with_reducible apply DL.s_drop | with_reducible apply DL.s_ret | with_reducible apply DL.s_if | with_reducible exact DL.s_skip | (with_reducible apply DL.f_eq; (first | rfl | assumption); (first | rfl | assumption)) | (with_reducible apply DL.f_ne; (first | rfl | assumption); (first | rfl | assumption)) | with_reducible apply DL.f_addT | (with_reducible apply DL.f_ixT; assumption) | (with_reducible apply DL.f_ixL; assumption) | with_reducible apply DL.f_addL | with_reducible apply DL.s_par | with_reducible apply DL.s_for | with_reducible apply DL.i_it | with_reducible apply DL.i_r1 | with_reducible apply DL.r_lc | with_reducible apply DL.r_lc2 | with_reducible apply DL.i_enumT | with_reducible exact DL.t_yes | with_reducible apply DL.turn_e | with_reducible apply DL.g_tup | with_reducible apply DL.g_lst | with_reducible apply DL.g_cons | with_reducible exact DL.g_nil | with_reducible apply DL.g_n | (with_reducible apply DL.set_fz; rfl; focus ((try simp only [List.cons_append, List.nil_append, List.replicate_succ, List.replicate_zero, Nat.reduceSub, List.set_cons_zero, List.set_cons_succ, DL.with_arg, DL.with_own, DL.wipeD, List.map_cons, List.map_nil, DL.toArg, DL.back2, DL.back2a, DL.back, DL.back1]); rfl)) | (with_reducible apply DL.set_own; rfl; focus ((try simp only [List.cons_append, List.nil_append, List.replicate_succ, List.replicate_zero, Nat.reduceSub, List.set_cons_zero, List.set_cons_succ, DL.with_arg, DL.with_own, DL.wipeD, List.map_cons, List.map_nil, DL.toArg, DL.back2, DL.back2a, DL.back, DL.back1]); rfl)) | (with_reducible apply DL.p_t; (first | rfl | focus (simp [*]; done) | assumption)) | (with_reducible apply DL.p_f; (first | rfl | focus (simp [*]; done) | assumption)) | (with_reducible apply DL.v_fz; rfl) | (with_reducible apply DL.v_own; rfl) | (with_reducible apply DL.v_arg; rfl) | with_reducible exact DL.r_c | with_reducible apply DL.r_andB | with_reducible apply DL.r_bin | with_reducible apply DL.r_un | with_reducible apply DL.r_test | with_reducible apply DL.r_notV | with_reducible apply DL.r_and | with_reducible apply DL.r_or | with_reducible apply DL.r_not | with_reducible apply DL.r_if | with_reducible apply DL.r_chainB | with_reducible exact DL.l_nil | with_reducible apply DL.l_cons | with_reducible apply DL.r_tup | with_reducible apply DL.r_lst | with_reducible apply DL.o_some | with_reducible exact DL.o_none | with_reducible apply DL.r_sl | with_reducible exact DL.a_nil | with_reducible apply DL.a_val | with_reducible apply DL.a_ref | (with_reducible apply DL.small_of; focus (first | omega | (simp <;> omega))) | with_reducible apply DL.r_callR | with_reducible apply DL.r_call | (first | exact e_is_row_of _ _ | exact e_is_row _ | exact e_is_below _ _ | exact e_is_whole _ | assumption) | (with_reducible apply DL.f_mod; (first | assumption | omega | focus (simp; omega))) | (with_reducible apply DL.f_div; (first | assumption | omega | focus (simp; omega))) | with_reducible apply DL.f_mulI | (with_reducible apply DL.wide_lt; (first | assumption | omega | focus (simp; omega))) | rfl | (focus ((try simp only [List.cons_append, List.nil_append, List.replicate_succ, List.replicate_zero, Nat.reduceSub, List.set_cons_zero, List.set_cons_succ, DL.with_arg, DL.with_own, DL.wipeD, List.map_cons, List.map_nil, DL.toArg, DL.back2, DL.back2a, DL.back, DL.back1]); rfl); done)))
    have w4 : grpT gKe gVe acc (gSt ls pl (.fz (.int q.1)) (.fz (.int q.2))) = .ok (gstep ls acc q) (gSt ls pl (.fz (.int q.1)) (.fz (.int q.2))) := by
      unfold grpT
      rw [w2]
      simp only [DL.keyOf]
      rw [w3]
      simp only
      rw [szG_of (by omega) h1 h2]
      unfold gstep
      rw [hc]
      rfl
    exact grpL_go w1 w4
def gacc (ls : List Ln) (pl : Int) : List (Key × List D) := (endsOf ls pl).foldl (gstep ls) []
theorem endsOf_lt {ls : List Ln} {pl : Int} : ∀ q ∈ endsOf ls pl, q.1 < ls.length := fun q hq => by
  unfold endsOf at hq
  obtain ⟨r, hr, hq⟩ := List.mem_flatMap.mp hq
  have h1 := (List.of_mem_zip hr).1
  have h1 := List.mem_range.mp h1
  unfold endAt at hq
  rcases List.mem_append.mp hq with hq | hq
  · split at hq
    · have : q = (r.1, 0) := by simpa using hq
      subst this
      exact h1
    · cases hq
  · split at hq
    · have : q = (r.1, 1) := by simpa using hq
      subst this
      exact h1
    · cases hq
theorem e_groups_of (ls : List Ln) (pl : Int) (hl : ls.length ≤ 1000) : d_groups_of [.fz (.tuple (ls.map encL)), .fz (.int pl)] = .ok (.own (.dct (lstG (gacc ls pl)))) [.no, .no] := by
  have c1 := e_ends_of ls pl hl
  have hE := endsOf_len ls pl
  obtain ⟨t3, t4, e, r3, r4⟩ := grp_all ls pl (endsOf ls pl) [] 0 .no .no endsOf_lt (by omega) (Nat.le_refl _) (fun q hq => nomatch hq) rfl rfl
  have main : dGrp 2 (dIter (dCall d_ends_of (aVal (dVar 0) (aVal (dVar 1) aNil)))) gTg gKe gVe [.fz (.tuple (ls.map encL)), .fz (.int pl), .own (.dct []), .no, .no] = .ok .nx [.fz (.tuple (ls.map encL)), .fz (.int pl), .own (.dct (lstG (gacc ls pl))), t3, t4] := by
    have hi : dIter (dCall d_ends_of (aVal (dVar 0) (aVal (dVar 1) aNil))) (gSt ls pl .no .no) = .ok ((endsOf ls pl).map encE) (gSt ls pl .no .no) := by
      unfold gSt
      (repeat' (first | with_reducible apply DL.s_setI | with_reducible apply DL.s_app | with_reducible apply DL.s_ext | (with_reducible apply DL.m_arg; rfl) | (with_reducible apply DL.m_own; rfl) | (with_reducible apply DL.f_set; rfl; focus ((try simp only [List.cons_append, List.nil_append, List.replicate_succ, List.replicate_zero, Nat.reduceSub, List.set_cons_zero, List.set_cons_succ, DL.with_arg, DL.with_own, DL.wipeD, List.map_cons, List.map_nil, DL.toArg, DL.back2, DL.back2a, DL.back, DL.back1]); rfl)) | with_reducible apply DL.f_app | with_reducible apply DL.f_ext | (with_reducible apply DL.set_goal; focus ((try simp only [List.cons_append, List.nil_append, List.replicate_succ, List.replicate_zero, Nat.reduceSub, List.set_cons_zero, List.set_cons_succ, DL.with_arg, DL.with_own, DL.wipeD, List.map_cons, List.map_nil, DL.toArg, DL.back2, DL.back2a, DL.back, DL.back1]); rfl)) | with_reducible apply DL.s_seqG | with_reducible apply DL.step_b | with_reducible apply DL.k_nx | with_reducible exact DL.k_rt | with_reducible exact DL.k_ct | with_reducible exact DL.k_bk | with_reducible apply DL.s_asgG | with_reducible apply DL.s_asg | with_reducible apply DL.s_drop | with_reducible apply DL.s_ret | with_reducible apply DL.s_if | with_reducible exact DL.s_skip | (with_reducible apply DL.f_eq; (first | rfl | assumption); (first | rfl | assumption)) | (with_reducible apply DL.f_ne; (first | rfl | assumption); (first | rfl | assumption)) | with_reducible apply DL.f_addT | (with_reducible apply DL.f_ixT; assumption) | (with_reducible apply DL.f_ixL; assumption) | with_reducible apply DL.f_addL | with_reducible apply DL.s_par | with_reducible apply DL.s_for | with_reducible apply DL.i_it | with_reducible apply DL.i_r1 | with_reducible apply DL.r_lc | with_reducible apply DL.r_lc2 | with_reducible apply DL.i_enumT | with_reducible exact DL.t_yes | with_reducible apply DL.turn_e | with_reducible apply DL.g_tup | with_reducible apply DL.g_lst | with_reducible apply DL.g_cons | with_reducible exact DL.g_nil | with_reducible apply DL.g_n | (with_reducible apply DL.set_fz; rfl; focus ((try simp only [List.cons_append, List.nil_append, List.replicate_succ, List.replicate_zero, Nat.reduceSub, List.set_cons_zero, List.set_cons_succ, DL.with_arg, DL.with_own, DL.wipeD, List.map_cons, List.map_nil, DL.toArg, DL.back2, DL.back2a, DL.back, DL.back1]); rfl)) | (with_reducible apply DL.set_own; rfl; focus ((try simp only [List.cons_append, List.nil_append, List.replicate_succ, List.replicate_zero, Nat.reduceSub, List.set_cons_zero, List.set_cons_succ, DL.with_arg, DL.with_own, DL.wipeD, List.map_cons, List.map_nil, DL.toArg, DL.back2, DL.back2a, DL.back, DL.back1]); rfl)) | (with_reducible apply DL.p_t; (first | rfl | focus (simp [*]; done) | assumption)) | (with_reducible apply DL.p_f; (first | rfl | focus (simp [*]; done) | assumption)) | (with_reducible apply DL.v_fz; rfl) | (with_reducible apply DL.v_own; rfl) | (with_reducible apply DL.v_arg; rfl) | with_reducible exact DL.r_c | with_reducible apply DL.r_andB | with_reducible apply DL.r_bin | with_reducible apply DL.r_un | with_reducible apply DL.r_test | with_reducible apply DL.r_notV | with_reducible apply DL.r_and | with_reducible apply DL.r_or | with_reducible apply DL.r_not | with_reducible apply DL.r_if | with_reducible apply DL.r_chainB | with_reducible exact DL.l_nil | with_reducible apply DL.l_cons | with_reducible apply DL.r_tup | with_reducible apply DL.r_lst | with_reducible apply DL.o_some | with_reducible exact DL.o_none | with_reducible apply DL.r_sl | with_reducible exact DL.a_nil | with_reducible apply DL.a_val | with_reducible apply DL.a_ref | (with_reducible apply DL.small_of; focus (first | omega | (simp <;> omega))) | with_reducible apply DL.r_callR | with_reducible apply DL.r_call | (first | exact e_is_row_of _ _ | exact e_is_row _ | exact e_is_below _ _ | exact e_is_whole _ | assumption) | (with_reducible apply DL.f_mod; (first | assumption | omega | focus (simp; omega))) | (with_reducible apply DL.f_div; (first | assumption | omega | focus (simp; omega))) | with_reducible apply DL.f_mulI | (with_reducible apply DL.wide_lt; (first | assumption | omega | focus (simp; omega))) | rfl | (focus ((try simp only [List.cons_append, List.nil_append, List.replicate_succ, List.replicate_zero, Nat.reduceSub, List.set_cons_zero, List.set_cons_succ, DL.with_arg, DL.with_own, DL.wipeD, List.map_cons, List.map_nil, DL.toArg, DL.back2, DL.back2a, DL.back, DL.back1]); rfl); done)))
    have hn : noHeld (gSt ls pl t3 t4) = true := by
      unfold noHeld gSt
      rw [List.all_cons, List.all_cons, List.all_cons, List.all_cons, List.all_cons, r3, r4]
      rfl
    unfold dGrp
    show okIf _ (match dIter (dCall d_ends_of (aVal (dVar 0) (aVal (dVar 1) aNil))) (gSt ls pl .no .no) with | .ok ds δ1 => _ | _ => .bad) = _
    rw [hi]
    simp only
    rw [e]
    simp only
    rw [hn]
    rfl
  unfold d_groups_of
  apply run_rt rfl
  · focus ((try simp only [List.cons_append, List.nil_append, List.replicate_succ, List.replicate_zero, Nat.reduceSub, List.set_cons_zero, List.set_cons_succ, DL.with_arg, DL.with_own, DL.wipeD, List.map_cons, List.map_nil, DL.toArg, DL.back2, DL.back2a, DL.back, DL.back1]); rfl)
  · unfold sd_groups_of
    apply s_seqG
    · apply s_asg
      · rfl
      · (repeat' (first | with_reducible apply DL.s_setI | with_reducible apply DL.s_app | with_reducible apply DL.s_ext | (with_reducible apply DL.m_arg; rfl) | (with_reducible apply DL.m_own; rfl) | (with_reducible apply DL.f_set; rfl; focus ((try simp only [List.cons_append, List.nil_append, List.replicate_succ, List.replicate_zero, Nat.reduceSub, List.set_cons_zero, List.set_cons_succ, DL.with_arg, DL.with_own, DL.wipeD, List.map_cons, List.map_nil, DL.toArg, DL.back2, DL.back2a, DL.back, DL.back1]); rfl)) | with_reducible apply DL.f_app | with_reducible apply DL.f_ext | (with_reducible apply DL.set_goal; focus ((try simp only [List.cons_append, List.nil_append, List.replicate_succ, List.replicate_zero, Nat.reduceSub, List.set_cons_zero, List.set_cons_succ, DL.with_arg, DL.with_own, DL.wipeD, List.map_cons, List.map_nil, DL.toArg, DL.back2, DL.back2a, DL.back, DL.back1]); rfl)) | with_reducible apply DL.s_seqG | with_reducible apply DL.step_b | with_reducible apply DL.k_nx | with_reducible exact DL.k_rt | with_reducible exact DL.k_ct | with_reducible exact DL.k_bk | with_reducible apply DL.s_asgG | with_reducible apply DL.s_asg | with_reducible apply DL.s_drop | with_reducible apply DL.s_ret | with_reducible apply DL.s_if | with_reducible exact DL.s_skip | (with_reducible apply DL.f_eq; (first | rfl | assumption); (first | rfl | assumption)) | (with_reducible apply DL.f_ne; (first | rfl | assumption); (first | rfl | assumption)) | with_reducible apply DL.f_addT | (with_reducible apply DL.f_ixT; assumption) | (with_reducible apply DL.f_ixL; assumption) | with_reducible apply DL.f_addL | with_reducible apply DL.s_par | with_reducible apply DL.s_for | with_reducible apply DL.i_it | with_reducible apply DL.i_r1 | with_reducible apply DL.r_lc | with_reducible apply DL.r_lc2 | with_reducible apply DL.i_enumT | with_reducible exact DL.t_yes | with_reducible apply DL.turn_e | with_reducible apply DL.g_tup | with_reducible apply DL.g_lst | with_reducible apply DL.g_cons | with_reducible exact DL.g_nil | with_reducible apply DL.g_n | (with_reducible apply DL.set_fz; rfl; focus ((try simp only [List.cons_append, List.nil_append, List.replicate_succ, List.replicate_zero, Nat.reduceSub, List.set_cons_zero, List.set_cons_succ, DL.with_arg, DL.with_own, DL.wipeD, List.map_cons, List.map_nil, DL.toArg, DL.back2, DL.back2a, DL.back, DL.back1]); rfl)) | (with_reducible apply DL.set_own; rfl; focus ((try simp only [List.cons_append, List.nil_append, List.replicate_succ, List.replicate_zero, Nat.reduceSub, List.set_cons_zero, List.set_cons_succ, DL.with_arg, DL.with_own, DL.wipeD, List.map_cons, List.map_nil, DL.toArg, DL.back2, DL.back2a, DL.back, DL.back1]); rfl)) | (with_reducible apply DL.p_t; (first | rfl | focus (simp [*]; done) | assumption)) | (with_reducible apply DL.p_f; (first | rfl | focus (simp [*]; done) | assumption)) | (with_reducible apply DL.v_fz; rfl) | (with_reducible apply DL.v_own; rfl) | (with_reducible apply DL.v_arg; rfl) | with_reducible exact DL.r_c | with_reducible apply DL.r_andB | with_reducible apply DL.r_bin | with_reducible apply DL.r_un | with_reducible apply DL.r_test | with_reducible apply DL.r_notV | with_reducible apply DL.r_and | with_reducible apply DL.r_or | with_reducible apply DL.r_not | with_reducible apply DL.r_if | with_reducible apply DL.r_chainB | with_reducible exact DL.l_nil | with_reducible apply DL.l_cons | with_reducible apply DL.r_tup | with_reducible apply DL.r_lst | with_reducible apply DL.o_some | with_reducible exact DL.o_none | with_reducible apply DL.r_sl | with_reducible exact DL.a_nil | with_reducible apply DL.a_val | with_reducible apply DL.a_ref | (with_reducible apply DL.small_of; focus (first | omega | (simp <;> omega))) | with_reducible apply DL.r_callR | with_reducible apply DL.r_call | (first | exact e_is_row_of _ _ | exact e_is_row _ | exact e_is_below _ _ | exact e_is_whole _ | assumption) | (with_reducible apply DL.f_mod; (first | assumption | omega | focus (simp; omega))) | (with_reducible apply DL.f_div; (first | assumption | omega | focus (simp; omega))) | with_reducible apply DL.f_mulI | (with_reducible apply DL.wide_lt; (first | assumption | omega | focus (simp; omega))) | rfl | (focus ((try simp only [List.cons_append, List.nil_append, List.replicate_succ, List.replicate_zero, Nat.reduceSub, List.set_cons_zero, List.set_cons_succ, DL.with_arg, DL.with_own, DL.wipeD, List.map_cons, List.map_nil, DL.toArg, DL.back2, DL.back2a, DL.back, DL.back1]); rfl); done)))
    · apply k_nx
      apply s_seqG
      · exact main
      · apply k_nx
        (repeat' (first | with_reducible apply DL.s_setI | with_reducible apply DL.s_app | with_reducible apply DL.s_ext | (with_reducible apply DL.m_arg; rfl) | (with_reducible apply DL.m_own; rfl) | (with_reducible apply DL.f_set; rfl; focus ((try simp only [List.cons_append, List.nil_append, List.replicate_succ, List.replicate_zero, Nat.reduceSub, List.set_cons_zero, List.set_cons_succ, DL.with_arg, DL.with_own, DL.wipeD, List.map_cons, List.map_nil, DL.toArg, DL.back2, DL.back2a, DL.back, DL.back1]); rfl)) | with_reducible apply DL.f_app | with_reducible apply DL.f_ext | (with_reducible apply DL.set_goal; focus ((try simp only [List.cons_append, List.nil_append, List.replicate_succ, List.replicate_zero, Nat.reduceSub, List.set_cons_zero, List.set_cons_succ, DL.with_arg, DL.with_own, DL.wipeD, List.map_cons, List.map_nil, DL.toArg, DL.back2, DL.back2a, DL.back, DL.back1]); rfl)) | with_reducible apply DL.s_seqG | with_reducible apply DL.step_b | with_reducible apply DL.k_nx | with_reducible exact DL.k_rt | with_reducible exact DL.k_ct | with_reducible exact DL.k_bk | with_reducible apply DL.s_asgG | with_reducible apply DL.s_asg | with_reducible apply DL.s_drop | with_reducible apply DL.s_ret | with_reducible apply DL.s_if | with_reducible exact DL.s_skip | (with_reducible apply DL.f_eq; (first | rfl | assumption); (first | rfl | assumption)) | (with_reducible apply DL.f_ne; (first | rfl | assumption); (first | rfl | assumption)) | with_reducible apply DL.f_addT | (with_reducible apply DL.f_ixT; assumption) | (with_reducible apply DL.f_ixL; assumption) | with_reducible apply DL.f_addL | with_reducible apply DL.s_par | with_reducible apply DL.s_for | with_reducible apply DL.i_it | with_reducible apply DL.i_r1 | with_reducible apply DL.r_lc | with_reducible apply DL.r_lc2 | with_reducible apply DL.i_enumT | with_reducible exact DL.t_yes | with_reducible apply DL.turn_e | with_reducible apply DL.g_tup | with_reducible apply DL.g_lst | with_reducible apply DL.g_cons | with_reducible exact DL.g_nil | with_reducible apply DL.g_n | (with_reducible apply DL.set_fz; rfl; focus ((try simp only [List.cons_append, List.nil_append, List.replicate_succ, List.replicate_zero, Nat.reduceSub, List.set_cons_zero, List.set_cons_succ, DL.with_arg, DL.with_own, DL.wipeD, List.map_cons, List.map_nil, DL.toArg, DL.back2, DL.back2a, DL.back, DL.back1]); rfl)) | (with_reducible apply DL.set_own; rfl; focus ((try simp only [List.cons_append, List.nil_append, List.replicate_succ, List.replicate_zero, Nat.reduceSub, List.set_cons_zero, List.set_cons_succ, DL.with_arg, DL.with_own, DL.wipeD, List.map_cons, List.map_nil, DL.toArg, DL.back2, DL.back2a, DL.back, DL.back1]); rfl)) | (with_reducible apply DL.p_t; (first | rfl | focus (simp [*]; done) | assumption)) | (with_reducible apply DL.p_f; (first | rfl | focus (simp [*]; done) | assumption)) | (with_reducible apply DL.v_fz; rfl) | (with_reducible apply DL.v_own; rfl) | (with_reducible apply DL.v_arg; rfl) | with_reducible exact DL.r_c | with_reducible apply DL.r_andB | with_reducible apply DL.r_bin | with_reducible apply DL.r_un | with_reducible apply DL.r_test | with_reducible apply DL.r_notV | with_reducible apply DL.r_and | with_reducible apply DL.r_or | with_reducible apply DL.r_not | with_reducible apply DL.r_if | with_reducible apply DL.r_chainB | with_reducible exact DL.l_nil | with_reducible apply DL.l_cons | with_reducible apply DL.r_tup | with_reducible apply DL.r_lst | with_reducible apply DL.o_some | with_reducible exact DL.o_none | with_reducible apply DL.r_sl | with_reducible exact DL.a_nil | with_reducible apply DL.a_val | with_reducible apply DL.a_ref | (with_reducible apply DL.small_of; focus (first | omega | (simp <;> omega))) | with_reducible apply DL.r_callR | with_reducible apply DL.r_call | (first | exact e_is_row_of _ _ | exact e_is_row _ | exact e_is_below _ _ | exact e_is_whole _ | assumption) | (with_reducible apply DL.f_mod; (first | assumption | omega | focus (simp; omega))) | (with_reducible apply DL.f_div; (first | assumption | omega | focus (simp; omega))) | with_reducible apply DL.f_mulI | (with_reducible apply DL.wide_lt; (first | assumption | omega | focus (simp; omega))) | rfl | (focus ((try simp only [List.cons_append, List.nil_append, List.replicate_succ, List.replicate_zero, Nat.reduceSub, List.set_cons_zero, List.set_cons_succ, DL.with_arg, DL.with_own, DL.wipeD, List.map_cons, List.map_nil, DL.toArg, DL.back2, DL.back2a, DL.back, DL.back1]); rfl); done)))
  all_goals rfl

/-! ### the most of one kind -/
def mxC (cs : List Nat) : Nat := (cs.map fun c => cs.count c).foldl max 0
theorem foldN (ns : List Nat) : ∀ m : Nat, (m ≤ ns.foldl max m) ∧ (∀ y ∈ ns, y ≤ ns.foldl max m) ∧ (ns.foldl max m = m ∨ ns.foldl max m ∈ ns) := by
  induction ns with
  | nil => intro m; exact ⟨Nat.le_refl _, (fun y hy => by cases hy), .inl rfl⟩
  | cons n ns ih =>
    intro m
    obtain ⟨h1, h2, h3⟩ := ih (max m n)
    rw [List.foldl_cons]
    refine ⟨by omega, fun y hy => ?_, ?_⟩
    · rcases List.mem_cons.mp hy with rfl | hy
      · omega
      · exact h2 y hy
    · rcases h3 with h3 | h3
      · by_cases hmn : m ≤ n
        · right
          rw [h3, Nat.max_eq_right hmn]
          exact List.mem_cons_self
        · left
          rw [h3]
          omega
      · exact .inr (List.mem_cons_of_mem _ h3)
theorem mx_ge (cs : List Nat) (c : Nat) : cs.count c ≤ mxC cs := by
  by_cases h : c ∈ cs
  · exact (foldN _ 0).2.1 _ (List.mem_map.mpr ⟨c, h, rfl⟩)
  · rw [List.count_eq_zero.mpr h]
    exact Nat.zero_le _
theorem mx_at (cs : List Nat) : cs = [] ∧ mxC cs = 0 ∨ ∃ c ∈ cs, cs.count c = mxC cs := by
  cases cs with
  | nil => exact .inl ⟨rfl, rfl⟩
  | cons d ds =>
    right
    rcases (foldN ((d :: ds).map fun c => (d :: ds).count c) 0).2.2 with h | h
    · exfalso
      have h1 := mx_ge (d :: ds) d
      have h2 : 0 < (d :: ds).count d := List.count_pos_iff.mpr List.mem_cons_self
      have h3 : mxC (d :: ds) = 0 := h
      omega
    · obtain ⟨c, hc, e⟩ := List.mem_map.mp h
      exact ⟨c, hc, e⟩
theorem mx_le (cs : List Nat) : mxC cs ≤ cs.length := by
  rcases mx_at cs with ⟨h, e⟩ | ⟨c, hc, e⟩
  · rw [e]; exact Nat.zero_le _
  · rw [← e]; exact List.count_le_length
structure Inv (acc : List (Key × List D)) (cs : List Nat) : Prop where
  a : ∀ q ∈ acc, ∃ c ∈ cs, q.1 = chK c ∧ q.2.length = cs.count c
  b : ∀ c ∈ cs, ∃ q ∈ acc, q.1 = chK c
  c : (acc.map Prod.fst).Nodup
  d : (acc.map fun q => q.2.length).sum = cs.length
theorem sum_one {k : Key} {x : D} : ∀ {acc : List (Key × List D)}, (acc.map Prod.fst).Nodup → (∃ q ∈ acc, q.1 = k) → ((acc.map fun q => if q.1 = k then (q.1, q.2 ++ [x]) else q).map fun q => q.2.length).sum = (acc.map fun q => q.2.length).sum + 1
  | [], _, ⟨q, hq, _⟩ => nomatch hq
  | r :: acc, nd, h => by
    rw [List.map_cons, List.nodup_cons] at nd
    rw [List.map_cons, List.map_cons, List.map_cons, List.sum_cons, List.sum_cons]
    by_cases hr : r.1 = k
    · have : acc.map (fun q => if q.1 = k then (q.1, q.2 ++ [x]) else q) = acc := by
        conv => rhs; rw [← List.map_id acc]
        refine List.map_congr_left fun q hq => if_neg fun e => nd.1 ?_
        rw [hr, ← e]
        exact List.mem_map.mpr ⟨q, hq, rfl⟩
      rw [this, if_pos hr]
      show (r.2 ++ [x]).length + _ = _
      rw [List.length_append]
      show r.2.length + 1 + _ = _
      omega
    · obtain ⟨q, hq, e⟩ := h
      rcases List.mem_cons.mp hq with rfl | hq
      · exact absurd e hr
      · rw [sum_one nd.2 ⟨q, hq, e⟩, if_neg hr]
        omega
theorem inv_put {acc : List (Key × List D)} {cs : List Nat} (h : Inv acc cs) (c : Nat) (x : D) : Inv (putG acc (chK c) x) (cs ++ [c]) := by
  obtain ⟨ha, hb, hc, hd⟩ := h
  have cnt : ∀ c', (cs ++ [c]).count c' = cs.count c' + if c = c' then 1 else 0 := fun c' => by
    rw [List.count_append, List.count_singleton]
    by_cases e : c = c'
    · simp [e]
    · simp [e]
  refine ⟨?_, ?_, putG_fst hc, ?_⟩
  · intro q hq
    unfold putG at hq
    split at hq
    · obtain ⟨r, hr, rfl⟩ := List.mem_map.mp hq
      obtain ⟨c', h1, h2, h3⟩ := ha r hr
      refine ⟨c', List.mem_append_left _ h1, ?_, ?_⟩
      · split <;> exact h2
      · rw [cnt]
        split
        · rename_i e
          have : c = c' := chK_inj (e.symm.trans h2)
          rw [if_pos this]
          show (r.2 ++ [x]).length = _
          rw [List.length_append, h3]
          rfl
        · rename_i e
          have : ¬c = c' := fun z => e (by rw [h2, z])
          rw [if_neg this]
          exact h3
    · rename_i hn
      rcases List.mem_append.mp hq with hq | hq
      · obtain ⟨c', h1, h2, h3⟩ := ha q hq
        refine ⟨c', List.mem_append_left _ h1, h2, ?_⟩
        have : ¬c = c' := fun z => hn (List.any_eq_true.mpr ⟨q, hq, decide_eq_true (by rw [h2, z])⟩)
        rw [cnt, if_neg this]
        exact h3
      · have : q = (chK c, [x]) := by simpa using hq
        subst this
        refine ⟨c, by simp, rfl, ?_⟩
        have : c ∉ cs := fun z => by
          obtain ⟨q, hq, e⟩ := hb c z
          exact hn (List.any_eq_true.mpr ⟨q, hq, decide_eq_true e⟩)
        rw [cnt, if_pos rfl, List.count_eq_zero.mpr this]
        rfl
  · intro c' hc'
    unfold putG
    split
    · rename_i hy
      rcases List.mem_append.mp hc' with h | h
      · obtain ⟨q, hq, e⟩ := hb c' h
        refine ⟨_, List.mem_map.mpr ⟨q, hq, rfl⟩, ?_⟩
        split <;> exact e
      · have : c' = c := by simpa using h
        subst this
        obtain ⟨q, hq, e⟩ := List.any_eq_true.mp hy
        have e := of_decide_eq_true e
        refine ⟨_, List.mem_map.mpr ⟨q, hq, rfl⟩, ?_⟩
        split <;> exact e
    · rcases List.mem_append.mp hc' with h | h
      · obtain ⟨q, hq, e⟩ := hb c' h
        exact ⟨q, List.mem_append_left _ hq, e⟩
      · have : c' = c := by simpa using h
        subst this
        exact ⟨_, List.mem_append_right _ (List.mem_singleton.mpr rfl), rfl⟩
  · unfold putG
    split
    · rename_i hy
      obtain ⟨q, hq, e⟩ := List.any_eq_true.mp hy
      rw [sum_one hc ⟨q, hq, of_decide_eq_true e⟩, hd, List.length_append]
      rfl
    · rw [List.map_append, List.sum_append, hd, List.length_append]
      rfl
theorem inv_fold (ls : List Ln) : ∀ (es : List (Nat × Nat)) (acc : List (Key × List D)) (cs : List Nat), Inv acc cs → Inv (es.foldl (gstep ls) acc) (cs ++ es.map fun q => comp ls q.1)
  | [], acc, cs, h => by
    rw [List.map_nil, List.append_nil]
    exact h
  | q :: es, acc, cs, h => by
    have := inv_fold ls es (gstep ls acc q) (cs ++ [comp ls q.1]) (inv_put h _ _)
    rw [List.append_assoc] at this
    exact this
def endC (pl : Int) (l : Ln) : List Nat := (if l.1 = pl then [l.2.2] else []) ++ (if l.2.1 = pl then [l.2.2] else [])
/-- the companies of the ends at a place -/
def coms (ls : List Ln) (pl : Int) : List Nat := ls.flatMap (endC pl)
theorem zip_at {ls : List Ln} {n : Nat} {l : Ln} (h : (n, l) ∈ (List.range ls.length).zip ls) : ls[n]? = some l := by
  obtain ⟨i, hi, e⟩ := List.mem_iff_getElem.mp h
  rw [List.getElem_zip] at e
  have e1 : (List.range ls.length)[i]'(by rw [List.length_zip] at hi; omega) = n := congrArg Prod.fst e
  have e2 : ls[i]'(by rw [List.length_zip] at hi; omega) = l := congrArg Prod.snd e
  rw [List.getElem_range] at e1
  subst e1
  rw [← e2]
  exact List.getElem?_eq_getElem _
theorem coms_ends (ls : List Ln) (pl : Int) : ((endsOf ls pl).map fun q => comp ls q.1) = coms ls pl := by
  unfold endsOf coms
  rw [List.map_flatMap]
  have h1 : ((List.range ls.length).zip ls).flatMap (fun q => (endAt pl q.1 q.2).map fun q => comp ls q.1) = ((List.range ls.length).zip ls).flatMap (fun q => endC pl q.2) := by
    have : ∀ q ∈ (List.range ls.length).zip ls, ((endAt pl q.1 q.2).map fun q => comp ls q.1) = endC pl q.2 := fun q hq => by
      have hl := zip_at (n := q.1) (l := q.2) hq
      have hc : comp ls q.1 = q.2.2.2 := by
        unfold comp
        rw [hl]
        rfl
      unfold endAt endC
      rw [List.map_append]
      congr 1
      · split
        · show [comp ls q.1] = _
          rw [hc]
        · rfl
      · split
        · show [comp ls q.1] = _
          rw [hc]
        · rfl
    rw [List.flatMap_def, List.flatMap_def, List.map_congr_left this]
  rw [h1]
  have h2 : ((List.range ls.length).zip ls).flatMap (fun q => endC pl q.2) = (((List.range ls.length).zip ls).map Prod.snd).flatMap (endC pl) := by
    rw [List.flatMap_def, List.flatMap_def, List.map_map]
    rfl
  rw [h2, List.map_snd_zip (by rw [List.length_range]; exact Nat.le_refl _)]
theorem inv_gacc (ls : List Ln) (pl : Int) : Inv (gacc ls pl) (coms ls pl) := by
  have := inv_fold ls (endsOf ls pl) [] [] ⟨(fun q hq => by cases hq), (fun c hc => by cases hc), List.nodup_nil, rfl⟩
  rw [List.nil_append, coms_ends] at this
  exact this
def wantC (cs : List Nat) : Int := if (cs.length : Int) % 2 > 2 * (mxC cs : Int) - cs.length then (cs.length : Int) % 2 else 2 * (mxC cs : Int) - cs.length
theorem mx_acc {acc : List (Key × List D)} {cs : List Nat} (h : Inv acc cs) : mx0 0 (acc.map fun q => (q.2.length : Int)) = mxC cs := by
  cases acc with
  | nil =>
    have : cs = [] := by
      cases cs with
      | nil => rfl
      | cons c cs =>
        obtain ⟨q, hq, _⟩ := h.b c List.mem_cons_self
        cases hq
    subst this
    rfl
  | cons q acc =>
    obtain ⟨g1, g2⟩ := fold_max (acc.map fun q => (q.2.length : Int)) (q.2.length : Int)
    show (acc.map fun q => (q.2.length : Int)).foldl max (q.2.length : Int) = _
    have e1 : ∃ r ∈ q :: acc, (acc.map fun q => (q.2.length : Int)).foldl max (q.2.length : Int) = (r.2.length : Int) := by
      have g1 : _ ∈ ((q :: acc).map fun q => (q.2.length : Int)) := g1
      obtain ⟨r, hr, e⟩ := List.mem_map.mp g1
      exact ⟨r, hr, e.symm⟩
    obtain ⟨r, hr, e1⟩ := e1
    obtain ⟨c, hc, _, e2⟩ := h.a r hr
    have h3 := mx_ge cs c
    rcases mx_at cs with ⟨h4, _⟩ | ⟨c', hc', h4⟩
    · rw [h4] at hc
      cases hc
    · obtain ⟨r', hr', e3⟩ := h.b c' hc'
      obtain ⟨c2, _, e4, e5⟩ := h.a r' hr'
      have : c2 = c' := chK_inj (e4.symm.trans e3)
      subst this
      have g3 := g2 (r'.2.length : Int) (by
        show _ ∈ ((q :: acc).map fun q => (q.2.length : Int))
        exact List.mem_map.mpr ⟨r', hr', rfl⟩)
      rw [e1] at g3 ⊢
      omega

theorem r_frz {a : De} {δ δ1 : DS} {kvs : List (Key × D)} (h : a δ = .ok (.own (.dct kvs)) δ1) : dFrz a δ = .ok (.fz (dctD (keysOf kvs) (valsOf kvs))) δ1 := by
  unfold dFrz
  rw [h]
  rfl
theorem sum_cast {α : Type} (f : α → Nat) : ∀ xs : List α, (xs.map fun x => (f x : Int)).sum = ((xs.map f).sum : Nat)
  | [] => rfl
  | x :: xs => by
    rw [List.map_cons, List.sum_cons, sum_cast f xs, List.map_cons, List.sum_cons]
    omega
theorem acc_len {acc : List (Key × List D)} {cs : List Nat} (h : Inv acc cs) : acc.length ≤ cs.length := by
  have h1 : ∀ {acc : List (Key × List D)}, (∀ q ∈ acc, 1 ≤ q.2.length) → acc.length ≤ (acc.map fun q => q.2.length).sum := by
    intro acc
    induction acc with
    | nil => intro _; exact Nat.le_refl _
    | cons q acc ih =>
      intro hq
      have := ih fun r hr => hq r (List.mem_cons_of_mem _ hr)
      have := hq q List.mem_cons_self
      rw [List.map_cons, List.sum_cons, List.length_cons]
      omega
  rw [← h.d]
  refine h1 fun q hq => ?_
  obtain ⟨c, hc, _, e⟩ := h.a q hq
  rw [e]
  exact List.count_pos_iff.mpr hc
theorem e_want_of {acc : List (Key × List D)} {cs : List Nat} (h : Inv acc cs) (hc : cs.length ≤ 5000) : d_want_of [.fz (dctD (keysOf (lstG acc)) (valsOf (lstG acc)))] = .ok (.fz (.int (wantC cs))) [.no] := by
  have ev1 : valsOf (lstG acc) = acc.map fun q => PyData.list q.2 := by
    unfold valsOf lstG
    rw [List.map_map]
    rfl
  have hl := acc_len h
  have hm := mx_le cs
  have hd := h.d
  have hi : intsOf (acc.map fun q => PyData.int (q.2.length : Nat)) = some (acc.map fun q => (q.2.length : Int)) := by
    rw [show (acc.map fun q => PyData.int (q.2.length : Nat)) = (acc.map fun q => (q.2.length : Int)).map PyData.int by rw [List.map_map]; rfl, intsOf_map]
  have y1 : fSum (.list (acc.map fun q => PyData.int (q.2.length : Nat))) = some (.fz (.int (cs.length : Nat))) := by
    show (intsOf _).map _ = _
    rw [hi]
    show some (Vl.fz (.int (acc.map fun q => (q.2.length : Int)).sum)) = _
    rw [sum_cast (fun q : Key × List D => q.2.length), hd]
  have y2 : fMaxD (.list (acc.map fun q => PyData.int (q.2.length : Nat))) (.int 0) = some (.fz (.int (mxC cs : Nat))) := by
    show (intsOf _).map _ = _
    rw [hi]
    show some (Vl.fz (.int (mx0 0 (acc.map fun q => (q.2.length : Int))))) = _
    rw [mx_acc h]
  have w1 : wide (mxC cs : Nat) = true := wide_lt (by omega)
  have w2 : wide 2 = true := wide_lt (by decide)
  have y3 : fMax2 (.int (2 * (mxC cs : Nat) - (cs.length : Nat))) (.int ((cs.length : Nat) % 2)) = some (.fz (.int (wantC cs))) := rfl
  rw [ev1]
  generalize keysOf (lstG acc) = ks
  have hcp : compL (turnL [3] (gN 3) dYes (dUn fLen (dVar 3))) (acc.map fun q => PyData.list q.2) [.fz (dctD ks (acc.map fun q => PyData.list q.2)), .no, .no, .no] = .ok (acc.map fun q => PyData.int (q.2.length : Nat)) [.fz (dctD ks (acc.map fun q => PyData.list q.2)), .no, .no, .no] := by
    refine comp_map1 (ψ := fun q : Key × List D => PyData.int (q.2.length : Nat)) fun q hq => ?_
    clear y1 y2 y3
    apply turn_1
    · focus ((try simp only [List.cons_append, List.nil_append, List.replicate_succ, List.replicate_zero, Nat.reduceSub, List.set_cons_zero, List.set_cons_succ, DL.with_arg, DL.with_own, DL.wipeD, List.map_cons, List.map_nil, DL.toArg, DL.back2, DL.back2a, DL.back, DL.back1]); rfl)
    · (repeat' (first | with_reducible apply DL.s_setI | with_reducible apply DL.s_app | with_reducible apply DL.s_ext | (with_reducible apply DL.m_arg; rfl) | (with_reducible apply DL.m_own; rfl) | (with_reducible apply DL.f_set; rfl; focus ((try simp only [List.cons_append, List.nil_append, List.replicate_succ, List.replicate_zero, Nat.reduceSub, List.set_cons_zero, List.set_cons_succ, DL.with_arg, DL.with_own, DL.wipeD, List.map_cons, List.map_nil, DL.toArg, DL.back2, DL.back2a, DL.back, DL.back1]); rfl)) | with_reducible apply DL.f_app | with_reducible apply DL.f_ext | (with_reducible apply DL.set_goal; focus ((try simp only [List.cons_append, List.nil_append, List.replicate_succ, List.replicate_zero, Nat.reduceSub, List.set_cons_zero, List.set_cons_succ, DL.with_arg, DL.with_own, DL.wipeD, List.map_cons, List.map_nil, DL.toArg, DL.back2, DL.back2a, DL.back, DL.back1]); rfl)) | with_reducible apply DL.s_seqG | with_reducible apply DL.step_b | with_reducible apply DL.k_nx | with_reducible exact DL.k_rt | with_reducible exact DL.k_ct | with_reducible exact DL.k_bk | with_reducible apply DL.s_asgG | with_reducible apply DL.s_asg | with_reducible apply DL.s_drop | with_reducible apply DL.s_ret | with_reducible apply DL.s_if | with_reducible exact DL.s_skip | (with_reducible apply DL.f_eq; (first | rfl | assumption); (first | rfl | assumption)) | (with_reducible apply DL.f_ne; (first | rfl | assumption); (first | rfl | assumption)) | with_reducible apply DL.f_addT | (with_reducible apply DL.f_ixT; assumption) | (with_reducible apply DL.f_ixL; assumption) | with_reducible apply DL.f_addL | with_reducible apply DL.s_par | with_reducible apply DL.s_for | with_reducible apply DL.i_it | with_reducible apply DL.i_r1 | with_reducible apply DL.r_lc | with_reducible apply DL.r_lc2 | with_reducible apply DL.i_enumT | with_reducible exact DL.t_yes | with_reducible apply DL.turn_e | with_reducible apply DL.g_tup | with_reducible apply DL.g_lst | with_reducible apply DL.g_cons | with_reducible exact DL.g_nil | with_reducible apply DL.g_n | (with_reducible apply DL.set_fz; rfl; focus ((try simp only [List.cons_append, List.nil_append, List.replicate_succ, List.replicate_zero, Nat.reduceSub, List.set_cons_zero, List.set_cons_succ, DL.with_arg, DL.with_own, DL.wipeD, List.map_cons, List.map_nil, DL.toArg, DL.back2, DL.back2a, DL.back, DL.back1]); rfl)) | (with_reducible apply DL.set_own; rfl; focus ((try simp only [List.cons_append, List.nil_append, List.replicate_succ, List.replicate_zero, Nat.reduceSub, List.set_cons_zero, List.set_cons_succ, DL.with_arg, DL.with_own, DL.wipeD, List.map_cons, List.map_nil, DL.toArg, DL.back2, DL.back2a, DL.back, DL.back1]); rfl)) | (with_reducible apply DL.p_t; (first | rfl | focus (simp [*]; done) | assumption)) | (with_reducible apply DL.p_f; (first | rfl | focus (simp [*]; done) | assumption)) | (with_reducible apply DL.v_fz; rfl) | (with_reducible apply DL.v_own; rfl) | (with_reducible apply DL.v_arg; rfl) | with_reducible exact DL.r_c | with_reducible apply DL.r_andB | with_reducible apply DL.r_bin | with_reducible apply DL.r_un | with_reducible apply DL.r_test | with_reducible apply DL.r_notV | with_reducible apply DL.r_and | with_reducible apply DL.r_or | with_reducible apply DL.r_not | with_reducible apply DL.r_if | with_reducible apply DL.r_chainB | with_reducible exact DL.l_nil | with_reducible apply DL.l_cons | with_reducible apply DL.r_tup | with_reducible apply DL.r_lst | with_reducible apply DL.o_some | with_reducible exact DL.o_none | with_reducible apply DL.r_sl | with_reducible exact DL.a_nil | with_reducible apply DL.a_val | with_reducible apply DL.a_ref | (with_reducible apply DL.small_of; focus (first | omega | (simp <;> omega))) | with_reducible apply DL.r_callR | with_reducible apply DL.r_call | (first | with_reducible apply r_frz | exact e_is_row_of _ _ | exact e_is_row _ | exact e_is_below _ _ | exact e_is_whole _ | assumption) | (with_reducible apply DL.f_mod; (first | assumption | omega | focus (simp; omega))) | (with_reducible apply DL.f_div; (first | assumption | omega | focus (simp; omega))) | with_reducible apply DL.f_mulI | (with_reducible apply DL.wide_lt; (first | assumption | omega | focus (simp; omega))) | rfl | (focus ((try simp only [List.cons_append, List.nil_append, List.replicate_succ, List.replicate_zero, Nat.reduceSub, List.set_cons_zero, List.set_cons_succ, DL.with_arg, DL.with_own, DL.wipeD, List.map_cons, List.map_nil, DL.toArg, DL.back2, DL.back2a, DL.back, DL.back1]); rfl); done)))
    · (repeat' (first | with_reducible apply DL.s_setI | with_reducible apply DL.s_app | with_reducible apply DL.s_ext | (with_reducible apply DL.m_arg; rfl) | (with_reducible apply DL.m_own; rfl) | (with_reducible apply DL.f_set; rfl; focus ((try simp only [List.cons_append, List.nil_append, List.replicate_succ, List.replicate_zero, Nat.reduceSub, List.set_cons_zero, List.set_cons_succ, DL.with_arg, DL.with_own, DL.wipeD, List.map_cons, List.map_nil, DL.toArg, DL.back2, DL.back2a, DL.back, DL.back1]); rfl)) | with_reducible apply DL.f_app | with_reducible apply DL.f_ext | (with_reducible apply DL.set_goal; focus ((try simp only [List.cons_append, List.nil_append, List.replicate_succ, List.replicate_zero, Nat.reduceSub, List.set_cons_zero, List.set_cons_succ, DL.with_arg, DL.with_own, DL.wipeD, List.map_cons, List.map_nil, DL.toArg, DL.back2, DL.back2a, DL.back, DL.back1]); rfl)) | with_reducible apply DL.s_seqG | with_reducible apply DL.step_b | with_reducible apply DL.k_nx | with_reducible exact DL.k_rt | with_reducible exact DL.k_ct | with_reducible exact DL.k_bk | with_reducible apply DL.s_asgG | with_reducible apply DL.s_asg | with_reducible apply DL.s_drop | with_reducible apply DL.s_ret | with_reducible apply DL.s_if | with_reducible exact DL.s_skip | (with_reducible apply DL.f_eq; (first | rfl | assumption); (first | rfl | assumption)) | (with_reducible apply DL.f_ne; (first | rfl | assumption); (first | rfl | assumption)) | with_reducible apply DL.f_addT | (with_reducible apply DL.f_ixT; assumption) | (with_reducible apply DL.f_ixL; assumption) | with_reducible apply DL.f_addL | with_reducible apply DL.s_par | with_reducible apply DL.s_for | with_reducible apply DL.i_it | with_reducible apply DL.i_r1 | with_reducible apply DL.r_lc | with_reducible apply DL.r_lc2 | with_reducible apply DL.i_enumT | with_reducible exact DL.t_yes | with_reducible apply DL.turn_e | with_reducible apply DL.g_tup | with_reducible apply DL.g_lst | with_reducible apply DL.g_cons | with_reducible exact DL.g_nil | with_reducible apply DL.g_n | (with_reducible apply DL.set_fz; rfl; focus ((try simp only [List.cons_append, List.nil_append, List.replicate_succ, List.replicate_zero, Nat.reduceSub, List.set_cons_zero, List.set_cons_succ, DL.with_arg, DL.with_own, DL.wipeD, List.map_cons, List.map_nil, DL.toArg, DL.back2, DL.back2a, DL.back, DL.back1]); rfl)) | (with_reducible apply DL.set_own; rfl; focus ((try simp only [List.cons_append, List.nil_append, List.replicate_succ, List.replicate_zero, Nat.reduceSub, List.set_cons_zero, List.set_cons_succ, DL.with_arg, DL.with_own, DL.wipeD, List.map_cons, List.map_nil, DL.toArg, DL.back2, DL.back2a, DL.back, DL.back1]); rfl)) | (with_reducible apply DL.p_t; (first | rfl | focus (simp [*]; done) | assumption)) | (with_reducible apply DL.p_f; (first | rfl | focus (simp [*]; done) | assumption)) | (with_reducible apply DL.v_fz; rfl) | (with_reducible apply DL.v_own; rfl) | (with_reducible apply DL.v_arg; rfl) | with_reducible exact DL.r_c | with_reducible apply DL.r_andB | with_reducible apply DL.r_bin | with_reducible apply DL.r_un | with_reducible apply DL.r_test | with_reducible apply DL.r_notV | with_reducible apply DL.r_and | with_reducible apply DL.r_or | with_reducible apply DL.r_not | with_reducible apply DL.r_if | with_reducible apply DL.r_chainB | with_reducible exact DL.l_nil | with_reducible apply DL.l_cons | with_reducible apply DL.r_tup | with_reducible apply DL.r_lst | with_reducible apply DL.o_some | with_reducible exact DL.o_none | with_reducible apply DL.r_sl | with_reducible exact DL.a_nil | with_reducible apply DL.a_val | with_reducible apply DL.a_ref | (with_reducible apply DL.small_of; focus (first | omega | (simp <;> omega))) | with_reducible apply DL.r_callR | with_reducible apply DL.r_call | (first | with_reducible apply r_frz | exact e_is_row_of _ _ | exact e_is_row _ | exact e_is_below _ _ | exact e_is_whole _ | assumption) | (with_reducible apply DL.f_mod; (first | assumption | omega | focus (simp; omega))) | (with_reducible apply DL.f_div; (first | assumption | omega | focus (simp; omega))) | with_reducible apply DL.f_mulI | (with_reducible apply DL.wide_lt; (first | assumption | omega | focus (simp; omega))) | rfl | (focus ((try simp only [List.cons_append, List.nil_append, List.replicate_succ, List.replicate_zero, Nat.reduceSub, List.set_cons_zero, List.set_cons_succ, DL.with_arg, DL.with_own, DL.wipeD, List.map_cons, List.map_nil, DL.toArg, DL.back2, DL.back2a, DL.back, DL.back1]); rfl); done)))
    · (repeat' (first | with_reducible apply DL.s_setI | with_reducible apply DL.s_app | with_reducible apply DL.s_ext | (with_reducible apply DL.m_arg; rfl) | (with_reducible apply DL.m_own; rfl) | (with_reducible apply DL.f_set; rfl; focus ((try simp only [List.cons_append, List.nil_append, List.replicate_succ, List.replicate_zero, Nat.reduceSub, List.set_cons_zero, List.set_cons_succ, DL.with_arg, DL.with_own, DL.wipeD, List.map_cons, List.map_nil, DL.toArg, DL.back2, DL.back2a, DL.back, DL.back1]); rfl)) | with_reducible apply DL.f_app | with_reducible apply DL.f_ext | (with_reducible apply DL.set_goal; focus ((try simp only [List.cons_append, List.nil_append, List.replicate_succ, List.replicate_zero, Nat.reduceSub, List.set_cons_zero, List.set_cons_succ, DL.with_arg, DL.with_own, DL.wipeD, List.map_cons, List.map_nil, DL.toArg, DL.back2, DL.back2a, DL.back, DL.back1]); rfl)) | with_reducible apply DL.s_seqG | with_reducible apply DL.step_b | with_reducible apply DL.k_nx | with_reducible exact DL.k_rt | with_reducible exact DL.k_ct | with_reducible exact DL.k_bk | with_reducible apply DL.s_asgG | with_reducible apply DL.s_asg | with_reducible apply DL.s_drop | with_reducible apply DL.s_ret | with_reducible apply DL.s_if | with_reducible exact DL.s_skip | (with_reducible apply DL.f_eq; (first | rfl | assumption); (first | rfl | assumption)) | (with_reducible apply DL.f_ne; (first | rfl | assumption); (first | rfl | assumption)) | with_reducible apply DL.f_addT | (with_reducible apply DL.f_ixT; assumption) | (with_reducible apply DL.f_ixL; assumption) | with_reducible apply DL.f_addL | with_reducible apply DL.s_par | with_reducible apply DL.s_for | with_reducible apply DL.i_it | with_reducible apply DL.i_r1 | with_reducible apply DL.r_lc | with_reducible apply DL.r_lc2 | with_reducible apply DL.i_enumT | with_reducible exact DL.t_yes | with_reducible apply DL.turn_e | with_reducible apply DL.g_tup | with_reducible apply DL.g_lst | with_reducible apply DL.g_cons | with_reducible exact DL.g_nil | with_reducible apply DL.g_n | (with_reducible apply DL.set_fz; rfl; focus ((try simp only [List.cons_append, List.nil_append, List.replicate_succ, List.replicate_zero, Nat.reduceSub, List.set_cons_zero, List.set_cons_succ, DL.with_arg, DL.with_own, DL.wipeD, List.map_cons, List.map_nil, DL.toArg, DL.back2, DL.back2a, DL.back, DL.back1]); rfl)) | (with_reducible apply DL.set_own; rfl; focus ((try simp only [List.cons_append, List.nil_append, List.replicate_succ, List.replicate_zero, Nat.reduceSub, List.set_cons_zero, List.set_cons_succ, DL.with_arg, DL.with_own, DL.wipeD, List.map_cons, List.map_nil, DL.toArg, DL.back2, DL.back2a, DL.back, DL.back1]); rfl)) | (with_reducible apply DL.p_t; (first | rfl | focus (simp [*]; done) | assumption)) | (with_reducible apply DL.p_f; (first | rfl | focus (simp [*]; done) | assumption)) | (with_reducible apply DL.v_fz; rfl) | (with_reducible apply DL.v_own; rfl) | (with_reducible apply DL.v_arg; rfl) | with_reducible exact DL.r_c | with_reducible apply DL.r_andB | with_reducible apply DL.r_bin | with_reducible apply DL.r_un | with_reducible apply DL.r_test | with_reducible apply DL.r_notV | with_reducible apply DL.r_and | with_reducible apply DL.r_or | with_reducible apply DL.r_not | with_reducible apply DL.r_if | with_reducible apply DL.r_chainB | with_reducible exact DL.l_nil | with_reducible apply DL.l_cons | with_reducible apply DL.r_tup | with_reducible apply DL.r_lst | with_reducible apply DL.o_some | with_reducible exact DL.o_none | with_reducible apply DL.r_sl | with_reducible exact DL.a_nil | with_reducible apply DL.a_val | with_reducible apply DL.a_ref | (with_reducible apply DL.small_of; focus (first | omega | (simp <;> omega))) | with_reducible apply DL.r_callR | with_reducible apply DL.r_call | (first | with_reducible apply r_frz | exact e_is_row_of _ _ | exact e_is_row _ | exact e_is_below _ _ | exact e_is_whole _ | assumption) | (with_reducible apply DL.f_mod; (first | assumption | omega | focus (simp; omega))) | (with_reducible apply DL.f_div; (first | assumption | omega | focus (simp; omega))) | with_reducible apply DL.f_mulI | (with_reducible apply DL.wide_lt; (first | assumption | omega | focus (simp; omega))) | rfl | (focus ((try simp only [List.cons_append, List.nil_append, List.replicate_succ, List.replicate_zero, Nat.reduceSub, List.set_cons_zero, List.set_cons_succ, DL.with_arg, DL.with_own, DL.wipeD, List.map_cons, List.map_nil, DL.toArg, DL.back2, DL.back2a, DL.back, DL.back1]); rfl); done)))
    · rfl
  have hsf : (small (acc.map fun q => PyData.list q.2).length && freeAt [3] [.fz (dctD ks (acc.map fun q => PyData.list q.2)), .no, .no, .no]) = true := (Bool.and_eq_true _ _).mpr ⟨small_of (by rw [List.length_map]; omega), rfl⟩
  have hvs : dVals (dVar 0) [.fz (dctD ks (acc.map fun q => PyData.list q.2)), .no, .no, .no] = .ok (acc.map fun q => PyData.list q.2) [.fz (dctD ks (acc.map fun q => PyData.list q.2)), .no, .no, .no] := rfl
  unfold d_want_of
  apply run_v rfl
  · focus ((try simp only [List.cons_append, List.nil_append, List.replicate_succ, List.replicate_zero, Nat.reduceSub, List.set_cons_zero, List.set_cons_succ, DL.with_arg, DL.with_own, DL.wipeD, List.map_cons, List.map_nil, DL.toArg, DL.back2, DL.back2a, DL.back, DL.back1]); rfl)
  · unfold sd_want_of
    (repeat' (first | with_reducible apply DL.s_setI | with_reducible apply DL.s_app | with_reducible apply DL.s_ext | (with_reducible apply DL.m_arg; rfl) | (with_reducible apply DL.m_own; rfl) | (with_reducible apply DL.f_set; rfl; focus ((try simp only [List.cons_append, List.nil_append, List.replicate_succ, List.replicate_zero, Nat.reduceSub, List.set_cons_zero, List.set_cons_succ, DL.with_arg, DL.with_own, DL.wipeD, List.map_cons, List.map_nil, DL.toArg, DL.back2, DL.back2a, DL.back, DL.back1]); rfl)) | with_reducible apply DL.f_app | with_reducible apply DL.f_ext | (with_reducible apply DL.set_goal; focus ((try simp only [List.cons_append, List.nil_append, List.replicate_succ, List.replicate_zero, Nat.reduceSub, List.set_cons_zero, List.set_cons_succ, DL.with_arg, DL.with_own, DL.wipeD, List.map_cons, List.map_nil, DL.toArg, DL.back2, DL.back2a, DL.back, DL.back1]); rfl)) | with_reducible apply DL.s_seqG | with_reducible apply DL.step_b | with_reducible apply DL.k_nx | with_reducible exact DL.k_rt | with_reducible exact DL.k_ct | with_reducible exact DL.k_bk | with_reducible apply DL.s_asgG | with_reducible apply DL.s_asg | with_reducible apply DL.s_drop | with_reducible apply DL.s_ret | with_reducible apply DL.s_if | with_reducible exact DL.s_skip | (with_reducible apply DL.f_eq; (first | rfl | assumption); (first | rfl | assumption)) | (with_reducible apply DL.f_ne; (first | rfl | assumption); (first | rfl | assumption)) | with_reducible apply DL.f_addT | (with_reducible apply DL.f_ixT; assumption) | (with_reducible apply DL.f_ixL; assumption) | with_reducible apply DL.f_addL | with_reducible apply DL.s_par | with_reducible apply DL.s_for | with_reducible apply DL.i_it | with_reducible apply DL.i_r1 | with_reducible apply DL.r_lc | with_reducible apply DL.r_lc2 | with_reducible apply DL.i_enumT | with_reducible exact DL.t_yes | with_reducible apply DL.turn_e | with_reducible apply DL.g_tup | with_reducible apply DL.g_lst | with_reducible apply DL.g_cons | with_reducible exact DL.g_nil | with_reducible apply DL.g_n | (with_reducible apply DL.set_fz; rfl; focus ((try simp only [List.cons_append, List.nil_append, List.replicate_succ, List.replicate_zero, Nat.reduceSub, List.set_cons_zero, List.set_cons_succ, DL.with_arg, DL.with_own, DL.wipeD, List.map_cons, List.map_nil, DL.toArg, DL.back2, DL.back2a, DL.back, DL.back1]); rfl)) | (with_reducible apply DL.set_own; rfl; focus ((try simp only [List.cons_append, List.nil_append, List.replicate_succ, List.replicate_zero, Nat.reduceSub, List.set_cons_zero, List.set_cons_succ, DL.with_arg, DL.with_own, DL.wipeD, List.map_cons, List.map_nil, DL.toArg, DL.back2, DL.back2a, DL.back, DL.back1]); rfl)) | (with_reducible apply DL.p_t; (first | rfl | focus (simp [*]; done) | assumption)) | (with_reducible apply DL.p_f; (first | rfl | focus (simp [*]; done) | assumption)) | (with_reducible apply DL.v_fz; rfl) | (with_reducible apply DL.v_own; rfl) | (with_reducible apply DL.v_arg; rfl) | with_reducible exact DL.r_c | with_reducible apply DL.r_andB | with_reducible apply DL.r_bin | with_reducible apply DL.r_un | with_reducible apply DL.r_test | with_reducible apply DL.r_notV | with_reducible apply DL.r_and | with_reducible apply DL.r_or | with_reducible apply DL.r_not | with_reducible apply DL.r_if | with_reducible apply DL.r_chainB | with_reducible exact DL.l_nil | with_reducible apply DL.l_cons | with_reducible apply DL.r_tup | with_reducible apply DL.r_lst | with_reducible apply DL.o_some | with_reducible exact DL.o_none | with_reducible apply DL.r_sl | with_reducible exact DL.a_nil | with_reducible apply DL.a_val | with_reducible apply DL.a_ref | (with_reducible apply DL.small_of; focus (first | omega | (simp <;> omega))) | with_reducible apply DL.r_callR | with_reducible apply DL.r_call | (first | with_reducible apply r_frz | exact e_is_row_of _ _ | exact e_is_row _ | exact e_is_below _ _ | exact e_is_whole _ | assumption) | (with_reducible apply DL.f_mod; (first | assumption | omega | focus (simp; omega))) | (with_reducible apply DL.f_div; (first | assumption | omega | focus (simp; omega))) | with_reducible apply DL.f_mulI | (with_reducible apply DL.wide_lt; (first | assumption | omega | focus (simp; omega))) | rfl | (focus ((try simp only [List.cons_append, List.nil_append, List.replicate_succ, List.replicate_zero, Nat.reduceSub, List.set_cons_zero, List.set_cons_succ, DL.with_arg, DL.with_own, DL.wipeD, List.map_cons, List.map_nil, DL.toArg, DL.back2, DL.back2a, DL.back, DL.back1]); rfl); done)))
  all_goals rfl
theorem endC_len (pl : Int) (l : Ln) : (endC pl l).length ≤ 2 := by
  unfold endC
  split <;> split <;> simp
theorem coms_len (ls : List Ln) (pl : Int) : (coms ls pl).length ≤ 2 * ls.length := flat_len (endC pl) 2 (endC_len pl) ls
theorem e_want (ls : List Ln) (pl : Int) (hl : ls.length ≤ 1000) : d_want_of [.fz (dctD (keysOf (lstG (gacc ls pl))) (valsOf (lstG (gacc ls pl))))] = .ok (.fz (.int (wantC (coms ls pl)))) [.no] := e_want_of (inv_gacc ls pl) (by have := coms_len ls pl; omega)
theorem e_want_at (p : Int) (ls : List Ln) (pl : Int) (h : OkW p ls) (h0 : 0 ≤ pl) (h1 : pl < p) : d_want_at [.fz (encW p ls), .fz (.int pl)] = .ok (.fz (.int (wantC (coms ls pl)))) [.no, .no] := by
  have c1 := e_checked_web p ls h
  have c2 := e_check_place p pl h0 h1
  have c3 := e_groups_of ls pl h.ln
  have c4 := e_want ls pl h.ln
  unfold d_want_at
  apply run_v rfl
  · focus ((try simp only [List.cons_append, List.nil_append, List.replicate_succ, List.replicate_zero, Nat.reduceSub, List.set_cons_zero, List.set_cons_succ, DL.with_arg, DL.with_own, DL.wipeD, List.map_cons, List.map_nil, DL.toArg, DL.back2, DL.back2a, DL.back, DL.back1]); rfl)
  · unfold sd_want_at
    (repeat' (first | with_reducible apply DL.s_setI | with_reducible apply DL.s_app | with_reducible apply DL.s_ext | (with_reducible apply DL.m_arg; rfl) | (with_reducible apply DL.m_own; rfl) | (with_reducible apply DL.f_set; rfl; focus ((try simp only [List.cons_append, List.nil_append, List.replicate_succ, List.replicate_zero, Nat.reduceSub, List.set_cons_zero, List.set_cons_succ, DL.with_arg, DL.with_own, DL.wipeD, List.map_cons, List.map_nil, DL.toArg, DL.back2, DL.back2a, DL.back, DL.back1]); rfl)) | with_reducible apply DL.f_app | with_reducible apply DL.f_ext | (with_reducible apply DL.set_goal; focus ((try simp only [List.cons_append, List.nil_append, List.replicate_succ, List.replicate_zero, Nat.reduceSub, List.set_cons_zero, List.set_cons_succ, DL.with_arg, DL.with_own, DL.wipeD, List.map_cons, List.map_nil, DL.toArg, DL.back2, DL.back2a, DL.back, DL.back1]); rfl)) | with_reducible apply DL.s_seqG | with_reducible apply DL.step_b | with_reducible apply DL.k_nx | with_reducible exact DL.k_rt | with_reducible exact DL.k_ct | with_reducible exact DL.k_bk | with_reducible apply DL.s_asgG | with_reducible apply DL.s_asg | with_reducible apply DL.s_drop | with_reducible apply DL.s_ret | with_reducible apply DL.s_if | with_reducible exact DL.s_skip | (with_reducible apply DL.f_eq; (first | rfl | assumption); (first | rfl | assumption)) | (with_reducible apply DL.f_ne; (first | rfl | assumption); (first | rfl | assumption)) | with_reducible apply DL.f_addT | (with_reducible apply DL.f_ixT; assumption) | (with_reducible apply DL.f_ixL; assumption) | with_reducible apply DL.f_addL | with_reducible apply DL.s_par | with_reducible apply DL.s_for | with_reducible apply DL.i_it | with_reducible apply DL.i_r1 | with_reducible apply DL.r_lc | with_reducible apply DL.r_lc2 | with_reducible apply DL.i_enumT | with_reducible exact DL.t_yes | with_reducible apply DL.turn_e | with_reducible apply DL.g_tup | with_reducible apply DL.g_lst | with_reducible apply DL.g_cons | with_reducible exact DL.g_nil | with_reducible apply DL.g_n | (with_reducible apply DL.set_fz; rfl; focus ((try simp only [List.cons_append, List.nil_append, List.replicate_succ, List.replicate_zero, Nat.reduceSub, List.set_cons_zero, List.set_cons_succ, DL.with_arg, DL.with_own, DL.wipeD, List.map_cons, List.map_nil, DL.toArg, DL.back2, DL.back2a, DL.back, DL.back1]); rfl)) | (with_reducible apply DL.set_own; rfl; focus ((try simp only [List.cons_append, List.nil_append, List.replicate_succ, List.replicate_zero, Nat.reduceSub, List.set_cons_zero, List.set_cons_succ, DL.with_arg, DL.with_own, DL.wipeD, List.map_cons, List.map_nil, DL.toArg, DL.back2, DL.back2a, DL.back, DL.back1]); rfl)) | (with_reducible apply DL.p_t; (first | rfl | focus (simp [*]; done) | assumption)) | (with_reducible apply DL.p_f; (first | rfl | focus (simp [*]; done) | assumption)) | (with_reducible apply DL.v_fz; rfl) | (with_reducible apply DL.v_own; rfl) | (with_reducible apply DL.v_arg; rfl) | with_reducible exact DL.r_c | with_reducible apply DL.r_andB | with_reducible apply DL.r_bin | with_reducible apply DL.r_un | with_reducible apply DL.r_test | with_reducible apply DL.r_notV | with_reducible apply DL.r_and | with_reducible apply DL.r_or | with_reducible apply DL.r_not | with_reducible apply DL.r_if | with_reducible apply DL.r_chainB | with_reducible exact DL.l_nil | with_reducible apply DL.l_cons | with_reducible apply DL.r_tup | with_reducible apply DL.r_lst | with_reducible apply DL.o_some | with_reducible exact DL.o_none | with_reducible apply DL.r_sl | with_reducible exact DL.a_nil | with_reducible apply DL.a_val | with_reducible apply DL.a_ref | (with_reducible apply DL.small_of; focus (first | omega | (simp <;> omega))) | with_reducible apply DL.r_callR | with_reducible apply DL.r_call | (first | with_reducible apply r_frz | exact e_is_row_of _ _ | exact e_is_row _ | exact e_is_below _ _ | exact e_is_whole _ | assumption) | (with_reducible apply DL.f_mod; (first | assumption | omega | focus (simp; omega))) | (with_reducible apply DL.f_div; (first | assumption | omega | focus (simp; omega))) | with_reducible apply DL.f_mulI | (with_reducible apply DL.wide_lt; (first | assumption | omega | focus (simp; omega))) | rfl | (focus ((try simp only [List.cons_append, List.nil_append, List.replicate_succ, List.replicate_zero, Nat.reduceSub, List.set_cons_zero, List.set_cons_succ, DL.with_arg, DL.with_own, DL.wipeD, List.map_cons, List.map_nil, DL.toArg, DL.back2, DL.back2a, DL.back, DL.back1]); rfl); done)))
  all_goals rfl
abbrev encN (ns : List Int) : List D := ns.map PyData.int
def wantsL (p : Int) (ls : List Ln) : List Int := (List.range p.toNat).map fun (i : Nat) => wantC (coms ls i)
theorem e_wants (p : Int) (ls : List Ln) (h : OkW p ls) (hp : p ≤ 1000) : d_wants [.fz (encW p ls)] = .ok (.own (.lst (encN (wantsL p ls)))) [.no] := by
  have c1 := e_checked_web p ls h
  have hp0 := h.p0
  have b1 : (-1000000 : Int) ≤ p := by omega
  have b2 : p ≤ (1000000 : Int) := by omega
  have hcp : compL (turnL [3] (gN 3) dYes (dCall d_want_of (aVal (dFrz (dCall d_groups_of (aVal (dVar 2) (aVal (dVar 3) aNil)))) aNil))) ((List.range p.toNat).map fun (i : Nat) => PyData.int i) [.fz (encW p ls), .fz (.int p), .fz (.tuple (ls.map encL)), .no]
      = .ok (encN (wantsL p ls)) [.fz (encW p ls), .fz (.int p), .fz (.tuple (ls.map encL)), .no] := by
    have e : encN (wantsL p ls) = (List.range p.toNat).map fun (i : Nat) => PyData.int (wantC (coms ls i)) := by
      unfold wantsL
      show (List.map _ (List.range p.toNat)).map PyData.int = _
      rw [List.map_map]
      rfl
    rw [e]
    refine comp_map1 (ψ := fun i : Nat => PyData.int (wantC (coms ls i))) fun i hi => ?_
    have c3 := e_groups_of ls (i : Nat) h.ln
    have c4 := e_want ls (i : Nat) h.ln
    clear c1 e
    apply turn_1
    · focus ((try simp only [List.cons_append, List.nil_append, List.replicate_succ, List.replicate_zero, Nat.reduceSub, List.set_cons_zero, List.set_cons_succ, DL.with_arg, DL.with_own, DL.wipeD, List.map_cons, List.map_nil, DL.toArg, DL.back2, DL.back2a, DL.back, DL.back1]); rfl)
    · (repeat' (first | with_reducible apply DL.s_setI | with_reducible apply DL.s_app | with_reducible apply DL.s_ext | (with_reducible apply DL.m_arg; rfl) | (with_reducible apply DL.m_own; rfl) | (with_reducible apply DL.f_set; rfl; focus ((try simp only [List.cons_append, List.nil_append, List.replicate_succ, List.replicate_zero, Nat.reduceSub, List.set_cons_zero, List.set_cons_succ, DL.with_arg, DL.with_own, DL.wipeD, List.map_cons, List.map_nil, DL.toArg, DL.back2, DL.back2a, DL.back, DL.back1]); rfl)) | with_reducible apply DL.f_app | with_reducible apply DL.f_ext | (with_reducible apply DL.set_goal; focus ((try simp only [List.cons_append, List.nil_append, List.replicate_succ, List.replicate_zero, Nat.reduceSub, List.set_cons_zero, List.set_cons_succ, DL.with_arg, DL.with_own, DL.wipeD, List.map_cons, List.map_nil, DL.toArg, DL.back2, DL.back2a, DL.back, DL.back1]); rfl)) | with_reducible apply DL.s_seqG | with_reducible apply DL.step_b | with_reducible apply DL.k_nx | with_reducible exact DL.k_rt | with_reducible exact DL.k_ct | with_reducible exact DL.k_bk | with_reducible apply DL.s_asgG | with_reducible apply DL.s_asg | with_reducible apply DL.s_drop | with_reducible apply DL.s_ret | with_reducible apply DL.s_if | with_reducible exact DL.s_skip | (with_reducible apply DL.f_eq; (first | rfl | assumption); (first | rfl | assumption)) | (with_reducible apply DL.f_ne; (first | rfl | assumption); (first | rfl | assumption)) | with_reducible apply DL.f_addT | (with_reducible apply DL.f_ixT; assumption) | (with_reducible apply DL.f_ixL; assumption) | with_reducible apply DL.f_addL | with_reducible apply DL.s_par | with_reducible apply DL.s_for | with_reducible apply DL.i_it | with_reducible apply DL.i_r1 | with_reducible apply DL.r_lc | with_reducible apply DL.r_lc2 | with_reducible apply DL.i_enumT | with_reducible exact DL.t_yes | with_reducible apply DL.turn_e | with_reducible apply DL.g_tup | with_reducible apply DL.g_lst | with_reducible apply DL.g_cons | with_reducible exact DL.g_nil | with_reducible apply DL.g_n | (with_reducible apply DL.set_fz; rfl; focus ((try simp only [List.cons_append, List.nil_append, List.replicate_succ, List.replicate_zero, Nat.reduceSub, List.set_cons_zero, List.set_cons_succ, DL.with_arg, DL.with_own, DL.wipeD, List.map_cons, List.map_nil, DL.toArg, DL.back2, DL.back2a, DL.back, DL.back1]); rfl)) | (with_reducible apply DL.set_own; rfl; focus ((try simp only [List.cons_append, List.nil_append, List.replicate_succ, List.replicate_zero, Nat.reduceSub, List.set_cons_zero, List.set_cons_succ, DL.with_arg, DL.with_own, DL.wipeD, List.map_cons, List.map_nil, DL.toArg, DL.back2, DL.back2a, DL.back, DL.back1]); rfl)) | (with_reducible apply DL.p_t; (first | rfl | focus (simp [*]; done) | assumption)) | (with_reducible apply DL.p_f; (first | rfl | focus (simp [*]; done) | assumption)) | (with_reducible apply DL.v_fz; rfl) | (with_reducible apply DL.v_own; rfl) | (with_reducible apply DL.v_arg; rfl) | with_reducible exact DL.r_c | with_reducible apply DL.r_andB | with_reducible apply DL.r_bin | with_reducible apply DL.r_un | with_reducible apply DL.r_test | with_reducible apply DL.r_notV | with_reducible apply DL.r_and | with_reducible apply DL.r_or | with_reducible apply DL.r_not | with_reducible apply DL.r_if | with_reducible apply DL.r_chainB | with_reducible exact DL.l_nil | with_reducible apply DL.l_cons | with_reducible apply DL.r_tup | with_reducible apply DL.r_lst | with_reducible apply DL.o_some | with_reducible exact DL.o_none | with_reducible apply DL.r_sl | with_reducible exact DL.a_nil | with_reducible apply DL.a_val | with_reducible apply DL.a_ref | (with_reducible apply DL.small_of; focus (first | omega | (simp <;> omega))) | with_reducible apply DL.r_callR | with_reducible apply DL.r_call | (first | with_reducible apply r_frz | exact e_is_row_of _ _ | exact e_is_row _ | exact e_is_below _ _ | exact e_is_whole _ | assumption) | (with_reducible apply DL.f_mod; (first | assumption | omega | focus (simp; omega))) | (with_reducible apply DL.f_div; (first | assumption | omega | focus (simp; omega))) | with_reducible apply DL.f_mulI | (with_reducible apply DL.wide_lt; (first | assumption | omega | focus (simp; omega))) | rfl | (focus ((try simp only [List.cons_append, List.nil_append, List.replicate_succ, List.replicate_zero, Nat.reduceSub, List.set_cons_zero, List.set_cons_succ, DL.with_arg, DL.with_own, DL.wipeD, List.map_cons, List.map_nil, DL.toArg, DL.back2, DL.back2a, DL.back, DL.back1]); rfl); done)))
    · (repeat' (first | with_reducible apply DL.s_setI | with_reducible apply DL.s_app | with_reducible apply DL.s_ext | (with_reducible apply DL.m_arg; rfl) | (with_reducible apply DL.m_own; rfl) | (with_reducible apply DL.f_set; rfl; focus ((try simp only [List.cons_append, List.nil_append, List.replicate_succ, List.replicate_zero, Nat.reduceSub, List.set_cons_zero, List.set_cons_succ, DL.with_arg, DL.with_own, DL.wipeD, List.map_cons, List.map_nil, DL.toArg, DL.back2, DL.back2a, DL.back, DL.back1]); rfl)) | with_reducible apply DL.f_app | with_reducible apply DL.f_ext | (with_reducible apply DL.set_goal; focus ((try simp only [List.cons_append, List.nil_append, List.replicate_succ, List.replicate_zero, Nat.reduceSub, List.set_cons_zero, List.set_cons_succ, DL.with_arg, DL.with_own, DL.wipeD, List.map_cons, List.map_nil, DL.toArg, DL.back2, DL.back2a, DL.back, DL.back1]); rfl)) | with_reducible apply DL.s_seqG | with_reducible apply DL.step_b | with_reducible apply DL.k_nx | with_reducible exact DL.k_rt | with_reducible exact DL.k_ct | with_reducible exact DL.k_bk | with_reducible apply DL.s_asgG | with_reducible apply DL.s_asg | with_reducible apply DL.s_drop | with_reducible apply DL.s_ret | with_reducible apply DL.s_if | with_reducible exact DL.s_skip | (with_reducible apply DL.f_eq; (first | rfl | assumption); (first | rfl | assumption)) | (with_reducible apply DL.f_ne; (first | rfl | assumption); (first | rfl | assumption)) | with_reducible apply DL.f_addT | (with_reducible apply DL.f_ixT; assumption) | (with_reducible apply DL.f_ixL; assumption) | with_reducible apply DL.f_addL | with_reducible apply DL.s_par | with_reducible apply DL.s_for | with_reducible apply DL.i_it | with_reducible apply DL.i_r1 | with_reducible apply DL.r_lc | with_reducible apply DL.r_lc2 | with_reducible apply DL.i_enumT | with_reducible exact DL.t_yes | with_reducible apply DL.turn_e | with_reducible apply DL.g_tup | with_reducible apply DL.g_lst | with_reducible apply DL.g_cons | with_reducible exact DL.g_nil | with_reducible apply DL.g_n | (with_reducible apply DL.set_fz; rfl; focus ((try simp only [List.cons_append, List.nil_append, List.replicate_succ, List.replicate_zero, Nat.reduceSub, List.set_cons_zero, List.set_cons_succ, DL.with_arg, DL.with_own, DL.wipeD, List.map_cons, List.map_nil, DL.toArg, DL.back2, DL.back2a, DL.back, DL.back1]); rfl)) | (with_reducible apply DL.set_own; rfl; focus ((try simp only [List.cons_append, List.nil_append, List.replicate_succ, List.replicate_zero, Nat.reduceSub, List.set_cons_zero, List.set_cons_succ, DL.with_arg, DL.with_own, DL.wipeD, List.map_cons, List.map_nil, DL.toArg, DL.back2, DL.back2a, DL.back, DL.back1]); rfl)) | (with_reducible apply DL.p_t; (first | rfl | focus (simp [*]; done) | assumption)) | (with_reducible apply DL.p_f; (first | rfl | focus (simp [*]; done) | assumption)) | (with_reducible apply DL.v_fz; rfl) | (with_reducible apply DL.v_own; rfl) | (with_reducible apply DL.v_arg; rfl) | with_reducible exact DL.r_c | with_reducible apply DL.r_andB | with_reducible apply DL.r_bin | with_reducible apply DL.r_un | with_reducible apply DL.r_test | with_reducible apply DL.r_notV | with_reducible apply DL.r_and | with_reducible apply DL.r_or | with_reducible apply DL.r_not | with_reducible apply DL.r_if | with_reducible apply DL.r_chainB | with_reducible exact DL.l_nil | with_reducible apply DL.l_cons | with_reducible apply DL.r_tup | with_reducible apply DL.r_lst | with_reducible apply DL.o_some | with_reducible exact DL.o_none | with_reducible apply DL.r_sl | with_reducible exact DL.a_nil | with_reducible apply DL.a_val | with_reducible apply DL.a_ref | (with_reducible apply DL.small_of; focus (first | omega | (simp <;> omega))) | with_reducible apply DL.r_callR | with_reducible apply DL.r_call | (first | with_reducible apply r_frz | exact e_is_row_of _ _ | exact e_is_row _ | exact e_is_below _ _ | exact e_is_whole _ | assumption) | (with_reducible apply DL.f_mod; (first | assumption | omega | focus (simp; omega))) | (with_reducible apply DL.f_div; (first | assumption | omega | focus (simp; omega))) | with_reducible apply DL.f_mulI | (with_reducible apply DL.wide_lt; (first | assumption | omega | focus (simp; omega))) | rfl | (focus ((try simp only [List.cons_append, List.nil_append, List.replicate_succ, List.replicate_zero, Nat.reduceSub, List.set_cons_zero, List.set_cons_succ, DL.with_arg, DL.with_own, DL.wipeD, List.map_cons, List.map_nil, DL.toArg, DL.back2, DL.back2a, DL.back, DL.back1]); rfl); done)))
    · (repeat' (first | with_reducible apply DL.s_setI | with_reducible apply DL.s_app | with_reducible apply DL.s_ext | (with_reducible apply DL.m_arg; rfl) | (with_reducible apply DL.m_own; rfl) | (with_reducible apply DL.f_set; rfl; focus ((try simp only [List.cons_append, List.nil_append, List.replicate_succ, List.replicate_zero, Nat.reduceSub, List.set_cons_zero, List.set_cons_succ, DL.with_arg, DL.with_own, DL.wipeD, List.map_cons, List.map_nil, DL.toArg, DL.back2, DL.back2a, DL.back, DL.back1]); rfl)) | with_reducible apply DL.f_app | with_reducible apply DL.f_ext | (with_reducible apply DL.set_goal; focus ((try simp only [List.cons_append, List.nil_append, List.replicate_succ, List.replicate_zero, Nat.reduceSub, List.set_cons_zero, List.set_cons_succ, DL.with_arg, DL.with_own, DL.wipeD, List.map_cons, List.map_nil, DL.toArg, DL.back2, DL.back2a, DL.back, DL.back1]); rfl)) | with_reducible apply DL.s_seqG | with_reducible apply DL.step_b | with_reducible apply DL.k_nx | with_reducible exact DL.k_rt | with_reducible exact DL.k_ct | with_reducible exact DL.k_bk | with_reducible apply DL.s_asgG | with_reducible apply DL.s_asg | with_reducible apply DL.s_drop | with_reducible apply DL.s_ret | with_reducible apply DL.s_if | with_reducible exact DL.s_skip | (with_reducible apply DL.f_eq; (first | rfl | assumption); (first | rfl | assumption)) | (with_reducible apply DL.f_ne; (first | rfl | assumption); (first | rfl | assumption)) | with_reducible apply DL.f_addT | (with_reducible apply DL.f_ixT; assumption) | (with_reducible apply DL.f_ixL; assumption) | with_reducible apply DL.f_addL | with_reducible apply DL.s_par | with_reducible apply DL.s_for | with_reducible apply DL.i_it | with_reducible apply DL.i_r1 | with_reducible apply DL.r_lc | with_reducible apply DL.r_lc2 | with_reducible apply DL.i_enumT | with_reducible exact DL.t_yes | with_reducible apply DL.turn_e | with_reducible apply DL.g_tup | with_reducible apply DL.g_lst | with_reducible apply DL.g_cons | with_reducible exact DL.g_nil | with_reducible apply DL.g_n | (with_reducible apply DL.set_fz; rfl; focus ((try simp only [List.cons_append, List.nil_append, List.replicate_succ, List.replicate_zero, Nat.reduceSub, List.set_cons_zero, List.set_cons_succ, DL.with_arg, DL.with_own, DL.wipeD, List.map_cons, List.map_nil, DL.toArg, DL.back2, DL.back2a, DL.back, DL.back1]); rfl)) | (with_reducible apply DL.set_own; rfl; focus ((try simp only [List.cons_append, List.nil_append, List.replicate_succ, List.replicate_zero, Nat.reduceSub, List.set_cons_zero, List.set_cons_succ, DL.with_arg, DL.with_own, DL.wipeD, List.map_cons, List.map_nil, DL.toArg, DL.back2, DL.back2a, DL.back, DL.back1]); rfl)) | (with_reducible apply DL.p_t; (first | rfl | focus (simp [*]; done) | assumption)) | (with_reducible apply DL.p_f; (first | rfl | focus (simp [*]; done) | assumption)) | (with_reducible apply DL.v_fz; rfl) | (with_reducible apply DL.v_own; rfl) | (with_reducible apply DL.v_arg; rfl) | with_reducible exact DL.r_c | with_reducible apply DL.r_andB | with_reducible apply DL.r_bin | with_reducible apply DL.r_un | with_reducible apply DL.r_test | with_reducible apply DL.r_notV | with_reducible apply DL.r_and | with_reducible apply DL.r_or | with_reducible apply DL.r_not | with_reducible apply DL.r_if | with_reducible apply DL.r_chainB | with_reducible exact DL.l_nil | with_reducible apply DL.l_cons | with_reducible apply DL.r_tup | with_reducible apply DL.r_lst | with_reducible apply DL.o_some | with_reducible exact DL.o_none | with_reducible apply DL.r_sl | with_reducible exact DL.a_nil | with_reducible apply DL.a_val | with_reducible apply DL.a_ref | (with_reducible apply DL.small_of; focus (first | omega | (simp <;> omega))) | with_reducible apply DL.r_callR | with_reducible apply DL.r_call | (first | with_reducible apply r_frz | exact e_is_row_of _ _ | exact e_is_row _ | exact e_is_below _ _ | exact e_is_whole _ | assumption) | (with_reducible apply DL.f_mod; (first | assumption | omega | focus (simp; omega))) | (with_reducible apply DL.f_div; (first | assumption | omega | focus (simp; omega))) | with_reducible apply DL.f_mulI | (with_reducible apply DL.wide_lt; (first | assumption | omega | focus (simp; omega))) | rfl | (focus ((try simp only [List.cons_append, List.nil_append, List.replicate_succ, List.replicate_zero, Nat.reduceSub, List.set_cons_zero, List.set_cons_succ, DL.with_arg, DL.with_own, DL.wipeD, List.map_cons, List.map_nil, DL.toArg, DL.back2, DL.back2a, DL.back, DL.back1]); rfl); done)))
    · rfl
  have hsf : (small ((List.range p.toNat).map fun (i : Nat) => PyData.int i).length && freeAt [3] [.fz (encW p ls), .fz (.int p), .fz (.tuple (ls.map encL)), .no]) = true := (Bool.and_eq_true _ _).mpr ⟨small_of (by rw [List.length_map, List.length_range]; omega), rfl⟩
  unfold d_wants
  apply run_o rfl
  · focus ((try simp only [List.cons_append, List.nil_append, List.replicate_succ, List.replicate_zero, Nat.reduceSub, List.set_cons_zero, List.set_cons_succ, DL.with_arg, DL.with_own, DL.wipeD, List.map_cons, List.map_nil, DL.toArg, DL.back2, DL.back2a, DL.back, DL.back1]); rfl)
  · unfold sd_wants
    (repeat' (first | with_reducible apply DL.s_setI | with_reducible apply DL.s_app | with_reducible apply DL.s_ext | (with_reducible apply DL.m_arg; rfl) | (with_reducible apply DL.m_own; rfl) | (with_reducible apply DL.f_set; rfl; focus ((try simp only [List.cons_append, List.nil_append, List.replicate_succ, List.replicate_zero, Nat.reduceSub, List.set_cons_zero, List.set_cons_succ, DL.with_arg, DL.with_own, DL.wipeD, List.map_cons, List.map_nil, DL.toArg, DL.back2, DL.back2a, DL.back, DL.back1]); rfl)) | with_reducible apply DL.f_app | with_reducible apply DL.f_ext | (with_reducible apply DL.set_goal; focus ((try simp only [List.cons_append, List.nil_append, List.replicate_succ, List.replicate_zero, Nat.reduceSub, List.set_cons_zero, List.set_cons_succ, DL.with_arg, DL.with_own, DL.wipeD, List.map_cons, List.map_nil, DL.toArg, DL.back2, DL.back2a, DL.back, DL.back1]); rfl)) | with_reducible apply DL.s_seqG | with_reducible apply DL.step_b | with_reducible apply DL.k_nx | with_reducible exact DL.k_rt | with_reducible exact DL.k_ct | with_reducible exact DL.k_bk | with_reducible apply DL.s_asgG | with_reducible apply DL.s_asg | with_reducible apply DL.s_drop | with_reducible apply DL.s_ret | with_reducible apply DL.s_if | with_reducible exact DL.s_skip | (with_reducible apply DL.f_eq; (first | rfl | assumption); (first | rfl | assumption)) | (with_reducible apply DL.f_ne; (first | rfl | assumption); (first | rfl | assumption)) | with_reducible apply DL.f_addT | (with_reducible apply DL.f_ixT; assumption) | (with_reducible apply DL.f_ixL; assumption) | with_reducible apply DL.f_addL | with_reducible apply DL.s_par | with_reducible apply DL.s_for | with_reducible apply DL.i_it | with_reducible apply DL.i_r1 | with_reducible apply DL.r_lc | with_reducible apply DL.r_lc2 | with_reducible apply DL.i_enumT | with_reducible exact DL.t_yes | with_reducible apply DL.turn_e | with_reducible apply DL.g_tup | with_reducible apply DL.g_lst | with_reducible apply DL.g_cons | with_reducible exact DL.g_nil | with_reducible apply DL.g_n | (with_reducible apply DL.set_fz; rfl; focus ((try simp only [List.cons_append, List.nil_append, List.replicate_succ, List.replicate_zero, Nat.reduceSub, List.set_cons_zero, List.set_cons_succ, DL.with_arg, DL.with_own, DL.wipeD, List.map_cons, List.map_nil, DL.toArg, DL.back2, DL.back2a, DL.back, DL.back1]); rfl)) | (with_reducible apply DL.set_own; rfl; focus ((try simp only [List.cons_append, List.nil_append, List.replicate_succ, List.replicate_zero, Nat.reduceSub, List.set_cons_zero, List.set_cons_succ, DL.with_arg, DL.with_own, DL.wipeD, List.map_cons, List.map_nil, DL.toArg, DL.back2, DL.back2a, DL.back, DL.back1]); rfl)) | (with_reducible apply DL.p_t; (first | rfl | focus (simp [*]; done) | assumption)) | (with_reducible apply DL.p_f; (first | rfl | focus (simp [*]; done) | assumption)) | (with_reducible apply DL.v_fz; rfl) | (with_reducible apply DL.v_own; rfl) | (with_reducible apply DL.v_arg; rfl) | with_reducible exact DL.r_c | with_reducible apply DL.r_andB | with_reducible apply DL.r_bin | with_reducible apply DL.r_un | with_reducible apply DL.r_test | with_reducible apply DL.r_notV | with_reducible apply DL.r_and | with_reducible apply DL.r_or | with_reducible apply DL.r_not | with_reducible apply DL.r_if | with_reducible apply DL.r_chainB | with_reducible exact DL.l_nil | with_reducible apply DL.l_cons | with_reducible apply DL.r_tup | with_reducible apply DL.r_lst | with_reducible apply DL.o_some | with_reducible exact DL.o_none | with_reducible apply DL.r_sl | with_reducible exact DL.a_nil | with_reducible apply DL.a_val | with_reducible apply DL.a_ref | (with_reducible apply DL.small_of; focus (first | omega | (simp <;> omega))) | with_reducible apply DL.r_callR | with_reducible apply DL.r_call | (first | with_reducible apply r_frz | exact e_is_row_of _ _ | exact e_is_row _ | exact e_is_below _ _ | exact e_is_whole _ | assumption) | (with_reducible apply DL.f_mod; (first | assumption | omega | focus (simp; omega))) | (with_reducible apply DL.f_div; (first | assumption | omega | focus (simp; omega))) | with_reducible apply DL.f_mulI | (with_reducible apply DL.wide_lt; (first | assumption | omega | focus (simp; omega))) | rfl | (focus ((try simp only [List.cons_append, List.nil_append, List.replicate_succ, List.replicate_zero, Nat.reduceSub, List.set_cons_zero, List.set_cons_succ, DL.with_arg, DL.with_own, DL.wipeD, List.map_cons, List.map_nil, DL.toArg, DL.back2, DL.back2a, DL.back, DL.back1]); rfl); done)))
  all_goals rfl

/-! ### how wants change -/
theorem mx_uniq {cs : List Nat} {m : Nat} (h1 : ∀ x, cs.count x ≤ m) (h2 : m = 0 ∨ ∃ x, m ≤ cs.count x) : mxC cs = m := by
  have h3 : mxC cs ≤ m := by
    rcases mx_at cs with ⟨_, e⟩ | ⟨c, _, e⟩
    · omega
    · rw [← e]; exact h1 c
  rcases h2 with h2 | ⟨x, h2⟩
  · omega
  · have := mx_ge cs x
    omega
theorem want_eq (cs : List Nat) {d m : Nat} (hd : cs.length = d) (hm : mxC cs = m) : wantC cs = if (d : Int) % 2 > 2 * (m : Int) - d then (d : Int) % 2 else 2 * (m : Int) - d := by
  subst hd hm
  rfl
theorem want_par (cs : List Nat) : wantC cs % 2 = (cs.length : Int) % 2 := by
  unfold wantC
  split <;> omega
theorem want_nn (cs : List Nat) : 0 ≤ wantC cs := by
  unfold wantC
  split <;> omega
theorem want_le (cs : List Nat) : wantC cs ≤ cs.length := by
  have := mx_le cs
  unfold wantC
  split <;> omega
theorem cnt_app (a b : List Nat) (x : Nat) : (a ++ b).count x = a.count x + b.count x := List.count_append
theorem want_add1 {cs : List Nat} {c : Nat} (h : c ∉ cs) : wantC (cs ++ [c]) = if wantC cs > 0 then wantC cs - 1 else 1 := by
  have h0 : cs.count c = 0 := List.count_eq_zero.mpr h
  have hm : mxC (cs ++ [c]) = max (mxC cs) 1 := by
    refine mx_uniq (fun x => ?_) ?_
    · rw [cnt_app, List.count_singleton]
      have := mx_ge cs x
      by_cases e : c = x
      · subst e
        simp
        omega
      · have : (c == x) = false := by simpa using e
        rw [this]
        simp
        omega
    · by_cases hz : mxC cs ≤ 1
      · exact .inr ⟨c, by rw [cnt_app, h0]; simp; omega⟩
      · rcases mx_at cs with ⟨_, e⟩ | ⟨x, _, e⟩
        · omega
        · exact .inr ⟨x, by rw [cnt_app, e]; omega⟩
  have hl := mx_le cs
  have hz : cs.length = 0 ∨ 0 < mxC cs := by
    rcases mx_at cs with ⟨e, _⟩ | ⟨x, hx, e⟩
    · left; rw [e]; rfl
    · right; rw [← e]; exact List.count_pos_iff.mpr hx
  rw [want_eq (cs ++ [c]) (d := cs.length + 1) (by simp) hm]
  unfold wantC
  generalize mxC cs = m at *
  generalize cs.length = d at *
  by_cases hm1 : m ≤ 1
  · rw [Nat.max_eq_right hm1]
    split <;> split <;> split <;> omega
  · rw [Nat.max_eq_left (by omega)]
    split <;> split <;> split <;> omega
theorem want_add2 {cs : List Nat} {c : Nat} (h : c ∉ cs) : wantC (cs ++ [c, c]) = if cs = [] then 2 else if wantC cs > 1 then wantC cs - 2 else wantC cs := by
  have h0 : cs.count c = 0 := List.count_eq_zero.mpr h
  have hm : mxC (cs ++ [c, c]) = max (mxC cs) 2 := by
    refine mx_uniq (fun x => ?_) ?_
    · rw [cnt_app]
      have := mx_ge cs x
      by_cases e : c = x
      · subst e
        simp
        omega
      · have : [c, c].count x = 0 := List.count_eq_zero.mpr (by simp; exact fun z => e z.symm)
        rw [this]
        omega
    · by_cases hz : mxC cs ≤ 2
      · exact .inr ⟨c, by rw [cnt_app, h0]; simp; omega⟩
      · rcases mx_at cs with ⟨_, e⟩ | ⟨x, _, e⟩
        · omega
        · exact .inr ⟨x, by rw [cnt_app, e]; omega⟩
  have hl := mx_le cs
  have hz : cs = [] ∨ 0 < mxC cs ∧ 0 < cs.length := by
    rcases mx_at cs with ⟨e, _⟩ | ⟨x, hx, e⟩
    · exact .inl e
    · right; rw [← e]; exact ⟨List.count_pos_iff.mpr hx, List.length_pos_of_mem hx⟩
  rw [want_eq (cs ++ [c, c]) (d := cs.length + 2) (by simp) hm]
  rcases hz with rfl | ⟨hz, hz2⟩
  · rfl
  · rw [if_neg (show ¬cs = [] from fun e => by rw [e] at hz2; cases hz2)]
    unfold wantC
    generalize mxC cs = m at *
    generalize cs.length = d at *
    by_cases hm1 : m ≤ 2
    · rw [Nat.max_eq_right hm1]
      split <;> split <;> split <;> omega
    · rw [Nat.max_eq_left (by omega)]
      split <;> split <;> split <;> omega
theorem want_mono {cs cs' : List Nat} (hl : cs'.length = cs.length) (hm : mxC cs' ≤ mxC cs) : wantC cs' ≤ wantC cs := by
  unfold wantC
  rw [hl]
  split <;> split <;> omega
theorem mx_mono {cs cs' : List Nat} (h : ∀ x ∈ cs', ∃ y, cs'.count x ≤ cs.count y) : mxC cs' ≤ mxC cs := by
  rcases mx_at cs' with ⟨_, e⟩ | ⟨x, hx, e⟩
  · omega
  · obtain ⟨y, hy⟩ := h x hx
    have := mx_ge cs y
    omega
theorem want_drop {cs cs' : List Nat} {x : Nat} (hl : cs.length = cs'.length + 1) (hc : ∀ y, cs.count y = cs'.count y + if y = x then 1 else 0) : wantC cs' - wantC cs = 1 ∨ wantC cs' - wantC cs = -1 := by
  have h1 : mxC cs' ≤ mxC cs := mx_mono fun y _ => ⟨y, by rw [hc y]; omega⟩
  have h2 : mxC cs ≤ mxC cs' + 1 := by
    rcases mx_at cs with ⟨_, e⟩ | ⟨y, hy, e⟩
    · omega
    · have := hc y
      have := mx_ge cs' y
      split at * <;> omega
  have h3 := mx_le cs'
  have h4 := mx_le cs
  have h5 : 0 < mxC cs := by
    have := mx_ge cs x
    have := hc x
    rw [if_pos rfl] at this
    omega
  unfold wantC
  rw [hl]
  generalize mxC cs = m at *
  generalize mxC cs' = m' at *
  generalize cs'.length = d at *
  split <;> split <;> omega
theorem want_one (x : Nat) : wantC [x] = 1 := by
  have : mxC [x] = 1 := mx_uniq (fun y => by rw [List.count_singleton]; split <;> omega) (.inr ⟨x, by simp⟩)
  rw [want_eq [x] (d := 1) rfl this]
  decide

theorem coms_split (A B : List Ln) (l : Ln) (pl : Int) : coms (A ++ l :: B) pl = coms A pl ++ (endC pl l ++ coms B pl) := by
  unfold coms
  rw [List.flatMap_append, List.flatMap_cons]
theorem coms_app (ls : List Ln) (l : Ln) (pl : Int) : coms (ls ++ [l]) pl = coms ls pl ++ endC pl l := by
  rw [coms_split]
  unfold coms
  simp
theorem set_split {ls : List Ln} {n : Nat} {l : Ln} (h : ls[n]? = some l) : ∃ A B, ls = A ++ l :: B ∧ ∀ y, ls.set n y = A ++ y :: B := by
  obtain ⟨h1, h2⟩ := List.getElem?_eq_some_iff.mp h
  refine ⟨ls.take n, ls.drop (n + 1), ?_, fun y => ?_⟩
  · subst h2
    rw [List.getElem_cons_drop h1, List.take_append_drop]
  · rw [List.set_eq_take_append_cons_drop, if_pos h1]
theorem coms_mem {ls : List Ln} {pl : Int} {c : Nat} (h : c ∈ coms ls pl) : ∃ l ∈ ls, c = l.2.2 := by
  unfold coms at h
  obtain ⟨l, hl, h⟩ := List.mem_flatMap.mp h
  refine ⟨l, hl, ?_⟩
  unfold endC at h
  rcases List.mem_append.mp h with h | h
  · split at h
    · simpa using h
    · cases h
  · split at h
    · simpa using h
    · cases h
theorem coms_not {ls : List Ln} (h : ∀ l ∈ ls, l.2.2 ≠ 110) (pl : Int) : 110 ∉ coms ls pl := fun z => by
  obtain ⟨l, hl, e⟩ := coms_mem z
  exact h l hl e.symm
theorem endC_cnt (pl : Int) (l : Ln) (x : Nat) : (endC pl l).count x = if l.2.2 = x then (if l.1 = pl then 1 else 0) + (if l.2.1 = pl then 1 else 0) else 0 := by
  unfold endC
  rw [cnt_app]
  split <;> split <;> split <;> simp_all
theorem endC_len' (pl : Int) (l : Ln) : (endC pl l).length = (if l.1 = pl then 1 else 0) + (if l.2.1 = pl then 1 else 0) := by
  unfold endC
  rw [List.length_append]
  split <;> split <;> rfl
theorem paint_le {ls : List Ln} {n : Nat} {l : Ln} (hl : ls[n]? = some l) (h : ∀ m ∈ ls, m.2.2 ≠ 110) (pl : Int) : wantC (coms (ls.set n (l.1, l.2.1, 110)) pl) ≤ wantC (coms ls pl) := by
  obtain ⟨A, B, e, hs⟩ := set_split hl
  rw [hs, e, coms_split, coms_split]
  have hA : 110 ∉ coms A pl := coms_not (fun m hm => h m (by rw [e]; exact List.mem_append_left _ hm)) pl
  have hB : 110 ∉ coms B pl := coms_not (fun m hm => h m (by rw [e]; exact List.mem_append_right _ (List.mem_cons_of_mem _ hm))) pl
  have cA := List.count_eq_zero.mpr hA
  have cB := List.count_eq_zero.mpr hB
  refine want_mono ?_ (mx_mono fun x _ => ?_)
  · simp only [List.length_append, endC_len']
  · by_cases hx : x = 110
    · subst hx
      refine ⟨l.2.2, ?_⟩
      simp only [cnt_app, endC_cnt, cA, cB, if_true]
      omega
    · refine ⟨x, ?_⟩
      have : ¬110 = x := fun z => hx z.symm
      simp only [cnt_app, endC_cnt, this, if_false]
      omega
theorem endC_merge (c c' : Nat) (pl : Int) (l : Ln) : endC pl (mergeL c c' l) = (endC pl l).map fun x => if x = c then c' else x := by
  unfold endC mergeL
  rw [List.map_append]
  congr 1
  · show (if l.1 = pl then _ else _) = _
    split <;> rfl
  · show (if l.2.1 = pl then _ else _) = _
    split <;> rfl
theorem merge_ge (ls : List Ln) (c c' : Nat) (pl : Int) : wantC (coms ls pl) ≤ wantC (coms (ls.map (mergeL c c')) pl) := by
  have e : coms (ls.map (mergeL c c')) pl = (coms ls pl).map fun x => if x = c then c' else x := by
    unfold coms
    rw [List.map_flatMap, List.flatMap_map]
    congr 1
    funext l
    exact endC_merge c c' pl l
  rw [e]
  refine want_mono (by rw [List.length_map]) (mx_mono fun x _ => ⟨_, List.count_le_count_map (f := fun x => if x = c then c' else x)⟩)
def spotL (s : Nat) (l : Ln) : Int := if s = 0 then l.1 else l.2.1
theorem loose_other {p : Int} {ls : List Ln} {n : Nat} {l : Ln} (hl : ls[n]? = some l) (s : Nat) {pl : Int} (hp : pl < p) (hne : pl ≠ spotL s l) : coms (ls.set n (looseL p s l)) pl = coms ls pl := by
  obtain ⟨A, B, e, hs⟩ := set_split hl
  rw [hs, e, coms_split, coms_split]
  congr 2
  unfold spotL at hne
  unfold endC looseL
  by_cases h : s = 0
  · rw [if_pos h] at hne ⊢
    rw [if_neg (show ¬l.1 = pl from fun z => hne z.symm)]
    show (if p = pl then _ else _) ++ _ = _
    rw [if_neg (by omega)]
  · rw [if_neg h] at hne ⊢
    rw [if_neg (show ¬l.2.1 = pl from fun z => hne z.symm)]
    show _ ++ (if p = pl then _ else _) = _
    rw [if_neg (show ¬p = pl by omega)]
theorem loose_spot {p : Int} {ls : List Ln} {n : Nat} {l : Ln} (hl : ls[n]? = some l) (s : Nat) (hp : spotL s l < p) : wantC (coms (ls.set n (looseL p s l)) (spotL s l)) - wantC (coms ls (spotL s l)) = 1 ∨ wantC (coms (ls.set n (looseL p s l)) (spotL s l)) - wantC (coms ls (spotL s l)) = -1 := by
  obtain ⟨A, B, e, hs⟩ := set_split hl
  rw [hs, e, coms_split, coms_split]
  have key : (endC (spotL s l) l).length = (endC (spotL s l) (looseL p s l)).length + 1 ∧ ∀ y, (endC (spotL s l) l).count y = (endC (spotL s l) (looseL p s l)).count y + if y = l.2.2 then 1 else 0 := by
    rw [endC_len', endC_len']
    unfold spotL at hp ⊢
    unfold looseL
    by_cases h : s = 0
    · simp only [if_pos h] at hp ⊢
      have : ¬p = l.1 := by omega
      refine ⟨by simp only [if_true, if_neg this] <;> omega, fun y => ?_⟩
      rw [endC_cnt, endC_cnt]
      simp only [if_true, if_neg this]
      by_cases hy : l.2.2 = y
      · rw [if_pos hy, if_pos hy, if_pos hy.symm]; omega
      · rw [if_neg hy, if_neg hy, if_neg fun z => hy z.symm]
    · simp only [if_neg h] at hp ⊢
      have : ¬p = l.2.1 := by omega
      refine ⟨by simp only [if_true, if_neg this] <;> omega, fun y => ?_⟩
      rw [endC_cnt, endC_cnt]
      simp only [if_true, if_neg this]
      by_cases hy : l.2.2 = y
      · rw [if_pos hy, if_pos hy, if_pos hy.symm]
      · rw [if_neg hy, if_neg hy, if_neg fun z => hy z.symm]
  obtain ⟨k1, k2⟩ := key
  refine want_drop (x := l.2.2) ?_ fun y => ?_
  · simp only [List.length_append, k1]
    omega
  · simp only [cnt_app, k2 y]
    omega
theorem loose_new {p : Int} {ls : List Ln} {n : Nat} {l : Ln} (hw : OkW p ls) (hl : ls[n]? = some l) (s : Nat) : wantC (coms (ls.set n (looseL p s l)) p) = 1 := by
  obtain ⟨A, B, e, hs⟩ := set_split hl
  rw [hs, coms_split]
  have none_at : ∀ ms : List Ln, (∀ m ∈ ms, okL p m) → coms ms p = [] := fun ms h => by
    unfold coms
    rw [List.flatMap_eq_nil_iff]
    intro m hm
    obtain ⟨_, a, _, b, _⟩ := h m hm
    unfold endC
    rw [if_neg (by omega), if_neg (by omega)]
    rfl
  rw [none_at A fun m hm => hw.ok m (by rw [e]; exact List.mem_append_left _ hm), none_at B fun m hm => hw.ok m (by rw [e]; exact List.mem_append_right _ (List.mem_cons_of_mem _ hm))]
  obtain ⟨_, a, _, b, _⟩ := hw.ok l (List.mem_of_getElem? hl)
  have : endC p (looseL p s l) = [l.2.2] := by
    unfold endC looseL
    by_cases h : s = 0
    · rw [if_pos h]
      show (if p = p then _ else _) ++ (if l.2.1 = p then _ else _) = _
      rw [if_pos rfl, if_neg (by omega)]
      rfl
    · rw [if_neg h]
      show (if l.1 = p then _ else _) ++ (if p = p then _ else _) = _
      rw [if_pos rfl, if_neg (by omega)]
      rfl
  rw [this]
  exact want_one _
/-! ### all wants -/
theorem wants_len (p : Int) (ls : List Ln) : (wantsL p ls).length = p.toNat := by
  unfold wantsL
  rw [List.length_map, List.length_range]
theorem wants_at {p : Int} {ls : List Ln} {i : Nat} (h : (i : Int) < p) : (encN (wantsL p ls))[i]? = some (.int (wantC (coms ls i))) := by
  unfold wantsL
  show ((List.map _ (List.range p.toNat)).map PyData.int)[i]? = _
  rw [List.getElem?_map, List.getElem?_map, List.getElem?_range (by omega)]
  rfl
theorem wants_set {p : Int} {ls ms : List Ln} {i : Nat} (h : ∀ j : Nat, (j : Int) < p → j ≠ i → coms ms j = coms ls j) : wantsL p ms = (wantsL p ls).set i (wantC (coms ms i)) := by
  refine List.ext_getElem? fun j => ?_
  unfold wantsL
  rw [List.getElem?_set]
  by_cases hj : j < p.toNat
  · by_cases hij : i = j
    · subst hij
      rw [if_pos rfl, List.length_map, List.length_range, if_pos hj, List.getElem?_map, List.getElem?_range hj]
      rfl
    · rw [if_neg hij, List.getElem?_map, List.getElem?_map, List.getElem?_range hj]
      show some (wantC (coms ms j)) = some (wantC (coms ls j))
      rw [h j (by omega) (fun z => hij z.symm)]
  · rw [List.getElem?_eq_none (by rw [List.length_map, List.length_range]; omega)]
    split
    · rename_i e
      subst e
      rw [if_neg (by rw [List.length_map, List.length_range]; exact hj)]
    · rw [List.getElem?_eq_none (by rw [List.length_map, List.length_range]; omega)]
theorem sum_map_add {α : Type} (f g : α → Int) : ∀ xs : List α, (xs.map fun x => f x + g x).sum = (xs.map f).sum + (xs.map g).sum
  | [] => rfl
  | x :: xs => by
    rw [List.map_cons, List.sum_cons, sum_map_add f g xs, List.map_cons, List.sum_cons, List.map_cons, List.sum_cons]
    omega
theorem sum_one_at (a : Int) (h0 : 0 ≤ a) : ∀ P : Nat, ((List.range P).map fun (i : Nat) => if a = (i : Int) then (1 : Int) else 0).sum = if a < P then 1 else 0
  | 0 => by
    rw [if_neg (by omega)]
    rfl
  | P + 1 => by
    rw [List.range_succ, List.map_append, List.sum_append, sum_one_at a h0 P]
    show _ + ((if a = (P : Int) then (1 : Int) else 0) + 0) = _
    split <;> split <;> split <;> omega
theorem sum_lens {p : Int} : ∀ {ls : List Ln}, (∀ l ∈ ls, okL p l) → ((List.range p.toNat).map fun (i : Nat) => ((coms ls i).length : Int)).sum = 2 * ls.length
  | [], _ => by
    have : ∀ xs : List Nat, (xs.map fun (i : Nat) => ((coms [] i).length : Int)).sum = 0 := fun xs => by
      induction xs with
      | nil => rfl
      | cons x xs ih => rw [List.map_cons, List.sum_cons, ih]; rfl
    exact this _
  | l :: ls, h => by
    obtain ⟨a, b, c, d, _⟩ := h l List.mem_cons_self
    have e : (fun (i : Nat) => ((coms (l :: ls) i).length : Int)) = fun (i : Nat) => ((if l.1 = (i : Int) then (1 : Int) else 0) + (if l.2.1 = (i : Int) then (1 : Int) else 0)) + ((coms ls i).length : Int) := by
      funext i
      have : coms (l :: ls) i = endC i l ++ coms ls i := by
        unfold coms
        rw [List.flatMap_cons]
      rw [this, List.length_append, endC_len']
      split <;> split <;> omega
    rw [e, sum_map_add, sum_map_add, sum_one_at _ a, sum_one_at _ c, sum_lens fun m hm => h m (List.mem_cons_of_mem _ hm), if_pos (by omega), if_pos (by omega), List.length_cons]
    omega
theorem sum_even {p : Int} {ls : List Ln} (h : ∀ l ∈ ls, okL p l) : (wantsL p ls).sum % 2 = 0 := by
  have h1 := sum_lens h
  have h2 : ∀ xs : List Nat, (xs.map fun (i : Nat) => wantC (coms ls i)).sum % 2 = (xs.map fun (i : Nat) => ((coms ls i).length : Int)).sum % 2 := fun xs => by
    induction xs with
    | nil => rfl
    | cons x xs ih =>
      rw [List.map_cons, List.sum_cons, List.map_cons, List.sum_cons]
      have := want_par (coms ls x)
      omega
  unfold wantsL
  rw [h2, h1]
  omega

theorem str_n : ("n" : PySem.Str) = ⟨#[110]⟩ := by decide +kernel
theorem eq_refl {d : D} (h : SeqAt.shaped d = true) : fEq d d = some (.fz (.bool true)) := by
  have hc := SeqAt.canLay_of_shaped h
  rw [f_eq h h, SeqAt.eqv_refl d hc]
theorem f_setN {ds : List D} {i : Nat} (h : i < ds.length) (d : D) : fSet (i : Nat) d ds = some (ds.set i d) := by
  unfold fSet ixN
  rw [if_pos (by omega), if_pos (by omega)]
  simp
theorem encN_set (L : List Int) (i : Nat) (x : Int) : (encN L).set i (.int x) = encN (L.set i x) := by
  show (L.map PyData.int).set i (.int x) = (L.set i x).map PyData.int
  rw [List.map_set]
theorem wants_set2 {p : Int} {ls ms : List Ln} {i k : Nat} (hik : i ≠ k) (h : ∀ j : Nat, (j : Int) < p → j ≠ i → j ≠ k → coms ms j = coms ls j) : wantsL p ms = ((wantsL p ls).set i (wantC (coms ms i))).set k (wantC (coms ms k)) := by
  refine List.ext_getElem? fun j => ?_
  unfold wantsL
  rw [List.getElem?_set, List.length_set, List.length_map, List.length_range]
  by_cases hj : j < p.toNat
  · by_cases hkj : k = j
    · subst hkj
      rw [if_pos rfl, if_pos hj, List.getElem?_map, List.getElem?_range hj]
      rfl
    · rw [if_neg hkj, List.getElem?_set]
      by_cases hij : i = j
      · subst hij
        rw [if_pos rfl, List.length_map, List.length_range, if_pos hj, List.getElem?_map, List.getElem?_range hj]
        rfl
      · rw [if_neg hij, List.getElem?_map, List.getElem?_map, List.getElem?_range hj]
        show some (wantC (coms ms j)) = some (wantC (coms ls j))
        rw [h j (by omega) (fun z => hij z.symm) (fun z => hkj z.symm)]
  · rw [List.getElem?_eq_none (by rw [List.length_map, List.length_range]; omega)]
    split
    · rename_i e
      subst e
      rw [if_neg hj]
    · rw [List.getElem?_eq_none (by rw [List.length_set, List.length_map, List.length_range]; omega)]
theorem for_2 {f : D → DS → R Out} {d1 d2 : D} {δ δ1 δ2 : DS} (h1 : f d1 δ = .ok .nx δ1) (h2 : f d2 δ1 = .ok .nx δ2) : forL f [d1, d2] δ = .ok .nx δ2 := by
  unfold forL
  rw [h1]
  simp only
  unfold forL
  rw [h2]
  rfl
theorem gt_int (a b : Int) : fGt (.int a) (.int b) = some (.fz (.bool (decide (b < a)))) := rfl
theorem eq_int (a b : Int) : fEq (.int a) (.int b) = some (.fz (.bool (decide (a = b)))) := by
  rw [f_eq rfl rfl]
  rfl
abbrev lT : Ds := dSetI 6 (dVar 7) (dIf (dTest (dBin fGt (dBin fIx (dVar 2) (dVar 7)) (dC (.int 0)))) (dBin fSub (dBin fIx (dVar 2) (dVar 7)) (dC (.int 1))) (dC (.int 1)))
/-- one turn of the two places -/
theorem line_turn {W : List D} {i : Nat} {w : Int} (hW : W[i]? = some (.int w)) (L : List D) (hL : i < L.length) (x0 : List D) (x1 x3 x4 : D) (x5 : List D) (s7 : Sl) (h7 : s7 = .no ∨ ∃ d, s7 = .fz d) :
    stepB (gN 7) lT (.int (i : Nat)) [.arg (.lst x0), .fz x1, .fz (.list W), .fz x3, .fz x4, .own (.lst x5), .own (.lst L), s7]
      = .ok .nx [.arg (.lst x0), .fz x1, .fz (.list W), .fz x3, .fz x4, .own (.lst x5), .own (.lst (L.set i (.int (if w > 0 then w - 1 else 1)))), .fz (.int (i : Nat))] := by
  have hx := f_ixL hW
  have hs := f_setN hL (.int (w - 1))
  have hs1 := f_setN hL (.int 1)
  by_cases hw : 0 < w
  · have hg : fGt (.int w) (.int 0) = some (.fz (.bool true)) := by
      rw [gt_int, decide_eq_true hw]
    rw [if_pos hw]
    clear hs1
    rcases h7 with rfl | ⟨d, rfl⟩
    · (repeat' (first | with_reducible apply DL.s_setI | with_reducible apply DL.s_app | with_reducible apply DL.s_ext | (with_reducible apply DL.m_arg; rfl) | (with_reducible apply DL.m_own; rfl) | (with_reducible apply DL.f_set; rfl; focus ((try simp only [List.cons_append, List.nil_append, List.replicate_succ, List.replicate_zero, Nat.reduceSub, List.set_cons_zero, List.set_cons_succ, DL.with_arg, DL.with_own, DL.wipeD, List.map_cons, List.map_nil, DL.toArg, DL.back2, DL.back2a, DL.back, DL.back1]); rfl)) | with_reducible apply DL.f_app | with_reducible apply DL.f_ext | (with_reducible apply DL.set_goal; focus ((try simp only [List.cons_append, List.nil_append, List.replicate_succ, List.replicate_zero, Nat.reduceSub, List.set_cons_zero, List.set_cons_succ, DL.with_arg, DL.with_own, DL.wipeD, List.map_cons, List.map_nil, DL.toArg, DL.back2, DL.back2a, DL.back, DL.back1]); rfl)) | with_reducible apply DL.s_seqG | with_reducible apply DL.step_b | with_reducible apply DL.k_nx | with_reducible exact DL.k_rt | with_reducible exact DL.k_ct | with_reducible exact DL.k_bk | with_reducible apply DL.s_asgG | with_reducible apply DL.s_asg | with_reducible apply DL.s_drop | with_reducible apply DL.s_ret | with_reducible apply DL.s_if | with_reducible exact DL.s_skip | (with_reducible apply DL.f_eq; (first | rfl | assumption); (first | rfl | assumption)) | (with_reducible apply DL.f_ne; (first | rfl | assumption); (first | rfl | assumption)) | with_reducible apply DL.f_addT | (with_reducible apply DL.f_ixT; assumption) | (with_reducible apply DL.f_ixL; assumption) | with_reducible apply DL.f_addL | with_reducible apply DL.s_par | with_reducible apply DL.s_for | with_reducible apply DL.i_it | with_reducible apply DL.i_r1 | with_reducible apply DL.r_lc | with_reducible apply DL.r_lc2 | with_reducible apply DL.i_enumT | with_reducible exact DL.t_yes | with_reducible apply DL.turn_e | with_reducible apply DL.g_tup | with_reducible apply DL.g_lst | with_reducible apply DL.g_cons | with_reducible exact DL.g_nil | with_reducible apply DL.g_n | (with_reducible apply DL.set_fz; rfl; focus ((try simp only [List.cons_append, List.nil_append, List.replicate_succ, List.replicate_zero, Nat.reduceSub, List.set_cons_zero, List.set_cons_succ, DL.with_arg, DL.with_own, DL.wipeD, List.map_cons, List.map_nil, DL.toArg, DL.back2, DL.back2a, DL.back, DL.back1]); rfl)) | (with_reducible apply DL.set_own; rfl; focus ((try simp only [List.cons_append, List.nil_append, List.replicate_succ, List.replicate_zero, Nat.reduceSub, List.set_cons_zero, List.set_cons_succ, DL.with_arg, DL.with_own, DL.wipeD, List.map_cons, List.map_nil, DL.toArg, DL.back2, DL.back2a, DL.back, DL.back1]); rfl)) | (with_reducible apply DL.p_t; (first | rfl | focus (simp [*]; done) | assumption)) | (with_reducible apply DL.p_f; (first | rfl | focus (simp [*]; done) | assumption)) | (with_reducible apply DL.v_fz; rfl) | (with_reducible apply DL.v_own; rfl) | (with_reducible apply DL.v_arg; rfl) | with_reducible exact DL.r_c | with_reducible apply DL.r_andB | with_reducible apply DL.r_bin | with_reducible apply DL.r_un | with_reducible apply DL.r_test | with_reducible apply DL.r_notV | with_reducible apply DL.r_and | with_reducible apply DL.r_or | with_reducible apply DL.r_not | with_reducible apply DL.r_if | with_reducible apply DL.r_chainB | with_reducible exact DL.l_nil | with_reducible apply DL.l_cons | with_reducible apply DL.r_tup | with_reducible apply DL.r_lst | with_reducible apply DL.o_some | with_reducible exact DL.o_none | with_reducible apply DL.r_sl | with_reducible exact DL.a_nil | with_reducible apply DL.a_val | with_reducible apply DL.a_ref | (with_reducible apply DL.small_of; focus (first | omega | (simp <;> omega))) | with_reducible apply DL.r_callR | with_reducible apply DL.r_call | (first | with_reducible apply r_frz | exact e_is_row_of _ _ | exact e_is_row _ | exact e_is_below _ _ | exact e_is_whole _ | assumption) | (with_reducible apply DL.f_mod; (first | assumption | omega | focus (simp; omega))) | (with_reducible apply DL.f_div; (first | assumption | omega | focus (simp; omega))) | with_reducible apply DL.f_mulI | (with_reducible apply DL.wide_lt; (first | assumption | omega | focus (simp; omega))) | rfl | (focus ((try simp only [List.cons_append, List.nil_append, List.replicate_succ, List.replicate_zero, Nat.reduceSub, List.set_cons_zero, List.set_cons_succ, DL.with_arg, DL.with_own, DL.wipeD, List.map_cons, List.map_nil, DL.toArg, DL.back2, DL.back2a, DL.back, DL.back1]); rfl); done)))
      exact m_own rfl hs rfl
    · (repeat' (first | with_reducible apply DL.s_setI | with_reducible apply DL.s_app | with_reducible apply DL.s_ext | (with_reducible apply DL.m_arg; rfl) | (with_reducible apply DL.m_own; rfl) | (with_reducible apply DL.f_set; rfl; focus ((try simp only [List.cons_append, List.nil_append, List.replicate_succ, List.replicate_zero, Nat.reduceSub, List.set_cons_zero, List.set_cons_succ, DL.with_arg, DL.with_own, DL.wipeD, List.map_cons, List.map_nil, DL.toArg, DL.back2, DL.back2a, DL.back, DL.back1]); rfl)) | with_reducible apply DL.f_app | with_reducible apply DL.f_ext | (with_reducible apply DL.set_goal; focus ((try simp only [List.cons_append, List.nil_append, List.replicate_succ, List.replicate_zero, Nat.reduceSub, List.set_cons_zero, List.set_cons_succ, DL.with_arg, DL.with_own, DL.wipeD, List.map_cons, List.map_nil, DL.toArg, DL.back2, DL.back2a, DL.back, DL.back1]); rfl)) | with_reducible apply DL.s_seqG | with_reducible apply DL.step_b | with_reducible apply DL.k_nx | with_reducible exact DL.k_rt | with_reducible exact DL.k_ct | with_reducible exact DL.k_bk | with_reducible apply DL.s_asgG | with_reducible apply DL.s_asg | with_reducible apply DL.s_drop | with_reducible apply DL.s_ret | with_reducible apply DL.s_if | with_reducible exact DL.s_skip | (with_reducible apply DL.f_eq; (first | rfl | assumption); (first | rfl | assumption)) | (with_reducible apply DL.f_ne; (first | rfl | assumption); (first | rfl | assumption)) | with_reducible apply DL.f_addT | (with_reducible apply DL.f_ixT; assumption) | (with_reducible apply DL.f_ixL; assumption) | with_reducible apply DL.f_addL | with_reducible apply DL.s_par | with_reducible apply DL.s_for | with_reducible apply DL.i_it | with_reducible apply DL.i_r1 | with_reducible apply DL.r_lc | with_reducible apply DL.r_lc2 | with_reducible apply DL.i_enumT | with_reducible exact DL.t_yes | with_reducible apply DL.turn_e | with_reducible apply DL.g_tup | with_reducible apply DL.g_lst | with_reducible apply DL.g_cons | with_reducible exact DL.g_nil | with_reducible apply DL.g_n | (with_reducible apply DL.set_fz; rfl; focus ((try simp only [List.cons_append, List.nil_append, List.replicate_succ, List.replicate_zero, Nat.reduceSub, List.set_cons_zero, List.set_cons_succ, DL.with_arg, DL.with_own, DL.wipeD, List.map_cons, List.map_nil, DL.toArg, DL.back2, DL.back2a, DL.back, DL.back1]); rfl)) | (with_reducible apply DL.set_own; rfl; focus ((try simp only [List.cons_append, List.nil_append, List.replicate_succ, List.replicate_zero, Nat.reduceSub, List.set_cons_zero, List.set_cons_succ, DL.with_arg, DL.with_own, DL.wipeD, List.map_cons, List.map_nil, DL.toArg, DL.back2, DL.back2a, DL.back, DL.back1]); rfl)) | (with_reducible apply DL.p_t; (first | rfl | focus (simp [*]; done) | assumption)) | (with_reducible apply DL.p_f; (first | rfl | focus (simp [*]; done) | assumption)) | (with_reducible apply DL.v_fz; rfl) | (with_reducible apply DL.v_own; rfl) | (with_reducible apply DL.v_arg; rfl) | with_reducible exact DL.r_c | with_reducible apply DL.r_andB | with_reducible apply DL.r_bin | with_reducible apply DL.r_un | with_reducible apply DL.r_test | with_reducible apply DL.r_notV | with_reducible apply DL.r_and | with_reducible apply DL.r_or | with_reducible apply DL.r_not | with_reducible apply DL.r_if | with_reducible apply DL.r_chainB | with_reducible exact DL.l_nil | with_reducible apply DL.l_cons | with_reducible apply DL.r_tup | with_reducible apply DL.r_lst | with_reducible apply DL.o_some | with_reducible exact DL.o_none | with_reducible apply DL.r_sl | with_reducible exact DL.a_nil | with_reducible apply DL.a_val | with_reducible apply DL.a_ref | (with_reducible apply DL.small_of; focus (first | omega | (simp <;> omega))) | with_reducible apply DL.r_callR | with_reducible apply DL.r_call | (first | with_reducible apply r_frz | exact e_is_row_of _ _ | exact e_is_row _ | exact e_is_below _ _ | exact e_is_whole _ | assumption) | (with_reducible apply DL.f_mod; (first | assumption | omega | focus (simp; omega))) | (with_reducible apply DL.f_div; (first | assumption | omega | focus (simp; omega))) | with_reducible apply DL.f_mulI | (with_reducible apply DL.wide_lt; (first | assumption | omega | focus (simp; omega))) | rfl | (focus ((try simp only [List.cons_append, List.nil_append, List.replicate_succ, List.replicate_zero, Nat.reduceSub, List.set_cons_zero, List.set_cons_succ, DL.with_arg, DL.with_own, DL.wipeD, List.map_cons, List.map_nil, DL.toArg, DL.back2, DL.back2a, DL.back, DL.back1]); rfl); done)))
      exact m_own rfl hs rfl
  · have hg : fGt (.int w) (.int 0) = some (.fz (.bool false)) := by
      rw [gt_int, decide_eq_false hw]
    rw [if_neg hw]
    clear hs
    rcases h7 with rfl | ⟨d, rfl⟩
    · (repeat' (first | with_reducible apply DL.s_setI | with_reducible apply DL.s_app | with_reducible apply DL.s_ext | (with_reducible apply DL.m_arg; rfl) | (with_reducible apply DL.m_own; rfl) | (with_reducible apply DL.f_set; rfl; focus ((try simp only [List.cons_append, List.nil_append, List.replicate_succ, List.replicate_zero, Nat.reduceSub, List.set_cons_zero, List.set_cons_succ, DL.with_arg, DL.with_own, DL.wipeD, List.map_cons, List.map_nil, DL.toArg, DL.back2, DL.back2a, DL.back, DL.back1]); rfl)) | with_reducible apply DL.f_app | with_reducible apply DL.f_ext | (with_reducible apply DL.set_goal; focus ((try simp only [List.cons_append, List.nil_append, List.replicate_succ, List.replicate_zero, Nat.reduceSub, List.set_cons_zero, List.set_cons_succ, DL.with_arg, DL.with_own, DL.wipeD, List.map_cons, List.map_nil, DL.toArg, DL.back2, DL.back2a, DL.back, DL.back1]); rfl)) | with_reducible apply DL.s_seqG | with_reducible apply DL.step_b | with_reducible apply DL.k_nx | with_reducible exact DL.k_rt | with_reducible exact DL.k_ct | with_reducible exact DL.k_bk | with_reducible apply DL.s_asgG | with_reducible apply DL.s_asg | with_reducible apply DL.s_drop | with_reducible apply DL.s_ret | with_reducible apply DL.s_if | with_reducible exact DL.s_skip | (with_reducible apply DL.f_eq; (first | rfl | assumption); (first | rfl | assumption)) | (with_reducible apply DL.f_ne; (first | rfl | assumption); (first | rfl | assumption)) | with_reducible apply DL.f_addT | (with_reducible apply DL.f_ixT; assumption) | (with_reducible apply DL.f_ixL; assumption) | with_reducible apply DL.f_addL | with_reducible apply DL.s_par | with_reducible apply DL.s_for | with_reducible apply DL.i_it | with_reducible apply DL.i_r1 | with_reducible apply DL.r_lc | with_reducible apply DL.r_lc2 | with_reducible apply DL.i_enumT | with_reducible exact DL.t_yes | with_reducible apply DL.turn_e | with_reducible apply DL.g_tup | with_reducible apply DL.g_lst | with_reducible apply DL.g_cons | with_reducible exact DL.g_nil | with_reducible apply DL.g_n | (with_reducible apply DL.set_fz; rfl; focus ((try simp only [List.cons_append, List.nil_append, List.replicate_succ, List.replicate_zero, Nat.reduceSub, List.set_cons_zero, List.set_cons_succ, DL.with_arg, DL.with_own, DL.wipeD, List.map_cons, List.map_nil, DL.toArg, DL.back2, DL.back2a, DL.back, DL.back1]); rfl)) | (with_reducible apply DL.set_own; rfl; focus ((try simp only [List.cons_append, List.nil_append, List.replicate_succ, List.replicate_zero, Nat.reduceSub, List.set_cons_zero, List.set_cons_succ, DL.with_arg, DL.with_own, DL.wipeD, List.map_cons, List.map_nil, DL.toArg, DL.back2, DL.back2a, DL.back, DL.back1]); rfl)) | (with_reducible apply DL.p_t; (first | rfl | focus (simp [*]; done) | assumption)) | (with_reducible apply DL.p_f; (first | rfl | focus (simp [*]; done) | assumption)) | (with_reducible apply DL.v_fz; rfl) | (with_reducible apply DL.v_own; rfl) | (with_reducible apply DL.v_arg; rfl) | with_reducible exact DL.r_c | with_reducible apply DL.r_andB | with_reducible apply DL.r_bin | with_reducible apply DL.r_un | with_reducible apply DL.r_test | with_reducible apply DL.r_notV | with_reducible apply DL.r_and | with_reducible apply DL.r_or | with_reducible apply DL.r_not | with_reducible apply DL.r_if | with_reducible apply DL.r_chainB | with_reducible exact DL.l_nil | with_reducible apply DL.l_cons | with_reducible apply DL.r_tup | with_reducible apply DL.r_lst | with_reducible apply DL.o_some | with_reducible exact DL.o_none | with_reducible apply DL.r_sl | with_reducible exact DL.a_nil | with_reducible apply DL.a_val | with_reducible apply DL.a_ref | (with_reducible apply DL.small_of; focus (first | omega | (simp <;> omega))) | with_reducible apply DL.r_callR | with_reducible apply DL.r_call | (first | with_reducible apply r_frz | exact e_is_row_of _ _ | exact e_is_row _ | exact e_is_below _ _ | exact e_is_whole _ | assumption) | (with_reducible apply DL.f_mod; (first | assumption | omega | focus (simp; omega))) | (with_reducible apply DL.f_div; (first | assumption | omega | focus (simp; omega))) | with_reducible apply DL.f_mulI | (with_reducible apply DL.wide_lt; (first | assumption | omega | focus (simp; omega))) | rfl | (focus ((try simp only [List.cons_append, List.nil_append, List.replicate_succ, List.replicate_zero, Nat.reduceSub, List.set_cons_zero, List.set_cons_succ, DL.with_arg, DL.with_own, DL.wipeD, List.map_cons, List.map_nil, DL.toArg, DL.back2, DL.back2a, DL.back, DL.back1]); rfl); done)))
      exact m_own rfl hs1 rfl
    · (repeat' (first | with_reducible apply DL.s_setI | with_reducible apply DL.s_app | with_reducible apply DL.s_ext | (with_reducible apply DL.m_arg; rfl) | (with_reducible apply DL.m_own; rfl) | (with_reducible apply DL.f_set; rfl; focus ((try simp only [List.cons_append, List.nil_append, List.replicate_succ, List.replicate_zero, Nat.reduceSub, List.set_cons_zero, List.set_cons_succ, DL.with_arg, DL.with_own, DL.wipeD, List.map_cons, List.map_nil, DL.toArg, DL.back2, DL.back2a, DL.back, DL.back1]); rfl)) | with_reducible apply DL.f_app | with_reducible apply DL.f_ext | (with_reducible apply DL.set_goal; focus ((try simp only [List.cons_append, List.nil_append, List.replicate_succ, List.replicate_zero, Nat.reduceSub, List.set_cons_zero, List.set_cons_succ, DL.with_arg, DL.with_own, DL.wipeD, List.map_cons, List.map_nil, DL.toArg, DL.back2, DL.back2a, DL.back, DL.back1]); rfl)) | with_reducible apply DL.s_seqG | with_reducible apply DL.step_b | with_reducible apply DL.k_nx | with_reducible exact DL.k_rt | with_reducible exact DL.k_ct | with_reducible exact DL.k_bk | with_reducible apply DL.s_asgG | with_reducible apply DL.s_asg | with_reducible apply DL.s_drop | with_reducible apply DL.s_ret | with_reducible apply DL.s_if | with_reducible exact DL.s_skip | (with_reducible apply DL.f_eq; (first | rfl | assumption); (first | rfl | assumption)) | (with_reducible apply DL.f_ne; (first | rfl | assumption); (first | rfl | assumption)) | with_reducible apply DL.f_addT | (with_reducible apply DL.f_ixT; assumption) | (with_reducible apply DL.f_ixL; assumption) | with_reducible apply DL.f_addL | with_reducible apply DL.s_par | with_reducible apply DL.s_for | with_reducible apply DL.i_it | with_reducible apply DL.i_r1 | with_reducible apply DL.r_lc | with_reducible apply DL.r_lc2 | with_reducible apply DL.i_enumT | with_reducible exact DL.t_yes | with_reducible apply DL.turn_e | with_reducible apply DL.g_tup | with_reducible apply DL.g_lst | with_reducible apply DL.g_cons | with_reducible exact DL.g_nil | with_reducible apply DL.g_n | (with_reducible apply DL.set_fz; rfl; focus ((try simp only [List.cons_append, List.nil_append, List.replicate_succ, List.replicate_zero, Nat.reduceSub, List.set_cons_zero, List.set_cons_succ, DL.with_arg, DL.with_own, DL.wipeD, List.map_cons, List.map_nil, DL.toArg, DL.back2, DL.back2a, DL.back, DL.back1]); rfl)) | (with_reducible apply DL.set_own; rfl; focus ((try simp only [List.cons_append, List.nil_append, List.replicate_succ, List.replicate_zero, Nat.reduceSub, List.set_cons_zero, List.set_cons_succ, DL.with_arg, DL.with_own, DL.wipeD, List.map_cons, List.map_nil, DL.toArg, DL.back2, DL.back2a, DL.back, DL.back1]); rfl)) | (with_reducible apply DL.p_t; (first | rfl | focus (simp [*]; done) | assumption)) | (with_reducible apply DL.p_f; (first | rfl | focus (simp [*]; done) | assumption)) | (with_reducible apply DL.v_fz; rfl) | (with_reducible apply DL.v_own; rfl) | (with_reducible apply DL.v_arg; rfl) | with_reducible exact DL.r_c | with_reducible apply DL.r_andB | with_reducible apply DL.r_bin | with_reducible apply DL.r_un | with_reducible apply DL.r_test | with_reducible apply DL.r_notV | with_reducible apply DL.r_and | with_reducible apply DL.r_or | with_reducible apply DL.r_not | with_reducible apply DL.r_if | with_reducible apply DL.r_chainB | with_reducible exact DL.l_nil | with_reducible apply DL.l_cons | with_reducible apply DL.r_tup | with_reducible apply DL.r_lst | with_reducible apply DL.o_some | with_reducible exact DL.o_none | with_reducible apply DL.r_sl | with_reducible exact DL.a_nil | with_reducible apply DL.a_val | with_reducible apply DL.a_ref | (with_reducible apply DL.small_of; focus (first | omega | (simp <;> omega))) | with_reducible apply DL.r_callR | with_reducible apply DL.r_call | (first | with_reducible apply r_frz | exact e_is_row_of _ _ | exact e_is_row _ | exact e_is_below _ _ | exact e_is_whole _ | assumption) | (with_reducible apply DL.f_mod; (first | assumption | omega | focus (simp; omega))) | (with_reducible apply DL.f_div; (first | assumption | omega | focus (simp; omega))) | with_reducible apply DL.f_mulI | (with_reducible apply DL.wide_lt; (first | assumption | omega | focus (simp; omega))) | rfl | (focus ((try simp only [List.cons_append, List.nil_append, List.replicate_succ, List.replicate_zero, Nat.reduceSub, List.set_cons_zero, List.set_cons_succ, DL.with_arg, DL.with_own, DL.wipeD, List.map_cons, List.map_nil, DL.toArg, DL.back2, DL.back2a, DL.back, DL.back1]); rfl); done)))
      exact m_own rfl hs1 rfl

theorem OkW.app {p : Int} {ls : List Ln} (h : OkW p ls) (hl : ls.length ≤ 999) {y : Ln} (hy : okL p y) : OkW p (ls ++ [y]) := ⟨h.p0, by rw [List.length_append]; show ls.length + 1 ≤ 1000; omega, fun l hm => by
  rcases List.mem_append.mp hm with q | q
  · exact h.ok l q
  · have : l = y := by simpa using q
    subst this; exact hy⟩
theorem endC_two (a b : Int) (c : Nat) (pl : Int) : endC pl (a, b, c) = (if a = pl then [c] else []) ++ (if b = pl then [c] else []) := rfl
theorem shapedN (L : List Int) : SeqAt.shaped (.list (encN L)) = true := shaped_ints L
theorem coms_nil {ls : List Ln} {pl : Int} : endsOf ls pl = [] ↔ coms ls pl = [] := by
  rw [← coms_ends]
  constructor
  · intro h
    rw [h]
    rfl
  · intro h
    exact List.map_eq_nil_iff.mp h
abbrev lineTail : Ds := (dSeq (dIfS (dTest (dBin fEq (dVar 3) (dVar 4))) (dSeq (dSetI 6 (dVar 3) (dIf (dTest (dBin fGt (dBin fIx (dVar 2) (dVar 3)) (dC (.int 1)))) (dBin fSub (dBin fIx (dVar 2) (dVar 3)) (dC (.int 2))) (dBin fIx (dVar 2) (dVar 3)))) (dIfS (dAnd (dTest (dBin fEq (dBin fIx (dVar 2) (dVar 3)) (dC (.int 0)))) (dTest (dBin fEq (dCall d_ends_at (aVal (dVar 1) (aVal (dVar 3) aNil))) (dLst dNil)))) (dSetI 6 (dVar 3) (dC (.int 2))) dSkip)) (dFor (dIter (dLst (dCons (dVar 3) (dCons (dVar 4) dNil)))) (gN 7) lT)) (dRet (dBin fEq (dVar 5) (dVar 6))))
set_option maxHeartbeats 0 in
/-- what is due, held against what is told -/
theorem line_tail {p : Nat} {ls : List Ln} (hw : OkW p ls) (hl1 : ls.length ≤ 100) (hn : ∀ l ∈ ls, l.2.2 ≠ 110) {i k : Nat} (hi : i < p) (hk : k < p) (y0 x0 : List D) :
    ∃ δ', lineTail [.arg (.lst x0), .fz (encW p ls), .fz (.list (encN (wantsL p ls))), .fz (.int (i : Nat)), .fz (.int (k : Nat)), .own (.lst (encN (wantsL p (ls ++ [((i : Int), (k : Int), 110)])))), .own (.lst (encN (wantsL p ls))), .no] = .ok (.rt (.fz (.bool true))) δ' ∧ trim [.arg (.lst y0), .fz (encW p ls), .fz (.list (encN (wantsL p ls)))] δ' = [.arg (.lst x0), .no, .no] := by
  have hcm : ∀ j : Nat, coms (ls ++ [((i : Int), (k : Int), 110)]) j = coms ls j ++ ((if i = j then [110] else []) ++ (if k = j then [110] else [])) := fun j => by
    rw [coms_app, endC_two]
    congr 2
    · by_cases e : i = j
      · rw [if_pos e, if_pos (by omega)]
      · rw [if_neg e, if_neg (by omega)]
    · by_cases e : k = j
      · rw [if_pos e, if_pos (by omega)]
      · rw [if_neg e, if_neg (by omega)]
  have hno := fun pl => coms_not hn pl
  have hlen := wants_len (p : Int) ls
  have hiL : i < (encN (wantsL p ls)).length := by
    rw [List.length_map, hlen]
    omega
  have hWi := wants_at (p := (p : Int)) (ls := ls) (i := i) (by omega)
  have hWk := wants_at (p := (p : Int)) (ls := ls) (i := k) (by omega)
  by_cases hik : i = k
  · subst hik
    have hx := f_ixL hWi
    have he : fEq (.int (i : Nat)) (.int (i : Nat)) = some (.fz (.bool true)) := by rw [eq_int, decide_eq_true rfl]
    have hci : coms (ls ++ [((i : Int), (i : Int), 110)]) i = coms ls i ++ [110, 110] := by
      rw [hcm, if_pos rfl]
      rfl
    have hset := wants_set (p := (p : Int)) (ls := ls) (ms := ls ++ [((i : Int), (i : Int), 110)]) (i := i) fun j _ hj => by
      rw [hcm, if_neg (fun z => hj z.symm)]
      simp
    rw [hci, want_add2 (hno i)] at hset
    have ce := e_ends_at p ls i hw (by omega) (by omega)
    have nn := want_nn (coms ls i)
    by_cases hz : coms ls i = []
    · have w0 : wantC (coms ls i) = 0 := by rw [hz]; rfl
      rw [w0] at hx hWi
      rw [if_pos hz] at hset
      rw [coms_nil.mpr hz] at ce
      have hg : fGt (.int 0) (.int 1) = some (.fz (.bool false)) := rfl
      have hq : fEq (.int 0) (.int 0) = some (.fz (.bool true)) := rfl
      have hq2 : fEq (.list []) (.list []) = some (.fz (.bool true)) := rfl
      have s1 := f_setN hiL (.int 0)
      have s2 := f_setN (ds := (encN (wantsL p ls)).set i (.int 0)) (i := i) (by rw [List.length_set]; exact hiL) (.int 2)
      have hf : fEq (.list (encN (wantsL p (ls ++ [((i : Int), (i : Int), 110)])))) (.list (((encN (wantsL p ls)).set i (.int 0)).set i (.int 2))) = some (.fz (.bool true)) := by
        rw [List.set_set, encN_set, hset]
        exact eq_refl (shapedN _)
      have m1 : mutL 6 (fSet (i : Nat) (.int 0)) [.arg (.lst x0), .fz (encW p ls), .fz (.list (encN (wantsL p ls))), .fz (.int (i : Nat)), .fz (.int (i : Nat)), .own (.lst (encN (wantsL p (ls ++ [((i : Int), (i : Int), 110)])))), .own (.lst (encN (wantsL p ls))), .no]
        = .ok .nx [.arg (.lst x0), .fz (encW p ls), .fz (.list (encN (wantsL p ls))), .fz (.int (i : Nat)), .fz (.int (i : Nat)), .own (.lst (encN (wantsL p (ls ++ [((i : Int), (i : Int), 110)])))), .own (.lst ((encN (wantsL p ls)).set i (.int 0))), .no] := m_own rfl s1 rfl
      have m2 : mutL 6 (fSet (i : Nat) (.int 2)) [.arg (.lst x0), .fz (encW p ls), .fz (.list (encN (wantsL p ls))), .fz (.int (i : Nat)), .fz (.int (i : Nat)), .own (.lst (encN (wantsL p (ls ++ [((i : Int), (i : Int), 110)])))), .own (.lst ((encN (wantsL p ls)).set i (.int 0))), .no]
        = .ok .nx [.arg (.lst x0), .fz (encW p ls), .fz (.list (encN (wantsL p ls))), .fz (.int (i : Nat)), .fz (.int (i : Nat)), .own (.lst (encN (wantsL p (ls ++ [((i : Int), (i : Int), 110)])))), .own (.lst (((encN (wantsL p ls)).set i (.int 0)).set i (.int 2))), .no] := m_own rfl s2 rfl
      clear s1 s2 hset hWi hWk hcm hno
      refine ⟨?d1, ?_, ?_⟩
      rotate_left
      · repeat' (first | exact m1 | exact m2 | (first | with_reducible apply DL.s_setI | with_reducible apply DL.s_app | with_reducible apply DL.s_ext | (with_reducible apply DL.m_arg; rfl) | (with_reducible apply DL.m_own; rfl) | (with_reducible apply DL.f_set; rfl; focus ((try simp only [List.cons_append, List.nil_append, List.replicate_succ, List.replicate_zero, Nat.reduceSub, List.set_cons_zero, List.set_cons_succ, DL.with_arg, DL.with_own, DL.wipeD, List.map_cons, List.map_nil, DL.toArg, DL.back2, DL.back2a, DL.back, DL.back1]); rfl)) | with_reducible apply DL.f_app | with_reducible apply DL.f_ext | (with_reducible apply DL.set_goal; focus ((try simp only [List.cons_append, List.nil_append, List.replicate_succ, List.replicate_zero, Nat.reduceSub, List.set_cons_zero, List.set_cons_succ, DL.with_arg, DL.with_own, DL.wipeD, List.map_cons, List.map_nil, DL.toArg, DL.back2, DL.back2a, DL.back, DL.back1]); rfl)) | with_reducible apply DL.s_seqG | with_reducible apply DL.step_b | with_reducible apply DL.k_nx | with_reducible exact DL.k_rt | with_reducible exact DL.k_ct | with_reducible exact DL.k_bk | with_reducible apply DL.s_asgG | with_reducible apply DL.s_asg | with_reducible apply DL.s_drop | with_reducible apply DL.s_ret | with_reducible apply DL.s_if | with_reducible exact DL.s_skip | (with_reducible apply DL.f_eq; (first | rfl | assumption); (first | rfl | assumption)) | (with_reducible apply DL.f_ne; (first | rfl | assumption); (first | rfl | assumption)) | with_reducible apply DL.f_addT | (with_reducible apply DL.f_ixT; assumption) | (with_reducible apply DL.f_ixL; assumption) | with_reducible apply DL.f_addL | with_reducible apply DL.s_par | with_reducible apply DL.s_for | with_reducible apply DL.i_it | with_reducible apply DL.i_r1 | with_reducible apply DL.r_lc | with_reducible apply DL.r_lc2 | with_reducible apply DL.i_enumT | with_reducible exact DL.t_yes | with_reducible apply DL.turn_e | with_reducible apply DL.g_tup | with_reducible apply DL.g_lst | with_reducible apply DL.g_cons | with_reducible exact DL.g_nil | with_reducible apply DL.g_n | (with_reducible apply DL.set_fz; rfl; focus ((try simp only [List.cons_append, List.nil_append, List.replicate_succ, List.replicate_zero, Nat.reduceSub, List.set_cons_zero, List.set_cons_succ, DL.with_arg, DL.with_own, DL.wipeD, List.map_cons, List.map_nil, DL.toArg, DL.back2, DL.back2a, DL.back, DL.back1]); rfl)) | (with_reducible apply DL.set_own; rfl; focus ((try simp only [List.cons_append, List.nil_append, List.replicate_succ, List.replicate_zero, Nat.reduceSub, List.set_cons_zero, List.set_cons_succ, DL.with_arg, DL.with_own, DL.wipeD, List.map_cons, List.map_nil, DL.toArg, DL.back2, DL.back2a, DL.back, DL.back1]); rfl)) | (with_reducible apply DL.p_t; (first | rfl | focus (simp [*]; done) | assumption)) | (with_reducible apply DL.p_f; (first | rfl | focus (simp [*]; done) | assumption)) | (with_reducible apply DL.v_fz; rfl) | (with_reducible apply DL.v_own; rfl) | (with_reducible apply DL.v_arg; rfl) | with_reducible exact DL.r_c | with_reducible apply DL.r_andB | with_reducible apply DL.r_bin | with_reducible apply DL.r_un | with_reducible apply DL.r_test | with_reducible apply DL.r_notV | with_reducible apply DL.r_and | with_reducible apply DL.r_or | with_reducible apply DL.r_not | with_reducible apply DL.r_if | with_reducible apply DL.r_chainB | with_reducible exact DL.l_nil | with_reducible apply DL.l_cons | with_reducible apply DL.r_tup | with_reducible apply DL.r_lst | with_reducible apply DL.o_some | with_reducible exact DL.o_none | with_reducible apply DL.r_sl | with_reducible exact DL.a_nil | with_reducible apply DL.a_val | with_reducible apply DL.a_ref | (with_reducible apply DL.small_of; focus (first | omega | (simp <;> omega))) | with_reducible apply DL.r_callR | with_reducible apply DL.r_call | (first | with_reducible apply r_frz | exact e_is_row_of _ _ | exact e_is_row _ | exact e_is_below _ _ | exact e_is_whole _ | assumption) | (with_reducible apply DL.f_mod; (first | assumption | omega | focus (simp; omega))) | (with_reducible apply DL.f_div; (first | assumption | omega | focus (simp; omega))) | with_reducible apply DL.f_mulI | (with_reducible apply DL.wide_lt; (first | assumption | omega | focus (simp; omega))) | rfl | (focus ((try simp only [List.cons_append, List.nil_append, List.replicate_succ, List.replicate_zero, Nat.reduceSub, List.set_cons_zero, List.set_cons_succ, DL.with_arg, DL.with_own, DL.wipeD, List.map_cons, List.map_nil, DL.toArg, DL.back2, DL.back2a, DL.back, DL.back1]); rfl); done)))
      · rfl
    · rw [if_neg hz] at hset
      by_cases hw1 : 1 < wantC (coms ls i)
      · rw [if_pos (by omega)] at hset
        generalize hwg : wantC (coms ls i) = w at *
        have hg : fGt (.int w) (.int 1) = some (.fz (.bool true)) := by rw [gt_int, decide_eq_true hw1]
        have hq : fEq (.int w) (.int 0) = some (.fz (.bool false)) := by rw [eq_int, decide_eq_false (by omega)]
        have s1 := f_setN hiL (.int (w - 2))
        have hf : fEq (.list (encN (wantsL p (ls ++ [((i : Int), (i : Int), 110)])))) (.list ((encN (wantsL p ls)).set i (.int (w - 2)))) = some (.fz (.bool true)) := by
          rw [encN_set, hset]
          exact eq_refl (shapedN _)
        have m1 : mutL 6 (fSet (i : Nat) (.int (w - 2))) [.arg (.lst x0), .fz (encW p ls), .fz (.list (encN (wantsL p ls))), .fz (.int (i : Nat)), .fz (.int (i : Nat)), .own (.lst (encN (wantsL p (ls ++ [((i : Int), (i : Int), 110)])))), .own (.lst (encN (wantsL p ls))), .no]
          = .ok .nx [.arg (.lst x0), .fz (encW p ls), .fz (.list (encN (wantsL p ls))), .fz (.int (i : Nat)), .fz (.int (i : Nat)), .own (.lst (encN (wantsL p (ls ++ [((i : Int), (i : Int), 110)])))), .own (.lst ((encN (wantsL p ls)).set i (.int (w - 2)))), .no] := m_own rfl s1 rfl
        clear s1 hset hWi hWk hcm hno ce
        refine ⟨?d2, ?_, ?_⟩
        rotate_left
        · repeat' (first | exact m1 | (first | with_reducible apply DL.s_setI | with_reducible apply DL.s_app | with_reducible apply DL.s_ext | (with_reducible apply DL.m_arg; rfl) | (with_reducible apply DL.m_own; rfl) | (with_reducible apply DL.f_set; rfl; focus ((try simp only [List.cons_append, List.nil_append, List.replicate_succ, List.replicate_zero, Nat.reduceSub, List.set_cons_zero, List.set_cons_succ, DL.with_arg, DL.with_own, DL.wipeD, List.map_cons, List.map_nil, DL.toArg, DL.back2, DL.back2a, DL.back, DL.back1]); rfl)) | with_reducible apply DL.f_app | with_reducible apply DL.f_ext | (with_reducible apply DL.set_goal; focus ((try simp only [List.cons_append, List.nil_append, List.replicate_succ, List.replicate_zero, Nat.reduceSub, List.set_cons_zero, List.set_cons_succ, DL.with_arg, DL.with_own, DL.wipeD, List.map_cons, List.map_nil, DL.toArg, DL.back2, DL.back2a, DL.back, DL.back1]); rfl)) | with_reducible apply DL.s_seqG | with_reducible apply DL.step_b | with_reducible apply DL.k_nx | with_reducible exact DL.k_rt | with_reducible exact DL.k_ct | with_reducible exact DL.k_bk | with_reducible apply DL.s_asgG | with_reducible apply DL.s_asg | with_reducible apply DL.s_drop | with_reducible apply DL.s_ret | with_reducible apply DL.s_if | with_reducible exact DL.s_skip | (with_reducible apply DL.f_eq; (first | rfl | assumption); (first | rfl | assumption)) | (with_reducible apply DL.f_ne; (first | rfl | assumption); (first | rfl | assumption)) | with_reducible apply DL.f_addT | (with_reducible apply DL.f_ixT; assumption) | (with_reducible apply DL.f_ixL; assumption) | with_reducible apply DL.f_addL | with_reducible apply DL.s_par | with_reducible apply DL.s_for | with_reducible apply DL.i_it | with_reducible apply DL.i_r1 | with_reducible apply DL.r_lc | with_reducible apply DL.r_lc2 | with_reducible apply DL.i_enumT | with_reducible exact DL.t_yes | with_reducible apply DL.turn_e | with_reducible apply DL.g_tup | with_reducible apply DL.g_lst | with_reducible apply DL.g_cons | with_reducible exact DL.g_nil | with_reducible apply DL.g_n | (with_reducible apply DL.set_fz; rfl; focus ((try simp only [List.cons_append, List.nil_append, List.replicate_succ, List.replicate_zero, Nat.reduceSub, List.set_cons_zero, List.set_cons_succ, DL.with_arg, DL.with_own, DL.wipeD, List.map_cons, List.map_nil, DL.toArg, DL.back2, DL.back2a, DL.back, DL.back1]); rfl)) | (with_reducible apply DL.set_own; rfl; focus ((try simp only [List.cons_append, List.nil_append, List.replicate_succ, List.replicate_zero, Nat.reduceSub, List.set_cons_zero, List.set_cons_succ, DL.with_arg, DL.with_own, DL.wipeD, List.map_cons, List.map_nil, DL.toArg, DL.back2, DL.back2a, DL.back, DL.back1]); rfl)) | (with_reducible apply DL.p_t; (first | rfl | focus (simp [*]; done) | assumption)) | (with_reducible apply DL.p_f; (first | rfl | focus (simp [*]; done) | assumption)) | (with_reducible apply DL.v_fz; rfl) | (with_reducible apply DL.v_own; rfl) | (with_reducible apply DL.v_arg; rfl) | with_reducible exact DL.r_c | with_reducible apply DL.r_andB | with_reducible apply DL.r_bin | with_reducible apply DL.r_un | with_reducible apply DL.r_test | with_reducible apply DL.r_notV | with_reducible apply DL.r_and | with_reducible apply DL.r_or | with_reducible apply DL.r_not | with_reducible apply DL.r_if | with_reducible apply DL.r_chainB | with_reducible exact DL.l_nil | with_reducible apply DL.l_cons | with_reducible apply DL.r_tup | with_reducible apply DL.r_lst | with_reducible apply DL.o_some | with_reducible exact DL.o_none | with_reducible apply DL.r_sl | with_reducible exact DL.a_nil | with_reducible apply DL.a_val | with_reducible apply DL.a_ref | (with_reducible apply DL.small_of; focus (first | omega | (simp <;> omega))) | with_reducible apply DL.r_callR | with_reducible apply DL.r_call | (first | with_reducible apply r_frz | exact e_is_row_of _ _ | exact e_is_row _ | exact e_is_below _ _ | exact e_is_whole _ | assumption) | (with_reducible apply DL.f_mod; (first | assumption | omega | focus (simp; omega))) | (with_reducible apply DL.f_div; (first | assumption | omega | focus (simp; omega))) | with_reducible apply DL.f_mulI | (with_reducible apply DL.wide_lt; (first | assumption | omega | focus (simp; omega))) | rfl | (focus ((try simp only [List.cons_append, List.nil_append, List.replicate_succ, List.replicate_zero, Nat.reduceSub, List.set_cons_zero, List.set_cons_succ, DL.with_arg, DL.with_own, DL.wipeD, List.map_cons, List.map_nil, DL.toArg, DL.back2, DL.back2a, DL.back, DL.back1]); rfl); done)))
        · rfl
      · rw [if_neg (by omega)] at hset
        generalize hwg : wantC (coms ls i) = w at *
        have hg : fGt (.int w) (.int 1) = some (.fz (.bool false)) := by rw [gt_int, decide_eq_false hw1]
        have s1 := f_setN hiL (.int w)
        have hf : fEq (.list (encN (wantsL p (ls ++ [((i : Int), (i : Int), 110)])))) (.list ((encN (wantsL p ls)).set i (.int w))) = some (.fz (.bool true)) := by
          rw [encN_set, hset]
          exact eq_refl (shapedN _)
        have m1 : mutL 6 (fSet (i : Nat) (.int w)) [.arg (.lst x0), .fz (encW p ls), .fz (.list (encN (wantsL p ls))), .fz (.int (i : Nat)), .fz (.int (i : Nat)), .own (.lst (encN (wantsL p (ls ++ [((i : Int), (i : Int), 110)])))), .own (.lst (encN (wantsL p ls))), .no]
          = .ok .nx [.arg (.lst x0), .fz (encW p ls), .fz (.list (encN (wantsL p ls))), .fz (.int (i : Nat)), .fz (.int (i : Nat)), .own (.lst (encN (wantsL p (ls ++ [((i : Int), (i : Int), 110)])))), .own (.lst ((encN (wantsL p ls)).set i (.int w))), .no] := m_own rfl s1 rfl
        clear s1 hset hWi hWk hcm hno
        by_cases hw0 : w = 0
        · have hq : fEq (.int w) (.int 0) = some (.fz (.bool true)) := by rw [eq_int, decide_eq_true hw0]
          have hq2 : fEq (.list ((endsOf ls (i : Nat)).map encE)) (.list []) = some (.fz (.bool false)) := by
            have hne : endsOf ls (i : Nat) ≠ [] := fun z => hz (coms_nil.mp z)
            cases hE : endsOf ls (i : Nat) with
            | nil => exact absurd hE hne
            | cons q qs =>
              have hs : SeqAt.shaped (.list ((q :: qs).map encE)) = true := by
                have e : PyData.canLayAll0 ((q :: qs).map encE) = true := by
                  generalize q :: qs = qq
                  induction qq with
                  | nil => rfl
                  | cons q qs ih => rw [List.map_cons, PyData.canLayAll0, ih]; rfl
                have e2 : PyData.depthAll ((q :: qs).map encE) ≤ 1 := by
                  generalize q :: qs = qq
                  induction qq with
                  | nil => simp [PyData.depthAll]
                  | cons q qs ih =>
                    rw [List.map_cons, PyData.depthAll]
                    have : (encE q).depth = 1 := by simp [PyData.depth, PyData.depthAll]
                    omega
                unfold SeqAt.shaped
                rw [show (PyData.list ((q :: qs).map encE)).canLay0 = PyData.canLayAll0 ((q :: qs).map encE) from rfl, e, decide_eq_true (show (PyData.list ((q :: qs).map encE)).depth ≤ 64 by rw [PyData.depth]; omega)]
                rfl
              rw [f_eq hs rfl]
              rfl
          refine ⟨?d3, ?_, ?_⟩
          rotate_left
          · repeat' (first | exact m1 | (first | with_reducible apply DL.s_setI | with_reducible apply DL.s_app | with_reducible apply DL.s_ext | (with_reducible apply DL.m_arg; rfl) | (with_reducible apply DL.m_own; rfl) | (with_reducible apply DL.f_set; rfl; focus ((try simp only [List.cons_append, List.nil_append, List.replicate_succ, List.replicate_zero, Nat.reduceSub, List.set_cons_zero, List.set_cons_succ, DL.with_arg, DL.with_own, DL.wipeD, List.map_cons, List.map_nil, DL.toArg, DL.back2, DL.back2a, DL.back, DL.back1]); rfl)) | with_reducible apply DL.f_app | with_reducible apply DL.f_ext | (with_reducible apply DL.set_goal; focus ((try simp only [List.cons_append, List.nil_append, List.replicate_succ, List.replicate_zero, Nat.reduceSub, List.set_cons_zero, List.set_cons_succ, DL.with_arg, DL.with_own, DL.wipeD, List.map_cons, List.map_nil, DL.toArg, DL.back2, DL.back2a, DL.back, DL.back1]); rfl)) | with_reducible apply DL.s_seqG | with_reducible apply DL.step_b | with_reducible apply DL.k_nx | with_reducible exact DL.k_rt | with_reducible exact DL.k_ct | with_reducible exact DL.k_bk | with_reducible apply DL.s_asgG | with_reducible apply DL.s_asg | with_reducible apply DL.s_drop | with_reducible apply DL.s_ret | with_reducible apply DL.s_if | with_reducible exact DL.s_skip | (with_reducible apply DL.f_eq; (first | rfl | assumption); (first | rfl | assumption)) | (with_reducible apply DL.f_ne; (first | rfl | assumption); (first | rfl | assumption)) | with_reducible apply DL.f_addT | (with_reducible apply DL.f_ixT; assumption) | (with_reducible apply DL.f_ixL; assumption) | with_reducible apply DL.f_addL | with_reducible apply DL.s_par | with_reducible apply DL.s_for | with_reducible apply DL.i_it | with_reducible apply DL.i_r1 | with_reducible apply DL.r_lc | with_reducible apply DL.r_lc2 | with_reducible apply DL.i_enumT | with_reducible exact DL.t_yes | with_reducible apply DL.turn_e | with_reducible apply DL.g_tup | with_reducible apply DL.g_lst | with_reducible apply DL.g_cons | with_reducible exact DL.g_nil | with_reducible apply DL.g_n | (with_reducible apply DL.set_fz; rfl; focus ((try simp only [List.cons_append, List.nil_append, List.replicate_succ, List.replicate_zero, Nat.reduceSub, List.set_cons_zero, List.set_cons_succ, DL.with_arg, DL.with_own, DL.wipeD, List.map_cons, List.map_nil, DL.toArg, DL.back2, DL.back2a, DL.back, DL.back1]); rfl)) | (with_reducible apply DL.set_own; rfl; focus ((try simp only [List.cons_append, List.nil_append, List.replicate_succ, List.replicate_zero, Nat.reduceSub, List.set_cons_zero, List.set_cons_succ, DL.with_arg, DL.with_own, DL.wipeD, List.map_cons, List.map_nil, DL.toArg, DL.back2, DL.back2a, DL.back, DL.back1]); rfl)) | (with_reducible apply DL.p_t; (first | rfl | focus (simp [*]; done) | assumption)) | (with_reducible apply DL.p_f; (first | rfl | focus (simp [*]; done) | assumption)) | (with_reducible apply DL.v_fz; rfl) | (with_reducible apply DL.v_own; rfl) | (with_reducible apply DL.v_arg; rfl) | with_reducible exact DL.r_c | with_reducible apply DL.r_andB | with_reducible apply DL.r_bin | with_reducible apply DL.r_un | with_reducible apply DL.r_test | with_reducible apply DL.r_notV | with_reducible apply DL.r_and | with_reducible apply DL.r_or | with_reducible apply DL.r_not | with_reducible apply DL.r_if | with_reducible apply DL.r_chainB | with_reducible exact DL.l_nil | with_reducible apply DL.l_cons | with_reducible apply DL.r_tup | with_reducible apply DL.r_lst | with_reducible apply DL.o_some | with_reducible exact DL.o_none | with_reducible apply DL.r_sl | with_reducible exact DL.a_nil | with_reducible apply DL.a_val | with_reducible apply DL.a_ref | (with_reducible apply DL.small_of; focus (first | omega | (simp <;> omega))) | with_reducible apply DL.r_callR | with_reducible apply DL.r_call | (first | with_reducible apply r_frz | exact e_is_row_of _ _ | exact e_is_row _ | exact e_is_below _ _ | exact e_is_whole _ | assumption) | (with_reducible apply DL.f_mod; (first | assumption | omega | focus (simp; omega))) | (with_reducible apply DL.f_div; (first | assumption | omega | focus (simp; omega))) | with_reducible apply DL.f_mulI | (with_reducible apply DL.wide_lt; (first | assumption | omega | focus (simp; omega))) | rfl | (focus ((try simp only [List.cons_append, List.nil_append, List.replicate_succ, List.replicate_zero, Nat.reduceSub, List.set_cons_zero, List.set_cons_succ, DL.with_arg, DL.with_own, DL.wipeD, List.map_cons, List.map_nil, DL.toArg, DL.back2, DL.back2a, DL.back, DL.back1]); rfl); done)))
          · rfl
        · have hq : fEq (.int w) (.int 0) = some (.fz (.bool false)) := by rw [eq_int, decide_eq_false hw0]
          clear ce
          refine ⟨?d4, ?_, ?_⟩
          rotate_left
          · repeat' (first | exact m1 | (first | with_reducible apply DL.s_setI | with_reducible apply DL.s_app | with_reducible apply DL.s_ext | (with_reducible apply DL.m_arg; rfl) | (with_reducible apply DL.m_own; rfl) | (with_reducible apply DL.f_set; rfl; focus ((try simp only [List.cons_append, List.nil_append, List.replicate_succ, List.replicate_zero, Nat.reduceSub, List.set_cons_zero, List.set_cons_succ, DL.with_arg, DL.with_own, DL.wipeD, List.map_cons, List.map_nil, DL.toArg, DL.back2, DL.back2a, DL.back, DL.back1]); rfl)) | with_reducible apply DL.f_app | with_reducible apply DL.f_ext | (with_reducible apply DL.set_goal; focus ((try simp only [List.cons_append, List.nil_append, List.replicate_succ, List.replicate_zero, Nat.reduceSub, List.set_cons_zero, List.set_cons_succ, DL.with_arg, DL.with_own, DL.wipeD, List.map_cons, List.map_nil, DL.toArg, DL.back2, DL.back2a, DL.back, DL.back1]); rfl)) | with_reducible apply DL.s_seqG | with_reducible apply DL.step_b | with_reducible apply DL.k_nx | with_reducible exact DL.k_rt | with_reducible exact DL.k_ct | with_reducible exact DL.k_bk | with_reducible apply DL.s_asgG | with_reducible apply DL.s_asg | with_reducible apply DL.s_drop | with_reducible apply DL.s_ret | with_reducible apply DL.s_if | with_reducible exact DL.s_skip | (with_reducible apply DL.f_eq; (first | rfl | assumption); (first | rfl | assumption)) | (with_reducible apply DL.f_ne; (first | rfl | assumption); (first | rfl | assumption)) | with_reducible apply DL.f_addT | (with_reducible apply DL.f_ixT; assumption) | (with_reducible apply DL.f_ixL; assumption) | with_reducible apply DL.f_addL | with_reducible apply DL.s_par | with_reducible apply DL.s_for | with_reducible apply DL.i_it | with_reducible apply DL.i_r1 | with_reducible apply DL.r_lc | with_reducible apply DL.r_lc2 | with_reducible apply DL.i_enumT | with_reducible exact DL.t_yes | with_reducible apply DL.turn_e | with_reducible apply DL.g_tup | with_reducible apply DL.g_lst | with_reducible apply DL.g_cons | with_reducible exact DL.g_nil | with_reducible apply DL.g_n | (with_reducible apply DL.set_fz; rfl; focus ((try simp only [List.cons_append, List.nil_append, List.replicate_succ, List.replicate_zero, Nat.reduceSub, List.set_cons_zero, List.set_cons_succ, DL.with_arg, DL.with_own, DL.wipeD, List.map_cons, List.map_nil, DL.toArg, DL.back2, DL.back2a, DL.back, DL.back1]); rfl)) | (with_reducible apply DL.set_own; rfl; focus ((try simp only [List.cons_append, List.nil_append, List.replicate_succ, List.replicate_zero, Nat.reduceSub, List.set_cons_zero, List.set_cons_succ, DL.with_arg, DL.with_own, DL.wipeD, List.map_cons, List.map_nil, DL.toArg, DL.back2, DL.back2a, DL.back, DL.back1]); rfl)) | (with_reducible apply DL.p_t; (first | rfl | focus (simp [*]; done) | assumption)) | (with_reducible apply DL.p_f; (first | rfl | focus (simp [*]; done) | assumption)) | (with_reducible apply DL.v_fz; rfl) | (with_reducible apply DL.v_own; rfl) | (with_reducible apply DL.v_arg; rfl) | with_reducible exact DL.r_c | with_reducible apply DL.r_andB | with_reducible apply DL.r_bin | with_reducible apply DL.r_un | with_reducible apply DL.r_test | with_reducible apply DL.r_notV | with_reducible apply DL.r_and | with_reducible apply DL.r_or | with_reducible apply DL.r_not | with_reducible apply DL.r_if | with_reducible apply DL.r_chainB | with_reducible exact DL.l_nil | with_reducible apply DL.l_cons | with_reducible apply DL.r_tup | with_reducible apply DL.r_lst | with_reducible apply DL.o_some | with_reducible exact DL.o_none | with_reducible apply DL.r_sl | with_reducible exact DL.a_nil | with_reducible apply DL.a_val | with_reducible apply DL.a_ref | (with_reducible apply DL.small_of; focus (first | omega | (simp <;> omega))) | with_reducible apply DL.r_callR | with_reducible apply DL.r_call | (first | with_reducible apply r_frz | exact e_is_row_of _ _ | exact e_is_row _ | exact e_is_below _ _ | exact e_is_whole _ | assumption) | (with_reducible apply DL.f_mod; (first | assumption | omega | focus (simp; omega))) | (with_reducible apply DL.f_div; (first | assumption | omega | focus (simp; omega))) | with_reducible apply DL.f_mulI | (with_reducible apply DL.wide_lt; (first | assumption | omega | focus (simp; omega))) | rfl | (focus ((try simp only [List.cons_append, List.nil_append, List.replicate_succ, List.replicate_zero, Nat.reduceSub, List.set_cons_zero, List.set_cons_succ, DL.with_arg, DL.with_own, DL.wipeD, List.map_cons, List.map_nil, DL.toArg, DL.back2, DL.back2a, DL.back, DL.back1]); rfl); done)))
          · rfl
  · have he : fEq (.int (i : Nat)) (.int (k : Nat)) = some (.fz (.bool false)) := by rw [eq_int, decide_eq_false (by omega)]
    have hci : coms (ls ++ [((i : Int), (k : Int), 110)]) i = coms ls i ++ [110] := by
      rw [hcm, if_pos rfl, if_neg (fun z => hik z.symm)]
      rfl
    have hck : coms (ls ++ [((i : Int), (k : Int), 110)]) k = coms ls k ++ [110] := by
      rw [hcm, if_neg hik, if_pos rfl]
      rfl
    have hset := wants_set2 (p := (p : Int)) (ls := ls) (ms := ls ++ [((i : Int), (k : Int), 110)]) hik fun j _ hj hj' => by
      rw [hcm, if_neg (fun z => hj z.symm), if_neg (fun z => hj' z.symm)]
      simp
    rw [hci, hck, want_add1 (hno i), want_add1 (hno k)] at hset
    have t1 := line_turn hWi (encN (wantsL p ls)) hiL x0 (encW p ls) (.int (i : Nat)) (.int (k : Nat)) (encN (wantsL p (ls ++ [((i : Int), (k : Int), 110)]))) .no (.inl rfl)
    have t2 := line_turn hWk ((encN (wantsL p ls)).set i (.int (if wantC (coms ls i) > 0 then wantC (coms ls i) - 1 else 1))) (by rw [List.length_set, List.length_map, hlen]; omega) x0 (encW p ls) (.int (i : Nat)) (.int (k : Nat)) (encN (wantsL p (ls ++ [((i : Int), (k : Int), 110)]))) (.fz (.int (i : Nat))) (.inr ⟨_, rfl⟩)
    have t3 := for_2 t1 t2
    have hf : fEq (.list (encN (wantsL p (ls ++ [((i : Int), (k : Int), 110)])))) (.list (((encN (wantsL p ls)).set i (.int (if wantC (coms ls i) > 0 then wantC (coms ls i) - 1 else 1))).set k (.int (if wantC (coms ls k) > 0 then wantC (coms ls k) - 1 else 1)))) = some (.fz (.bool true)) := by
      rw [encN_set, encN_set, hset]
      exact eq_refl (shapedN _)
    clear t1 t2 hset hcm hno hWi hWk
    refine ⟨?d5, ?_, ?_⟩
    rotate_left
    · (repeat' (first | with_reducible apply DL.s_setI | with_reducible apply DL.s_app | with_reducible apply DL.s_ext | (with_reducible apply DL.m_arg; rfl) | (with_reducible apply DL.m_own; rfl) | (with_reducible apply DL.f_set; rfl; focus ((try simp only [List.cons_append, List.nil_append, List.replicate_succ, List.replicate_zero, Nat.reduceSub, List.set_cons_zero, List.set_cons_succ, DL.with_arg, DL.with_own, DL.wipeD, List.map_cons, List.map_nil, DL.toArg, DL.back2, DL.back2a, DL.back, DL.back1]); rfl)) | with_reducible apply DL.f_app | with_reducible apply DL.f_ext | (with_reducible apply DL.set_goal; focus ((try simp only [List.cons_append, List.nil_append, List.replicate_succ, List.replicate_zero, Nat.reduceSub, List.set_cons_zero, List.set_cons_succ, DL.with_arg, DL.with_own, DL.wipeD, List.map_cons, List.map_nil, DL.toArg, DL.back2, DL.back2a, DL.back, DL.back1]); rfl)) | with_reducible apply DL.s_seqG | with_reducible apply DL.step_b | with_reducible apply DL.k_nx | with_reducible exact DL.k_rt | with_reducible exact DL.k_ct | with_reducible exact DL.k_bk | with_reducible apply DL.s_asgG | with_reducible apply DL.s_asg | with_reducible apply DL.s_drop | with_reducible apply DL.s_ret | with_reducible apply DL.s_if | with_reducible exact DL.s_skip | (with_reducible apply DL.f_eq; (first | rfl | assumption); (first | rfl | assumption)) | (with_reducible apply DL.f_ne; (first | rfl | assumption); (first | rfl | assumption)) | with_reducible apply DL.f_addT | (with_reducible apply DL.f_ixT; assumption) | (with_reducible apply DL.f_ixL; assumption) | with_reducible apply DL.f_addL | with_reducible apply DL.s_par | with_reducible apply DL.s_for | with_reducible apply DL.i_it | with_reducible apply DL.i_r1 | with_reducible apply DL.r_lc | with_reducible apply DL.r_lc2 | with_reducible apply DL.i_enumT | with_reducible exact DL.t_yes | with_reducible apply DL.turn_e | with_reducible apply DL.g_tup | with_reducible apply DL.g_lst | with_reducible apply DL.g_cons | with_reducible exact DL.g_nil | with_reducible apply DL.g_n | (with_reducible apply DL.set_fz; rfl; focus ((try simp only [List.cons_append, List.nil_append, List.replicate_succ, List.replicate_zero, Nat.reduceSub, List.set_cons_zero, List.set_cons_succ, DL.with_arg, DL.with_own, DL.wipeD, List.map_cons, List.map_nil, DL.toArg, DL.back2, DL.back2a, DL.back, DL.back1]); rfl)) | (with_reducible apply DL.set_own; rfl; focus ((try simp only [List.cons_append, List.nil_append, List.replicate_succ, List.replicate_zero, Nat.reduceSub, List.set_cons_zero, List.set_cons_succ, DL.with_arg, DL.with_own, DL.wipeD, List.map_cons, List.map_nil, DL.toArg, DL.back2, DL.back2a, DL.back, DL.back1]); rfl)) | (with_reducible apply DL.p_t; (first | rfl | focus (simp [*]; done) | assumption)) | (with_reducible apply DL.p_f; (first | rfl | focus (simp [*]; done) | assumption)) | (with_reducible apply DL.v_fz; rfl) | (with_reducible apply DL.v_own; rfl) | (with_reducible apply DL.v_arg; rfl) | with_reducible exact DL.r_c | with_reducible apply DL.r_andB | with_reducible apply DL.r_bin | with_reducible apply DL.r_un | with_reducible apply DL.r_test | with_reducible apply DL.r_notV | with_reducible apply DL.r_and | with_reducible apply DL.r_or | with_reducible apply DL.r_not | with_reducible apply DL.r_if | with_reducible apply DL.r_chainB | with_reducible exact DL.l_nil | with_reducible apply DL.l_cons | with_reducible apply DL.r_tup | with_reducible apply DL.r_lst | with_reducible apply DL.o_some | with_reducible exact DL.o_none | with_reducible apply DL.r_sl | with_reducible exact DL.a_nil | with_reducible apply DL.a_val | with_reducible apply DL.a_ref | (with_reducible apply DL.small_of; focus (first | omega | (simp <;> omega))) | with_reducible apply DL.r_callR | with_reducible apply DL.r_call | (first | with_reducible apply r_frz | exact e_is_row_of _ _ | exact e_is_row _ | exact e_is_below _ _ | exact e_is_whole _ | assumption) | (with_reducible apply DL.f_mod; (first | assumption | omega | focus (simp; omega))) | (with_reducible apply DL.f_div; (first | assumption | omega | focus (simp; omega))) | with_reducible apply DL.f_mulI | (with_reducible apply DL.wide_lt; (first | assumption | omega | focus (simp; omega))) | rfl | (focus ((try simp only [List.cons_append, List.nil_append, List.replicate_succ, List.replicate_zero, Nat.reduceSub, List.set_cons_zero, List.set_cons_succ, DL.with_arg, DL.with_own, DL.wipeD, List.map_cons, List.map_nil, DL.toArg, DL.back2, DL.back2a, DL.back, DL.back1]); rfl); done)))
    · rfl

set_option maxHeartbeats 0 in
theorem e_line_right {b : Nat} {r : Rl} (h : RlOk b r) (hb : b ≤ 90000) {p : Nat} {ls : List Ln} (hw : OkW p ls) (hp0 : 0 < p) (hp1 : p ≤ 1000) (hl1 : ls.length ≤ 100) (hn : ∀ l ∈ ls, l.2.2 ≠ 110) :
    ∃ r', d__law_line_right [.arg (.lst (encR r)), .fz (encW p ls), .fz (.list (encN (wantsL p ls)))] = .ok (.fz (.bool true)) [.arg (.lst (encR r')), .no, .no] ∧ RlOk (b + 2) r' := by
  obtain ⟨v1, r1, e1, a1, b1, h1⟩ := e_draw h (by omega) p (by omega) (by omega)
  obtain ⟨v2, r2, e2, a2, b2, h2⟩ := e_draw h1 (by omega) p (by omega) (by omega)
  obtain ⟨i, rfl⟩ := Int.eq_ofNat_of_zero_le a1
  obtain ⟨k, rfl⟩ := Int.eq_ofNat_of_zero_le a2
  have hxk : okL p ((i : Int), (k : Int), 110) := ⟨a1, b1, a2, b2, by show okC 110; unfold okC; decide⟩
  have hwx := hw.app (by omega) hxk
  have c1 := e_with_line p ls i k 110 hw a1 b1 a2 b2 (by unfold okC; omega)
  rw [← str_n] at c1
  have c2 := e_wants p (ls ++ [((i : Int), (k : Int), 110)]) hwx (by omega)
  obtain ⟨δ', ht, hd⟩ := line_tail hw hl1 hn (i := i) (k := k) (by omega) (by omega) (encR r) (encR r2)
  have hlist : fList (.list (encN (wantsL p ls))) = some (.own (.lst (encN (wantsL p ls)))) := rfl
  refine ⟨r2, ?_, h2.mono (by omega)⟩
  unfold d__law_line_right
  apply run_b rfl
  · focus ((try simp only [List.cons_append, List.nil_append, List.replicate_succ, List.replicate_zero, Nat.reduceSub, List.set_cons_zero, List.set_cons_succ, DL.with_arg, DL.with_own, DL.wipeD, List.map_cons, List.map_nil, DL.toArg, DL.back2, DL.back2a, DL.back, DL.back1]); rfl)
  · unfold sd__law_line_right
    repeat' (first | exact ht | (first | with_reducible apply DL.s_setI | with_reducible apply DL.s_app | with_reducible apply DL.s_ext | (with_reducible apply DL.m_arg; rfl) | (with_reducible apply DL.m_own; rfl) | (with_reducible apply DL.f_set; rfl; focus ((try simp only [List.cons_append, List.nil_append, List.replicate_succ, List.replicate_zero, Nat.reduceSub, List.set_cons_zero, List.set_cons_succ, DL.with_arg, DL.with_own, DL.wipeD, List.map_cons, List.map_nil, DL.toArg, DL.back2, DL.back2a, DL.back, DL.back1]); rfl)) | with_reducible apply DL.f_app | with_reducible apply DL.f_ext | (with_reducible apply DL.set_goal; focus ((try simp only [List.cons_append, List.nil_append, List.replicate_succ, List.replicate_zero, Nat.reduceSub, List.set_cons_zero, List.set_cons_succ, DL.with_arg, DL.with_own, DL.wipeD, List.map_cons, List.map_nil, DL.toArg, DL.back2, DL.back2a, DL.back, DL.back1]); rfl)) | with_reducible apply DL.s_seqG | with_reducible apply DL.step_b | with_reducible apply DL.k_nx | with_reducible exact DL.k_rt | with_reducible exact DL.k_ct | with_reducible exact DL.k_bk | with_reducible apply DL.s_asgG | with_reducible apply DL.s_asg | with_reducible apply DL.s_drop | with_reducible apply DL.s_ret | with_reducible apply DL.s_if | with_reducible exact DL.s_skip | (with_reducible apply DL.f_eq; (first | rfl | assumption); (first | rfl | assumption)) | (with_reducible apply DL.f_ne; (first | rfl | assumption); (first | rfl | assumption)) | with_reducible apply DL.f_addT | (with_reducible apply DL.f_ixT; assumption) | (with_reducible apply DL.f_ixL; assumption) | with_reducible apply DL.f_addL | with_reducible apply DL.s_par | with_reducible apply DL.s_for | with_reducible apply DL.i_it | with_reducible apply DL.i_r1 | with_reducible apply DL.r_lc | with_reducible apply DL.r_lc2 | with_reducible apply DL.i_enumT | with_reducible exact DL.t_yes | with_reducible apply DL.turn_e | with_reducible apply DL.g_tup | with_reducible apply DL.g_lst | with_reducible apply DL.g_cons | with_reducible exact DL.g_nil | with_reducible apply DL.g_n | (with_reducible apply DL.set_fz; rfl; focus ((try simp only [List.cons_append, List.nil_append, List.replicate_succ, List.replicate_zero, Nat.reduceSub, List.set_cons_zero, List.set_cons_succ, DL.with_arg, DL.with_own, DL.wipeD, List.map_cons, List.map_nil, DL.toArg, DL.back2, DL.back2a, DL.back, DL.back1]); rfl)) | (with_reducible apply DL.set_own; rfl; focus ((try simp only [List.cons_append, List.nil_append, List.replicate_succ, List.replicate_zero, Nat.reduceSub, List.set_cons_zero, List.set_cons_succ, DL.with_arg, DL.with_own, DL.wipeD, List.map_cons, List.map_nil, DL.toArg, DL.back2, DL.back2a, DL.back, DL.back1]); rfl)) | (with_reducible apply DL.p_t; (first | rfl | focus (simp [*]; done) | assumption)) | (with_reducible apply DL.p_f; (first | rfl | focus (simp [*]; done) | assumption)) | (with_reducible apply DL.v_fz; rfl) | (with_reducible apply DL.v_own; rfl) | (with_reducible apply DL.v_arg; rfl) | with_reducible exact DL.r_c | with_reducible apply DL.r_andB | with_reducible apply DL.r_bin | with_reducible apply DL.r_un | with_reducible apply DL.r_test | with_reducible apply DL.r_notV | with_reducible apply DL.r_and | with_reducible apply DL.r_or | with_reducible apply DL.r_not | with_reducible apply DL.r_if | with_reducible apply DL.r_chainB | with_reducible exact DL.l_nil | with_reducible apply DL.l_cons | with_reducible apply DL.r_tup | with_reducible apply DL.r_lst | with_reducible apply DL.o_some | with_reducible exact DL.o_none | with_reducible apply DL.r_sl | with_reducible exact DL.a_nil | with_reducible apply DL.a_val | with_reducible apply DL.a_ref | (with_reducible apply DL.small_of; focus (first | omega | (simp <;> omega))) | with_reducible apply DL.r_callR | with_reducible apply DL.r_call | (first | with_reducible apply r_frz | exact e_is_row_of _ _ | exact e_is_row _ | exact e_is_below _ _ | exact e_is_whole _ | assumption) | (with_reducible apply DL.f_mod; (first | assumption | omega | focus (simp; omega))) | (with_reducible apply DL.f_div; (first | assumption | omega | focus (simp; omega))) | with_reducible apply DL.f_mulI | (with_reducible apply DL.wide_lt; (first | assumption | omega | focus (simp; omega))) | rfl | (focus ((try simp only [List.cons_append, List.nil_append, List.replicate_succ, List.replicate_zero, Nat.reduceSub, List.set_cons_zero, List.set_cons_succ, DL.with_arg, DL.with_own, DL.wipeD, List.map_cons, List.map_nil, DL.toArg, DL.back2, DL.back2a, DL.back, DL.back1]); rfl); done)))
  · rfl
  · exact hd

theorem i_zip {l : Dl} {δ δ1 : DS} {xs ys : List D} (h : l δ = .ok [.list xs, .list ys] δ1) : dZip l δ = .ok (zipD xs ys) δ1 := by
  unfold dZip
  rw [h]
  rfl
theorem zip_wants (f g : Nat → Int) : ∀ xs : List Nat, zipD ((xs.map f).map PyData.int) ((xs.map g).map PyData.int) = xs.map fun i => PyData.tuple [.int (f i), .int (g i)]
  | [] => rfl
  | x :: xs => by
    show PyData.tuple [.int (f x), .int (g x)] :: zipD ((xs.map f).map PyData.int) ((xs.map g).map PyData.int) = _
    rw [zip_wants f g xs]
    rfl
theorem comp_none {α : Type} {f : D → DS → R (Option D)} {δ : DS} {enc : α → D} {xs : List α} (h : ∀ x ∈ xs, f (enc x) δ = .ok none δ) : compL f (xs.map enc) δ = .ok [] δ := by
  rw [DL.comp_map (φ := fun _ => none) xs h]
  congr 1
  simp
theorem ne_int (a b : Int) : fNe (.int a) (.int b) = some (.fz (.bool (!decide (a = b)))) := by
  rw [f_ne rfl rfl]
  rfl
theorem lt_int (a b : Int) : fLtI (.int a) (.int b) = some (.fz (.bool (decide (a < b)))) := rfl
theorem okL_merge {p : Int} {c c' : Nat} {l : Ln} (h : okL p l) (hc : okC c') : okL p (mergeL c c' l) := by
  obtain ⟨a, b, c1, d, e⟩ := h
  refine ⟨a, b, c1, d, ?_⟩
  show okC (if l.2.2 = c then c' else l.2.2)
  split
  · exact hc
  · exact e
theorem OkW.up {p : Int} {ls : List Ln} (h : OkW p ls) : OkW (p + 1) ls := ⟨by have := h.p0; omega, h.ln, fun l hl => by
  obtain ⟨a, b, c, d, e⟩ := h.ok l hl
  exact ⟨a, by omega, c, by omega, e⟩⟩
theorem OkW.set {p : Int} {ls : List Ln} (h : OkW p ls) (n : Nat) {y : Ln} (hy : okL p y) : OkW p (ls.set n y) := ⟨h.p0, by rw [List.length_set]; exact h.ln, fun l hl => by
  rcases List.mem_or_eq_of_mem_set hl with q | q
  · exact h.ok l q
  · subst q; exact hy⟩
theorem OkW.mrg {p : Int} {ls : List Ln} (h : OkW p ls) {c c' : Nat} (hc : okC c') : OkW p (ls.map (mergeL c c')) := ⟨h.p0, by rw [List.length_map]; exact h.ln, fun l hm => by
  obtain ⟨m, hm1, hm2⟩ := List.mem_map.mp hm
  subst hm2
  exact okL_merge (h.ok m hm1) hc⟩
theorem okL_loose {p : Int} {l : Ln} (h : okL p l) (h0 : 0 ≤ p) (s : Nat) : okL (p + 1) (looseL p s l) := by
  obtain ⟨q1, q2, q3, q4, q5⟩ := h
  unfold looseL
  split
  · exact ⟨h0, by show p < p + 1; omega, q3, by show l.2.1 < p + 1; omega, q5⟩
  · exact ⟨q1, by show l.1 < p + 1; omega, h0, by show p < p + 1; omega, q5⟩
theorem chars_abc : ∀ c ∈ ("abc" : PySem.Str).cps.toList, okC c := by
  unfold okC
  decide +kernel
abbrev rSt (x0 : List D) (W N : D) (d3 d4 d5 d6 d7 d8 : Sl) : DS := [.arg (.lst x0), .fz W, .fz N, d3, d4, d5, d6, d7, d8, .no, .no, .no]
theorem right_c1 {p : Nat} {ls : List Ln} (hw : OkW p ls) (hn : ∀ l ∈ ls, l.2.2 ≠ 110) {n : Nat} {l : Ln} (hl : ls[n]? = some l) (hp : p ≤ 1000) (x0 : List D) (d4 : D) :
    compL (turnL [9] (gN 9) (dTest (dBin fGt (dCall d_want_at (aVal (dCall d_painted (aVal (dVar 1) (aVal (dVar 3) (aVal (dC (.str ("n" : PySem.Str))) aNil)))) (aVal (dVar 9) aNil))) (dBin fIx (dVar 2) (dVar 9)))) (dVar 9)) ((List.range (p : Int).toNat).map fun (i : Nat) => PyData.int i)
      (rSt x0 (encW p ls) (.list (encN (wantsL p ls))) (.fz (.int (n : Nat))) (.fz d4) .no .no .no .no) = .ok [] (rSt x0 (encW p ls) (.list (encN (wantsL p ls))) (.fz (.int (n : Nat))) (.fz d4) .no .no .no .no) := by
  refine comp_none fun i hi => ?_
  have hi : i < p := by have := List.mem_range.mp hi; omega
  have hlk := hw.ok l (List.mem_of_getElem? hl)
  have hyk : okL p (l.1, l.2.1, 110) := ⟨hlk.1, hlk.2.1, hlk.2.2.1, hlk.2.2.2.1, by show okC 110; unfold okC; decide⟩
  have c1 := e_painted p ls n l 110 hw hl (by unfold okC; decide)
  rw [← str_n] at c1
  have c2 := e_want_at p (ls.set n (l.1, l.2.1, 110)) i (hw.set n hyk) (by omega) (by omega)
  have hx := f_ixL (wants_at (p := (p : Int)) (ls := ls) (i := i) (by omega))
  have hle := paint_le hl hn i
  have hg : fGt (.int (wantC (coms (ls.set n (l.1, l.2.1, 110)) i))) (.int (wantC (coms ls i))) = some (.fz (.bool false)) := by
    rw [gt_int, decide_eq_false (by omega)]
  clear hle
  generalize wantC (coms (ls.set n (l.1, l.2.1, 110)) i) = w1 at *
  generalize wantC (coms ls i) = w2 at *
  generalize encN (wantsL p ls) = N at *
  apply turn_1
  · focus ((try simp only [List.cons_append, List.nil_append, List.replicate_succ, List.replicate_zero, Nat.reduceSub, List.set_cons_zero, List.set_cons_succ, DL.with_arg, DL.with_own, DL.wipeD, List.map_cons, List.map_nil, DL.toArg, DL.back2, DL.back2a, DL.back, DL.back1]); rfl)
  · (repeat' (first | with_reducible apply DL.s_setI | with_reducible apply DL.s_app | with_reducible apply DL.s_ext | (with_reducible apply DL.m_arg; rfl) | (with_reducible apply DL.m_own; rfl) | (with_reducible apply DL.f_set; rfl; focus ((try simp only [List.cons_append, List.nil_append, List.replicate_succ, List.replicate_zero, Nat.reduceSub, List.set_cons_zero, List.set_cons_succ, DL.with_arg, DL.with_own, DL.wipeD, List.map_cons, List.map_nil, DL.toArg, DL.back2, DL.back2a, DL.back, DL.back1]); rfl)) | with_reducible apply DL.f_app | with_reducible apply DL.f_ext | (with_reducible apply DL.set_goal; focus ((try simp only [List.cons_append, List.nil_append, List.replicate_succ, List.replicate_zero, Nat.reduceSub, List.set_cons_zero, List.set_cons_succ, DL.with_arg, DL.with_own, DL.wipeD, List.map_cons, List.map_nil, DL.toArg, DL.back2, DL.back2a, DL.back, DL.back1]); rfl)) | with_reducible apply DL.s_seqG | with_reducible apply DL.step_b | with_reducible apply DL.k_nx | with_reducible exact DL.k_rt | with_reducible exact DL.k_ct | with_reducible exact DL.k_bk | with_reducible apply DL.s_asgG | with_reducible apply DL.s_asg | with_reducible apply DL.s_drop | with_reducible apply DL.s_ret | with_reducible apply DL.s_if | with_reducible exact DL.s_skip | (with_reducible apply DL.f_eq; (first | rfl | assumption); (first | rfl | assumption)) | (with_reducible apply DL.f_ne; (first | rfl | assumption); (first | rfl | assumption)) | with_reducible apply DL.f_addT | (with_reducible apply DL.f_ixT; assumption) | (with_reducible apply DL.f_ixL; assumption) | with_reducible apply DL.f_addL | with_reducible apply DL.s_par | with_reducible apply DL.s_for | with_reducible apply DL.i_it | with_reducible apply DL.i_r1 | with_reducible apply DL.r_lc | with_reducible apply DL.r_lc2 | with_reducible apply DL.i_enumT | with_reducible exact DL.t_yes | with_reducible apply DL.turn_e | with_reducible apply DL.g_tup | with_reducible apply DL.g_lst | with_reducible apply DL.g_cons | with_reducible exact DL.g_nil | with_reducible apply DL.g_n | (with_reducible apply DL.set_fz; rfl; focus ((try simp only [List.cons_append, List.nil_append, List.replicate_succ, List.replicate_zero, Nat.reduceSub, List.set_cons_zero, List.set_cons_succ, DL.with_arg, DL.with_own, DL.wipeD, List.map_cons, List.map_nil, DL.toArg, DL.back2, DL.back2a, DL.back, DL.back1]); rfl)) | (with_reducible apply DL.set_own; rfl; focus ((try simp only [List.cons_append, List.nil_append, List.replicate_succ, List.replicate_zero, Nat.reduceSub, List.set_cons_zero, List.set_cons_succ, DL.with_arg, DL.with_own, DL.wipeD, List.map_cons, List.map_nil, DL.toArg, DL.back2, DL.back2a, DL.back, DL.back1]); rfl)) | (with_reducible apply DL.p_t; (first | rfl | focus (simp [*]; done) | assumption)) | (with_reducible apply DL.p_f; (first | rfl | focus (simp [*]; done) | assumption)) | (with_reducible apply DL.v_fz; rfl) | (with_reducible apply DL.v_own; rfl) | (with_reducible apply DL.v_arg; rfl) | with_reducible exact DL.r_c | with_reducible apply DL.r_andB | with_reducible apply DL.r_bin | with_reducible apply DL.r_un | with_reducible apply DL.r_test | with_reducible apply DL.r_notV | with_reducible apply DL.r_and | with_reducible apply DL.r_or | with_reducible apply DL.r_not | with_reducible apply DL.r_if | with_reducible apply DL.r_chainB | with_reducible exact DL.l_nil | with_reducible apply DL.l_cons | with_reducible apply DL.r_tup | with_reducible apply DL.r_lst | with_reducible apply DL.o_some | with_reducible exact DL.o_none | with_reducible apply DL.r_sl | with_reducible exact DL.a_nil | with_reducible apply DL.a_val | with_reducible apply DL.a_ref | (with_reducible apply DL.small_of; focus (first | omega | (simp <;> omega))) | with_reducible apply DL.r_callR | with_reducible apply DL.r_call | (first | with_reducible apply i_zip | with_reducible apply r_frz | exact e_is_row_of _ _ | exact e_is_row _ | exact e_is_below _ _ | exact e_is_whole _ | assumption) | (with_reducible apply DL.f_mod; (first | assumption | omega | focus (simp; omega))) | (with_reducible apply DL.f_div; (first | assumption | omega | focus (simp; omega))) | with_reducible apply DL.f_mulI | (with_reducible apply DL.wide_lt; (first | assumption | omega | focus (simp; omega))) | rfl | (focus ((try simp only [List.cons_append, List.nil_append, List.replicate_succ, List.replicate_zero, Nat.reduceSub, List.set_cons_zero, List.set_cons_succ, DL.with_arg, DL.with_own, DL.wipeD, List.map_cons, List.map_nil, DL.toArg, DL.back2, DL.back2a, DL.back, DL.back1]); rfl); done)))
  · (repeat' (first | with_reducible apply DL.s_setI | with_reducible apply DL.s_app | with_reducible apply DL.s_ext | (with_reducible apply DL.m_arg; rfl) | (with_reducible apply DL.m_own; rfl) | (with_reducible apply DL.f_set; rfl; focus ((try simp only [List.cons_append, List.nil_append, List.replicate_succ, List.replicate_zero, Nat.reduceSub, List.set_cons_zero, List.set_cons_succ, DL.with_arg, DL.with_own, DL.wipeD, List.map_cons, List.map_nil, DL.toArg, DL.back2, DL.back2a, DL.back, DL.back1]); rfl)) | with_reducible apply DL.f_app | with_reducible apply DL.f_ext | (with_reducible apply DL.set_goal; focus ((try simp only [List.cons_append, List.nil_append, List.replicate_succ, List.replicate_zero, Nat.reduceSub, List.set_cons_zero, List.set_cons_succ, DL.with_arg, DL.with_own, DL.wipeD, List.map_cons, List.map_nil, DL.toArg, DL.back2, DL.back2a, DL.back, DL.back1]); rfl)) | with_reducible apply DL.s_seqG | with_reducible apply DL.step_b | with_reducible apply DL.k_nx | with_reducible exact DL.k_rt | with_reducible exact DL.k_ct | with_reducible exact DL.k_bk | with_reducible apply DL.s_asgG | with_reducible apply DL.s_asg | with_reducible apply DL.s_drop | with_reducible apply DL.s_ret | with_reducible apply DL.s_if | with_reducible exact DL.s_skip | (with_reducible apply DL.f_eq; (first | rfl | assumption); (first | rfl | assumption)) | (with_reducible apply DL.f_ne; (first | rfl | assumption); (first | rfl | assumption)) | with_reducible apply DL.f_addT | (with_reducible apply DL.f_ixT; assumption) | (with_reducible apply DL.f_ixL; assumption) | with_reducible apply DL.f_addL | with_reducible apply DL.s_par | with_reducible apply DL.s_for | with_reducible apply DL.i_it | with_reducible apply DL.i_r1 | with_reducible apply DL.r_lc | with_reducible apply DL.r_lc2 | with_reducible apply DL.i_enumT | with_reducible exact DL.t_yes | with_reducible apply DL.turn_e | with_reducible apply DL.g_tup | with_reducible apply DL.g_lst | with_reducible apply DL.g_cons | with_reducible exact DL.g_nil | with_reducible apply DL.g_n | (with_reducible apply DL.set_fz; rfl; focus ((try simp only [List.cons_append, List.nil_append, List.replicate_succ, List.replicate_zero, Nat.reduceSub, List.set_cons_zero, List.set_cons_succ, DL.with_arg, DL.with_own, DL.wipeD, List.map_cons, List.map_nil, DL.toArg, DL.back2, DL.back2a, DL.back, DL.back1]); rfl)) | (with_reducible apply DL.set_own; rfl; focus ((try simp only [List.cons_append, List.nil_append, List.replicate_succ, List.replicate_zero, Nat.reduceSub, List.set_cons_zero, List.set_cons_succ, DL.with_arg, DL.with_own, DL.wipeD, List.map_cons, List.map_nil, DL.toArg, DL.back2, DL.back2a, DL.back, DL.back1]); rfl)) | (with_reducible apply DL.p_t; (first | rfl | focus (simp [*]; done) | assumption)) | (with_reducible apply DL.p_f; (first | rfl | focus (simp [*]; done) | assumption)) | (with_reducible apply DL.v_fz; rfl) | (with_reducible apply DL.v_own; rfl) | (with_reducible apply DL.v_arg; rfl) | with_reducible exact DL.r_c | with_reducible apply DL.r_andB | with_reducible apply DL.r_bin | with_reducible apply DL.r_un | with_reducible apply DL.r_test | with_reducible apply DL.r_notV | with_reducible apply DL.r_and | with_reducible apply DL.r_or | with_reducible apply DL.r_not | with_reducible apply DL.r_if | with_reducible apply DL.r_chainB | with_reducible exact DL.l_nil | with_reducible apply DL.l_cons | with_reducible apply DL.r_tup | with_reducible apply DL.r_lst | with_reducible apply DL.o_some | with_reducible exact DL.o_none | with_reducible apply DL.r_sl | with_reducible exact DL.a_nil | with_reducible apply DL.a_val | with_reducible apply DL.a_ref | (with_reducible apply DL.small_of; focus (first | omega | (simp <;> omega))) | with_reducible apply DL.r_callR | with_reducible apply DL.r_call | (first | with_reducible apply i_zip | with_reducible apply r_frz | exact e_is_row_of _ _ | exact e_is_row _ | exact e_is_below _ _ | exact e_is_whole _ | assumption) | (with_reducible apply DL.f_mod; (first | assumption | omega | focus (simp; omega))) | (with_reducible apply DL.f_div; (first | assumption | omega | focus (simp; omega))) | with_reducible apply DL.f_mulI | (with_reducible apply DL.wide_lt; (first | assumption | omega | focus (simp; omega))) | rfl | (focus ((try simp only [List.cons_append, List.nil_append, List.replicate_succ, List.replicate_zero, Nat.reduceSub, List.set_cons_zero, List.set_cons_succ, DL.with_arg, DL.with_own, DL.wipeD, List.map_cons, List.map_nil, DL.toArg, DL.back2, DL.back2a, DL.back, DL.back1]); rfl); done)))
  · (repeat' (first | with_reducible apply DL.s_setI | with_reducible apply DL.s_app | with_reducible apply DL.s_ext | (with_reducible apply DL.m_arg; rfl) | (with_reducible apply DL.m_own; rfl) | (with_reducible apply DL.f_set; rfl; focus ((try simp only [List.cons_append, List.nil_append, List.replicate_succ, List.replicate_zero, Nat.reduceSub, List.set_cons_zero, List.set_cons_succ, DL.with_arg, DL.with_own, DL.wipeD, List.map_cons, List.map_nil, DL.toArg, DL.back2, DL.back2a, DL.back, DL.back1]); rfl)) | with_reducible apply DL.f_app | with_reducible apply DL.f_ext | (with_reducible apply DL.set_goal; focus ((try simp only [List.cons_append, List.nil_append, List.replicate_succ, List.replicate_zero, Nat.reduceSub, List.set_cons_zero, List.set_cons_succ, DL.with_arg, DL.with_own, DL.wipeD, List.map_cons, List.map_nil, DL.toArg, DL.back2, DL.back2a, DL.back, DL.back1]); rfl)) | with_reducible apply DL.s_seqG | with_reducible apply DL.step_b | with_reducible apply DL.k_nx | with_reducible exact DL.k_rt | with_reducible exact DL.k_ct | with_reducible exact DL.k_bk | with_reducible apply DL.s_asgG | with_reducible apply DL.s_asg | with_reducible apply DL.s_drop | with_reducible apply DL.s_ret | with_reducible apply DL.s_if | with_reducible exact DL.s_skip | (with_reducible apply DL.f_eq; (first | rfl | assumption); (first | rfl | assumption)) | (with_reducible apply DL.f_ne; (first | rfl | assumption); (first | rfl | assumption)) | with_reducible apply DL.f_addT | (with_reducible apply DL.f_ixT; assumption) | (with_reducible apply DL.f_ixL; assumption) | with_reducible apply DL.f_addL | with_reducible apply DL.s_par | with_reducible apply DL.s_for | with_reducible apply DL.i_it | with_reducible apply DL.i_r1 | with_reducible apply DL.r_lc | with_reducible apply DL.r_lc2 | with_reducible apply DL.i_enumT | with_reducible exact DL.t_yes | with_reducible apply DL.turn_e | with_reducible apply DL.g_tup | with_reducible apply DL.g_lst | with_reducible apply DL.g_cons | with_reducible exact DL.g_nil | with_reducible apply DL.g_n | (with_reducible apply DL.set_fz; rfl; focus ((try simp only [List.cons_append, List.nil_append, List.replicate_succ, List.replicate_zero, Nat.reduceSub, List.set_cons_zero, List.set_cons_succ, DL.with_arg, DL.with_own, DL.wipeD, List.map_cons, List.map_nil, DL.toArg, DL.back2, DL.back2a, DL.back, DL.back1]); rfl)) | (with_reducible apply DL.set_own; rfl; focus ((try simp only [List.cons_append, List.nil_append, List.replicate_succ, List.replicate_zero, Nat.reduceSub, List.set_cons_zero, List.set_cons_succ, DL.with_arg, DL.with_own, DL.wipeD, List.map_cons, List.map_nil, DL.toArg, DL.back2, DL.back2a, DL.back, DL.back1]); rfl)) | (with_reducible apply DL.p_t; (first | rfl | focus (simp [*]; done) | assumption)) | (with_reducible apply DL.p_f; (first | rfl | focus (simp [*]; done) | assumption)) | (with_reducible apply DL.v_fz; rfl) | (with_reducible apply DL.v_own; rfl) | (with_reducible apply DL.v_arg; rfl) | with_reducible exact DL.r_c | with_reducible apply DL.r_andB | with_reducible apply DL.r_bin | with_reducible apply DL.r_un | with_reducible apply DL.r_test | with_reducible apply DL.r_notV | with_reducible apply DL.r_and | with_reducible apply DL.r_or | with_reducible apply DL.r_not | with_reducible apply DL.r_if | with_reducible apply DL.r_chainB | with_reducible exact DL.l_nil | with_reducible apply DL.l_cons | with_reducible apply DL.r_tup | with_reducible apply DL.r_lst | with_reducible apply DL.o_some | with_reducible exact DL.o_none | with_reducible apply DL.r_sl | with_reducible exact DL.a_nil | with_reducible apply DL.a_val | with_reducible apply DL.a_ref | (with_reducible apply DL.small_of; focus (first | omega | (simp <;> omega))) | with_reducible apply DL.r_callR | with_reducible apply DL.r_call | (first | with_reducible apply i_zip | with_reducible apply r_frz | exact e_is_row_of _ _ | exact e_is_row _ | exact e_is_below _ _ | exact e_is_whole _ | assumption) | (with_reducible apply DL.f_mod; (first | assumption | omega | focus (simp; omega))) | (with_reducible apply DL.f_div; (first | assumption | omega | focus (simp; omega))) | with_reducible apply DL.f_mulI | (with_reducible apply DL.wide_lt; (first | assumption | omega | focus (simp; omega))) | rfl | (focus ((try simp only [List.cons_append, List.nil_append, List.replicate_succ, List.replicate_zero, Nat.reduceSub, List.set_cons_zero, List.set_cons_succ, DL.with_arg, DL.with_own, DL.wipeD, List.map_cons, List.map_nil, DL.toArg, DL.back2, DL.back2a, DL.back, DL.back1]); rfl); done)))
  · rfl
theorem right_c2 {p : Nat} {ls : List Ln} (c c' : Nat) (x0 : List D) (d1 d3 d4 d5 d6 : D) :
    compL (turnL [10, 11] (gTupD 2 (gsCons (gN 10) (gsCons (gN 11) gsNil))) (dTest (dBin fLtI (dVar 11) (dVar 10))) (dC (.int 1))) (zipD (encN (wantsL p ls)) (encN (wantsL p (ls.map (mergeL c c')))))
      (rSt x0 d1 (.list (encN (wantsL p ls))) (.fz d3) (.fz d4) (.fz d5) (.fz d6) .no .no) = .ok [] (rSt x0 d1 (.list (encN (wantsL p ls))) (.fz d3) (.fz d4) (.fz d5) (.fz d6) .no .no) := by
  have e : zipD (encN (wantsL p ls)) (encN (wantsL p (ls.map (mergeL c c')))) = (List.range (p : Int).toNat).map fun (i : Nat) => PyData.tuple [.int (wantC (coms ls i)), .int (wantC (coms (ls.map (mergeL c c')) i))] := zip_wants _ _ _
  rw [e]
  generalize encN (wantsL p ls) = N
  refine comp_none fun i hi => ?_
  have hle := merge_ge ls c c' i
  have hg : fLtI (.int (wantC (coms (ls.map (mergeL c c')) i))) (.int (wantC (coms ls i))) = some (.fz (.bool false)) := by
    rw [lt_int, decide_eq_false (by omega)]
  clear hle
  generalize wantC (coms (ls.map (mergeL c c')) i) = w1 at *
  generalize wantC (coms ls i) = w2 at *
  apply turn_1
  · focus ((try simp only [List.cons_append, List.nil_append, List.replicate_succ, List.replicate_zero, Nat.reduceSub, List.set_cons_zero, List.set_cons_succ, DL.with_arg, DL.with_own, DL.wipeD, List.map_cons, List.map_nil, DL.toArg, DL.back2, DL.back2a, DL.back, DL.back1]); rfl)
  · (repeat' (first | with_reducible apply DL.s_setI | with_reducible apply DL.s_app | with_reducible apply DL.s_ext | (with_reducible apply DL.m_arg; rfl) | (with_reducible apply DL.m_own; rfl) | (with_reducible apply DL.f_set; rfl; focus ((try simp only [List.cons_append, List.nil_append, List.replicate_succ, List.replicate_zero, Nat.reduceSub, List.set_cons_zero, List.set_cons_succ, DL.with_arg, DL.with_own, DL.wipeD, List.map_cons, List.map_nil, DL.toArg, DL.back2, DL.back2a, DL.back, DL.back1]); rfl)) | with_reducible apply DL.f_app | with_reducible apply DL.f_ext | (with_reducible apply DL.set_goal; focus ((try simp only [List.cons_append, List.nil_append, List.replicate_succ, List.replicate_zero, Nat.reduceSub, List.set_cons_zero, List.set_cons_succ, DL.with_arg, DL.with_own, DL.wipeD, List.map_cons, List.map_nil, DL.toArg, DL.back2, DL.back2a, DL.back, DL.back1]); rfl)) | with_reducible apply DL.s_seqG | with_reducible apply DL.step_b | with_reducible apply DL.k_nx | with_reducible exact DL.k_rt | with_reducible exact DL.k_ct | with_reducible exact DL.k_bk | with_reducible apply DL.s_asgG | with_reducible apply DL.s_asg | with_reducible apply DL.s_drop | with_reducible apply DL.s_ret | with_reducible apply DL.s_if | with_reducible exact DL.s_skip | (with_reducible apply DL.f_eq; (first | rfl | assumption); (first | rfl | assumption)) | (with_reducible apply DL.f_ne; (first | rfl | assumption); (first | rfl | assumption)) | with_reducible apply DL.f_addT | (with_reducible apply DL.f_ixT; assumption) | (with_reducible apply DL.f_ixL; assumption) | with_reducible apply DL.f_addL | with_reducible apply DL.s_par | with_reducible apply DL.s_for | with_reducible apply DL.i_it | with_reducible apply DL.i_r1 | with_reducible apply DL.r_lc | with_reducible apply DL.r_lc2 | with_reducible apply DL.i_enumT | with_reducible exact DL.t_yes | with_reducible apply DL.turn_e | with_reducible apply DL.g_tup | with_reducible apply DL.g_lst | with_reducible apply DL.g_cons | with_reducible exact DL.g_nil | with_reducible apply DL.g_n | (with_reducible apply DL.set_fz; rfl; focus ((try simp only [List.cons_append, List.nil_append, List.replicate_succ, List.replicate_zero, Nat.reduceSub, List.set_cons_zero, List.set_cons_succ, DL.with_arg, DL.with_own, DL.wipeD, List.map_cons, List.map_nil, DL.toArg, DL.back2, DL.back2a, DL.back, DL.back1]); rfl)) | (with_reducible apply DL.set_own; rfl; focus ((try simp only [List.cons_append, List.nil_append, List.replicate_succ, List.replicate_zero, Nat.reduceSub, List.set_cons_zero, List.set_cons_succ, DL.with_arg, DL.with_own, DL.wipeD, List.map_cons, List.map_nil, DL.toArg, DL.back2, DL.back2a, DL.back, DL.back1]); rfl)) | (with_reducible apply DL.p_t; (first | rfl | focus (simp [*]; done) | assumption)) | (with_reducible apply DL.p_f; (first | rfl | focus (simp [*]; done) | assumption)) | (with_reducible apply DL.v_fz; rfl) | (with_reducible apply DL.v_own; rfl) | (with_reducible apply DL.v_arg; rfl) | with_reducible exact DL.r_c | with_reducible apply DL.r_andB | with_reducible apply DL.r_bin | with_reducible apply DL.r_un | with_reducible apply DL.r_test | with_reducible apply DL.r_notV | with_reducible apply DL.r_and | with_reducible apply DL.r_or | with_reducible apply DL.r_not | with_reducible apply DL.r_if | with_reducible apply DL.r_chainB | with_reducible exact DL.l_nil | with_reducible apply DL.l_cons | with_reducible apply DL.r_tup | with_reducible apply DL.r_lst | with_reducible apply DL.o_some | with_reducible exact DL.o_none | with_reducible apply DL.r_sl | with_reducible exact DL.a_nil | with_reducible apply DL.a_val | with_reducible apply DL.a_ref | (with_reducible apply DL.small_of; focus (first | omega | (simp <;> omega))) | with_reducible apply DL.r_callR | with_reducible apply DL.r_call | (first | with_reducible apply i_zip | with_reducible apply r_frz | exact e_is_row_of _ _ | exact e_is_row _ | exact e_is_below _ _ | exact e_is_whole _ | assumption) | (with_reducible apply DL.f_mod; (first | assumption | omega | focus (simp; omega))) | (with_reducible apply DL.f_div; (first | assumption | omega | focus (simp; omega))) | with_reducible apply DL.f_mulI | (with_reducible apply DL.wide_lt; (first | assumption | omega | focus (simp; omega))) | rfl | (focus ((try simp only [List.cons_append, List.nil_append, List.replicate_succ, List.replicate_zero, Nat.reduceSub, List.set_cons_zero, List.set_cons_succ, DL.with_arg, DL.with_own, DL.wipeD, List.map_cons, List.map_nil, DL.toArg, DL.back2, DL.back2a, DL.back, DL.back1]); rfl); done)))
  · (repeat' (first | with_reducible apply DL.s_setI | with_reducible apply DL.s_app | with_reducible apply DL.s_ext | (with_reducible apply DL.m_arg; rfl) | (with_reducible apply DL.m_own; rfl) | (with_reducible apply DL.f_set; rfl; focus ((try simp only [List.cons_append, List.nil_append, List.replicate_succ, List.replicate_zero, Nat.reduceSub, List.set_cons_zero, List.set_cons_succ, DL.with_arg, DL.with_own, DL.wipeD, List.map_cons, List.map_nil, DL.toArg, DL.back2, DL.back2a, DL.back, DL.back1]); rfl)) | with_reducible apply DL.f_app | with_reducible apply DL.f_ext | (with_reducible apply DL.set_goal; focus ((try simp only [List.cons_append, List.nil_append, List.replicate_succ, List.replicate_zero, Nat.reduceSub, List.set_cons_zero, List.set_cons_succ, DL.with_arg, DL.with_own, DL.wipeD, List.map_cons, List.map_nil, DL.toArg, DL.back2, DL.back2a, DL.back, DL.back1]); rfl)) | with_reducible apply DL.s_seqG | with_reducible apply DL.step_b | with_reducible apply DL.k_nx | with_reducible exact DL.k_rt | with_reducible exact DL.k_ct | with_reducible exact DL.k_bk | with_reducible apply DL.s_asgG | with_reducible apply DL.s_asg | with_reducible apply DL.s_drop | with_reducible apply DL.s_ret | with_reducible apply DL.s_if | with_reducible exact DL.s_skip | (with_reducible apply DL.f_eq; (first | rfl | assumption); (first | rfl | assumption)) | (with_reducible apply DL.f_ne; (first | rfl | assumption); (first | rfl | assumption)) | with_reducible apply DL.f_addT | (with_reducible apply DL.f_ixT; assumption) | (with_reducible apply DL.f_ixL; assumption) | with_reducible apply DL.f_addL | with_reducible apply DL.s_par | with_reducible apply DL.s_for | with_reducible apply DL.i_it | with_reducible apply DL.i_r1 | with_reducible apply DL.r_lc | with_reducible apply DL.r_lc2 | with_reducible apply DL.i_enumT | with_reducible exact DL.t_yes | with_reducible apply DL.turn_e | with_reducible apply DL.g_tup | with_reducible apply DL.g_lst | with_reducible apply DL.g_cons | with_reducible exact DL.g_nil | with_reducible apply DL.g_n | (with_reducible apply DL.set_fz; rfl; focus ((try simp only [List.cons_append, List.nil_append, List.replicate_succ, List.replicate_zero, Nat.reduceSub, List.set_cons_zero, List.set_cons_succ, DL.with_arg, DL.with_own, DL.wipeD, List.map_cons, List.map_nil, DL.toArg, DL.back2, DL.back2a, DL.back, DL.back1]); rfl)) | (with_reducible apply DL.set_own; rfl; focus ((try simp only [List.cons_append, List.nil_append, List.replicate_succ, List.replicate_zero, Nat.reduceSub, List.set_cons_zero, List.set_cons_succ, DL.with_arg, DL.with_own, DL.wipeD, List.map_cons, List.map_nil, DL.toArg, DL.back2, DL.back2a, DL.back, DL.back1]); rfl)) | (with_reducible apply DL.p_t; (first | rfl | focus (simp [*]; done) | assumption)) | (with_reducible apply DL.p_f; (first | rfl | focus (simp [*]; done) | assumption)) | (with_reducible apply DL.v_fz; rfl) | (with_reducible apply DL.v_own; rfl) | (with_reducible apply DL.v_arg; rfl) | with_reducible exact DL.r_c | with_reducible apply DL.r_andB | with_reducible apply DL.r_bin | with_reducible apply DL.r_un | with_reducible apply DL.r_test | with_reducible apply DL.r_notV | with_reducible apply DL.r_and | with_reducible apply DL.r_or | with_reducible apply DL.r_not | with_reducible apply DL.r_if | with_reducible apply DL.r_chainB | with_reducible exact DL.l_nil | with_reducible apply DL.l_cons | with_reducible apply DL.r_tup | with_reducible apply DL.r_lst | with_reducible apply DL.o_some | with_reducible exact DL.o_none | with_reducible apply DL.r_sl | with_reducible exact DL.a_nil | with_reducible apply DL.a_val | with_reducible apply DL.a_ref | (with_reducible apply DL.small_of; focus (first | omega | (simp <;> omega))) | with_reducible apply DL.r_callR | with_reducible apply DL.r_call | (first | with_reducible apply i_zip | with_reducible apply r_frz | exact e_is_row_of _ _ | exact e_is_row _ | exact e_is_below _ _ | exact e_is_whole _ | assumption) | (with_reducible apply DL.f_mod; (first | assumption | omega | focus (simp; omega))) | (with_reducible apply DL.f_div; (first | assumption | omega | focus (simp; omega))) | with_reducible apply DL.f_mulI | (with_reducible apply DL.wide_lt; (first | assumption | omega | focus (simp; omega))) | rfl | (focus ((try simp only [List.cons_append, List.nil_append, List.replicate_succ, List.replicate_zero, Nat.reduceSub, List.set_cons_zero, List.set_cons_succ, DL.with_arg, DL.with_own, DL.wipeD, List.map_cons, List.map_nil, DL.toArg, DL.back2, DL.back2a, DL.back, DL.back1]); rfl); done)))
  · (repeat' (first | with_reducible apply DL.s_setI | with_reducible apply DL.s_app | with_reducible apply DL.s_ext | (with_reducible apply DL.m_arg; rfl) | (with_reducible apply DL.m_own; rfl) | (with_reducible apply DL.f_set; rfl; focus ((try simp only [List.cons_append, List.nil_append, List.replicate_succ, List.replicate_zero, Nat.reduceSub, List.set_cons_zero, List.set_cons_succ, DL.with_arg, DL.with_own, DL.wipeD, List.map_cons, List.map_nil, DL.toArg, DL.back2, DL.back2a, DL.back, DL.back1]); rfl)) | with_reducible apply DL.f_app | with_reducible apply DL.f_ext | (with_reducible apply DL.set_goal; focus ((try simp only [List.cons_append, List.nil_append, List.replicate_succ, List.replicate_zero, Nat.reduceSub, List.set_cons_zero, List.set_cons_succ, DL.with_arg, DL.with_own, DL.wipeD, List.map_cons, List.map_nil, DL.toArg, DL.back2, DL.back2a, DL.back, DL.back1]); rfl)) | with_reducible apply DL.s_seqG | with_reducible apply DL.step_b | with_reducible apply DL.k_nx | with_reducible exact DL.k_rt | with_reducible exact DL.k_ct | with_reducible exact DL.k_bk | with_reducible apply DL.s_asgG | with_reducible apply DL.s_asg | with_reducible apply DL.s_drop | with_reducible apply DL.s_ret | with_reducible apply DL.s_if | with_reducible exact DL.s_skip | (with_reducible apply DL.f_eq; (first | rfl | assumption); (first | rfl | assumption)) | (with_reducible apply DL.f_ne; (first | rfl | assumption); (first | rfl | assumption)) | with_reducible apply DL.f_addT | (with_reducible apply DL.f_ixT; assumption) | (with_reducible apply DL.f_ixL; assumption) | with_reducible apply DL.f_addL | with_reducible apply DL.s_par | with_reducible apply DL.s_for | with_reducible apply DL.i_it | with_reducible apply DL.i_r1 | with_reducible apply DL.r_lc | with_reducible apply DL.r_lc2 | with_reducible apply DL.i_enumT | with_reducible exact DL.t_yes | with_reducible apply DL.turn_e | with_reducible apply DL.g_tup | with_reducible apply DL.g_lst | with_reducible apply DL.g_cons | with_reducible exact DL.g_nil | with_reducible apply DL.g_n | (with_reducible apply DL.set_fz; rfl; focus ((try simp only [List.cons_append, List.nil_append, List.replicate_succ, List.replicate_zero, Nat.reduceSub, List.set_cons_zero, List.set_cons_succ, DL.with_arg, DL.with_own, DL.wipeD, List.map_cons, List.map_nil, DL.toArg, DL.back2, DL.back2a, DL.back, DL.back1]); rfl)) | (with_reducible apply DL.set_own; rfl; focus ((try simp only [List.cons_append, List.nil_append, List.replicate_succ, List.replicate_zero, Nat.reduceSub, List.set_cons_zero, List.set_cons_succ, DL.with_arg, DL.with_own, DL.wipeD, List.map_cons, List.map_nil, DL.toArg, DL.back2, DL.back2a, DL.back, DL.back1]); rfl)) | (with_reducible apply DL.p_t; (first | rfl | focus (simp [*]; done) | assumption)) | (with_reducible apply DL.p_f; (first | rfl | focus (simp [*]; done) | assumption)) | (with_reducible apply DL.v_fz; rfl) | (with_reducible apply DL.v_own; rfl) | (with_reducible apply DL.v_arg; rfl) | with_reducible exact DL.r_c | with_reducible apply DL.r_andB | with_reducible apply DL.r_bin | with_reducible apply DL.r_un | with_reducible apply DL.r_test | with_reducible apply DL.r_notV | with_reducible apply DL.r_and | with_reducible apply DL.r_or | with_reducible apply DL.r_not | with_reducible apply DL.r_if | with_reducible apply DL.r_chainB | with_reducible exact DL.l_nil | with_reducible apply DL.l_cons | with_reducible apply DL.r_tup | with_reducible apply DL.r_lst | with_reducible apply DL.o_some | with_reducible exact DL.o_none | with_reducible apply DL.r_sl | with_reducible exact DL.a_nil | with_reducible apply DL.a_val | with_reducible apply DL.a_ref | (with_reducible apply DL.small_of; focus (first | omega | (simp <;> omega))) | with_reducible apply DL.r_callR | with_reducible apply DL.r_call | (first | with_reducible apply i_zip | with_reducible apply r_frz | exact e_is_row_of _ _ | exact e_is_row _ | exact e_is_below _ _ | exact e_is_whole _ | assumption) | (with_reducible apply DL.f_mod; (first | assumption | omega | focus (simp; omega))) | (with_reducible apply DL.f_div; (first | assumption | omega | focus (simp; omega))) | with_reducible apply DL.f_mulI | (with_reducible apply DL.wide_lt; (first | assumption | omega | focus (simp; omega))) | rfl | (focus ((try simp only [List.cons_append, List.nil_append, List.replicate_succ, List.replicate_zero, Nat.reduceSub, List.set_cons_zero, List.set_cons_succ, DL.with_arg, DL.with_own, DL.wipeD, List.map_cons, List.map_nil, DL.toArg, DL.back2, DL.back2a, DL.back, DL.back1]); rfl); done)))
  · rfl
theorem right_c3 {p : Nat} {ls : List Ln} {n : Nat} {l : Ln} (hl : ls[n]? = some l) (s : Nat) (x0 : List D) (d1 d3 d4 d5 d6 : D) :
    compL (turnL [9] (gN 9) (dAnd (dTest (dBin fNe (dVar 9) (dVar 8))) (dTest (dBin fNe (dBin fIx (dVar 7) (dVar 9)) (dBin fIx (dVar 2) (dVar 9))))) (dVar 9)) ((List.range (p : Int).toNat).map fun (i : Nat) => PyData.int i)
      (rSt x0 d1 (.list (encN (wantsL p ls))) (.fz d3) (.fz d4) (.fz d5) (.fz d6) (.own (.lst (encN (wantsL (p + 1) (ls.set n (looseL p s l)))))) (.fz (.int (spotL s l)))) = .ok [] (rSt x0 d1 (.list (encN (wantsL p ls))) (.fz d3) (.fz d4) (.fz d5) (.fz d6) (.own (.lst (encN (wantsL (p + 1) (ls.set n (looseL p s l)))))) (.fz (.int (spotL s l)))) := by
  refine comp_none fun i hi => ?_
  have hi : i < p := by have := List.mem_range.mp hi; omega
  have hx := f_ixL (wants_at (p := (p : Int)) (ls := ls) (i := i) (by omega))
  have hy := f_ixL (wants_at (p := (p : Int) + 1) (ls := ls.set n (looseL p s l)) (i := i) (by omega))
  by_cases he : (i : Int) = spotL s l
  · have hq : fNe (.int (i : Nat)) (.int (spotL s l)) = some (.fz (.bool false)) := by
      rw [ne_int, decide_eq_true he]
      rfl
    clear hx hy
    generalize encN (wantsL p ls) = N at *
    generalize encN (wantsL (p + 1) (ls.set n (looseL p s l))) = M at *
    apply turn_1
    · focus ((try simp only [List.cons_append, List.nil_append, List.replicate_succ, List.replicate_zero, Nat.reduceSub, List.set_cons_zero, List.set_cons_succ, DL.with_arg, DL.with_own, DL.wipeD, List.map_cons, List.map_nil, DL.toArg, DL.back2, DL.back2a, DL.back, DL.back1]); rfl)
    · (repeat' (first | with_reducible apply DL.s_setI | with_reducible apply DL.s_app | with_reducible apply DL.s_ext | (with_reducible apply DL.m_arg; rfl) | (with_reducible apply DL.m_own; rfl) | (with_reducible apply DL.f_set; rfl; focus ((try simp only [List.cons_append, List.nil_append, List.replicate_succ, List.replicate_zero, Nat.reduceSub, List.set_cons_zero, List.set_cons_succ, DL.with_arg, DL.with_own, DL.wipeD, List.map_cons, List.map_nil, DL.toArg, DL.back2, DL.back2a, DL.back, DL.back1]); rfl)) | with_reducible apply DL.f_app | with_reducible apply DL.f_ext | (with_reducible apply DL.set_goal; focus ((try simp only [List.cons_append, List.nil_append, List.replicate_succ, List.replicate_zero, Nat.reduceSub, List.set_cons_zero, List.set_cons_succ, DL.with_arg, DL.with_own, DL.wipeD, List.map_cons, List.map_nil, DL.toArg, DL.back2, DL.back2a, DL.back, DL.back1]); rfl)) | with_reducible apply DL.s_seqG | with_reducible apply DL.step_b | with_reducible apply DL.k_nx | with_reducible exact DL.k_rt | with_reducible exact DL.k_ct | with_reducible exact DL.k_bk | with_reducible apply DL.s_asgG | with_reducible apply DL.s_asg | with_reducible apply DL.s_drop | with_reducible apply DL.s_ret | with_reducible apply DL.s_if | with_reducible exact DL.s_skip | (with_reducible apply DL.f_eq; (first | rfl | assumption); (first | rfl | assumption)) | (with_reducible apply DL.f_ne; (first | rfl | assumption); (first | rfl | assumption)) | with_reducible apply DL.f_addT | (with_reducible apply DL.f_ixT; assumption) | (with_reducible apply DL.f_ixL; assumption) | with_reducible apply DL.f_addL | with_reducible apply DL.s_par | with_reducible apply DL.s_for | with_reducible apply DL.i_it | with_reducible apply DL.i_r1 | with_reducible apply DL.r_lc | with_reducible apply DL.r_lc2 | with_reducible apply DL.i_enumT | with_reducible exact DL.t_yes | with_reducible apply DL.turn_e | with_reducible apply DL.g_tup | with_reducible apply DL.g_lst | with_reducible apply DL.g_cons | with_reducible exact DL.g_nil | with_reducible apply DL.g_n | (with_reducible apply DL.set_fz; rfl; focus ((try simp only [List.cons_append, List.nil_append, List.replicate_succ, List.replicate_zero, Nat.reduceSub, List.set_cons_zero, List.set_cons_succ, DL.with_arg, DL.with_own, DL.wipeD, List.map_cons, List.map_nil, DL.toArg, DL.back2, DL.back2a, DL.back, DL.back1]); rfl)) | (with_reducible apply DL.set_own; rfl; focus ((try simp only [List.cons_append, List.nil_append, List.replicate_succ, List.replicate_zero, Nat.reduceSub, List.set_cons_zero, List.set_cons_succ, DL.with_arg, DL.with_own, DL.wipeD, List.map_cons, List.map_nil, DL.toArg, DL.back2, DL.back2a, DL.back, DL.back1]); rfl)) | (with_reducible apply DL.p_t; (first | rfl | focus (simp [*]; done) | assumption)) | (with_reducible apply DL.p_f; (first | rfl | focus (simp [*]; done) | assumption)) | (with_reducible apply DL.v_fz; rfl) | (with_reducible apply DL.v_own; rfl) | (with_reducible apply DL.v_arg; rfl) | with_reducible exact DL.r_c | with_reducible apply DL.r_andB | with_reducible apply DL.r_bin | with_reducible apply DL.r_un | with_reducible apply DL.r_test | with_reducible apply DL.r_notV | with_reducible apply DL.r_and | with_reducible apply DL.r_or | with_reducible apply DL.r_not | with_reducible apply DL.r_if | with_reducible apply DL.r_chainB | with_reducible exact DL.l_nil | with_reducible apply DL.l_cons | with_reducible apply DL.r_tup | with_reducible apply DL.r_lst | with_reducible apply DL.o_some | with_reducible exact DL.o_none | with_reducible apply DL.r_sl | with_reducible exact DL.a_nil | with_reducible apply DL.a_val | with_reducible apply DL.a_ref | (with_reducible apply DL.small_of; focus (first | omega | (simp <;> omega))) | with_reducible apply DL.r_callR | with_reducible apply DL.r_call | (first | with_reducible apply i_zip | with_reducible apply r_frz | exact e_is_row_of _ _ | exact e_is_row _ | exact e_is_below _ _ | exact e_is_whole _ | assumption) | (with_reducible apply DL.f_mod; (first | assumption | omega | focus (simp; omega))) | (with_reducible apply DL.f_div; (first | assumption | omega | focus (simp; omega))) | with_reducible apply DL.f_mulI | (with_reducible apply DL.wide_lt; (first | assumption | omega | focus (simp; omega))) | rfl | (focus ((try simp only [List.cons_append, List.nil_append, List.replicate_succ, List.replicate_zero, Nat.reduceSub, List.set_cons_zero, List.set_cons_succ, DL.with_arg, DL.with_own, DL.wipeD, List.map_cons, List.map_nil, DL.toArg, DL.back2, DL.back2a, DL.back, DL.back1]); rfl); done)))
    · (repeat' (first | with_reducible apply DL.s_setI | with_reducible apply DL.s_app | with_reducible apply DL.s_ext | (with_reducible apply DL.m_arg; rfl) | (with_reducible apply DL.m_own; rfl) | (with_reducible apply DL.f_set; rfl; focus ((try simp only [List.cons_append, List.nil_append, List.replicate_succ, List.replicate_zero, Nat.reduceSub, List.set_cons_zero, List.set_cons_succ, DL.with_arg, DL.with_own, DL.wipeD, List.map_cons, List.map_nil, DL.toArg, DL.back2, DL.back2a, DL.back, DL.back1]); rfl)) | with_reducible apply DL.f_app | with_reducible apply DL.f_ext | (with_reducible apply DL.set_goal; focus ((try simp only [List.cons_append, List.nil_append, List.replicate_succ, List.replicate_zero, Nat.reduceSub, List.set_cons_zero, List.set_cons_succ, DL.with_arg, DL.with_own, DL.wipeD, List.map_cons, List.map_nil, DL.toArg, DL.back2, DL.back2a, DL.back, DL.back1]); rfl)) | with_reducible apply DL.s_seqG | with_reducible apply DL.step_b | with_reducible apply DL.k_nx | with_reducible exact DL.k_rt | with_reducible exact DL.k_ct | with_reducible exact DL.k_bk | with_reducible apply DL.s_asgG | with_reducible apply DL.s_asg | with_reducible apply DL.s_drop | with_reducible apply DL.s_ret | with_reducible apply DL.s_if | with_reducible exact DL.s_skip | (with_reducible apply DL.f_eq; (first | rfl | assumption); (first | rfl | assumption)) | (with_reducible apply DL.f_ne; (first | rfl | assumption); (first | rfl | assumption)) | with_reducible apply DL.f_addT | (with_reducible apply DL.f_ixT; assumption) | (with_reducible apply DL.f_ixL; assumption) | with_reducible apply DL.f_addL | with_reducible apply DL.s_par | with_reducible apply DL.s_for | with_reducible apply DL.i_it | with_reducible apply DL.i_r1 | with_reducible apply DL.r_lc | with_reducible apply DL.r_lc2 | with_reducible apply DL.i_enumT | with_reducible exact DL.t_yes | with_reducible apply DL.turn_e | with_reducible apply DL.g_tup | with_reducible apply DL.g_lst | with_reducible apply DL.g_cons | with_reducible exact DL.g_nil | with_reducible apply DL.g_n | (with_reducible apply DL.set_fz; rfl; focus ((try simp only [List.cons_append, List.nil_append, List.replicate_succ, List.replicate_zero, Nat.reduceSub, List.set_cons_zero, List.set_cons_succ, DL.with_arg, DL.with_own, DL.wipeD, List.map_cons, List.map_nil, DL.toArg, DL.back2, DL.back2a, DL.back, DL.back1]); rfl)) | (with_reducible apply DL.set_own; rfl; focus ((try simp only [List.cons_append, List.nil_append, List.replicate_succ, List.replicate_zero, Nat.reduceSub, List.set_cons_zero, List.set_cons_succ, DL.with_arg, DL.with_own, DL.wipeD, List.map_cons, List.map_nil, DL.toArg, DL.back2, DL.back2a, DL.back, DL.back1]); rfl)) | (with_reducible apply DL.p_t; (first | rfl | focus (simp [*]; done) | assumption)) | (with_reducible apply DL.p_f; (first | rfl | focus (simp [*]; done) | assumption)) | (with_reducible apply DL.v_fz; rfl) | (with_reducible apply DL.v_own; rfl) | (with_reducible apply DL.v_arg; rfl) | with_reducible exact DL.r_c | with_reducible apply DL.r_andB | with_reducible apply DL.r_bin | with_reducible apply DL.r_un | with_reducible apply DL.r_test | with_reducible apply DL.r_notV | with_reducible apply DL.r_and | with_reducible apply DL.r_or | with_reducible apply DL.r_not | with_reducible apply DL.r_if | with_reducible apply DL.r_chainB | with_reducible exact DL.l_nil | with_reducible apply DL.l_cons | with_reducible apply DL.r_tup | with_reducible apply DL.r_lst | with_reducible apply DL.o_some | with_reducible exact DL.o_none | with_reducible apply DL.r_sl | with_reducible exact DL.a_nil | with_reducible apply DL.a_val | with_reducible apply DL.a_ref | (with_reducible apply DL.small_of; focus (first | omega | (simp <;> omega))) | with_reducible apply DL.r_callR | with_reducible apply DL.r_call | (first | with_reducible apply i_zip | with_reducible apply r_frz | exact e_is_row_of _ _ | exact e_is_row _ | exact e_is_below _ _ | exact e_is_whole _ | assumption) | (with_reducible apply DL.f_mod; (first | assumption | omega | focus (simp; omega))) | (with_reducible apply DL.f_div; (first | assumption | omega | focus (simp; omega))) | with_reducible apply DL.f_mulI | (with_reducible apply DL.wide_lt; (first | assumption | omega | focus (simp; omega))) | rfl | (focus ((try simp only [List.cons_append, List.nil_append, List.replicate_succ, List.replicate_zero, Nat.reduceSub, List.set_cons_zero, List.set_cons_succ, DL.with_arg, DL.with_own, DL.wipeD, List.map_cons, List.map_nil, DL.toArg, DL.back2, DL.back2a, DL.back, DL.back1]); rfl); done)))
    · (repeat' (first | with_reducible apply DL.s_setI | with_reducible apply DL.s_app | with_reducible apply DL.s_ext | (with_reducible apply DL.m_arg; rfl) | (with_reducible apply DL.m_own; rfl) | (with_reducible apply DL.f_set; rfl; focus ((try simp only [List.cons_append, List.nil_append, List.replicate_succ, List.replicate_zero, Nat.reduceSub, List.set_cons_zero, List.set_cons_succ, DL.with_arg, DL.with_own, DL.wipeD, List.map_cons, List.map_nil, DL.toArg, DL.back2, DL.back2a, DL.back, DL.back1]); rfl)) | with_reducible apply DL.f_app | with_reducible apply DL.f_ext | (with_reducible apply DL.set_goal; focus ((try simp only [List.cons_append, List.nil_append, List.replicate_succ, List.replicate_zero, Nat.reduceSub, List.set_cons_zero, List.set_cons_succ, DL.with_arg, DL.with_own, DL.wipeD, List.map_cons, List.map_nil, DL.toArg, DL.back2, DL.back2a, DL.back, DL.back1]); rfl)) | with_reducible apply DL.s_seqG | with_reducible apply DL.step_b | with_reducible apply DL.k_nx | with_reducible exact DL.k_rt | with_reducible exact DL.k_ct | with_reducible exact DL.k_bk | with_reducible apply DL.s_asgG | with_reducible apply DL.s_asg | with_reducible apply DL.s_drop | with_reducible apply DL.s_ret | with_reducible apply DL.s_if | with_reducible exact DL.s_skip | (with_reducible apply DL.f_eq; (first | rfl | assumption); (first | rfl | assumption)) | (with_reducible apply DL.f_ne; (first | rfl | assumption); (first | rfl | assumption)) | with_reducible apply DL.f_addT | (with_reducible apply DL.f_ixT; assumption) | (with_reducible apply DL.f_ixL; assumption) | with_reducible apply DL.f_addL | with_reducible apply DL.s_par | with_reducible apply DL.s_for | with_reducible apply DL.i_it | with_reducible apply DL.i_r1 | with_reducible apply DL.r_lc | with_reducible apply DL.r_lc2 | with_reducible apply DL.i_enumT | with_reducible exact DL.t_yes | with_reducible apply DL.turn_e | with_reducible apply DL.g_tup | with_reducible apply DL.g_lst | with_reducible apply DL.g_cons | with_reducible exact DL.g_nil | with_reducible apply DL.g_n | (with_reducible apply DL.set_fz; rfl; focus ((try simp only [List.cons_append, List.nil_append, List.replicate_succ, List.replicate_zero, Nat.reduceSub, List.set_cons_zero, List.set_cons_succ, DL.with_arg, DL.with_own, DL.wipeD, List.map_cons, List.map_nil, DL.toArg, DL.back2, DL.back2a, DL.back, DL.back1]); rfl)) | (with_reducible apply DL.set_own; rfl; focus ((try simp only [List.cons_append, List.nil_append, List.replicate_succ, List.replicate_zero, Nat.reduceSub, List.set_cons_zero, List.set_cons_succ, DL.with_arg, DL.with_own, DL.wipeD, List.map_cons, List.map_nil, DL.toArg, DL.back2, DL.back2a, DL.back, DL.back1]); rfl)) | (with_reducible apply DL.p_t; (first | rfl | focus (simp [*]; done) | assumption)) | (with_reducible apply DL.p_f; (first | rfl | focus (simp [*]; done) | assumption)) | (with_reducible apply DL.v_fz; rfl) | (with_reducible apply DL.v_own; rfl) | (with_reducible apply DL.v_arg; rfl) | with_reducible exact DL.r_c | with_reducible apply DL.r_andB | with_reducible apply DL.r_bin | with_reducible apply DL.r_un | with_reducible apply DL.r_test | with_reducible apply DL.r_notV | with_reducible apply DL.r_and | with_reducible apply DL.r_or | with_reducible apply DL.r_not | with_reducible apply DL.r_if | with_reducible apply DL.r_chainB | with_reducible exact DL.l_nil | with_reducible apply DL.l_cons | with_reducible apply DL.r_tup | with_reducible apply DL.r_lst | with_reducible apply DL.o_some | with_reducible exact DL.o_none | with_reducible apply DL.r_sl | with_reducible exact DL.a_nil | with_reducible apply DL.a_val | with_reducible apply DL.a_ref | (with_reducible apply DL.small_of; focus (first | omega | (simp <;> omega))) | with_reducible apply DL.r_callR | with_reducible apply DL.r_call | (first | with_reducible apply i_zip | with_reducible apply r_frz | exact e_is_row_of _ _ | exact e_is_row _ | exact e_is_below _ _ | exact e_is_whole _ | assumption) | (with_reducible apply DL.f_mod; (first | assumption | omega | focus (simp; omega))) | (with_reducible apply DL.f_div; (first | assumption | omega | focus (simp; omega))) | with_reducible apply DL.f_mulI | (with_reducible apply DL.wide_lt; (first | assumption | omega | focus (simp; omega))) | rfl | (focus ((try simp only [List.cons_append, List.nil_append, List.replicate_succ, List.replicate_zero, Nat.reduceSub, List.set_cons_zero, List.set_cons_succ, DL.with_arg, DL.with_own, DL.wipeD, List.map_cons, List.map_nil, DL.toArg, DL.back2, DL.back2a, DL.back, DL.back1]); rfl); done)))
    · rfl
  · have hq : fNe (.int (i : Nat)) (.int (spotL s l)) = some (.fz (.bool true)) := by
      rw [ne_int, decide_eq_false he]
      rfl
    rw [loose_other hl s (show (i : Int) < p by omega) he] at hy
    generalize wantC (coms ls i) = w at *
    have hq2 : fNe (.int w) (.int w) = some (.fz (.bool false)) := by
      rw [ne_int, decide_eq_true rfl]
      rfl
    generalize encN (wantsL p ls) = N at *
    generalize encN (wantsL (p + 1) (ls.set n (looseL p s l))) = M at *
    apply turn_1
    · focus ((try simp only [List.cons_append, List.nil_append, List.replicate_succ, List.replicate_zero, Nat.reduceSub, List.set_cons_zero, List.set_cons_succ, DL.with_arg, DL.with_own, DL.wipeD, List.map_cons, List.map_nil, DL.toArg, DL.back2, DL.back2a, DL.back, DL.back1]); rfl)
    · (repeat' (first | with_reducible apply DL.s_setI | with_reducible apply DL.s_app | with_reducible apply DL.s_ext | (with_reducible apply DL.m_arg; rfl) | (with_reducible apply DL.m_own; rfl) | (with_reducible apply DL.f_set; rfl; focus ((try simp only [List.cons_append, List.nil_append, List.replicate_succ, List.replicate_zero, Nat.reduceSub, List.set_cons_zero, List.set_cons_succ, DL.with_arg, DL.with_own, DL.wipeD, List.map_cons, List.map_nil, DL.toArg, DL.back2, DL.back2a, DL.back, DL.back1]); rfl)) | with_reducible apply DL.f_app | with_reducible apply DL.f_ext | (with_reducible apply DL.set_goal; focus ((try simp only [List.cons_append, List.nil_append, List.replicate_succ, List.replicate_zero, Nat.reduceSub, List.set_cons_zero, List.set_cons_succ, DL.with_arg, DL.with_own, DL.wipeD, List.map_cons, List.map_nil, DL.toArg, DL.back2, DL.back2a, DL.back, DL.back1]); rfl)) | with_reducible apply DL.s_seqG | with_reducible apply DL.step_b | with_reducible apply DL.k_nx | with_reducible exact DL.k_rt | with_reducible exact DL.k_ct | with_reducible exact DL.k_bk | with_reducible apply DL.s_asgG | with_reducible apply DL.s_asg | with_reducible apply DL.s_drop | with_reducible apply DL.s_ret | with_reducible apply DL.s_if | with_reducible exact DL.s_skip | (with_reducible apply DL.f_eq; (first | rfl | assumption); (first | rfl | assumption)) | (with_reducible apply DL.f_ne; (first | rfl | assumption); (first | rfl | assumption)) | with_reducible apply DL.f_addT | (with_reducible apply DL.f_ixT; assumption) | (with_reducible apply DL.f_ixL; assumption) | with_reducible apply DL.f_addL | with_reducible apply DL.s_par | with_reducible apply DL.s_for | with_reducible apply DL.i_it | with_reducible apply DL.i_r1 | with_reducible apply DL.r_lc | with_reducible apply DL.r_lc2 | with_reducible apply DL.i_enumT | with_reducible exact DL.t_yes | with_reducible apply DL.turn_e | with_reducible apply DL.g_tup | with_reducible apply DL.g_lst | with_reducible apply DL.g_cons | with_reducible exact DL.g_nil | with_reducible apply DL.g_n | (with_reducible apply DL.set_fz; rfl; focus ((try simp only [List.cons_append, List.nil_append, List.replicate_succ, List.replicate_zero, Nat.reduceSub, List.set_cons_zero, List.set_cons_succ, DL.with_arg, DL.with_own, DL.wipeD, List.map_cons, List.map_nil, DL.toArg, DL.back2, DL.back2a, DL.back, DL.back1]); rfl)) | (with_reducible apply DL.set_own; rfl; focus ((try simp only [List.cons_append, List.nil_append, List.replicate_succ, List.replicate_zero, Nat.reduceSub, List.set_cons_zero, List.set_cons_succ, DL.with_arg, DL.with_own, DL.wipeD, List.map_cons, List.map_nil, DL.toArg, DL.back2, DL.back2a, DL.back, DL.back1]); rfl)) | (with_reducible apply DL.p_t; (first | rfl | focus (simp [*]; done) | assumption)) | (with_reducible apply DL.p_f; (first | rfl | focus (simp [*]; done) | assumption)) | (with_reducible apply DL.v_fz; rfl) | (with_reducible apply DL.v_own; rfl) | (with_reducible apply DL.v_arg; rfl) | with_reducible exact DL.r_c | with_reducible apply DL.r_andB | with_reducible apply DL.r_bin | with_reducible apply DL.r_un | with_reducible apply DL.r_test | with_reducible apply DL.r_notV | with_reducible apply DL.r_and | with_reducible apply DL.r_or | with_reducible apply DL.r_not | with_reducible apply DL.r_if | with_reducible apply DL.r_chainB | with_reducible exact DL.l_nil | with_reducible apply DL.l_cons | with_reducible apply DL.r_tup | with_reducible apply DL.r_lst | with_reducible apply DL.o_some | with_reducible exact DL.o_none | with_reducible apply DL.r_sl | with_reducible exact DL.a_nil | with_reducible apply DL.a_val | with_reducible apply DL.a_ref | (with_reducible apply DL.small_of; focus (first | omega | (simp <;> omega))) | with_reducible apply DL.r_callR | with_reducible apply DL.r_call | (first | with_reducible apply i_zip | with_reducible apply r_frz | exact e_is_row_of _ _ | exact e_is_row _ | exact e_is_below _ _ | exact e_is_whole _ | assumption) | (with_reducible apply DL.f_mod; (first | assumption | omega | focus (simp; omega))) | (with_reducible apply DL.f_div; (first | assumption | omega | focus (simp; omega))) | with_reducible apply DL.f_mulI | (with_reducible apply DL.wide_lt; (first | assumption | omega | focus (simp; omega))) | rfl | (focus ((try simp only [List.cons_append, List.nil_append, List.replicate_succ, List.replicate_zero, Nat.reduceSub, List.set_cons_zero, List.set_cons_succ, DL.with_arg, DL.with_own, DL.wipeD, List.map_cons, List.map_nil, DL.toArg, DL.back2, DL.back2a, DL.back, DL.back1]); rfl); done)))
    · (repeat' (first | with_reducible apply DL.s_setI | with_reducible apply DL.s_app | with_reducible apply DL.s_ext | (with_reducible apply DL.m_arg; rfl) | (with_reducible apply DL.m_own; rfl) | (with_reducible apply DL.f_set; rfl; focus ((try simp only [List.cons_append, List.nil_append, List.replicate_succ, List.replicate_zero, Nat.reduceSub, List.set_cons_zero, List.set_cons_succ, DL.with_arg, DL.with_own, DL.wipeD, List.map_cons, List.map_nil, DL.toArg, DL.back2, DL.back2a, DL.back, DL.back1]); rfl)) | with_reducible apply DL.f_app | with_reducible apply DL.f_ext | (with_reducible apply DL.set_goal; focus ((try simp only [List.cons_append, List.nil_append, List.replicate_succ, List.replicate_zero, Nat.reduceSub, List.set_cons_zero, List.set_cons_succ, DL.with_arg, DL.with_own, DL.wipeD, List.map_cons, List.map_nil, DL.toArg, DL.back2, DL.back2a, DL.back, DL.back1]); rfl)) | with_reducible apply DL.s_seqG | with_reducible apply DL.step_b | with_reducible apply DL.k_nx | with_reducible exact DL.k_rt | with_reducible exact DL.k_ct | with_reducible exact DL.k_bk | with_reducible apply DL.s_asgG | with_reducible apply DL.s_asg | with_reducible apply DL.s_drop | with_reducible apply DL.s_ret | with_reducible apply DL.s_if | with_reducible exact DL.s_skip | (with_reducible apply DL.f_eq; (first | rfl | assumption); (first | rfl | assumption)) | (with_reducible apply DL.f_ne; (first | rfl | assumption); (first | rfl | assumption)) | with_reducible apply DL.f_addT | (with_reducible apply DL.f_ixT; assumption) | (with_reducible apply DL.f_ixL; assumption) | with_reducible apply DL.f_addL | with_reducible apply DL.s_par | with_reducible apply DL.s_for | with_reducible apply DL.i_it | with_reducible apply DL.i_r1 | with_reducible apply DL.r_lc | with_reducible apply DL.r_lc2 | with_reducible apply DL.i_enumT | with_reducible exact DL.t_yes | with_reducible apply DL.turn_e | with_reducible apply DL.g_tup | with_reducible apply DL.g_lst | with_reducible apply DL.g_cons | with_reducible exact DL.g_nil | with_reducible apply DL.g_n | (with_reducible apply DL.set_fz; rfl; focus ((try simp only [List.cons_append, List.nil_append, List.replicate_succ, List.replicate_zero, Nat.reduceSub, List.set_cons_zero, List.set_cons_succ, DL.with_arg, DL.with_own, DL.wipeD, List.map_cons, List.map_nil, DL.toArg, DL.back2, DL.back2a, DL.back, DL.back1]); rfl)) | (with_reducible apply DL.set_own; rfl; focus ((try simp only [List.cons_append, List.nil_append, List.replicate_succ, List.replicate_zero, Nat.reduceSub, List.set_cons_zero, List.set_cons_succ, DL.with_arg, DL.with_own, DL.wipeD, List.map_cons, List.map_nil, DL.toArg, DL.back2, DL.back2a, DL.back, DL.back1]); rfl)) | (with_reducible apply DL.p_t; (first | rfl | focus (simp [*]; done) | assumption)) | (with_reducible apply DL.p_f; (first | rfl | focus (simp [*]; done) | assumption)) | (with_reducible apply DL.v_fz; rfl) | (with_reducible apply DL.v_own; rfl) | (with_reducible apply DL.v_arg; rfl) | with_reducible exact DL.r_c | with_reducible apply DL.r_andB | with_reducible apply DL.r_bin | with_reducible apply DL.r_un | with_reducible apply DL.r_test | with_reducible apply DL.r_notV | with_reducible apply DL.r_and | with_reducible apply DL.r_or | with_reducible apply DL.r_not | with_reducible apply DL.r_if | with_reducible apply DL.r_chainB | with_reducible exact DL.l_nil | with_reducible apply DL.l_cons | with_reducible apply DL.r_tup | with_reducible apply DL.r_lst | with_reducible apply DL.o_some | with_reducible exact DL.o_none | with_reducible apply DL.r_sl | with_reducible exact DL.a_nil | with_reducible apply DL.a_val | with_reducible apply DL.a_ref | (with_reducible apply DL.small_of; focus (first | omega | (simp <;> omega))) | with_reducible apply DL.r_callR | with_reducible apply DL.r_call | (first | with_reducible apply i_zip | with_reducible apply r_frz | exact e_is_row_of _ _ | exact e_is_row _ | exact e_is_below _ _ | exact e_is_whole _ | assumption) | (with_reducible apply DL.f_mod; (first | assumption | omega | focus (simp; omega))) | (with_reducible apply DL.f_div; (first | assumption | omega | focus (simp; omega))) | with_reducible apply DL.f_mulI | (with_reducible apply DL.wide_lt; (first | assumption | omega | focus (simp; omega))) | rfl | (focus ((try simp only [List.cons_append, List.nil_append, List.replicate_succ, List.replicate_zero, Nat.reduceSub, List.set_cons_zero, List.set_cons_succ, DL.with_arg, DL.with_own, DL.wipeD, List.map_cons, List.map_nil, DL.toArg, DL.back2, DL.back2a, DL.back, DL.back1]); rfl); done)))
    · (repeat' (first | with_reducible apply DL.s_setI | with_reducible apply DL.s_app | with_reducible apply DL.s_ext | (with_reducible apply DL.m_arg; rfl) | (with_reducible apply DL.m_own; rfl) | (with_reducible apply DL.f_set; rfl; focus ((try simp only [List.cons_append, List.nil_append, List.replicate_succ, List.replicate_zero, Nat.reduceSub, List.set_cons_zero, List.set_cons_succ, DL.with_arg, DL.with_own, DL.wipeD, List.map_cons, List.map_nil, DL.toArg, DL.back2, DL.back2a, DL.back, DL.back1]); rfl)) | with_reducible apply DL.f_app | with_reducible apply DL.f_ext | (with_reducible apply DL.set_goal; focus ((try simp only [List.cons_append, List.nil_append, List.replicate_succ, List.replicate_zero, Nat.reduceSub, List.set_cons_zero, List.set_cons_succ, DL.with_arg, DL.with_own, DL.wipeD, List.map_cons, List.map_nil, DL.toArg, DL.back2, DL.back2a, DL.back, DL.back1]); rfl)) | with_reducible apply DL.s_seqG | with_reducible apply DL.step_b | with_reducible apply DL.k_nx | with_reducible exact DL.k_rt | with_reducible exact DL.k_ct | with_reducible exact DL.k_bk | with_reducible apply DL.s_asgG | with_reducible apply DL.s_asg | with_reducible apply DL.s_drop | with_reducible apply DL.s_ret | with_reducible apply DL.s_if | with_reducible exact DL.s_skip | (with_reducible apply DL.f_eq; (first | rfl | assumption); (first | rfl | assumption)) | (with_reducible apply DL.f_ne; (first | rfl | assumption); (first | rfl | assumption)) | with_reducible apply DL.f_addT | (with_reducible apply DL.f_ixT; assumption) | (with_reducible apply DL.f_ixL; assumption) | with_reducible apply DL.f_addL | with_reducible apply DL.s_par | with_reducible apply DL.s_for | with_reducible apply DL.i_it | with_reducible apply DL.i_r1 | with_reducible apply DL.r_lc | with_reducible apply DL.r_lc2 | with_reducible apply DL.i_enumT | with_reducible exact DL.t_yes | with_reducible apply DL.turn_e | with_reducible apply DL.g_tup | with_reducible apply DL.g_lst | with_reducible apply DL.g_cons | with_reducible exact DL.g_nil | with_reducible apply DL.g_n | (with_reducible apply DL.set_fz; rfl; focus ((try simp only [List.cons_append, List.nil_append, List.replicate_succ, List.replicate_zero, Nat.reduceSub, List.set_cons_zero, List.set_cons_succ, DL.with_arg, DL.with_own, DL.wipeD, List.map_cons, List.map_nil, DL.toArg, DL.back2, DL.back2a, DL.back, DL.back1]); rfl)) | (with_reducible apply DL.set_own; rfl; focus ((try simp only [List.cons_append, List.nil_append, List.replicate_succ, List.replicate_zero, Nat.reduceSub, List.set_cons_zero, List.set_cons_succ, DL.with_arg, DL.with_own, DL.wipeD, List.map_cons, List.map_nil, DL.toArg, DL.back2, DL.back2a, DL.back, DL.back1]); rfl)) | (with_reducible apply DL.p_t; (first | rfl | focus (simp [*]; done) | assumption)) | (with_reducible apply DL.p_f; (first | rfl | focus (simp [*]; done) | assumption)) | (with_reducible apply DL.v_fz; rfl) | (with_reducible apply DL.v_own; rfl) | (with_reducible apply DL.v_arg; rfl) | with_reducible exact DL.r_c | with_reducible apply DL.r_andB | with_reducible apply DL.r_bin | with_reducible apply DL.r_un | with_reducible apply DL.r_test | with_reducible apply DL.r_notV | with_reducible apply DL.r_and | with_reducible apply DL.r_or | with_reducible apply DL.r_not | with_reducible apply DL.r_if | with_reducible apply DL.r_chainB | with_reducible exact DL.l_nil | with_reducible apply DL.l_cons | with_reducible apply DL.r_tup | with_reducible apply DL.r_lst | with_reducible apply DL.o_some | with_reducible exact DL.o_none | with_reducible apply DL.r_sl | with_reducible exact DL.a_nil | with_reducible apply DL.a_val | with_reducible apply DL.a_ref | (with_reducible apply DL.small_of; focus (first | omega | (simp <;> omega))) | with_reducible apply DL.r_callR | with_reducible apply DL.r_call | (first | with_reducible apply i_zip | with_reducible apply r_frz | exact e_is_row_of _ _ | exact e_is_row _ | exact e_is_below _ _ | exact e_is_whole _ | assumption) | (with_reducible apply DL.f_mod; (first | assumption | omega | focus (simp; omega))) | (with_reducible apply DL.f_div; (first | assumption | omega | focus (simp; omega))) | with_reducible apply DL.f_mulI | (with_reducible apply DL.wide_lt; (first | assumption | omega | focus (simp; omega))) | rfl | (focus ((try simp only [List.cons_append, List.nil_append, List.replicate_succ, List.replicate_zero, Nat.reduceSub, List.set_cons_zero, List.set_cons_succ, DL.with_arg, DL.with_own, DL.wipeD, List.map_cons, List.map_nil, DL.toArg, DL.back2, DL.back2a, DL.back, DL.back1]); rfl); done)))
    · rfl

theorem zipN_len (xs ys : List Int) : (zipD (encN xs) (encN ys)).length ≤ xs.length := by
  rw [zipD_len, List.length_map]
  exact Nat.min_le_left _ _
set_option maxHeartbeats 0 in
theorem e_right {b : Nat} {r : Rl} (h : RlOk b r) (hb : b ≤ 90000) {p : Nat} {ls : List Ln} (hw : OkW p ls) (hp0 : 0 < p) (hp1 : p ≤ 999) (hl0 : 0 < ls.length) (hl1 : ls.length ≤ 100) (hn : ∀ l ∈ ls, l.2.2 ≠ 110) :
    ∃ r', d__law_right [.arg (.lst (encR r)), .fz (encW p ls)] = .ok (.fz (.bool true)) [.arg (.lst (encR r')), .no] ∧ RlOk (b + 10) r' := by
  have hlen : (ls.map encL).length = ls.length := List.length_map ..
  have c0 := e_wants p ls hw (by omega)
  obtain ⟨r1, e1, h1⟩ := e_line_right h (by omega) hw hp0 (by omega) hl1 hn
  obtain ⟨v2, r2, e2, a2, b2, h2⟩ := e_draw h1 (by omega) ((ls.map encL).length : Nat) (by omega) (by omega)
  obtain ⟨v3, r3, e3, a3, b3, h3⟩ := e_draw h2 (by omega) 2 (by decide) (by decide)
  obtain ⟨v4, r4, e4, a4, b4, h4⟩ := e_draw h3 (by omega) 3 (by decide) (by decide)
  obtain ⟨v5, r5, e5, a5, b5, h5⟩ := e_draw h4 (by omega) 3 (by decide) (by decide)
  obtain ⟨n, rfl⟩ := Int.eq_ofNat_of_zero_le a2
  obtain ⟨s, rfl⟩ := Int.eq_ofNat_of_zero_le a3
  have hnl : n < ls.length := by omega
  have hs : s = 0 ∨ s = 1 := by omega
  have hl : ls[n]? = some ls[n] := List.getElem?_eq_getElem hnl
  generalize ls[n] = l at hl
  have hlk := hw.ok l (List.mem_of_getElem? hl)
  have hx := at_enc hl
  obtain ⟨c, hc, x4⟩ := ix_str (z := ("abc" : PySem.Str)) (by decide +kernel) a4 b4
  obtain ⟨c', hc', x5⟩ := ix_str (z := ("abc" : PySem.Str)) (by decide +kernel) a5 b5
  have hc := chars_abc c hc
  have hc' := chars_abc c' hc'
  have hq1 := right_c1 hw hn hl (by omega) (encR r3) (.int (s : Nat))
  have hq2 := right_c2 (p := p) (ls := ls) c c' (encR r5) (encW p ls) (.int (n : Nat)) (.int (s : Nat)) (.str ⟨#[c]⟩) (.str ⟨#[c']⟩)
  have hq3 := right_c3 (p := p) hl s (encR r5) (encW p ls) (.int (n : Nat)) (.int (s : Nat)) (.str ⟨#[c]⟩) (.str ⟨#[c']⟩)
  have hwm := hw.mrg (c := c) hc'
  have c5 := e_merged p ls c c' hw hc hc'
  have c6 := e_wants p (ls.map (mergeL c c')) hwm (by omega)
  have hzk : okL (p + 1) (looseL p s l) := okL_loose hlk (by omega) s
  have hwz := hw.up.set n hzk
  have c7 := e_loosened p ls n s l hw hl hs
  have c8 := e_wants (p + 1) (ls.set n (looseL p s l)) hwz (by omega)
  have y1 : fSum (.list (encN (wantsL p ls))) = some (.fz (.int (wantsL p ls).sum)) := by
    show (intsOf ((wantsL p ls).map PyData.int)).map _ = _
    rw [intsOf_map]
    rfl
  have y3 : fNe (.int ((wantsL p ls).sum % 2)) (.int 0) = some (.fz (.bool false)) := by
    rw [sum_even hw.ok]
    rfl
  have n4 : fNe (.list []) (.list []) = some (.fz (.bool false)) := rfl
  have n5 : fEq (.list []) (.list []) = some (.fz (.bool true)) := rfl
  have hsp0 : 0 ≤ spotL s l ∧ spotL s l < p := by
    unfold spotL
    split
    · exact ⟨hlk.1, hlk.2.1⟩
    · exact ⟨hlk.2.2.1, hlk.2.2.2.1⟩
  have hsp : fIx (encL l) (.int (s : Nat)) = some (.fz (.int (spotL s l))) := by
    rcases hs with rfl | rfl <;> rfl
  have hdf := loose_spot hl s hsp0.2
  have hnw := loose_new hw hl s
  obtain ⟨hx7, hx2⟩ : fIx (.list (encN (wantsL (p + 1) (ls.set n (looseL p s l))))) (.int (spotL s l)) = some (.fz (.int (wantC (coms (ls.set n (looseL p s l)) (spotL s l))))) ∧ fIx (.list (encN (wantsL p ls))) (.int (spotL s l)) = some (.fz (.int (wantC (coms ls (spotL s l))))) := by
    obtain ⟨j, hj⟩ := Int.eq_ofNat_of_zero_le hsp0.1
    have hjp := hsp0.2
    rw [hj] at hjp ⊢
    exact ⟨f_ixL (wants_at (by omega)), f_ixL (wants_at (by omega))⟩
  have hxp : fIx (.list (encN (wantsL (p + 1) (ls.set n (looseL p s l))))) (.int (p : Nat)) = some (.fz (.int 1)) := by
    have := f_ixL (wants_at (p := (p : Int) + 1) (ls := ls.set n (looseL p s l)) (i := p) (by omega))
    rw [hnw] at this
    exact this
  have n6 : fNe (.int 1) (.int 1) = some (.fz (.bool false)) := rfl
  have n7 : fNe (.int (if wantC (coms (ls.set n (looseL p s l)) (spotL s l)) - wantC (coms ls (spotL s l)) < 0 then -(wantC (coms (ls.set n (looseL p s l)) (spotL s l)) - wantC (coms ls (spotL s l))) else wantC (coms (ls.set n (looseL p s l)) (spotL s l)) - wantC (coms ls (spotL s l)))) (.int 1) = some (.fz (.bool false)) := by
    rw [ne_int, decide_eq_true (by rcases hdf with e | e <;> rw [e] <;> decide)]
    rfl
  have hr1 : (-1000000 : Int) ≤ (p : Nat) := by omega
  have hr2 : ((p : Nat) : Int) ≤ 1000000 := by omega
  have hlw := wants_len (p : Int) ls
  have f1 : (small ((List.range (p : Int).toNat).map fun (i : Nat) => PyData.int i).length && freeAt [9] (rSt (encR r3) (encW p ls) (.list (encN (wantsL p ls))) (.fz (.int (n : Nat))) (.fz (.int (s : Nat))) .no .no .no .no)) = true := (Bool.and_eq_true _ _).mpr ⟨small_of (by rw [List.length_map, List.length_range]; omega), rfl⟩
  have f2 : (small (zipD (encN (wantsL p ls)) (encN (wantsL p (ls.map (mergeL c c'))))).length && freeAt [10, 11] (rSt (encR r5) (encW p ls) (.list (encN (wantsL p ls))) (.fz (.int (n : Nat))) (.fz (.int (s : Nat))) (.fz (.str ⟨#[c]⟩)) (.fz (.str ⟨#[c']⟩)) .no .no)) = true := (Bool.and_eq_true _ _).mpr ⟨small_of (by have := zipN_len (wantsL p ls) (wantsL p (ls.map (mergeL c c'))); omega), rfl⟩
  have f3 : (small ((List.range (p : Int).toNat).map fun (i : Nat) => PyData.int i).length && freeAt [9] (rSt (encR r5) (encW p ls) (.list (encN (wantsL p ls))) (.fz (.int (n : Nat))) (.fz (.int (s : Nat))) (.fz (.str ⟨#[c]⟩)) (.fz (.str ⟨#[c']⟩)) (.own (.lst (encN (wantsL (p + 1) (ls.set n (looseL p s l)))))) (.fz (.int (spotL s l))))) = true := (Bool.and_eq_true _ _).mpr ⟨small_of (by rw [List.length_map, List.length_range]; omega), rfl⟩
  refine ⟨r5, ?_, h5.mono (by omega)⟩
  clear hdf hnw hwm hwz hzk hlk hw hn
  generalize wantC (coms (ls.set n (looseL p s l)) (spotL s l)) = w1 at *
  generalize wantC (coms ls (spotL s l)) = w2 at *
  unfold d__law_right
  apply run_b rfl
  · focus ((try simp only [List.cons_append, List.nil_append, List.replicate_succ, List.replicate_zero, Nat.reduceSub, List.set_cons_zero, List.set_cons_succ, DL.with_arg, DL.with_own, DL.wipeD, List.map_cons, List.map_nil, DL.toArg, DL.back2, DL.back2a, DL.back, DL.back1]); rfl)
  · unfold sd__law_right
    (repeat' (first | with_reducible apply DL.s_setI | with_reducible apply DL.s_app | with_reducible apply DL.s_ext | (with_reducible apply DL.m_arg; rfl) | (with_reducible apply DL.m_own; rfl) | (with_reducible apply DL.f_set; rfl; focus ((try simp only [List.cons_append, List.nil_append, List.replicate_succ, List.replicate_zero, Nat.reduceSub, List.set_cons_zero, List.set_cons_succ, DL.with_arg, DL.with_own, DL.wipeD, List.map_cons, List.map_nil, DL.toArg, DL.back2, DL.back2a, DL.back, DL.back1]); rfl)) | with_reducible apply DL.f_app | with_reducible apply DL.f_ext | (with_reducible apply DL.set_goal; focus ((try simp only [List.cons_append, List.nil_append, List.replicate_succ, List.replicate_zero, Nat.reduceSub, List.set_cons_zero, List.set_cons_succ, DL.with_arg, DL.with_own, DL.wipeD, List.map_cons, List.map_nil, DL.toArg, DL.back2, DL.back2a, DL.back, DL.back1]); rfl)) | with_reducible apply DL.s_seqG | with_reducible apply DL.step_b | with_reducible apply DL.k_nx | with_reducible exact DL.k_rt | with_reducible exact DL.k_ct | with_reducible exact DL.k_bk | with_reducible apply DL.s_asgG | with_reducible apply DL.s_asg | with_reducible apply DL.s_drop | with_reducible apply DL.s_ret | with_reducible apply DL.s_if | with_reducible exact DL.s_skip | (with_reducible apply DL.f_eq; (first | rfl | assumption); (first | rfl | assumption)) | (with_reducible apply DL.f_ne; (first | rfl | assumption); (first | rfl | assumption)) | with_reducible apply DL.f_addT | (with_reducible apply DL.f_ixT; assumption) | (with_reducible apply DL.f_ixL; assumption) | with_reducible apply DL.f_addL | with_reducible apply DL.s_par | with_reducible apply DL.s_for | with_reducible apply DL.i_it | with_reducible apply DL.i_r1 | with_reducible apply DL.r_lc | with_reducible apply DL.r_lc2 | with_reducible apply DL.i_enumT | with_reducible exact DL.t_yes | with_reducible apply DL.turn_e | with_reducible apply DL.g_tup | with_reducible apply DL.g_lst | with_reducible apply DL.g_cons | with_reducible exact DL.g_nil | with_reducible apply DL.g_n | (with_reducible apply DL.set_fz; rfl; focus ((try simp only [List.cons_append, List.nil_append, List.replicate_succ, List.replicate_zero, Nat.reduceSub, List.set_cons_zero, List.set_cons_succ, DL.with_arg, DL.with_own, DL.wipeD, List.map_cons, List.map_nil, DL.toArg, DL.back2, DL.back2a, DL.back, DL.back1]); rfl)) | (with_reducible apply DL.set_own; rfl; focus ((try simp only [List.cons_append, List.nil_append, List.replicate_succ, List.replicate_zero, Nat.reduceSub, List.set_cons_zero, List.set_cons_succ, DL.with_arg, DL.with_own, DL.wipeD, List.map_cons, List.map_nil, DL.toArg, DL.back2, DL.back2a, DL.back, DL.back1]); rfl)) | (with_reducible apply DL.p_t; (first | rfl | focus (simp [*]; done) | assumption)) | (with_reducible apply DL.p_f; (first | rfl | focus (simp [*]; done) | assumption)) | (with_reducible apply DL.v_fz; rfl) | (with_reducible apply DL.v_own; rfl) | (with_reducible apply DL.v_arg; rfl) | with_reducible exact DL.r_c | with_reducible apply DL.r_andB | with_reducible apply DL.r_bin | with_reducible apply DL.r_un | with_reducible apply DL.r_test | with_reducible apply DL.r_notV | with_reducible apply DL.r_and | with_reducible apply DL.r_or | with_reducible apply DL.r_not | with_reducible apply DL.r_if | with_reducible apply DL.r_chainB | with_reducible exact DL.l_nil | with_reducible apply DL.l_cons | with_reducible apply DL.r_tup | with_reducible apply DL.r_lst | with_reducible apply DL.o_some | with_reducible exact DL.o_none | with_reducible apply DL.r_sl | with_reducible exact DL.a_nil | with_reducible apply DL.a_val | with_reducible apply DL.a_ref | (with_reducible apply DL.small_of; focus (first | omega | (simp <;> omega))) | with_reducible apply DL.r_callR | with_reducible apply DL.r_call | (first | with_reducible apply i_zip | with_reducible apply r_frz | exact e_is_row_of _ _ | exact e_is_row _ | exact e_is_below _ _ | exact e_is_whole _ | assumption) | (with_reducible apply DL.f_mod; (first | assumption | omega | focus (simp; omega))) | (with_reducible apply DL.f_div; (first | assumption | omega | focus (simp; omega))) | with_reducible apply DL.f_mulI | (with_reducible apply DL.wide_lt; (first | assumption | omega | focus (simp; omega))) | rfl | (focus ((try simp only [List.cons_append, List.nil_append, List.replicate_succ, List.replicate_zero, Nat.reduceSub, List.set_cons_zero, List.set_cons_succ, DL.with_arg, DL.with_own, DL.wipeD, List.map_cons, List.map_nil, DL.toArg, DL.back2, DL.back2a, DL.back, DL.back1]); rfl); done)))
  all_goals rfl

theorem str_a : ("a" : PySem.Str) = ⟨#[97]⟩ := by decide +kernel
theorem lay_L {p : Int} {ls : List Ln} (h : ∀ l ∈ ls, okL p l) : PyData.canLayAll0 (ls.map encL) = true := by
  induction ls with
  | nil => rfl
  | cons l ls ih =>
    have z := SeqAt.canLay_of_shaped (shaped_ch (c := l.2.2) (by have := (h l List.mem_cons_self).2.2.2.2.2; omega))
    rw [List.map_cons, PyData.canLayAll0, ih fun l hl => h l (List.mem_cons_of_mem _ hl)]
    have : (encL l).canLay0 = true := by
      simp only [PyData.canLay0] at z
      simp only [encL, PyData.canLay0, PyData.canLayAll0, z, Bool.and_self, Bool.and_true]
    rw [this]
    rfl
theorem dep_L (ls : List Ln) : PyData.depthAll (ls.map encL) ≤ 1 := by
  induction ls with
  | nil => simp [PyData.depthAll]
  | cons l ls ih =>
    rw [List.map_cons, PyData.depthAll]
    have : (encL l).depth = 1 := by simp [PyData.depth, PyData.depthAll]
    omega
theorem shaped_T {p : Int} {ls : List Ln} (h : ∀ l ∈ ls, okL p l) : SeqAt.shaped (.tuple (ls.map encL)) = true := by
  have := dep_L ls
  unfold SeqAt.shaped
  rw [show (PyData.tuple (ls.map encL)).canLay0 = PyData.canLayAll0 (ls.map encL) from rfl, lay_L h, decide_eq_true (show (PyData.tuple (ls.map encL)).depth ≤ 64 by rw [PyData.depth]; omega)]
  rfl
abbrev scr (ns : List Int) : D := .dict [(.none, .list (ns.map PyData.int))]
abbrev tBody : Ds := (dSeq (dAsgG (gTupD 2 (gsCons (gN 3) (gsCons (gN 4) gsNil))) (dCall d__law_net (aRef 1 (aVal (dC (.int 58)) aNil)))) (dSeq (dAsg 5 (dTup (dCons (dBin fMax2 (dC (.int 1)) (dVar 3)) (dCons (dIf (dTest (dBin fNe (dVar 4) (dTup dNil))) (dVar 4) (dTup (dCons (dTup (dCons (dC (.int 0)) (dCons (dC (.int 0)) (dCons (dC (.str ("a" : PySem.Str))) dNil)))) dNil))) dNil)))) (dIfS (dNot (dTest (dCall d__law_right (aRef 1 (aVal (dVar 5) aNil))))) (dRet (dC (.bool false))) dSkip)))
def lawP (ns : List Int) (j : Nat) (δ : DS) : Prop := ∃ (r : Rl) (s2 s3 s4 s5 : Sl), δ = [.fz (scr ns), .own (.lst (encR r)), s2, s3, s4, s5] ∧ RlOk (210 * j) r ∧ ((s2 = .no ∧ s3 = .no ∧ s4 = .no ∧ s5 = .no) ∨ ∃ a b c d, s2 = .fz a ∧ s3 = .fz b ∧ s4 = .fz c ∧ s5 = .fz d)
set_option maxHeartbeats 0 in
theorem law_step (ns : List Int) (j : Nat) (hj : j ≤ 20) (d : D) (δ : DS) (h : lawP ns j δ) : ∃ δ', stepB (gN 2) tBody d δ = .ok .nx δ' ∧ lawP ns (j + 1) δ' := by
  obtain ⟨r, s2, s3, s4, s5, rfl, hr, hs⟩ := h
  obtain ⟨pl, ls, r1, e1, hr1, hw, hp, hl, hno⟩ := e_net hr (by omega)
  have x1 : fMax2 (.int 1) (.int pl) = some (.fz (.int (if pl > 1 then pl else 1))) := rfl
  have hq : 1 ≤ (if pl > 1 then pl else 1) ∧ (if pl > 1 then pl else 1) ≤ 28 ∧ pl ≤ (if pl > 1 then pl else 1) := by split <;> omega
  generalize (if pl > 1 then pl else 1) = q0 at x1 hq
  obtain ⟨q, rfl⟩ := Int.eq_ofNat_of_zero_le (show 0 ≤ q0 by omega)
  cases ls with
  | nil =>
    have hne : fNe (.tuple (List.map encL [])) (.tuple []) = some (.fz (.bool false)) := rfl
    have hw2 : OkW (q : Int) [((0 : Int), (0 : Int), 97)] := ⟨by omega, by simp, fun l hl => by
      have : l = (0, 0, 97) := by simpa using hl
      subst this
      exact ⟨Int.le_refl _, by show (0 : Int) < q; omega, Int.le_refl _, by show (0 : Int) < q; omega, by unfold okC; decide⟩⟩
    obtain ⟨r2, e2, h2⟩ := e_right hr1 (by omega) hw2 (by omega) (by omega) (by simp) (by simp) (fun l hl => by
      have : l = (0, 0, 97) := by simpa using hl
      subst this
      decide)
    refine ⟨[.fz (scr ns), .own (.lst (encR r2)), .fz d, .fz (.int pl), .fz (.tuple (List.map encL [])), .fz (encW q [((0 : Int), (0 : Int), 97)])], ?_, r2, _, _, _, _, rfl, h2.mono (by omega), .inr ⟨_, _, _, _, rfl, rfl, rfl, rfl⟩⟩
    have e2 : d__law_right [.arg (.lst (encR r1)), .fz (.tuple [.int (q : Nat), .tuple [.tuple [.int 0, .int 0, .str ("a" : PySem.Str)]]])] = .ok (.fz (.bool true)) [.arg (.lst (encR r2)), .no] := by
      rw [str_a]
      exact e2
    have ew : (encW q [((0 : Int), (0 : Int), 97)]) = .tuple [.int (q : Nat), .tuple [.tuple [.int 0, .int 0, .str ("a" : PySem.Str)]]] := by
      rw [str_a]
      rfl
    rw [ew]
    rcases hs with ⟨rfl, rfl, rfl, rfl⟩ | ⟨a, b, c, d', rfl, rfl, rfl, rfl⟩
    · (repeat' (first | with_reducible apply DL.s_setI | with_reducible apply DL.s_app | with_reducible apply DL.s_ext | (with_reducible apply DL.m_arg; rfl) | (with_reducible apply DL.m_own; rfl) | (with_reducible apply DL.f_set; rfl; focus ((try simp only [List.cons_append, List.nil_append, List.replicate_succ, List.replicate_zero, Nat.reduceSub, List.set_cons_zero, List.set_cons_succ, DL.with_arg, DL.with_own, DL.wipeD, List.map_cons, List.map_nil, DL.toArg, DL.back2, DL.back2a, DL.back, DL.back1]); rfl)) | with_reducible apply DL.f_app | with_reducible apply DL.f_ext | (with_reducible apply DL.set_goal; focus ((try simp only [List.cons_append, List.nil_append, List.replicate_succ, List.replicate_zero, Nat.reduceSub, List.set_cons_zero, List.set_cons_succ, DL.with_arg, DL.with_own, DL.wipeD, List.map_cons, List.map_nil, DL.toArg, DL.back2, DL.back2a, DL.back, DL.back1]); rfl)) | with_reducible apply DL.s_seqG | with_reducible apply DL.step_b | with_reducible apply DL.k_nx | with_reducible exact DL.k_rt | with_reducible exact DL.k_ct | with_reducible exact DL.k_bk | with_reducible apply DL.s_asgG | with_reducible apply DL.s_asg | with_reducible apply DL.s_drop | with_reducible apply DL.s_ret | with_reducible apply DL.s_if | with_reducible exact DL.s_skip | (with_reducible apply DL.f_eq; (first | rfl | assumption); (first | rfl | assumption)) | (with_reducible apply DL.f_ne; (first | rfl | assumption); (first | rfl | assumption)) | with_reducible apply DL.f_addT | (with_reducible apply DL.f_ixT; assumption) | (with_reducible apply DL.f_ixL; assumption) | with_reducible apply DL.f_addL | with_reducible apply DL.s_par | with_reducible apply DL.s_for | with_reducible apply DL.i_it | with_reducible apply DL.i_r1 | with_reducible apply DL.r_lc | with_reducible apply DL.r_lc2 | with_reducible apply DL.i_enumT | with_reducible exact DL.t_yes | with_reducible apply DL.turn_e | with_reducible apply DL.g_tup | with_reducible apply DL.g_lst | with_reducible apply DL.g_cons | with_reducible exact DL.g_nil | with_reducible apply DL.g_n | (with_reducible apply DL.set_fz; rfl; focus ((try simp only [List.cons_append, List.nil_append, List.replicate_succ, List.replicate_zero, Nat.reduceSub, List.set_cons_zero, List.set_cons_succ, DL.with_arg, DL.with_own, DL.wipeD, List.map_cons, List.map_nil, DL.toArg, DL.back2, DL.back2a, DL.back, DL.back1]); rfl)) | (with_reducible apply DL.set_own; rfl; focus ((try simp only [List.cons_append, List.nil_append, List.replicate_succ, List.replicate_zero, Nat.reduceSub, List.set_cons_zero, List.set_cons_succ, DL.with_arg, DL.with_own, DL.wipeD, List.map_cons, List.map_nil, DL.toArg, DL.back2, DL.back2a, DL.back, DL.back1]); rfl)) | (with_reducible apply DL.p_t; (first | rfl | focus (simp [*]; done) | assumption)) | (with_reducible apply DL.p_f; (first | rfl | focus (simp [*]; done) | assumption)) | (with_reducible apply DL.v_fz; rfl) | (with_reducible apply DL.v_own; rfl) | (with_reducible apply DL.v_arg; rfl) | with_reducible exact DL.r_c | with_reducible apply DL.r_andB | with_reducible apply DL.r_bin | with_reducible apply DL.r_un | with_reducible apply DL.r_test | with_reducible apply DL.r_notV | with_reducible apply DL.r_and | with_reducible apply DL.r_or | with_reducible apply DL.r_not | with_reducible apply DL.r_if | with_reducible apply DL.r_chainB | with_reducible exact DL.l_nil | with_reducible apply DL.l_cons | with_reducible apply DL.r_tup | with_reducible apply DL.r_lst | with_reducible apply DL.o_some | with_reducible exact DL.o_none | with_reducible apply DL.r_sl | with_reducible exact DL.a_nil | with_reducible apply DL.a_val | with_reducible apply DL.a_ref | (with_reducible apply DL.small_of; focus (first | omega | (simp <;> omega))) | with_reducible apply DL.r_callR | with_reducible apply DL.r_call | (first | with_reducible apply i_zip | with_reducible apply r_frz | exact e_is_row_of _ _ | exact e_is_row _ | exact e_is_below _ _ | exact e_is_whole _ | assumption) | (with_reducible apply DL.f_mod; (first | assumption | omega | focus (simp; omega))) | (with_reducible apply DL.f_div; (first | assumption | omega | focus (simp; omega))) | with_reducible apply DL.f_mulI | (with_reducible apply DL.wide_lt; (first | assumption | omega | focus (simp; omega))) | rfl | (focus ((try simp only [List.cons_append, List.nil_append, List.replicate_succ, List.replicate_zero, Nat.reduceSub, List.set_cons_zero, List.set_cons_succ, DL.with_arg, DL.with_own, DL.wipeD, List.map_cons, List.map_nil, DL.toArg, DL.back2, DL.back2a, DL.back, DL.back1]); rfl); done)))
    · (repeat' (first | with_reducible apply DL.s_setI | with_reducible apply DL.s_app | with_reducible apply DL.s_ext | (with_reducible apply DL.m_arg; rfl) | (with_reducible apply DL.m_own; rfl) | (with_reducible apply DL.f_set; rfl; focus ((try simp only [List.cons_append, List.nil_append, List.replicate_succ, List.replicate_zero, Nat.reduceSub, List.set_cons_zero, List.set_cons_succ, DL.with_arg, DL.with_own, DL.wipeD, List.map_cons, List.map_nil, DL.toArg, DL.back2, DL.back2a, DL.back, DL.back1]); rfl)) | with_reducible apply DL.f_app | with_reducible apply DL.f_ext | (with_reducible apply DL.set_goal; focus ((try simp only [List.cons_append, List.nil_append, List.replicate_succ, List.replicate_zero, Nat.reduceSub, List.set_cons_zero, List.set_cons_succ, DL.with_arg, DL.with_own, DL.wipeD, List.map_cons, List.map_nil, DL.toArg, DL.back2, DL.back2a, DL.back, DL.back1]); rfl)) | with_reducible apply DL.s_seqG | with_reducible apply DL.step_b | with_reducible apply DL.k_nx | with_reducible exact DL.k_rt | with_reducible exact DL.k_ct | with_reducible exact DL.k_bk | with_reducible apply DL.s_asgG | with_reducible apply DL.s_asg | with_reducible apply DL.s_drop | with_reducible apply DL.s_ret | with_reducible apply DL.s_if | with_reducible exact DL.s_skip | (with_reducible apply DL.f_eq; (first | rfl | assumption); (first | rfl | assumption)) | (with_reducible apply DL.f_ne; (first | rfl | assumption); (first | rfl | assumption)) | with_reducible apply DL.f_addT | (with_reducible apply DL.f_ixT; assumption) | (with_reducible apply DL.f_ixL; assumption) | with_reducible apply DL.f_addL | with_reducible apply DL.s_par | with_reducible apply DL.s_for | with_reducible apply DL.i_it | with_reducible apply DL.i_r1 | with_reducible apply DL.r_lc | with_reducible apply DL.r_lc2 | with_reducible apply DL.i_enumT | with_reducible exact DL.t_yes | with_reducible apply DL.turn_e | with_reducible apply DL.g_tup | with_reducible apply DL.g_lst | with_reducible apply DL.g_cons | with_reducible exact DL.g_nil | with_reducible apply DL.g_n | (with_reducible apply DL.set_fz; rfl; focus ((try simp only [List.cons_append, List.nil_append, List.replicate_succ, List.replicate_zero, Nat.reduceSub, List.set_cons_zero, List.set_cons_succ, DL.with_arg, DL.with_own, DL.wipeD, List.map_cons, List.map_nil, DL.toArg, DL.back2, DL.back2a, DL.back, DL.back1]); rfl)) | (with_reducible apply DL.set_own; rfl; focus ((try simp only [List.cons_append, List.nil_append, List.replicate_succ, List.replicate_zero, Nat.reduceSub, List.set_cons_zero, List.set_cons_succ, DL.with_arg, DL.with_own, DL.wipeD, List.map_cons, List.map_nil, DL.toArg, DL.back2, DL.back2a, DL.back, DL.back1]); rfl)) | (with_reducible apply DL.p_t; (first | rfl | focus (simp [*]; done) | assumption)) | (with_reducible apply DL.p_f; (first | rfl | focus (simp [*]; done) | assumption)) | (with_reducible apply DL.v_fz; rfl) | (with_reducible apply DL.v_own; rfl) | (with_reducible apply DL.v_arg; rfl) | with_reducible exact DL.r_c | with_reducible apply DL.r_andB | with_reducible apply DL.r_bin | with_reducible apply DL.r_un | with_reducible apply DL.r_test | with_reducible apply DL.r_notV | with_reducible apply DL.r_and | with_reducible apply DL.r_or | with_reducible apply DL.r_not | with_reducible apply DL.r_if | with_reducible apply DL.r_chainB | with_reducible exact DL.l_nil | with_reducible apply DL.l_cons | with_reducible apply DL.r_tup | with_reducible apply DL.r_lst | with_reducible apply DL.o_some | with_reducible exact DL.o_none | with_reducible apply DL.r_sl | with_reducible exact DL.a_nil | with_reducible apply DL.a_val | with_reducible apply DL.a_ref | (with_reducible apply DL.small_of; focus (first | omega | (simp <;> omega))) | with_reducible apply DL.r_callR | with_reducible apply DL.r_call | (first | with_reducible apply i_zip | with_reducible apply r_frz | exact e_is_row_of _ _ | exact e_is_row _ | exact e_is_below _ _ | exact e_is_whole _ | assumption) | (with_reducible apply DL.f_mod; (first | assumption | omega | focus (simp; omega))) | (with_reducible apply DL.f_div; (first | assumption | omega | focus (simp; omega))) | with_reducible apply DL.f_mulI | (with_reducible apply DL.wide_lt; (first | assumption | omega | focus (simp; omega))) | rfl | (focus ((try simp only [List.cons_append, List.nil_append, List.replicate_succ, List.replicate_zero, Nat.reduceSub, List.set_cons_zero, List.set_cons_succ, DL.with_arg, DL.with_own, DL.wipeD, List.map_cons, List.map_nil, DL.toArg, DL.back2, DL.back2a, DL.back, DL.back1]); rfl); done)))
  | cons l ms =>
    have hne : fNe (.tuple ((l :: ms).map encL)) (.tuple []) = some (.fz (.bool true)) := by
      rw [f_ne (shaped_T hw.ok) rfl]
      rfl
    have hw2 : OkW (q : Int) (l :: ms) := ⟨by omega, hw.ln, fun m hm => by
      obtain ⟨a, b, c, d, e⟩ := hw.ok m hm
      exact ⟨a, by omega, c, by omega, e⟩⟩
    obtain ⟨r2, e2, h2⟩ := e_right hr1 (by omega) hw2 (by omega) (by omega) (by simp) (by omega) hno
    refine ⟨[.fz (scr ns), .own (.lst (encR r2)), .fz d, .fz (.int pl), .fz (.tuple ((l :: ms).map encL)), .fz (encW q (l :: ms))], ?_, r2, _, _, _, _, rfl, h2.mono (by omega), .inr ⟨_, _, _, _, rfl, rfl, rfl, rfl⟩⟩
    clear hw hw2 hno
    rcases hs with ⟨rfl, rfl, rfl, rfl⟩ | ⟨a, b, c, d', rfl, rfl, rfl, rfl⟩
    · (repeat' (first | with_reducible apply DL.s_setI | with_reducible apply DL.s_app | with_reducible apply DL.s_ext | (with_reducible apply DL.m_arg; rfl) | (with_reducible apply DL.m_own; rfl) | (with_reducible apply DL.f_set; rfl; focus ((try simp only [List.cons_append, List.nil_append, List.replicate_succ, List.replicate_zero, Nat.reduceSub, List.set_cons_zero, List.set_cons_succ, DL.with_arg, DL.with_own, DL.wipeD, List.map_cons, List.map_nil, DL.toArg, DL.back2, DL.back2a, DL.back, DL.back1]); rfl)) | with_reducible apply DL.f_app | with_reducible apply DL.f_ext | (with_reducible apply DL.set_goal; focus ((try simp only [List.cons_append, List.nil_append, List.replicate_succ, List.replicate_zero, Nat.reduceSub, List.set_cons_zero, List.set_cons_succ, DL.with_arg, DL.with_own, DL.wipeD, List.map_cons, List.map_nil, DL.toArg, DL.back2, DL.back2a, DL.back, DL.back1]); rfl)) | with_reducible apply DL.s_seqG | with_reducible apply DL.step_b | with_reducible apply DL.k_nx | with_reducible exact DL.k_rt | with_reducible exact DL.k_ct | with_reducible exact DL.k_bk | with_reducible apply DL.s_asgG | with_reducible apply DL.s_asg | with_reducible apply DL.s_drop | with_reducible apply DL.s_ret | with_reducible apply DL.s_if | with_reducible exact DL.s_skip | (with_reducible apply DL.f_eq; (first | rfl | assumption); (first | rfl | assumption)) | (with_reducible apply DL.f_ne; (first | rfl | assumption); (first | rfl | assumption)) | with_reducible apply DL.f_addT | (with_reducible apply DL.f_ixT; assumption) | (with_reducible apply DL.f_ixL; assumption) | with_reducible apply DL.f_addL | with_reducible apply DL.s_par | with_reducible apply DL.s_for | with_reducible apply DL.i_it | with_reducible apply DL.i_r1 | with_reducible apply DL.r_lc | with_reducible apply DL.r_lc2 | with_reducible apply DL.i_enumT | with_reducible exact DL.t_yes | with_reducible apply DL.turn_e | with_reducible apply DL.g_tup | with_reducible apply DL.g_lst | with_reducible apply DL.g_cons | with_reducible exact DL.g_nil | with_reducible apply DL.g_n | (with_reducible apply DL.set_fz; rfl; focus ((try simp only [List.cons_append, List.nil_append, List.replicate_succ, List.replicate_zero, Nat.reduceSub, List.set_cons_zero, List.set_cons_succ, DL.with_arg, DL.with_own, DL.wipeD, List.map_cons, List.map_nil, DL.toArg, DL.back2, DL.back2a, DL.back, DL.back1]); rfl)) | (with_reducible apply DL.set_own; rfl; focus ((try simp only [List.cons_append, List.nil_append, List.replicate_succ, List.replicate_zero, Nat.reduceSub, List.set_cons_zero, List.set_cons_succ, DL.with_arg, DL.with_own, DL.wipeD, List.map_cons, List.map_nil, DL.toArg, DL.back2, DL.back2a, DL.back, DL.back1]); rfl)) | (with_reducible apply DL.p_t; (first | rfl | focus (simp [*]; done) | assumption)) | (with_reducible apply DL.p_f; (first | rfl | focus (simp [*]; done) | assumption)) | (with_reducible apply DL.v_fz; rfl) | (with_reducible apply DL.v_own; rfl) | (with_reducible apply DL.v_arg; rfl) | with_reducible exact DL.r_c | with_reducible apply DL.r_andB | with_reducible apply DL.r_bin | with_reducible apply DL.r_un | with_reducible apply DL.r_test | with_reducible apply DL.r_notV | with_reducible apply DL.r_and | with_reducible apply DL.r_or | with_reducible apply DL.r_not | with_reducible apply DL.r_if | with_reducible apply DL.r_chainB | with_reducible exact DL.l_nil | with_reducible apply DL.l_cons | with_reducible apply DL.r_tup | with_reducible apply DL.r_lst | with_reducible apply DL.o_some | with_reducible exact DL.o_none | with_reducible apply DL.r_sl | with_reducible exact DL.a_nil | with_reducible apply DL.a_val | with_reducible apply DL.a_ref | (with_reducible apply DL.small_of; focus (first | omega | (simp <;> omega))) | with_reducible apply DL.r_callR | with_reducible apply DL.r_call | (first | with_reducible apply i_zip | with_reducible apply r_frz | exact e_is_row_of _ _ | exact e_is_row _ | exact e_is_below _ _ | exact e_is_whole _ | assumption) | (with_reducible apply DL.f_mod; (first | assumption | omega | focus (simp; omega))) | (with_reducible apply DL.f_div; (first | assumption | omega | focus (simp; omega))) | with_reducible apply DL.f_mulI | (with_reducible apply DL.wide_lt; (first | assumption | omega | focus (simp; omega))) | rfl | (focus ((try simp only [List.cons_append, List.nil_append, List.replicate_succ, List.replicate_zero, Nat.reduceSub, List.set_cons_zero, List.set_cons_succ, DL.with_arg, DL.with_own, DL.wipeD, List.map_cons, List.map_nil, DL.toArg, DL.back2, DL.back2a, DL.back, DL.back1]); rfl); done)))
    · (repeat' (first | with_reducible apply DL.s_setI | with_reducible apply DL.s_app | with_reducible apply DL.s_ext | (with_reducible apply DL.m_arg; rfl) | (with_reducible apply DL.m_own; rfl) | (with_reducible apply DL.f_set; rfl; focus ((try simp only [List.cons_append, List.nil_append, List.replicate_succ, List.replicate_zero, Nat.reduceSub, List.set_cons_zero, List.set_cons_succ, DL.with_arg, DL.with_own, DL.wipeD, List.map_cons, List.map_nil, DL.toArg, DL.back2, DL.back2a, DL.back, DL.back1]); rfl)) | with_reducible apply DL.f_app | with_reducible apply DL.f_ext | (with_reducible apply DL.set_goal; focus ((try simp only [List.cons_append, List.nil_append, List.replicate_succ, List.replicate_zero, Nat.reduceSub, List.set_cons_zero, List.set_cons_succ, DL.with_arg, DL.with_own, DL.wipeD, List.map_cons, List.map_nil, DL.toArg, DL.back2, DL.back2a, DL.back, DL.back1]); rfl)) | with_reducible apply DL.s_seqG | with_reducible apply DL.step_b | with_reducible apply DL.k_nx | with_reducible exact DL.k_rt | with_reducible exact DL.k_ct | with_reducible exact DL.k_bk | with_reducible apply DL.s_asgG | with_reducible apply DL.s_asg | with_reducible apply DL.s_drop | with_reducible apply DL.s_ret | with_reducible apply DL.s_if | with_reducible exact DL.s_skip | (with_reducible apply DL.f_eq; (first | rfl | assumption); (first | rfl | assumption)) | (with_reducible apply DL.f_ne; (first | rfl | assumption); (first | rfl | assumption)) | with_reducible apply DL.f_addT | (with_reducible apply DL.f_ixT; assumption) | (with_reducible apply DL.f_ixL; assumption) | with_reducible apply DL.f_addL | with_reducible apply DL.s_par | with_reducible apply DL.s_for | with_reducible apply DL.i_it | with_reducible apply DL.i_r1 | with_reducible apply DL.r_lc | with_reducible apply DL.r_lc2 | with_reducible apply DL.i_enumT | with_reducible exact DL.t_yes | with_reducible apply DL.turn_e | with_reducible apply DL.g_tup | with_reducible apply DL.g_lst | with_reducible apply DL.g_cons | with_reducible exact DL.g_nil | with_reducible apply DL.g_n | (with_reducible apply DL.set_fz; rfl; focus ((try simp only [List.cons_append, List.nil_append, List.replicate_succ, List.replicate_zero, Nat.reduceSub, List.set_cons_zero, List.set_cons_succ, DL.with_arg, DL.with_own, DL.wipeD, List.map_cons, List.map_nil, DL.toArg, DL.back2, DL.back2a, DL.back, DL.back1]); rfl)) | (with_reducible apply DL.set_own; rfl; focus ((try simp only [List.cons_append, List.nil_append, List.replicate_succ, List.replicate_zero, Nat.reduceSub, List.set_cons_zero, List.set_cons_succ, DL.with_arg, DL.with_own, DL.wipeD, List.map_cons, List.map_nil, DL.toArg, DL.back2, DL.back2a, DL.back, DL.back1]); rfl)) | (with_reducible apply DL.p_t; (first | rfl | focus (simp [*]; done) | assumption)) | (with_reducible apply DL.p_f; (first | rfl | focus (simp [*]; done) | assumption)) | (with_reducible apply DL.v_fz; rfl) | (with_reducible apply DL.v_own; rfl) | (with_reducible apply DL.v_arg; rfl) | with_reducible exact DL.r_c | with_reducible apply DL.r_andB | with_reducible apply DL.r_bin | with_reducible apply DL.r_un | with_reducible apply DL.r_test | with_reducible apply DL.r_notV | with_reducible apply DL.r_and | with_reducible apply DL.r_or | with_reducible apply DL.r_not | with_reducible apply DL.r_if | with_reducible apply DL.r_chainB | with_reducible exact DL.l_nil | with_reducible apply DL.l_cons | with_reducible apply DL.r_tup | with_reducible apply DL.r_lst | with_reducible apply DL.o_some | with_reducible exact DL.o_none | with_reducible apply DL.r_sl | with_reducible exact DL.a_nil | with_reducible apply DL.a_val | with_reducible apply DL.a_ref | (with_reducible apply DL.small_of; focus (first | omega | (simp <;> omega))) | with_reducible apply DL.r_callR | with_reducible apply DL.r_call | (first | with_reducible apply i_zip | with_reducible apply r_frz | exact e_is_row_of _ _ | exact e_is_row _ | exact e_is_below _ _ | exact e_is_whole _ | assumption) | (with_reducible apply DL.f_mod; (first | assumption | omega | focus (simp; omega))) | (with_reducible apply DL.f_div; (first | assumption | omega | focus (simp; omega))) | with_reducible apply DL.f_mulI | (with_reducible apply DL.wide_lt; (first | assumption | omega | focus (simp; omega))) | rfl | (focus ((try simp only [List.cons_append, List.nil_append, List.replicate_succ, List.replicate_zero, Nat.reduceSub, List.set_cons_zero, List.set_cons_succ, DL.with_arg, DL.with_own, DL.wipeD, List.map_cons, List.map_nil, DL.toArg, DL.back2, DL.back2a, DL.back, DL.back1]); rfl); done)))
theorem law_true (ns : List Int) (h : ns.length ≤ 63) : ∃ δ, d_law [.fz (.dict [(.none, .list (ns.map PyData.int))])] = .ok (.fz (.bool true)) δ := by
  obtain ⟨r, e1, hr⟩ := e_reel ns h
  have y1 : fLen (scr ns) = some (.fz (.int ((ns.map PyData.int).length : Nat))) := rfl
  have y2 : fMin2 (.int ((ns.map PyData.int).length : Nat)) (.int 11) = some (.fz (.int (if 11 < ((ns.map PyData.int).length : Int) then 11 else ((ns.map PyData.int).length : Int)))) := rfl
  have hq : 0 ≤ (if 11 < ((ns.map PyData.int).length : Int) then 11 else ((ns.map PyData.int).length : Int)) ∧ (if 11 < ((ns.map PyData.int).length : Int) then 11 else ((ns.map PyData.int).length : Int)) ≤ 11 := by split <;> omega
  generalize (if 11 < ((ns.map PyData.int).length : Int) then 11 else ((ns.map PyData.int).length : Int)) = q at y2 hq
  obtain ⟨δ', e2, r', s2, s3, s4, s5, rfl, _, _⟩ := for_idx (P := lawP ns) (f := stepB (gN 2) tBody) ((List.range (1 + q).toNat).map fun (i : Nat) => PyData.int i) 0 (fun i d hd δ hP => law_step ns (0 + i) (by
    have := (List.getElem?_eq_some_iff.mp hd).1
    rw [List.length_map, List.length_range] at this
    omega) d δ hP) [.fz (scr ns), .own (.lst (encR r)), .no, .no, .no, .no] ⟨r, .no, .no, .no, .no, rfl, by simpa using hr, .inl ⟨rfl, rfl, rfl, rfl⟩⟩
  have h1 : (-1000000 : Int) ≤ 1 + q := by omega
  have h2 : 1 + q ≤ 1000000 := by omega
  refine ⟨[.no], ?_⟩
  unfold d_law
  apply run_b rfl
  · focus ((try simp only [List.cons_append, List.nil_append, List.replicate_succ, List.replicate_zero, Nat.reduceSub, List.set_cons_zero, List.set_cons_succ, DL.with_arg, DL.with_own, DL.wipeD, List.map_cons, List.map_nil, DL.toArg, DL.back2, DL.back2a, DL.back, DL.back1]); rfl)
  · unfold sd_law
    (repeat' (first | with_reducible apply DL.s_setI | with_reducible apply DL.s_app | with_reducible apply DL.s_ext | (with_reducible apply DL.m_arg; rfl) | (with_reducible apply DL.m_own; rfl) | (with_reducible apply DL.f_set; rfl; focus ((try simp only [List.cons_append, List.nil_append, List.replicate_succ, List.replicate_zero, Nat.reduceSub, List.set_cons_zero, List.set_cons_succ, DL.with_arg, DL.with_own, DL.wipeD, List.map_cons, List.map_nil, DL.toArg, DL.back2, DL.back2a, DL.back, DL.back1]); rfl)) | with_reducible apply DL.f_app | with_reducible apply DL.f_ext | (with_reducible apply DL.set_goal; focus ((try simp only [List.cons_append, List.nil_append, List.replicate_succ, List.replicate_zero, Nat.reduceSub, List.set_cons_zero, List.set_cons_succ, DL.with_arg, DL.with_own, DL.wipeD, List.map_cons, List.map_nil, DL.toArg, DL.back2, DL.back2a, DL.back, DL.back1]); rfl)) | with_reducible apply DL.s_seqG | with_reducible apply DL.step_b | with_reducible apply DL.k_nx | with_reducible exact DL.k_rt | with_reducible exact DL.k_ct | with_reducible exact DL.k_bk | with_reducible apply DL.s_asgG | with_reducible apply DL.s_asg | with_reducible apply DL.s_drop | with_reducible apply DL.s_ret | with_reducible apply DL.s_if | with_reducible exact DL.s_skip | (with_reducible apply DL.f_eq; (first | rfl | assumption); (first | rfl | assumption)) | (with_reducible apply DL.f_ne; (first | rfl | assumption); (first | rfl | assumption)) | with_reducible apply DL.f_addT | (with_reducible apply DL.f_ixT; assumption) | (with_reducible apply DL.f_ixL; assumption) | with_reducible apply DL.f_addL | with_reducible apply DL.s_par | with_reducible apply DL.s_for | with_reducible apply DL.i_it | with_reducible apply DL.i_r1 | with_reducible apply DL.r_lc | with_reducible apply DL.r_lc2 | with_reducible apply DL.i_enumT | with_reducible exact DL.t_yes | with_reducible apply DL.turn_e | with_reducible apply DL.g_tup | with_reducible apply DL.g_lst | with_reducible apply DL.g_cons | with_reducible exact DL.g_nil | with_reducible apply DL.g_n | (with_reducible apply DL.set_fz; rfl; focus ((try simp only [List.cons_append, List.nil_append, List.replicate_succ, List.replicate_zero, Nat.reduceSub, List.set_cons_zero, List.set_cons_succ, DL.with_arg, DL.with_own, DL.wipeD, List.map_cons, List.map_nil, DL.toArg, DL.back2, DL.back2a, DL.back, DL.back1]); rfl)) | (with_reducible apply DL.set_own; rfl; focus ((try simp only [List.cons_append, List.nil_append, List.replicate_succ, List.replicate_zero, Nat.reduceSub, List.set_cons_zero, List.set_cons_succ, DL.with_arg, DL.with_own, DL.wipeD, List.map_cons, List.map_nil, DL.toArg, DL.back2, DL.back2a, DL.back, DL.back1]); rfl)) | (with_reducible apply DL.p_t; (first | rfl | focus (simp [*]; done) | assumption)) | (with_reducible apply DL.p_f; (first | rfl | focus (simp [*]; done) | assumption)) | (with_reducible apply DL.v_fz; rfl) | (with_reducible apply DL.v_own; rfl) | (with_reducible apply DL.v_arg; rfl) | with_reducible exact DL.r_c | with_reducible apply DL.r_andB | with_reducible apply DL.r_bin | with_reducible apply DL.r_un | with_reducible apply DL.r_test | with_reducible apply DL.r_notV | with_reducible apply DL.r_and | with_reducible apply DL.r_or | with_reducible apply DL.r_not | with_reducible apply DL.r_if | with_reducible apply DL.r_chainB | with_reducible exact DL.l_nil | with_reducible apply DL.l_cons | with_reducible apply DL.r_tup | with_reducible apply DL.r_lst | with_reducible apply DL.o_some | with_reducible exact DL.o_none | with_reducible apply DL.r_sl | with_reducible exact DL.a_nil | with_reducible apply DL.a_val | with_reducible apply DL.a_ref | (with_reducible apply DL.small_of; focus (first | omega | (simp <;> omega))) | with_reducible apply DL.r_callR | with_reducible apply DL.r_call | (first | with_reducible apply i_zip | with_reducible apply r_frz | exact e_is_row_of _ _ | exact e_is_row _ | exact e_is_below _ _ | exact e_is_whole _ | assumption) | (with_reducible apply DL.f_mod; (first | assumption | omega | focus (simp; omega))) | (with_reducible apply DL.f_div; (first | assumption | omega | focus (simp; omega))) | with_reducible apply DL.f_mulI | (with_reducible apply DL.wide_lt; (first | assumption | omega | focus (simp; omega))) | rfl | (focus ((try simp only [List.cons_append, List.nil_append, List.replicate_succ, List.replicate_zero, Nat.reduceSub, List.set_cons_zero, List.set_cons_succ, DL.with_arg, DL.with_own, DL.wipeD, List.map_cons, List.map_nil, DL.toArg, DL.back2, DL.back2a, DL.back, DL.back1]); rfl); done)))
  all_goals rfl

end Lk13
namespace Lk13
open PySem PySem.Spec PyProof.Rows L2 DL
theorem ok_law_fn {P : Program} {w : World} {K : PySem.W.Frag} {mg : Str → Option Value} {base : Heap} (T : Txt K mg) {f : Addr} {fd : FuncData} (F : Fun K "law" "law" s_law f fd) (c__law_reel : Cal P w K mg base 1 "_law_reel" P__law_reel d__law_reel) (c__law_net : Cal P w K mg base 2 "_law_net" P__law_net d__law_net) (c__law_right : Cal P w K mg base 8 "_law_right" P__law_right d__law_right) : FnOk P w K mg base CX0 9 f fd ["script"] (dsp K d_law) :=
  fn_n F sc_law fun cdv A outer s H E hr =>
    (pds_cons (pds_set 1 (pd_cal c__law_reel (hr.mono (by decide)) (paa_val (pd_var 0) paa_nil)) sc_law.nd) (pds_cons (pds_for PassesOwn.never (pdi_range1 T.b_range (pad_cons (pd_add pd_int (pd_min2 T.b_min (pd_len T.b_len (pd_var 0)) pd_int)) pad_nil)) (pdg_name 2 sc_law.nd) (pds_cons (pds_asg (pd_cal c__law_net (hr.mono (by decide)) (paa_ref 1 (paa_val pd_int paa_nil))) (pdg_tup (pdgs_cons (pdg_name 3 sc_law.nd) (pdgs_cons (pdg_name 4 sc_law.nd) pdgs_nil)))) (pds_cons (pds_set 5 (pd_tup (pad_cons (pd_max2 T.b_max pd_int (pd_var 3)) (pad_cons (pd_if (ptd_ne hr.units (pd_var 4) (pd_tup pad_nil)) (pd_var 4) (pd_tup (pad_cons (pd_tup (pad_cons pd_int (pad_cons pd_int (pad_cons pd_str pad_nil)))) pad_nil))) pad_nil))) sc_law.nd) (pds_one (pds_if (ptd_not (pdt_val (pd_cal c__law_right (hr.mono (by decide)) (paa_ref 1 (paa_val (pd_var 5) paa_nil))))) (pds_one (pds_ret pd_bl)) pds_nil))))) (pds_one (pds_ret pd_bl))))
theorem all_mk {l : PySem.W.OpenLaw} {w : World} {K : PySem.W.Frag} {h : Heap} {mg : Str → Option Value} {fa : Addr} (X : K.In h) (G : h.Ns mainGlobals mg) (hfa : mg "law" = some (.ref fa))
    {od0 an0 : Option Addr} {sl0 : Array (Option Value)} {oc0 kV0 dc0 pm0 cd0 ct0 : Value} {f0 : Addr} {od1 an1 : Option Addr} {sl1 : Array (Option Value)} {oc1 kV1 dc1 pm1 cd1 ct1 : Value} {f1 : Addr} {od2 an2 : Option Addr} {sl2 : Array (Option Value)} {oc2 kV2 dc2 pm2 cd2 ct2 : Value} {f2 : Addr} {od3 an3 : Option Addr} {sl3 : Array (Option Value)} {oc3 kV3 dc3 pm3 cd3 ct3 : Value} {f3 : Addr} {od4 an4 : Option Addr} {sl4 : Array (Option Value)} {oc4 kV4 dc4 pm4 cd4 ct4 : Value} {f4 : Addr} {od5 an5 : Option Addr} {sl5 : Array (Option Value)} {oc5 kV5 dc5 pm5 cd5 ct5 : Value} {f5 : Addr} {od6 an6 : Option Addr} {sl6 : Array (Option Value)} {oc6 kV6 dc6 pm6 cd6 ct6 : Value} {f6 : Addr} {od7 an7 : Option Addr} {sl7 : Array (Option Value)} {oc7 kV7 dc7 pm7 cd7 ct7 : Value} {f7 : Addr} {od8 an8 : Option Addr} {sl8 : Array (Option Value)} {oc8 kV8 dc8 pm8 cd8 ct8 : Value} {f8 : Addr} {od9 an9 : Option Addr} {sl9 : Array (Option Value)} {oc9 kV9 dc9 pm9 cd9 ct9 : Value} {f9 : Addr} {od10 an10 : Option Addr} {sl10 : Array (Option Value)} {oc10 kV10 dc10 pm10 cd10 ct10 : Value} {f10 : Addr} {od11 an11 : Option Addr} {sl11 : Array (Option Value)} {oc11 kV11 dc11 pm11 cd11 ct11 : Value} {f11 : Addr} {od12 an12 : Option Addr} {sl12 : Array (Option Value)} {oc12 kV12 dc12 pm12 cd12 ct12 : Value} {f12 : Addr} {od13 an13 : Option Addr} {sl13 : Array (Option Value)} {oc13 kV13 dc13 pm13 cd13 ct13 : Value} {f13 : Addr} {od14 an14 : Option Addr} {sl14 : Array (Option Value)} {oc14 kV14 dc14 pm14 cd14 ct14 : Value} {f14 : Addr} {od15 an15 : Option Addr} {sl15 : Array (Option Value)} {oc15 kV15 dc15 pm15 cd15 ct15 : Value} {f15 : Addr} {od16 an16 : Option Addr} {sl16 : Array (Option Value)} {oc16 kV16 dc16 pm16 cd16 ct16 : Value} {f16 : Addr} {od17 an17 : Option Addr} {sl17 : Array (Option Value)} {oc17 kV17 dc17 pm17 cd17 ct17 : Value} {f17 : Addr} {od18 an18 : Option Addr} {sl18 : Array (Option Value)} {oc18 kV18 dc18 pm18 cd18 ct18 : Value} {f18 : Addr} {od19 an19 : Option Addr} {sl19 : Array (Option Value)} {oc19 kV19 dc19 pm19 cd19 ct19 : Value} {f19 : Addr} {od20 an20 : Option Addr} {sl20 : Array (Option Value)} {oc20 kV20 dc20 pm20 cd20 ct20 : Value} {f20 : Addr} {od21 an21 : Option Addr} {sl21 : Array (Option Value)} {oc21 kV21 dc21 pm21 cd21 ct21 : Value} {f21 : Addr} {od22 an22 : Option Addr} {sl22 : Array (Option Value)} {oc22 kV22 dc22 pm22 cd22 ct22 : Value} {f22 : Addr} {od23 an23 : Option Addr} {sl23 : Array (Option Value)} {oc23 kV23 dc23 pm23 cd23 ct23 : Value} {f23 : Addr} {od24 an24 : Option Addr} {sl24 : Array (Option Value)} {oc24 kV24 dc24 pm24 cd24 ct24 : Value} {f24 : Addr} {od25 an25 : Option Addr} {sl25 : Array (Option Value)} {oc25 kV25 dc25 pm25 cd25 ct25 : Value} {f25 : Addr} {od26 an26 : Option Addr} {sl26 : Array (Option Value)} {oc26 kV26 dc26 pm26 cd26 ct26 : Value} {f26 : Addr} {od27 an27 : Option Addr} {sl27 : Array (Option Value)} {oc27 kV27 dc27 pm27 cd27 ct27 : Value} {f27 : Addr} {od28 an28 : Option Addr} {sl28 : Array (Option Value)} {oc28 kV28 dc28 pm28 cd28 ct28 : Value} {f28 : Addr}
        (a0 : PySem.W.nsIn K mainGlobals "is_whole" = some (some (.ref f0))) (l0 : K.lookup f0 = some ⟨oc0, od0, .func (PySem.W.fnOf "is_whole" "is_whole" (defArgs s_is_whole) (defBody s_is_whole) (defScope s_is_whole) .none kV0 dc0 pm0 an0 cd0 ct0), sl0⟩) (c0 : PySem.W.codeIn K cd0 "is_whole" = true) (k0 : PySem.W.keepIn K (.ref f0) = true)
    (a1 : PySem.W.nsIn K mainGlobals "is_below" = some (some (.ref f1))) (l1 : K.lookup f1 = some ⟨oc1, od1, .func (PySem.W.fnOf "is_below" "is_below" (defArgs s_is_below) (defBody s_is_below) (defScope s_is_below) .none kV1 dc1 pm1 an1 cd1 ct1), sl1⟩) (c1 : PySem.W.codeIn K cd1 "is_below" = true) (k1 : PySem.W.keepIn K (.ref f1) = true)
    (a2 : PySem.W.nsIn K mainGlobals "is_row" = some (some (.ref f2))) (l2 : K.lookup f2 = some ⟨oc2, od2, .func (PySem.W.fnOf "is_row" "is_row" (defArgs s_is_row) (defBody s_is_row) (defScope s_is_row) .none kV2 dc2 pm2 an2 cd2 ct2), sl2⟩) (c2 : PySem.W.codeIn K cd2 "is_row" = true) (k2 : PySem.W.keepIn K (.ref f2) = true)
    (a3 : PySem.W.nsIn K mainGlobals "is_row_of" = some (some (.ref f3))) (l3 : K.lookup f3 = some ⟨oc3, od3, .func (PySem.W.fnOf "is_row_of" "is_row_of" (defArgs s_is_row_of) (defBody s_is_row_of) (defScope s_is_row_of) .none kV3 dc3 pm3 an3 cd3 ct3), sl3⟩) (c3 : PySem.W.codeIn K cd3 "is_row_of" = true) (k3 : PySem.W.keepIn K (.ref f3) = true)
    (a4 : PySem.W.nsIn K mainGlobals "is_company" = some (some (.ref f4))) (l4 : K.lookup f4 = some ⟨oc4, od4, .func (PySem.W.fnOf "is_company" "is_company" (defArgs s_is_company) (defBody s_is_company) (defScope s_is_company) .none kV4 dc4 pm4 an4 cd4 ct4), sl4⟩) (c4 : PySem.W.codeIn K cd4 "is_company" = true) (k4 : PySem.W.keepIn K (.ref f4) = true)
    (a5 : PySem.W.nsIn K mainGlobals "is_line" = some (some (.ref f5))) (l5 : K.lookup f5 = some ⟨oc5, od5, .func (PySem.W.fnOf "is_line" "is_line" (defArgs s_is_line) (defBody s_is_line) (defScope s_is_line) .none kV5 dc5 pm5 an5 cd5 ct5), sl5⟩) (c5 : PySem.W.codeIn K cd5 "is_line" = true) (k5 : PySem.W.keepIn K (.ref f5) = true)
    (a6 : PySem.W.nsIn K mainGlobals "web_of" = some (some (.ref f6))) (l6 : K.lookup f6 = some ⟨oc6, od6, .func (PySem.W.fnOf "web_of" "web_of" (defArgs s_web_of) (defBody s_web_of) (defScope s_web_of) .none kV6 dc6 pm6 an6 cd6 ct6), sl6⟩) (c6 : PySem.W.codeIn K cd6 "web_of" = true) (k6 : PySem.W.keepIn K (.ref f6) = true)
    (a7 : PySem.W.nsIn K mainGlobals "is_end" = some (some (.ref f7))) (l7 : K.lookup f7 = some ⟨oc7, od7, .func (PySem.W.fnOf "is_end" "is_end" (defArgs s_is_end) (defBody s_is_end) (defScope s_is_end) .none kV7 dc7 pm7 an7 cd7 ct7), sl7⟩) (c7 : PySem.W.codeIn K cd7 "is_end" = true) (k7 : PySem.W.keepIn K (.ref f7) = true)
    (a8 : PySem.W.nsIn K mainGlobals "checked_web" = some (some (.ref f8))) (l8 : K.lookup f8 = some ⟨oc8, od8, .func (PySem.W.fnOf "checked_web" "checked_web" (defArgs s_checked_web) (defBody s_checked_web) (defScope s_checked_web) .none kV8 dc8 pm8 an8 cd8 ct8), sl8⟩) (c8 : PySem.W.codeIn K cd8 "checked_web" = true) (k8 : PySem.W.keepIn K (.ref f8) = true)
    (a9 : PySem.W.nsIn K mainGlobals "check_place" = some (some (.ref f9))) (l9 : K.lookup f9 = some ⟨oc9, od9, .func (PySem.W.fnOf "check_place" "check_place" (defArgs s_check_place) (defBody s_check_place) (defScope s_check_place) .none kV9 dc9 pm9 an9 cd9 ct9), sl9⟩) (c9 : PySem.W.codeIn K cd9 "check_place" = true) (k9 : PySem.W.keepIn K (.ref f9) = true)
    (a10 : PySem.W.nsIn K mainGlobals "check_line" = some (some (.ref f10))) (l10 : K.lookup f10 = some ⟨oc10, od10, .func (PySem.W.fnOf "check_line" "check_line" (defArgs s_check_line) (defBody s_check_line) (defScope s_check_line) .none kV10 dc10 pm10 an10 cd10 ct10), sl10⟩) (c10 : PySem.W.codeIn K cd10 "check_line" = true) (k10 : PySem.W.keepIn K (.ref f10) = true)
    (a11 : PySem.W.nsIn K mainGlobals "check_company" = some (some (.ref f11))) (l11 : K.lookup f11 = some ⟨oc11, od11, .func (PySem.W.fnOf "check_company" "check_company" (defArgs s_check_company) (defBody s_check_company) (defScope s_check_company) .none kV11 dc11 pm11 an11 cd11 ct11), sl11⟩) (c11 : PySem.W.codeIn K cd11 "check_company" = true) (k11 : PySem.W.keepIn K (.ref f11) = true)
    (a12 : PySem.W.nsIn K mainGlobals "ends_of" = some (some (.ref f12))) (l12 : K.lookup f12 = some ⟨oc12, od12, .func (PySem.W.fnOf "ends_of" "ends_of" (defArgs s_ends_of) (defBody s_ends_of) (defScope s_ends_of) .none kV12 dc12 pm12 an12 cd12 ct12), sl12⟩) (c12 : PySem.W.codeIn K cd12 "ends_of" = true) (k12 : PySem.W.keepIn K (.ref f12) = true)
    (a13 : PySem.W.nsIn K mainGlobals "ends_at" = some (some (.ref f13))) (l13 : K.lookup f13 = some ⟨oc13, od13, .func (PySem.W.fnOf "ends_at" "ends_at" (defArgs s_ends_at) (defBody s_ends_at) (defScope s_ends_at) .none kV13 dc13 pm13 an13 cd13 ct13), sl13⟩) (c13 : PySem.W.codeIn K cd13 "ends_at" = true) (k13 : PySem.W.keepIn K (.ref f13) = true)
    (a14 : PySem.W.nsIn K mainGlobals "with_line" = some (some (.ref f14))) (l14 : K.lookup f14 = some ⟨oc14, od14, .func (PySem.W.fnOf "with_line" "with_line" (defArgs s_with_line) (defBody s_with_line) (defScope s_with_line) .none kV14 dc14 pm14 an14 cd14 ct14), sl14⟩) (c14 : PySem.W.codeIn K cd14 "with_line" = true) (k14 : PySem.W.keepIn K (.ref f14) = true)
    (a15 : PySem.W.nsIn K mainGlobals "replaced" = some (some (.ref f15))) (l15 : K.lookup f15 = some ⟨oc15, od15, .func (PySem.W.fnOf "replaced" "replaced" (defArgs s_replaced) (defBody s_replaced) (defScope s_replaced) .none kV15 dc15 pm15 an15 cd15 ct15), sl15⟩) (c15 : PySem.W.codeIn K cd15 "replaced" = true) (k15 : PySem.W.keepIn K (.ref f15) = true)
    (a16 : PySem.W.nsIn K mainGlobals "painted" = some (some (.ref f16))) (l16 : K.lookup f16 = some ⟨oc16, od16, .func (PySem.W.fnOf "painted" "painted" (defArgs s_painted) (defBody s_painted) (defScope s_painted) .none kV16 dc16 pm16 an16 cd16 ct16), sl16⟩) (c16 : PySem.W.codeIn K cd16 "painted" = true) (k16 : PySem.W.keepIn K (.ref f16) = true)
    (a17 : PySem.W.nsIn K mainGlobals "merged" = some (some (.ref f17))) (l17 : K.lookup f17 = some ⟨oc17, od17, .func (PySem.W.fnOf "merged" "merged" (defArgs s_merged) (defBody s_merged) (defScope s_merged) .none kV17 dc17 pm17 an17 cd17 ct17), sl17⟩) (c17 : PySem.W.codeIn K cd17 "merged" = true) (k17 : PySem.W.keepIn K (.ref f17) = true)
    (a18 : PySem.W.nsIn K mainGlobals "loosened" = some (some (.ref f18))) (l18 : K.lookup f18 = some ⟨oc18, od18, .func (PySem.W.fnOf "loosened" "loosened" (defArgs s_loosened) (defBody s_loosened) (defScope s_loosened) .none kV18 dc18 pm18 an18 cd18 ct18), sl18⟩) (c18 : PySem.W.codeIn K cd18 "loosened" = true) (k18 : PySem.W.keepIn K (.ref f18) = true)
    (a19 : PySem.W.nsIn K mainGlobals "groups_of" = some (some (.ref f19))) (l19 : K.lookup f19 = some ⟨oc19, od19, .func (PySem.W.fnOf "groups_of" "groups_of" (defArgs s_groups_of) (defBody s_groups_of) (defScope s_groups_of) .none kV19 dc19 pm19 an19 cd19 ct19), sl19⟩) (c19 : PySem.W.codeIn K cd19 "groups_of" = true) (k19 : PySem.W.keepIn K (.ref f19) = true)
    (a20 : PySem.W.nsIn K mainGlobals "want_of" = some (some (.ref f20))) (l20 : K.lookup f20 = some ⟨oc20, od20, .func (PySem.W.fnOf "want_of" "want_of" (defArgs s_want_of) (defBody s_want_of) (defScope s_want_of) .none kV20 dc20 pm20 an20 cd20 ct20), sl20⟩) (c20 : PySem.W.codeIn K cd20 "want_of" = true) (k20 : PySem.W.keepIn K (.ref f20) = true)
    (a21 : PySem.W.nsIn K mainGlobals "want_at" = some (some (.ref f21))) (l21 : K.lookup f21 = some ⟨oc21, od21, .func (PySem.W.fnOf "want_at" "want_at" (defArgs s_want_at) (defBody s_want_at) (defScope s_want_at) .none kV21 dc21 pm21 an21 cd21 ct21), sl21⟩) (c21 : PySem.W.codeIn K cd21 "want_at" = true) (k21 : PySem.W.keepIn K (.ref f21) = true)
    (a22 : PySem.W.nsIn K mainGlobals "wants" = some (some (.ref f22))) (l22 : K.lookup f22 = some ⟨oc22, od22, .func (PySem.W.fnOf "wants" "wants" (defArgs s_wants) (defBody s_wants) (defScope s_wants) .none kV22 dc22 pm22 an22 cd22 ct22), sl22⟩) (c22 : PySem.W.codeIn K cd22 "wants" = true) (k22 : PySem.W.keepIn K (.ref f22) = true)
    (a23 : PySem.W.nsIn K mainGlobals "_law_reel" = some (some (.ref f23))) (l23 : K.lookup f23 = some ⟨oc23, od23, .func (PySem.W.fnOf "_law_reel" "_law_reel" (defArgs s__law_reel) (defBody s__law_reel) (defScope s__law_reel) .none kV23 dc23 pm23 an23 cd23 ct23), sl23⟩) (c23 : PySem.W.codeIn K cd23 "_law_reel" = true) (k23 : PySem.W.keepIn K (.ref f23) = true)
    (a24 : PySem.W.nsIn K mainGlobals "_law_draw" = some (some (.ref f24))) (l24 : K.lookup f24 = some ⟨oc24, od24, .func (PySem.W.fnOf "_law_draw" "_law_draw" (defArgs s__law_draw) (defBody s__law_draw) (defScope s__law_draw) .none kV24 dc24 pm24 an24 cd24 ct24), sl24⟩) (c24 : PySem.W.codeIn K cd24 "_law_draw" = true) (k24 : PySem.W.keepIn K (.ref f24) = true)
    (a25 : PySem.W.nsIn K mainGlobals "_law_net" = some (some (.ref f25))) (l25 : K.lookup f25 = some ⟨oc25, od25, .func (PySem.W.fnOf "_law_net" "_law_net" (defArgs s__law_net) (defBody s__law_net) (defScope s__law_net) .none kV25 dc25 pm25 an25 cd25 ct25), sl25⟩) (c25 : PySem.W.codeIn K cd25 "_law_net" = true) (k25 : PySem.W.keepIn K (.ref f25) = true)
    (a26 : PySem.W.nsIn K mainGlobals "_law_line_right" = some (some (.ref f26))) (l26 : K.lookup f26 = some ⟨oc26, od26, .func (PySem.W.fnOf "_law_line_right" "_law_line_right" (defArgs s__law_line_right) (defBody s__law_line_right) (defScope s__law_line_right) .none kV26 dc26 pm26 an26 cd26 ct26), sl26⟩) (c26 : PySem.W.codeIn K cd26 "_law_line_right" = true) (k26 : PySem.W.keepIn K (.ref f26) = true)
    (a27 : PySem.W.nsIn K mainGlobals "_law_right" = some (some (.ref f27))) (l27 : K.lookup f27 = some ⟨oc27, od27, .func (PySem.W.fnOf "_law_right" "_law_right" (defArgs s__law_right) (defBody s__law_right) (defScope s__law_right) .none kV27 dc27 pm27 an27 cd27 ct27), sl27⟩) (c27 : PySem.W.codeIn K cd27 "_law_right" = true) (k27 : PySem.W.keepIn K (.ref f27) = true)
    (a28 : PySem.W.nsIn K mainGlobals "law" = some (some (.ref f28))) (l28 : K.lookup f28 = some ⟨oc28, od28, .func (PySem.W.fnOf "law" "law" (defArgs s_law) (defBody s_law) (defScope s_law) .none kV28 dc28 pm28 an28 cd28 ct28), sl28⟩) (c28 : PySem.W.codeIn K cd28 "law" = true) (k28 : PySem.W.keepIn K (.ref f28) = true)
    (z_abs : PySem.W.nsIn K mainGlobals "abs" = some none) (z_bool : PySem.W.nsIn K mainGlobals "bool" = some none) (z_enumerate : PySem.W.nsIn K mainGlobals "enumerate" = some none) (z_int : PySem.W.nsIn K mainGlobals "int" = some none) (z_isinstance : PySem.W.nsIn K mainGlobals "isinstance" = some none) (z_len : PySem.W.nsIn K mainGlobals "len" = some none) (z_list : PySem.W.nsIn K mainGlobals "list" = some none) (z_max : PySem.W.nsIn K mainGlobals "max" = some none) (z_min : PySem.W.nsIn K mainGlobals "min" = some none) (z_range : PySem.W.nsIn K mainGlobals "range" = some none) (z_str : PySem.W.nsIn K mainGlobals "str" = some none) (z_sum : PySem.W.nsIn K mainGlobals "sum" = some none) (z_tuple : PySem.W.nsIn K mainGlobals "tuple" = some none) (z_zip : PySem.W.nsIn K mainGlobals "zip" = some none) :
    ∃ fd : FuncData, (∀ (s : Shared) (v : Value), BindsTo s fd ⟨[v], []⟩ [("script", v)]) ∧ ∀ base : Heap, K.In base → base.Ns mainGlobals mg → FnOk l.prog w K mg base CX0 9 fa fd ["script"] (dsp K d_law) := by
  have e := hfa.symm.trans (PySem.W.mg_of X G a28)
  cases e
  have D0 : Dfn K mg "is_whole" s_is_whole P_is_whole := ⟨f0, _, fun_mk (st := s_is_whole) l0 c0 k0, PySem.W.mg_of X G a0, k0, (fun_mk (st := s_is_whole) l0 c0 k0).binds (ps := P_is_whole) fun _ _ _ _ _ _ us hl => match us, hl with | [_], _ => rfl⟩
  have D1 : Dfn K mg "is_below" s_is_below P_is_below := ⟨f1, _, fun_mk (st := s_is_below) l1 c1 k1, PySem.W.mg_of X G a1, k1, (fun_mk (st := s_is_below) l1 c1 k1).binds (ps := P_is_below) fun _ _ _ _ _ _ us hl => match us, hl with | [_, _], _ => rfl⟩
  have D2 : Dfn K mg "is_row" s_is_row P_is_row := ⟨f2, _, fun_mk (st := s_is_row) l2 c2 k2, PySem.W.mg_of X G a2, k2, (fun_mk (st := s_is_row) l2 c2 k2).binds (ps := P_is_row) fun _ _ _ _ _ _ us hl => match us, hl with | [_], _ => rfl⟩
  have D3 : Dfn K mg "is_row_of" s_is_row_of P_is_row_of := ⟨f3, _, fun_mk (st := s_is_row_of) l3 c3 k3, PySem.W.mg_of X G a3, k3, (fun_mk (st := s_is_row_of) l3 c3 k3).binds (ps := P_is_row_of) fun _ _ _ _ _ _ us hl => match us, hl with | [_, _], _ => rfl⟩
  have D4 : Dfn K mg "is_company" s_is_company P_is_company := ⟨f4, _, fun_mk (st := s_is_company) l4 c4 k4, PySem.W.mg_of X G a4, k4, (fun_mk (st := s_is_company) l4 c4 k4).binds (ps := P_is_company) fun _ _ _ _ _ _ us hl => match us, hl with | [_], _ => rfl⟩
  have D5 : Dfn K mg "is_line" s_is_line P_is_line := ⟨f5, _, fun_mk (st := s_is_line) l5 c5 k5, PySem.W.mg_of X G a5, k5, (fun_mk (st := s_is_line) l5 c5 k5).binds (ps := P_is_line) fun _ _ _ _ _ _ us hl => match us, hl with | [_, _], _ => rfl⟩
  have D6 : Dfn K mg "web_of" s_web_of P_web_of := ⟨f6, _, fun_mk (st := s_web_of) l6 c6 k6, PySem.W.mg_of X G a6, k6, (fun_mk (st := s_web_of) l6 c6 k6).binds (ps := P_web_of) fun _ _ _ _ _ _ us hl => match us, hl with | [_, _], _ => rfl⟩
  have D7 : Dfn K mg "is_end" s_is_end P_is_end := ⟨f7, _, fun_mk (st := s_is_end) l7 c7 k7, PySem.W.mg_of X G a7, k7, (fun_mk (st := s_is_end) l7 c7 k7).binds (ps := P_is_end) fun _ _ _ _ _ _ us hl => match us, hl with | [_, _], _ => rfl⟩
  have D8 : Dfn K mg "checked_web" s_checked_web P_checked_web := ⟨f8, _, fun_mk (st := s_checked_web) l8 c8 k8, PySem.W.mg_of X G a8, k8, (fun_mk (st := s_checked_web) l8 c8 k8).binds (ps := P_checked_web) fun _ _ _ _ _ _ us hl => match us, hl with | [_], _ => rfl⟩
  have D9 : Dfn K mg "check_place" s_check_place P_check_place := ⟨f9, _, fun_mk (st := s_check_place) l9 c9 k9, PySem.W.mg_of X G a9, k9, (fun_mk (st := s_check_place) l9 c9 k9).binds (ps := P_check_place) fun _ _ _ _ _ _ us hl => match us, hl with | [_, _], _ => rfl⟩
  have D10 : Dfn K mg "check_line" s_check_line P_check_line := ⟨f10, _, fun_mk (st := s_check_line) l10 c10 k10, PySem.W.mg_of X G a10, k10, (fun_mk (st := s_check_line) l10 c10 k10).binds (ps := P_check_line) fun _ _ _ _ _ _ us hl => match us, hl with | [_, _], _ => rfl⟩
  have D11 : Dfn K mg "check_company" s_check_company P_check_company := ⟨f11, _, fun_mk (st := s_check_company) l11 c11 k11, PySem.W.mg_of X G a11, k11, (fun_mk (st := s_check_company) l11 c11 k11).binds (ps := P_check_company) fun _ _ _ _ _ _ us hl => match us, hl with | [_], _ => rfl⟩
  have D12 : Dfn K mg "ends_of" s_ends_of P_ends_of := ⟨f12, _, fun_mk (st := s_ends_of) l12 c12 k12, PySem.W.mg_of X G a12, k12, (fun_mk (st := s_ends_of) l12 c12 k12).binds (ps := P_ends_of) fun _ _ _ _ _ _ us hl => match us, hl with | [_, _], _ => rfl⟩
  have D13 : Dfn K mg "ends_at" s_ends_at P_ends_at := ⟨f13, _, fun_mk (st := s_ends_at) l13 c13 k13, PySem.W.mg_of X G a13, k13, (fun_mk (st := s_ends_at) l13 c13 k13).binds (ps := P_ends_at) fun _ _ _ _ _ _ us hl => match us, hl with | [_, _], _ => rfl⟩
  have D14 : Dfn K mg "with_line" s_with_line P_with_line := ⟨f14, _, fun_mk (st := s_with_line) l14 c14 k14, PySem.W.mg_of X G a14, k14, (fun_mk (st := s_with_line) l14 c14 k14).binds (ps := P_with_line) fun _ _ _ _ _ _ us hl => match us, hl with | [_, _, _, _], _ => rfl⟩
  have D15 : Dfn K mg "replaced" s_replaced P_replaced := ⟨f15, _, fun_mk (st := s_replaced) l15 c15 k15, PySem.W.mg_of X G a15, k15, (fun_mk (st := s_replaced) l15 c15 k15).binds (ps := P_replaced) fun _ _ _ _ _ _ us hl => match us, hl with | [_, _, _], _ => rfl⟩
  have D16 : Dfn K mg "painted" s_painted P_painted := ⟨f16, _, fun_mk (st := s_painted) l16 c16 k16, PySem.W.mg_of X G a16, k16, (fun_mk (st := s_painted) l16 c16 k16).binds (ps := P_painted) fun _ _ _ _ _ _ us hl => match us, hl with | [_, _, _], _ => rfl⟩
  have D17 : Dfn K mg "merged" s_merged P_merged := ⟨f17, _, fun_mk (st := s_merged) l17 c17 k17, PySem.W.mg_of X G a17, k17, (fun_mk (st := s_merged) l17 c17 k17).binds (ps := P_merged) fun _ _ _ _ _ _ us hl => match us, hl with | [_, _, _], _ => rfl⟩
  have D18 : Dfn K mg "loosened" s_loosened P_loosened := ⟨f18, _, fun_mk (st := s_loosened) l18 c18 k18, PySem.W.mg_of X G a18, k18, (fun_mk (st := s_loosened) l18 c18 k18).binds (ps := P_loosened) fun _ _ _ _ _ _ us hl => match us, hl with | [_, _], _ => rfl⟩
  have D19 : Dfn K mg "groups_of" s_groups_of P_groups_of := ⟨f19, _, fun_mk (st := s_groups_of) l19 c19 k19, PySem.W.mg_of X G a19, k19, (fun_mk (st := s_groups_of) l19 c19 k19).binds (ps := P_groups_of) fun _ _ _ _ _ _ us hl => match us, hl with | [_, _], _ => rfl⟩
  have D20 : Dfn K mg "want_of" s_want_of P_want_of := ⟨f20, _, fun_mk (st := s_want_of) l20 c20 k20, PySem.W.mg_of X G a20, k20, (fun_mk (st := s_want_of) l20 c20 k20).binds (ps := P_want_of) fun _ _ _ _ _ _ us hl => match us, hl with | [_], _ => rfl⟩
  have D21 : Dfn K mg "want_at" s_want_at P_want_at := ⟨f21, _, fun_mk (st := s_want_at) l21 c21 k21, PySem.W.mg_of X G a21, k21, (fun_mk (st := s_want_at) l21 c21 k21).binds (ps := P_want_at) fun _ _ _ _ _ _ us hl => match us, hl with | [_, _], _ => rfl⟩
  have D22 : Dfn K mg "wants" s_wants P_wants := ⟨f22, _, fun_mk (st := s_wants) l22 c22 k22, PySem.W.mg_of X G a22, k22, (fun_mk (st := s_wants) l22 c22 k22).binds (ps := P_wants) fun _ _ _ _ _ _ us hl => match us, hl with | [_], _ => rfl⟩
  have D23 : Dfn K mg "_law_reel" s__law_reel P__law_reel := ⟨f23, _, fun_mk (st := s__law_reel) l23 c23 k23, PySem.W.mg_of X G a23, k23, (fun_mk (st := s__law_reel) l23 c23 k23).binds (ps := P__law_reel) fun _ _ _ _ _ _ us hl => match us, hl with | [_], _ => rfl⟩
  have D24 : Dfn K mg "_law_draw" s__law_draw P__law_draw := ⟨f24, _, fun_mk (st := s__law_draw) l24 c24 k24, PySem.W.mg_of X G a24, k24, (fun_mk (st := s__law_draw) l24 c24 k24).binds (ps := P__law_draw) fun _ _ _ _ _ _ us hl => match us, hl with | [_, _], _ => rfl⟩
  have D25 : Dfn K mg "_law_net" s__law_net P__law_net := ⟨f25, _, fun_mk (st := s__law_net) l25 c25 k25, PySem.W.mg_of X G a25, k25, (fun_mk (st := s__law_net) l25 c25 k25).binds (ps := P__law_net) fun _ _ _ _ _ _ us hl => match us, hl with | [_, _], _ => rfl⟩
  have D26 : Dfn K mg "_law_line_right" s__law_line_right P__law_line_right := ⟨f26, _, fun_mk (st := s__law_line_right) l26 c26 k26, PySem.W.mg_of X G a26, k26, (fun_mk (st := s__law_line_right) l26 c26 k26).binds (ps := P__law_line_right) fun _ _ _ _ _ _ us hl => match us, hl with | [_, _, _], _ => rfl⟩
  have D27 : Dfn K mg "_law_right" s__law_right P__law_right := ⟨f27, _, fun_mk (st := s__law_right) l27 c27 k27, PySem.W.mg_of X G a27, k27, (fun_mk (st := s__law_right) l27 c27 k27).binds (ps := P__law_right) fun _ _ _ _ _ _ us hl => match us, hl with | [_, _], _ => rfl⟩
  have T : Txt K mg := ⟨PySem.W.mg_none_of X G z_abs, PySem.W.mg_none_of X G z_bool, PySem.W.mg_none_of X G z_enumerate, PySem.W.mg_none_of X G z_int, PySem.W.mg_none_of X G z_isinstance, PySem.W.mg_none_of X G z_len, PySem.W.mg_none_of X G z_list, PySem.W.mg_none_of X G z_max, PySem.W.mg_none_of X G z_min, PySem.W.mg_none_of X G z_range, PySem.W.mg_none_of X G z_str, PySem.W.mg_none_of X G z_sum, PySem.W.mg_none_of X G z_tuple, PySem.W.mg_none_of X G z_zip⟩
  refine ⟨PySem.W.fnOf "law" "law" (defArgs s_law) (defBody s_law) (defScope s_law) .none kV28 dc28 pm28 an28 cd28 ct28, fun s v => .of_eq rfl, fun base _ _ => ?_⟩
  have c_is_whole := ok_is_whole (P := l.prog) (w := w) (base := base) T D0 
  have c_is_below := ok_is_below (P := l.prog) (w := w) (base := base) T D1 c_is_whole
  have c_is_row := ok_is_row (P := l.prog) (w := w) (base := base) T D2 
  have c_is_row_of := ok_is_row_of (P := l.prog) (w := w) (base := base) T D3 c_is_row
  have c_is_company := ok_is_company (P := l.prog) (w := w) (base := base) T D4 
  have c_is_line := ok_is_line (P := l.prog) (w := w) (base := base) T D5 c_is_below c_is_row_of c_is_company
  have c_web_of := ok_web_of (P := l.prog) (w := w) (base := base) T D6 c_is_whole c_is_row c_is_line
  have c_is_end := ok_is_end (P := l.prog) (w := w) (base := base) T D7 c_is_below c_is_row_of
  have c_checked_web := ok_checked_web (P := l.prog) (w := w) (base := base) T D8 c_is_row_of c_web_of
  have c_check_place := ok_check_place (P := l.prog) (w := w) (base := base) T D9 c_is_below
  have c_check_line := ok_check_line (P := l.prog) (w := w) (base := base) T D10 c_is_below
  have c_check_company := ok_check_company (P := l.prog) (w := w) (base := base) T D11 c_is_company
  have c_ends_of := ok_ends_of (P := l.prog) (w := w) (base := base) T D12 
  have c_ends_at := ok_ends_at (P := l.prog) (w := w) (base := base) T D13 c_checked_web c_check_place c_ends_of
  have c_with_line := ok_with_line (P := l.prog) (w := w) (base := base) T D14 c_checked_web c_check_place c_check_company
  have c_replaced := ok_replaced (P := l.prog) (w := w) (base := base) T D15 
  have c_painted := ok_painted (P := l.prog) (w := w) (base := base) T D16 c_checked_web c_check_line c_check_company c_replaced
  have c_merged := ok_merged (P := l.prog) (w := w) (base := base) T D17 c_checked_web c_check_company
  have c_loosened := ok_loosened (P := l.prog) (w := w) (base := base) T D18 c_is_end c_checked_web c_replaced
  have c_groups_of := ok_groups_of (P := l.prog) (w := w) (base := base) T D19 c_ends_of
  have c_want_of := ok_want_of (P := l.prog) (w := w) (base := base) T D20 
  have c_want_at := ok_want_at (P := l.prog) (w := w) (base := base) T D21 c_checked_web c_check_place c_groups_of c_want_of
  have c_wants := ok_wants (P := l.prog) (w := w) (base := base) T D22 c_checked_web c_groups_of c_want_of
  have c__law_reel := ok__law_reel (P := l.prog) (w := w) (base := base) T D23 
  have c__law_draw := ok__law_draw (P := l.prog) (w := w) (base := base) T D24 
  have c__law_net := ok__law_net (P := l.prog) (w := w) (base := base) T D25 c__law_draw
  have c__law_line_right := ok__law_line_right (P := l.prog) (w := w) (base := base) T D26 c_ends_at c_with_line c_wants c__law_draw
  have c__law_right := ok__law_right (P := l.prog) (w := w) (base := base) T D27 c_painted c_merged c_loosened c_want_at c_wants c__law_draw c__law_line_right
  exact ok_law_fn T (fun_mk (st := s_law) l28 c28 k28) c__law_reel c__law_net c__law_right
end Lk13
open PySem PySem.W PyProof.Rows in
set_option maxRecDepth 100000 in
set_option maxHeartbeats 0 in
theorem PySem.Challenge.cw_changeride_k13_whole_wants_under_deeds_holds : PySem.Challenge.rw_changeride_k13_whole_wants_under_deeds.Holds := by
  w_on; o_law; k_head; (case hw => w_witness2)
  k_fill
  refine L2.walk_of (l := PySem.Challenge.rw_changeride_k13_whole_wants_under_deeds) (n := 63) (k := 9) (x := "script") (CX := fun _ => L2.CX0) (sp := fun w => DL.dsp _ Lk13.d_law) rfl (by decide) rfl ⟨rfl, by decide, by decide⟩ (fun w h Y => PySem.W.kIn_of Y) ?F (fun w H a ns hl _ hS => DL.law_sp hS (Lk13.law_true ns hl) fun _ => rfl) (fun _ _ _ _ _ h => h)
  case F =>
    intro w mg fa h KX G hmg
    refine' Lk13.all_mk KX G hmg ?a0 ?l0 ?c0 ?k0 ?a1 ?l1 ?c1 ?k1 ?a2 ?l2 ?c2 ?k2 ?a3 ?l3 ?c3 ?k3 ?a4 ?l4 ?c4 ?k4 ?a5 ?l5 ?c5 ?k5 ?a6 ?l6 ?c6 ?k6 ?a7 ?l7 ?c7 ?k7 ?a8 ?l8 ?c8 ?k8 ?a9 ?l9 ?c9 ?k9 ?a10 ?l10 ?c10 ?k10 ?a11 ?l11 ?c11 ?k11 ?a12 ?l12 ?c12 ?k12 ?a13 ?l13 ?c13 ?k13 ?a14 ?l14 ?c14 ?k14 ?a15 ?l15 ?c15 ?k15 ?a16 ?l16 ?c16 ?k16 ?a17 ?l17 ?c17 ?k17 ?a18 ?l18 ?c18 ?k18 ?a19 ?l19 ?c19 ?k19 ?a20 ?l20 ?c20 ?k20 ?a21 ?l21 ?c21 ?k21 ?a22 ?l22 ?c22 ?k22 ?a23 ?l23 ?c23 ?k23 ?a24 ?l24 ?c24 ?k24 ?a25 ?l25 ?c25 ?k25 ?a26 ?l26 ?c26 ?k26 ?a27 ?l27 ?c27 ?k27 ?a28 ?l28 ?c28 ?k28 ?z_abs ?z_bool ?z_enumerate ?z_int ?z_isinstance ?z_len ?z_list ?z_max ?z_min ?z_range ?z_str ?z_sum ?z_tuple ?z_zip
    (case a0 => k_is)
    (case l0 => k_is)
    (case c0 => k_is)
    (case k0 => k_is)
    (case a1 => k_is)
    (case l1 => k_is)
    (case c1 => k_is)
    (case k1 => k_is)
    (case a2 => k_is)
    (case l2 => k_is)
    (case c2 => k_is)
    (case k2 => k_is)
    (case a3 => k_is)
    (case l3 => k_is)
    (case c3 => k_is)
    (case k3 => k_is)
    (case a4 => k_is)
    (case l4 => k_is)
    (case c4 => k_is)
    (case k4 => k_is)
    (case a5 => k_is)
    (case l5 => k_is)
    (case c5 => k_is)
    (case k5 => k_is)
    (case a6 => k_is)
    (case l6 => k_is)
    (case c6 => k_is)
    (case k6 => k_is)
    (case a7 => k_is)
    (case l7 => k_is)
    (case c7 => k_is)
    (case k7 => k_is)
    (case a8 => k_is)
    (case l8 => k_is)
    (case c8 => k_is)
    (case k8 => k_is)
    (case a9 => k_is)
    (case l9 => k_is)
    (case c9 => k_is)
    (case k9 => k_is)
    (case a10 => k_is)
    (case l10 => k_is)
    (case c10 => k_is)
    (case k10 => k_is)
    (case a11 => k_is)
    (case l11 => k_is)
    (case c11 => k_is)
    (case k11 => k_is)
    (case a12 => k_is)
    (case l12 => k_is)
    (case c12 => k_is)
    (case k12 => k_is)
    (case a13 => k_is)
    (case l13 => k_is)
    (case c13 => k_is)
    (case k13 => k_is)
    (case a14 => k_is)
    (case l14 => k_is)
    (case c14 => k_is)
    (case k14 => k_is)
    (case a15 => k_is)
    (case l15 => k_is)
    (case c15 => k_is)
    (case k15 => k_is)
    (case a16 => k_is)
    (case l16 => k_is)
    (case c16 => k_is)
    (case k16 => k_is)
    (case a17 => k_is)
    (case l17 => k_is)
    (case c17 => k_is)
    (case k17 => k_is)
    (case a18 => k_is)
    (case l18 => k_is)
    (case c18 => k_is)
    (case k18 => k_is)
    (case a19 => k_is)
    (case l19 => k_is)
    (case c19 => k_is)
    (case k19 => k_is)
    (case a20 => k_is)
    (case l20 => k_is)
    (case c20 => k_is)
    (case k20 => k_is)
    (case a21 => k_is)
    (case l21 => k_is)
    (case c21 => k_is)
    (case k21 => k_is)
    (case a22 => k_is)
    (case l22 => k_is)
    (case c22 => k_is)
    (case k22 => k_is)
    (case a23 => k_is)
    (case l23 => k_is)
    (case c23 => k_is)
    (case k23 => k_is)
    (case a24 => k_is)
    (case l24 => k_is)
    (case c24 => k_is)
    (case k24 => k_is)
    (case a25 => k_is)
    (case l25 => k_is)
    (case c25 => k_is)
    (case k25 => k_is)
    (case a26 => k_is)
    (case l26 => k_is)
    (case c26 => k_is)
    (case k26 => k_is)
    (case a27 => k_is)
    (case l27 => k_is)
    (case c27 => k_is)
    (case k27 => k_is)
    (case a28 => k_is)
    (case l28 => k_is)
    (case c28 => k_is)
    (case k28 => k_is)
    (case z_abs => k_is)
    (case z_bool => k_is)
    (case z_enumerate => k_is)
    (case z_int => k_is)
    (case z_isinstance => k_is)
    (case z_len => k_is)
    (case z_list => k_is)
    (case z_max => k_is)
    (case z_min => k_is)
    (case z_range => k_is)
    (case z_str => k_is)
    (case z_sum => k_is)
    (case z_tuple => k_is)
    (case z_zip => k_is)
