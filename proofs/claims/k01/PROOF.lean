import PyProof.Rows.All
import Wide.All
import OpenK.AllK
import Wide.FinOn
import HandS.ForMost
import HandS.Wide
import HandS.IsInst
import HandS.Exc
import HandS.Flow
import HandS.TupAny
import HandS.TupMul
import HandS.TupLe
import HandS.NoneIn
import KE.GoesEnum
import KE.GoesMore
import KE.SortData
import KE.DataMinMax
import PySem.Challenge.RW_changeride_k01_webs_told
set_option Elab.async false
set_option linter.all false
set_option maxRecDepth 100000
set_option autoImplicit false
namespace DL
open PySem PySem.Spec PyProof.Rows L2

/-! ### data, slots, states -/
abbrev D := PyData
inductive Co where
  | lst (ds : List D) | dct (kvs : List (Key × D))
inductive Sl where
  | no | fz (d : D) | own (c : Co) | arg (c : Co)
inductive Vl where
  | fz (d : D) | own (c : Co) | loc (i : Nat)
abbrev DS := List Sl
inductive R (α : Type) where
  | ok (a : α) (s : DS) | ex (c : Value) (s : DS) | bad
@[simp] def R.bind {α β : Type} (r : R α) (k : α → DS → R β) : R β := match r with
  | .ok a s => k a s
  | .ex c s => .ex c s
  | .bad => .bad
@[simp] def Sl.held : Sl → Bool
  | .own _ => true | .arg _ => true | _ => false
def Sl.isArg : Sl → Bool
  | .arg _ => true | _ => false

/-- a key as data -/
def keyD : Key → D
  | .inl i => .int i
  | .inr x => .str x
/-- a dict that no row changes any more: its keys, its things -/
abbrev dctD (ks ds : List D) : D := .dict [(.bool true, .list ks), (.bool false, .list ds)]
mutual
/-- v is the data d, all of it in the part F of the heap -/
inductive Dp (K : PySem.W.Frag) (F : Hp) : V → D → Prop
  | non : Dp K F .non .none
  | bl (b : Bool) : Dp K F (.bl b) (.bool b)
  | int (i : Int) : Dp K F (.int i) (.int i)
  | str (x : Str) : Dp K F (.str x) (.str x)
  | lst {a : Addr} {xs : List V} {ds : List D} : F a = some (.lst xs) → DpAll K F xs ds → Dp K F (.ref a) (.list ds)
  | tup {a : Addr} {xs : List V} {ds : List D} : F a = some (.tup xs) → DpAll K F xs ds → Dp K F (.ref a) (.tuple ds)
  /-- the script: a list of ints that is only read -/
  | scr {a : Addr} {ns : List Int} : SqL K F a (ns.map V.int) → Dp K F (.ref a) (.dict [(.none, .list (ns.map PyData.int))])
  | dct {a : Addr} {od : Obj} {ws : List (Key × V)} {ds : List D} : F a = some (.frz od (.dK ws)) → DpAll K F (ws.map Prod.snd) ds → Dp K F (.ref a) (dctD (ws.map fun w => keyD w.1) ds)
inductive DpAll (K : PySem.W.Frag) (F : Hp) : List V → List D → Prop
  | nil : DpAll K F [] []
  | cons {v : V} {vs : List V} {d : D} {ds : List D} : Dp K F v d → DpAll K F vs ds → DpAll K F (v :: vs) (d :: ds)
end
theorem same_r {H H' : Hp} {a : Addr} {u : HO} (e : Same H H') (h : Rd H a u) : Rd H' a u := by
  rcases h with h | ⟨o, h⟩
  · exact .inl (e _ _ h)
  · exact .inr ⟨o, e _ _ h⟩
theorem same_l {K : PySem.W.Frag} {H H' : Hp} {a : Addr} {xs : List V} (e : Same H H') (h : SqL K H a xs) : SqL K H' a xs := e.seq h
theorem same_t {K : PySem.W.Frag} {H H' : Hp} {a : Addr} {xs : List V} (e : Same H H') (h : SqT K H a xs) : SqT K H' a xs := by
  rcases h with (h | ⟨o, h⟩) | h
  · exact .inl (.inl (e _ _ h))
  · exact .inl (.inr ⟨o, e _ _ h⟩)
  · exact .inr h
mutual
theorem dp_mono {K : PySem.W.Frag} {F F' : Hp} (e : Same F F') : ∀ (d : D) (v : V), Dp K F v d → Dp K F' v d
  | .none, _, h => by cases h; exact .non
  | .bool b, _, h => by cases h; exact .bl b
  | .int i, _, h => by cases h; exact .int i
  | .str x, _, h => by cases h; exact .str x
  | .list ds, _, h => by cases h with | lst h a => exact .lst (e _ _ h) (dpa_mono e ds _ a)
  | .tuple ds, _, h => by cases h with | tup h a => exact .tup (e _ _ h) (dpa_mono e ds _ a)
  | .dict [(.none, .list _)], _, h => by cases h with | scr h => exact .scr (same_l e h)
  | .dict [(.bool true, .list _), (.bool false, .list ds)], _, h => by cases h with | dct h a => exact .dct (e _ _ h) (dpa_mono e ds _ a)
  | .dict kvs, _, h => by
    cases h with
    | scr h => exact .scr (same_l e h)
    | @dct a od ws ds h w => exact .dct (e _ _ h) (dpa_mono e ds _ w)
theorem dpa_mono {K : PySem.W.Frag} {F F' : Hp} (e : Same F F') : ∀ (ds : List D) (vs : List V), DpAll K F vs ds → DpAll K F' vs ds
  | [], _, h => by cases h; exact .nil
  | d :: ds, _, h => by cases h with | cons h a => exact .cons (dp_mono e d _ h) (dpa_mono e ds _ a)
end
theorem dpa_len {K : PySem.W.Frag} {F : Hp} : ∀ {vs : List V} {ds : List D}, DpAll K F vs ds → vs.length = ds.length
  | _, _, .nil => rfl
  | _, _, .cons _ t => by simp [dpa_len t]
theorem dpa_get {K : PySem.W.Frag} {F : Hp} : ∀ {vs : List V} {ds : List D} {i : Nat} {d : D}, DpAll K F vs ds → ds[i]? = some d → ∃ v, vs[i]? = some v ∧ Dp K F v d
  | _, _, _, _, .nil, e => by simp at e
  | _, _, 0, _, .cons h _, e => by simp at e; subst e; exact ⟨_, rfl, h⟩
  | _, _, i + 1, _, .cons _ t, e => by
    obtain ⟨v, h1, h2⟩ := dpa_get (i := i) t (by simpa using e)
    exact ⟨v, by simpa using h1, h2⟩
theorem dpa_get' {K : PySem.W.Frag} {F : Hp} : ∀ {vs : List V} {ds : List D} {i : Nat} {v : V}, DpAll K F vs ds → vs[i]? = some v → ∃ d, ds[i]? = some d ∧ Dp K F v d
  | _, _, _, _, .nil, e => by simp at e
  | _, _, 0, _, .cons h _, e => by simp at e; subst e; exact ⟨_, rfl, h⟩
  | _, _, i + 1, _, .cons _ t, e => by
    obtain ⟨v, h1, h2⟩ := dpa_get' (i := i) t (by simpa using e)
    exact ⟨v, by simpa using h1, h2⟩
theorem dpa_app {K : PySem.W.Frag} {F : Hp} : ∀ {vs ws : List V} {ds es : List D}, DpAll K F vs ds → DpAll K F ws es → DpAll K F (vs ++ ws) (ds ++ es)
  | _, _, _, _, .nil, b => b
  | _, _, _, _, .cons h t, b => .cons h (dpa_app t b)
theorem dpa_take {K : PySem.W.Frag} {F : Hp} : ∀ {vs : List V} {ds : List D} (n : Nat), DpAll K F vs ds → DpAll K F (vs.take n) (ds.take n)
  | _, _, 0, _ => by simp; exact .nil
  | _, _, n + 1, .nil => by simp; exact .nil
  | _, _, n + 1, .cons h t => .cons h (dpa_take n t)
theorem dpa_drop {K : PySem.W.Frag} {F : Hp} : ∀ {vs : List V} {ds : List D} (n : Nat), DpAll K F vs ds → DpAll K F (vs.drop n) (ds.drop n)
  | _, _, 0, h => h
  | _, _, n + 1, .nil => by simp; exact .nil
  | _, _, n + 1, .cons h t => dpa_drop n t
theorem dpa_set {K : PySem.W.Frag} {F : Hp} : ∀ {vs : List V} {ds : List D} {v : V} {d : D} (n : Nat), DpAll K F vs ds → Dp K F v d → DpAll K F (vs.set n v) (ds.set n d)
  | _, _, _, _, _, .nil, _ => .nil
  | _, _, _, _, 0, .cons h t, x => .cons x t
  | _, _, _, _, n + 1, .cons h t, x => .cons h (dpa_set n t x)
theorem dpa_rev {K : PySem.W.Frag} {F : Hp} : ∀ {vs : List V} {ds : List D}, DpAll K F vs ds → DpAll K F vs.reverse ds.reverse
  | _, _, .nil => .nil
  | _, _, .cons h t => by
    rw [List.reverse_cons, List.reverse_cons]
    exact dpa_app (dpa_rev t) (.cons h .nil)
theorem dpa_erase {K : PySem.W.Frag} {F : Hp} : ∀ {vs : List V} {ds : List D} (n : Nat), DpAll K F vs ds → DpAll K F (vs.eraseIdx n) (ds.eraseIdx n)
  | _, _, _, .nil => .nil
  | _, _, 0, .cons h t => t
  | _, _, n + 1, .cons h t => .cons h (dpa_erase n t)

mutual
theorem dp_lib {K : PySem.W.Frag} {F : Hp} : ∀ (d : D) (v : V), d.canLay0 = true → Dp K F v d → L2.Dp K F v d
  | .none, _, _, h => by cases h; exact .non
  | .bool b, _, _, h => by cases h; exact .bl b
  | .int i, _, _, h => by cases h; exact .int i
  | .str x, _, _, h => by cases h; exact .str x
  | .list ds, _, c, h => by cases h with | lst h a => exact .lst (SqL.of h) (dpa_lib ds _ c a)
  | .tuple ds, _, c, h => by cases h with | tup h a => exact .tup (SqT.of h) (dpa_lib ds _ c a)
  | .dict kvs, _, c, h => by cases c
theorem dpa_lib {K : PySem.W.Frag} {F : Hp} : ∀ (ds : List D) (vs : List V), PyData.canLayAll0 ds = true → DpAll K F vs ds → L2.DpAll K F vs ds
  | [], _, _, h => by cases h; exact .nil
  | d :: ds, _, c, h => by
    have c' : d.canLay0 = true ∧ PyData.canLayAll0 ds = true := by
      have c : (d.canLay0 && PyData.canLayAll0 ds) = true := c
      rw [Bool.and_eq_true] at c
      exact c
    cases h with | cons h a => exact .cons (dp_lib d _ c'.1 h) (dpa_lib ds _ c'.2 a)
end
theorem dpa_ints {K : PySem.W.Frag} {F : Hp} : ∀ (ns : List Int), DpAll K F (ns.map V.int) (ns.map PyData.int)
  | [] => .nil
  | n :: ns => .cons (.int n) (dpa_ints ns)
/-- what an own object holds -/
def CoOk (K : PySem.W.Frag) (F : Hp) : Co → HO → Prop
  | .lst ds, o => ∃ vs, o = .lst vs ∧ DpAll K F vs ds
  | .dct kvs, o => ∃ ws, o = .dK ws ∧ Paired (fun (p : Key × V) (q : Key × D) => p.1 = q.1 ∧ Dp K F p.2 q.2) ws kvs
theorem CoOk.mono {K : PySem.W.Frag} {F F' : Hp} (e : Same F F') : ∀ {c : Co} {o : HO}, CoOk K F c o → CoOk K F' c o
  | .lst ds, _, ⟨vs, h, a⟩ => ⟨vs, h, dpa_mono e _ _ a⟩
  | .dct kvs, _, ⟨ws, h, a⟩ => ⟨ws, h, Paired.mapP a fun _ _ z => ⟨z.1, dp_mono e _ _ z.2⟩⟩
theorem CoOk.mut {K : PySem.W.Frag} {F : Hp} : ∀ {c : Co} {o : HO}, CoOk K F c o → L2.Mut (some o)
  | .lst ds, _, ⟨vs, h, a⟩ => by subst h; trivial
  | .dct kvs, _, ⟨ws, h, a⟩ => by subst h; trivial

/-- what is fixed through a def's body: F0, H0 what stood at its beginning (F0: what is never changed of it), M: the slots of own arguments; E: what is wanted of an error -/
structure Cf where
  K : PySem.W.Frag
  E : L2.St → XK
structure Ct where
  C : Cf
  F0 : Hp
  H0 : Hp
  M : Nat → Option Addr
abbrev Ct.K (G : Ct) : PySem.W.Frag := G.C.K
abbrev Ct.E (G : Ct) : L2.St → XK := G.C.E

def SlOk (G : Ct) (F H : Hp) (i : Nat) (x : Option (Option V)) : Sl → Prop
  | .no => True
  | .fz d => ∃ v, x = some (some v) ∧ Dp G.K F v d
  | .own c => ∃ p o, x = some (some (.ref p)) ∧ H p = some o ∧ F p = none ∧ CoOk G.K F c o ∧ G.M i = none ∧ G.H0 p = none
  | .arg c => ∃ p o, x = some (some (.ref p)) ∧ H p = some o ∧ F p = none ∧ CoOk G.K F c o ∧ G.M i = some p

structure St1 (G : Ct) (δ : DS) (σ : L2.St) (F H : Hp) : Prop where
  len : δ.length = σ.length
  fh : Same F H
  f0 : Same G.F0 F
  h0 : ∀ b o, (∀ i, G.M i ≠ some b) → G.H0 b = some o → H b = some o
  fn : ∀ b, F b ≠ none → G.F0 b ≠ none ∨ G.H0 b = none
  sl : ∀ (i : Nat) (s : Sl), δ[i]? = some s → SlOk G F H i σ[i]? s
  di : ∀ (i j : Nat) (s t : Sl) (p : Addr), i ≠ j → δ[i]? = some s → δ[j]? = some t → s.held = true → t.held = true → σ[i]? = some (some (.ref p)) → σ[j]? = some (some (.ref p)) → False
  ma : ∀ i p, G.M i = some p → ∃ c, δ[i]? = some (.arg c)

/-- a value -/
def VlOk (G : Ct) (δ : DS) (σ : L2.St) (F H : Hp) (v : V) : Vl → Prop
  | .fz d => Dp G.K F v d
  | .own c => ∃ p o, v = .ref p ∧ H p = some o ∧ F p = none ∧ CoOk G.K F c o ∧ G.H0 p = none ∧ ∀ (i : Nat) (s : Sl), δ[i]? = some s → s.held = true → σ[i]? ≠ some (some (.ref p))
  | .loc i => σ[i]? = some (some v)

/-! ### lookups and keeps -/
section
variable {G : Ct} {δ δ' : DS} {σ : L2.St} {F F' H H' : Hp} {p : Addr} {o : HO}
/-- what is new at H was not there at the beginning -/
theorem St1.new0 (k : St1 G δ σ F H) (h : H p = none) : G.H0 p = none := by
  cases e : G.H0 p with
  | none => rfl
  | some o =>
    by_cases hm : ∃ i, G.M i = some p
    · obtain ⟨i, hi⟩ := hm
      obtain ⟨c, hc⟩ := k.ma i p hi
      obtain ⟨q, o', _, h1, _, _, h2⟩ := k.sl i _ hc
      rw [hi] at h2
      cases h2
      rw [h] at h1
      cases h1
    · have := k.h0 p o (fun i hi => hm ⟨i, hi⟩) e
      rw [h] at this
      cases this
theorem St1.newF (k : St1 G δ σ F H) (h : H p = none) : F p = none := k.fh.free h
/-- the heap grows by p alone -/
theorem same_upd {H : Hp} {p : Addr} {o : HO} (h : H p = none) : Same H (upd H p o) := fun b x e => by
  rw [upd_ne (ne_of_none e h)]
  exact e
theorem SlOk.mono {i : Nat} {x : Option (Option V)} {s : Sl} (h : SlOk G F H i x s) (ff : Same F F') (hh : ∀ b o, F b = none → H b = some o → s.held = true → x = some (some (.ref b)) → H' b = some o ∧ F' b = none) : SlOk G F' H' i x s := by
  cases s with
  | no => trivial
  | fz d =>
    obtain ⟨v, e, h⟩ := h
    exact ⟨v, e, dp_mono ff _ _ h⟩
  | own c =>
    obtain ⟨p, o, e, h1, h2, h3, h4, h5⟩ := h
    obtain ⟨g1, g2⟩ := hh p o h2 h1 rfl e
    exact ⟨p, o, e, g1, g2, h3.mono ff, h4, h5⟩
  | arg c =>
    obtain ⟨p, o, e, h1, h2, h3, h4⟩ := h
    obtain ⟨g1, g2⟩ := hh p o h2 h1 rfl e
    exact ⟨p, o, e, g1, g2, h3.mono ff, h4⟩
/-- the state as the heap grows: H to H', F to F', where what is held stays and is not frozen -/
theorem St1.grow (k : St1 G δ σ F H) (ff : Same F F') (fh : Same F' H') (hh : Same H H') (fn : ∀ b, F' b ≠ none → F b ≠ none ∨ (G.H0 b = none ∧ ∀ (i : Nat) (s : Sl), δ[i]? = some s → s.held = true → σ[i]? ≠ some (some (.ref b)))) : St1 G δ σ F' H' where
  len := k.len
  fh := fh
  f0 := k.f0.trans ff
  h0 := fun b o hm e => hh b o (k.h0 b o hm e)
  fn := fun b e => by
    rcases fn b e with q | q
    · exact k.fn b q
    · exact .inr q.1
  sl := fun i s e => (k.sl i s e).mono ff fun b o h1 h2 h3 h4 => ⟨hh b o h2, by
    cases q : F' b with
    | none => rfl
    | some u =>
      rcases fn b (by rw [q]; simp) with z | z
      · exact absurd h1 z
      · exact absurd h4 (z.2 i s e h3)⟩
  di := k.di
  ma := k.ma
/-- a new frozen object -/
theorem St1.newFz (k : St1 G δ σ F H) (h : H p = none) : St1 G δ σ (upd F p o) (upd H p o) := by
  have hF := k.newF h
  refine k.grow (same_upd hF) (fun b u e => ?_) (same_upd h) fun b e => ?_
  · by_cases hb : b = p
    · subst hb; rw [upd_same] at e ⊢; exact e
    · rw [upd_ne hb] at e ⊢; exact k.fh _ _ e
  · by_cases hb : b = p
    · subst hb
      refine .inr ⟨k.new0 h, fun i s hs hh q => ?_⟩
      have z := k.sl i s hs
      cases s with
      | own c => obtain ⟨r, u, e1, e2, _⟩ := z; rw [q] at e1; cases e1; rw [h] at e2; cases e2
      | arg c => obtain ⟨r, u, e1, e2, _⟩ := z; rw [q] at e1; cases e1; rw [h] at e2; cases e2
      | no => cases hh
      | fz d => cases hh
    · rw [upd_ne hb] at e
      exact .inl e
/-- a new object that is ours -/
theorem St1.newOwn (k : St1 G δ σ F H) (h : H p = none) : St1 G δ σ F (upd H p o) := k.grow (Same.refl F) (k.fh.trans (same_upd h)) (same_upd h) fun b e => .inl e
theorem St1.free (k : St1 G δ σ F H) (h : H p = none) : ∀ (i : Nat) (s : Sl), δ[i]? = some s → s.held = true → σ[i]? ≠ some (some (.ref p)) := fun i s hs hh q => by
  have z := k.sl i s hs
  cases s with
  | own c => obtain ⟨r, u, e1, e2, _⟩ := z; rw [q] at e1; cases e1; rw [h] at e2; cases e2
  | arg c => obtain ⟨r, u, e1, e2, _⟩ := z; rw [q] at e1; cases e1; rw [h] at e2; cases e2
  | no => cases hh
  | fz d => cases hh
/-- .. its value -/
theorem St1.valOwn (k : St1 G δ σ F H) (h : H p = none) {c : Co} (hc : CoOk G.K F c o) : VlOk G δ σ F (upd H p o) (.ref p) (.own c) :=
  ⟨p, o, rfl, upd_same, k.newF h, hc, k.new0 h, k.free h⟩
/-- what is frozen of a value that is new -/
def fzT : Vl → Vl
  | .own (.lst ds) => .fz (.list ds)
  | x => x
theorem St1.freeze (k : St1 G δ σ F H) {v : V} {a : Vl} (h : VlOk G δ σ F H v a) : ∃ F', St1 G δ σ F' H ∧ Same F F' ∧ VlOk G δ σ F' H v (fzT a) := by
  cases a with
  | fz d => exact ⟨F, k, Same.refl F, h⟩
  | loc i => exact ⟨F, k, Same.refl F, h⟩
  | own c =>
    cases c with
    | dct kvs => exact ⟨F, k, Same.refl F, h⟩
    | lst ds =>
      obtain ⟨p, o, rfl, h1, h2, ⟨vs, rfl, h3⟩, h4, h5⟩ := h
      have ff : Same F (upd F p (.lst vs)) := same_upd h2
      refine ⟨upd F p (.lst vs), k.grow ff (fun b u e => ?_) (Same.refl H) fun b e => ?_, ff, .lst upd_same (dpa_mono ff _ _ h3)⟩
      · by_cases hb : b = p
        · subst hb; rw [upd_same] at e; rw [h1]; exact e
        · rw [upd_ne hb] at e; exact k.fh _ _ e
      · by_cases hb : b = p
        · subst hb; exact .inr ⟨h4, h5⟩
        · rw [upd_ne hb] at e; exact .inl e

/-! ### looking at a value -/
def vw (δ : DS) : Vl → Option D
  | .fz d => some d
  | .own (.lst ds) => some (.list ds)
  | .own _ => none
  | .loc i => match δ[i]? with
    | some (.own (.lst ds)) => some (.list ds)
    | some (.arg (.lst ds)) => some (.list ds)
    | some (.fz d) => some d
    | _ => none
/-- v is d: in the frozen part, or an own list of such -/
def Vw (K : PySem.W.Frag) (F H : Hp) (v : V) (d : D) : Prop := Dp K F v d ∨ ∃ p vs ds, v = .ref p ∧ d = .list ds ∧ H p = some (.lst vs) ∧ DpAll K F vs ds
theorem Vw.dp {K : PySem.W.Frag} {v : V} {d : D} (h : Vw K F H v d) (fh : Same F H) : Dp K H v d := by
  rcases h with h | ⟨p, vs, ds, rfl, rfl, h1, h2⟩
  · exact dp_mono fh _ _ h
  · exact .lst h1 (dpa_mono fh _ _ h2)
theorem St1.view (k : St1 G δ σ F H) {v : V} {a : Vl} {d : D} (h : VlOk G δ σ F H v a) (e : vw δ a = some d) : Vw G.K F H v d := by
  cases a with
  | fz d => cases e; exact .inl h
  | own c =>
    cases c with
    | dct _ => cases e
    | lst ds =>
      cases e
      obtain ⟨p, o, rfl, h1, h2, ⟨vs, rfl, h3⟩, _⟩ := h
      exact .inr ⟨p, vs, ds, rfl, rfl, h1, h3⟩
  | loc i =>
    have h : σ[i]? = some (some v) := h
    unfold vw at e
    simp only at e
    cases es : δ[i]? with
    | none => rw [es] at e; cases e
    | some s =>
      rw [es] at e
      have z := k.sl i s es
      cases s with
      | no => cases e
      | fz d' =>
        cases e
        obtain ⟨v', e1, e2⟩ := z
        rw [h] at e1
        cases e1
        exact .inl e2
      | own c =>
        cases c with
        | dct _ => cases e
        | lst ds =>
          cases e
          obtain ⟨p, o, e1, h1, h2, ⟨vs, rfl, h3⟩, _⟩ := z
          rw [h] at e1
          cases e1
          exact .inr ⟨p, vs, ds, rfl, rfl, h1, h3⟩
      | arg c =>
        cases c with
        | dct _ => cases e
        | lst ds =>
          cases e
          obtain ⟨p, o, e1, h1, h2, ⟨vs, rfl, h3⟩, _⟩ := z
          rw [h] at e1
          cases e1
          exact .inr ⟨p, vs, ds, rfl, rfl, h1, h3⟩
/-- an own list's items -/
theorem Vw.list {K : PySem.W.Frag} {v : V} {ds : List D} (h : Vw K F H v (.list ds)) (fh : Same F H) : ∃ p vs, v = .ref p ∧ H p = some (.lst vs) ∧ DpAll K F vs ds := by
  rcases h with h | ⟨p, vs, ds', rfl, e, h1, h2⟩
  · cases h with | lst a b => exact ⟨_, _, rfl, fh _ _ a, b⟩
  · cases e
    exact ⟨p, vs, rfl, h1, h2⟩
theorem Vw.tup {K : PySem.W.Frag} {v : V} {ds : List D} (h : Vw K F H v (.tuple ds)) : ∃ p vs, v = .ref p ∧ F p = some (.tup vs) ∧ DpAll K F vs ds := by
  rcases h with h | ⟨p, vs, ds', rfl, e, h1, h2⟩
  · cases h with | tup a b => exact ⟨_, _, rfl, a, b⟩
  · cases e
theorem Vw.scr {K : PySem.W.Frag} {v : V} {kvs : List (D × D)} (h : Vw K F H v (.dict kvs)) (hk : ∀ ks ds, kvs ≠ [(.bool true, .list ks), (.bool false, .list ds)]) : ∃ (p : Addr) (ns : List Int), v = .ref p ∧ kvs = [(.none, .list (ns.map PyData.int))] ∧ SqL K F p (ns.map V.int) := by
  rcases h with h | ⟨p, vs, ds', rfl, e, h1, h2⟩
  · cases h with
    | scr a => exact ⟨_, _, rfl, rfl, a⟩
    | dct a b => exact absurd rfl (hk _ _)
  · cases e
theorem Vw.int {K : PySem.W.Frag} {v : V} {i : Int} (h : Vw K F H v (.int i)) : v = .int i := by
  rcases h with h | ⟨p, vs, ds', rfl, e, h1, h2⟩
  · cases h; rfl
  · cases e
theorem Vw.bl {K : PySem.W.Frag} {v : V} {i : Bool} (h : Vw K F H v (.bool i)) : v = .bl i := by
  rcases h with h | ⟨p, vs, ds', rfl, e, h1, h2⟩
  · cases h; rfl
  · cases e
theorem Vw.str {K : PySem.W.Frag} {v : V} {i : Str} (h : Vw K F H v (.str i)) : v = .str i := by
  rcases h with h | ⟨p, vs, ds', rfl, e, h1, h2⟩
  · cases h; rfl
  · cases e
theorem Vw.non {K : PySem.W.Frag} {v : V} (h : Vw K F H v .none) : v = .non := by
  rcases h with h | ⟨p, vs, ds', rfl, e, h1, h2⟩
  · cases h; rfl
  · cases e
theorem Vw.mono {K : PySem.W.Frag} {v : V} {d : D} (h : Vw K F H v d) (ff : Same F F') (hh : ∀ p vs, v = .ref p → H p = some (.lst vs) → H' p = some (.lst vs)) : Vw K F' H' v d := by
  rcases h with h | ⟨p, vs, ds', rfl, e, h1, h2⟩
  · exact .inl (dp_mono ff _ _ h)
  · exact .inr ⟨p, vs, ds', rfl, e, hh p vs rfl h1, dpa_mono ff _ _ h2⟩
/-- a value's word as all goes on: frozen ones and slots -/
def Vl.stays : Vl → Bool
  | .own _ => false
  | _ => true
theorem VlOk.keep {v : V} {a : Vl} (h : VlOk G δ σ F H v a) (st : a.stays = true) (ff : Same F F') : VlOk G δ' σ F' H' v a := by
  cases a with
  | fz d => exact dp_mono ff _ _ h
  | own c => cases st
  | loc i => exact h
theorem fzT_stays {a : Vl} {d : D} {δ : DS} (h : vw δ (fzT a) = some d) : (fzT a).stays = true := by
  cases a with
  | fz d => rfl
  | loc i => rfl
  | own c => cases c <;> first | rfl | cases h
/-- a value is kept for good: what it is as frozen data -/
def kp (a : Vl) (δ : DS) : R D := match a with
  | .fz d => .ok d δ
  | .own (.lst ds) => .ok (.list ds) δ
  | .own _ => .bad
  | .loc i => match δ[i]? with
    | some (.own (.lst ds)) => .ok (.list ds) (δ.set i (.fz (.list ds)))
    | some (.fz d) => .ok d δ
    | _ => .bad
theorem St1.keepV (k : St1 G δ σ F H) {v : V} {a : Vl} {d : D} (h : VlOk G δ σ F H v a) (e : kp a δ = .ok d δ') : ∃ F', St1 G δ' σ F' H ∧ Same F F' ∧ Dp G.K F' v d := by
  cases a with
  | fz d' => cases e; exact ⟨F, k, Same.refl F, h⟩
  | own c =>
    cases c with
    | dct _ => cases e
    | lst ds =>
      cases e
      obtain ⟨F', a, b, c⟩ := k.freeze h
      exact ⟨F', a, b, c⟩
  | loc i =>
    have h : σ[i]? = some (some v) := h
    unfold kp at e
    simp only at e
    cases es : δ[i]? with
    | none => rw [es] at e; cases e
    | some s =>
      rw [es] at e
      have z := k.sl i s es
      cases s with
      | no => cases e
      | arg c => cases e
      | fz d' =>
        cases e
        obtain ⟨v', e1, e2⟩ := z
        rw [h] at e1
        cases e1
        exact ⟨F, k, Same.refl F, e2⟩
      | own c =>
        cases c with
        | dct _ => cases e
        | lst ds =>
          cases e
          obtain ⟨p, o, e1, h1, h2, ⟨vs, rfl, h3⟩, h4, h5⟩ := z
          rw [h] at e1
          cases e1
          have ff : Same F (upd F p (.lst vs)) := same_upd h2
          have hlt : i < δ.length := (List.getElem?_eq_some_iff.mp es).1
          have dpv : Dp G.K (upd F p (.lst vs)) (.ref p) (.list ds) := .lst upd_same (dpa_mono ff _ _ h3)
          refine ⟨upd F p (.lst vs), ⟨by simpa using k.len, fun b u e => ?_, k.f0.trans ff, k.h0, fun b e => ?_, fun j s hs => ?_, fun j j' s t q hj hs ht hh hh' q1 q2 => ?_, fun j q hq => ?_⟩, ff, dpv⟩
          · by_cases hb : b = p
            · subst hb; rw [upd_same] at e; rw [h1]; exact e
            · rw [upd_ne hb] at e; exact k.fh _ _ e
          · by_cases hb : b = p
            · subst hb; exact .inr h5
            · rw [upd_ne hb] at e; exact k.fn b e
          · by_cases hj : j = i
            · subst hj
              rw [List.getElem?_set_self hlt] at hs
              cases hs
              exact ⟨.ref p, h, dpv⟩
            · rw [List.getElem?_set_ne (Ne.symm hj)] at hs
              refine (k.sl j s hs).mono ff fun b u g1 g2 g3 g4 => ⟨g2, ?_⟩
              by_cases hb : b = p
              · subst hb
                exact (k.di j i s _ b hj hs es g3 rfl g4 h).elim
              · rw [upd_ne hb]; exact g1
          · have a1 : j ≠ i := fun z => by
              subst z
              rw [List.getElem?_set_self hlt] at hs
              cases hs
              cases hh
            have a2 : j' ≠ i := fun z => by
              subst z
              rw [List.getElem?_set_self hlt] at ht
              cases ht
              cases hh'
            rw [List.getElem?_set_ne (Ne.symm a1)] at hs
            rw [List.getElem?_set_ne (Ne.symm a2)] at ht
            exact k.di j j' s t q hj hs ht hh hh' q1 q2
          · obtain ⟨c, hc⟩ := k.ma j q hq
            have a1 : j ≠ i := fun z => by
              subst z
              rw [es] at hc
              cases hc
            exact ⟨c, by rw [List.getElem?_set_ne (Ne.symm a1)]; exact hc⟩
end
end DL

set_option Elab.async false
set_option linter.all false
set_option maxRecDepth 100000
set_option autoImplicit false
namespace DL
open PySem PySem.Spec PyProof.Rows L2

/-! ### what is wanted behind a data reading -/
def finA {α β : Type} (G : Ct) (W : DS → Hp → Hp → β → α → Prop) (r : R α) (σ : L2.St) (F : Hp) (Q : β → Hp → Prop) : Prop := match r with
  | .ok a δ' => ∀ b F' H', St1 G δ' σ F' H' → Same F F' → W δ' F' H' b a → Q b H'
  | .ex c δ' => ∀ F' H', St1 G δ' σ F' H' → Same F F' → G.E σ c none H'
  | .bad => False
theorem finA_mono {α β : Type} {G : Ct} {W : DS → Hp → Hp → β → α → Prop} {r : R α} {σ : L2.St} {F F1 : Hp} {Q : β → Hp → Prop} (h : finA G W r σ F Q) (f : Same F F1) : finA G W r σ F1 Q := by
  cases r with
  | ok a δ => exact fun b F' H' s g w => h b F' H' s (f.trans g) w
  | ex c δ => exact fun F' H' s g => h F' H' s (f.trans g)
  | bad => exact h
theorem finA_bind {α β α' β' : Type} {G : Ct} {W : DS → Hp → Hp → β → α → Prop} {W' : DS → Hp → Hp → β' → α' → Prop} {r : R α} {k : α → DS → R α'} {σ : L2.St} {F : Hp} {Q : β → Hp → Prop} {Q' : β' → Hp → Prop}
    (h : finA G W' (r.bind k) σ F Q') (hk : ∀ a δ1 v F1 H1, St1 G δ1 σ F1 H1 → Same F F1 → W δ1 F1 H1 v a → finA G W' (k a δ1) σ F1 Q' → Q v H1) : finA G W r σ F Q := by
  cases r with
  | ok a δ => exact fun v F1 H1 s g w => hk a δ v F1 H1 s g w (finA_mono h g)
  | ex c δ => exact h
  | bad => exact h
theorem finA_imp {α β : Type} {G : Ct} {W : DS → Hp → Hp → β → α → Prop} {r : R α} {σ : L2.St} {F : Hp} {Q Q' : β → Hp → Prop} (h : finA G W r σ F Q) (q : ∀ b H, Q b H → Q' b H) : finA G W r σ F Q' := by
  cases r with
  | ok a δ => exact fun b F' H' s g w => q _ _ (h b F' H' s g w)
  | ex c δ => exact h
  | bad => exact h
def WV (G : Ct) (σ : L2.St) : DS → Hp → Hp → V → Vl → Prop := fun δ F H v a => VlOk G δ σ F H v a
def WB : DS → Hp → Hp → Bool → Bool → Prop := fun _ _ _ b a => b = a
def WL (G : Ct) : DS → Hp → Hp → List V → List D → Prop := fun _ F _ vs ds => DpAll G.K F vs ds
def WO : DS → Hp → Hp → Option Int → Option Int → Prop := fun _ _ _ b a => b = a
abbrev De := DS → R Vl
abbrev Dt := DS → R Bool
abbrev Dl := DS → R (List D)
abbrev Dopt := DS → R (Option Int)
def up (C : Cf) (td : De) : TE := fun σ H Q => ∃ G δ F, G.C = C ∧ St1 G δ σ F H ∧ finA G (WV G σ) (td δ) σ F Q
def upT (C : Cf) (td : Dt) : TT := fun σ H Q => ∃ G δ F, G.C = C ∧ St1 G δ σ F H ∧ finA G WB (td δ) σ F Q
def upL (C : Cf) (td : Dl) : TA := fun σ H Q => ∃ G δ F, G.C = C ∧ St1 G δ σ F H ∧ finA G (WL G) (td δ) σ F Q
def upO (C : Cf) (td : Dopt) : TO := fun σ H Q => ∃ G δ F, G.C = C ∧ St1 G δ σ F H ∧ finA G WO (td δ) σ F Q

section
variable {X : Cx} {C : Cf} {e : Expr}
theorem pe_weak {t t' : TE} (h : PE X e t) (w : ∀ σ H Q, t' σ H Q → t σ H Q) : PE X e t' := ⟨fun pins s σ H Q I q => h.run pins s σ H Q I (w σ H Q q)⟩
theorem pt_weak {t t' : TT} (h : PT X e t) (w : ∀ σ H Q, t' σ H Q → t σ H Q) : PT X e t' := ⟨fun pins s σ H Q I q => h.run pins s σ H Q I (w σ H Q q)⟩
theorem pw_weak {t t' : TT} (h : PW X e t) (w : ∀ σ H Q, t' σ H Q → t σ H Q) : PW X e t' := ⟨fun wh pins s σ H Q I q => h.run wh pins s σ H Q I (w σ H Q q)⟩
theorem pa_weak {es : List Expr} {t t' : TA} (h : PA X es t) (w : ∀ σ H Q, t' σ H Q → t σ H Q) : PA X es t' := ⟨fun pos pins s σ H Q I q => h.run pos pins s σ H Q I (w σ H Q q)⟩
theorem po_weak {eo : Option Expr} {t t' : TO} (h : PO X eo t) (w : ∀ σ H Q, t' σ H Q → t σ H Q) : PO X eo t' := ⟨fun pins s σ H Q I q => h.run pins s σ H Q I (w σ H Q q)⟩
theorem ps_weak {st : Stmt} {t t' : TS} (h : PS X st t) (w : ∀ D σ H, t' D σ H → t D σ H) : PS X st t' := ⟨fun pins s σ H D I q => h.run pins s σ H D I (w D σ H q)⟩
theorem pss_weak {st : List Stmt} {t t' : TS} (h : PSs X st t) (w : ∀ D σ H, t' D σ H → t D σ H) : PSs X st t' := ⟨fun pins s σ H D I q => h.run pins s σ H D I (w D σ H q)⟩

/-! ### names, constants -/
def dVar (i : Nat) : De := fun δ => match δ[i]? with
  | some (.fz d) => .ok (.fz d) δ
  | some (.own _) => .ok (.loc i) δ
  | some (.arg _) => .ok (.loc i) δ
  | _ => .bad
theorem pd_var (i : Nat) {x : Str} {pos : Pos} (hN : X.N[i]? = some x := by rfl) (hv : Vis X.env.scope x := by first | exact Or.inl rfl | exact Or.inr (Or.inl rfl) | exact Or.inr (Or.inr rfl)) (hd : (x == ("__debug__" : Str)) = false := by decide)
    (hcd : (x == ("__classdict__" : Str)) = false := by decide) : PE X (.Name x pos) (up C (dVar i)) := by
  refine pe_weak (pe_var hN hv hd hcd) fun σ H Q ⟨G, δ, F, hC, k, f⟩ => ?_
  subst hC
  unfold dVar at f
  cases es : δ[i]? with
  | none => rw [es] at f; exact f.elim
  | some s =>
    rw [es] at f
    have z := k.sl i s es
    cases s with
    | no => exact f.elim
    | fz d =>
      obtain ⟨v, e1, e2⟩ := z
      exact ⟨v, e1, f v F H k (Same.refl F) e2⟩
    | own c =>
      obtain ⟨p, o, e1, _⟩ := z
      exact ⟨_, e1, f _ F H k (Same.refl F) e1⟩
    | arg c =>
      obtain ⟨p, o, e1, _⟩ := z
      exact ⟨_, e1, f _ F H k (Same.refl F) e1⟩
def dC (d : D) : De := fun δ => .ok (.fz d) δ
theorem rf_c {v : V} {d : D} (h : ∀ F, Dp C.K F v d) : ∀ σ H Q, up C (dC d) σ H Q → tC v σ H Q := fun σ H Q ⟨G, δ, F, hC, k, f⟩ => by
  subst hC
  exact f v F H k (Same.refl F) (h F)
theorem pd_int {i : Int} {j : Nat} {pos : Pos} : PE X (.Constant (.int i) j pos) (up C (dC (.int i))) := pe_weak pe_int (rf_c fun _ => .int i)
theorem pd_bl {b : Bool} {j : Nat} {pos : Pos} : PE X (.Constant (.bool b) j pos) (up C (dC (.bool b))) := pe_weak pe_bl (rf_c fun _ => .bl b)
theorem pd_non {j : Nat} {pos : Pos} : PE X (.Constant .none j pos) (up C (dC .none)) := pe_weak pe_non (rf_c fun _ => .non)
theorem pd_str {x : Str} {j : Nat} {pos : Pos} : PE X (.Constant (.str x) j pos) (up C (dC (.str x))) := pe_weak pe_str (rf_c fun _ => .str x)

/-! ### operations by values -/
/-- what is done with a result -/
def Res (G : Ct) (δ : DS) (σ : L2.St) (F H : Hp) (z : Vl) (Q : VK) : Prop := ∀ v F' H', St1 G δ σ F' H' → Same F F' → VlOk G δ σ F' H' v z → Q v H'
theorem Res.fz {G : Ct} {δ : DS} {σ : L2.St} {F H : Hp} {d : D} {Q : VK} {v : V} (r : Res G δ σ F H (.fz d) Q) (k : St1 G δ σ F H) (h : Dp G.K F v d) : Q v H := r v F H k (Same.refl F) h
/-- a new list -/
theorem Res.newL {G : Ct} {δ : DS} {σ : L2.St} {F H : Hp} {ds : List D} {Q : VK} {vs : List V} (r : Res G δ σ F H (.own (.lst ds)) Q) (k : St1 G δ σ F H) (h : DpAll G.K F vs ds) : ∀ p, H p = none → Q (.ref p) (upd H p (.lst vs)) := fun p hp =>
  r _ F _ (k.newOwn hp) (Same.refl F) (k.valOwn hp ⟨vs, rfl, h⟩)
/-- a new tuple -/
theorem Res.newT {G : Ct} {δ : DS} {σ : L2.St} {F H : Hp} {ds : List D} {Q : VK} {vs : List V} (r : Res G δ σ F H (.fz (.tuple ds)) Q) (k : St1 G δ σ F H) (h : DpAll G.K F vs ds) : ∀ p, H p = none → Q (.ref p) (upd H p (.tup vs)) := fun p hp =>
  r _ _ _ (k.newFz (o := .tup vs) hp) (same_upd (k.newF hp)) (.tup upd_same (dpa_mono (same_upd (k.newF hp)) _ _ h))
/-- a two-place operation r does f on data -/
def Op2 (K : PySem.W.Frag) (r : R2) (f : D → D → Option Vl) : Prop := ∀ (G : Ct) (δ : DS) (σ : L2.St) (F H : Hp) (x y : V) (d e : D) (z : Vl) (Q : VK), G.K = K → St1 G δ σ F H → Vw K F H x d → Vw K F H y e → f d e = some z → Res G δ σ F H z Q → r x y H Q
def Op1 (K : PySem.W.Frag) (r : V → Hp → VK → Prop) (f : D → Option Vl) : Prop := ∀ (G : Ct) (δ : DS) (σ : L2.St) (F H : Hp) (x : V) (d : D) (z : Vl) (Q : VK), G.K = K → St1 G δ σ F H → Vw K F H x d → f d = some z → Res G δ σ F H z Q → r x H Q
def ret (o : Option Vl) (δ : DS) : R Vl := match o with
  | some z => .ok z δ
  | none => .bad
def lift2 (f : D → D → Option Vl) (x y : Option D) (δ : DS) : R Vl := match x, y with
  | some d, some e => ret (f d e) δ
  | _, _ => .bad
def lift1 (f : D → Option Vl) (x : Option D) (δ : DS) : R Vl := match x with
  | some d => ret (f d) δ
  | _ => .bad
def dBin (f : D → D → Option Vl) (a b : De) : De := fun δ => (a δ).bind fun x δ1 => (b δ1).bind fun y δ2 => lift2 f (vw δ2 (fzT x)) (vw δ2 (fzT y)) δ2
def dUn (f : D → Option Vl) (a : De) : De := fun δ => (a δ).bind fun x δ1 => lift1 f (vw δ1 (fzT x)) δ1
theorem lift2_fin {G : Ct} {f : D → D → Option Vl} {x y : Option D} {δ : DS} {σ : L2.St} {F : Hp} {Q : VK} (h : finA G (WV G σ) (lift2 f x y δ) σ F Q) : ∃ d e z, x = some d ∧ y = some e ∧ f d e = some z ∧ ∀ H, Res G δ σ F H z Q := by
  cases x with
  | none => exact h.elim
  | some d =>
    cases y with
    | none => exact h.elim
    | some e =>
      have h : finA G (WV G σ) (ret (f d e) δ) σ F Q := h
      cases ez : f d e with
      | none => rw [ez] at h; exact h.elim
      | some z => rw [ez] at h; exact ⟨d, e, z, rfl, rfl, ez, fun H v F' H' s g w => h v F' H' s g w⟩
theorem lift1_fin {G : Ct} {f : D → Option Vl} {x : Option D} {δ : DS} {σ : L2.St} {F : Hp} {Q : VK} (h : finA G (WV G σ) (lift1 f x δ) σ F Q) : ∃ d z, x = some d ∧ f d = some z ∧ ∀ H, Res G δ σ F H z Q := by
  cases x with
  | none => exact h.elim
  | some d =>
    have h : finA G (WV G σ) (ret (f d) δ) σ F Q := h
    cases ez : f d with
    | none => rw [ez] at h; exact h.elim
    | some z => rw [ez] at h; exact ⟨d, z, rfl, ez, fun H v F' H' s g w => h v F' H' s g w⟩
/-- .. a value seen, behind its freezing: it is seen still when more has been done -/
theorem vw_own {δ : DS} {a : Vl} {d : D} (h : vw δ (fzT a) = some d) : (fzT a).stays = true := fzT_stays h
/-- the lid of a value that may not stay: nothing is seen of it -/
def Keep (G : Ct) (σ : L2.St) (F H : Hp) (v : V) (a : Vl) : Prop := a.stays = true → ∀ δ, VlOk G δ σ F H v a
theorem keep_of {G : Ct} {δ : DS} {σ : L2.St} {F H : Hp} {v : V} {a : Vl} (h : VlOk G δ σ F H v a) : Keep G σ F H v a := fun st _ => h.keep st (Same.refl F)
theorem Keep.go {G : Ct} {σ : L2.St} {F F' H H' : Hp} {v : V} {a : Vl} (h : Keep G σ F H v a) (ff : Same F F') : Keep G σ F' H' v a := fun st δ => (h st δ).keep st ff
theorem rf_bin {r : R2} {f : D → D → Option Vl} {a b : De} (o : Op2 C.K r f) : ∀ σ H Q, up C (dBin f a b) σ H Q → tOp r (up C a) (up C b) σ H Q := fun σ H Q ⟨G, δ, F, hC, k, h⟩ => by
  subst hC
  refine ⟨G, δ, F, rfl, k, finA_bind h fun x δ1 v F1 H1 k1 g1 w1 h1 => ?_⟩
  obtain ⟨F2, k2, g2, w2⟩ := k1.freeze w1
  refine ⟨G, δ1, F2, rfl, k2, finA_bind (finA_mono h1 g2) fun y δ2 u F3 H3 k3 g3 w3 h3 => ?_⟩
  obtain ⟨F4, k4, g4, w4⟩ := k3.freeze w3
  obtain ⟨d, e, z, e1, e2, e3, q⟩ := lift2_fin (finA_mono h3 g4)
  have w2' : VlOk G δ2 σ F4 H3 v (fzT x) := w2.keep (fzT_stays e1) (g3.trans g4)
  exact o G δ2 σ F4 H3 v u d e z Q rfl k4 (k4.view w2' e1) (k4.view w4 e2) e3 (q H3)
theorem rf_un {r : V → Hp → VK → Prop} {f : D → Option Vl} {a : De} (o : Op1 C.K r f) : ∀ σ H Q, up C (dUn f a) σ H Q → tUn r (up C a) σ H Q := fun σ H Q ⟨G, δ, F, hC, k, h⟩ => by
  subst hC
  refine ⟨G, δ, F, rfl, k, finA_bind h fun x δ1 v F1 H1 k1 g1 w1 h1 => ?_⟩
  obtain ⟨F2, k2, g2, w2⟩ := k1.freeze w1
  obtain ⟨d, z, e1, e3, q⟩ := lift1_fin (finA_mono h1 g2)
  exact o G δ1 σ F2 H1 v d z Q rfl k2 (k2.view w2 e1) e3 (q H1)
variable {a b : Expr} {ta tb : De} {pos : Pos}
theorem pd_bin {op : Operator} {r : R2} {f : D → D → Option Vl} (ho : OpR X (binaryOp op) r) (o : Op2 C.K r f) (ha : PE X a (up C ta)) (hb : PE X b (up C tb)) : PE X (.BinOp a op b pos) (up C (dBin f ta tb)) := pe_weak (pe_op ho ha hb) (rf_bin o)
theorem pd_cmp {op : CmpOp} {r : R2} {f : D → D → Option Vl} (ho : OpR X (compareOp op) r) (o : Op2 C.K r f) (ha : PE X a (up C ta)) (hb : PE X b (up C tb)) (hm : behindInMarks op b = false) : PE X (.Compare a [op] [b] pos) (up C (dBin f ta tb)) := pe_weak (pe_cmpR ho ha hb hm) (rf_bin o)
/-- a truth as a test -/
def asB (x : Vl) (δ : DS) : R Bool := match x with
  | .fz (.bool b) => .ok b δ
  | _ => .bad
def dTest (a : De) : Dt := fun δ => (a δ).bind asB
theorem asB_fin {G : Ct} {x : Vl} {δ : DS} {σ : L2.St} {F : Hp} {Q : Bool → Hp → Prop} (h : finA G WB (asB x δ) σ F Q) : ∃ b, x = .fz (.bool b) ∧ ∀ F' H', St1 G δ σ F' H' → Same F F' → Q b H' := by
  cases x with
  | fz d => cases d with
    | bool b => exact ⟨b, rfl, fun F' H' s g => h b F' H' s g rfl⟩
    | _ => exact h.elim
  | _ => exact h.elim
theorem rf_test {te : TE} {a : De} (w : ∀ σ H Q, up C a σ H Q → te σ H Q) : ∀ σ H Q, upT C (dTest a) σ H Q → tTest te σ H Q := fun σ H Q ⟨G, δ, F, hC, k, h⟩ => by
  subst hC
  refine w σ H _ ⟨G, δ, F, rfl, k, finA_bind h fun x δ1 v F1 H1 k1 g1 w1 h1 => ?_⟩
  obtain ⟨b, rfl, q⟩ := asB_fin h1
  cases w1
  exact ⟨b, rfl, q F1 H1 k1 (Same.refl F1)⟩
theorem pdt_cmp {op : CmpOp} {r : R2} {f : D → D → Option Vl} (ho : OpR X (compareOp op) r) (o : Op2 C.K r f) (ha : PE X a (up C ta)) (hb : PE X b (up C tb)) (hm : behindInMarks op b = false) : PT X (.Compare a [op] [b] pos) (upT C (dTest (dBin f ta tb))) :=
  pt_weak (pt_cmpR ho ha hb hm) (rf_test (rf_bin o))
theorem pdt_val (h : PE X a (up C ta)) (he : ∀ whole, isTrue a X.env whole = (do let v ← whole; standAt a.pos; holding [v] (truthy v)) := by intro _; rfl) : PT X a (upT C (dTest ta)) :=
  pt_weak (pt_val h he) (rf_test fun _ _ _ q => q)
/-- chains -/
def dChain (f g : D → D → Option Vl) (a b c : De) : De := fun δ => (a δ).bind fun x δ1 => (b δ1).bind fun y δ2 => (lift2 f (vw δ2 (fzT x)) (vw δ2 (fzT y)) δ2).bind fun z δ3 => (asB z δ3).bind fun t δ4 => match t with
  | true => (c δ4).bind fun u δ5 => lift2 g (vw δ5 (fzT y)) (vw δ5 (fzT u)) δ5
  | false => .ok (.fz (.bool false)) δ4
theorem finA_bind2 {G : Ct} {α α' β' : Type} {W' : DS → Hp → Hp → β' → α' → Prop} {r : R α} {k : α → DS → R α'} {σ : L2.St} {F : Hp} {Q' : β' → Hp → Prop} {β : Type} (W : DS → Hp → Hp → β → α → Prop)
    (h : finA G W' (r.bind k) σ F Q') : finA G W r σ F (fun b H => ∃ a δ1 F1, St1 G δ1 σ F1 H ∧ Same F F1 ∧ W δ1 F1 H b a ∧ finA G W' (k a δ1) σ F1 Q') := finA_bind h fun a δ1 v F1 H1 s g w q => ⟨a, δ1, F1, s, g, w, q⟩
theorem rf_chain {r r' : R2} {f g : D → D → Option Vl} {a b c : De} (o : Op2 C.K r f) (o' : Op2 C.K r' g) : ∀ σ H Q, up C (dChain f g a b c) σ H Q → tChain r r' (up C a) (up C b) (up C c) σ H Q := fun σ H Q ⟨G, δ, F, hC, k, h⟩ => by
  subst hC
  refine ⟨G, δ, F, rfl, k, finA_bind h fun x δ1 v F1 H1 k1 g1 w1 h1 => ?_⟩
  obtain ⟨F2, k2, g2, w2⟩ := k1.freeze w1
  refine ⟨G, δ1, F2, rfl, k2, finA_bind (finA_mono h1 g2) fun y δ2 u F3 H3 k3 g3 w3 h3 => ?_⟩
  obtain ⟨F4, k4, g4, w4⟩ := k3.freeze w3
  have h4 := finA_bind2 (W := WV G σ) (finA_mono h3 g4)
  obtain ⟨d, e, z, e1, e2, e3, q⟩ := lift2_fin h4
  have w2' : VlOk G δ2 σ F4 H3 v (fzT x) := w2.keep (fzT_stays e1) (g3.trans g4)
  refine o G δ2 σ F4 H3 v u d e z _ rfl k4 (k4.view w2' e1) (k4.view w4 e2) e3 fun zv F5 H5 k5 g5 w5 => ?_
  obtain ⟨z', δ6, F6, k6, g6, w6, h6⟩ := q H3 zv F5 H5 k5 g5 w5
  have h7 := finA_bind2 (W := WB) h6
  obtain ⟨t, rfl, q7⟩ := asB_fin h7
  cases w6
  refine ⟨t, rfl, ?_⟩
  obtain ⟨t', δ8, F8, k8, g8, e8, h8⟩ := q7 F6 H5 k6 (Same.refl F6)
  have e8 : t = t' := e8
  subst e8
  cases t with
  | false => exact iteF (h8 (.bl false) F8 H5 k8 (Same.refl F8) (.bl false))
  | true =>
    refine iteT ⟨G, δ8, F8, rfl, k8, finA_bind h8 fun u' δ9 v9 F9 H9 k9 g9 w9 h9 => ?_⟩
    obtain ⟨F10, k10, g10, w10⟩ := k9.freeze w9
    obtain ⟨d', e', z2, e1', e2', e3', q'⟩ := lift2_fin (finA_mono h9 g10)
    have w4' : VlOk G δ9 σ F10 H9 u (fzT y) := w4.keep (fzT_stays e1') ((g6.trans g8).trans (g9.trans g10))
    exact o' G δ9 σ F10 H9 u v9 d' e' z2 Q rfl k10 (k10.view w4' e1') (k10.view w10 e2') e3' (q' H9)
end
end DL

set_option Elab.async false
set_option linter.all false
set_option maxRecDepth 100000
set_option autoImplicit false
namespace DL
open PySem PySem.Spec PyProof.Rows L2
section
variable {X : Cx} {C : Cf} {e a b c : Expr} {ta tb tc : De} {pos : Pos}

/-! ### and, or, not, a if t else b -/
def dAndV (a b : De) : De := fun δ => (a δ).bind fun x δ1 => (asB x δ1).bind fun t δ2 => match t with
  | true => b δ2
  | false => .ok (.fz (.bool false)) δ2
def dOrV (a b : De) : De := fun δ => (a δ).bind fun x δ1 => (asB x δ1).bind fun t δ2 => match t with
  | true => .ok (.fz (.bool true)) δ2
  | false => b δ2
def dNotV (a : De) : De := fun δ => (a δ).bind fun x δ1 => (asB x δ1).bind fun t δ2 => .ok (.fz (.bool (!t))) δ2
def dAnd (a b : Dt) : Dt := fun δ => (a δ).bind fun t δ1 => match t with
  | true => b δ1
  | false => .ok false δ1
def dOr (a b : Dt) : Dt := fun δ => (a δ).bind fun t δ1 => match t with
  | true => .ok true δ1
  | false => b δ1
def dNot (a : Dt) : Dt := fun δ => (a δ).bind fun t δ1 => .ok (!t) δ1
def dIf (t : Dt) (a b : De) : De := fun δ => (t δ).bind fun t δ1 => match t with
  | true => a δ1
  | false => b δ1
theorem asB_bind {G : Ct} {α β : Type} {W : DS → Hp → Hp → β → α → Prop} {x : Vl} {δ : DS} {k : Bool → DS → R α} {σ : L2.St} {F H : Hp} {Q : β → Hp → Prop} {v : V} (h : finA G W ((asB x δ).bind k) σ F Q) (w : VlOk G δ σ F H v x) : ∃ t, x = .fz (.bool t) ∧ v = .bl t ∧ finA G W (k t δ) σ F Q := by
  cases x with
  | fz d => cases d with
    | bool t =>
      cases w
      exact ⟨t, rfl, rfl, h⟩
    | _ => exact h.elim
  | _ => exact h.elim
theorem pd_one {op : BoolOp} (h : PE X a (up C ta)) : PE X (.BoolOp op [a] pos) (up C ta) := pe_one h
theorem pd_and {rest : List Expr} (ha : PE X a (up C ta)) (hb : PE X (.BoolOp .And (b :: rest) pos) (up C tb)) : PE X (.BoolOp .And (a :: b :: rest) pos) (up C (dAndV ta tb)) :=
  pe_weak (pe_and ha hb) fun σ H Q ⟨G, δ, F, hC, k, h⟩ => by
    subst hC
    refine ⟨G, δ, F, rfl, k, finA_bind h fun x δ1 v F1 H1 k1 g1 w1 h1 => ?_⟩
    obtain ⟨t, rfl, rfl, h2⟩ := asB_bind h1 w1
    refine ⟨t, rfl, ?_⟩
    cases t with
    | true => exact iteT ⟨G, δ1, F1, rfl, k1, h2⟩
    | false => exact iteF (h2 _ F1 H1 k1 (Same.refl F1) (.bl false))
theorem pd_or {rest : List Expr} (ha : PE X a (up C ta)) (hb : PE X (.BoolOp .Or (b :: rest) pos) (up C tb)) : PE X (.BoolOp .Or (a :: b :: rest) pos) (up C (dOrV ta tb)) :=
  pe_weak (pe_or ha hb) fun σ H Q ⟨G, δ, F, hC, k, h⟩ => by
    subst hC
    refine ⟨G, δ, F, rfl, k, finA_bind h fun x δ1 v F1 H1 k1 g1 w1 h1 => ?_⟩
    obtain ⟨t, rfl, rfl, h2⟩ := asB_bind h1 w1
    refine ⟨t, rfl, ?_⟩
    cases t with
    | true => exact iteT (h2 _ F1 H1 k1 (Same.refl F1) (.bl true))
    | false => exact iteF ⟨G, δ1, F1, rfl, k1, h2⟩
theorem pd_not (ha : PE X a (up C ta)) : PE X (.UnaryOp .Not a pos) (up C (dNotV ta)) :=
  pe_weak (pe_not ha) fun σ H Q ⟨G, δ, F, hC, k, h⟩ => by
    subst hC
    refine ⟨G, δ, F, rfl, k, finA_bind h fun x δ1 v F1 H1 k1 g1 w1 h1 => ?_⟩
    obtain ⟨t, rfl, rfl, h2⟩ := asB_bind h1 w1
    exact ⟨t, rfl, h2 _ F1 H1 k1 (Same.refl F1) (.bl _)⟩
variable {t u : Dt}
theorem ptd_and {rest : List Expr} (ha : PT X a (upT C t)) (hb : PW X (.BoolOp .And (b :: rest) pos) (upT C u)) : PW X (.BoolOp .And (a :: b :: rest) pos) (upT C (dAnd t u)) :=
  pw_weak (pw_and ha hb) fun σ H Q ⟨G, δ, F, hC, k, h⟩ => by
    subst hC
    refine ⟨G, δ, F, rfl, k, finA_bind h fun x δ1 v F1 H1 k1 g1 w1 h1 => ?_⟩
    have w1 : v = x := w1
    subst w1
    cases v with
    | true => exact iteT ⟨G, δ1, F1, rfl, k1, h1⟩
    | false => exact iteF (h1 _ F1 H1 k1 (Same.refl F1) rfl)
theorem ptd_or {rest : List Expr} (ha : PT X a (upT C t)) (hb : PW X (.BoolOp .Or (b :: rest) pos) (upT C u)) : PW X (.BoolOp .Or (a :: b :: rest) pos) (upT C (dOr t u)) :=
  pw_weak (pw_or ha hb) fun σ H Q ⟨G, δ, F, hC, k, h⟩ => by
    subst hC
    refine ⟨G, δ, F, rfl, k, finA_bind h fun x δ1 v F1 H1 k1 g1 w1 h1 => ?_⟩
    have w1 : v = x := w1
    subst w1
    cases v with
    | true => exact iteT (h1 _ F1 H1 k1 (Same.refl F1) rfl)
    | false => exact iteF ⟨G, δ1, F1, rfl, k1, h1⟩
theorem ptd_not (ha : PT X a (upT C t)) : PT X (.UnaryOp .Not a pos) (upT C (dNot t)) :=
  pt_weak (pt_not ha) fun σ H Q ⟨G, δ, F, hC, k, h⟩ => by
    subst hC
    refine ⟨G, δ, F, rfl, k, finA_bind h fun x δ1 v F1 H1 k1 g1 w1 h1 => ?_⟩
    have w1 : v = x := w1
    subst w1
    exact h1 _ F1 H1 k1 (Same.refl F1) rfl
theorem pd_if (hc : PT X c (upT C t)) (ha : PE X a (up C ta)) (hb : PE X b (up C tb)) : PE X (.IfExp c a b pos) (up C (dIf t ta tb)) :=
  pe_weak (pe_ifExp hc ha hb) fun σ H Q ⟨G, δ, F, hC, k, h⟩ => by
    subst hC
    refine ⟨G, δ, F, rfl, k, finA_bind h fun x δ1 v F1 H1 k1 g1 w1 h1 => ?_⟩
    have w1 : v = x := w1
    subst w1
    cases v with
    | true => exact iteT ⟨G, δ1, F1, rfl, k1, h1⟩
    | false => exact iteF ⟨G, δ1, F1, rfl, k1, h1⟩

/-! ### rows of things that are kept: tuples, lists, arguments -/
def dNil : Dl := fun δ => .ok [] δ
def dCons (a : De) (l : Dl) : Dl := fun δ => (a δ).bind fun x δ1 => (kp x δ1).bind fun d δ2 => (l δ2).bind fun ds δ3 => .ok (d :: ds) δ3
theorem pad_nil : PA X [] (upL C dNil) := pa_weak pa_nil fun σ H Q ⟨G, δ, F, hC, k, h⟩ => h [] F H k (Same.refl F) .nil
theorem kp_bind {G : Ct} {α β : Type} {W : DS → Hp → Hp → β → α → Prop} {x : Vl} {δ : DS} {f : D → DS → R α} {σ : L2.St} {F H : Hp} {Q : β → Hp → Prop} {v : V} (k : St1 G δ σ F H) (h : finA G W ((kp x δ).bind f) σ F Q) (w : VlOk G δ σ F H v x) :
    ∃ d δ2 F2, St1 G δ2 σ F2 H ∧ Same F F2 ∧ Dp G.K F2 v d ∧ finA G W (f d δ2) σ F2 Q := by
  cases e : kp x δ with
  | bad => rw [e] at h; exact h.elim
  | ex cc s =>
    exfalso
    cases x with
    | fz d => cases e
    | own cc => cases cc <;> cases e
    | loc i =>
      unfold kp at e
      simp only at e
      split at e <;> cases e
  | ok d δ2 =>
    rw [e] at h
    obtain ⟨F2, k2, g2, w2⟩ := k.keepV w e
    exact ⟨d, δ2, F2, k2, g2, w2, finA_mono h g2⟩
theorem pad_cons {es : List Expr} {tl : Dl} (ha : PE X e (up C ta)) (hr : PA X es (upL C tl)) (hs : starEach (e :: es) X.env = (false, eval e X.env) :: starEach es X.env := by rfl) : PA X (e :: es) (upL C (dCons ta tl)) :=
  pa_weak (pa_cons ha hr hs) fun σ H Q ⟨G, δ, F, hC, k, h⟩ => by
    subst hC
    refine ⟨G, δ, F, rfl, k, finA_bind h fun x δ1 v F1 H1 k1 g1 w1 h1 => ?_⟩
    obtain ⟨d, δ2, F2, k2, g2, w2, h2⟩ := kp_bind k1 h1 w1
    refine ⟨G, δ2, F2, rfl, k2, finA_bind h2 fun ds δ3 vs F3 H3 k3 g3 w3 h3 => ?_⟩
    exact h3 (v :: vs) F3 H3 k3 (Same.refl F3) (.cons (dp_mono g3 _ _ w2) w3)
def small (n : Nat) : Bool := decide (n ≤ 100000)
theorem small_line {n : Nat} (h : small n = true) : n ≤ sizeLine := Nat.le_trans (of_decide_eq_true h) (by decide)
theorem small_lt {n : Nat} (h : small n = true) : n < sizeLine := Nat.lt_of_le_of_lt (of_decide_eq_true h) (by decide)
def okIf {α : Type} (b : Bool) (r : R α) : R α := match b with
  | true => r
  | false => .bad
theorem okIf_fin {G : Ct} {α β : Type} {W : DS → Hp → Hp → β → α → Prop} {t : Bool} {r : R α} {σ : L2.St} {F : Hp} {Q : β → Hp → Prop} (h : finA G W (okIf t r) σ F Q) : t = true ∧ finA G W r σ F Q := by
  cases t with
  | true => exact ⟨rfl, h⟩
  | false => exact h.elim
def dTup (l : Dl) : De := fun δ => (l δ).bind fun ds δ1 => okIf (small ds.length) (.ok (.fz (.tuple ds)) δ1)
def dLst (l : Dl) : De := fun δ => (l δ).bind fun ds δ1 => okIf (small ds.length) (.ok (.own (.lst ds)) δ1)
theorem pd_tup {es : List Expr} {x1 : Nat} {tl : Dl} (hp : PA X es (upL C tl)) : PE X (.Tuple es x1 pos) (up C (dTup tl)) :=
  pe_weak (pe_tup hp) fun σ H Q ⟨G, δ, F, hC, k, h⟩ => by
    subst hC
    refine ⟨G, δ, F, rfl, k, finA_bind h fun ds δ1 vs F1 H1 k1 g1 w1 h1 => ?_⟩
    obtain ⟨z, h2⟩ := okIf_fin h1
    have w1 : DpAll G.K F1 vs ds := w1
    refine ⟨by rw [dpa_len w1]; exact small_line z, ?_⟩
    exact Res.newT (fun v F' H' s g w => h2 v F' H' s g w) k1 w1
theorem pd_lst {es : List Expr} {tl : Dl} (hp : PA X es (upL C tl)) : PE X (.List es pos) (up C (dLst tl)) :=
  pe_weak (pe_lst hp) fun σ H Q ⟨G, δ, F, hC, k, h⟩ => by
    subst hC
    refine ⟨G, δ, F, rfl, k, finA_bind h fun ds δ1 vs F1 H1 k1 g1 w1 h1 => ?_⟩
    obtain ⟨z, h2⟩ := okIf_fin h1
    have w1 : DpAll G.K F1 vs ds := w1
    refine ⟨by rw [dpa_len w1]; exact small_line z, ?_⟩
    exact Res.newL (fun v F' H' s g w => h2 v F' H' s g w) k1 w1

/-! ### items, slices -/
theorem at_dpa {K : PySem.W.Frag} {F : Hp} {vs : List V} {ds : List D} {i : Int} {d : D} (h : DpAll K F vs ds) (e : atI ds i = some d) : ∃ v, atI vs i = some v ∧ Dp K F v d := by
  unfold atI at e ⊢
  rw [dpa_len h]
  cases q : ixN ds.length i with
  | none => rw [q] at e; cases e
  | some j =>
    rw [q] at e
    exact dpa_get h e
def fIx : D → D → Option Vl
  | .list ds, .int i => (atI ds i).map .fz
  | .tuple ds, .int i => (atI ds i).map .fz
  | .dict [(.none, .list ds)], .int i => (atI ds i).map .fz
  | .str z, .int i => match small z.length with
    | true => (atI z.cps.toList i).map fun c => .fz (.str ⟨#[c]⟩)
    | false => none
  | _, _ => none
theorem o_ix {K : PySem.W.Frag} : Op2 K (rIx K) fIx := by
  intro G δ σ F H x y d e z Q hK k hx hy ez q
  subst hK
  cases e with
  | int i =>
    have hy := hy.int
    subst hy
    cases d with
    | list ds =>
      obtain ⟨p, vs, rfl, h1, h2⟩ := hx.list k.fh
      have ez : (atI ds i).map Vl.fz = some z := ez
      cases ed : atI ds i with
      | none => rw [ed] at ez; cases ez
      | some d =>
        rw [ed] at ez
        cases ez
        obtain ⟨v, e1, e2⟩ := at_dpa h2 ed
        exact .inl ⟨p, vs, i, v, rfl, rfl, SqL.of h1, e1, q.fz k e2⟩
    | tuple ds =>
      obtain ⟨p, vs, rfl, h1, h2⟩ := hx.tup
      have ez : (atI ds i).map Vl.fz = some z := ez
      cases ed : atI ds i with
      | none => rw [ed] at ez; cases ez
      | some d =>
        rw [ed] at ez
        cases ez
        obtain ⟨v, e1, e2⟩ := at_dpa h2 ed
        exact .inr (.inl ⟨p, vs, i, v, rfl, rfl, SqT.of (k.fh _ _ h1), e1, q.fz k e2⟩)
    | str y =>
      have hx := hx.str
      subst hx
      have ez : (match small y.length with | true => (atI y.cps.toList i).map fun c => Vl.fz (.str ⟨#[c]⟩) | false => none) = some z := ez
      cases sm : small y.length with
      | false => rw [sm] at ez; cases ez
      | true =>
        rw [sm] at ez
        simp only at ez
        cases ed : atI y.cps.toList i with
        | none => rw [ed] at ez; cases ez
        | some d =>
          rw [ed] at ez
          cases ez
          exact .inr (.inr ⟨y, i, d, rfl, rfl, small_line sm, ed, q.fz k (.str _)⟩)
    | dict kvs =>
      obtain ⟨p, ns, rfl, rfl, h1⟩ := hx.scr fun ks ds z => by subst z; cases ez
      have ez : (atI (ns.map PyData.int) i).map Vl.fz = some z := ez
      cases ed : atI (ns.map PyData.int) i with
      | none => rw [ed] at ez; cases ez
      | some d =>
        rw [ed] at ez
        cases ez
        obtain ⟨v, e1, e2⟩ := at_dpa (dpa_ints (K := G.K) (F := F) ns) ed
        exact .inl ⟨p, _, i, v, rfl, rfl, same_l k.fh h1, e1, q.fz k e2⟩
    | _ => cases ez
  | _ =>
    exfalso
    unfold fIx at ez
    split at ez <;> first | cases ez | contradiction
theorem pd_ix (ha : PE X a (up C ta)) (hb : PE X b (up C tb)) (hK : C.K = X.K := by rfl) (hs : PlainIx b := by exact fun _ _ => rfl) : PE X (.Subscript a b pos) (up C (dBin fIx ta tb)) := pe_weak (pe_ix ix_seq ha hb hs) (by rw [← hK]; exact rf_bin o_ix)
/-- bounds -/
def oNone : Dopt := fun δ => .ok none δ
def asI (x : Vl) (δ : DS) : R (Option Int) := match x with
  | .fz (.int i) => .ok (some i) δ
  | _ => .bad
def oSome (a : De) : Dopt := fun δ => (a δ).bind asI
theorem pod_none : PO X none (upO C oNone) := po_weak po_none fun σ H Q ⟨G, δ, F, hC, k, h⟩ => h none F H k (Same.refl F) rfl
theorem pod_some (hp : PE X e (up C ta)) : PO X (some e) (upO C (oSome ta)) := po_weak (po_some hp) fun σ H Q ⟨G, δ, F, hC, k, h⟩ => by
  subst hC
  refine ⟨G, δ, F, rfl, k, finA_bind h fun x δ1 v F1 H1 k1 g1 w1 h1 => ?_⟩
  cases x with
  | fz d => cases d with
    | int i =>
      cases w1
      exact ⟨i, rfl, h1 (some i) F1 H1 k1 (Same.refl F1) rfl⟩
    | _ => exact h1.elim
  | _ => exact h1.elim
def cutL {α : Type} (xs : List α) (lo hi : Option Int) : List α := (xs.drop (HT.sIx xs.length 0 lo)).take (HT.sIx xs.length xs.length hi - HT.sIx xs.length 0 lo)
theorem cutL_V (xs : List V) (lo hi : Option Int) : cutV xs lo hi = cutL xs lo hi := rfl
theorem dpa_cut {K : PySem.W.Frag} {F : Hp} {vs : List V} {ds : List D} (h : DpAll K F vs ds) (lo hi : Option Int) : DpAll K F (cutV vs lo hi) (cutL ds lo hi) := by
  unfold cutV cutL
  rw [dpa_len h]
  exact dpa_take _ (dpa_drop _ h)
def fSl (d : D) (lo hi : Option Int) : Option Vl := match d with
  | .list ds => some (.own (.lst (cutL ds lo hi)))
  | .tuple ds => some (.fz (.tuple (cutL ds lo hi)))
  | .dict [(.none, .list ds)] => some (.own (.lst (cutL ds lo hi)))
  | .str z => match small z.length with
    | true => some (.fz (.str (cutS z lo hi)))
    | false => none
  | _ => none
def liftS (x : Option D) (lo hi : Option Int) (δ : DS) : R Vl := match x with
  | some d => ret (fSl d lo hi) δ
  | none => .bad
def dSl (a : De) (l h : Dopt) : De := fun δ => (a δ).bind fun x δ1 => (l δ1).bind fun lo δ2 => (h δ2).bind fun hi δ3 => liftS (vw δ3 (fzT x)) lo hi δ3
theorem cut_whole {α : Type} (xs : List α) (lo hi : Option Int) (h : HT.sIx xs.length 0 lo = 0 ∧ HT.sIx xs.length xs.length hi = xs.length) : cutL xs lo hi = xs := by
  unfold cutL
  rw [h.1, h.2]
  simp
theorem pd_sl {lo hi : Option Expr} {tl th : Dopt} {p2 : Pos} (ha : PE X a (up C ta)) (hl : PO X lo (upO C tl)) (hh : PO X hi (upO C th)) (hK : C.K = X.K := by rfl) : PE X (.Subscript a (.Slice lo hi none p2) pos) (up C (dSl ta tl th)) :=
  pe_weak (pe_slice (SlR.or sl_list (SlR.or sl_tupA sl_str)) ha hl hh) fun σ H Q ⟨G, δ, F, hC, k, h⟩ => by
    subst hC
    refine ⟨G, δ, F, rfl, k, finA_bind h fun x δ1 v F1 H1 k1 g1 w1 h1 => ?_⟩
    obtain ⟨F2, k2, g2, w2⟩ := k1.freeze w1
    refine ⟨G, δ1, F2, rfl, k2, finA_bind (finA_mono h1 g2) fun lo' δ3 l F3 H3 k3 g3 e3 h3 => ?_⟩
    have e3 : l = lo' := e3
    subst e3
    refine ⟨G, δ3, F3, rfl, k3, finA_bind h3 fun hi' δ4 r F4 H4 k4 g4 e4 h4 => ?_⟩
    have e4 : r = hi' := e4
    subst e4
    cases ev : vw δ4 (fzT x) with
    | none => rw [ev] at h4; exact h4.elim
    | some d =>
      rw [ev] at h4
      have w2' : VlOk G δ4 σ F4 H4 v (fzT x) := w2.keep (fzT_stays ev) (g3.trans g4)
      have hx := k4.view w2' ev
      have h4 : finA G (WV G σ) (ret (fSl d l r) δ4) σ F4 Q := h4
      cases d with
      | list ds =>
        obtain ⟨p, vs, rfl, q1, q2⟩ := hx.list k4.fh
        exact .inl ⟨p, vs, rfl, SqL.of q1, Res.newL (fun v F' H' s g w => h4 v F' H' s g w) k4 (dpa_cut q2 l r)⟩
      | tuple ds =>
        obtain ⟨p, vs, rfl, q1, q2⟩ := hx.tup
        refine .inr (.inl ⟨p, vs, rfl, SqT.of (k4.fh _ _ q1), fun hw => ?_, fun _ => ?_⟩)
        · rw [dpa_len q2] at hw
          have h5 : finA G (WV G σ) (.ok (.fz (.tuple (cutL ds l r))) δ4) σ F4 Q := h4
          rw [cut_whole ds l r hw] at h5
          exact h5 _ F4 H4 k4 (Same.refl F4) (.tup q1 q2)
        · exact Res.newT (fun v F' H' s g w => h4 v F' H' s g w) k4 (dpa_cut q2 l r)
      | str z =>
        have hx := hx.str
        subst hx
        cases sm : small z.length with
        | false =>
          have e : fSl (.str z) l r = none := by show (match small z.length with | true => _ | false => none) = none; rw [sm]
          rw [e] at h4
          exact h4.elim
        | true =>
          have e : fSl (.str z) l r = some (.fz (.str (cutS z l r))) := by show (match small z.length with | true => _ | false => none) = _; rw [sm]
          rw [e] at h4
          exact .inr (.inr ⟨z, rfl, small_line sm, h4 _ F4 H4 k4 (Same.refl F4) (.str _)⟩)
      | dict kvs =>
        obtain ⟨p, ns, rfl, rfl, q1⟩ := hx.scr fun ks ds z => by subst z; exact h4.elim
        exact .inl ⟨p, _, rfl, by rw [← hK]; exact same_l k4.fh q1, Res.newL (fun v F' H' s g w => h4 v F' H' s g w) k4 (dpa_cut (dpa_ints ns) l r)⟩
      | _ => exact h4.elim
end
end DL

set_option Elab.async false
set_option linter.all false
set_option maxRecDepth 100000
set_option autoImplicit false
namespace DL
open PySem PySem.Spec PyProof.Rows L2

/-! ### the operators on data -/
def some1 (d : D) : Option Vl := some (.fz d)
/-- list + list where each may be read only -/
def rCatR : R2 := fun x y H Q => ∃ l b xs zs, x = .ref l ∧ y = .ref b ∧ H l = some (.lst xs) ∧ H b = some (.lst zs) ∧ xs.length + zs.length ≤ sizeLine ∧ ∀ p, H p = none → Q (.ref p) (upd H p (.lst (xs ++ zs)))
theorem op_catR {X : Cx} : OpR X (binaryOp .Add) rCatR := by
  intro pins s σ H x y v u Q I rx ry h
  obtain ⟨l, b, xs, zs, rfl, rfl, hH, hB, hz, q⟩ := h
  cases rx
  cases ry
  obtain ⟨z, its, n, r, e⟩ := (show ObjOk X.prog X.w H s.heap l (.lst xs) from I.hok _ _ hH)
  obtain ⟨z2, its2, n2, r2, e2⟩ := (show ObjOk X.prog X.w H s.heap b (.lst zs) from I.hok _ _ hB)
  have hl := r.length
  have hl2 := r2.length
  refine PySem.P.add_list e e2 ?_ (by rw [List.size_toArray, List.size_toArray]; omega)
  have ea : its.toArray ++ its2.toArray = (its ++ its2).toArray := by simp
  rw [ea]
  exact ⟨.ref _, _, I.lnew (t' := s.toks) (r.append r2) (by rw [List.length_append]; omega), rfl, q _ I.fresh⟩
def rRepR : R2 := fun x y H Q => ∃ l k xs, x = .ref l ∧ y = .int k ∧ H l = some (.lst xs) ∧ -(2 ^ 63) ≤ k ∧ k < 2 ^ 63 ∧ xs.length * k.toNat ≤ sizeLine ∧
  ∀ p, H p = none → Q (.ref p) (upd H p (.lst (List.replicate k.toNat xs).flatten))
theorem op_repR {X : Cx} : OpR X (binaryOp .Mult) rRepR := by
  intro pins s σ H x y v u Q I rx ry h
  obtain ⟨l, k, xs, rfl, rfl, hH, h1, h2, hz, q⟩ := h
  cases rx
  obtain ⟨t, rfl⟩ := ry
  obtain ⟨z, its, n, r, e⟩ := (show ObjOk X.prog X.w H s.heap l (.lst xs) from I.hok _ _ hH)
  have hl := r.length
  have hlen : its.toArray.size * k.toNat ≤ sizeLine := by rw [List.size_toArray, ← hl]; exact hz
  have hcap : ¬ its.toArray.size * k.toNat > (2 ^ 63 - 1) / 8 := by
    have : (sizeLine : Nat) ≤ (2 ^ 63 - 1) / 8 := by decide
    omega
  have hfit : ¬ (!Builtin.List.listFitsIndex k) = true := by
    rw [fitsIndex_both h1 h2]
    exact Bool.false_ne_true
  have hlong : ¬ Builtin.List.listTooLong (its.toArray.size * k.toNat) = true := by
    rw [notLongL hlen]
    exact Bool.false_ne_true
  have hnew : List.foldl (fun x1 x2 => x1 ++ x2) #[] (List.replicate (if its.toArray.isEmpty = true then 0 else k.toNat) its.toArray) = (List.replicate k.toNat its).flatten.toArray := by
    have f0 : ∀ m : Nat, List.foldl (fun x1 x2 => x1 ++ x2) #[] (List.replicate m its.toArray) = (List.replicate m its).flatten.toArray := fun m => by
      have := foldl_rep its m []
      rw [List.nil_append] at this
      exact this
    rw [f0]
    cases its with
    | nil => simp
    | cons a r' => rw [if_neg (by simp)]
  refine wpAny_binaryOp_repeat_ref (T := "list") (U := "int") (by decide) ⟨_, e, rfl⟩ (fun s' => typeIs_int s' k t) noFill_list_mul F.fills_int_mul F.slot_int_rmul repeat_list F.slot_int_index.lookup
    (call_meets F.slot_int_rmul (typeIs_int s k t) F.entry_int_rmul (F.args_int_rmul_2 _ _) (int___rmul___int_list k t l its.toArray n)
      ⟨e, rfl, ⟨_, e, rfl⟩, call_meets F.slot_list_mul ⟨_, e, rfl⟩ F.entry_list_mul (F.args_list_mul_2 _ _) (AutoListH.list___mul___list_int_3 l its.toArray n k t hfit hcap hlong) ⟨e, ?_⟩⟩)
  rw [hnew]
  exact ⟨.ref _, _, I.lnew (t' := s.toks) (r.rep k.toNat) (by rw [PyProof.Rows.lm_len_rep_flat, Nat.mul_comm]; exact hz), rfl, q _ I.fresh⟩

def rAddD (K : PySem.W.Frag) : R2 := fun x y H Q => rI0 (fun i j => .int (i + j)) x y H Q ∨ (∃ i k, x = .int i ∧ y = .bl k ∧ Q (.int (i + b2i k)) H) ∨ (∃ i j, x = .str i ∧ y = .str j ∧ i.length + j.length ≤ sizeLine ∧ Q (.str (i ++ j)) H) ∨ rCatR x y H Q ∨ rCatA K x y H Q
theorem op_addD {X : Cx} : OpR X (binaryOp .Add) (rAddD X.K) := op_add.or (op_add_ib.or (op_add_str.or (op_catR.or op_catA)))
def okO {α : Type} (b : Bool) (r : Option α) : Option α := match b with
  | true => r
  | false => none
theorem okO_some {α : Type} {b : Bool} {r : Option α} {z : α} (h : okO b r = some z) : b = true ∧ r = some z := by
  cases b with
  | true => exact ⟨rfl, h⟩
  | false => cases h
def fAdd : D → D → Option Vl
  | .int i, .int j => some (.fz (.int (i + j)))
  | .int i, .bool k => some (.fz (.int (i + b2i k)))
  | .str x, .str y => okO (small (x.length + y.length)) (some (.fz (.str (x ++ y))))
  | .list xs, .list ys => okO (small (xs.length + ys.length)) (some (.own (.lst (xs ++ ys))))
  | .tuple xs, .tuple ys => okO (small (xs.length + ys.length)) (some (.fz (.tuple (xs ++ ys))))
  | _, _ => none
theorem o_add {K : PySem.W.Frag} : Op2 K (rAddD K) fAdd := by
  intro G δ σ F H x y d e z Q hK k hx hy ez q
  subst hK
  cases d with
  | int i =>
    have hx := hx.int
    subst hx
    cases e with
    | int j =>
      have hy := hy.int
      subst hy
      cases ez
      exact .inl ⟨i, j, rfl, rfl, q.fz k (.int _)⟩
    | bool j =>
      have hy := hy.bl
      subst hy
      cases ez
      exact .inr (.inl ⟨i, j, rfl, rfl, q.fz k (.int _)⟩)
    | _ => cases ez
  | str i =>
    have hx := hx.str
    subst hx
    cases e with
    | str j =>
      have hy := hy.str
      subst hy
      obtain ⟨e1, e2⟩ := okO_some ez
      cases e2
      exact .inr (.inr (.inl ⟨i, j, rfl, rfl, small_line e1, q.fz k (.str _)⟩))
    | _ => cases ez
  | list xs =>
    cases e with
    | list ys =>
      obtain ⟨p, vs, rfl, h1, h2⟩ := hx.list k.fh
      obtain ⟨r, ws, rfl, h3, h4⟩ := hy.list k.fh
      obtain ⟨e1, e2⟩ := okO_some ez
      cases e2
      exact .inr (.inr (.inr (.inl ⟨p, r, vs, ws, rfl, rfl, h1, h3, by rw [dpa_len h2, dpa_len h4]; exact small_line e1, q.newL k (dpa_app h2 h4)⟩)))
    | _ => cases ez
  | tuple xs =>
    cases e with
    | tuple ys =>
      obtain ⟨p, vs, rfl, h1, h2⟩ := hx.tup
      obtain ⟨r, ws, rfl, h3, h4⟩ := hy.tup
      obtain ⟨e1, e2⟩ := okO_some ez
      cases e2
      refine .inr (.inr (.inr (.inr ⟨p, r, vs, ws, rfl, rfl, SqT.of (k.fh _ _ h1), SqT.of (k.fh _ _ h3), by rw [dpa_len h2, dpa_len h4]; exact small_line e1, fun hz => ?_, fun _ hz => ?_, fun _ _ => q.newT k (dpa_app h2 h4)⟩)))
      · subst hz
        cases h2
        exact q.fz k (.tup h3 h4)
      · subst hz
        cases h4
        rw [List.append_nil] at q
        exact q.fz k (.tup h1 h2)
    | _ => cases ez
  | _ => cases e <;> cases ez
def fSub : D → D → Option Vl
  | .int i, .int j => some (.fz (.int (i - j)))
  | _, _ => none
/-- two ints -/
theorem o_int2 {K : PySem.W.Frag} {Cd : Int → Int → Prop} {g : Int → Int → V} {f : D → D → Option Vl} (hf : ∀ d e z, f d e = some z → ∃ i j w, d = .int i ∧ e = .int j ∧ z = .fz w ∧ Cd i j ∧ ∀ F, Dp K F (g i j) w) : Op2 K (rI Cd g) f := by
  intro G δ σ F H x y d e z Q hK k hx hy ez q
  subst hK
  obtain ⟨i, j, w, rfl, rfl, rfl, hc, hw⟩ := hf d e z ez
  have hx := hx.int
  have hy := hy.int
  subst hx hy
  exact ⟨i, j, rfl, rfl, hc, q.fz k (hw F)⟩
theorem o_int20 {K : PySem.W.Frag} {g : Int → Int → V} {f : D → D → Option Vl} (hf : ∀ d e z, f d e = some z → ∃ i j w, d = .int i ∧ e = .int j ∧ z = .fz w ∧ ∀ F, Dp K F (g i j) w) : Op2 K (rI0 g) f := by
  intro G δ σ F H x y d e z Q hK k hx hy ez q
  subst hK
  obtain ⟨i, j, w, rfl, rfl, rfl, hw⟩ := hf d e z ez
  have hx := hx.int
  have hy := hy.int
  subst hx hy
  exact ⟨i, j, rfl, rfl, q.fz k (hw F)⟩
theorem o_sub {K : PySem.W.Frag} : Op2 K (rI0 fun i j => .int (i - j)) fSub := o_int20 fun d e z h => by
  cases d <;> cases e <;> first | (cases h; exact ⟨_, _, _, rfl, rfl, rfl, fun _ => .int _⟩) | cases h
/-- how large ints are that may be multiplied: a lid that is never opened but by its lemmas -/
@[irreducible] def bits : Nat := 2 ^ 9000
def wide (i : Int) : Bool := decide (i.natAbs < bits)
theorem wide_log {i : Int} (h : wide i = true) : i.natAbs.log2 < 9000 := by
  have h : i.natAbs < bits := of_decide_eq_true h
  unfold bits at h
  exact PySem.Flt.log2_lt_of (by decide) h
theorem wide_of {i : Int} {n : Nat} (h : i.natAbs < 2 ^ n) (hn : n ≤ 9000) : wide i = true := by
  refine decide_eq_true ?_
  unfold bits
  exact Nat.lt_of_lt_of_le h (Nat.pow_le_pow_right (by decide) hn)
def rMulD : R2 := fun x y H Q => rI CMulW (fun i j => .int (i * j)) x y H Q ∨ rRepR x y H Q
theorem op_mulD {X : Cx} : OpR X (binaryOp .Mult) rMulD := op_mulW.or op_repR
def fMul : D → D → Option Vl
  | .int i, .int j => okO (wide i && wide j) (some (.fz (.int (i * j))))
  | .list xs, .int k => okO (small (xs.length * k.toNat) && decide (-1000000 ≤ k) && decide (k ≤ 1000000)) (some (.own (.lst (List.replicate k.toNat xs).flatten)))
  | _, _ => none
theorem dpa_rep {K : PySem.W.Frag} {F : Hp} {vs : List V} {ds : List D} (h : DpAll K F vs ds) : ∀ n : Nat, DpAll K F (List.replicate n vs).flatten (List.replicate n ds).flatten
  | 0 => .nil
  | n + 1 => by
    rw [List.replicate_succ, List.replicate_succ, List.flatten_cons, List.flatten_cons]
    exact dpa_app h (dpa_rep h n)
theorem o_mul {K : PySem.W.Frag} : Op2 K rMulD fMul := by
  intro G δ σ F H x y d e z Q hK k hx hy ez q
  subst hK
  cases d with
  | int i =>
    have hx := hx.int
    subst hx
    cases e with
    | int j =>
      have hy := hy.int
      subst hy
      obtain ⟨e1, e2⟩ := okO_some ez
      cases e2
      rw [Bool.and_eq_true] at e1
      refine .inl ⟨i, j, rfl, rfl, ?_, q.fz k (.int _)⟩
      have a := wide_log e1.1
      have b := wide_log e1.2
      unfold CMulW
      omega
    | _ => cases ez
  | list xs =>
    cases e with
    | int j =>
      have hy := hy.int
      subst hy
      obtain ⟨p, vs, rfl, h1, h2⟩ := hx.list k.fh
      obtain ⟨e1, e2⟩ := okO_some ez
      cases e2
      rw [Bool.and_eq_true, Bool.and_eq_true] at e1
      obtain ⟨⟨s1, s2⟩, s3⟩ := e1
      have s2 := of_decide_eq_true s2
      have s3 := of_decide_eq_true s3
      exact .inr ⟨p, j, vs, rfl, rfl, h1, by omega, by omega, by rw [dpa_len h2]; exact small_line s1, q.newL k (dpa_rep h2 _)⟩
    | _ => cases ez
  | _ => cases e <;> cases ez
def fDiv : D → D → Option Vl
  | .int i, .int j => okO (decide (0 < j) && wide j) (some (.fz (.int (i / j))))
  | _, _ => none
theorem o_div {K : PySem.W.Frag} : Op2 K (rI CDivW fun i j => .int (i / j)) fDiv := o_int2 fun d e z h => by
  cases d with
  | int i => cases e with
    | int j =>
      obtain ⟨e1, e2⟩ := okO_some h
      cases e2
      rw [Bool.and_eq_true] at e1
      exact ⟨i, j, _, rfl, rfl, rfl, ⟨of_decide_eq_true e1.1, wide_log e1.2⟩, fun _ => .int _⟩
    | _ => cases h
  | _ => cases e <;> cases h
def fMod : D → D → Option Vl
  | .int i, .int j => okO (decide (0 < j)) (some (.fz (.int (i % j))))
  | _, _ => none
theorem o_mod {K : PySem.W.Frag} : Op2 K (rI (fun _ j => 0 < j) fun i j => .int (i % j)) fMod := o_int2 fun d e z h => by
  cases d with
  | int i => cases e with
    | int j =>
      obtain ⟨e1, e2⟩ := okO_some h
      cases e2
      exact ⟨i, j, _, rfl, rfl, rfl, of_decide_eq_true e1, fun _ => .int _⟩
    | _ => cases h
  | _ => cases e <;> cases h
def fPow : D → D → Option Vl
  | .int i, .int j => okO (decide (0 ≤ j) && decide (j ≤ 1000) && decide (-1000 ≤ i) && decide (i ≤ 1000)) (some (.fz (.int (i ^ j.toNat))))
  | _, _ => none
theorem o_pow {K : PySem.W.Frag} : Op2 K (rI CPow fun i j => .int (i ^ j.toNat)) fPow := o_int2 fun d e z h => by
  cases d with
  | int i => cases e with
    | int j =>
      obtain ⟨e1, e2⟩ := okO_some h
      cases e2
      rw [Bool.and_eq_true, Bool.and_eq_true, Bool.and_eq_true] at e1
      obtain ⟨⟨⟨a, b⟩, c⟩, d⟩ := e1
      have a := of_decide_eq_true a
      have b := of_decide_eq_true b
      have c := of_decide_eq_true c
      have d := of_decide_eq_true d
      exact ⟨i, j, _, rfl, rfl, rfl, ⟨a, by omega, by omega⟩, fun _ => .int _⟩
    | _ => cases h
  | _ => cases e <;> cases h
def fNeg : D → Option Vl
  | .int i => some (.fz (.int (-i)))
  | _ => none
theorem o_neg {K : PySem.W.Frag} : Op1 K (rU fun i => .int (-i)) fNeg := by
  intro G δ σ F H x d z Q hK k hx ez q
  subst hK
  cases d with
  | int i =>
    have hx := hx.int
    subst hx
    cases ez
    exact ⟨i, rfl, q.fz k (.int _)⟩
  | _ => cases ez
/-! ### comparisons -/
def fEq (d e : D) : Option Vl := okO (SeqAt.shaped d && SeqAt.shaped e) (some (.fz (.bool (PyData.eqv d e))))
def fNe (d e : D) : Option Vl := okO (SeqAt.shaped d && SeqAt.shaped e) (some (.fz (.bool (!PyData.eqv d e))))
theorem o_eq {K : PySem.W.Frag} : Op2 K (rEqD K) fEq := by
  intro G δ σ F H x y d e z Q hK k hx hy ez q
  subst hK
  obtain ⟨e1, e2⟩ := okO_some ez
  cases e2
  rw [Bool.and_eq_true] at e1
  exact ⟨d, e, dp_lib _ _ (SeqAt.canLay_of_shaped e1.1) (hx.dp k.fh), dp_lib _ _ (SeqAt.canLay_of_shaped e1.2) (hy.dp k.fh), e1.1, e1.2, q.fz k (.bl _)⟩
theorem o_ne {K : PySem.W.Frag} : Op2 K (rNeD K) fNe := by
  intro G δ σ F H x y d e z Q hK k hx hy ez q
  subst hK
  obtain ⟨e1, e2⟩ := okO_some ez
  cases e2
  rw [Bool.and_eq_true] at e1
  exact ⟨d, e, dp_lib _ _ (SeqAt.canLay_of_shaped e1.1) (hx.dp k.fh), dp_lib _ _ (SeqAt.canLay_of_shaped e1.2) (hy.dp k.fh), e1.1, e1.2, q.fz k (.bl _)⟩
def fCmpI (g : Int → Int → Bool) : D → D → Option Vl
  | .int i, .int j => some (.fz (.bool (g i j)))
  | _, _ => none
theorem o_cmpI {K : PySem.W.Frag} {g : Int → Int → Bool} : Op2 K (rI0 fun i j => .bl (g i j)) (fCmpI g) := o_int20 fun d e z h => by
  cases d <;> cases e <;> first | (cases h; exact ⟨_, _, _, rfl, rfl, rfl, fun _ => .bl _⟩) | cases h
def fLtI : D → D → Option Vl := fCmpI fun i j => decide (i < j)
def fGt : D → D → Option Vl := fCmpI fun i j => decide (j < i)
def fGe : D → D → Option Vl := fCmpI fun i j => decide (j ≤ i)
def fLe : D → D → Option Vl
  | .int i, .int j => some (.fz (.bool (decide (i ≤ j))))
  | .str i, .str j => some (.fz (.bool (!decide (j.cps.toList < i.cps.toList))))
  | _, _ => none
/-- is None -/
def fIsN (d e : D) : Option Vl := match e with
  | .none => match d with
    | .none => some (.fz (.bool true))
    | _ => some (.fz (.bool false))
  | _ => none
def fNotN (d e : D) : Option Vl := match e with
  | .none => match d with
    | .none => some (.fz (.bool false))
    | _ => some (.fz (.bool true))
  | _ => none
theorem Vw.isN {K : PySem.W.Frag} {F H : Hp} {v : V} {d : D} (h : Vw K F H v d) : (v = .non ↔ d = .none) := by
  rcases h with h | ⟨p, vs, ds, rfl, rfl, _⟩
  · cases h <;> simp
  · simp
theorem o_isN {K : PySem.W.Frag} : Op2 K (fun x y H Q => y = .non ∧ Q (.bl (decide (x = .non))) H) fIsN := by
  intro G δ σ F H x y d e z Q hK k hx hy ez q
  subst hK
  cases e with
  | none =>
    have hy := hy.non
    have hi := hx.isN
    refine ⟨hy, ?_⟩
    cases d with
    | none => cases ez; rw [decide_eq_true (hi.mpr rfl)]; exact q.fz k (.bl _)
    | _ => cases ez; rw [decide_eq_false (fun z => by cases hi.mp z)]; exact q.fz k (.bl _)
  | _ => cases ez
theorem o_notN {K : PySem.W.Frag} : Op2 K (fun x y H Q => y = .non ∧ Q (.bl (!decide (x = .non))) H) fNotN := by
  intro G δ σ F H x y d e z Q hK k hx hy ez q
  subst hK
  cases e with
  | none =>
    have hy := hy.non
    have hi := hx.isN
    refine ⟨hy, ?_⟩
    cases d with
    | none => cases ez; rw [decide_eq_true (hi.mpr rfl)]; exact q.fz k (.bl _)
    | _ => cases ez; rw [decide_eq_false (fun z => by cases hi.mp z)]; exact q.fz k (.bl _)
  | _ => cases ez
end DL

set_option Elab.async false
set_option linter.all false
set_option maxRecDepth 100000
set_option autoImplicit false
namespace DL
open PySem PySem.Spec PyProof.Rows L2

/-! ### statements -/
inductive Out where
  | nx | bk | ct | rt (v : Vl)
abbrev Ds := DS → R Out
def finS (G : Ct) (r : R Out) (F : Hp) (D : Ends) : Prop := match r with
  | .ok .nx δ' => ∀ σ' F' H', St1 G δ' σ' F' H' → Same F F' → D.nx σ' H'
  | .ok .bk δ' => ∀ σ' F' H', St1 G δ' σ' F' H' → Same F F' → D.bk σ' H'
  | .ok .ct δ' => ∀ σ' F' H', St1 G δ' σ' F' H' → Same F F' → D.ct σ' H'
  | .ok (.rt a) δ' => ∀ v σ' F' H', St1 G δ' σ' F' H' → Same F F' → VlOk G δ' σ' F' H' v a → D.rt v H'
  | .ex c δ' => ∀ σ' F' H', St1 G δ' σ' F' H' → Same F F' → G.E σ' c none H'
  | .bad => False
def ups (C : Cf) (sd : Ds) : TS := fun D σ H => ∃ G δ F, G.C = C ∧ St1 G δ σ F H ∧ finS G (sd δ) F D
theorem finS_mono {G : Ct} {r : R Out} {F F1 : Hp} {D : Ends} (h : finS G r F D) (f : Same F F1) : finS G r F1 D := by
  cases r with
  | ok a δ => cases a with
    | nx => exact fun σ' F' H' s g => h σ' F' H' s (f.trans g)
    | bk => exact fun σ' F' H' s g => h σ' F' H' s (f.trans g)
    | ct => exact fun σ' F' H' s g => h σ' F' H' s (f.trans g)
    | rt v => exact fun v σ' F' H' s g w => h v σ' F' H' s (f.trans g) w
  | ex c δ => exact fun σ' F' H' s g => h σ' F' H' s (f.trans g)
  | bad => exact h
/-- an expression first -/
theorem finS_bind {α β : Type} {G : Ct} {W : DS → Hp → Hp → β → α → Prop} {r : R α} {k : α → DS → R Out} {σ : L2.St} {F : Hp} {D : Ends} {Q : β → Hp → Prop} (h : finS G (r.bind k) F D)
    (hk : ∀ a δ1 v F1 H1, St1 G δ1 σ F1 H1 → Same F F1 → W δ1 F1 H1 v a → finS G (k a δ1) F1 D → Q v H1) : finA G W r σ F Q := by
  cases r with
  | ok a δ => exact fun v F1 H1 s g w => hk a δ v F1 H1 s g w (finS_mono h g)
  | ex c δ => exact fun F' H' s g => h σ F' H' s g
  | bad => exact h
theorem kp_bindS {G : Ct} {x : Vl} {δ : DS} {f : D → DS → R Out} {σ : L2.St} {F H : Hp} {D : Ends} {v : V} (k : St1 G δ σ F H) (h : finS G ((kp x δ).bind f) F D) (w : VlOk G δ σ F H v x) :
    ∃ d δ2 F2, St1 G δ2 σ F2 H ∧ Same F F2 ∧ Dp G.K F2 v d ∧ finS G (f d δ2) F2 D := by
  cases e : kp x δ with
  | bad => rw [e] at h; exact h.elim
  | ex cc s =>
    exfalso
    cases x with
    | fz d => cases e
    | own cc => cases cc <;> cases e
    | loc i =>
      unfold kp at e
      simp only at e
      split at e <;> cases e
  | ok d δ2 =>
    rw [e] at h
    obtain ⟨F2, k2, g2, w2⟩ := k.keepV w e
    exact ⟨d, δ2, F2, k2, g2, w2, finS_mono h g2⟩
theorem okIf_finS {G : Ct} {t : Bool} {r : R Out} {F : Hp} {D : Ends} (h : finS G (okIf t r) F D) : t = true ∧ finS G r F D := by
  cases t with
  | true => exact ⟨rfl, h⟩
  | false => exact h.elim

/-! ### slots are stored -/
section
variable {G : Ct} {δ : DS} {σ : L2.St} {F H : Hp}
theorem St1.M_none (k : St1 G δ σ F H) {i : Nat} {s : Sl} (h : δ[i]? = some s) (hs : s.isArg = false) : G.M i = none := by
  cases e : G.M i with
  | none => rfl
  | some p =>
    obtain ⟨c, hc⟩ := k.ma i p e
    rw [h] at hc
    cases hc
    cases hs
theorem St1.lt (k : St1 G δ σ F H) {i : Nat} {s : Sl} (h : δ[i]? = some s) : i < δ.length ∧ i < σ.length := by
  have h1 := (List.getElem?_eq_some_iff.mp h).1
  exact ⟨h1, by rw [← k.len]; exact h1⟩
theorem St1.setFz (k : St1 G δ σ F H) {i : Nat} {s : Sl} {v : V} {d : D} (h : δ[i]? = some s) (hs : s.isArg = false) (w : Dp G.K F v d) : St1 G (δ.set i (.fz d)) (σ.set i (some v)) F H where
  len := by simpa using k.len
  fh := k.fh
  f0 := k.f0
  h0 := k.h0
  fn := k.fn
  sl := fun j t e => by
    obtain ⟨l1, l2⟩ := k.lt h
    by_cases hj : j = i
    · subst hj
      rw [List.getElem?_set_self l1] at e
      cases e
      rw [List.getElem?_set_self l2]
      exact ⟨v, rfl, w⟩
    · rw [List.getElem?_set_ne (Ne.symm hj)] at e ⊢
      exact k.sl j t e
  di := fun j j' t t' p hj e e' q q' r r' => by
    obtain ⟨l1, l2⟩ := k.lt h
    have a1 : j ≠ i := fun z => by subst z; rw [List.getElem?_set_self l1] at e; cases e; cases q
    have a2 : j' ≠ i := fun z => by subst z; rw [List.getElem?_set_self l1] at e'; cases e'; cases q'
    rw [List.getElem?_set_ne (Ne.symm a1)] at e r
    rw [List.getElem?_set_ne (Ne.symm a2)] at e' r'
    exact k.di j j' t t' p hj e e' q q' r r'
  ma := fun j p e => by
    have a1 : j ≠ i := fun z => by subst z; rw [k.M_none h hs] at e; cases e
    rw [List.getElem?_set_ne (Ne.symm a1)]
    exact k.ma j p e
theorem St1.setOwn (k : St1 G δ σ F H) {i : Nat} {s : Sl} {v : V} {c : Co} (h : δ[i]? = some s) (hs : s.isArg = false) (w : VlOk G δ σ F H v (.own c)) : St1 G (δ.set i (.own c)) (σ.set i (some v)) F H where
  len := by simpa using k.len
  fh := k.fh
  f0 := k.f0
  h0 := k.h0
  fn := k.fn
  sl := fun j t e => by
    obtain ⟨l1, l2⟩ := k.lt h
    by_cases hj : j = i
    · subst hj
      rw [List.getElem?_set_self l1] at e
      cases e
      rw [List.getElem?_set_self l2]
      obtain ⟨p, o, rfl, h1, h2, h3, h4, _⟩ := w
      exact ⟨p, o, rfl, h1, h2, h3, k.M_none h hs, h4⟩
    · rw [List.getElem?_set_ne (Ne.symm hj)] at e ⊢
      exact k.sl j t e
  di := fun j j' t t' p hj e e' q q' r r' => by
    obtain ⟨l1, l2⟩ := k.lt h
    obtain ⟨p', o, rfl, h1, h2, h3, h4, h5⟩ := w
    by_cases a1 : j = i
    · subst a1
      rw [List.getElem?_set_ne hj] at e' r'
      rw [List.getElem?_set_self l2] at r
      cases r
      exact h5 j' t' e' q' r'
    · rw [List.getElem?_set_ne (Ne.symm a1)] at e r
      by_cases a2 : j' = i
      · subst a2
        rw [List.getElem?_set_self l2] at r'
        cases r'
        exact h5 j t e q r
      · rw [List.getElem?_set_ne (Ne.symm a2)] at e' r'
        exact k.di j j' t t' p hj e e' q q' r r'
  ma := fun j p e => by
    have a1 : j ≠ i := fun z => by subst z; rw [k.M_none h hs] at e; cases e
    rw [List.getElem?_set_ne (Ne.symm a1)]
    exact k.ma j p e
/-- what an own or handed object holds is changed -/
def Sl.with (s : Sl) (c : Co) : Sl := match s with
  | .own _ => .own c
  | .arg _ => .arg c
  | x => x
def Sl.co : Sl → Option Co
  | .own c => some c
  | .arg c => some c
  | _ => none
theorem St1.held (k : St1 G δ σ F H) {i : Nat} {s : Sl} {c : Co} (h : δ[i]? = some s) (hc : s.co = some c) : ∃ p o, σ[i]? = some (some (.ref p)) ∧ H p = some o ∧ F p = none ∧ CoOk G.K F c o := by
  have z := k.sl i s h
  cases s with
  | own c' => cases hc; obtain ⟨p, o, e1, e2, e3, e4, _⟩ := z; exact ⟨p, o, e1, e2, e3, e4⟩
  | arg c' => cases hc; obtain ⟨p, o, e1, e2, e3, e4, _⟩ := z; exact ⟨p, o, e1, e2, e3, e4⟩
  | _ => cases hc
theorem St1.change (k : St1 G δ σ F H) {i : Nat} {s : Sl} {c c' : Co} {p : Addr} {o' : HO} (h : δ[i]? = some s) (hc : s.co = some c) (hp : σ[i]? = some (some (.ref p))) (w : CoOk G.K F c' o') : St1 G (δ.set i (s.with c')) σ F (upd H p o') where
  len := by simpa using k.len
  fh := fun b o e => by
    obtain ⟨p', o0, e1, e2, e3, _⟩ := k.held h hc
    rw [hp] at e1
    cases e1
    rw [upd_ne (fun z => by subst z; rw [e3] at e; cases e)]
    exact k.fh _ _ e
  f0 := k.f0
  h0 := fun b o hm e => by
    have nb : b ≠ p := fun z => by
      subst z
      have z := k.sl i s h
      cases s with
      | own c' => obtain ⟨p', o0, e1, _, _, _, _, e2⟩ := z; rw [hp] at e1; cases e1; rw [e2] at e; cases e
      | arg c' => obtain ⟨p', o0, e1, _, _, _, e2⟩ := z; rw [hp] at e1; cases e1; exact hm i e2
      | _ => cases hc
    rw [upd_ne nb]
    exact k.h0 b o hm e
  fn := k.fn
  sl := fun j t e => by
    obtain ⟨l1, l2⟩ := k.lt h
    have sh : s.held = true := by cases s <;> first | rfl | cases hc
    by_cases hj : j = i
    · subst hj
      rw [List.getElem?_set_self l1] at e
      cases e
      have z := k.sl j s h
      cases s with
      | own c' =>
        obtain ⟨p', o0, e1, e2, e3, e4, e5, e6⟩ := z
        rw [hp] at e1; cases e1
        exact ⟨p, o', hp, upd_same, e3, w, e5, e6⟩
      | arg c' =>
        obtain ⟨p', o0, e1, e2, e3, e4, e5⟩ := z
        rw [hp] at e1; cases e1
        exact ⟨p, o', hp, upd_same, e3, w, e5⟩
      | _ => cases hc
    · rw [List.getElem?_set_ne (Ne.symm hj)] at e
      refine (k.sl j t e).mono (Same.refl F) fun b o g1 g2 g3 g4 => ⟨?_, g1⟩
      rw [upd_ne (fun z => by subst z; exact k.di j i t s b hj e h g3 sh g4 hp)]
      exact g2
  di := fun j j' t t' q hj e e' q1 q2 r r' => by
    obtain ⟨l1, l2⟩ := k.lt h
    have sh : s.held = true := by cases s <;> first | rfl | cases hc
    have back : ∀ (m : Nat) (u : Sl), (δ.set i (s.with c'))[m]? = some u → u.held = true → ∃ u', δ[m]? = some u' ∧ u'.held = true := fun m u z zh => by
      by_cases hm : m = i
      · subst hm; exact ⟨s, h, sh⟩
      · rw [List.getElem?_set_ne (Ne.symm hm)] at z; exact ⟨u, z, zh⟩
    obtain ⟨u, a1, a2⟩ := back j t e q1
    obtain ⟨u', b1, b2⟩ := back j' t' e' q2
    exact k.di j j' u u' q hj a1 b1 a2 b2 r r'
  ma := fun j q e => by
    obtain ⟨l1, l2⟩ := k.lt h
    obtain ⟨c0, hc0⟩ := k.ma j q e
    by_cases hj : j = i
    · subst hj
      rw [h] at hc0
      cases hc0
      exact ⟨c', List.getElem?_set_self l1⟩
    · rw [List.getElem?_set_ne (Ne.symm hj)]
      exact ⟨c0, hc0⟩
end

/-! ### statements, one by one -/
section
variable {X : Cx} {C : Cf} {e a b c : Expr} {ta tb tc : De} {pos : Pos} {st : Stmt} {rest : List Stmt} {s1 s2 : Ds}
def dSkip : Ds := fun δ => .ok .nx δ
def dSeq (s t : Ds) : Ds := fun δ => match s δ with
  | .ok .nx δ1 => t δ1
  | r => r
theorem pds_nil : PSs X [] (ups C dSkip) := pss_weak pss_nil fun D σ H ⟨G, δ, F, hC, k, h⟩ => h σ F H k (Same.refl F)
theorem finS_seq {G : Ct} {s t : Ds} {δ : DS} {F : Hp} {D : Ends} (h : finS G (dSeq s t δ) F D) (hC : G.C = C) : finS G (s δ) F { D with nx := ups C t D } := by
  unfold dSeq at h
  cases e : s δ with
  | ok o δ1 =>
    rw [e] at h
    cases o with
    | nx => exact fun σ' F' H' k g => ⟨G, δ1, F', hC, k, finS_mono h g⟩
    | bk => exact h
    | ct => exact h
    | rt v => exact h
  | ex c δ1 => rw [e] at h; exact h
  | bad => rw [e] at h; exact h
theorem pds_cons (h1 : PS X st (ups C s1)) (h2 : PSs X rest (ups C s2)) : PSs X (st :: rest) (ups C (dSeq s1 s2)) := pss_weak (pss_cons h1 h2) fun D σ H ⟨G, δ, F, hC, k, h⟩ => ⟨G, δ, F, hC, k, finS_seq h hC⟩
theorem pds_one (h1 : PS X st (ups C s1)) : PSs X [st] (ups C s1) := pss_one h1
def dBreak : Ds := fun δ => .ok .bk δ
def dCont : Ds := fun δ => .ok .ct δ
theorem pds_pass : PS X (.Pass pos) (ups C dSkip) := ps_weak ps_pass fun D σ H ⟨G, δ, F, hC, k, h⟩ => h σ F H k (Same.refl F)
theorem pds_break : PS X (.Break pos) (ups C dBreak) := ps_weak ps_break fun D σ H ⟨G, δ, F, hC, k, h⟩ => h σ F H k (Same.refl F)
theorem pds_continue : PS X (.Continue pos) (ups C dCont) := ps_weak ps_continue fun D σ H ⟨G, δ, F, hC, k, h⟩ => h σ F H k (Same.refl F)
/-- what is never come to -/
def dNever : Ds := fun _ => .bad
theorem pds_never : PS X st (ups C dNever) := ps_weak ps_never fun D σ H ⟨G, δ, F, hC, k, h⟩ => h
def dRet (a : De) : Ds := fun δ => (a δ).bind fun x δ1 => .ok (.rt x) δ1
theorem pds_ret (ha : PE X e (up C ta)) : PS X (.Return (some e) pos) (ups C (dRet ta)) := ps_weak (ps_ret ha) fun D σ H ⟨G, δ, F, hC, k, h⟩ => by
  subst hC
  exact ⟨G, δ, F, rfl, k, finS_bind h fun x δ1 v F1 H1 k1 g1 w1 h1 => h1 v σ F1 H1 k1 (Same.refl F1) w1⟩
def dRetN : Ds := fun δ => .ok (.rt (.fz .none)) δ
theorem pds_retN : PS X (.Return none pos) (ups C dRetN) := ps_weak ps_retN fun D σ H ⟨G, δ, F, hC, k, h⟩ => h .non σ F H k (Same.refl F) .non
def dIfS (t : Dt) (a b : Ds) : Ds := fun δ => (t δ).bind fun t δ1 => match t with
  | true => a δ1
  | false => b δ1
theorem pds_if {t : Dt} {aa bb : List Stmt} (hc : PT X c (upT C t)) (ha : PSs X aa (ups C s1)) (hb : PSs X bb (ups C s2)) : PS X (.If c aa bb pos) (ups C (dIfS t s1 s2)) := ps_weak (ps_if hc ha hb) fun D σ H ⟨G, δ, F, hC, k, h⟩ => by
  subst hC
  refine ⟨G, δ, F, rfl, k, finS_bind h fun x δ1 v F1 H1 k1 g1 w1 h1 => ?_⟩
  have w1 : v = x := w1
  subst w1
  cases v with
  | true => exact iteT ⟨G, δ1, F1, rfl, k1, h1⟩
  | false => exact iteF ⟨G, δ1, F1, rfl, k1, h1⟩
def dDrop (a : De) : Ds := fun δ => (a δ).bind fun _ δ1 => .ok .nx δ1
theorem pds_expr (ha : PE X e (up C ta)) (hs : swapsWith e none pos.line X.env = pure false := by rfl) : PS X (.Expr e pos) (ups C (dDrop ta)) := ps_weak (ps_expr ha hs) fun D σ H ⟨G, δ, F, hC, k, h⟩ => by
  subst hC
  exact ⟨G, δ, F, rfl, k, finS_bind h fun x δ1 v F1 H1 k1 g1 w1 h1 => h1 σ F1 H1 k1 (Same.refl F1)⟩
theorem pds_doc {x : Str} {j : Nat} {pos' : Pos} : PS X (.Expr (.Constant (.str x) j pos) pos') (ups C dSkip) := ps_weak ps_doc fun D σ H ⟨G, δ, F, hC, k, h⟩ => h σ F H k (Same.refl F)

/-! ### targets -/
/-- slot i takes a value -/
def okSet (δ : DS) (i : Nat) : Bool := match δ[i]? with
  | some (.arg _) => false
  | some _ => true
  | none => false
theorem okSet_some {δ : DS} {i : Nat} (h : okSet δ i = true) : ∃ s, δ[i]? = some s ∧ s.isArg = false := by
  unfold okSet at h
  cases e : δ[i]? with
  | none => rw [e] at h; cases h
  | some s =>
    rw [e] at h
    refine ⟨s, rfl, ?_⟩
    cases s with
    | arg c => cases h
    | _ => rfl
def setS (i : Nat) (x : Vl) (δ : DS) : R Out := match x with
  | .fz d => okIf (okSet δ i) (.ok .nx (δ.set i (.fz d)))
  | .own c => okIf (okSet δ i) (.ok .nx (δ.set i (.own c)))
  | .loc j => (kp (.loc j) δ).bind fun d δ1 => okIf (okSet δ1 i) (.ok .nx (δ1.set i (.fz d)))
def dAsg (i : Nat) (a : De) : Ds := fun δ => (a δ).bind fun x δ1 => setS i x δ1
theorem setS_fin {G : Ct} {i : Nat} {x : Vl} {δ : DS} {σ : L2.St} {F H : Hp} {D : Ends} {v : V} (k : St1 G δ σ F H) (h : finS G (setS i x δ) F D) (w : VlOk G δ σ F H v x) : D.nx (σ.set i (some v)) H := by
  cases x with
  | fz d =>
    obtain ⟨z, h⟩ := okIf_finS h
    obtain ⟨s, e, ha⟩ := okSet_some z
    exact h _ F H (k.setFz e ha w) (Same.refl F)
  | own c =>
    obtain ⟨z, h⟩ := okIf_finS h
    obtain ⟨s, e, ha⟩ := okSet_some z
    exact h _ F H (k.setOwn e ha w) (Same.refl F)
  | loc j =>
    obtain ⟨d, δ2, F2, k2, g2, w2, h2⟩ := kp_bindS k h w
    obtain ⟨z, h⟩ := okIf_finS h2
    obtain ⟨s, e, ha⟩ := okSet_some z
    exact h _ F2 H (k2.setFz e ha w2) (Same.refl F2)
theorem rf_asg {te : TE} {i : Nat} (w : ∀ σ H Q, up C ta σ H Q → te σ H Q) : ∀ D σ H, ups C (dAsg i ta) D σ H → tAsg te (gName i) D σ H := fun D σ H ⟨G, δ, F, hC, k, h⟩ => by
  subst hC
  exact w σ H _ ⟨G, δ, F, rfl, k, finS_bind h fun x δ1 v F1 H1 k1 g1 w1 h1 => setS_fin k1 h1 w1⟩
theorem pds_set (i : Nat) {x : Str} {pos' : Pos} (he : PE X e (up C ta)) (hN : X.N.Nodup) (hi : X.N[i]? = some x := by rfl) (hx : Loc X.env.scope x := by first | exact Or.inl rfl | exact Or.inr rfl) (hs : swapsWith e (some (.Name x pos')) pos.line X.env = pure false := by rfl) (hf : X.fn x = true ∨ X.env.scope.names.lookup x = some .local := by first | exact .inl rfl | exact .inr rfl | assumption) :
    PS X (.Assign [.Name x pos'] e pos) (ups C (dAsg i ta)) := ps_weak (ps_set hN hi hx he hs hf) (rf_asg fun _ _ _ q => q)
/-- targets of frozen things -/
abbrev Dg := D → DS → R Out
def gN (i : Nat) : Dg := fun d δ => setS i (.fz d) δ
def Agr (ts : List Nat) (σ σ' : L2.St) : Prop := (∀ j, j ∉ ts → σ'[j]? = σ[j]?) ∧ σ'.length = σ.length
def finG (G : Ct) (r : R Out) (ts : List Nat) (σ : L2.St) (F : Hp) (Q : L2.St → Hp → Prop) : Prop := match r with
  | .ok .nx δ' => ∀ σ' F' H', St1 G δ' σ' F' H' → Same F F' → Agr ts σ σ' → Q σ' H'
  | _ => False
def upG (C : Cf) (ts : List Nat) (g : Dg) : TG := fun v σ H Q => ∃ G δ F d, G.C = C ∧ St1 G δ σ F H ∧ Dp C.K F v d ∧ finG G (g d δ) ts σ F Q
abbrev Dgs := List D → DS → R Out
def upGs (C : Cf) (ts : List Nat) (g : Dgs) : TGs := fun vs σ H Q => ∃ G δ F ds, G.C = C ∧ St1 G δ σ F H ∧ DpAll C.K F vs ds ∧ finG G (g ds δ) ts σ F Q
theorem pg_weak {t t' : TG} (h : PG X e t) (w : ∀ v σ H Q, t' v σ H Q → t v σ H Q) : PG X e t' := ⟨fun pins s σ H v u Q I r q => h.run pins s σ H v u Q I r (w v σ H Q q)⟩
theorem pgs_weak {es : List Expr} {t t' : TGs} (h : PGs X es t) (w : ∀ v σ H Q, t' v σ H Q → t v σ H Q) : PGs X es t' := ⟨fun pins s σ H v u Q I r q => h.run pins s σ H v u Q I r (w v σ H Q q)⟩
theorem pdg_name (i : Nat) {x : Str} (hN : X.N.Nodup) (hi : X.N[i]? = some x := by rfl) (hx : Loc X.env.scope x := by first | exact Or.inl rfl | exact Or.inr rfl) (hf : X.fn x = true ∨ X.env.scope.names.lookup x = some .local := by first | exact .inl rfl | exact .inr rfl | assumption) : PG X (.Name x pos) (upG C [i] (gN i)) :=
  pg_weak (pg_name hN hi hx hf) fun v σ H Q ⟨G, δ, F, d, hC, k, w, h⟩ => by
    subst hC
    cases z : okSet δ i with
    | false =>
      have e : gN i d δ = .bad := by show okIf (okSet δ i) _ = _; rw [z]; rfl
      rw [e] at h
      exact h.elim
    | true =>
      have e : gN i d δ = .ok .nx (δ.set i (.fz d)) := by show okIf (okSet δ i) _ = _; rw [z]; rfl
      rw [e] at h
      obtain ⟨s, e, ha⟩ := okSet_some z
      exact h _ F H (k.setFz e ha w) (Same.refl F) ⟨fun j hj => by
        rw [List.getElem?_set_ne (fun z => hj (by simp [z]))], by simp⟩
def gsNil : Dgs := fun ds δ => match ds with
  | [] => .ok .nx δ
  | _ => .bad
def gsCons (g : Dg) (r : Dgs) : Dgs := fun ds δ => match ds with
  | [] => .bad
  | d :: ds => match g d δ with
    | .ok .nx δ1 => r ds δ1
    | _ => .bad
theorem pdgs_nil : PGs X [] (upGs C [] gsNil) := pgs_weak pgs_nil fun vs σ H Q ⟨G, δ, F, ds, hC, k, w, h⟩ => by
  cases w with
  | nil => exact ⟨rfl, h σ F H k (Same.refl F) ⟨fun _ _ => rfl, rfl⟩⟩
  | cons _ _ => exact h.elim
theorem pdgs_cons {es : List Expr} {ts us : List Nat} {g : Dg} {r : Dgs} (h1 : PG X e (upG C ts g)) (h2 : PGs X es (upGs C us r)) (hs : (assignEach (e :: es) X.env).map (·.2) = assign e X.env :: (assignEach es X.env).map (·.2) := by rfl) : PGs X (e :: es) (upGs C (ts ++ us) (gsCons g r)) :=
  pgs_weak (pgs_cons h1 h2 hs) fun vs σ H Q ⟨G, δ, F, ds, hC, k, w, h⟩ => by
    subst hC
    cases w with
    | nil => exact h.elim
    | @cons v vs d ds w ws =>
      refine ⟨v, vs, rfl, G, δ, F, d, rfl, k, w, ?_⟩
      unfold gsCons at h
      simp only at h
      cases e1 : g d δ with
      | ok o δ1 =>
        rw [e1] at h
        cases o with
        | nx =>
          intro σ1 F1 H1 k1 f1 a1
          refine ⟨G, δ1, F1, ds, rfl, k1, dpa_mono f1 _ _ ws, ?_⟩
          have h : finG G (r ds δ1) (ts ++ us) σ F Q := h
          cases e2 : r ds δ1 with
          | ok o δ2 =>
            rw [e2] at h
            cases o with
            | nx =>
              exact fun σ2 F2 H2 k2 f2 a2 => h σ2 F2 H2 k2 (f1.trans f2) ⟨fun j hj => by
                rw [List.mem_append] at hj
                rw [a2.1 j fun z => hj (.inr z), a1.1 j fun z => hj (.inl z)], a2.2.trans a1.2⟩
            | _ => exact h.elim
          | _ => rw [e2] at h; exact h.elim
        | _ => exact h.elim
      | _ => rw [e1] at h; exact h.elim
def gTupD (n : Nat) (r : Dgs) : Dg := fun d δ => match d with
  | .tuple ds => match ds.length == n with
    | true => r ds δ
    | false => .bad
  | .list ds => match ds.length == n with
    | true => r ds δ
    | false => .bad
  | _ => .bad
theorem pg_two {tg : Expr} {t t' : TG} (h : PG X tg t) (h' : PG X tg t') : PG X tg fun v σ H Q => t v σ H Q ∨ t' v σ H Q := ⟨fun pins s σ H v u Q I r hw => hw.elim (h.run pins s σ H v u Q I r) (h'.run pins s σ H v u Q I r)⟩
theorem pdg_tup {es : List Expr} {kk n : Nat} {ts : List Nat} {r : Dgs} (h : PGs X es (upGs C ts r)) (hc : X.calm = true := by rfl) (hK : C.K = X.K := by rfl) (hn : (assignEach es X.env).length = n := by rfl) (hst : (assignEach es X.env).findIdx? (·.1) = none := by rfl) :
    PG X (.Tuple es kk pos) (upG C ts (gTupD n r)) := pg_weak (pg_two (pg_tup hc h hn hst) (pg_unl hc h hn hst)) fun v σ H Q ⟨G, δ, F, d, hC, k, w, h⟩ => by
  subst hC
  cases d with
  | tuple ds =>
    cases w with
    | @tup a vs _ q ws =>
      have h : finG G (match ds.length == n with | true => r ds δ | false => .bad) ts σ F Q := h
      cases e : ds.length == n with
      | false => rw [e] at h; exact h.elim
      | true =>
        rw [e] at h
        exact .inl ⟨a, vs, rfl, SqT.of (k.fh _ _ q), by rw [dpa_len ws]; exact eq_of_beq e, G, δ, F, ds, rfl, k, ws, h⟩
  | list ds =>
    cases w with
    | @lst a vs _ q ws =>
      have h : finG G (match ds.length == n with | true => r ds δ | false => .bad) ts σ F Q := h
      cases e : ds.length == n with
      | false => rw [e] at h; exact h.elim
      | true =>
        rw [e] at h
        exact .inr ⟨a, vs, rfl, SqL.of (k.fh _ _ q), by rw [dpa_len ws]; exact eq_of_beq e, G, δ, F, ds, rfl, k, ws, h⟩
  | _ => exact h.elim
/-- any target = value -/
def onlyNx (r : R Out) : R Out := match r with
  | .ok .nx δ => .ok .nx δ
  | _ => .bad
theorem onlyNx_fin {G : Ct} {r : R Out} {F : Hp} {D : Ends} {ts : List Nat} {σ : L2.St} (h : finS G (onlyNx r) F D) : finG G r ts σ F D.nx := by
  cases r with
  | ok o δ => cases o with
    | nx => exact fun σ' F' H' k' f' _ => h σ' F' H' k' f'
    | _ => exact h.elim
  | _ => exact h.elim
def dAsgG (g : Dg) (a : De) : Ds := fun δ => (a δ).bind fun x δ1 => (kp x δ1).bind fun d δ2 => onlyNx (g d δ2)
theorem pds_asg {tg : Expr} {ts : List Nat} {g : Dg} (he : PE X e (up C ta)) (hg : PG X tg (upG C ts g)) (hs : swapsWithSole [tg] e pos.line X.env = pure false := by rfl) (hw : swappedStores [tg] e X.env = pure none := by rfl)
    (h1 : (assignEach [tg] X.env).map (·.2) = [assign tg X.env] := by rfl) : PS X (.Assign [tg] e pos) (ups C (dAsgG g ta)) := ps_weak (ps_asg he hg hs hw h1) fun D σ H ⟨G, δ, F, hC, k, h⟩ => by
  subst hC
  refine ⟨G, δ, F, rfl, k, finS_bind h fun x δ1 v F1 H1 k1 g1 w1 h1 => ?_⟩
  obtain ⟨d, δ2, F2, k2, g2, w2, h2⟩ := kp_bindS k1 h1 w1
  exact ⟨G, δ2, F2, d, rfl, k2, w2, onlyNx_fin h2⟩
end
end DL

set_option Elab.async false
set_option linter.all false
set_option maxRecDepth 100000
set_option autoImplicit false
namespace DL
open PySem PySem.Spec PyProof.Rows L2

/-! ### what is walked -/
def ItOk (K : PySem.W.Frag) (J : It) (F : Hp) (items : List D) : Prop := ∀ F2 H2, Same F F2 → Same F2 H2 → ∀ i,
  (∀ d, items[i]? = some d → J.go i H2 ∧ ∀ x H3, J.yld i H2 x H3 → ∃ F3, Same F2 F3 ∧ Same F3 H3 ∧ Same H2 H3 ∧ (∀ b, F3 b ≠ none → F2 b ≠ none ∨ H2 b = none) ∧ Dp K F3 x d) ∧ (i = items.length → J.stop i H2)
abbrev Di := DS → R (List D)
def WI (G : Ct) : DS → Hp → Hp → It → List D → Prop := fun _ F _ J ds => ItOk G.K J F ds
def upI (C : Cf) (ti : Di) : TI := fun σ H Q => ∃ G δ F, G.C = C ∧ St1 G δ σ F H ∧ finA G (WI G) (ti δ) σ F Q
section
variable {X : Cx} {C : Cf} {e a b c l tg : Expr} {ta tb tc : De} {pos : Pos}
theorem pi_weak {t t' : TI} (h : PI X tg e t) (w : ∀ σ H Q, t' σ H Q → t σ H Q) : PI X tg e t' := ⟨fun pins s σ H Q I q => h.run pins s σ H Q I (w σ H Q q)⟩
theorem pi_or {t t' : TI} (h : PI X tg e t) (h' : PI X tg e t') : PI X tg e (fun σ H Q => t σ H Q ∨ t' σ H Q) := ⟨fun pins s σ H Q I q => q.elim (fun q => h.run pins s σ H Q I q) fun q => h'.run pins s σ H Q I q⟩
theorem it_list {K : PySem.W.Frag} {F : Hp} {p : Addr} {vs : List V} {ds : List D} (h : F p = some (.lst vs)) (w : DpAll K F vs ds) : ItOk K (Itl K p) F ds := fun F2 H2 f2 h2 i => by
  have hq : SqL K H2 p vs := SqL.of ((f2.trans h2) _ _ h)
  refine ⟨fun d hd => ?_, fun hi => ⟨vs, hq, by rw [dpa_len w]; exact Nat.le_of_eq hi.symm⟩⟩
  obtain ⟨v, e1, e2⟩ := dpa_get w hd
  refine ⟨⟨vs, v, hq, e1⟩, fun x H3 y => ?_⟩
  obtain ⟨rfl, y⟩ := y
  have ex : v = x := Option.some.inj (e1.symm.trans (y vs hq))
  subst ex
  exact ⟨F2, Same.refl F2, h2, Same.refl _, fun b z => .inl z, dp_mono f2 _ _ e2⟩
theorem it_scr {K : PySem.W.Frag} {F : Hp} {p : Addr} {ns : List Int} (h : SqL K F p (ns.map V.int)) : ItOk K (Itl K p) F (ns.map PyData.int) := fun F2 H2 f2 h2 i => by
  have hq : SqL K H2 p (ns.map V.int) := same_l (f2.trans h2) h
  refine ⟨fun d hd => ?_, fun hi => ⟨_, hq, by rw [hi]; simp⟩⟩
  obtain ⟨v, e1, e2⟩ := dpa_get (dpa_ints (K := K) (F := F) ns) hd
  refine ⟨⟨_, v, hq, e1⟩, fun x H3 y => ?_⟩
  obtain ⟨rfl, y⟩ := y
  have ex : v = x := Option.some.inj (e1.symm.trans (y _ hq))
  subst ex
  exact ⟨F2, Same.refl F2, h2, Same.refl _, fun b z => .inl z, dp_mono f2 _ _ e2⟩
theorem it_tup {K : PySem.W.Frag} {F : Hp} {p : Addr} {vs : List V} {ds : List D} (h : F p = some (.tup vs)) (w : DpAll K F vs ds) : ItOk K (Itt K p) F ds := fun F2 H2 f2 h2 i => by
  have hq : SqT K H2 p vs := SqT.of ((f2.trans h2) _ _ h)
  refine ⟨fun d hd => ?_, fun hi => ⟨vs, hq, by rw [dpa_len w]; exact Nat.le_of_eq hi.symm⟩⟩
  obtain ⟨v, e1, e2⟩ := dpa_get w hd
  refine ⟨⟨vs, v, hq, e1⟩, fun x H3 y => ?_⟩
  obtain ⟨rfl, y⟩ := y
  have ex : v = x := Option.some.inj (e1.symm.trans (y vs hq))
  subst ex
  exact ⟨F2, Same.refl F2, h2, Same.refl _, fun b z => .inl z, dp_mono f2 _ _ e2⟩
def chars (z : Str) : List D := z.cps.toList.map fun c => .str ⟨#[c]⟩
theorem it_str {K : PySem.W.Frag} {F : Hp} {z : Str} : ItOk K (Its z) F (chars z) := fun F2 H2 f2 h2 i => by
  refine ⟨fun d hd => ?_, fun hi => by
    unfold chars at hi
    show z.cps.size ≤ i
    rw [hi]
    simp⟩
  unfold chars at hd
  rw [List.getElem?_map] at hd
  cases e : z.cps.toList[i]? with
  | none => rw [e] at hd; cases hd
  | some c =>
    rw [e] at hd
    cases hd
    have ec : z.cps[i]? = some c := by simpa using e
    refine ⟨(Array.getElem?_eq_some_iff.mp ec).1, fun x H3 y => ?_⟩
    obtain ⟨rfl, c', e1, rfl⟩ := y
    rw [ec] at e1
    cases e1
    exact ⟨F2, Same.refl F2, h2, Same.refl _, fun b z => .inl z, .str _⟩
theorem it_range {K : PySem.W.Frag} {F : Hp} {lo : Int} {n : Nat} : ItOk K (Itr lo n) F ((List.range n).map fun (i : Nat) => .int (lo + i)) := fun F2 H2 f2 h2 i => by
  refine ⟨fun d hd => ?_, fun hi => by
    show n ≤ i
    rw [hi]
    simp⟩
  rw [List.getElem?_map] at hd
  have hi : i < n := by
    have := (List.getElem?_eq_some_iff.mp (show (List.map (fun (i : Nat) => PyData.int (lo + i)) (List.range n))[i]? = some d by rw [List.getElem?_map]; exact hd)).1
    simpa using this
  rw [List.getElem?_range hi] at hd
  cases hd
  refine ⟨hi, fun x H3 y => ?_⟩
  obtain ⟨rfl, rfl⟩ := y
  exact ⟨F2, Same.refl F2, h2, Same.refl _, fun b z => .inl z, .int _⟩
def itemsOf (d : D) (δ : DS) : R (List D) := match d with
  | .list ds => .ok ds δ
  | .tuple ds => .ok ds δ
  | .str z => .ok (chars z) δ
  | .dict [(.none, .list ds)] => .ok ds δ
  | _ => .bad
def dIter (a : De) : Di := fun δ => (a δ).bind fun x δ1 => (kp x δ1).bind fun d δ2 => itemsOf d δ2
/-- a list, a tuple, a text -/
theorem pdi_seq (ha : PE X l (up C ta)) (hK : C.K = X.K := by rfl) : PI X tg l (upI C (dIter ta)) := by
  refine pi_weak (pi_or (pi_list ha) (pi_or (pi_tup ha) (pi_str ha))) fun σ H R ⟨G, δ, F, hC, k, h⟩ => ?_
  subst hC
  unfold dIter at h
  cases e1 : ta δ with
  | bad => rw [e1] at h; exact h.elim
  | ex cc s =>
    rw [e1] at h
    refine .inl ⟨G, δ, F, rfl, k, ?_⟩
    rw [e1]
    exact h
  | ok x δ1 =>
    rw [e1] at h
    have h : finA G (WI G) ((kp x δ1).bind fun d δ2 => itemsOf d δ2) σ F R := h
    have go : ∀ (Q : VK), (∀ v d δ2 F2 H2, St1 G δ2 σ F2 H2 → Dp G.K F2 v d → kp x δ1 = .ok d δ2 → finA G (WI G) (itemsOf d δ2) σ F2 R → Q v H2) → up G.C ta σ H Q := fun Q hq => by
      refine ⟨G, δ, F, rfl, k, ?_⟩
      rw [e1]
      intro v F1 H1 k1 g1 w1
      cases e : kp x δ1 with
      | bad => rw [e] at h; exact h.elim
      | ex cc s =>
        exfalso
        cases x with
        | fz d => cases e
        | own cc => cases cc <;> cases e
        | loc i =>
          unfold kp at e
          simp only at e
          split at e <;> cases e
      | ok d δ2 =>
        rw [e] at h
        obtain ⟨F2, k2, g2, w2⟩ := k1.keepV w1 e
        exact hq v d δ2 F2 H1 k2 w2 e (finA_mono h (g1.trans g2))
    cases e : kp x δ1 with
    | bad => rw [e] at h; exact h.elim
    | ex cc s =>
        exfalso
        cases x with
        | fz d => cases e
        | own cc => cases cc <;> cases e
        | loc i =>
          unfold kp at e
          simp only at e
          split at e <;> cases e
    | ok d δ2 =>
      rw [e] at h
      cases d with
      | list ds =>
        refine .inl (go _ fun v d' δ2' F2 H2 k2 w2 e' h2 => ?_)
        rw [e] at e'
        cases e'
        cases w2 with
        | @lst p vs _ a b => exact ⟨p, rfl, ⟨vs, SqL.of (k2.fh _ _ a)⟩, h2 _ F2 H2 k2 (Same.refl F2) (by rw [← hK]; exact it_list a b)⟩
      | tuple ds =>
        refine .inr (.inl (go _ fun v d' δ2' F2 H2 k2 w2 e' h2 => ?_))
        rw [e] at e'
        cases e'
        cases w2 with
        | @tup p vs _ a b => exact ⟨p, rfl, ⟨vs, SqT.of (k2.fh _ _ a)⟩, h2 _ F2 H2 k2 (Same.refl F2) (by rw [← hK]; exact it_tup a b)⟩
      | str z =>
        refine .inr (.inr (go _ fun v d' δ2' F2 H2 k2 w2 e' h2 => ?_))
        rw [e] at e'
        cases e'
        cases w2
        exact ⟨z, rfl, h2 _ F2 H2 k2 (Same.refl F2) it_str⟩
      | dict kvs =>
        refine .inl (go _ fun v d' δ2' F2 H2 k2 w2 e' h2 => ?_)
        rw [e] at e'
        cases e'
        cases w2 with
        | dct a b => exact h2.elim
        | @scr p ns a => exact ⟨p, rfl, ⟨_, by rw [← hK]; exact same_l k2.fh a⟩, h2 _ F2 H2 k2 (Same.refl F2) (by rw [← hK]; exact it_scr a)⟩
      | _ => exact h.elim
def dRange1 (l : Dl) : Di := fun δ => (l δ).bind fun ds δ1 => match ds with
  | [.int n] => okIf (decide (-1000000 ≤ n) && decide (n ≤ 1000000)) (.ok ((List.range n.toNat).map fun (i : Nat) => PyData.int i) δ1)
  | _ => .bad
def dRange2 (l : Dl) : Di := fun δ => (l δ).bind fun ds δ1 => match ds with
  | [.int lo, .int n] => okIf (decide (-1000000 ≤ n) && decide (n ≤ 1000000) && decide (-1000000 ≤ lo) && decide (lo ≤ 1000000)) (.ok ((List.range (n - lo).toNat).map fun (i : Nat) => PyData.int (lo + i)) δ1)
  | _ => .bad
theorem pdi_range1 {tl : Dl} {p : Pos} (hm : X.mg "range" = none) (ha : PA X [a] (upL C tl)) (hg : Gl X "range" := by rfl) (hs : starEach [a] X.env = [(false, eval a X.env)] := by rfl) : PI X tg (.Call (.Name "range" p) [a] [] pos) (upI C (dRange1 tl)) :=
  pi_weak (pi_range1 hg hm ha hs) fun σ H R ⟨G, δ, F, hC, k, h⟩ => by
    subst hC
    refine ⟨G, δ, F, rfl, k, finA_bind h fun ds δ1 vs F1 H1 k1 g1 w1 h1 => ?_⟩
    have w1 : DpAll G.K F1 vs ds := w1
    cases w1 with
    | nil => exact h1.elim
    | cons w ws =>
      cases ws with
      | cons _ _ => cases w <;> exact h1.elim
      | nil =>
        cases w with
        | int n =>
          obtain ⟨z, h2⟩ := okIf_fin h1
          rw [Bool.and_eq_true] at z
          have z1 := of_decide_eq_true z.1
          have z2 := of_decide_eq_true z.2
          refine ⟨n, rfl, by omega, by omega, h2 _ F1 H1 k1 (Same.refl F1) ?_⟩
          have := it_range (K := G.K) (F := F1) (lo := 0) (n := n.toNat)
          have q : ItOk G.K (Itr 0 n.toNat) F1 ((List.range n.toNat).map fun (i : Nat) => PyData.int i) := by simpa using this
          exact q
        | _ => exact h1.elim
theorem pdi_range2 {tl : Dl} {p : Pos} (hm : X.mg "range" = none) (ha : PA X [a, b] (upL C tl)) (hg : Gl X "range" := by rfl) (hs : starEach [a, b] X.env = [(false, eval a X.env), (false, eval b X.env)] := by rfl) (hs2 : starEach [b] X.env = [(false, eval b X.env)] := by rfl) : PI X tg (.Call (.Name "range" p) [a, b] [] pos) (upI C (dRange2 tl)) :=
  pi_weak (pi_range2 hg hm ha hs hs2) fun σ H R ⟨G, δ, F, hC, k, h⟩ => by
    subst hC
    refine ⟨G, δ, F, rfl, k, finA_bind h fun ds δ1 vs F1 H1 k1 g1 w1 h1 => ?_⟩
    have w1 : DpAll G.K F1 vs ds := w1
    cases w1 with
    | nil => exact h1.elim
    | cons w ws =>
      cases ws with
      | nil => cases w <;> exact h1.elim
      | cons w' ws =>
        cases ws with
        | cons _ _ => cases w <;> cases w' <;> exact h1.elim
        | nil =>
          cases w with
          | int lo =>
            cases w' with
            | int n =>
              obtain ⟨z, h2⟩ := okIf_fin h1
              rw [Bool.and_eq_true, Bool.and_eq_true, Bool.and_eq_true] at z
              have z1 := of_decide_eq_true z.1.1.1
              have z2 := of_decide_eq_true z.1.1.2
              have z3 := of_decide_eq_true z.1.2
              have z4 := of_decide_eq_true z.2
              exact ⟨lo, n, rfl, ⟨by omega, by omega, by omega, by omega⟩, h2 _ F1 H1 k1 (Same.refl F1) it_range⟩
            | _ => exact h1.elim
          | _ => cases w' <;> exact h1.elim

/-! ### for, while -/
def stepB (g : Dg) (body : Ds) (d : D) (δ : DS) : R Out := match g d δ with
  | .ok .nx δ1 => body δ1
  | _ => .bad
def forL (f : D → DS → R Out) : List D → DS → R Out
  | [], δ => .ok .nx δ
  | d :: ds, δ => match f d δ with
    | .ok .nx δ1 => forL f ds δ1
    | .ok .ct δ1 => forL f ds δ1
    | .ok .bk δ1 => .ok .nx δ1
    | r => r
def dFor (ti : Di) (g : Dg) (body : Ds) : Ds := fun δ => (ti δ).bind fun ds δ1 => forL (stepB g body) ds δ1
theorem grow_it {G : Ct} {δ : DS} {σ : L2.St} {F2 H2 F3 H3 : Hp} (k : St1 G δ σ F2 H2) (f1 : Same F2 F3) (f2 : Same F3 H3) (f3 : Same H2 H3) (f4 : ∀ b, F3 b ≠ none → F2 b ≠ none ∨ H2 b = none) : St1 G δ σ F3 H3 := k.grow f1 f2 f3 fun b z => by
  rcases f4 b z with q | q
  · exact .inl q
  · exact .inr ⟨k.new0 q, k.free q⟩
theorem pds_for {ti : Di} {g : Dg} {ts : List Nat} {body : List Stmt} {sb : Ds} (hp : PassesOwn (model X.prog X.w) X.A X.env X.xe) (hi : PI X tg e (upI C ti)) (hg : PG X tg (upG C ts g)) (hb : PSs X body (ups C sb)) (hc : X.calm = true := by rfl)
    (hs : ∀ x, foldedSetIterable e X.env x = pure x := by intro _; rfl) : PS X (.For tg e body [] pos) (ups C (dFor ti g sb)) := ps_weak (ps_for hp hc hi hg hb hs) fun D σ H ⟨G, δ, F, hC, k, h⟩ => by
  subst hC
  refine ⟨G, δ, F, rfl, k, finS_bind h fun ds δ1 J F1 H1 k1 g1 w1 h1 => ?_⟩
  have w1 : ItOk G.K J F1 ds := w1
  refine ⟨fun i m σ H => m = ds.length - i ∧ i ≤ ds.length ∧ ∃ δ F, St1 G δ σ F H ∧ Same F1 F ∧ finS G (forL (stepB g sb) (ds.drop i) δ) F D, ⟨ds.length, by simp, Nat.zero_le _, δ1, F1, k1, Same.refl F1, h1⟩, ?_⟩
  rintro i m σ2 H2 ⟨rfl, hi, δ2, F2, k2, g2, h2⟩
  obtain ⟨wgo, wst⟩ := w1 F2 H2 g2 k2.fh i
  by_cases hlt : i < ds.length
  · right
    obtain ⟨go, yl⟩ := wgo ds[i] (List.getElem?_eq_getElem hlt)
    rw [List.drop_eq_getElem_cons hlt] at h2
    refine ⟨go, fun σ' H' => ∃ δ F, St1 G δ σ' F H' ∧ Same F1 F ∧ finS G (forL (stepB g sb) (ds.drop (i + 1)) δ) F D, fun σ' H' ⟨δ', F', a, b, c⟩ => ⟨ds.length - (i + 1), by omega, rfl, hlt, δ', F', a, b, c⟩, fun x H3 y => ?_⟩
    obtain ⟨F3, f1, f2, f3, f4, w3⟩ := yl x H3 y
    have k3 := grow_it k2 f1 f2 f3 f4
    refine ⟨G, δ2, F3, ds[i], rfl, k3, w3, ?_⟩
    have h3 := finS_mono h2 f1
    unfold forL stepB at h3
    cases e1 : g ds[i] δ2 with
    | ok o δ3 =>
      rw [e1] at h3
      cases o with
      | nx =>
        intro σ' F' H' k' f' _
        refine ⟨G, δ3, F', rfl, k', ?_⟩
        have h4 := finS_mono h3 f'
        simp only at h4
        have gg : Same F1 F' := (g2.trans f1).trans f'
        cases e2 : sb δ3 with
        | ok o δ4 =>
          rw [e2] at h4
          cases o with
          | nx => exact fun σ4 F4 H4 k4 f4 => ⟨δ4, F4, k4, gg.trans f4, finS_mono h4 f4⟩
          | ct => exact fun σ4 F4 H4 k4 f4 => ⟨δ4, F4, k4, gg.trans f4, finS_mono h4 f4⟩
          | bk => exact h4
          | rt v => exact h4
        | ex c δ4 => rw [e2] at h4; exact h4
        | bad => rw [e2] at h4; exact h4
      | bk => exact h3.elim
      | ct => exact h3.elim
      | rt v => exact h3.elim
    | ex c δ3 => rw [e1] at h3; exact h3.elim
    | bad => rw [e1] at h3; exact h3.elim
  · left
    have e : i = ds.length := by omega
    subst e
    refine ⟨wst rfl, ?_⟩
    rw [List.drop_length] at h2
    exact h2 σ2 F2 H2 k2 (Same.refl F2)
def whileL (t : Dt) (body : Ds) : Nat → DS → R Out
  | 0, _ => .bad
  | n + 1, δ => (t δ).bind fun b δ1 => match b with
    | false => .ok .nx δ1
    | true => match body δ1 with
      | .ok .nx δ2 => whileL t body n δ2
      | .ok .ct δ2 => whileL t body n δ2
      | .ok .bk δ2 => .ok .nx δ2
      | r => r
def dWhile (n : Nat) (t : Dt) (body : Ds) : Ds := whileL t body n
theorem pds_while {n : Nat} {t : Dt} {body : List Stmt} {sb : Ds} (hp : PassesOwn (model X.prog X.w) X.A X.env X.xe) (ht : PT X e (upT C t)) (hb : PSs X body (ups C sb)) : PS X (.While e body [] pos) (ups C (dWhile n t sb)) :=
  ps_weak (ps_while hp ht hb) fun D σ H ⟨G, δ, F, hC, k, h⟩ => by
    subst hC
    refine ⟨fun m σ H => ∃ δ F, St1 G δ σ F H ∧ finS G (whileL t sb m δ) F D, ⟨n, δ, F, k, h⟩, ?_⟩
    rintro m σ2 H2 ⟨δ2, F2, k2, h2⟩
    cases m with
    | zero => exact h2.elim
    | succ m =>
      refine ⟨G, δ2, F2, rfl, k2, finS_bind h2 fun b δ3 v F3 H3 k3 g3 w3 h3 => ?_⟩
      have w3 : v = b := w3
      subst w3
      cases v with
      | false => exact iteF (h3 σ2 F3 H3 k3 (Same.refl F3))
      | true =>
        refine iteT ⟨fun σ' H' => ∃ δ F, St1 G δ σ' F H' ∧ finS G (whileL t sb m δ) F D, fun σ' H' z => ⟨m, Nat.lt_succ_self m, z⟩, G, δ3, F3, rfl, k3, ?_⟩
        simp only at h3
        cases e2 : sb δ3 with
        | ok o δ4 =>
          rw [e2] at h3
          cases o with
          | nx => exact fun σ4 F4 H4 k4 f4 => ⟨δ4, F4, k4, finS_mono h3 f4⟩
          | ct => exact fun σ4 F4 H4 k4 f4 => ⟨δ4, F4, k4, finS_mono h3 f4⟩
          | bk => exact h3
          | rt v => exact h3
        | ex c δ4 => rw [e2] at h3; exact h3
        | bad => rw [e2] at h3; exact h3
end
end DL

set_option Elab.async false
set_option linter.all false
set_option maxRecDepth 100000
set_option autoImplicit false
namespace DL
open PySem PySem.Spec PyProof.Rows L2

/-! ### lists of one's own are changed -/
section
variable {X : Cx} {C : Cf} {e a b c : Expr} {ta tb tc : De} {pos : Pos}
def lstAt (i : Nat) (δ : DS) : Option (Sl × List D) := match δ[i]? with
  | some (.own (.lst ds)) => some (.own (.lst ds), ds)
  | some (.arg (.lst ds)) => some (.arg (.lst ds), ds)
  | _ => none
theorem lstAt_some {i : Nat} {δ : DS} {s : Sl} {ds : List D} (h : lstAt i δ = some (s, ds)) : δ[i]? = some s ∧ s.co = some (.lst ds) := by
  unfold lstAt at h
  cases e : δ[i]? with
  | none => rw [e] at h; cases h
  | some t =>
    rw [e] at h
    cases t with
    | own c => cases c with
      | lst l => cases h; exact ⟨rfl, rfl⟩
      | dct _ => cases h
    | arg c => cases c with
      | lst l => cases h; exact ⟨rfl, rfl⟩
      | dct _ => cases h
    | _ => cases h
/-- the list at slot i becomes f of it -/
def mutL (i : Nat) (f : List D → Option (List D)) (δ : DS) : R Out := match lstAt i δ with
  | some (s, ds) => match f ds with
    | some l => .ok .nx (δ.set i (s.with (.lst l)))
    | none => .bad
  | none => .bad
theorem mutL_fin {G : Ct} {i : Nat} {f : List D → Option (List D)} {δ : DS} {F : Hp} {Dd : Ends} (h : finS G (mutL i f δ) F Dd) : ∃ s ds l, δ[i]? = some s ∧ s.co = some (.lst ds) ∧ f ds = some l ∧ finS G (.ok .nx (δ.set i (s.with (.lst l)))) F Dd := by
  unfold mutL at h
  cases e : lstAt i δ with
  | none => rw [e] at h; exact h.elim
  | some q =>
    obtain ⟨s, ds⟩ := q
    rw [e] at h
    simp only at h
    obtain ⟨e1, e2⟩ := lstAt_some e
    cases e3 : f ds with
    | none => rw [e3] at h; exact h.elim
    | some l => rw [e3] at h; exact ⟨s, ds, l, e1, e2, e3, h⟩
def isLst (i : Nat) (δ : DS) : Bool := (lstAt i δ).isSome
theorem isLst_held {G : Ct} {δ : DS} {σ : L2.St} {F H : Hp} {i : Nat} (k : St1 G δ σ F H) (h : isLst i δ = true) : ∃ p vs, σ[i]? = some (some (.ref p)) ∧ H p = some (.lst vs) := by
  unfold isLst at h
  cases e : lstAt i δ with
  | none => rw [e] at h; cases h
  | some q =>
    obtain ⟨s, ds⟩ := q
    obtain ⟨e1, e2⟩ := lstAt_some e
    obtain ⟨p, o, a1, a2, a3, vs, rfl, a4⟩ := k.held e1 e2
    exact ⟨p, vs, a1, a2⟩
def fApp (d : D) (ds : List D) : Option (List D) := okO (small ds.length) (some (ds ++ [d]))
def dApp (i : Nat) (a : De) : Ds := fun δ => okIf (isLst i δ) ((a δ).bind fun x δ1 => (kp x δ1).bind fun d δ2 => mutL i (fApp d) δ2)
theorem okIf_finS' {G : Ct} {t : Bool} {r : R Out} {F : Hp} {Dd : Ends} (h : finS G (okIf t r) F Dd) : t = true ∧ finS G r F Dd := okIf_finS h
theorem pds_app (i : Nat) {x : Str} {p1 p2 p3 : Pos} (ha : PE X e (up C ta)) (hN : X.N[i]? = some x := by rfl) (hv : Vis X.env.scope x := by first | exact Or.inl rfl | exact Or.inr (Or.inl rfl) | exact Or.inr (Or.inr rfl)) (hd : (x == ("__debug__" : Str)) = false := by decide)
    (hcd : (x == ("__classdict__" : Str)) = false := by decide) (hw : swapsWith (.Call (.Attribute (.Name x p1) "append" p2) [e] [] p3) none pos.line X.env = pure false := by rfl)
    (hcall : ∀ (to te : TE), PE X (.Name x p1) to → PE X e te → PE X (.Call (.Attribute (.Name x p1) "append" p2) [e] [] p3) (tBM X.K "list" rAppend to (tCons te tNil)) := by exact fun _ _ h1 h2 => pe_bm PySem.F.plainAttrs_list PySem.F.slot_list_append PySem.F.type_list_append mt_append h1 (pa_cons h2 pa_nil)) :
    PS X (.Expr (.Call (.Attribute (.Name x p1) "append" p2) [e] [] p3) pos) (ups C (dApp i ta)) := by
  refine ps_weak (ps_expr (hcall _ _ (pe_var hN hv hd hcd) ha) hw) fun D σ H ⟨G, δ, F, hC, k, h⟩ => ?_
  subst hC
  obtain ⟨z, h⟩ := okIf_finS h
  obtain ⟨p, vs, e1, e2⟩ := isLst_held k z
  refine ⟨.ref p, e1, .inl ⟨rfl, vs, SqL.of e2⟩, G, δ, F, rfl, k, finS_bind h fun x δ1 v F1 H1 k1 g1 w1 h1 => ?_⟩
  obtain ⟨d, δ2, F2, k2, g2, w2, h2⟩ := kp_bindS k1 h1 w1
  obtain ⟨s, ds, l, q1, q2, q3, h3⟩ := mutL_fin h2
  obtain ⟨p', o, a1, a2, a3, vs', rfl, a4⟩ := k2.held q1 q2
  rw [e1] at a1
  cases a1
  obtain ⟨z1, z2⟩ := okO_some q3
  cases z2
  exact ⟨p, vs', v, rfl, rfl, a2, by rw [dpa_len a4]; exact small_lt z1, h3 σ F2 _ (k2.change q1 q2 e1 ⟨_, rfl, dpa_app a4 (.cons w2 .nil)⟩) (Same.refl F2)⟩
/-- x[i] = e of an own list -/
def fSet (j : Int) (d : D) (ds : List D) : Option (List D) := (ixN ds.length j).map fun m => ds.set m d
def asInt (x : Vl) (δ : DS) : R Int := match x with
  | .fz (.int i) => .ok i δ
  | _ => .bad
def dSetI (i : Nat) (b a : De) : Ds := fun δ => (a δ).bind fun x δ1 => (kp x δ1).bind fun d δ2 => okIf (isLst i δ2) ((b δ2).bind fun y δ3 => (asInt y δ3).bind fun j δ4 => mutL i (fSet j d) δ4)
theorem pds_setI (i : Nat) {x : Str} {p1 p2 : Pos} (ha : PE X e (up C ta)) (hb : PE X b (up C tb)) (hN : X.N[i]? = some x := by rfl) (hv : Vis X.env.scope x := by first | exact Or.inl rfl | exact Or.inr (Or.inl rfl) | exact Or.inr (Or.inr rfl)) (hd : (x == ("__debug__" : Str)) = false := by decide)
    (hcd : (x == ("__classdict__" : Str)) = false := by decide)
    (hs : swapsWithSole [.Subscript (.Name x p1) b p2] e pos.line X.env = pure false := by rfl) (hw : swappedStores [.Subscript (.Name x p1) b p2] e X.env = pure none := by rfl)
    (h1 : (assignEach [.Subscript (.Name x p1) b p2] X.env).map (·.2) = [assign (.Subscript (.Name x p1) b p2) X.env] := by rfl)
    (hpg : ∀ (to ti : TE), PE X (.Name x p1) to → PE X b ti → PG X (.Subscript (.Name x p1) b p2) (gSub to ti rSetL) := by exact fun _ _ h1 h2 => pg_sub h1 h2 set_list) :
    PS X (.Assign [.Subscript (.Name x p1) b p2] e pos) (ups C (dSetI i tb ta)) := by
  refine ps_weak (ps_asg ha (hpg _ _ (pe_var hN hv hd hcd) hb) hs hw h1) fun D σ H ⟨G, δ, F, hC, k, h⟩ => ?_
  subst hC
  refine ⟨G, δ, F, rfl, k, finS_bind h fun x δ1 v F1 H1 k1 g1 w1 h1 => ?_⟩
  obtain ⟨d, δ2, F2, k2, g2, w2, h2⟩ := kp_bindS k1 h1 w1
  obtain ⟨z, h2⟩ := okIf_finS h2
  obtain ⟨p, vs, e1, e2⟩ := isLst_held k2 z
  refine ⟨.ref p, e1, G, δ2, F2, rfl, k2, finS_bind h2 fun y δ3 u F3 H3 k3 g3 w3 h3 => ?_⟩
  cases y with
  | fz d' => cases d' with
    | int j =>
      cases w3
      have h3 : finS G (mutL i (fSet j d) δ3) F3 D := h3
      obtain ⟨s, ds, l, q1, q2, q3, h4⟩ := mutL_fin h3
      obtain ⟨p', o, a1, a2, a3, vs', rfl, a4⟩ := k3.held q1 q2
      rw [e1] at a1
      cases a1
      unfold fSet at q3
      cases eq : ixN ds.length j with
      | none => rw [eq] at q3; cases q3
      | some m =>
        rw [eq] at q3
        cases q3
        exact ⟨p, vs', j, m, rfl, rfl, a2, by rw [dpa_len a4]; exact eq, h4 σ F3 _ (k3.change q1 q2 e1 ⟨_, rfl, dpa_set m a4 (dp_mono g3 _ _ w2)⟩) (Same.refl F3)⟩
    | _ => exact h3.elim
  | _ => exact h3.elim
/-- xs.extend(e): the list handed may be read only -/
def rExtendR : V → List V → Hp → VK → Prop := fun x vs H Q => ∃ l b xs zs, x = .ref l ∧ vs = [.ref b] ∧ H l = some (.lst xs) ∧ Rd H b (.lst zs) ∧ xs.length + zs.length ≤ sizeLine ∧ Q .non (upd H l (.lst (xs ++ zs)))
end

/-! ### the part of a block (a comprehension): what was ours before is handed to it -/
def toArg : Sl → Sl
  | .own c => .arg c
  | s => s
def back1 : Sl → Sl → Sl
  | .own _, .arg c => .own c
  | .arg _, .arg c => .arg c
  | s, _ => s
def back : DS → DS → DS
  | [], _ => []
  | s :: δ, t :: δ' => back1 s t :: back δ δ'
  | s :: δ, [] => s :: back δ []
theorem back_get : ∀ (δ δ' : DS) (i : Nat) (s t : Sl), δ[i]? = some s → δ'[i]? = some t → (back δ δ')[i]? = some (back1 s t)
  | [], _, _, _, _, h, _ => by simp at h
  | _ :: _, [], _, _, _, _, h => by simp at h
  | s :: δ, t :: δ', 0, _, _, h, h' => by simp at h h'; subst h h'; rfl
  | s :: δ, t :: δ', i + 1, _, _, h, h' => by
    show (back δ δ')[i]? = _
    exact back_get δ δ' i _ _ (by simpa using h) (by simpa using h')
theorem back_len : ∀ (δ δ' : DS), (back δ δ').length = δ.length
  | [], _ => rfl
  | s :: δ, t :: δ' => by show (back δ δ').length + 1 = _; rw [back_len]; rfl
  | s :: δ, [] => by show (back δ []).length + 1 = _; rw [back_len]; rfl
def wipeD (δ : DS) : List Nat → DS
  | [] => δ
  | v :: vs => (wipeD δ vs).set v .no
theorem wipeD_len (δ : DS) : ∀ vs : List Nat, (wipeD δ vs).length = δ.length
  | [] => rfl
  | v :: vs => by unfold wipeD; rw [List.length_set, wipeD_len δ vs]
theorem wipeD_out {δ : DS} {i : Nat} : ∀ {vs : List Nat}, i ∉ vs → (wipeD δ vs)[i]? = δ[i]?
  | [], _ => rfl
  | v :: vs, h => by
    rw [List.mem_cons, not_or] at h
    unfold wipeD
    rw [List.getElem?_set_ne (Ne.symm h.1)]
    exact wipeD_out h.2
theorem wipeD_in {δ : DS} {i : Nat} (hl : i < δ.length) : ∀ {vs : List Nat}, i ∈ vs → (wipeD δ vs)[i]? = some .no
  | [], h => by simp at h
  | v :: vs, h => by
    unfold wipeD
    by_cases hv : v = i
    · subst hv
      rw [List.getElem?_set_self (by rw [wipeD_len]; exact hl)]
    · rw [List.getElem?_set_ne hv]
      rcases List.mem_cons.mp h with z | z
      · exact absurd z.symm hv
      · exact wipeD_in hl z
theorem wipe_eq {a b : L2.St} {vs : List Nat} (h : ∀ j, j ∉ vs → a[j]? = b[j]?) (hl : a.length = b.length) : wipe a vs = wipe b vs := by
  have gin : ∀ (σ : L2.St) (i : Nat), i < σ.length → ∀ (vs : List Nat), i ∈ vs → (wipe σ vs)[i]? = some none := by
    intro σ i hi vs
    induction vs with
    | nil => intro h; simp at h
    | cons v vs ih =>
      intro h
      unfold wipe
      by_cases hv : v = i
      · subst hv
        rw [List.getElem?_set_self (by rw [wipe_length]; exact hi)]
      · rw [List.getElem?_set_ne hv]
        rcases List.mem_cons.mp h with z | z
        · exact absurd z.symm hv
        · exact ih z
  apply List.ext_getElem?
  intro i
  by_cases hi : i ∈ vs
  · by_cases hz : i < a.length
    · rw [gin a i hz vs hi, gin b i (by rw [← hl]; exact hz) vs hi]
    · rw [List.getElem?_eq_none (by rw [wipe_length]; omega), List.getElem?_eq_none (by rw [wipe_length]; omega)]
  · rw [wipe_out hi, wipe_out hi, h i hi]
def freeAt (vs : List Nat) (δ : DS) : Bool := vs.all fun i => match δ[i]? with
  | some s => !s.held
  | none => true
def Ct.blk (G : Ct) (C' : Cf) (δ : DS) (σ : L2.St) (F H : Hp) : Ct := ⟨C', F, H, fun i => match δ[i]?, σ[i]? with
  | some s, some (some (.ref p)) => if s.held = true then some p else none
  | _, _ => none⟩
section
variable {G : Ct} {C' : Cf} {δ δ2 : DS} {σ σ2 : L2.St} {F H F2 H2 : Hp} {vs : List Nat}
theorem blk_M {i : Nat} {p : Addr} (h : (G.blk C' δ σ F H).M i = some p) : ∃ s, δ[i]? = some s ∧ s.held = true ∧ σ[i]? = some (some (.ref p)) := by
  have h : (match δ[i]?, σ[i]? with
  | some s, some (some (.ref p)) => if s.held = true then some p else none
  | _, _ => none) = some p := h
  cases e : δ[i]? with
  | none => rw [e] at h; cases h
  | some s =>
    rw [e] at h
    cases e2 : σ[i]? with
    | none => rw [e2] at h; cases h
    | some o =>
      rw [e2] at h
      cases o with
      | none => cases h
      | some v =>
        cases v with
        | ref q =>
          simp only at h
          by_cases hh : s.held = true
          · rw [if_pos hh] at h
            cases h
            exact ⟨s, rfl, hh, rfl⟩
          · rw [if_neg hh] at h
            cases h
        | _ => cases h
theorem blk_M_of {i : Nat} {p : Addr} {s : Sl} (h1 : δ[i]? = some s) (h2 : s.held = true) (h3 : σ[i]? = some (some (.ref p))) : (G.blk C' δ σ F H).M i = some p := by
  show (match δ[i]?, σ[i]? with
  | some s, some (some (.ref p)) => if s.held = true then some p else none
  | _, _ => none) = some p
  rw [h1, h3]
  simp only
  rw [if_pos h2]
theorem blk_in (k : St1 G δ σ F H) (hK : C'.K = G.K) (hv : freeAt vs δ = true) : St1 (G.blk C' δ σ F H) (wipeD (δ.map toArg) vs) (wipe σ vs) F H where
  len := by rw [wipeD_len, wipe_length, List.length_map]; exact k.len
  fh := k.fh
  f0 := Same.refl F
  h0 := fun b o _ e => e
  fn := fun b z => .inl z
  sl := fun i s e => by
    have hl : i < δ.length := by
      have := (List.getElem?_eq_some_iff.mp e).1
      rw [wipeD_len, List.length_map] at this
      exact this
    by_cases hi : i ∈ vs
    · rw [wipeD_in (by rw [List.length_map]; exact hl) hi] at e
      cases e
      trivial
    · rw [wipeD_out hi, List.getElem?_map] at e
      rw [wipe_out hi]
      cases e1 : δ[i]? with
      | none => rw [e1] at e; cases e
      | some t =>
        rw [e1] at e
        have et : toArg t = s := Option.some.inj e
        subst et
        have z := k.sl i t e1
        cases t with
        | no => trivial
        | fz d =>
          obtain ⟨v, a, b⟩ := z
          exact ⟨v, a, by rw [show (G.blk C' δ σ F H).K = G.K from hK]; exact b⟩
        | own c =>
          obtain ⟨p, o, a1, a2, a3, a4, _⟩ := z
          exact ⟨p, o, a1, a2, a3, by rw [show (G.blk C' δ σ F H).K = G.K from hK]; exact a4, blk_M_of e1 rfl a1⟩
        | arg c =>
          obtain ⟨p, o, a1, a2, a3, a4, _⟩ := z
          exact ⟨p, o, a1, a2, a3, by rw [show (G.blk C' δ σ F H).K = G.K from hK]; exact a4, blk_M_of e1 rfl a1⟩
  di := fun i j s t p hij e1 e2 q1 q2 r1 r2 => by
    have get : ∀ (m : Nat) (u : Sl), (wipeD (δ.map toArg) vs)[m]? = some u → u.held = true → m ∉ vs ∧ ∃ u', δ[m]? = some u' ∧ u'.held = true := fun m u e q => by
      have hl : m < δ.length := by
        have := (List.getElem?_eq_some_iff.mp e).1
        rw [wipeD_len, List.length_map] at this
        exact this
      by_cases hi : m ∈ vs
      · rw [wipeD_in (by rw [List.length_map]; exact hl) hi] at e
        cases e
        cases q
      · refine ⟨hi, ?_⟩
        rw [wipeD_out hi, List.getElem?_map] at e
        cases e1 : δ[m]? with
        | none => rw [e1] at e; cases e
        | some t =>
          rw [e1] at e
          have et : toArg t = u := Option.some.inj e
          subst et
          refine ⟨t, rfl, ?_⟩
          cases t <;> first | rfl | exact q
    obtain ⟨n1, u1, a1, b1⟩ := get i s e1 q1
    obtain ⟨n2, u2, a2, b2⟩ := get j t e2 q2
    rw [wipe_out n1] at r1
    rw [wipe_out n2] at r2
    exact k.di i j u1 u2 p hij a1 a2 b1 b2 r1 r2
  ma := fun i p e => by
    obtain ⟨s, h1, h2, h3⟩ := blk_M e
    have hi : i ∉ vs := fun z => by
      have := List.all_eq_true.mp hv i z
      rw [h1] at this
      simp only [h2] at this
      cases this
    rw [wipeD_out hi, List.getElem?_map, h1]
    cases s with
    | own c => exact ⟨c, rfl⟩
    | arg c => exact ⟨c, rfl⟩
    | _ => cases h2
theorem blk_out (k : St1 G δ σ F H) (hK : C'.K = G.K) (k2 : St1 (G.blk C' δ σ F H) δ2 σ2 F2 H2) (hl : σ2.length = σ.length) : St1 G (back δ δ2) σ F2 H2 where
  len := by rw [back_len]; exact k.len
  fh := k2.fh
  f0 := k.f0.trans k2.f0
  h0 := fun b o hm e => k2.h0 b o (fun i hi => by
    obtain ⟨s, h1, h2, h3⟩ := blk_M hi
    have z := k.sl i s h1
    cases s with
    | own c =>
      obtain ⟨p, o', a1, a2, a3, a4, a5, a6⟩ := z
      rw [h3] at a1
      cases a1
      rw [a6] at e
      cases e
    | arg c =>
      obtain ⟨p, o', a1, a2, a3, a4, a5⟩ := z
      rw [h3] at a1
      cases a1
      exact hm i a5
    | _ => cases h2) (k.h0 b o hm e)
  fn := fun b z => by
    rcases k2.fn b z with q | q
    · exact k.fn b q
    · exact .inr (k.new0 q)
  sl := fun i s e => by
    have hlt : i < δ.length := by
      have := (List.getElem?_eq_some_iff.mp e).1
      rw [back_len] at this
      exact this
    have hlt2 : i < δ2.length := by rw [k2.len, hl, ← k.len]; exact hlt
    obtain ⟨t, et⟩ : ∃ t, δ[i]? = some t := ⟨_, List.getElem?_eq_getElem hlt⟩
    obtain ⟨u, eu⟩ : ∃ u, δ2[i]? = some u := ⟨_, List.getElem?_eq_getElem hlt2⟩
    rw [back_get δ δ2 i t u et eu] at e
    cases e
    have z := k.sl i t et
    have zz : ∀ p, t.held = true → σ[i]? = some (some (.ref p)) → ∃ c o, u = .arg c ∧ H2 p = some o ∧ F2 p = none ∧ CoOk G.K F2 c o := fun p th e1 => by
      have em := blk_M_of (G := G) (C' := C') (F := F) (H := H) et th e1
      obtain ⟨c, hc⟩ := k2.ma i p em
      rw [eu] at hc
      cases hc
      obtain ⟨q, o, a1, a2, a3, a4, a5⟩ := k2.sl i _ eu
      rw [em] at a5
      cases a5
      exact ⟨c, o, rfl, a2, a3, by rw [← show (G.blk C' δ σ F H).K = G.K from hK]; exact a4⟩
    cases t with
    | no => trivial
    | fz d =>
      obtain ⟨v, a, b⟩ := z
      exact ⟨v, a, dp_mono k2.f0 _ _ b⟩
    | own c =>
      obtain ⟨p, o, a1, a2, a3, a4, a5, a6⟩ := z
      obtain ⟨c', o', rfl, b1, b2, b3⟩ := zz p rfl a1
      exact ⟨p, o', a1, b1, b2, b3, a5, a6⟩
    | arg c =>
      obtain ⟨p, o, a1, a2, a3, a4, a5⟩ := z
      obtain ⟨c', o', rfl, b1, b2, b3⟩ := zz p rfl a1
      exact ⟨p, o', a1, b1, b2, b3, a5⟩
  di := fun i j s t p hij e1 e2 q1 q2 r1 r2 => by
    have get : ∀ (m : Nat) (u : Sl), (back δ δ2)[m]? = some u → u.held = true → ∃ u', δ[m]? = some u' ∧ u'.held = true := fun m u e q => by
      have hlt : m < δ.length := by
        have := (List.getElem?_eq_some_iff.mp e).1
        rw [back_len] at this
        exact this
      have hlt2 : m < δ2.length := by rw [k2.len, hl, ← k.len]; exact hlt
      obtain ⟨t, et⟩ : ∃ t, δ[m]? = some t := ⟨_, List.getElem?_eq_getElem hlt⟩
      obtain ⟨u', eu⟩ : ∃ u, δ2[m]? = some u := ⟨_, List.getElem?_eq_getElem hlt2⟩
      rw [back_get δ δ2 m t u' et eu] at e
      cases e
      refine ⟨t, et, ?_⟩
      cases t with
      | own c => rfl
      | arg c => rfl
      | no => cases u' <;> exact q
      | fz d => cases u' <;> exact q
    obtain ⟨u1, a1, b1⟩ := get i s e1 q1
    obtain ⟨u2, a2, b2⟩ := get j t e2 q2
    exact k.di i j u1 u2 p hij a1 a2 b1 b2 r1 r2
  ma := fun i p e => by
    obtain ⟨c, hc⟩ := k.ma i p e
    obtain ⟨q, o, a1, a2, a3, a4, a5⟩ := k.sl i _ hc
    have em := blk_M_of (G := G) (C' := C') (F := F) (H := H) hc rfl a1
    obtain ⟨c2, hc2⟩ := k2.ma i q em
    exact ⟨c2, by rw [back_get δ δ2 i _ _ hc hc2]; rfl⟩
/-- what is new and of no slot stays through a block -/
theorem blk_val (k : St1 G δ σ F H) (k2 : St1 (G.blk C' δ σ F H) δ2 σ2 F2 H2) (hl : σ2.length = σ.length) {v : V} {c : Co} (w : VlOk G δ σ F H v (.own c)) : VlOk G (back δ δ2) σ F2 H2 v (.own c) := by
  obtain ⟨p, o, rfl, h1, h2, h3, h4, h5⟩ := w
  refine ⟨p, o, rfl, k2.h0 p o (fun i hi => ?_) h1, ?_, h3.mono k2.f0, h4, fun i s e q => ?_⟩
  · obtain ⟨s, a1, a2, a3⟩ := blk_M hi
    exact h5 i s a1 a2 a3
  · cases e : F2 p with
    | none => rfl
    | some u =>
      rcases k2.fn p (by rw [e]; simp) with z | z
      · exact absurd h2 z
      · have z : H p = none := z
        rw [h1] at z
        cases z
  · have hlt : i < δ.length := by
      have := (List.getElem?_eq_some_iff.mp e).1
      rw [back_len] at this
      exact this
    have hlt2 : i < δ2.length := by rw [k2.len, hl, ← k.len]; exact hlt
    obtain ⟨t, et⟩ : ∃ t, δ[i]? = some t := ⟨_, List.getElem?_eq_getElem hlt⟩
    obtain ⟨u', eu⟩ : ∃ u, δ2[i]? = some u := ⟨_, List.getElem?_eq_getElem hlt2⟩
    rw [back_get δ δ2 i t u' et eu] at e
    cases e
    refine h5 i t et ?_
    cases t with
    | own c => rfl
    | arg c => rfl
    | no => cases u' <;> exact q
    | fz d => cases u' <;> exact q
/-- a new object that is of no slot is changed -/
theorem St1.updTemp (k : St1 G δ σ F H) {p : Addr} {o' : HO} {c : Co} (w : VlOk G δ σ F H (.ref p) (.own c)) : St1 G δ σ F (upd H p o') := by
  obtain ⟨q, o1, e, h1, h2, h3, h4, h5⟩ := w
  cases e
  exact {
    len := k.len
    fh := fun b u e => by
      rw [upd_ne (fun z => by subst z; rw [h2] at e; cases e)]
      exact k.fh _ _ e
    f0 := k.f0
    h0 := fun b u hm e => by
      rw [upd_ne (fun z => by subst z; rw [h4] at e; cases e)]
      exact k.h0 b u hm e
    fn := k.fn
    sl := fun i s e => (k.sl i s e).mono (Same.refl F) fun b u g1 g2 g3 g4 => ⟨by
      rw [upd_ne (fun z => by subst z; exact h5 i s e g3 g4)]
      exact g2, g1⟩
    di := k.di
    ma := k.ma }
end
end DL

set_option Elab.async false
set_option linter.all false
set_option maxRecDepth 100000
set_option autoImplicit false
namespace DL
open PySem PySem.Spec PyProof.Rows L2

/-! ### comprehensions -/
def nox (C : Cf) : Cf := ⟨C.K, fun _ _ _ _ => False⟩
def onTurn (vs : List Nat) (g : Dg) (tt : Dt) (te : De) (d : D) (δb : DS) : R (Option D) := match g d δb with
  | .ok .nx δ2 => (tt δ2).bind fun b δ3 => match b with
    | true => (te δ3).bind fun x δ4 => (kp x δ4).bind fun d δ5 => .ok (some d) δ5
    | false => .ok none δ3
  | _ => .bad
def backR {α : Type} (δ : DS) (r : R α) : R α := match r with
  | .ok o δ' => .ok o (back δ δ')
  | _ => .bad
def turnL (vs : List Nat) (g : Dg) (tt : Dt) (te : De) (d : D) (δ : DS) : R (Option D) := backR δ (onTurn vs g tt te d (wipeD (δ.map toArg) vs))
def compL (f : D → DS → R (Option D)) : List D → DS → R (List D)
  | [], δ => .ok [] δ
  | d :: ds, δ => match f d δ with
    | .ok o δ1 => match compL f ds δ1 with
      | .ok l δ2 => .ok (o.toList ++ l) δ2
      | _ => .bad
    | _ => .bad
def dLc (vs : List Nat) (ti : Di) (g : Dg) (tt : Dt) (te : De) : De := fun δ => (ti δ).bind fun ds δ1 => okIf (small ds.length && freeAt vs δ1) (match compL (turnL vs g tt te) ds δ1 with
  | .ok l δ2 => .ok (.own (.lst l)) δ2
  | _ => .bad)
def dYes : Dt := fun δ => .ok true δ
theorem compL_cons {f : D → DS → R (Option D)} {d : D} {ds l : List D} {δ δe : DS} (h : compL f (d :: ds) δ = .ok l δe) : ∃ o δ1 l', f d δ = .ok o δ1 ∧ compL f ds δ1 = .ok l' δe ∧ l = o.toList ++ l' := by
  unfold compL at h
  cases e : f d δ with
  | ok o δ1 =>
    rw [e] at h
    simp only at h
    cases e2 : compL f ds δ1 with
    | ok l' δ2 =>
      rw [e2] at h
      cases h
      exact ⟨o, δ1, l', rfl, e2, rfl⟩
    | ex c s => rw [e2] at h; cases h
    | bad => rw [e2] at h; cases h
  | ex c s => rw [e] at h; cases h
  | bad => rw [e] at h; cases h
theorem freeAt_back : ∀ {vs : List Nat} {δ δ' : DS}, freeAt vs δ = true → freeAt vs (back δ δ') = true := fun {vs δ δ'} h => by
  refine List.all_eq_true.mpr fun i hi => ?_
  have z := List.all_eq_true.mp h i hi
  cases e : (back δ δ')[i]? with
  | none => rfl
  | some s =>
    have hlt : i < δ.length := by
      have := (List.getElem?_eq_some_iff.mp e).1
      rw [back_len] at this
      exact this
    obtain ⟨t, et⟩ : ∃ t, δ[i]? = some t := ⟨_, List.getElem?_eq_getElem hlt⟩
    rw [et] at z
    have bk : ∀ (δ δ' : DS) (i : Nat) (s t : Sl), δ[i]? = some t → (back δ δ')[i]? = some s → t.held = false → s.held = false := by
      intro δ
      induction δ with
      | nil => intro δ' i s t h; simp at h
      | cons u δ ih =>
        intro δ' i s t h h' hh
        cases δ' with
        | nil => cases i with
          | zero => simp at h; subst h; simp [back] at h'; subst h'; exact hh
          | succ i => exact ih [] i s t (by simpa using h) (by simpa [back] using h') hh
        | cons u' δ' => cases i with
          | zero =>
            simp at h
            subst h
            simp [back] at h'
            subst h'
            cases u with
            | own c => cases hh
            | arg c => cases hh
            | no => cases u' <;> rfl
            | fz d => cases u' <;> rfl
          | succ i => exact ih δ' i s t (by simpa using h) (by simpa [back] using h') hh
    have th : t.held = false := by simpa using z
    have sh := bk δ δ' i s t et e th
    show (!s.held) = true
    rw [sh]
    rfl
section
variable {X : Cx} {C : Cf} {e a b c : Expr} {ta tb tc : De} {pos : Pos}
theorem upT_yes : ∀ σ H Q, upT C dYes σ H Q → tYes σ H Q := fun σ H Q ⟨G, δ, F, hC, k, h⟩ => h true F H k (Same.refl F) rfl
theorem pts_weak {ifs : List Expr} {t t' : TT} (h : PTs X ifs t) (w : ∀ σ H Q, t' σ H Q → t σ H Q) : PTs X ifs t' := ⟨fun pins s σ H Q I q => h.run pins s σ H Q I (w σ H Q q)⟩
theorem ptsd_nil : PTs X [] (upT C dYes) := pts_weak pts_nil upT_yes
theorem ptsd_one {t : Dt} (h : PT X c (upT C t)) : PTs X [c] (upT C t) := pts_one h
/-- one turn of a comprehension, as the rule asks for it -/
theorem lc_turn {G : Ct} {δ : DS} {σ : L2.St} {F H : Hp} {vs ts : List Nat} {g : Dg} {tt : Dt} {te : De} {d : D} {o : Option D} {δ1 : DS} {x : V} {p : Addr} {acc : List D} {Nx : Hp → Prop} (k : St1 G δ σ F H) (w : Dp G.K F x d) (hts : ∀ t ∈ ts, t ∈ vs) (hv : freeAt vs δ = true)
    (wa : VlOk G δ σ F H (.ref p) (.own (.lst acc))) (sz : small acc.length = true) (e : turnL vs g tt te d δ = .ok o δ1)
    (q : ∀ F' H', St1 G δ1 σ F' H' → Same F F' → VlOk G δ1 σ F' H' (.ref p) (.own (.lst (acc ++ o.toList))) → Nx H') :
    upG (nox G.C) ts g x (wipe σ vs) H fun σ2 H2 => wipe σ2 vs = wipe σ vs ∧ upT (nox G.C) tt σ2 H2 fun b H3 => if b = true then up (nox G.C) te σ2 H3 fun y H4 => ∃ acc, H4 p = some (.lst acc) ∧ acc.length < sizeLine ∧ Nx (upd H4 p (.lst (acc ++ [y]))) else Nx H3 := by
  have kb := blk_in (C' := nox G.C) (vs := vs) k rfl hv
  unfold turnL onTurn at e
  refine ⟨G.blk (nox G.C) δ σ F H, _, F, d, rfl, kb, w, ?_⟩
  cases e1 : g d (wipeD (δ.map toArg) vs) with
  | ok og δ2 =>
    rw [e1] at e
    cases og with
    | nx =>
      intro σ2 F2 H2 k2 g2 a2
      have wl : σ2.length = (wipe σ vs).length := a2.2
      refine ⟨?_, ?_⟩
      · have z : wipe σ2 vs = wipe (wipe σ vs) vs := wipe_eq (fun j hj => a2.1 j fun z => hj (hts j z)) wl
        rw [z]
        exact wipe_eq (fun j hj => wipe_out hj) (wipe_length σ vs)
      · rw [wipe_length] at wl
        simp only at e
        cases e2 : tt δ2 with
        | ok b δ3 =>
          rw [e2] at e
          refine ⟨G.blk (nox G.C) δ σ F H, δ2, F2, rfl, k2, ?_⟩
          rw [e2]
          intro b' F3 H3 k3 g3 w3
          have w3 : b' = b := w3
          subst w3
          cases b' with
          | false =>
            refine iteF ?_
            cases e
            have k4 := blk_out (C' := nox G.C) k rfl k3 wl
            refine q F3 H3 k4 (g2.trans g3) ?_
            have := blk_val k k3 wl wa
            simpa using this
          | true =>
            refine iteT ?_
            have e : backR δ ((te δ3).bind fun x δ4 => (kp x δ4).bind fun d δ5 => R.ok (some d) δ5) = .ok o δ1 := e
            cases e3 : te δ3 with
            | ok x4 δ4 =>
              rw [e3] at e
              refine ⟨G.blk (nox G.C) δ σ F H, δ3, F3, rfl, k3, ?_⟩
              rw [e3]
              intro y F4 H4 k4 g4 w4
              have e : backR δ ((kp x4 δ4).bind fun d δ5 => R.ok (some d) δ5) = .ok o δ1 := e
              cases e4 : kp x4 δ4 with
              | ok d5 δ5 =>
                rw [e4] at e
                cases e
                obtain ⟨F5, k5, g5, w5⟩ := k4.keepV w4 e4
                have k6 := blk_out (C' := nox G.C) k rfl k5 wl
                have w6 := blk_val k k5 wl wa
                obtain ⟨p', o6, q1, q2, q3, ⟨vs6, rfl, q4⟩, q5⟩ := id w6
                cases q1
                refine ⟨vs6, q2, by rw [dpa_len q4]; exact small_lt sz, q F5 _ (k6.updTemp w6) (((g2.trans g3).trans g4).trans g5) ⟨p, _, rfl, upd_same, q3, ⟨_, rfl, dpa_app q4 (.cons w5 .nil)⟩, q5.1, q5.2⟩⟩
              | ex cc s => rw [e4] at e; cases e
              | bad => rw [e4] at e; cases e
            | ex cc s => rw [e3] at e; cases e
            | bad => rw [e3] at e; cases e
        | ex cc s => rw [e2] at e; cases e
        | bad => rw [e2] at e; cases e
    | bk => cases e
    | ct => cases e
    | rt v => cases e
  | ex cc s => rw [e1] at e; cases e
  | bad => rw [e1] at e; cases e
theorem VlOk.grow {G : Ct} {δ : DS} {σ : L2.St} {F H F' H' : Hp} {p : Addr} {c : Co} (w : VlOk G δ σ F H (.ref p) (.own c)) (f1 : Same F F') (f3 : Same H H') (f4 : ∀ b, F' b ≠ none → F b ≠ none ∨ H b = none) : VlOk G δ σ F' H' (.ref p) (.own c) := by
  obtain ⟨q, o, e, h1, h2, h3, h4, h5⟩ := w
  cases e
  refine ⟨p, o, rfl, f3 _ _ h1, ?_, h3.mono f1, h4, h5⟩
  cases e : F' p with
  | none => rfl
  | some u =>
    rcases f4 p (by rw [e]; simp) with z | z
    · exact absurd h2 z
    · rw [h1] at z; cases z
theorem rf_lc {vs ts : List Nat} {ti : Di} {g : Dg} {tt : Dt} {te : De} (hts : ∀ t ∈ ts, t ∈ vs) : ∀ σ H Q, up C (dLc vs ti g tt te) σ H Q → tLc (upI C ti) (upG (nox C) ts g) (upT (nox C) tt) (up (nox C) te) vs σ H Q := fun σ H Q ⟨G, δ, F, hC, k, h⟩ => by
  subst hC
  refine ⟨G, δ, F, rfl, k, finA_bind h fun ds δ1 J F1 H1 k1 g1 w1 h1 => ?_⟩
  have w1 : ItOk G.K J F1 ds := w1
  obtain ⟨z, h2⟩ := okIf_fin h1
  rw [Bool.and_eq_true] at z
  obtain ⟨z1, z2⟩ := z
  cases ec : compL (turnL vs g tt te) ds δ1 with
  | ex c s => rw [ec] at h2; exact h2.elim
  | bad => rw [ec] at h2; exact h2.elim
  | ok L δe =>
    rw [ec] at h2
    intro p hp
    have z1' : ds.length ≤ 100000 := of_decide_eq_true z1
    refine ⟨fun i m H => m = ds.length - i ∧ i ≤ ds.length ∧ ∃ δ F acc l, St1 G δ σ F H ∧ Same F1 F ∧ freeAt vs δ = true ∧ VlOk G δ σ F H (.ref p) (.own (.lst acc)) ∧ compL (turnL vs g tt te) (ds.drop i) δ = .ok l δe ∧ acc.length ≤ i ∧ acc ++ l = L,
      ⟨ds.length, by simp, Nat.zero_le _, δ1, F1, [], L, k1.newOwn hp, Same.refl F1, z2, k1.valOwn hp ⟨[], rfl, .nil⟩, ec, Nat.le_refl _, rfl⟩, ?_⟩
    rintro i m H2 ⟨rfl, hi, δ2, F2, acc, l, k2, g2, hv, wa, e2, hacc, rfl⟩
    obtain ⟨wgo, wst⟩ := w1 F2 H2 g2 k2.fh i
    by_cases hlt : i < ds.length
    · right
      obtain ⟨go, yl⟩ := wgo ds[i] (List.getElem?_eq_getElem hlt)
      rw [List.drop_eq_getElem_cons hlt] at e2
      obtain ⟨o, δ3, l', e3, e4, rfl⟩ := compL_cons e2
      refine ⟨go, fun H' => ∃ F', St1 G δ3 σ F' H' ∧ Same F1 F' ∧ VlOk G δ3 σ F' H' (.ref p) (.own (.lst (acc ++ o.toList))), fun H' ⟨F', q1, q2, q3⟩ => ⟨ds.length - (i + 1), by omega, rfl, hlt, δ3, F', acc ++ o.toList, l', q1, q2, ?_, q3, e4, ?_, by rw [List.append_assoc]⟩, fun x H3 y => ?_⟩
      · unfold turnL backR at e3
        split at e3
        · cases e3
          exact freeAt_back hv
        · cases e3
      · rw [List.length_append]
        have : o.toList.length ≤ 1 := by cases o <;> simp
        omega
      · obtain ⟨F3, f1, f2, f3, f4, w3⟩ := yl x H3 y
        have k3 := grow_it k2 f1 f2 f3 f4
        exact lc_turn k3 w3 hts hv (wa.grow f1 f3 f4) (decide_eq_true (by omega)) e3 fun F' H' q1 q2 q3 => ⟨F', q1, (g2.trans f1).trans q2, q3⟩
    · left
      have e : i = ds.length := by omega
      subst e
      refine ⟨wst rfl, ?_⟩
      rw [List.drop_length] at e2
      cases e2
      rw [List.append_nil] at h2
      exact h2 (.ref p) F2 H2 k2 g2 wa
theorem pd_lc {elt tg iter : Expr} {ifs : List Expr} {scope : Scope} {own : List (Str × Nat)} {ts : List Nat} {ti : Di} {g : Dg} {tt : Dt} {te : De} (hi : PI X tg iter (upI C ti)) (hN : X.N.Nodup) (ok : BlkOk X.N X.env.scope scope own)
    (hg : ∀ (s : Shared) (H : Hp) (Ca : Addr) (cl : List (Str × Addr)) (fp : List Addr), PG (X.blk s H scope (compEnvC scope cl Ca X.env) fp) tg (upG (nox C) ts g)) (ht : ∀ (s : Shared) (H : Hp) (Ca : Addr) (cl : List (Str × Addr)) (fp : List Addr), PTs (X.blk s H scope (compEnvC scope cl Ca X.env) fp) ifs (upT (nox C) tt))
    (he : ∀ (s : Shared) (H : Hp) (Ca : Addr) (cl : List (Str × Addr)) (fp : List Addr), PE (X.blk s H scope (compEnvC scope cl Ca X.env) fp) elt (up (nox C) te)) (hts : ∀ t ∈ ts, t ∈ own.map (·.2) := by decide) (hc : X.calm = true := by rfl) (hs : ∀ x, foldedSetIterable iter X.env x = pure x := by intro _; rfl) :
    PE X (.ListComp elt [⟨tg, iter, ifs, 0⟩] scope pos) (up C (dLc (own.map (·.2)) ti g tt te)) := pe_weak (pe_lc hc hN hi ok hg ht he hs) (rf_lc hts)
theorem pds_setLc (i : Nat) {y : Str} {py spos : Pos} {elt tg iter : Expr} {ifs : List Expr} {scope : Scope} {own : List (Str × Nat)} {ts : List Nat} {ti : Di} {g : Dg} {tt : Dt} {te : De} (hi : PI X tg iter (upI C ti)) (hN : X.N.Nodup) (ok : BlkOk X.N X.env.scope scope own)
    (hg : ∀ (s : Shared) (H : Hp) (Ca : Addr) (cl : List (Str × Addr)) (fp : List Addr), PG (X.blk s H scope (compEnvC scope cl Ca X.env) fp) tg (upG (nox C) ts g)) (ht : ∀ (s : Shared) (H : Hp) (Ca : Addr) (cl : List (Str × Addr)) (fp : List Addr), PTs (X.blk s H scope (compEnvC scope cl Ca X.env) fp) ifs (upT (nox C) tt))
    (he : ∀ (s : Shared) (H : Hp) (Ca : Addr) (cl : List (Str × Addr)) (fp : List Addr), PE (X.blk s H scope (compEnvC scope cl Ca X.env) fp) elt (up (nox C) te)) (hsw : swapsWith (.ListComp elt [⟨tg, iter, ifs, 0⟩] scope pos) (some (.Name y py)) spos.line X.env = pure true) (hy : X.N[i]? = some y := by rfl) (hyl : X.env.scope.names.lookup y = some .local := by rfl)
    (hts : ∀ t ∈ ts, t ∈ own.map (·.2) := by decide) (hc : X.calm = true := by rfl) (hs : ∀ x, foldedSetIterable iter X.env x = pure x := by intro _; rfl) :
    PS X (.Assign [.Name y py] (.ListComp elt [⟨tg, iter, ifs, 0⟩] scope pos) spos) (ups C (dAsg i (dLc (own.map (·.2)) ti g tt te))) := ps_weak (ps_setLc hc hN hy hyl hsw hi ok hg ht he hs) (rf_asg (rf_lc hts))
end
end DL

set_option Elab.async false
set_option linter.all false
set_option maxRecDepth 100000
set_option autoImplicit false
namespace DL
open PySem PySem.Spec PyProof.Rows L2

/-! ### arguments: by value, or the slot itself -/
inductive Am where
  | fz (d : D) | ref (i : Nat)
def AmOk (G : Ct) (σ : L2.St) (F : Hp) (v : V) : Am → Prop
  | .fz d => Dp G.K F v d
  | .ref i => σ[i]? = some (some v)
abbrev Da := DS → R (List Am)
def WA (G : Ct) (σ : L2.St) : DS → Hp → Hp → List V → List Am → Prop := fun _ F _ vs as => Paired (fun v a => AmOk G σ F v a) vs as
def upA (C : Cf) (ta : Da) : TA := fun σ H Q => ∃ G δ F, G.C = C ∧ St1 G δ σ F H ∧ finA G (WA G σ) (ta δ) σ F Q
theorem AmOk.mono {G : Ct} {σ : L2.St} {F F' : Hp} {v : V} {a : Am} (h : AmOk G σ F v a) (f : Same F F') : AmOk G σ F' v a := by
  cases a with
  | fz d => exact dp_mono f _ _ h
  | ref i => exact h
def aNil : Da := fun δ => .ok [] δ
def aVal (a : De) (l : Da) : Da := fun δ => (a δ).bind fun x δ1 => (kp x δ1).bind fun d δ2 => (l δ2).bind fun ds δ3 => .ok (.fz d :: ds) δ3
def known (i : Nat) (δ : DS) : Bool := match δ[i]? with
  | some .no => false
  | some _ => true
  | none => false
def aRef (i : Nat) (l : Da) : Da := fun δ => okIf (known i δ) ((l δ).bind fun ds δ3 => .ok (.ref i :: ds) δ3)
theorem known_some {G : Ct} {δ : DS} {σ : L2.St} {F H : Hp} {i : Nat} (k : St1 G δ σ F H) (h : known i δ = true) : ∃ v, σ[i]? = some (some v) := by
  unfold known at h
  cases e : δ[i]? with
  | none => rw [e] at h; cases h
  | some s =>
    rw [e] at h
    have z := k.sl i s e
    cases s with
    | no => cases h
    | fz d => obtain ⟨v, e, _⟩ := z; exact ⟨v, e⟩
    | own c => obtain ⟨p, o, e, _⟩ := z; exact ⟨_, e⟩
    | arg c => obtain ⟨p, o, e, _⟩ := z; exact ⟨_, e⟩
section
variable {X : Cx} {C : Cf} {e a b c : Expr} {ta tb tc : De} {pos : Pos}
theorem paa_nil : PA X [] (upA C aNil) := pa_weak pa_nil fun σ H Q ⟨G, δ, F, hC, k, h⟩ => h [] F H k (Same.refl F) .nil
theorem paa_val {es : List Expr} {tl : Da} (ha : PE X e (up C ta)) (hr : PA X es (upA C tl)) (hs : starEach (e :: es) X.env = (false, eval e X.env) :: starEach es X.env := by rfl) : PA X (e :: es) (upA C (aVal ta tl)) :=
  pa_weak (pa_cons ha hr hs) fun σ H Q ⟨G, δ, F, hC, k, h⟩ => by
    subst hC
    refine ⟨G, δ, F, rfl, k, finA_bind h fun x δ1 v F1 H1 k1 g1 w1 h1 => ?_⟩
    obtain ⟨d, δ2, F2, k2, g2, w2, h2⟩ := kp_bind k1 h1 w1
    refine ⟨G, δ2, F2, rfl, k2, finA_bind h2 fun ds δ3 vs F3 H3 k3 g3 w3 h3 => ?_⟩
    exact h3 (v :: vs) F3 H3 k3 (Same.refl F3) (.cons (dp_mono g3 _ _ w2) w3)
theorem paa_ref (i : Nat) {x : Str} {p1 : Pos} {es : List Expr} {tl : Da} (hr : PA X es (upA C tl)) (hN : X.N[i]? = some x := by rfl) (hv : Vis X.env.scope x := by first | exact Or.inl rfl | exact Or.inr (Or.inl rfl) | exact Or.inr (Or.inr rfl)) (hs : starEach (.Name x p1 :: es) X.env = (false, eval (.Name x p1) X.env) :: starEach es X.env := by rfl) (hd : (x == ("__debug__" : Str)) = false := by decide)
    (hcd : (x == ("__classdict__" : Str)) = false := by decide) : PA X (.Name x p1 :: es) (upA C (aRef i tl)) :=
  pa_weak (pa_cons (pe_var hN hv hd hcd) hr hs) fun σ H Q ⟨G, δ, F, hC, k, h⟩ => by
    subst hC
    obtain ⟨z, h⟩ := okIf_fin h
    obtain ⟨v, e⟩ := known_some k z
    refine ⟨v, e, G, δ, F, rfl, k, finA_bind h fun ds δ3 vs F3 H3 k3 g3 w3 h3 => ?_⟩
    exact h3 (v :: vs) F3 H3 k3 (Same.refl F3) (.cons e w3)
end
/-! ### a def's promise on data -/
def AOk (K : PySem.W.Frag) (F H : Hp) (v : V) : Sl → Prop
  | .fz d => Dp K F v d
  | .arg c => ∃ p o, v = .ref p ∧ H p = some o ∧ F p = none ∧ CoOk K F c o
  | _ => False
structure ArgsOk (K : PySem.W.Frag) (F H : Hp) (vs : List V) (as : List Sl) : Prop where
  len : vs.length = as.length
  here : ∀ (i : Nat) (s : Sl), as[i]? = some s → ∃ v, vs[i]? = some v ∧ AOk K F H v s
  di : ∀ (i j : Nat) (c d : Co) (p : Addr), i ≠ j → as[i]? = some (.arg c) → as[j]? = some (.arg d) → vs[i]? = some (.ref p) → vs[j]? = some (.ref p) → False
structure PostOk (K : PySem.W.Frag) (F H : Hp) (vs : List V) (as : List Sl) (δ' : DS) (F' H' : Hp) : Prop where
  ff : Same F F'
  fh : Same F' H'
  hh : ∀ (b : Addr) (o : HO), (∀ (i : Nat) (c : Co), as[i]? = some (.arg c) → vs[i]? ≠ some (.ref b)) → H b = some o → H' b = some o
  fn : ∀ b, F' b ≠ none → F b ≠ none ∨ H b = none
  ar : ∀ (i : Nat) (c : Co) (p : Addr), as[i]? = some (.arg c) → vs[i]? = some (.ref p) → ∃ c' o', δ'[i]? = some (.arg c') ∧ H' p = some o' ∧ F' p = none ∧ CoOk K F' c' o'
def RetOk (K : PySem.W.Frag) (F' H' H : Hp) (v : V) : Vl → Prop
  | .fz d => Dp K F' v d
  | .own c => ∃ p o, v = .ref p ∧ H p = none ∧ H' p = some o ∧ F' p = none ∧ CoOk K F' c o
  | .loc _ => False
def dspM (K : PySem.W.Frag) (F : Hp) (as : List Sl) (vs : List V) (H : Hp) (Q : VK) (E : XK) : R Vl → Prop
  | .ok r δ' => ∀ v F' H', PostOk K F H vs as δ' F' H' → RetOk K F' H' H v r → Q v H'
  | .ex c δ' => ∀ F' H', PostOk K F H vs as δ' F' H' → E c none H'
  | .bad => False
def dsp (K : PySem.W.Frag) (den : List Sl → R Vl) : Sp := fun vs H Q E => ∃ F as, Same F H ∧ ArgsOk K F H vs as ∧ dspM K F as vs H Q E (den as)

/-- which argument is a slot that holds an own object, at most one -/
def heldRef (δ : DS) : Am → Option Nat
  | .fz _ => none
  | .ref i => match δ[i]? with
    | some s => match s.held with
      | true => some i
      | false => none
    | none => none
def refOne (δ : DS) : List Am → Bool
  | [] => true
  | a :: as => match heldRef δ a with
    | some _ => as.all fun b => (heldRef δ b).isNone
    | none => refOne δ as
def refPos (δ : DS) : List Am → Option (Nat × Nat)
  | [] => none
  | a :: as => match heldRef δ a with
    | some i => some (0, i)
    | none => (refPos δ as).map fun q => (q.1 + 1, q.2)
def amSl (δ : DS) : Am → Sl
  | .fz d => .fz d
  | .ref i => match δ[i]? with
    | some s => toArg s
    | none => .no
def amKnown (δ : DS) : Am → Bool
  | .fz _ => true
  | .ref i => known i δ
def putBack (δ : DS) (ams : List Am) (δ' : DS) : DS := match refPos δ ams with
  | none => δ
  | some (j, i) => match δ[i]?, δ'[j]? with
    | some s, some (.arg c) => δ.set i (s.with c)
    | _, _ => δ
theorem heldRef_some {δ : DS} {a : Am} {i : Nat} (h : heldRef δ a = some i) : a = .ref i ∧ ∃ s, δ[i]? = some s ∧ s.held = true := by
  cases a with
  | fz d => cases h
  | ref j =>
    unfold heldRef at h
    simp only at h
    cases e : δ[j]? with
    | none => rw [e] at h; cases h
    | some s =>
      rw [e] at h
      simp only at h
      cases es : s.held with
      | false => rw [es] at h; cases h
      | true => rw [es] at h; cases h; exact ⟨rfl, s, e, es⟩
theorem refPos_some {δ : DS} : ∀ {ams : List Am} {j i : Nat}, refPos δ ams = some (j, i) → ∃ a, ams[j]? = some a ∧ heldRef δ a = some i
  | [], _, _, h => by cases h
  | a :: as, j, i, h => by
    unfold refPos at h
    cases e : heldRef δ a with
    | some m => rw [e] at h; cases h; exact ⟨a, rfl, e⟩
    | none =>
      rw [e] at h
      simp only at h
      cases e2 : refPos δ as with
      | none => rw [e2] at h; cases h
      | some q =>
        rw [e2] at h
        cases h
        obtain ⟨b, h1, h2⟩ := refPos_some (j := q.1) (i := q.2) e2
        exact ⟨b, by simpa using h1, h2⟩
theorem refPos_none {δ : DS} : ∀ {ams : List Am}, refPos δ ams = none → ∀ (j : Nat) (a : Am), ams[j]? = some a → heldRef δ a = none
  | [], _, _, _, h => by simp at h
  | a :: as, h, j, b, hb => by
    unfold refPos at h
    cases e : heldRef δ a with
    | some m => rw [e] at h; cases h
    | none =>
      rw [e] at h
      simp only at h
      have e2 : refPos δ as = none := by simpa using h
      cases j with
      | zero => simp at hb; subst hb; exact e
      | succ j => exact refPos_none e2 j b (by simpa using hb)
theorem refOne_at {δ : DS} : ∀ {ams : List Am} {j j' i i' : Nat} {a a' : Am}, refOne δ ams = true → ams[j]? = some a → ams[j']? = some a' → heldRef δ a = some i → heldRef δ a' = some i' → j = j'
  | [], _, _, _, _, _, _, _, h, _, _, _ => by simp at h
  | b :: as, j, j', i, i', a, a', h, h1, h2, h3, h4 => by
    unfold refOne at h
    cases e : heldRef δ b with
    | some m =>
      rw [e] at h
      have h : (as.all fun b => (heldRef δ b).isNone) = true := h
      cases j with
      | zero => cases j' with
        | zero => rfl
        | succ j' =>
          have := List.all_eq_true.mp h a' (List.mem_of_getElem? (by simpa using h2))
          rw [h4] at this
          cases this
      | succ j =>
        have := List.all_eq_true.mp h a (List.mem_of_getElem? (by simpa using h1))
        rw [h3] at this
        cases this
    | none =>
      rw [e] at h
      have h : refOne δ as = true := h
      cases j with
      | zero => simp at h1; subst h1; rw [e] at h3; cases h3
      | succ j => cases j' with
        | zero => simp at h2; subst h2; rw [e] at h4; cases h4
        | succ j' => exact congrArg (· + 1) (refOne_at (j := j) (j' := j') h (by simpa using h1) (by simpa using h2) h3 h4)
theorem amSl_arg {δ : DS} {a : Am} {c : Co} (h : amSl δ a = .arg c) : ∃ i s, a = .ref i ∧ heldRef δ a = some i ∧ δ[i]? = some s ∧ s.co = some c ∧ s.held = true := by
  cases a with
  | fz d => cases h
  | ref i =>
    unfold amSl at h
    simp only at h
    cases e : δ[i]? with
    | none => rw [e] at h; cases h
    | some s =>
      rw [e] at h
      simp only at h
      cases s with
      | own c' => cases h; exact ⟨i, _, rfl, by unfold heldRef; simp only; rw [e]; rfl, e, rfl, rfl⟩
      | arg c' => cases h; exact ⟨i, _, rfl, by unfold heldRef; simp only; rw [e]; rfl, e, rfl, rfl⟩
      | _ => cases h
section
variable {G : Ct} {δ : DS} {σ : L2.St} {F H F' H' : Hp} {vs : List V} {ams : List Am} {δ' : DS}
theorem am_at : ∀ {vs : List V} {as : List Am} {j : Nat} {a : Am}, Paired (fun v a => AmOk G σ F v a) vs as → as[j]? = some a → ∃ v, vs[j]? = some v ∧ AmOk G σ F v a
  | _, _, _, _, .nil, e => by simp at e
  | _, _, 0, _, .cons r _, e => by simp at e; subst e; exact ⟨_, rfl, r⟩
  | _, _, j + 1, _, .cons _ t, e => by
    obtain ⟨v, p, q⟩ := am_at (j := j) t (by simpa using e)
    exact ⟨v, by simpa using p, q⟩
theorem args_of (k : St1 G δ σ F H) (w : Paired (fun v a => AmOk G σ F v a) vs ams) (h1 : refOne δ ams = true) (h2 : ams.all (amKnown δ) = true) : ArgsOk G.K F H vs (ams.map (amSl δ)) where
  len := by rw [List.length_map]; exact Paired.length w
  here := fun j s e => by
    rw [List.getElem?_map] at e
    cases ea : ams[j]? with
    | none => rw [ea] at e; cases e
    | some a =>
      rw [ea] at e
      have es : amSl δ a = s := Option.some.inj e
      have ka := List.all_eq_true.mp h2 a (List.mem_of_getElem? ea)
      obtain ⟨v, ev, wv⟩ := am_at w ea
      refine ⟨v, ev, ?_⟩
      cases a with
      | fz d => subst es; exact wv
      | ref i =>
        have wv : σ[i]? = some (some v) := wv
        have ka : known i δ = true := ka
        unfold amSl at es
        simp only at es
        cases e1 : δ[i]? with
        | none => unfold known at ka; rw [e1] at ka; cases ka
        | some t =>
          rw [e1] at es
          subst es
          have z := k.sl i t e1
          cases t with
          | no => unfold known at ka; rw [e1] at ka; cases ka
          | fz d => obtain ⟨u, q1, q2⟩ := z; rw [wv] at q1; cases q1; exact q2
          | own c => obtain ⟨p, o, q1, q2, q3, q4, _⟩ := z; rw [wv] at q1; cases q1; exact ⟨p, o, rfl, q2, q3, q4⟩
          | arg c => obtain ⟨p, o, q1, q2, q3, q4, _⟩ := z; rw [wv] at q1; cases q1; exact ⟨p, o, rfl, q2, q3, q4⟩
  di := fun i j c d p hij e1 e2 r1 r2 => by
    rw [List.getElem?_map] at e1 e2
    cases ea : ams[i]? with
    | none => rw [ea] at e1; cases e1
    | some a => cases eb : ams[j]? with
      | none => rw [eb] at e2; cases e2
      | some b =>
        rw [ea] at e1
        rw [eb] at e2
        obtain ⟨m, _, _, hm, _⟩ := amSl_arg (Option.some.inj e1)
        obtain ⟨m', _, _, hm', _⟩ := amSl_arg (Option.some.inj e2)
        exact hij (refOne_at h1 ea eb hm hm')
/-- the state behind a call -/
theorem after_call (k : St1 G δ σ F H) (w : Paired (fun v a => AmOk G σ F v a) vs ams) (h1 : refOne δ ams = true) (h2 : ams.all (amKnown δ) = true) (P : PostOk G.K F H vs (ams.map (amSl δ)) δ' F' H') : St1 G (putBack δ ams δ') σ F' H' := by
  -- an argument's address is a held slot's
  have isArg : ∀ (j : Nat) (c : Co) (b : Addr), (ams.map (amSl δ))[j]? = some (.arg c) → vs[j]? = some (.ref b) → ∃ i s, refPos δ ams = some (j, i) ∧ δ[i]? = some s ∧ s.held = true ∧ s.co = some c ∧ σ[i]? = some (some (.ref b)) := fun j c b e1 e2 => by
    rw [List.getElem?_map] at e1
    cases ea : ams[j]? with
    | none => rw [ea] at e1; cases e1
    | some a =>
      rw [ea] at e1
      obtain ⟨i, s, rfl, q1, q2, q3, q4⟩ := amSl_arg (Option.some.inj e1)
      obtain ⟨v, ev, wv⟩ := am_at w ea
      rw [e2] at ev
      cases ev
      refine ⟨i, s, ?_, q2, q4, q3, wv⟩
      cases er : refPos δ ams with
      | none => have := refPos_none er j _ ea; rw [q1] at this; cases this
      | some q =>
        obtain ⟨j', i'⟩ := q
        obtain ⟨a', r1, r2⟩ := refPos_some er
        have := refOne_at h1 ea r1 q1 r2
        subst this
        rw [ea] at r1
        cases r1
        rw [q1] at r2
        cases r2
        rfl
  have base : ∀ (b : Addr) (o : HO), (∀ i j, refPos δ ams = some (j, i) → σ[i]? ≠ some (some (.ref b))) → H b = some o → H' b = some o := fun b o hb e => P.hh b o (fun j c e1 e2 => by
    obtain ⟨i, s, r, _, _, _, r2⟩ := isArg j c b e1 e2
    exact hb i j r r2) e
  have free : ∀ (b : Addr) (o : HO), H b = some o → F b = none → F' b = none := fun b o e f => by
    cases q : F' b with
    | none => rfl
    | some u =>
      rcases P.fn b (by rw [q]; simp) with z | z
      · exact absurd f z
      · rw [e] at z; cases z
  have keep : ∀ (m : Nat) (s : Sl), δ[m]? = some s → (∀ j, refPos δ ams ≠ some (j, m)) → SlOk G F' H' m σ[m]? s := fun m s e hm => by
    refine (k.sl m s e).mono P.ff fun b o g1 g2 g3 g4 => ⟨base b o (fun i j hr q => ?_) g2, free b o g2 g1⟩
    obtain ⟨a, r1, r2⟩ := refPos_some hr
    obtain ⟨_, t, t1, t2⟩ := heldRef_some r2
    by_cases hi : i = m
    · subst hi; exact hm j hr
    · exact k.di i m t s b hi t1 e t2 g3 q g4
  have h0' : ∀ b o, (∀ i, G.M i ≠ some b) → G.H0 b = some o → H' b = some o := fun b o hm e => base b o (fun i j hr q => by
    obtain ⟨a, r1, r2⟩ := refPos_some hr
    obtain ⟨_, t, t1, t2⟩ := heldRef_some r2
    have z := k.sl i t t1
    cases t with
    | own c => obtain ⟨p, o', a1, _, _, _, _, a2⟩ := z; rw [q] at a1; cases a1; rw [a2] at e; cases e
    | arg c => obtain ⟨p, o', a1, _, _, _, a2⟩ := z; rw [q] at a1; cases a1; exact hm i a2
    | _ => cases t2) (k.h0 b o hm e)
  have fn' : ∀ b, F' b ≠ none → G.F0 b ≠ none ∨ G.H0 b = none := fun b z => by
    rcases P.fn b z with q | q
    · exact k.fn b q
    · exact .inr (k.new0 q)
  unfold putBack
  cases er : refPos δ ams with
  | none => exact ⟨k.len, P.fh, k.f0.trans P.ff, h0', fn', fun m s e => keep m s e (fun j z => by rw [er] at z; cases z), k.di, k.ma⟩
  | some q =>
    obtain ⟨j, i⟩ := q
    obtain ⟨a, r1, r2⟩ := refPos_some er
    obtain ⟨rfl, s, s1, s2⟩ := heldRef_some r2
    obtain ⟨v, ev, wv⟩ := am_at w r1
    have wv : σ[i]? = some (some v) := wv
    obtain ⟨c, hc⟩ : ∃ c, s.co = some c := by cases s <;> first | exact ⟨_, rfl⟩ | cases s2
    obtain ⟨p, o, p1, p2, p3, p4⟩ := k.held s1 hc
    rw [wv] at p1
    cases p1
    have eas : (ams.map (amSl δ))[j]? = some (.arg c) := by
      rw [List.getElem?_map, r1]
      show some (amSl δ (.ref i)) = _
      unfold amSl
      simp only
      rw [s1]
      cases s <;> first | (cases hc; rfl) | cases s2
    obtain ⟨c', o', a1, a2, a3, a4⟩ := P.ar j c p eas ev
    simp only
    rw [s1, a1]
    simp only
    have sh : (s.with c').held = true := by cases s <;> first | rfl | cases s2
    obtain ⟨l1, l2⟩ := k.lt s1
    refine ⟨by simpa using k.len, P.fh, k.f0.trans P.ff, h0', fn', fun m t e => ?_, fun m m' t t' b hm e e' q q' r r' => ?_, fun m b e => ?_⟩
    · by_cases hm : m = i
      · subst hm
        rw [List.getElem?_set_self l1] at e
        cases e
        have z := k.sl m s s1
        cases s with
        | own c0 =>
          obtain ⟨p', o0, b1, b2, b3, b4, b5, b6⟩ := z
          rw [wv] at b1
          cases b1
          exact ⟨p, o', wv, a2, a3, a4, b5, b6⟩
        | arg c0 =>
          obtain ⟨p', o0, b1, b2, b3, b4, b5⟩ := z
          rw [wv] at b1
          cases b1
          exact ⟨p, o', wv, a2, a3, a4, b5⟩
        | _ => cases s2
      · rw [List.getElem?_set_ne (Ne.symm hm)] at e
        exact keep m t e fun j' z => by rw [er] at z; cases z; exact hm rfl
    · have bk : ∀ (m : Nat) (u : Sl), (δ.set i (s.with c'))[m]? = some u → u.held = true → ∃ u', δ[m]? = some u' ∧ u'.held = true := fun m u z zh => by
        by_cases hm : m = i
        · subst hm; exact ⟨s, s1, s2⟩
        · rw [List.getElem?_set_ne (Ne.symm hm)] at z; exact ⟨u, z, zh⟩
      obtain ⟨u, x1, x2⟩ := bk m t e q
      obtain ⟨u', y1, y2⟩ := bk m' t' e' q'
      exact k.di m m' u u' b hm x1 y1 x2 y2 r r'
    · obtain ⟨c0, hc0⟩ := k.ma m b e
      by_cases hm : m = i
      · subst hm
        rw [s1] at hc0
        cases hc0
        exact ⟨c', List.getElem?_set_self l1⟩
      · rw [List.getElem?_set_ne (Ne.symm hm)]
        exact ⟨c0, hc0⟩
theorem putBack_held {i : Nat} {s : Sl} (h : (putBack δ ams δ')[i]? = some s) (hs : s.held = true) : ∃ t, δ[i]? = some t ∧ t.held = true := by
  unfold putBack at h
  cases er : refPos δ ams with
  | none => rw [er] at h; exact ⟨s, h, hs⟩
  | some q =>
    obtain ⟨j, m⟩ := q
    obtain ⟨a, r1, r2⟩ := refPos_some er
    obtain ⟨rfl, t, s1, s2⟩ := heldRef_some r2
    rw [er] at h
    simp only at h
    rw [s1] at h
    by_cases hm : i = m
    · subst hm; exact ⟨t, s1, s2⟩
    · split at h
      · rw [List.getElem?_set_ne (Ne.symm hm)] at h; exact ⟨s, h, hs⟩
      · exact ⟨s, h, hs⟩
theorem ret_val (k : St1 G δ σ F H) {v : V} {r : Vl} (w : RetOk G.K F' H' H v r) : VlOk G (putBack δ ams δ') σ F' H' v r := by
  cases r with
  | fz d => exact w
  | loc i => exact w.elim
  | own c =>
    obtain ⟨p, o, rfl, h1, h2, h3, h4⟩ := w
    refine ⟨p, o, rfl, h2, h3, h4, k.new0 h1, fun i s e q => ?_⟩
    obtain ⟨t, t1, t2⟩ := putBack_held e q
    exact k.free h1 i t t1 t2
end
/-- a call: an error of it is no one's here -/
def callM (den : List Sl → R Vl) (δ : DS) (ams : List Am) : R Vl := match den (ams.map (amSl δ)) with
  | .ok r δ' => .ok r (putBack δ ams δ')
  | .ex c δ' => .ex c (putBack δ ams δ')
  | .bad => .bad
def dCall (den : List Sl → R Vl) (args : Da) : De := fun δ => (args δ).bind fun ams δ1 => okIf (refOne δ1 ams && ams.all (amKnown δ1)) (callM den δ1 ams)
section
variable {X : Cx} {C : Cf} {e a b c : Expr} {ta tb tc : De} {pos : Pos} {CX : CXT} {k : Nat} {f : Addr} {fd : FuncData} {ps : List Str} {x : Str}
theorem rf_call {den : List Sl → R Vl} {al : Da} {E : XK} (hE : ∀ (σ : L2.St) (c : Value) (H : Hp), C.E σ c none H → E c none H) : ∀ σ H Q, up C (dCall den al) σ H Q → tCall (dsp C.K den) [] E (upA C al) σ H Q := fun σ H Q ⟨G, δ, F, hC, k, h⟩ => by
  subst hC
  refine ⟨G, δ, F, rfl, k, finA_bind h fun ams δ1 vs F1 H1 k1 g1 w1 h1 => ?_⟩
  have w1 : Paired (fun v a => AmOk G σ F1 v a) vs ams := w1
  obtain ⟨z, h2⟩ := okIf_fin h1
  rw [Bool.and_eq_true] at z
  rw [List.append_nil]
  refine ⟨F1, ams.map (amSl δ1), k1.fh, args_of k1 w1 z.1 z.2, ?_⟩
  unfold callM at h2
  cases ed : den (ams.map (amSl δ1)) with
  | ok r δ' =>
    rw [ed] at h2
    exact fun v F' H' P w => h2 v F' H' (after_call k1 w1 z.1 z.2 P) P.ff (ret_val k1 w)
  | ex c δ' =>
    rw [ed] at h2
    exact fun F' H' P => hE σ c H' (h2 F' H' (after_call k1 w1 z.1 z.2 P) P.ff)
  | bad => rw [ed] at h2; exact h2.elim
/-- a call of a def that raises nothing -/
theorem pd_call {es : List Expr} {p : Pos} {den : List Sl → R Vl} {al : Da} (Fn : FnOk X.prog X.w X.K X.mg X.base CX0 k f fd ps (dsp C.K den)) (hr : Room k X.A) (hm : X.mg x = some (.ref f)) (hk : PySem.W.keepIn X.K (.ref f) = true) (hb : Binds X.K fd ps [])
    (ha : PA X (e :: es) (upA C al)) (hE : ∀ (σ : L2.St) (c : Value) (H : Hp), C.E σ c none H → False := by exact fun _ _ _ h => h) (hg : Gl X x := by rfl) (hdb : (x == ("__debug__" : Str)) = false := by decide) (he : starEach (e :: es) X.env = (false, eval e X.env) :: starEach es X.env := by rfl) (hpl : (backTo pos (starEach es X.env)).any (·.1) = false := by rfl) :
    PE X (.Call (.Name x p) (e :: es) [] pos) (up C (dCall den al)) := pe_weak (pe_call Fn hr hg hm hk hb .nil (pass0) ha hdb he hpl) (rf_call fun σ c H h => hE σ c H h)
end

/-! ### a def by its body -/
def retV (v : Vl) (δ : DS) : R Vl := match v with
  | .fz d => .ok (.fz d) δ
  | .own c => .ok (.own c) δ
  | .loc i => match δ[i]? with
    | some (.own c) => .ok (.own c) δ
    | some (.fz d) => .ok (.fz d) δ
    | _ => .bad
def endOf (r : R Out) : R Vl := match r with
  | .ok .nx δ => .ok (.fz .none) δ
  | .ok (.rt v) δ => retV v δ
  | .ex c δ => .ex c δ
  | _ => .bad
def isIn : Sl → Bool
  | .fz _ => true
  | .arg _ => true
  | _ => false
def runDef (np n : Nat) (sd : Ds) (as : List Sl) : R Vl := match as.length == np && as.all isIn with
  | true => endOf (sd (as ++ List.replicate (n - np) .no))
  | false => .bad
def argM (as : List Sl) (vs : List V) (i : Nat) : Option Addr := match as[i]?, vs[i]? with
  | some (.arg _), some (.ref p) => some p
  | _, _ => none
section
variable {K : PySem.W.Frag} {F H : Hp} {vs : List V} {as : List Sl} {n : Nat}
theorem argM_some {i : Nat} {p : Addr} (h : argM as vs i = some p) : ∃ c, as[i]? = some (.arg c) ∧ vs[i]? = some (.ref p) := by
  unfold argM at h
  cases e : as[i]? with
  | none => rw [e] at h; cases h
  | some s => rw [e] at h; cases s with
    | arg c => cases e2 : vs[i]? with
      | none => rw [e2] at h; cases h
      | some v => rw [e2] at h; cases v with
        | ref q => cases h; exact ⟨c, rfl, rfl⟩
        | _ => cases h
    | _ => cases h
theorem argM_of {i : Nat} {p : Addr} {c : Co} (h1 : as[i]? = some (.arg c)) (h2 : vs[i]? = some (.ref p)) : argM as vs i = some p := by
  unfold argM
  rw [h1, h2]
theorem start_at {i : Nat} (hi : i < vs.length) : (vs.map some ++ List.replicate n (none : Option V))[i]? = some vs[i]? := by
  rw [List.getElem?_append_left (by simpa using hi), List.getElem?_map, List.getElem?_eq_getElem hi]
  rfl
theorem begin_ok {C : Cf} (fh : Same F H) (w : ArgsOk C.K F H vs as) : St1 ⟨C, F, H, argM as vs⟩ (as ++ List.replicate n .no) (vs.map some ++ List.replicate n none) F H where
  len := by simp [w.len]
  fh := fh
  f0 := Same.refl F
  h0 := fun b o _ e => e
  fn := fun b z => .inl z
  sl := fun i s e => by
    by_cases hi : i < as.length
    · rw [List.getElem?_append_left hi] at e
      rw [start_at (by rw [w.len]; exact hi)]
      obtain ⟨v, ev, wv⟩ := w.here i s e
      rw [ev]
      cases s with
      | no => exact wv.elim
      | own c => exact wv.elim
      | fz d => exact ⟨v, rfl, wv⟩
      | arg c =>
        obtain ⟨p, o, rfl, h1, h2, h3⟩ := wv
        exact ⟨p, o, rfl, h1, h2, h3, argM_of e ev⟩
    · rw [List.getElem?_append_right (by omega)] at e
      have := List.mem_of_getElem? e
      rw [List.mem_replicate] at this
      rw [this.2]
      trivial
  di := fun i j s t p hij e1 e2 q1 q2 r1 r2 => by
    have get : ∀ (m : Nat) (u : Sl), (as ++ List.replicate n Sl.no)[m]? = some u → u.held = true → m < as.length ∧ ∃ c, as[m]? = some (.arg c) := fun m u e q => by
      by_cases hi : m < as.length
      · rw [List.getElem?_append_left hi] at e
        refine ⟨hi, ?_⟩
        obtain ⟨v, ev, wv⟩ := w.here m u e
        cases u with
        | arg c => exact ⟨c, e⟩
        | own c => exact wv.elim
        | no => cases q
        | fz d => cases q
      · rw [List.getElem?_append_right (by omega)] at e
        have := List.mem_of_getElem? e
        rw [List.mem_replicate] at this
        rw [this.2] at q
        cases q
    obtain ⟨l1, c1, a1⟩ := get i s e1 q1
    obtain ⟨l2, c2, a2⟩ := get j t e2 q2
    rw [start_at (by rw [w.len]; exact l1)] at r1
    rw [start_at (by rw [w.len]; exact l2)] at r2
    exact w.di i j c1 c2 p hij a1 a2 (Option.some.inj r1) (Option.some.inj r2)
  ma := fun i p e => by
    obtain ⟨c, h1, h2⟩ := argM_some e
    exact ⟨c, by rw [List.getElem?_append_left (List.getElem?_eq_some_iff.mp h1).1]; exact h1⟩
theorem post_of {C : Cf} {δ' : DS} {σ' : L2.St} {F' H' : Hp} (w : ArgsOk C.K F H vs as) (k : St1 ⟨C, F, H, argM as vs⟩ δ' σ' F' H') : PostOk C.K F H vs as δ' F' H' where
  ff := k.f0
  fh := k.fh
  hh := fun b o hb e => k.h0 b o (fun i z => by
    obtain ⟨c, h1, h2⟩ := argM_some z
    exact hb i c h1 h2) e
  fn := k.fn
  ar := fun i c p h1 h2 => by
    have em := argM_of h1 h2
    obtain ⟨c', hc'⟩ := k.ma i p em
    obtain ⟨q, o, q1, q2, q3, q4, q5⟩ := k.sl i _ hc'
    have q5 : argM as vs i = some q := q5
    rw [em] at q5
    cases q5
    exact ⟨c', o, hc', q2, q3, q4⟩
end
def noxC (K : PySem.W.Frag) : Cf := ⟨K, fun _ _ _ _ => False⟩
section
variable {P : Program} {w : World} {K : PySem.W.Frag} {mg : Str → Option Value} {base : Heap}
theorem ends_of {C : Cf} {np n : Nat} {sd : Ds} {vs : List V} {H : Hp} {Q : VK} {E : XK} {N : List Str} (hE : ∀ (σ : L2.St) (c : Value) (H : Hp), E c none H → C.E σ c none H) (hn : N.length = n) (h : dsp C.K (runDef np n sd) vs H Q E) : ups C sd { nx := fun _ H' => Q .non H', rt := Q } (start N vs) H := by
  obtain ⟨F, as, fh, wa, h⟩ := h
  unfold runDef at h
  cases el : as.length == np && as.all isIn with
  | false => rw [el] at h; exact h.elim
  | true =>
    rw [el] at h
    rw [Bool.and_eq_true] at el
    have el := eq_of_beq el.1
    subst el
    refine ⟨⟨C, F, H, argM as vs⟩, as ++ List.replicate (n - as.length) .no, F, rfl, ?_, ?_⟩
    · unfold L2.start
      rw [hn, wa.len]
      exact begin_ok fh wa
    · cases es : sd (as ++ List.replicate (n - as.length) .no) with
      | bad => rw [es] at h; exact h.elim
      | ex c δ' =>
        rw [es] at h
        exact fun σ' F' H' k _ => hE σ' c H' (h F' H' (post_of wa k))
      | ok o δ' =>
        rw [es] at h
        cases o with
        | nx => exact fun σ' F' H' k _ => h .non F' H' (post_of wa k) .non
        | bk => exact h.elim
        | ct => exact h.elim
        | rt r =>
          intro v σ' F' H' k _ wv
          have h : dspM C.K F as vs H Q E (retV r δ') := h
          cases r with
          | fz d => exact h v F' H' (post_of wa k) wv
          | own c =>
            obtain ⟨p, o, rfl, h1, h2, h3, h4, _⟩ := wv
            exact h (.ref p) F' H' (post_of wa k) ⟨p, o, rfl, h4, h1, h2, h3⟩
          | loc i =>
            have wv : σ'[i]? = some (some v) := wv
            unfold retV at h
            simp only at h
            cases ei : δ'[i]? with
            | none => rw [ei] at h; exact h.elim
            | some s =>
              rw [ei] at h
              have z := k.sl i s ei
              cases s with
              | no => exact h.elim
              | arg c => exact h.elim
              | fz d =>
                obtain ⟨u, q1, q2⟩ := z
                rw [wv] at q1
                cases q1
                exact h v F' H' (post_of wa k) q2
              | own c =>
                obtain ⟨p, o, q1, q2, q3, q4, q5, q6⟩ := z
                rw [wv] at q1
                cases q1
                exact h (.ref p) F' H' (post_of wa k) ⟨p, o, rfl, q6, q2, q3, q4⟩
theorem dsp_len {np n : Nat} {sd : Ds} {vs : List V} {H : Hp} {Q : VK} {E : XK} (h : dsp K (runDef np n sd) vs H Q E) : vs.length = np := by
  obtain ⟨F, as, fh, wa, h⟩ := h
  unfold runDef at h
  cases el : as.length == np && as.all isIn with
  | false => rw [el] at h; exact h.elim
  | true =>
    rw [Bool.and_eq_true] at el
    rw [wa.len]
    exact eq_of_beq el.1
/-- a def that raises nothing, by its body -/
theorem fn_d {x qual : Str} {st : Stmt} {f : Addr} {fd : FuncData} {N ps : List Str} {k : Nat} {sd : Ds} (Fu : Fun K x qual st f fd) (S : FnScope N ps (defScope st))
    (hb : ∀ (cdv : Value) (A : Around) (outer : List Env) (s : Shared) (H : Hp) (E : XK), Room k (A.deeper (envOfC qual (defScope st) s.heap.objs.size f cdv)) → PSs (cxOf CX0 P w K mg base N qual (defScope st) f cdv A outer s H E).nox (defBody st) (ups (noxC K) sd))
    (den : List Sl → R Vl) (hden : ∀ as : List Sl, den as ≠ .bad → (runDef ps.length N.length sd as) = den as ∧ (∀ c δ, den as ≠ .ex c δ)) : FnOk P w K mg base CX0 (k + 1) f fd ps (dsp K den) := by
  have conv : ∀ vs H Q E, dsp K den vs H Q E → dsp K (runDef ps.length N.length sd) vs H Q E0 := fun vs H Q E ⟨F, as, fh, wa, h⟩ => by
    have nb : den as ≠ .bad := fun z => by rw [z] at h; exact h
    obtain ⟨e, ne⟩ := hden as nb
    refine ⟨F, as, fh, wa, ?_⟩
    rw [e]
    cases ed : den as with
    | ok r δ => rw [ed] at h; exact h
    | ex c δ => exact absurd ed (ne c δ)
    | bad => exact absurd ed nb
  refine Fu.ok S (fun vs H Q E h => dsp_len (conv vs H Q E h)) fun cdv A outer s H vs Q E hr h => ⟨_, hb cdv A outer s H E hr, ?_⟩
  exact ends_of (C := noxC K) (fun _ _ _ z => z) rfl (conv vs H Q E h)
end
end DL

set_option Elab.async false
set_option linter.all false
set_option maxRecDepth 100000
set_option autoImplicit false
namespace DL
open PySem PySem.Spec PyProof.Rows L2
section
variable {X : Cx} {C : Cf} {e a b c : Expr} {ta tb tc : De} {pos : Pos}
/-! ### the operators, ready -/
theorem rfK_bin {r : PySem.W.Frag → R2} {f : D → D → Option Vl} {ta tb : De} (o : ∀ K, Op2 K (r K) f) (hK : C.K = X.K) : ∀ σ H Q, up C (dBin f ta tb) σ H Q → tOp (r X.K) (up C ta) (up C tb) σ H Q := by
  rw [← hK]
  exact rf_bin (o C.K)
theorem pd_add (ha : PE X a (up C ta)) (hb : PE X b (up C tb)) (hK : C.K = X.K := by rfl) : PE X (.BinOp a .Add b pos) (up C (dBin fAdd ta tb)) := pe_weak (pe_op op_addD ha hb) (rfK_bin (r := rAddD) (fun _ => o_add) hK)
theorem pd_sub (ha : PE X a (up C ta)) (hb : PE X b (up C tb)) : PE X (.BinOp a .Sub b pos) (up C (dBin fSub ta tb)) := pd_bin op_sub o_sub ha hb
theorem pd_mul (ha : PE X a (up C ta)) (hb : PE X b (up C tb)) : PE X (.BinOp a .Mult b pos) (up C (dBin fMul ta tb)) := pd_bin op_mulD o_mul ha hb
theorem pd_div (ha : PE X a (up C ta)) (hb : PE X b (up C tb)) : PE X (.BinOp a .FloorDiv b pos) (up C (dBin fDiv ta tb)) := pd_bin op_fdivW o_div ha hb
theorem pd_mod (ha : PE X a (up C ta)) (hb : PE X b (up C tb)) : PE X (.BinOp a .Mod b pos) (up C (dBin fMod ta tb)) := pd_bin op_mod o_mod ha hb
theorem pd_pow (ha : PE X a (up C ta)) (hb : PE X b (up C tb)) : PE X (.BinOp a .Pow b pos) (up C (dBin fPow ta tb)) := pd_bin op_pow o_pow ha hb
theorem pd_neg (ha : PE X a (up C ta)) : PE X (.UnaryOp .USub a pos) (up C (dUn fNeg ta)) := pe_weak (pe_un un_neg ha) (rf_un o_neg)
def rLeD : R2 := fun x y H Q => rI0 (fun i j => .bl (decide (i ≤ j))) x y H Q ∨ (∃ i j, x = .str i ∧ y = .str j ∧ Q (.bl (!decide (j.cps.toList < i.cps.toList))) H)
theorem op_leD : OpR X (compareOp .LtE) rLeD := op_le.or op_le_str
theorem o_le {K : PySem.W.Frag} : Op2 K rLeD fLe := by
  intro G δ σ F H x y d e z Q hK k hx hy ez q
  subst hK
  cases d with
  | int i =>
    have hx := hx.int
    subst hx
    cases e with
    | int j =>
      have hy := hy.int
      subst hy
      cases ez
      exact .inl ⟨i, j, rfl, rfl, q.fz k (.bl _)⟩
    | _ => cases ez
  | str i =>
    have hx := hx.str
    subst hx
    cases e with
    | str j =>
      have hy := hy.str
      subst hy
      cases ez
      exact .inr ⟨i, j, rfl, rfl, q.fz k (.bl _)⟩
    | _ => cases ez
  | _ => cases e <;> cases ez
theorem pd_lt (ha : PE X a (up C ta)) (hb : PE X b (up C tb)) : PE X (.Compare a [.Lt] [b] pos) (up C (dBin fLtI ta tb)) := pd_cmp op_lt o_cmpI ha hb (nomark _)
theorem pd_gt (ha : PE X a (up C ta)) (hb : PE X b (up C tb)) : PE X (.Compare a [.Gt] [b] pos) (up C (dBin fGt ta tb)) := pd_cmp op_gt o_cmpI ha hb (nomark _)
theorem pd_ge (ha : PE X a (up C ta)) (hb : PE X b (up C tb)) : PE X (.Compare a [.GtE] [b] pos) (up C (dBin fGe ta tb)) := pd_cmp op_ge o_cmpI ha hb (nomark _)
theorem pd_le (ha : PE X a (up C ta)) (hb : PE X b (up C tb)) : PE X (.Compare a [.LtE] [b] pos) (up C (dBin fLe ta tb)) := pd_cmp op_leD o_le ha hb (nomark _)
theorem pd_eq (hu : X.A.units + 64 < cLine) (ha : PE X a (up C ta)) (hb : PE X b (up C tb)) (hK : C.K = X.K := by rfl) : PE X (.Compare a [.Eq] [b] pos) (up C (dBin fEq ta tb)) := pe_weak (pe_cmpR (op_eqD hu) ha hb (nomark _)) (rfK_bin (r := rEqD) (fun _ => o_eq) hK)
theorem pd_ne (hu : X.A.units + 64 < cLine) (ha : PE X a (up C ta)) (hb : PE X b (up C tb)) (hK : C.K = X.K := by rfl) : PE X (.Compare a [.NotEq] [b] pos) (up C (dBin fNe ta tb)) := pe_weak (pe_cmpR (op_neD hu) ha hb (nomark _)) (rfK_bin (r := rNeD) (fun _ => o_ne) hK)
theorem pd_isN (ha : PE X a (up C ta)) (hb : PE X b (up C tb)) : PE X (.Compare a [.Is] [b] pos) (up C (dBin fIsN ta tb)) := pd_cmp op_isN o_isN ha hb (nomark _)
theorem pd_notN (ha : PE X a (up C ta)) (hb : PE X b (up C tb)) : PE X (.Compare a [.IsNot] [b] pos) (up C (dBin fNotN ta tb)) := pd_cmp op_notN o_notN ha hb (nomark _)
theorem ptd_lt (ha : PE X a (up C ta)) (hb : PE X b (up C tb)) : PT X (.Compare a [.Lt] [b] pos) (upT C (dTest (dBin fLtI ta tb))) := pdt_cmp op_lt o_cmpI ha hb (nomark _)
theorem ptd_gt (ha : PE X a (up C ta)) (hb : PE X b (up C tb)) : PT X (.Compare a [.Gt] [b] pos) (upT C (dTest (dBin fGt ta tb))) := pdt_cmp op_gt o_cmpI ha hb (nomark _)
theorem ptd_ge (ha : PE X a (up C ta)) (hb : PE X b (up C tb)) : PT X (.Compare a [.GtE] [b] pos) (upT C (dTest (dBin fGe ta tb))) := pdt_cmp op_ge o_cmpI ha hb (nomark _)
theorem ptd_le (ha : PE X a (up C ta)) (hb : PE X b (up C tb)) : PT X (.Compare a [.LtE] [b] pos) (upT C (dTest (dBin fLe ta tb))) := pdt_cmp op_leD o_le ha hb (nomark _)
theorem ptd_eq (hu : X.A.units + 64 < cLine) (ha : PE X a (up C ta)) (hb : PE X b (up C tb)) (hK : C.K = X.K := by rfl) : PT X (.Compare a [.Eq] [b] pos) (upT C (dTest (dBin fEq ta tb))) := pt_weak (pt_cmpR (op_eqD hu) ha hb (nomark _)) (rf_test (rfK_bin (r := rEqD) (fun _ => o_eq) hK))
theorem ptd_ne (hu : X.A.units + 64 < cLine) (ha : PE X a (up C ta)) (hb : PE X b (up C tb)) (hK : C.K = X.K := by rfl) : PT X (.Compare a [.NotEq] [b] pos) (upT C (dTest (dBin fNe ta tb))) := pt_weak (pt_cmpR (op_neD hu) ha hb (nomark _)) (rf_test (rfK_bin (r := rNeD) (fun _ => o_ne) hK))
theorem ptd_isN (ha : PE X a (up C ta)) (hb : PE X b (up C tb)) : PT X (.Compare a [.Is] [b] pos) (upT C (dTest (dBin fIsN ta tb))) := pdt_cmp op_isN o_isN ha hb (nomark _)
theorem ptd_notN (ha : PE X a (up C ta)) (hb : PE X b (up C tb)) : PT X (.Compare a [.IsNot] [b] pos) (upT C (dTest (dBin fNotN ta tb))) := pdt_cmp op_notN o_notN ha hb (nomark _)
/-- a chain of two -/
theorem pd_chain {op op' : CmpOp} {r r' : R2} {f g : D → D → Option Vl} (ho : OpR X (compareOp op) r) (o : Op2 C.K r f) (ho' : OpR X (compareOp op') r') (o' : Op2 C.K r' g) (ha : PE X a (up C ta)) (hb : PE X b (up C tb)) (hc : PE X c (up C tc))
    (hp : ∀ (ta tb tc : TE), PE X a ta → PE X b tb → PE X c tc → PE X (.Compare a [op, op'] [b, c] pos) (tChain r r' ta tb tc)) : PE X (.Compare a [op, op'] [b, c] pos) (up C (dChain f g ta tb tc)) := pe_weak (hp _ _ _ ha hb hc) (rf_chain o o')

/-! ### built-ins of one thing, of two -/
def B1 (K : PySem.W.Frag) (r : List V → Hp → VK → Prop) (f : D → Option Vl) : Prop := ∀ (G : Ct) (δ : DS) (σ : L2.St) (F H : Hp) (x : V) (d : D) (z : Vl) (Q : VK), G.K = K → St1 G δ σ F H → Vw K F H x d → f d = some z → Res G δ σ F H z Q → r [x] H Q
def B2 (K : PySem.W.Frag) (r : List V → Hp → VK → Prop) (f : D → D → Option Vl) : Prop := ∀ (G : Ct) (δ : DS) (σ : L2.St) (F H : Hp) (x y : V) (d e : D) (z : Vl) (Q : VK), G.K = K → St1 G δ σ F H → Vw K F H x d → Vw K F H y e → f d e = some z → Res G δ σ F H z Q → r [x, y] H Q
theorem rf_b1 {r : List V → Hp → VK → Prop} {f : D → Option Vl} (o : B1 C.K r f) : ∀ σ H Q, up C (dUn f ta) σ H Q → tCB r (tCons (up C ta) tNil) σ H Q := fun σ H Q ⟨G, δ, F, hC, k, h⟩ => by
  subst hC
  refine ⟨G, δ, F, rfl, k, finA_bind h fun x δ1 v F1 H1 k1 g1 w1 h1 => ?_⟩
  obtain ⟨F2, k2, g2, w2⟩ := k1.freeze w1
  obtain ⟨d, z, e1, e3, q⟩ := lift1_fin (finA_mono h1 g2)
  exact o G δ1 σ F2 H1 v d z Q rfl k2 (k2.view w2 e1) e3 (q H1)
theorem rf_b2 {r : List V → Hp → VK → Prop} {f : D → D → Option Vl} (o : B2 C.K r f) : ∀ σ H Q, up C (dBin f ta tb) σ H Q → tCB r (tCons (up C ta) (tCons (up C tb) tNil)) σ H Q := fun σ H Q ⟨G, δ, F, hC, k, h⟩ => by
  subst hC
  refine ⟨G, δ, F, rfl, k, finA_bind h fun x δ1 v F1 H1 k1 g1 w1 h1 => ?_⟩
  obtain ⟨F2, k2, g2, w2⟩ := k1.freeze w1
  refine ⟨G, δ1, F2, rfl, k2, finA_bind (finA_mono h1 g2) fun y δ2 u F3 H3 k3 g3 w3 h3 => ?_⟩
  obtain ⟨F4, k4, g4, w4⟩ := k3.freeze w3
  obtain ⟨d, e, z, e1, e2, e3, q⟩ := lift2_fin (finA_mono h3 g4)
  have w2' : VlOk G δ2 σ F4 H3 v (fzT x) := w2.keep (fzT_stays e1) (g3.trans g4)
  exact o G δ2 σ F4 H3 v u d e z Q rfl k4 (k4.view w2' e1) (k4.view w4 e2) e3 (q H3)
def fLen : D → Option Vl
  | .list ds => some (.fz (.int ds.length))
  | .tuple ds => some (.fz (.int ds.length))
  | .dict [(.none, .list ds)] => some (.fz (.int ds.length))
  | .str z => okO (small z.length) (some (.fz (.int z.length)))
  | _ => none
def rLen (K : PySem.W.Frag) : List V → Hp → VK → Prop := fun xs H Q => ∃ x n, xs = [x] ∧ LenV K x H n ∧ Q (.int n) H
theorem b_len {K : PySem.W.Frag} : B1 K (rLen K) fLen := by
  intro G δ σ F H x d z Q hK k hx ez q
  subst hK
  cases d with
  | list ds =>
    obtain ⟨p, vs, rfl, h1, h2⟩ := hx.list k.fh
    cases ez
    rw [← dpa_len h2] at q
    exact ⟨_, _, rfl, .inl ⟨vs, SqL.of h1, rfl⟩, q.fz k (.int _)⟩
  | tuple ds =>
    obtain ⟨p, vs, rfl, h1, h2⟩ := hx.tup
    cases ez
    rw [← dpa_len h2] at q
    exact ⟨_, _, rfl, .inr ⟨vs, SqT.of (k.fh _ _ h1), rfl⟩, q.fz k (.int _)⟩
  | str y =>
    have hx := hx.str
    subst hx
    obtain ⟨e1, e2⟩ := okO_some ez
    cases e2
    exact ⟨_, _, rfl, ⟨small_line e1, rfl⟩, q.fz k (.int _)⟩
  | dict kvs =>
    obtain ⟨p, ns, rfl, rfl, h1⟩ := hx.scr fun ks ds z => by subst z; cases ez
    cases ez
    refine ⟨_, _, rfl, .inl ⟨_, same_l k.fh h1, rfl⟩, ?_⟩
    rw [List.length_map] at q ⊢
    exact q.fz k (.int _)
  | _ => cases ez
theorem pd_len {p : Pos} (hm : X.mg "len" = none) (ha : PE X e (up C ta)) (hK : C.K = X.K := by rfl) (hcall : ∀ (r : List V → Hp → VK → Prop) (te : TE), X.mg "len" = none → CallR X (.builtin "len") r → PE X e te → PE X (.Call (.Name "len" p) [e] [] pos) (tCB r (tCons te tNil)) := by exact fun _ _ hm0 h1 h2 => pe_callB h1 (by rfl) hm0 (by decide +kernel) (pa_cons h2 pa_nil)) :
    PE X (.Call (.Name "len" p) [e] [] pos) (up C (dUn fLen ta)) := pe_weak (hcall _ _ hm call_len ha) (by rw [← hK]; exact rf_b1 b_len)
/-- int(n), int(flag) -/
def fInt : D → Option Vl
  | .int i => some (.fz (.int i))
  | .bool b => some (.fz (.int (if b then 1 else 0)))
  | _ => none
def rInt : List V → Hp → VK → Prop := fun xs H Q => (∃ i, xs = [.int i] ∧ Q (.int i) H) ∨ ∃ k, xs = [.bl k] ∧ Q (.int (if k then 1 else 0)) H
theorem b_int {K : PySem.W.Frag} : B1 K rInt fInt := by
  intro G δ σ F H x d z Q hK k hx ez q
  subst hK
  cases d with
  | int i =>
    have hx := hx.int
    subst hx
    cases ez
    exact .inl ⟨i, rfl, q.fz k (.int _)⟩
  | bool i =>
    have hx := hx.bl
    subst hx
    cases ez
    exact .inr ⟨i, rfl, q.fz k (.int _)⟩
  | _ => cases ez
theorem pd_int1 {p : Pos} (hm : X.mg "int" = none) (ha : PE X e (up C ta)) (hcall : ∀ (r : List V → Hp → VK → Prop) (te : TE), X.mg "int" = none → CallR X (.type "int") r → PE X e te → PE X (.Call (.Name "int" p) [e] [] pos) (tCB r (tCons te tNil)) := by exact fun _ _ hm0 h1 h2 => pe_callTy h1 (by rfl) hm0 (by decide +kernel) (pa_cons h2 pa_nil)) :
    PE X (.Call (.Name "int" p) [e] [] pos) (up C (dUn fInt ta)) := pe_weak (hcall _ _ hm call_int1 ha) (rf_b1 b_int)
/-- list(..), tuple(..) -/
def fList : D → Option Vl
  | .list ds => some (.own (.lst ds))
  | .tuple ds => some (.own (.lst ds))
  | .dict [(.none, .list ds)] => some (.own (.lst ds))
  | _ => none
def rList (K : PySem.W.Frag) : List V → Hp → VK → Prop := fun xs H Q => ∃ p ys, xs = [.ref p] ∧ (SqL K H p ys ∨ SqT K H p ys) ∧ ∀ l, H l = none → Q (.ref l) (upd H l (.lst ys))
theorem b_list {K : PySem.W.Frag} : B1 K (rList K) fList := by
  intro G δ σ F H x d z Q hK k hx ez q
  subst hK
  cases d with
  | list ds =>
    obtain ⟨p, vs, rfl, h1, h2⟩ := hx.list k.fh
    cases ez
    exact ⟨_, _, rfl, .inl (SqL.of h1), q.newL k h2⟩
  | tuple ds =>
    obtain ⟨p, vs, rfl, h1, h2⟩ := hx.tup
    cases ez
    exact ⟨_, _, rfl, .inr (SqT.of (k.fh _ _ h1)), q.newL k h2⟩
  | dict kvs =>
    obtain ⟨p, ns, rfl, rfl, h1⟩ := hx.scr fun ks ds z => by subst z; cases ez
    cases ez
    exact ⟨_, _, rfl, .inl (same_l k.fh h1), q.newL k (dpa_ints ns)⟩
  | _ => cases ez
theorem pd_list {p : Pos} (hm : X.mg "list" = none) (ha : PE X e (up C ta)) (hK : C.K = X.K := by rfl) (hcall : ∀ (r : List V → Hp → VK → Prop) (te : TE), X.mg "list" = none → CallR X (.type "list") r → PE X e te → PE X (.Call (.Name "list" p) [e] [] pos) (tCB r (tCons te tNil)) := by exact fun _ _ hm0 h1 h2 => pe_callTy h1 (by rfl) hm0 (by decide +kernel) (pa_cons h2 pa_nil)) :
    PE X (.Call (.Name "list" p) [e] [] pos) (up C (dUn fList ta)) := pe_weak (hcall _ _ hm call_list_of ha) (by rw [← hK]; exact rf_b1 b_list)
def fTuple : D → Option Vl
  | .list ds => some (.fz (.tuple ds))
  | .tuple ds => some (.fz (.tuple ds))
  | _ => none
def rTuple (K : PySem.W.Frag) : List V → Hp → VK → Prop := fun xs H Q => ∃ p ys, xs = [.ref p] ∧ ((SqL K H p ys ∧ ∀ l, H l = none → Q (.ref l) (upd H l (.tup ys))) ∨ (SqT K H p ys ∧ Q (.ref p) H))
theorem b_tuple {K : PySem.W.Frag} : B1 K (rTuple K) fTuple := by
  intro G δ σ F H x d z Q hK k hx ez q
  subst hK
  cases d with
  | list ds =>
    obtain ⟨p, vs, rfl, h1, h2⟩ := hx.list k.fh
    cases ez
    exact ⟨_, _, rfl, .inl ⟨SqL.of h1, q.newT k h2⟩⟩
  | tuple ds =>
    obtain ⟨p, vs, rfl, h1, h2⟩ := hx.tup
    cases ez
    exact ⟨_, _, rfl, .inr ⟨SqT.of (k.fh _ _ h1), q.fz k (.tup h1 h2)⟩⟩
  | _ => cases ez
theorem pd_tuple {p : Pos} (hm : X.mg "tuple" = none) (ha : PE X e (up C ta)) (hK : C.K = X.K := by rfl) (hcall : ∀ (r : List V → Hp → VK → Prop) (te : TE), X.mg "tuple" = none → CallR X (.type "tuple") r → PE X e te → PE X (.Call (.Name "tuple" p) [e] [] pos) (tCB r (tCons te tNil)) := by exact fun _ _ hm0 h1 h2 => pe_callTy h1 (by rfl) hm0 (by decide +kernel) (pa_cons h2 pa_nil)) :
    PE X (.Call (.Name "tuple" p) [e] [] pos) (up C (dUn fTuple ta)) := pe_weak (hcall _ _ hm call_tuple_of ha) (by rw [← hK]; exact rf_b1 b_tuple)
/-- max, min of two ints -/
def fMax2 : D → D → Option Vl
  | .int i, .int j => some (.fz (.int (if j > i then j else i)))
  | _, _ => none
def fMin2 : D → D → Option Vl
  | .int i, .int j => some (.fz (.int (if j < i then j else i)))
  | _, _ => none
def rMax2 : List V → Hp → VK → Prop := fun xs H Q => ∃ i j, xs = [.int i, .int j] ∧ Q (.int (if j > i then j else i)) H
def rMin2 : List V → Hp → VK → Prop := fun xs H Q => ∃ i j, xs = [.int i, .int j] ∧ Q (.int (if j < i then j else i)) H
theorem b_max2 {K : PySem.W.Frag} : B2 K rMax2 fMax2 := by
  intro G δ σ F H x y d e z Q hK k hx hy ez q
  subst hK
  cases d with
  | int i => cases e with
    | int j =>
      have hx := hx.int
      have hy := hy.int
      subst hx hy
      cases ez
      exact ⟨i, j, rfl, q.fz k (.int _)⟩
    | _ => cases ez
  | _ => cases e <;> cases ez
theorem b_min2 {K : PySem.W.Frag} : B2 K rMin2 fMin2 := by
  intro G δ σ F H x y d e z Q hK k hx hy ez q
  subst hK
  cases d with
  | int i => cases e with
    | int j =>
      have hx := hx.int
      have hy := hy.int
      subst hx hy
      cases ez
      exact ⟨i, j, rfl, q.fz k (.int _)⟩
    | _ => cases ez
  | _ => cases e <;> cases ez
theorem pd_max2 {p : Pos} (hm : X.mg "max" = none) (ha : PE X a (up C ta)) (hb : PE X b (up C tb)) (hc : X.calm = true := by rfl) (hcall : ∀ (r : List V → Hp → VK → Prop) (te te' : TE), X.mg "max" = none → CallR X (.builtin "max") r → PE X a te → PE X b te' → PE X (.Call (.Name "max" p) [a, b] [] pos) (tCB r (tCons te (tCons te' tNil))) := by exact fun _ _ _ hm0 h1 h2 h3 => pe_callB h1 (by rfl) hm0 (by decide +kernel) (pa_cons h2 (pa_cons h3 pa_nil))) :
    PE X (.Call (.Name "max" p) [a, b] [] pos) (up C (dBin fMax2 ta tb)) := pe_weak (hcall _ _ _ hm (call_max2 hc) ha hb) (rf_b2 b_max2)
theorem pd_min2 {p : Pos} (hm : X.mg "min" = none) (ha : PE X a (up C ta)) (hb : PE X b (up C tb)) (hc : X.calm = true := by rfl) (hcall : ∀ (r : List V → Hp → VK → Prop) (te te' : TE), X.mg "min" = none → CallR X (.builtin "min") r → PE X a te → PE X b te' → PE X (.Call (.Name "min" p) [a, b] [] pos) (tCB r (tCons te (tCons te' tNil))) := by exact fun _ _ _ hm0 h1 h2 h3 => pe_callB h1 (by rfl) hm0 (by decide +kernel) (pa_cons h2 (pa_cons h3 pa_nil))) :
    PE X (.Call (.Name "min" p) [a, b] [] pos) (up C (dBin fMin2 ta tb)) := pe_weak (hcall _ _ _ hm (call_min2 hc) ha hb) (rf_b2 b_min2)

/-! ### isinstance of built-in kinds -/
def tyD : D → String
  | .none => "NoneType" | .bool _ => "bool" | .int _ => "int" | .str _ => "str" | .list _ => "list" | .tuple _ => "tuple" | .dict [(.bool true, _), _] => "dict" | .dict _ => "list"
def isTS (t T : String) : Bool := t == T || (t == "bool" && T == "int")
def isT (d : D) (T : String) : Bool := isTS (tyD d) T
theorem kitAll : ∀ t ∈ ["NoneType", "bool", "int", "str", "list", "tuple", "dict"], ∀ T ∈ ["int", "bool", "str", "list", "tuple"], kitB t T = some (isTS t T) := by decide +kernel
theorem ty_of {K : PySem.W.Frag} {F H : Hp} {v : V} {d : D} (h : Vw K F H v d) (fh : Same F H) : TyX K H v (.type (tyD d)) := by
  rcases h with h | ⟨p, vs, ds, rfl, rfl, h1, h2⟩
  · cases h with
    | non => exact .base .non
    | bl b => exact .base (.bl b)
    | int i => exact .base (.int i)
    | str x => exact .base (.str x)
    | lst a b =>
      exact .base (.lst (fh _ _ a))
    | tup a b =>
      exact .base (.tup (fh _ _ a))
    | dct a b => exact .fDict (fh _ _ a)
    | scr a =>
      rcases same_l fh a with (q | ⟨o, q⟩) | ⟨o, its, n, hk, hc, _⟩
      · exact .base (.lst q)
      · exact .base (.frz q)
      · exact .kList hk hc
  · exact .base (.lst h1)
def okTy (T : String) : Bool := T == "int" || T == "bool" || T == "str" || T == "list" || T == "tuple"
theorem kit_d {K : PySem.W.Frag} (d : D) {T : String} (h : okTy T = true) : PySem.W.kitOne K (.type (tyD d)) (.type T) = some (isT d T) := by
  have hT : T ∈ ["int", "bool", "str", "list", "tuple"] := by
    unfold okTy at h
    simp only [Bool.or_eq_true, beq_iff_eq] at h
    rcases h with (((h | h) | h) | h) | h <;> simp [h]
  exact kit_ty (kitAll _ (by unfold tyD; split <;> simp) _ hT)
def fIsi (T : String) (d : D) : Option Vl := some (.fz (.bool (isT d T)))
def fIsiT (Ts : List String) (d : D) : Option Vl := some (.fz (.bool (Ts.any (isT d))))
def rIsi1 (K : PySem.W.Frag) (T : String) : V → Hp → VK → Prop := fun x H Q => rIsi K [x, .ty T] H Q
theorem o_isi {K : PySem.W.Frag} {T : String} (hT : okTy T = true) : Op1 K (rIsi1 K T) (fIsi T) := by
  intro G δ σ F H x d z Q hK k hx ez q
  subst hK
  cases ez
  exact ⟨x, .ty T, _, _, _, rfl, .ty T, ty_of hx k.fh, kit_d d hT, q.fz k (.bl _)⟩
/-- isinstance(x, T) -/
theorem pd_isi {T : Str} {U : String} {p p2 : Pos} (hm : X.mg "isinstance" = none) (hmT : X.mg T = none) (ha : PE X e (up C ta)) (hT : bootBuiltins T = some (.type U) := by decide +kernel) (hU : okTy U = true := by rfl) (hK : C.K = X.K := by rfl)
    (hcall : ∀ (r : List V → Hp → VK → Prop) (te : TE), X.mg "isinstance" = none → X.mg T = none → bootBuiltins T = some (.type U) → CallR X (.builtin "isinstance") r → PE X e te → PE X (.Call (.Name "isinstance" p) [e, .Name T p2] [] pos) (tCB r (tCons te (tCons (tC (.ty U)) tNil))) := by exact fun _ _ hm0 hm1 hm2 h1 h2 => pe_callB h1 (by rfl) hm0 (by decide +kernel) (pa_cons h2 (pa_cons (pe_bltn (by rfl) hm1 hm2 rfl) pa_nil))) :
    PE X (.Call (.Name "isinstance" p) [e, .Name T p2] [] pos) (up C (dUn (fIsi U) ta)) := pe_weak (hcall _ _ hm hmT hT call_isi ha) (fun σ H Q h => by
      rw [← hK]
      exact rf_un (o_isi hU) σ H Q h)
theorem kit_any {K : PySem.W.Frag} (d : D) : ∀ {Ts : List String}, Ts.all okTy = true → PySem.W.kitAny K (.type (tyD d)) (Ts.map Value.type) = some (Ts.any (isT d))
  | [], _ => kitAny_nil
  | T :: Ts, h => by
    have h : (okTy T && Ts.all okTy) = true := h
    rw [Bool.and_eq_true] at h
    refine kitAny_cons (kit_d d h.1) (fun e => ?_) fun e => ?_
    · rw [kit_any d h.2]
      show _ = some (isT d T || Ts.any (isT d))
      rw [e]
      rfl
    · show (isT d T || Ts.any (isT d)) = true
      rw [e]
      rfl
theorem cls_all : ∀ Ts : List String, Paired ClsV (Ts.map V.ty) (Ts.map Value.type)
  | [] => .nil
  | T :: Ts => .cons (.ty T) (cls_all Ts)
/-- isinstance(x, (T1, T2)) -/
def tTys (Ts : List String) : TE := fun _ H Q => ∀ p, H p = none → Q (.ref p) (upd H p (.tup (Ts.map V.ty)))
theorem rf_isiT {Ts : List String} (hT : Ts.all okTy = true) : ∀ σ H Q, up C (dUn (fIsiT Ts) ta) σ H Q → tCB (rIsiT C.K) (tCons (up C ta) (tCons (tTys Ts) tNil)) σ H Q := fun σ H Q ⟨G, δ, F, hC, k, h⟩ => by
  subst hC
  refine ⟨G, δ, F, rfl, k, finA_bind h fun x δ1 v F1 H1 k1 g1 w1 h1 => ?_⟩
  obtain ⟨F2, k2, g2, w2⟩ := k1.freeze w1
  obtain ⟨d, z, e1, e3, q⟩ := lift1_fin (finA_mono h1 g2)
  cases e3
  intro p hp
  have k3 := k2.newOwn (o := .tup (Ts.map V.ty)) hp
  have hx := k2.view w2 e1
  have hx' : Vw G.K F2 (upd H1 p (.tup (Ts.map V.ty))) v d := hx.mono (Same.refl F2) fun p' vs _ e => by rw [upd_ne (ne_of_none e hp)]; exact e
  exact ⟨v, p, _, _, _, _, rfl, upd_same, cls_all Ts, ty_of hx' k3.fh, kit_any d hT, Res.fz (q _) k3 (.bl _)⟩
theorem pd_isiT {Ts : List String} {es : Expr} {p : Pos} (hm : X.mg "isinstance" = none) (ha : PE X e (up C ta)) (ht : PE X es (tTys Ts)) (hU : Ts.all okTy = true := by rfl) (hK : C.K = X.K := by rfl)
    (hcall : ∀ (r : List V → Hp → VK → Prop) (te tt : TE), X.mg "isinstance" = none → CallR X (.builtin "isinstance") r → PE X e te → PE X es tt → PE X (.Call (.Name "isinstance" p) [e, es] [] pos) (tCB r (tCons te (tCons tt tNil))) := by exact fun _ _ _ hm0 h1 h2 h3 => pe_callB h1 (by rfl) hm0 (by decide +kernel) (pa_cons h2 (pa_cons h3 pa_nil))) :
    PE X (.Call (.Name "isinstance" p) [e, es] [] pos) (up C (dUn (fIsiT Ts) ta)) := pe_weak (hcall _ _ _ hm call_isiT ha ht) (by rw [← hK]; exact rf_isiT hU)
theorem pe_tys2 {T1 T2 : Str} {U1 U2 : String} {p1 p2 : Pos} {x1 : Nat} (h1 : X.mg T1 = none) (h2 : X.mg T2 = none) (hT1 : bootBuiltins T1 = some (.type U1) := by decide +kernel) (hT2 : bootBuiltins T2 = some (.type U2) := by decide +kernel)
    (hp : X.mg T1 = none → X.mg T2 = none → bootBuiltins T1 = some (.type U1) → bootBuiltins T2 = some (.type U2) → PA X [.Name T1 p1, .Name T2 p2] (tCons (tC (.ty U1)) (tCons (tC (.ty U2)) tNil)) := by exact fun a1 a2 a3 a4 => pa_cons (pe_bltn (by rfl) a1 a3 rfl) (pa_cons (pe_bltn (by rfl) a2 a4 rfl) pa_nil)) :
    PE X (.Tuple [.Name T1 p1, .Name T2 p2] x1 pos) (tTys [U1, U2]) := pe_weak (pe_tup (hp h1 h2 hT1 hT2)) fun σ H Q h => ⟨by show 2 ≤ sizeLine; decide, h⟩
end
end DL

set_option Elab.async false
set_option linter.all false
set_option maxRecDepth 100000
set_option autoImplicit false
namespace DL
open PySem PySem.Spec PyProof.Rows L2
set_option maxHeartbeats 1000000 in
theorem meets_enum1 {v : Value} {o : Obj} {H : Heap → Prop} (B : Begins v o H) :
    Meets (Builtin.«enumerate.__new__» ⟨[.type "enumerate", v], []⟩) (fun _ R s => H s.heap ∧
      R (.ok (.ret (.ref (s.heap.push o).objs.size))) { s with heap := (s.heap.push o).push { cls := .type "enumerate", data := .fields #[.none, .bool false, .ref s.heap.objs.size, rawInt 0, .none, .none] } }) :=
  .of_wp fun prog w A R s h => by
    obtain ⟨hp, g, d, tk, os⟩ := s; obtain ⟨h1, h⟩ := h
    have hsub := sub_enumerate
    have q1 : ∀ {A' : Around} {E : Value → Shared → Prop} {Q : Value → Shared → Prop}, Q (.ref hp.objs.size) ⟨hp.push o, g, d, tk, os⟩ → wpAny (model prog w) A' (pyIter v) Q E ⟨hp, g, d, tk, os⟩ :=
      fun q => B.iter prog w _ _ ⟨hp, g, d, tk, os⟩ _ h1 q
    wp_walk using q1
    refine wpAny_stack_any fun st => wpAny_pure ?_
    split
    · rename_i c _ _ _ _ _
      cases (c == Value.type "enumerate")
      · wp_walk using q1
        exact ⟨_, rfl, h⟩
      · wp_walk using q1
        exact ⟨_, rfl, h⟩
    · wp_walk using q1
      exact ⟨_, rfl, h⟩
theorem enum_begins1 {prog : Program} {w : World} {A : Around} {E : Value → Shared → Prop} {s : Shared} {v : Value} {o : Obj} {H : Heap → Prop} {Q : Value → Shared → Prop} (B : Begins v o H) (h1 : H s.heap)
    (h : ∀ h', IsEnum h' (s.heap.objs.size + 1) s.heap.objs.size 0 .none → h'.get? s.heap.objs.size = some o → h'.objs.size = s.heap.objs.size + 2 →
      (∀ b o, s.heap.get? b = some o → h'.get? b = some o) → Q (.ref (s.heap.objs.size + 1)) { s with heap := h' }) :
    wpAny (model prog w) A (call (.type "enumerate") [v]) Q E s := by
  refine callType_new F.called_enumerate (by decide) (F.typeCall_enumerate_1 _) (F.newCall_enumerate_1 _) (fun obj => F.args_object_init_2 obj _) F.entry_enumerate_new
    (meets_enum1 B) ⟨h1, ?_⟩
  have hz : (s.heap.push o).objs.size = s.heap.objs.size + 1 := Heap.size_push ..
  show _ ∧ _
  rw [hz]
  have he : IsEnum ((s.heap.push o).push { cls := .type "enumerate", data := .fields #[.none, .bool false, .ref s.heap.objs.size, rawInt 0, .none, .none] }) (s.heap.objs.size + 1) s.heap.objs.size 0 .none := by
    have := Heap.get?_push_size (s.heap.push o) (o := { cls := .type "enumerate", data := .fields #[.none, .bool false, .ref s.heap.objs.size, rawInt 0, .none, .none] }) rfl
    rw [hz] at this; exact this
  refine ⟨⟨_, he, rfl⟩, h _ he (Heap.get?_push_of_some _ (Heap.get?_push_size _ B.free)) (by rw [Heap.size_push, hz]) fun b o x => Heap.get?_push_of_some _ (Heap.get?_push_of_some _ x)⟩
/-- enumerate over a tuple -/
def IteT (K : PySem.W.Frag) (a : Addr) : It :=
  ⟨fun i H => ∃ (xs : List V) (x : V), SqT K H a xs ∧ xs[i]? = some x, fun i H v H' => ∃ T x, v = .ref T ∧ H T = none ∧ H' = upd H T (.tup [.int (i : Nat), x]) ∧ ∀ xs, SqT K H a xs → xs[i]? = some x, fun i H => ∃ xs : List V, SqT K H a xs ∧ i = xs.length⟩
theorem turn_enumT {P : Program} {w : World} {K : PySem.W.Frag} {elts : List Expr} {kk : Nat} {tpos : Pos} (a e it : Addr) (hat : a ≠ it) :
    Turn P w K (.Tuple elts kk tpos) (IteT K a) [e, it] e (fun i h => (∃ old, IsEnum h e it ((i : Nat) : Int) old) ∧ h.IsTupleIter it a i ∧ e ≠ it ∧ e ≠ a) where
  mem := by simp
  obj := fun i h st b hb => by
    obtain ⟨⟨old, he⟩, ⟨o, ho, hc, hd⟩, _⟩ := st
    have e' : b = e ∨ b = it := by simpa using hb
    rcases e' with z | z
    · rw [z]; exact ⟨_, he, fun v q => nomatch q⟩
    · rw [z]; exact ⟨o, ho, fun v q => by rw [hd] at q; cases q⟩
  keep := fun i h h' st k => let ⟨⟨old, he⟩, hi, hne⟩ := st; ⟨⟨old, k e (by simp) _ he⟩, hi.at fun o q => k it (by simp) o q, hne⟩
  item := by
    intro X hP hw hK hc i pins s σ H E I hf st hg
    subst hP hw hK
    obtain ⟨⟨old, he⟩, hit, hne, hea⟩ := st
    obtain ⟨xs, x, hq, hx⟩ := hg
    obtain ⟨its, rv, p, hz⟩ := I.tuple hq
    obtain ⟨u, hu, ru⟩ := rv.get hx
    have hel : e < s.heap.objs.size := Heap.lt_size he
    have hil : it < s.heap.objs.size := by obtain ⟨_, q, _⟩ := hit; exact Heap.lt_size q
    have hd : X.A.in1.handled = none := I.ok.hd hc
    have D := Draws.tuple (prog := X.prog) (w := X.w) hd it a hat its.toArray
    have hlt : i < its.toArray.size := by
      have := (List.getElem?_eq_some_iff.mp hu).1
      simpa using this
    refine wpAny_pyNext_enum_itemD D he ⟨hit, p⟩ hlt hne (by simp [hne, hea]) fun u' h' tk hPx ho hit' hT hsz hk => ?_
    have hPx : its.toArray[i]? = some u' := hPx
    have eu : u' = u := by
      rw [show its.toArray[i]? = its[i]? by simp, hu] at hPx
      exact (Option.some.inj hPx).symm
    subst eu
    refine ⟨_, rfl, wpAny_letOwnedTupleGo_enum (s := { s with heap := h', toks := tk + 1 }) ho fun h'' he' sb => ?_⟩
    have hT2 : h''.get? s.heap.objs.size = some { cls := .type "tuple", data := .seq #[.int i tk, u'] } := (sb.2 _ (Nat.ne_of_gt hel)).trans hT
    have new : ObjOk X.prog X.w (upd H s.heap.objs.size (.tup [.int (i : Nat), x])) h'' s.heap.objs.size (.tup [.int (i : Nat), x]) :=
      ⟨by show 2 ≤ sizeLine; decide, [.int i tk, u'], .cons ⟨_, rfl⟩ (.cons ru .nil), ⟨_, hT2, rfl, _, rfl⟩⟩
    have I1 : Inv X pins σ (upd H s.heap.objs.size (.tup [.int (i : Nat), x])) { s with heap := h'', toks := tk + 1 } :=
      I.turnedNew (ch := [e, it]) (fun b ob hb q => (sb.2 b (fun z => hb (by simp [z]))).trans (hk b ob (fun z => hb (by simp [z])) (fun z => hb (by simp [z])) q)) hf (Nat.le_refl _) new
    refine ⟨.ref s.heap.objs.size, _, I1, rfl, ⟨_, x, rfl, I.hok.fresh (Nat.le_refl _), rfl, fun ys hy => by rw [I.tuple_inj hy hq]; exact hx⟩, ⟨⟨u', ?_⟩, hit'.1.at fun o q => (sb.2 it (Ne.symm hne)).trans q, hne, hea⟩, fun b hb => ?_⟩
    · have e1 : ((i + 1 : Nat) : Int) = (i : Int) + 1 := by omega
      rw [e1]; exact he'
    · have hb' : b < s.heap.objs.size := by
        have e' : b = e ∨ b = it := by simpa using hb
        rcases e' with z | z
        · rw [z]; exact hel
        · rw [z]; exact hil
      rw [upd_ne (Nat.ne_of_lt hb')]
      exact (hf b hb).1
  done := by
    intro X hP hw hK hc i pins s σ H E I hf st hg
    subst hP hw hK
    obtain ⟨⟨old, he⟩, hit, hne, hea⟩ := st
    obtain ⟨xs, hq, hx⟩ := hg
    obtain ⟨its, rv, p, hz⟩ := I.tuple hq
    obtain ⟨f0, f1, f2, f3, f4, f5⟩ := hf it (by simp)
    have hl := rv.length
    have hd : X.A.in1.handled = none := I.ok.hd hc
    have D := Draws.tuple (prog := X.prog) (w := X.w) hd it a hat its.toArray
    refine wpAny_pyNext_enum_endD D he ⟨by rw [show its.toArray.size = i by rw [List.size_toArray, ← hl, hx]]; exact hit, p⟩ fun h' eb => ⟨rfl, I.turned (t' := s.toks) (fun b o hb q => eb b o hb q) f0 f1 f3 f4 f5⟩
  self := fun A i s Q E st h => let ⟨⟨_, he⟩, _⟩ := st; wpAny_pyIter_enum he h
/-- enumerate of a list or a tuple -/
def iEnumT (K : PySem.W.Frag) (ta : TA) : TI := fun σ H R => ta σ H fun vs H1 => ∃ a xs, vs = [.ref a] ∧ SqT K H1 a xs ∧ R (IteT K a) H1
theorem pi_enumT {X : Cx} {e : Expr} {ta : TA} {p pos tpos : Pos} {elts : List Expr} {kk : Nat} (hg : Gl X "enumerate") (hm : X.mg "enumerate" = none) (ha : PA X [e] ta) (hs : starEach [e] X.env = [(false, eval e X.env)] := by rfl) :
    PI X (.Tuple elts kk tpos) (.Call (.Name "enumerate" p) [e] [] pos) (iEnumT X.K ta) := by
  refine ⟨fun pins s σ H R I h => ?_⟩
  refine Call_ (ld_blt I hg hm boot_enumerate (PyProof.Rows.callWith_type1 (thn (ha.run pos pins s σ H _ I h) fun us s1 ⟨vs, H1, I1, r1, q1⟩ => ?_) hs rfl))
  obtain ⟨a, xs, ex, hq, q⟩ := q1
  subst ex
  cases r1 with
  | cons r rr =>
    cases rr
    cases r
    obtain ⟨its, rv, p', hz⟩ := I1.tuple hq
    have hal : a < s1.heap.objs.size := p'.lt
    refine enum_begins1 (begins_tuple a its.toArray) p' fun h' he hit hsz hk => wpAny_pyIter_enum he ?_
    have I2 : Inv X pins σ H1 { s1 with heap := h' } := I1.kept (t' := s1.toks) hk
    refine ⟨s1.heap.objs.size + 1, [s1.heap.objs.size + 1, s1.heap.objs.size], _, _, H1, rfl, I2, turn_enumT a (s1.heap.objs.size + 1) s1.heap.objs.size (Nat.ne_of_lt hal), ⟨⟨.none, he⟩, ⟨_, hit, rfl, rfl⟩, Nat.succ_ne_self _, Nat.ne_of_gt (Nat.lt_succ_of_lt hal)⟩, fun b hb => ?_, q⟩
    have e' : b = s1.heap.objs.size + 1 ∨ b = s1.heap.objs.size := by simpa using hb
    have hle : s1.heap.objs.size ≤ b := by
      rcases e' with z | z
      · rw [z]; exact Nat.le_add_right _ _
      · rw [z]; exact Nat.le_refl _
    exact I1.fpOk hle (I1.hok.fresh hle)
def enumD (ds : List D) : List D := (List.range ds.length).zipWith (fun (i : Nat) d => PyData.tuple [.int i, d]) ds
theorem enumD_get {ds : List D} {i : Nat} {d : D} (h : ds[i]? = some d) : (enumD ds)[i]? = some (.tuple [.int i, d]) := by
  unfold enumD
  have hi := (List.getElem?_eq_some_iff.mp h).1
  rw [List.getElem?_zipWith, List.getElem?_range hi, h]
theorem enumD_len (ds : List D) : (enumD ds).length = ds.length := by
  unfold enumD
  simp
theorem enumD_of {ds : List D} {i : Nat} {e : D} (h : (enumD ds)[i]? = some e) : ∃ d, ds[i]? = some d ∧ e = .tuple [.int i, d] := by
  have hi := (List.getElem?_eq_some_iff.mp h).1
  rw [enumD_len] at hi
  refine ⟨ds[i], List.getElem?_eq_getElem hi, ?_⟩
  rw [enumD_get (List.getElem?_eq_getElem hi)] at h
  exact (Option.some.inj h).symm
section
variable {X : Cx} {C : Cf} {e a b c l tg : Expr} {ta tb tc : De} {pos : Pos}
theorem it_enumL {K : PySem.W.Frag} {F : Hp} {p : Addr} {vs : List V} {ds : List D} (h : F p = some (.lst vs)) (w : DpAll K F vs ds) : ItOk K (Ite K p) F (enumD ds) := fun F2 H2 f2 h2 i => by
  have hq : SqL K H2 p vs := SqL.of ((f2.trans h2) _ _ h)
  refine ⟨fun d hd => ?_, fun hi => ⟨vs, hq, by rw [dpa_len w, hi, enumD_len]; exact Nat.le_refl _⟩⟩
  obtain ⟨d', hd', rfl⟩ := enumD_of hd
  obtain ⟨v, e1, e2⟩ := dpa_get w hd'
  refine ⟨⟨vs, v, hq, e1⟩, fun x H3 y => ?_⟩
  obtain ⟨T, x', rfl, hT, rfl, y⟩ := y
  have ex : v = x' := Option.some.inj (e1.symm.trans (y vs hq))
  subst ex
  have hF : F2 T = none := h2.free hT
  refine ⟨upd F2 T (.tup [.int (i : Nat), v]), same_upd hF, fun b u e => ?_, same_upd hT, fun b z => ?_, .tup upd_same (.cons (.int _) (.cons (dp_mono (f2.trans (same_upd hF)) _ _ e2) .nil))⟩
  · by_cases hb : b = T
    · subst hb; rw [upd_same] at e ⊢; exact e
    · rw [upd_ne hb] at e ⊢; exact h2 _ _ e
  · by_cases hb : b = T
    · subst hb; exact .inr hT
    · rw [upd_ne hb] at z; exact .inl z
theorem it_enumT {K : PySem.W.Frag} {F : Hp} {p : Addr} {vs : List V} {ds : List D} (h : F p = some (.tup vs)) (w : DpAll K F vs ds) : ItOk K (IteT K p) F (enumD ds) := fun F2 H2 f2 h2 i => by
  have hq : SqT K H2 p vs := SqT.of ((f2.trans h2) _ _ h)
  refine ⟨fun d hd => ?_, fun hi => ⟨vs, hq, by rw [dpa_len w, hi, enumD_len]⟩⟩
  obtain ⟨d', hd', rfl⟩ := enumD_of hd
  obtain ⟨v, e1, e2⟩ := dpa_get w hd'
  refine ⟨⟨vs, v, hq, e1⟩, fun x H3 y => ?_⟩
  obtain ⟨T, x', rfl, hT, rfl, y⟩ := y
  have ex : v = x' := Option.some.inj (e1.symm.trans (y vs hq))
  subst ex
  have hF : F2 T = none := h2.free hT
  refine ⟨upd F2 T (.tup [.int (i : Nat), v]), same_upd hF, fun b u e => ?_, same_upd hT, fun b z => ?_, .tup upd_same (.cons (.int _) (.cons (dp_mono (f2.trans (same_upd hF)) _ _ e2) .nil))⟩
  · by_cases hb : b = T
    · subst hb; rw [upd_same] at e ⊢; exact e
    · rw [upd_ne hb] at e ⊢; exact h2 _ _ e
  · by_cases hb : b = T
    · subst hb; exact .inr hT
    · rw [upd_ne hb] at z; exact .inl z
def enumOf (ds : List D) (δ : DS) : R (List D) := match ds with
  | [.list l] => .ok (enumD l) δ
  | [.tuple l] => .ok (enumD l) δ
  | _ => .bad
def dEnum (l : Dl) : Di := fun δ => (l δ).bind enumOf
theorem pdi_enum {tl : Dl} {p tpos : Pos} {elts : List Expr} {kk : Nat} (hm : X.mg "enumerate" = none) (ha : PA X [e] (upL C tl)) (hg : Gl X "enumerate" := by rfl) (hK : C.K = X.K := by rfl) (hs : starEach [e] X.env = [(false, eval e X.env)] := by rfl) :
    PI X (.Tuple elts kk tpos) (.Call (.Name "enumerate" p) [e] [] pos) (upI C (dEnum tl)) := by
  refine pi_weak (pi_or (pi_enum hg hm ha hs) (pi_enumT hg hm ha hs)) fun σ H R ⟨G, δ, F, hC, k, h⟩ => ?_
  subst hC
  unfold dEnum at h
  cases e1 : tl δ with
  | bad => rw [e1] at h; exact h.elim
  | ex cc s =>
    rw [e1] at h
    refine .inl ⟨G, δ, F, rfl, k, ?_⟩
    rw [e1]
    exact h
  | ok ds δ1 =>
    rw [e1] at h
    have h : finA G (WI G) (enumOf ds δ1) σ F R := h
    cases ds with
    | nil => exact h.elim
    | cons d ds => cases ds with
      | cons _ _ => cases d <;> exact h.elim
      | nil => cases d with
        | list l =>
          refine .inl ⟨G, δ, F, rfl, k, ?_⟩
          rw [e1]
          intro vs F1 H1 k1 g1 w1
          have w1 : DpAll G.K F1 vs [.list l] := w1
          cases w1 with
          | cons w ws =>
            cases ws
            cases w with
            | @lst p vs _ a b => exact ⟨p, vs, rfl, SqL.of (k1.fh _ _ a), h _ F1 H1 k1 g1 (by rw [← hK]; exact it_enumL a b)⟩
        | tuple l =>
          refine .inr ⟨G, δ, F, rfl, k, ?_⟩
          rw [e1]
          intro vs F1 H1 k1 g1 w1
          have w1 : DpAll G.K F1 vs [.tuple l] := w1
          cases w1 with
          | cons w ws =>
            cases ws
            cases w with
            | @tup p vs _ a b => exact ⟨p, vs, rfl, SqT.of (k1.fh _ _ a), h _ F1 H1 k1 g1 (by rw [← hK]; exact it_enumT a b)⟩
        | _ => exact h.elim
end
end DL

set_option Elab.async false
set_option linter.all false
set_option maxRecDepth 100000
set_option autoImplicit false
namespace DL
open PySem PySem.Spec PyProof.Rows L2

/-! ### comprehensions of two clauses -/
def back2a : Sl → Sl → Sl
  | .own _, .arg c => .own c
  | .arg _, .arg c => .arg c
  | _, .fz d => .fz d
  | _, _ => .no
def back2 : DS → DS → DS
  | [], _ => []
  | s :: δ, t :: δ' => back2a s t :: back2 δ δ'
  | s :: δ, [] => .no :: back2 δ []
def rest1 : Sl → Sl → Sl
  | .own _, .own c => .own c
  | .arg _, .arg c => .arg c
  | s, _ => s
def restD : DS → DS → DS
  | [], _ => []
  | s :: δ, t :: δ' => rest1 s t :: restD δ δ'
  | s :: δ, [] => s :: restD δ []
theorem back2_get : ∀ (δ δ' : DS) (i : Nat) (s t : Sl), δ[i]? = some s → δ'[i]? = some t → (back2 δ δ')[i]? = some (back2a s t)
  | [], _, _, _, _, h, _ => by simp at h
  | _ :: _, [], _, _, _, _, h => by simp at h
  | s :: δ, t :: δ', 0, _, _, h, h' => by simp at h h'; subst h h'; rfl
  | s :: δ, t :: δ', i + 1, _, _, h, h' => by
    show (back2 δ δ')[i]? = _
    exact back2_get δ δ' i _ _ (by simpa using h) (by simpa using h')
theorem back2_len : ∀ (δ δ' : DS), (back2 δ δ').length = δ.length
  | [], _ => rfl
  | s :: δ, t :: δ' => by show (back2 δ δ').length + 1 = _; rw [back2_len]; rfl
  | s :: δ, [] => by show (back2 δ []).length + 1 = _; rw [back2_len]; rfl
theorem rest_get : ∀ (δ δ' : DS) (i : Nat) (s t : Sl), δ[i]? = some s → δ'[i]? = some t → (restD δ δ')[i]? = some (rest1 s t)
  | [], _, _, _, _, h, _ => by simp at h
  | _ :: _, [], _, _, _, _, h => by simp at h
  | s :: δ, t :: δ', 0, _, _, h, h' => by simp at h h'; subst h h'; rfl
  | s :: δ, t :: δ', i + 1, _, _, h, h' => by
    show (restD δ δ')[i]? = _
    exact rest_get δ δ' i _ _ (by simpa using h) (by simpa using h')
theorem rest_len : ∀ (δ δ' : DS), (restD δ δ').length = δ.length
  | [], _ => rfl
  | s :: δ, t :: δ' => by show (restD δ δ').length + 1 = _; rw [rest_len]; rfl
  | s :: δ, [] => by show (restD δ []).length + 1 = _; rw [rest_len]; rfl
section
variable {G : Ct} {C' : Cf} {δ δ2 : DS} {σ σ2 : L2.St} {F H F2 H2 : Hp} {vs : List Nat}
def Ct.to (G : Ct) (C' : Cf) : Ct := { G with C := C' }
theorem St1.to (k : St1 G δ σ F H) (hK : C'.K = G.K) : St1 (G.to C') δ σ F H := by
  refine ⟨k.len, k.fh, k.f0, k.h0, k.fn, fun i s e => ?_, k.di, k.ma⟩
  have z := k.sl i s e
  have eK : (G.to C').K = G.K := hK
  cases s with
  | no => trivial
  | fz d => obtain ⟨v, a, b⟩ := z; exact ⟨v, a, by rw [eK]; exact b⟩
  | own c => obtain ⟨p, o, a1, a2, a3, a4, a5⟩ := z; exact ⟨p, o, a1, a2, a3, by rw [eK]; exact a4, a5⟩
  | arg c => obtain ⟨p, o, a1, a2, a3, a4, a5⟩ := z; exact ⟨p, o, a1, a2, a3, by rw [eK]; exact a4, a5⟩
theorem VlOk.to {v : V} {c : Co} (w : VlOk G δ σ F H v (.own c)) (hK : C'.K = G.K) : VlOk (G.to C') δ σ F H v (.own c) := by
  obtain ⟨p, o, rfl, h1, h2, h3, h4, h5⟩ := w
  exact ⟨p, o, rfl, h1, h2, by rw [show (G.to C').K = G.K from hK]; exact h3, h4, h5⟩
/-- behind a block's beginning: its slots as ours -/
theorem blk_out2 (k : St1 G δ σ F H) (hK : C'.K = G.K) (k2 : St1 (G.blk C' δ σ F H) δ2 σ2 F2 H2) (hl : σ2.length = σ.length) : St1 (G.to C') (back2 δ δ2) σ2 F2 H2 ∧ ∀ (i : Nat) (t : Sl) (p : Addr), δ[i]? = some t → t.held = true → σ[i]? = some (some (.ref p)) → σ2[i]? = some (some (.ref p)) := by
  have hGK : (G.to C').K = G.K := hK
  have hBK : (G.blk C' δ σ F H).K = G.K := hK
  have both : ∀ i s, (back2 δ δ2)[i]? = some s → ∃ t u, δ[i]? = some t ∧ δ2[i]? = some u ∧ s = back2a t u := fun i s e => by
    have hlt : i < δ.length := by
      have := (List.getElem?_eq_some_iff.mp e).1
      rw [back2_len] at this
      exact this
    have hlt2 : i < δ2.length := by rw [k2.len, hl, ← k.len]; exact hlt
    obtain ⟨t, et⟩ : ∃ t, δ[i]? = some t := ⟨_, List.getElem?_eq_getElem hlt⟩
    obtain ⟨u, eu⟩ : ∃ u, δ2[i]? = some u := ⟨_, List.getElem?_eq_getElem hlt2⟩
    rw [back2_get δ δ2 i t u et eu] at e
    exact ⟨t, u, et, eu, (Option.some.inj e).symm⟩
  have zz : ∀ (i : Nat) (t : Sl) (p : Addr), δ[i]? = some t → t.held = true → σ[i]? = some (some (.ref p)) → σ2[i]? = some (some (.ref p)) ∧ ∃ c o, δ2[i]? = some (.arg c) ∧ H2 p = some o ∧ F2 p = none ∧ CoOk G.K F2 c o := fun i t p et th e1 => by
    have em := blk_M_of (G := G) (C' := C') (F := F) (H := H) et th e1
    obtain ⟨c, hc⟩ := k2.ma i p em
    obtain ⟨q, o, a1, a2, a3, a4, a5⟩ := k2.sl i _ hc
    rw [em] at a5
    cases a5
    exact ⟨a1, c, o, hc, a2, a3, by rw [← hBK]; exact a4⟩
  refine ⟨⟨by rw [back2_len, k.len, hl], k2.fh, k.f0.trans k2.f0, fun b o hm e => k2.h0 b o (fun i hi => ?_) (k.h0 b o hm e), fun b z => ?_, fun i s e => ?_, fun i j s t p hij e1 e2 q1 q2 r1 r2 => ?_, fun i p e => ?_⟩, fun i t p et th e1 => (zz i t p et th e1).1⟩
  · obtain ⟨s, h1, h2, h3⟩ := blk_M hi
    have z := k.sl i s h1
    cases s with
    | own c =>
      obtain ⟨p, o', a1, a2, a3, a4, a5, a6⟩ := z
      rw [h3] at a1
      cases a1
      have e : G.H0 b = some o := e
      rw [a6] at e
      cases e
    | arg c => obtain ⟨p, o', a1, a2, a3, a4, a5⟩ := z; rw [h3] at a1; cases a1; exact hm i a5
    | _ => cases h2
  · rcases k2.fn b z with q | q
    · exact k.fn b q
    · exact .inr (k.new0 q)
  · obtain ⟨t, u, et, eu, rfl⟩ := both i s e
    have fzc : ∀ d, u = .fz d → SlOk (G.to C') F2 H2 i σ2[i]? (.fz d) := fun d hd => by
      subst hd
      obtain ⟨v, a, b⟩ := k2.sl i _ eu
      exact ⟨v, a, by rw [hGK, ← hBK]; exact b⟩
    have z := k.sl i t et
    cases t with
    | own c =>
      obtain ⟨p, o, a1, a2, a3, a4, a5, a6⟩ := z
      obtain ⟨b0, c', o', b1, b2, b3, b4⟩ := zz i _ p et rfl a1
      rw [eu] at b1
      cases b1
      exact ⟨p, o', b0, b2, b3, by rw [hGK]; exact b4, a5, a6⟩
    | arg c =>
      obtain ⟨p, o, a1, a2, a3, a4, a5⟩ := z
      obtain ⟨b0, c', o', b1, b2, b3, b4⟩ := zz i _ p et rfl a1
      rw [eu] at b1
      cases b1
      exact ⟨p, o', b0, b2, b3, by rw [hGK]; exact b4, a5⟩
    | no => cases u with
      | fz d => exact fzc d rfl
      | _ => trivial
    | fz d => cases u with
      | fz d => exact fzc d rfl
      | _ => trivial
  · have get : ∀ (m : Nat) (u : Sl) (b : Addr), (back2 δ δ2)[m]? = some u → u.held = true → σ2[m]? = some (some (.ref b)) → ∃ u', δ[m]? = some u' ∧ u'.held = true ∧ σ[m]? = some (some (.ref b)) := fun m u b e q r => by
      obtain ⟨t, u', et, eu, rfl⟩ := both m u e
      have ht : t.held = true := by cases t <;> first | rfl | (cases u' <;> exact q)
      obtain ⟨c, hc⟩ : ∃ c, t.co = some c := by cases t <;> first | exact ⟨_, rfl⟩ | cases ht
      obtain ⟨p, o, p1, _⟩ := k.held et hc
      have := (zz m t p et ht p1).1
      rw [r] at this
      cases this
      exact ⟨t, et, ht, p1⟩
    obtain ⟨u1, a1, b1, c1⟩ := get i s p e1 q1 r1
    obtain ⟨u2, a2, b2, c2⟩ := get j t p e2 q2 r2
    exact k.di i j u1 u2 p hij a1 a2 b1 b2 c1 c2
  · obtain ⟨c, hc⟩ := k.ma i p e
    obtain ⟨q, o, a1, a2, a3, a4, a5⟩ := k.sl i _ hc
    obtain ⟨_, c', o', b1, _⟩ := zz i _ q hc rfl a1
    exact ⟨c', by rw [back2_get δ δ2 i _ _ hc b1]; rfl⟩
theorem blk_val2 (k : St1 G δ σ F H) (hK : C'.K = G.K) (k2 : St1 (G.blk C' δ σ F H) δ2 σ2 F2 H2) (hl : σ2.length = σ.length) {v : V} {c : Co} (w : VlOk G δ σ F H v (.own c)) : VlOk (G.to C') (back2 δ δ2) σ2 F2 H2 v (.own c) := by
  obtain ⟨kk, addr⟩ := blk_out2 k hK k2 hl
  obtain ⟨p, o, rfl, h1, h2, h3, h4, h5⟩ := w
  refine ⟨p, o, rfl, k2.h0 p o (fun i hi => ?_) h1, ?_, by rw [show (G.to C').K = G.K from hK]; exact h3.mono k2.f0, h4, fun i s e q r => ?_⟩
  · obtain ⟨s, a1, a2, a3⟩ := blk_M hi
    exact h5 i s a1 a2 a3
  · cases e : F2 p with
    | none => rfl
    | some u =>
      rcases k2.fn p (by rw [e]; simp) with z | z
      · exact absurd h2 z
      · have z : H p = none := z
        rw [h1] at z
        cases z
  · have hlt : i < δ.length := by
      have := (List.getElem?_eq_some_iff.mp e).1
      rw [back2_len] at this
      exact this
    have hlt2 : i < δ2.length := by rw [k2.len, hl, ← k.len]; exact hlt
    obtain ⟨t, et⟩ : ∃ t, δ[i]? = some t := ⟨_, List.getElem?_eq_getElem hlt⟩
    obtain ⟨u', eu⟩ : ∃ u, δ2[i]? = some u := ⟨_, List.getElem?_eq_getElem hlt2⟩
    rw [back2_get δ δ2 i t u' et eu] at e
    cases e
    have ht : t.held = true := by cases t <;> first | rfl | (cases u' <;> exact q)
    obtain ⟨c, hc⟩ : ∃ c, t.co = some c := by cases t <;> first | exact ⟨_, rfl⟩ | cases ht
    obtain ⟨p', o', p1, _⟩ := k.held et hc
    have := addr i t p' et ht p1
    rw [r] at this
    cases this
    exact h5 i t et ht p1
/-- back at the slots that were -/
theorem rest_out (k : St1 G δ σ F H) {δ1 : DS} {σ1 : L2.St} {F1 H1 : Hp} {G' : Ct} (hG : G' = G.to C') (hK : C'.K = G.K) (k1 : St1 G' δ1 σ1 F1 H1) (ff : Same F F1) (hl : σ1.length = σ.length)
    (ad : ∀ (i : Nat) (t : Sl) (p : Addr), δ[i]? = some t → t.held = true → σ[i]? = some (some (.ref p)) → σ1[i]? = some (some (.ref p)))
    (own : ∀ (i : Nat) (c : Co), δ[i]? = some (.own c) → ∃ c', δ1[i]? = some (.own c')) : St1 G (restD δ δ1) σ F1 H1 := by
  subst hG
  have hGK : (G.to C').K = G.K := hK
  have both : ∀ i s, (restD δ δ1)[i]? = some s → ∃ t u, δ[i]? = some t ∧ δ1[i]? = some u ∧ s = rest1 t u := fun i s e => by
    have hlt : i < δ.length := by
      have := (List.getElem?_eq_some_iff.mp e).1
      rw [rest_len] at this
      exact this
    have hlt2 : i < δ1.length := by rw [k1.len, hl, ← k.len]; exact hlt
    obtain ⟨t, et⟩ : ∃ t, δ[i]? = some t := ⟨_, List.getElem?_eq_getElem hlt⟩
    obtain ⟨u, eu⟩ : ∃ u, δ1[i]? = some u := ⟨_, List.getElem?_eq_getElem hlt2⟩
    rw [rest_get δ δ1 i t u et eu] at e
    exact ⟨t, u, et, eu, (Option.some.inj e).symm⟩
  refine ⟨by rw [rest_len]; exact k.len, k1.fh, k.f0.trans ff, k1.h0, k1.fn, fun i s e => ?_, fun i j s t p hij e1 e2 q1 q2 r1 r2 => ?_, fun i p e => ?_⟩
  · obtain ⟨t, u, et, eu, rfl⟩ := both i s e
    have z := k.sl i t et
    cases t with
    | no => trivial
    | fz d =>
      obtain ⟨v, a, b⟩ := z
      exact ⟨v, a, dp_mono ff _ _ b⟩
    | own c =>
      obtain ⟨p, o, a1, a2, a3, a4, a5, a6⟩ := z
      obtain ⟨c', hc'⟩ := own i c et
      rw [eu] at hc'
      cases hc'
      obtain ⟨p', o', b1, b2, b3, b4, b5⟩ := k1.sl i _ eu
      rw [ad i _ p et rfl a1] at b1
      cases b1
      exact ⟨p, o', a1, b2, b3, by rw [← hGK]; exact b4, a5, a6⟩
    | arg c =>
      obtain ⟨p, o, a1, a2, a3, a4, a5⟩ := z
      obtain ⟨c', hc'⟩ := k1.ma i p a5
      rw [eu] at hc'
      cases hc'
      obtain ⟨p', o', b1, b2, b3, b4, b5⟩ := k1.sl i _ eu
      rw [ad i _ p et rfl a1] at b1
      cases b1
      exact ⟨p, o', a1, b2, b3, by rw [← hGK]; exact b4, a5⟩
  · have get : ∀ (m : Nat) (u : Sl), (restD δ δ1)[m]? = some u → u.held = true → ∃ u', δ[m]? = some u' ∧ u'.held = true := fun m u e q => by
      obtain ⟨t, u', et, eu, rfl⟩ := both m u e
      exact ⟨t, et, by cases t <;> first | rfl | (cases u' <;> exact q)⟩
    obtain ⟨u1, a1, b1⟩ := get i s e1 q1
    obtain ⟨u2, a2, b2⟩ := get j t e2 q2
    exact k.di i j u1 u2 p hij a1 a2 b1 b2 r1 r2
  · obtain ⟨c, hc⟩ := k.ma i p e
    obtain ⟨c', hc'⟩ := k1.ma i p e
    exact ⟨c', by rw [rest_get δ δ1 i _ _ hc hc']; rfl⟩
end
/-- the kinds of slots that a block leaves -/
theorem turnL_own {vs : List Nat} {g : Dg} {tt : Dt} {te : De} {d : D} {δ δ1 : DS} {o : Option D} (h : turnL vs g tt te d δ = .ok o δ1) : ∃ δ', δ1 = back δ δ' := by
  unfold turnL backR at h
  split at h
  · cases h; exact ⟨_, rfl⟩
  · cases h
def oneTurn2 (vs vs1 : List Nat) (g : Dg) (tt : Dt) (ti1 : Di) (g1 : Dg) (tt1 : Dt) (te : De) (d : D) (δ : DS) : R (List D) := match g d (wipeD (δ.map toArg) vs) with
  | .ok .nx δ2 => match tt δ2 with
    | .ok true δ3 => match ti1 δ3 with
      | .ok ds1 δ4 => match freeAt vs1 (back2 δ δ4) with
        | true => match compL (turnL vs1 g1 tt1 te) ds1 (back2 δ δ4) with
          | .ok l δ7 => .ok l (restD δ δ7)
          | _ => .bad
        | false => .bad
      | _ => .bad
    | .ok false δ3 => .ok [] (back δ δ3)
    | _ => .bad
  | _ => .bad
def compLL (f : D → DS → R (List D)) : List D → DS → R (List D)
  | [], δ => .ok [] δ
  | d :: ds, δ => match f d δ with
    | .ok o δ1 => match compLL f ds δ1 with
      | .ok l δ2 => .ok (o ++ l) δ2
      | _ => .bad
    | _ => .bad
def dLc2 (vs vs1 : List Nat) (ti : Di) (g : Dg) (tt : Dt) (ti1 : Di) (g1 : Dg) (tt1 : Dt) (te : De) : De := fun δ => (ti δ).bind fun ds δ1 => okIf (freeAt vs δ1) (match compLL (oneTurn2 vs vs1 g tt ti1 g1 tt1 te) ds δ1 with
  | .ok l δ2 => okIf (small l.length) (.ok (.own (.lst l)) δ2)
  | _ => .bad)
theorem compLL_cons {f : D → DS → R (List D)} {d : D} {ds l : List D} {δ δe : DS} (h : compLL f (d :: ds) δ = .ok l δe) : ∃ o δ1 l', f d δ = .ok o δ1 ∧ compLL f ds δ1 = .ok l' δe ∧ l = o ++ l' := by
  unfold compLL at h
  cases e : f d δ with
  | ok o δ1 =>
    rw [e] at h
    simp only at h
    cases e2 : compLL f ds δ1 with
    | ok l' δ2 =>
      rw [e2] at h
      cases h
      exact ⟨o, δ1, l', rfl, e2, rfl⟩
    | ex c s => rw [e2] at h; cases h
    | bad => rw [e2] at h; cases h
  | ex c s => rw [e] at h; cases h
  | bad => rw [e] at h; cases h
theorem back_own {δ δ' : DS} {i : Nat} {c c' : Co} (h : δ[i]? = some (.own c)) (h' : δ'[i]? = some (.arg c')) : (back δ δ')[i]? = some (.own c') := back_get δ δ' i _ _ h h'
theorem back_isOwn : ∀ {δ δ' : DS} {i : Nat} {c : Co}, δ[i]? = some (.own c) → ∃ c', (back δ δ')[i]? = some (.own c')
  | [], _, _, _, h => by simp at h
  | s :: δ, [], 0, c, h => by simp at h; subst h; exact ⟨c, rfl⟩
  | s :: δ, [], i + 1, c, h => back_isOwn (δ := δ) (δ' := []) (i := i) (by simpa using h)
  | s :: δ, t :: δ', 0, c, h => by
    simp at h
    subst h
    cases t with
    | arg c' => exact ⟨c', rfl⟩
    | no => exact ⟨c, rfl⟩
    | fz d => exact ⟨c, rfl⟩
    | own d => exact ⟨c, rfl⟩
  | s :: δ, t :: δ', i + 1, c, h => back_isOwn (δ := δ) (δ' := δ') (i := i) (by simpa using h)
theorem compL_own {vs : List Nat} {g : Dg} {tt : Dt} {te : De} : ∀ {ds l : List D} {δ δe : DS}, compL (turnL vs g tt te) ds δ = .ok l δe → ∀ (i : Nat) (c : Co), δ[i]? = some (.own c) → ∃ c', δe[i]? = some (.own c')
  | [], _, _, _, h, i, c, e => by cases h; exact ⟨c, e⟩
  | d :: ds, l, δ, δe, h, i, c, e => by
    obtain ⟨o, δ1, l', e1, e2, _⟩ := compL_cons h
    obtain ⟨δ', rfl⟩ := turnL_own e1
    obtain ⟨c', hc'⟩ := back_isOwn (δ' := δ') e
    exact compL_own e2 i c' hc'
theorem freeAt_rest : ∀ {vs : List Nat} {δ δ' : DS}, freeAt vs δ = true → freeAt vs (restD δ δ') = true := fun {vs δ δ'} h => by
  refine List.all_eq_true.mpr fun i hi => ?_
  have z := List.all_eq_true.mp h i hi
  cases e : (restD δ δ')[i]? with
  | none => rfl
  | some s =>
    have hlt : i < δ.length := by
      have := (List.getElem?_eq_some_iff.mp e).1
      rw [rest_len] at this
      exact this
    obtain ⟨t, et⟩ : ∃ t, δ[i]? = some t := ⟨_, List.getElem?_eq_getElem hlt⟩
    rw [et] at z
    have bk : ∀ (δ δ' : DS) (i : Nat) (s t : Sl), δ[i]? = some t → (restD δ δ')[i]? = some s → t.held = false → s.held = false := by
      intro δ
      induction δ with
      | nil => intro δ' i s t h; simp at h
      | cons u δ ih =>
        intro δ' i s t h h' hh
        cases δ' with
        | nil => cases i with
          | zero => simp at h; subst h; simp [restD] at h'; subst h'; exact hh
          | succ i => exact ih [] i s t (by simpa using h) (by simpa [restD] using h') hh
        | cons u' δ' => cases i with
          | zero =>
            simp at h
            subst h
            simp [restD] at h'
            subst h'
            cases u with
            | own c => cases hh
            | arg c => cases hh
            | no => cases u' <;> rfl
            | fz d => cases u' <;> rfl
          | succ i => exact ih δ' i s t (by simpa using h) (by simpa [restD] using h') hh
    have th : t.held = false := by simpa using z
    have sh := bk δ δ' i s t et e th
    show (!s.held) = true
    rw [sh]
    rfl
section
variable {X : Cx} {C : Cf} {e a b c : Expr} {ta tb tc : De} {pos : Pos}
/-- what one outer turn asks -/
theorem lc2_turn {G : Ct} {δ : DS} {σ : L2.St} {F H : Hp} {vs vs1 ts ts1 : List Nat} {g : Dg} {tt : Dt} {ti1 : Di} {g1 : Dg} {tt1 : Dt} {te : De} {d : D} {l : List D} {δ1 : DS} {x : V} {p : Addr} {acc : List D} {Nx : Hp → Prop} (k : St1 G δ σ F H) (w : Dp G.K F x d) (hts : ∀ t ∈ ts, t ∈ vs) (hts1 : ∀ t ∈ ts1, t ∈ vs1) (hv : freeAt vs δ = true)
    (wa : VlOk G δ σ F H (.ref p) (.own (.lst acc))) (sz : acc.length + l.length ≤ 100000) (e : oneTurn2 vs vs1 g tt ti1 g1 tt1 te d δ = .ok l δ1)
    (q : ∀ F' H', St1 G δ1 σ F' H' → Same F F' → VlOk G δ1 σ F' H' (.ref p) (.own (.lst (acc ++ l))) → Nx H') :
    upG (nox G.C) ts g x (wipe σ vs) H fun σ2 H2 => wipe σ2 vs = wipe σ vs ∧ upT (nox G.C) tt σ2 H2 fun b H3 =>
      if b = true then upI (nox G.C) ti1 σ2 H3 fun J1 H4 => ∃ W1 : Nat → Nat → Hp → Prop, (∃ m, W1 0 m H4) ∧ ∀ j k H, W1 j k H →
        (J1.stop j H ∧ Nx H) ∨ (J1.go j H ∧ ∃ Nx1 : Hp → Prop, (∀ H', Nx1 H' → ∃ k', k' < k ∧ W1 (j + 1) k' H') ∧ ∀ x H', J1.yld j H x H' → upG (nox G.C) ts1 g1 x (wipe σ2 vs1) H' fun σ3 H5 => wipe σ3 vs1 = wipe σ2 vs1 ∧ upT (nox G.C) tt1 σ3 H5 fun b H6 =>
          if b = true then up (nox G.C) te σ3 H6 fun y H7 => ∃ acc, H7 p = some (.lst acc) ∧ acc.length < sizeLine ∧ Nx1 (upd H7 p (.lst (acc ++ [y]))) else Nx1 H6)
      else Nx H3 := by
  have kb := blk_in (C' := nox G.C) (vs := vs) k rfl hv
  unfold oneTurn2 at e
  refine ⟨G.blk (nox G.C) δ σ F H, _, F, d, rfl, kb, w, ?_⟩
  cases e1 : g d (wipeD (δ.map toArg) vs) with
  | ex cc s => rw [e1] at e; cases e
  | bad => rw [e1] at e; cases e
  | ok og δ2 =>
    rw [e1] at e
    cases og with
    | bk => cases e
    | ct => cases e
    | rt v => cases e
    | nx =>
      intro σ2 F2 H2 k2 g2 a2
      have wl : σ2.length = (wipe σ vs).length := a2.2
      refine ⟨?_, ?_⟩
      · have z : wipe σ2 vs = wipe (wipe σ vs) vs := wipe_eq (fun j hj => a2.1 j fun z => hj (hts j z)) wl
        rw [z]
        exact wipe_eq (fun j hj => wipe_out hj) (wipe_length σ vs)
      rw [wipe_length] at wl
      simp only at e
      refine ⟨G.blk (nox G.C) δ σ F H, δ2, F2, rfl, k2, ?_⟩
      cases e2 : tt δ2 with
      | ex cc s => rw [e2] at e; cases e
      | bad => rw [e2] at e; cases e
      | ok b δ3 =>
        rw [e2] at e
        intro b' F3 H3 k3 g3 w3
        have w3 : b' = b := w3
        subst w3
        cases b' with
        | false =>
          refine iteF ?_
          cases e
          have k4 := blk_out (C' := nox G.C) k rfl k3 wl
          refine q F3 H3 k4 (g2.trans g3) ?_
          have := blk_val k k3 wl wa
          rw [List.append_nil]
          exact this
        | true =>
          simp only at e
          refine iteT ⟨G.blk (nox G.C) δ σ F H, δ3, F3, rfl, k3, ?_⟩
          cases e3 : ti1 δ3 with
          | ex cc s => rw [e3] at e; cases e
          | bad => rw [e3] at e; cases e
          | ok ds1 δ4 =>
            rw [e3] at e
            simp only at e
            cases ev : freeAt vs1 (back2 δ δ4) with
            | false => rw [ev] at e; cases e
            | true =>
              rw [ev] at e
              simp only at e
              cases e5 : compL (turnL vs1 g1 tt1 te) ds1 (back2 δ δ4) with
              | ex cc s => rw [e5] at e; cases e
              | bad => rw [e5] at e; cases e
              | ok l' δ7 =>
                rw [e5] at e
                cases e
                intro J1 F4 H4 k4 g4 w4
                have w4 : ItOk G.K J1 F4 ds1 := w4
                obtain ⟨k5, addr⟩ := blk_out2 (C' := nox G.C) k rfl k4 wl
                have wa5 := blk_val2 (C' := nox G.C) k rfl k4 wl wa
                have fin : ∀ (δ9 : DS) (F9 H9 : Hp), St1 (G.to (nox G.C)) δ9 σ2 F9 H9 → Same F4 F9 → VlOk (G.to (nox G.C)) δ9 σ2 F9 H9 (.ref p) (.own (.lst (acc ++ l))) → δ9 = δ7 → Nx H9 := fun δ9 F9 H9 k9 g9 w9 e9 => by
                  subst e9
                  have gg : Same F F9 := ((g2.trans g3).trans g4).trans g9
                  have own9 : ∀ (i : Nat) (c : Co), δ[i]? = some (.own c) → ∃ c', δ9[i]? = some (.own c') := fun i c hc => by
                    obtain ⟨pp, oo, a1, _⟩ := k.sl i _ hc
                    have em := blk_M_of (G := G) (C' := nox G.C) (F := F) (H := H) hc rfl a1
                    obtain ⟨c', hc'⟩ := k4.ma i pp em
                    have e5' : (back2 δ δ4)[i]? = some (.own c') := back2_get δ δ4 i _ _ hc hc'
                    exact compL_own e5 i c' e5'
                  refine q F9 H9 (rest_out (C' := nox G.C) k rfl rfl k9 gg wl addr own9) gg ?_
                  obtain ⟨p', o, ep, h1, h2, h3, h4, h5⟩ := w9
                  cases ep
                  refine ⟨p, o, rfl, h1, h2, h3, h4, fun i s es hs r => ?_⟩
                  have hlt : i < δ.length := by
                    have := (List.getElem?_eq_some_iff.mp es).1
                    rw [rest_len] at this
                    exact this
                  obtain ⟨t, et⟩ : ∃ t, δ[i]? = some t := ⟨_, List.getElem?_eq_getElem hlt⟩
                  have hlt2 : i < δ9.length := by rw [k9.len, wl, ← k.len]; exact hlt
                  obtain ⟨u, eu⟩ : ∃ u, δ9[i]? = some u := ⟨_, List.getElem?_eq_getElem hlt2⟩
                  rw [rest_get δ δ9 i t u et eu] at es
                  cases es
                  have ht : t.held = true := by cases t <;> first | rfl | (cases u <;> exact hs)
                  obtain ⟨_, _, _, _, _, _, _, h5'⟩ := wa
                  rename_i ep' _ _ _ _
                  cases ep'
                  exact h5' i t et ht r
                refine ⟨fun j m H => m = ds1.length - j ∧ j ≤ ds1.length ∧ ∃ δ F acc1 l1, St1 (G.to (nox G.C)) δ σ2 F H ∧ Same F4 F ∧ freeAt vs1 δ = true ∧ VlOk (G.to (nox G.C)) δ σ2 F H (.ref p) (.own (.lst (acc ++ acc1))) ∧ compL (turnL vs1 g1 tt1 te) (ds1.drop j) δ = .ok l1 δ7 ∧ acc1 ++ l1 = l,
                  ⟨ds1.length, by simp, Nat.zero_le _, _, F4, [], l, k5, Same.refl F4, ev, by rw [List.append_nil]; exact wa5, e5, rfl⟩, ?_⟩
                rintro j m H8 ⟨rfl, hj, δ8, F8, acc1, l1, k8, g8, hv8, wa8, e8, rfl⟩
                obtain ⟨wgo, wst⟩ := w4 F8 H8 g8 k8.fh j
                by_cases hlt : j < ds1.length
                · right
                  obtain ⟨go, yl⟩ := wgo ds1[j] (List.getElem?_eq_getElem hlt)
                  rw [List.drop_eq_getElem_cons hlt] at e8
                  obtain ⟨o, δ9, l2, e9, e10, rfl⟩ := compL_cons e8
                  refine ⟨go, fun H' => ∃ F', St1 (G.to (nox G.C)) δ9 σ2 F' H' ∧ Same F4 F' ∧ VlOk (G.to (nox G.C)) δ9 σ2 F' H' (.ref p) (.own (.lst ((acc ++ acc1) ++ o.toList))), fun H' ⟨F', q1, q2, q3⟩ => ⟨ds1.length - (j + 1), by omega, rfl, hlt, δ9, F', acc1 ++ o.toList, l2, q1, q2, ?_, by rw [← List.append_assoc]; exact q3, e10, by rw [List.append_assoc]⟩, fun x H9 y => ?_⟩
                  · obtain ⟨δ', rfl⟩ := turnL_own e9
                    exact freeAt_back hv8
                  · obtain ⟨F9, f1, f2, f3, f4, w9⟩ := yl x H9 y
                    have k9 := grow_it k8 f1 f2 f3 f4
                    have szz : (acc ++ acc1).length ≤ 100000 := by
                      simp only [List.length_append] at sz ⊢
                      omega
                    exact lc_turn (G := G.to (nox G.C)) k9 w9 hts1 hv8 (wa8.grow f1 f3 f4) (decide_eq_true szz) e9 fun F' H' q1 q2 q3 => ⟨F', q1, (g8.trans f1).trans q2, q3⟩
                · left
                  have ej : j = ds1.length := by omega
                  subst ej
                  rw [List.drop_length] at e8
                  cases e8
                  rw [List.append_nil] at fin
                  exact ⟨wst rfl, fin δ7 F8 H8 k8 g8 wa8 rfl⟩
theorem rf_lc2 {vs vs1 ts ts1 : List Nat} {ti : Di} {g : Dg} {tt : Dt} {ti1 : Di} {g1 : Dg} {tt1 : Dt} {te : De} (hts : ∀ t ∈ ts, t ∈ vs) (hts1 : ∀ t ∈ ts1, t ∈ vs1) : ∀ σ H Q, up C (dLc2 vs vs1 ti g tt ti1 g1 tt1 te) σ H Q →
    tLc2 (upI C ti) (upG (nox C) ts g) (upT (nox C) tt) (upI (nox C) ti1) (upG (nox C) ts1 g1) (upT (nox C) tt1) (up (nox C) te) vs vs1 σ H Q := fun σ H Q ⟨G, δ, F, hC, k, h⟩ => by
  subst hC
  refine ⟨G, δ, F, rfl, k, finA_bind h fun ds δ1 J F1 H1 k1 g1 w1 h1 => ?_⟩
  have w1 : ItOk G.K J F1 ds := w1
  obtain ⟨z2, h2⟩ := okIf_fin h1
  cases ec : compLL (oneTurn2 vs vs1 g tt ti1 _ tt1 te) ds δ1 with
  | ex c s => rw [ec] at h2; exact h2.elim
  | bad => rw [ec] at h2; exact h2.elim
  | ok L δe =>
    rw [ec] at h2
    obtain ⟨z1, h3⟩ := okIf_fin h2
    have z1' : L.length ≤ 100000 := of_decide_eq_true z1
    intro p hp
    refine ⟨fun i m H => m = ds.length - i ∧ i ≤ ds.length ∧ ∃ δ F acc l, St1 G δ σ F H ∧ Same F1 F ∧ freeAt vs δ = true ∧ VlOk G δ σ F H (.ref p) (.own (.lst acc)) ∧ compLL (oneTurn2 vs vs1 g tt ti1 _ tt1 te) (ds.drop i) δ = .ok l δe ∧ acc ++ l = L,
      ⟨ds.length, by simp, Nat.zero_le _, δ1, F1, [], L, k1.newOwn hp, Same.refl F1, z2, k1.valOwn hp ⟨[], rfl, .nil⟩, ec, rfl⟩, ?_⟩
    rintro i m H2 ⟨rfl, hi, δ2, F2, acc, l, k2, g2, hv, wa, e2, rfl⟩
    obtain ⟨wgo, wst⟩ := w1 F2 H2 g2 k2.fh i
    by_cases hlt : i < ds.length
    · right
      obtain ⟨go, yl⟩ := wgo ds[i] (List.getElem?_eq_getElem hlt)
      rw [List.drop_eq_getElem_cons hlt] at e2
      obtain ⟨o, δ3, l', e3, e4, rfl⟩ := compLL_cons e2
      have hv3 : freeAt vs δ3 = true := by
        unfold oneTurn2 at e3
        split at e3
        · split at e3
          · split at e3
            · split at e3
              · split at e3
                · cases e3; exact freeAt_rest hv
                · cases e3
              · cases e3
            · cases e3
          · cases e3; exact freeAt_back hv
          · cases e3
        · cases e3
      refine ⟨go, fun H' => ∃ F', St1 G δ3 σ F' H' ∧ Same F1 F' ∧ VlOk G δ3 σ F' H' (.ref p) (.own (.lst (acc ++ o))), fun H' ⟨F', q1, q2, q3⟩ => ⟨ds.length - (i + 1), by omega, rfl, hlt, δ3, F', acc ++ o, l', q1, q2, hv3, q3, e4, by rw [List.append_assoc]⟩, fun x H3 y => ?_⟩
      obtain ⟨F3, f1, f2, f3, f4, w3⟩ := yl x H3 y
      have k3 := grow_it k2 f1 f2 f3 f4
      have szz : acc.length + o.length ≤ 100000 := by
        simp only [List.length_append] at z1'
        omega
      exact lc2_turn k3 w3 hts hts1 hv (wa.grow f1 f3 f4) szz e3 fun F' H' q1 q2 q3 => ⟨F', q1, (g2.trans f1).trans q2, q3⟩
    · left
      have e : i = ds.length := by omega
      subst e
      refine ⟨wst rfl, ?_⟩
      rw [List.drop_length] at e2
      cases e2
      rw [List.append_nil] at h3
      exact h3 (.ref p) F2 H2 k2 g2 wa
theorem pd_lc2 {elt tg iter tg1 iter1 : Expr} {ifs ifs1 : List Expr} {scope : Scope} {own : List (Str × Nat)} {vs1 ts ts1 : List Nat} {ti ti1 : Di} {g g1 : Dg} {tt tt1 : Dt} {te : De} (hi : PI X tg iter (upI C ti)) (hN : X.N.Nodup) (ok : BlkOk X.N X.env.scope scope own)
    (hg : ∀ (s : Shared) (H : Hp) (Ca : Addr) (cl : List (Str × Addr)) (fp : List Addr), PG (X.blk s H scope (compEnvC scope cl Ca X.env) fp) tg (upG (nox C) ts g)) (ht : ∀ (s : Shared) (H : Hp) (Ca : Addr) (cl : List (Str × Addr)) (fp : List Addr), PTs (X.blk s H scope (compEnvC scope cl Ca X.env) fp) ifs (upT (nox C) tt))
    (hi1 : ∀ (s : Shared) (H : Hp) (Ca : Addr) (cl : List (Str × Addr)) (fp : List Addr), PI (X.blk s H scope (compEnvC scope cl Ca X.env) fp) tg1 iter1 (upI (nox C) ti1))
    (hg1 : ∀ (s : Shared) (H : Hp) (Ca : Addr) (cl : List (Str × Addr)) (fp : List Addr), PG (X.blk s H scope (compEnvC scope cl Ca X.env) fp) tg1 (upG (nox C) ts1 g1)) (ht1 : ∀ (s : Shared) (H : Hp) (Ca : Addr) (cl : List (Str × Addr)) (fp : List Addr), PTs (X.blk s H scope (compEnvC scope cl Ca X.env) fp) ifs1 (upT (nox C) tt1))
    (he : ∀ (s : Shared) (H : Hp) (Ca : Addr) (cl : List (Str × Addr)) (fp : List Addr), PE (X.blk s H scope (compEnvC scope cl Ca X.env) fp) elt (up (nox C) te)) (hv : ∀ i ∈ vs1, i ∈ own.map (·.2) := by decide) (hts : ∀ t ∈ ts, t ∈ own.map (·.2) := by decide) (hts1 : ∀ t ∈ ts1, t ∈ vs1 := by decide) (hc : X.calm = true := by rfl)
    (hs : ∀ x, foldedSetIterable iter X.env x = pure x := by intro _; rfl) (hs1 : ∀ env x, foldedSetIterable iter1 env x = pure x := by intro _ _; rfl) :
    PE X (.ListComp elt [⟨tg, iter, ifs, 0⟩, ⟨tg1, iter1, ifs1, 0⟩] scope pos) (up C (dLc2 (own.map (·.2)) vs1 ti g tt ti1 g1 tt1 te)) := pe_weak (pe_lc2 hc hN hi ok hv hg ht hi1 hg1 ht1 he hs hs1) (rf_lc2 hts hts1)
end
end DL

set_option Elab.async false
set_option linter.all false
set_option maxRecDepth 100000
set_option autoImplicit false
namespace DL
open PySem PySem.Spec PyProof.Rows L2
/-- a def that stands at its name and keeps its promise -/
structure Cal (P : Program) (w : World) (K : PySem.W.Frag) (mg : Str → Option Value) (base : Heap) (k : Nat) (x : Str) (ps : List Str) (den : List Sl → R Vl) : Prop where
  ex : ∃ (f : Addr) (fd : FuncData), FnOk P w K mg base CX0 k f fd ps (dsp K den) ∧ mg x = some (.ref f) ∧ PySem.W.keepIn K (.ref f) = true ∧ Binds K fd ps []
section
variable {X : Cx} {C : Cf} {e a b c : Expr} {ta tb tc : De} {pos : Pos} {k : Nat} {ps : List Str} {x : Str}
theorem pd_cal {es : List Expr} {p : Pos} {den : List Sl → R Vl} {al : Da} (F : Cal X.prog X.w X.K X.mg X.base k x ps den) (hr : Room k X.A) (ha : PA X (e :: es) (upA C al)) (hK : C.K = X.K := by rfl) (hE : ∀ (σ : L2.St) (c : Value) (H : Hp), C.E σ c none H → False := by exact fun _ _ _ h => h) (hg : Gl X x := by rfl) (hdb : (x == ("__debug__" : Str)) = false := by decide) (he : starEach (e :: es) X.env = (false, eval e X.env) :: starEach es X.env := by rfl) (hpl : (backTo pos (starEach es X.env)).any (·.1) = false := by rfl) :
    PE X (.Call (.Name x p) (e :: es) [] pos) (up C (dCall den al)) := by
  obtain ⟨f, fd, Fn, hm, hk, hb⟩ := F.ex
  exact pd_call (C := C) (by rw [hK]; exact Fn) hr hm hk hb ha hE hg hdb he hpl
theorem ptd_chain {op op' : CmpOp} {r r' : R2} {f g : D → D → Option Vl} (ho : OpR X (compareOp op) r) (o : Op2 C.K r f) (ho' : OpR X (compareOp op') r') (o' : Op2 C.K r' g) (ha : PE X a (up C ta)) (hb : PE X b (up C tb)) (hc : PE X c (up C tc))
    (hp : ∀ (ta tb tc : TE), PE X a ta → PE X b tb → PE X c tc → PT X (.Compare a [op, op'] [b, c] pos) (tTest (tChain r r' ta tb tc)) := by exact fun _ _ _ h1 h2 h3 => pt_chain (by assumption) (by assumption) h1 h2 h3) : PT X (.Compare a [op, op'] [b, c] pos) (upT C (dTest (dChain f g ta tb tc))) := pt_weak (hp _ _ _ ha hb hc) (rf_test (rf_chain o o'))
/-- a, b = e1, e2 where both are plain locals -/
def dPar (i j : Nat) (l : Dl) : Ds := fun δ => (l δ).bind fun ds δ1 => match ds with
  | [d, e] => okIf (okSet δ1 i && okSet δ1 j) (.ok .nx ((δ1.set i (.fz d)).set j (.fz e)))
  | _ => .bad
theorem okSet_set {δ : DS} {i j : Nat} {d : D} (h : okSet δ j = true) : okSet (δ.set i (.fz d)) j = true := by
  unfold okSet at h ⊢
  by_cases hij : i = j
  · subst hij
    cases e : δ[i]? with
    | none => rw [e] at h; cases h
    | some s =>
      rw [List.getElem?_set_self (List.getElem?_eq_some_iff.mp e).1]
  · rw [List.getElem?_set_ne hij]
    exact h
theorem pds_par (i j : Nat) {y z : Str} {px py pt p2 : Pos} {kt k2 : Nat} {tl : Dl} (ha : PA X [a, b] (upL C tl)) (hN : X.N.Nodup) (hp : ∀ (ta : TA), PA X [a, b] ta → PS X (.Assign [.Tuple [.Name y px, .Name z py] kt pt] (.Tuple [a, b] k2 p2) pos) (tPar i j ta)) :
    PS X (.Assign [.Tuple [.Name y px, .Name z py] kt pt] (.Tuple [a, b] k2 p2) pos) (ups C (dPar i j tl)) := ps_weak (hp _ ha) fun D σ H ⟨G, δ, F, hC, k, h⟩ => by
  subst hC
  refine ⟨G, δ, F, rfl, k, finS_bind h fun ds δ1 vs F1 H1 k1 g1 w1 h1 => ?_⟩
  have w1 : DpAll G.K F1 vs ds := w1
  cases w1 with
  | nil => exact h1.elim
  | @cons v vs d ds w ws =>
    cases ws with
    | nil => exact h1.elim
    | @cons u us d2 ds w2 ws =>
      cases ws with
      | cons _ _ => exact h1.elim
      | nil =>
        obtain ⟨z, h2⟩ := okIf_finS h1
        rw [Bool.and_eq_true] at z
        obtain ⟨s1, e1, a1⟩ := okSet_some z.1
        obtain ⟨s2, e2, a2⟩ := okSet_some (okSet_set (i := i) (d := d) z.2)
        exact ⟨v, u, rfl, h2 _ F1 H1 ((k1.setFz e1 a1 w).setFz e2 a2 w2) (Same.refl F1)⟩
/-- xs.extend(e) -/
def isExact (K : PySem.W.Frag) : V → List V → Hp → VK → Prop := fun x vs H Q => ∃ l b xs zs, x = .ref l ∧ vs = [.ref b] ∧ H l = some (.lst xs) ∧ Rd H b (.lst zs) ∧ xs.length + zs.length ≤ sizeLine ∧ Q .non (upd H l (.lst (xs ++ zs)))
end
end DL

set_option Elab.async false
set_option linter.all false
set_option maxRecDepth 100000
set_option autoImplicit false
namespace DL
open PySem PySem.Spec PyProof.Rows L2
/-! ### rows of ints -/
def intsOf : List D → Option (List Int)
  | [] => some []
  | .int i :: ds => (intsOf ds).map (i :: ·)
  | _ :: _ => none
theorem intsOf_some : ∀ {ds : List D} {ns : List Int}, intsOf ds = some ns → ds = ns.map PyData.int
  | [], _, h => by cases h; rfl
  | .int i :: ds, ns, h => by
    have h : (intsOf ds).map (i :: ·) = some ns := h
    cases e : intsOf ds with
    | none => rw [e] at h; cases h
    | some ms =>
      rw [e] at h
      cases h
      rw [intsOf_some e]
      rfl
  | .none :: _, _, h => by cases h
  | .bool _ :: _, _, h => by cases h
  | .str _ :: _, _, h => by cases h
  | .list _ :: _, _, h => by cases h
  | .tuple _ :: _, _, h => by cases h
  | .dict _ :: _, _, h => by cases h
theorem intsOf_map : ∀ ns : List Int, intsOf (ns.map PyData.int) = some ns
  | [] => rfl
  | n :: ns => by
    show (intsOf (ns.map PyData.int)).map (n :: ·) = _
    rw [intsOf_map ns]
    rfl
theorem dpa_int_eq {K : PySem.W.Frag} {F : Hp} : ∀ {ns : List Int} {vs : List V}, DpAll K F vs (ns.map PyData.int) → vs = ns.map V.int
  | [], _, h => by cases h; rfl
  | n :: ns, _, h => by
    cases h with
    | cons h t =>
      cases h
      rw [dpa_int_eq t]
      rfl
section
variable {X : Cx} {C : Cf} {e a b c : Expr} {ta tb tc : De} {pos : Pos}
/-! ### max of a list, of a tuple of ints -/
theorem fold_max : ∀ (ns : List Int) (n : Int), ns.foldl max n ∈ n :: ns ∧ ∀ y ∈ n :: ns, y ≤ ns.foldl max n
  | [], n => by simp
  | m :: ns, n => by
    obtain ⟨h1, h2⟩ := fold_max ns (max n m)
    refine ⟨?_, fun y hy => ?_⟩
    · show ns.foldl max (max n m) ∈ _
      rcases List.mem_cons.mp h1 with h | h
      · rw [h]
        by_cases hc : n ≤ m
        · rw [Int.max_eq_right hc]; simp
        · rw [Int.max_eq_left (by omega)]; simp
      · exact List.mem_cons_of_mem _ (List.mem_cons_of_mem _ h)
    · show y ≤ ns.foldl max (max n m)
      have z := h2 (max n m) List.mem_cons_self
      rcases List.mem_cons.mp hy with rfl | hy
      · omega
      · rcases List.mem_cons.mp hy with rfl | hy
        · omega
        · exact h2 y (List.mem_cons_of_mem _ hy)
def maxI : List Int → Option Vl
  | [] => none
  | n :: ns => some (.fz (.int (ns.foldl max n)))
def fMaxL : D → Option Vl
  | .list ds => (intsOf ds).bind maxI
  | .tuple ds => (intsOf ds).bind maxI
  | _ => none
def rMaxT (K : PySem.W.Frag) : List V → Hp → VK → Prop := fun vs H Q => ∃ (a : Addr) (n : Int) (ns : List Int), vs = [V.ref a] ∧ (SqL K H a ((n :: ns).map V.int) ∨ SqT K H a ((n :: ns).map V.int)) ∧ Q (.int (ns.foldl max n)) H
theorem dpa_ofInts {K : PySem.W.Frag} {F : Hp} : ∀ ns : List Int, L2.DpAll K F (ns.map V.int) (ns.map PyData.int)
  | [] => .nil
  | n :: ns => .cons (.int n) (dpa_ofInts ns)
theorem call_maxT (hc : X.calm = true) (hu : X.A.units + 64 < cLine) : CallR X (.builtin "max") (rMaxT X.K) := by
  intro pins s σ H vs us Q I r h
  obtain ⟨a, n, ns, rfl, hs, q⟩ := h
  rcases hs with hs | hs
  · exact cr_max hc pins s σ H _ us Q I r ⟨a, n :: ns, rfl, hs, by simp, fun m h1 h2 => by
      obtain ⟨g1, g2⟩ := fold_max ns n
      have e : m = ns.foldl max n := Int.le_antisymm (g2 m h1) (h2 _ g1)
      rw [e]
      exact q⟩
  · obtain ⟨its, rv, hl, _⟩ := I.tuple hs
    rw [Vals.ref1 r]
    obtain ⟨as, ra⟩ := L2.Dp.readsAll I ((n :: ns).map PyData.int) _ _ (dpa_ofInts (n :: ns)) rv
    refine PySem.W.max_tuple_data (x := .int n) (xs := ns.map PyData.int) (I.ok.hd hc) hl ra ⟨?_, ?_⟩ ?_ fun i v h' tk bs _ rd kp => ?_
    · intro x hx y hy
      have gx : ∀ x ∈ PyData.int n :: ns.map PyData.int, ∃ i, x = PyData.int i := fun x hx => by
        rcases List.mem_cons.mp hx with rfl | hx
        · exact ⟨_, rfl⟩
        · obtain ⟨i, _, rfl⟩ := List.mem_map.mp hx
          exact ⟨i, rfl⟩
      obtain ⟨i, rfl⟩ := gx x hx
      obtain ⟨j, rfl⟩ := gx y hy
      rfl
    · intro x hx e
      subst e
      rcases List.mem_cons.mp hx with hx | hx
      · cases hx
      · obtain ⟨i, _, hi⟩ := List.mem_map.mp hx
        cases hi
    · have := PySem.W.depth_ints (n :: ns)
      rw [List.map_cons] at this
      rw [this]
      omega
    · rw [PySem.W.maxD_ints] at rd
      cases rd
      exact ⟨.int _, H, I.kept kp, ⟨_, rfl⟩, q⟩
theorem b_maxL {K : PySem.W.Frag} : B1 K (rMaxT K) fMaxL := by
  intro G δ σ F H x d z Q hK k hx ez q
  subst hK
  have go : ∀ ds, (intsOf ds).bind maxI = some z → ∃ n ns, ds = (n :: ns).map PyData.int ∧ z = .fz (.int (ns.foldl max n)) := fun ds e => by
    cases ei : intsOf ds with
    | none => rw [ei] at e; cases e
    | some ms =>
      rw [ei] at e
      cases ms with
      | nil => cases e
      | cons n ns => cases e; exact ⟨n, ns, intsOf_some ei, rfl⟩
  cases d with
  | list ds =>
    obtain ⟨p, vs, rfl, h1, h2⟩ := hx.list k.fh
    obtain ⟨n, ns, rfl, rfl⟩ := go ds ez
    rw [dpa_int_eq h2] at h1
    exact ⟨_, n, ns, rfl, .inl (SqL.of h1), q.fz k (.int _)⟩
  | tuple ds =>
    obtain ⟨p, vs, rfl, h1, h2⟩ := hx.tup
    obtain ⟨n, ns, rfl, rfl⟩ := go ds ez
    rw [dpa_int_eq h2] at h1
    exact ⟨_, n, ns, rfl, .inr (SqT.of (k.fh _ _ h1)), q.fz k (.int _)⟩
  | _ => cases ez
theorem pd_maxL {p : Pos} (hm : X.mg "max" = none) (hu : X.A.units + 64 < cLine) (ha : PE X e (up C ta)) (hc : X.calm = true := by rfl) (hK : C.K = X.K := by rfl) (hcall : ∀ (r : List V → Hp → VK → Prop) (te : TE), X.mg "max" = none → CallR X (.builtin "max") r → PE X e te → PE X (.Call (.Name "max" p) [e] [] pos) (tCB r (tCons te tNil)) := by exact fun _ _ hm0 h1 h2 => pe_callB h1 (by rfl) hm0 (by decide +kernel) (pa_cons h2 pa_nil)) :
    PE X (.Call (.Name "max" p) [e] [] pos) (up C (dUn fMaxL ta)) := pe_weak (hcall _ _ hm (call_maxT hc hu) ha) (by rw [← hK]; exact rf_b1 b_maxL)
/-! ### sorted -/
def isII : D → Bool
  | .tuple [.int _, .int _] => true
  | _ => false
def isI : D → Bool
  | .int _ => true
  | _ => false
def leD : D → D → Bool := PySem.W.dataLe false id
def fSorted : D → Option Vl
  | .list ds => match (ds.all isII || ds.all isI) && small ds.length with
    | true => some (.own (.lst (ds.mergeSort leD)))
    | false => none
  | _ => none
def okSort (ds : List D) : Bool := (ds.all isII || ds.all isI) && small ds.length
def rSortD (K : PySem.W.Frag) : List V → Hp → VK → Prop := fun vs H Q => ∃ (a : Addr) (F : Hp) (xs : List V) (ds : List D), vs = [V.ref a] ∧ Same F H ∧ SqL K H a xs ∧ DpAll K F xs ds ∧ okSort ds = true ∧
  ∀ (ys : List V) (p : Addr), DpAll K F ys (ds.mergeSort leD) → H p = none → Q (.ref p) (upd H p (.lst ys))
theorem all_ii {ds : List D} (h : ds.all isII = true) : ∀ d ∈ ds, ∃ i j, d = .tuple [.int i, .int j] := fun d hd => by
  have := List.all_eq_true.mp h d hd
  unfold isII at this
  split at this
  · exact ⟨_, _, rfl⟩
  · cases this
theorem all_i {ds : List D} (h : ds.all isI = true) : ∀ d ∈ ds, ∃ i, d = .int i := fun d hd => by
  have := List.all_eq_true.mp h d hd
  unfold isI at this
  split at this
  · exact ⟨_, rfl⟩
  · cases this
theorem sort_alike {ds : List D} (h : okSort ds = true) : PySem.W.AllAlike ds ∧ PySem.W.Sortable ds ∧ ds.length ≤ sizeLine ∧ (∀ d ∈ ds, d.depth ≤ 1) ∧ PyData.canLayAll0 ds = true := by
  unfold okSort at h
  rw [Bool.and_eq_true, Bool.or_eq_true] at h
  obtain ⟨h | h, h2⟩ := h
  · have g := all_ii h
    refine ⟨fun d hd d' hd' => ?_, .inl fun d hd => ?_, small_line h2, fun d hd => ?_, ?_⟩
    · obtain ⟨i, j, rfl⟩ := g d hd
      obtain ⟨i', j', rfl⟩ := g d' hd'
      rfl
    · obtain ⟨i, j, rfl⟩ := g d hd
      exact ⟨_, _, rfl⟩
    · obtain ⟨i, j, rfl⟩ := g d hd
      simp [PyData.depth, PyData.depthAll]
    · clear h2 h
      induction ds with
      | nil => rfl
      | cons d ds ih =>
        obtain ⟨i, j, rfl⟩ := g d List.mem_cons_self
        have := ih fun d hd => g d (List.mem_cons_of_mem _ hd)
        show (_ && PyData.canLayAll0 ds) = true
        rw [this]
        rfl
  · have g := all_i h
    refine ⟨fun d hd d' hd' => ?_, .inr fun d hd => ?_, small_line h2, fun d hd => ?_, ?_⟩
    · obtain ⟨i, rfl⟩ := g d hd
      obtain ⟨i', rfl⟩ := g d' hd'
      rfl
    · obtain ⟨i, rfl⟩ := g d hd
      exact ⟨by simp, by simp⟩
    · obtain ⟨i, rfl⟩ := g d hd
      simp [PyData.depth]
    · clear h2 h
      induction ds with
      | nil => rfl
      | cons d ds ih =>
        obtain ⟨i, rfl⟩ := g d List.mem_cons_self
        have := ih fun d hd => g d (List.mem_cons_of_mem _ hd)
        show (_ && PyData.canLayAll0 ds) = true
        rw [this]
        rfl
theorem each_of_reads {h : Heap} : ∀ {vs : List Value} {ds : List D} {as : List Addr}, ReadsAll h vs ds as → PySem.W.EachIs (fun v d => ∃ as, Reads h v d as) vs ds
  | _, _, _, .nil => .nil
  | _, _, _, .cons r rs => .cons ⟨_, r⟩ (each_of_reads rs)
theorem each_of_vals {K : PySem.W.Frag} {F : Hp} : ∀ {xs : List V} {ds : List D} {us : List Value}, DpAll K F xs ds → Vals xs us → PySem.W.EachIs (fun u d => ∃ x, RelV x u ∧ Dp K F x d) us ds
  | _, _, _, .nil, r => by cases r; exact .nil
  | _, _, _, .cons h t, r => by
    cases r with
    | cons r rs => exact .cons ⟨_, r, h⟩ (each_of_vals t rs)
theorem vals_of_each {K : PySem.W.Frag} {F : Hp} : ∀ {us : List Value} {ds : List D}, PySem.W.EachIs (fun u d => ∃ x, RelV x u ∧ Dp K F x d) us ds → ∃ ys, Vals ys us ∧ DpAll K F ys ds
  | _, _, .nil => ⟨[], .nil, .nil⟩
  | _, _, .cons ⟨x, h1, h2⟩ t => by
    obtain ⟨ys, g1, g2⟩ := vals_of_each t
    exact ⟨x :: ys, .cons h1 g1, .cons h2 g2⟩
theorem call_sortD (hu : X.A.units + 64 < cLine) : CallR X (.builtin "sorted") (rSortD X.K) := by
  intro pins s σ H vs us Q I r h
  obtain ⟨a, F, xs, ds, rfl, fh, hs, hd, hk, q⟩ := h
  obtain ⟨h1, h2, h3, h4, h5⟩ := sort_alike hk
  obtain ⟨its, rv, hl, _⟩ := I.list hs
  rw [Vals.ref1 r]
  obtain ⟨as, ra⟩ := L2.Dp.readsAll I ds _ _ (dpa_lib ds xs h5 (dpa_mono fh _ _ hd)) rv
  refine PySem.W.sorted_data (R := fun u d => ∃ x, RelV x u ∧ Dp X.K F x d) (enc := id) (bs := ds) hl.isList (each_of_vals hd rv) (each_of_reads ra) (by rw [List.map_id]; exact h1) (by rw [List.map_id]; exact h2) h3 (fun b hb => ?_) fun out ho he => ?_
  · have := h4 b hb
    show X.A.units + 2 + b.depth < cLine
    omega
  · obtain ⟨ep, he'⟩ := PyProof.Rows.sortedAll_at s.heap its out.toArray
    obtain ⟨ys, g1, g2⟩ := vals_of_each he
    have hlen : ys.length ≤ sizeLine := by rw [dpa_len g2, List.length_mergeSort]; exact h3
    exact ⟨.ref _, upd H (s.heap.objs.size + 1) (.lst ys), I.laid (t' := s.toks) (fun _ _ => PyProof.Rows.sortedAll_old) (Nat.le_succ _) ⟨hlen, out, ep, g1, he'⟩, rfl, q ys _ g2 (I.hok.fresh (Nat.le_succ _))⟩
theorem b_sorted {K : PySem.W.Frag} : B1 K (rSortD K) fSorted := by
  intro G δ σ F H x d z Q hK k hx ez q
  subst hK
  cases d with
  | list ds =>
    obtain ⟨p, vs, rfl, h1, h2⟩ := hx.list k.fh
    have ez : (match okSort ds with | true => some (Vl.own (.lst (ds.mergeSort leD))) | false => none) = some z := ez
    cases eo : okSort ds with
    | false => rw [eo] at ez; cases ez
    | true =>
      rw [eo] at ez
      cases ez
      exact ⟨_, F, vs, ds, rfl, k.fh, SqL.of h1, h2, eo, fun ys p hy => q.newL k hy p⟩
  | _ => cases ez
theorem pd_sorted {p : Pos} (hm : X.mg "sorted" = none) (hu : X.A.units + 64 < cLine) (ha : PE X e (up C ta)) (hK : C.K = X.K := by rfl) (hcall : ∀ (r : List V → Hp → VK → Prop) (te : TE), X.mg "sorted" = none → CallR X (.builtin "sorted") r → PE X e te → PE X (.Call (.Name "sorted" p) [e] [] pos) (tCB r (tCons te tNil)) := by exact fun _ _ hm0 h1 h2 => pe_callB h1 (by rfl) hm0 (by decide +kernel) (pa_cons h2 pa_nil)) :
    PE X (.Call (.Name "sorted" p) [e] [] pos) (up C (dUn fSorted ta)) := pe_weak (hcall _ _ hm (call_sortD hu) ha) (by rw [← hK]; exact rf_b1 b_sorted)
end
end DL

set_option Elab.async false
set_option linter.all false
set_option maxRecDepth 100000
set_option autoImplicit false
namespace DL
open PySem PySem.Spec PyProof.Rows L2
section
variable {X : Cx} {C : Cf} {e a b c : Expr} {ta tb tc : De} {pos : Pos}
/-! ### xs.extend(e) -/
def fExt (es ds : List D) : Option (List D) := okO (small (ds.length + es.length)) (some (ds ++ es))
def extD (i : Nat) (d : D) (δ : DS) : R Out := match d with
  | .list es => mutL i (fExt es) δ
  | _ => .bad
def dExt (i : Nat) (a : De) : Ds := fun δ => okIf (isLst i δ) ((a δ).bind fun x δ1 => (kp x δ1).bind fun d δ2 => extD i d δ2)
theorem pds_ext (i : Nat) {x : Str} {p1 p2 p3 : Pos} (ha : PE X e (up C ta)) (hN : X.N[i]? = some x := by rfl) (hv : Vis X.env.scope x := by first | exact Or.inl rfl | exact Or.inr (Or.inl rfl) | exact Or.inr (Or.inr rfl)) (hd : (x == ("__debug__" : Str)) = false := by decide)
    (hcd : (x == ("__classdict__" : Str)) = false := by decide) (hw : swapsWith (.Call (.Attribute (.Name x p1) "extend" p2) [e] [] p3) none pos.line X.env = pure false := by rfl)
    (hcall : ∀ (to te : TE), PE X (.Name x p1) to → PE X e te → PE X (.Call (.Attribute (.Name x p1) "extend" p2) [e] [] p3) (tBM X.K "list" rExtend to (tCons te tNil)) := by exact fun _ _ h1 h2 => pe_bm PySem.F.plainAttrs_list PySem.F.slot_list_extend PySem.F.type_list_extend mt_extend h1 (pa_cons h2 pa_nil)) :
    PS X (.Expr (.Call (.Attribute (.Name x p1) "extend" p2) [e] [] p3) pos) (ups C (dExt i ta)) := by
  refine ps_weak (ps_expr (hcall _ _ (pe_var hN hv hd hcd) ha) hw) fun D σ H ⟨G, δ, F, hC, k, h⟩ => ?_
  subst hC
  obtain ⟨z, h⟩ := okIf_finS h
  obtain ⟨p, vs, e1, e2⟩ := isLst_held k z
  refine ⟨.ref p, e1, .inl ⟨rfl, vs, SqL.of e2⟩, G, δ, F, rfl, k, finS_bind h fun x δ1 v F1 H1 k1 g1 w1 h1 => ?_⟩
  obtain ⟨d, δ2, F2, k2, g2, w2, h2⟩ := kp_bindS k1 h1 w1
  cases d with
  | list es =>
    have h2 : finS G (mutL i (fExt es) δ2) F2 D := h2
    cases w2 with
    | @lst q zs _ f2 al =>
      obtain ⟨s, ds, l, q1, q2, q3, h3⟩ := mutL_fin h2
      obtain ⟨p', o, a1, a2, a3, vs', rfl, a4⟩ := k2.held q1 q2
      rw [e1] at a1
      cases a1
      obtain ⟨z1, z2⟩ := okO_some q3
      cases z2
      exact ⟨p, q, vs', zs, rfl, rfl, a2, k2.fh _ _ f2, by rw [dpa_len a4, dpa_len al]; exact small_line z1, h3 σ F2 _ (k2.change q1 q2 e1 ⟨_, rfl, dpa_app a4 al⟩) (Same.refl F2)⟩
  | _ => exact h2.elim
end
/-! ### a def that raises nothing: of what it leaves only its lists by reference are told -/
def trim : List Sl → DS → DS
  | .arg _ :: as, s :: δ => s :: trim as δ
  | _ :: as, _ :: δ => .no :: trim as δ
  | _, _ => []
theorem trim_at : ∀ {as : List Sl} {δ : DS} {i : Nat} {c c' : Co}, as[i]? = some (.arg c) → δ[i]? = some (.arg c') → (trim as δ)[i]? = some (.arg c')
  | [], _, _, _, _, h, _ => by simp at h
  | _ :: _, [], _, _, _, _, h => by simp at h
  | a :: as, s :: δ, 0, c, c', h, h' => by
    have h : a = .arg c := by simpa using h
    have h' : s = .arg c' := by simpa using h'
    subst h h'
    rfl
  | a :: as, s :: δ, i + 1, c, c', h, h' => by
    have z := trim_at (as := as) (δ := δ) (i := i) (by simpa using h) (by simpa using h')
    cases a <;> simpa [trim] using z
def noEx (as : List Sl) (r : R Vl) : R Vl := match r with
  | .ok v δ => .ok v (trim as δ)
  | _ => .bad
def noX (r : R Vl) : R Vl := match r with
  | .ok v δ => .ok v δ
  | _ => .bad
theorem noX_ok {r : R Vl} (h : noX r ≠ .bad) : r = noX r ∧ ∀ c δ, noX r ≠ .ex c δ := by
  cases r with
  | ok v δ => exact ⟨rfl, fun c δ e => by cases e⟩
  | ex c δ => exact absurd rfl h
  | bad => exact absurd rfl h
theorem dsp_trim {K : PySem.W.Frag} {den : List Sl → R Vl} {vs : List V} {H : Hp} {Q : VK} {E : XK} (h : dsp K (fun as => noEx as (den as)) vs H Q E) : dsp K (fun as => noX (den as)) vs H Q E := by
  obtain ⟨F, as, fh, wa, h⟩ := h
  refine ⟨F, as, fh, wa, ?_⟩
  have h : dspM K F as vs H Q E (noEx as (den as)) := h
  show dspM K F as vs H Q E (noX (den as))
  cases e : den as with
  | bad => rw [e] at h; exact h.elim
  | ex c δ => rw [e] at h; exact h.elim
  | ok v δ =>
    rw [e] at h
    intro u F' H' P r
    refine h u F' H' ⟨P.ff, P.fh, P.hh, P.fn, fun i c p h1 h2 => ?_⟩ r
    obtain ⟨c', o', g1, g2⟩ := P.ar i c p h1 h2
    exact ⟨c', o', trim_at h1 g1, g2⟩
section
variable {P : Program} {w : World} {K : PySem.W.Frag} {mg : Str → Option Value} {base : Heap}
theorem fn_n {x qual : Str} {st : Stmt} {f : Addr} {fd : FuncData} {N ps : List Str} {k : Nat} {sd : Ds} (Fu : Fun K x qual st f fd) (S : FnScope N ps (defScope st))
    (hb : ∀ (cdv : Value) (A : Around) (outer : List Env) (s : Shared) (H : Hp) (E : XK), Room k (A.deeper (envOfC qual (defScope st) s.heap.objs.size f cdv)) → PSs (cxOf CX0 P w K mg base N qual (defScope st) f cdv A outer s H E).nox (defBody st) (ups (noxC K) sd)) :
    FnOk P w K mg base CX0 (k + 1) f fd ps (dsp K fun as => noEx as (runDef ps.length N.length sd as)) := (fn_d Fu S hb (fun as => noX (runDef ps.length N.length sd as)) fun as h => noX_ok h).imp fun _ _ _ _ h => dsp_trim h
/-- what stands of a def at its name -/
structure Dfn (K : PySem.W.Frag) (mg : Str → Option Value) (x : Str) (st : Stmt) (ps : List Str) : Prop where
  ex : ∃ (f : Addr) (fd : FuncData), Fun K x x st f fd ∧ mg x = some (.ref f) ∧ PySem.W.keepIn K (.ref f) = true ∧ Binds K fd ps []
theorem cal_of {x : Str} {st : Stmt} {ps : List Str} {k : Nat} {den : List Sl → R Vl} (D : Dfn K mg x st ps) (h : ∀ (f : Addr) (fd : FuncData), Fun K x x st f fd → FnOk P w K mg base CX0 k f fd ps (dsp K den)) : Cal P w K mg base k x ps den := by
  obtain ⟨f, fd, F, a, b, c⟩ := D.ex
  exact ⟨f, fd, h f fd F, a, b, c⟩
theorem law_sp {H : Hp} {a : Addr} {ns : List Int} {den : List Sl → R Vl} {E : XK} {Q : VK} (hS : SqL K H a (ns.map V.int)) (h : ∃ δ, den [.fz (.dict [(.none, .list (ns.map PyData.int))])] = .ok (.fz (.bool true)) δ) (hQ : ∀ H', Q (.bl true) H') : dsp K den [.ref a] H Q E := by
  obtain ⟨δ, e⟩ := h
  refine ⟨H, [.fz (.dict [(.none, .list (ns.map PyData.int))])], Same.refl H, ⟨rfl, fun i s ei => ?_, fun i j c d p hij e1 e2 _ _ => ?_⟩, ?_⟩
  · cases i with
    | zero => cases ei; exact ⟨_, rfl, .scr hS⟩
    | succ i => simp at ei
  · cases i with
    | zero => cases e1
    | succ i => simp at e1
  · rw [e]
    intro v F' H' _ r
    cases r
    exact hQ H'
end
/-- how often a while goes on at most -/
def fuelW : Nat := 100000
/-- how deep a def calls itself at most -/
def fuelR : Nat := 20
/-- a def that calls itself: how deep -/
def itN (f : (List Sl → R Vl) → List Sl → R Vl) : Nat → List Sl → R Vl
  | 0 => fun _ => .bad
  | n + 1 => f (itN f n)
end DL

set_option Elab.async false
set_option linter.all false
set_option maxRecDepth 100000
set_option autoImplicit false
/-! what is shown by repr, and a law whose own rows show something: nothing may be under way of being shown around it -/
namespace DL
open PySem PySem.Spec PyProof.Rows L2
/-! ### repr -/
def isSq : D → Bool
  | .list _ => true
  | .tuple _ => true
  | _ => false
def okShow (d : D) : Bool := d.layable0 && d.showable && d.intsShort 13 && !d.hasDict
def fRepr (d : D) : Option Vl := okO (isSq d && okShow d) (some (.fz (.str d.shown)))
def rShow (K : PySem.W.Frag) : List V → Hp → VK → Prop := fun vs H Q => ∃ (p : Addr) (d : D), vs = [V.ref p] ∧ L2.Dp K H (.ref p) d ∧ okShow d = true ∧ Q (.str d.shown) H
section
variable {X : Cx} {C : Cf} {e a b : Expr} {ta tb : De} {pos : Pos} {k : Nat}
theorem lay_parts {d : D} (h : d.layable0 = true) : d.canLay0 = true ∧ d.depth ≤ 64 := by
  unfold PyData.layable0 at h
  rw [Bool.and_eq_true, Bool.and_eq_true] at h
  exact ⟨h.1.1, of_decide_eq_true h.1.2⟩
theorem call_show (hg : X.A.guards = some []) (hu : X.A.units + 100 < cLine) : CallR X (.builtin "repr") (rShow X.K) := by
  intro pins s σ H vs us Q I r h
  obtain ⟨p, d, rfl, hd, ho, q⟩ := h
  unfold okShow at ho
  rw [Bool.and_eq_true, Bool.and_eq_true, Bool.and_eq_true] at ho
  obtain ⟨⟨⟨o1, o2⟩, o3⟩, o4⟩ := ho
  have od : d.hasDict = false := by simpa using o4
  obtain ⟨c1, c2⟩ := lay_parts o1
  rw [Vals.ref1 r]
  obtain ⟨as, ra⟩ := L2.Dp.reads I d _ _ hd (show RelV (.ref p) (.ref p) from rfl)
  exact PySem.repr_of_reads' ra o2 (fun z => by rw [od] at z; cases z) hg (by omega) (fun _ _ z => z) (fun h' u tk hk => ⟨.str d.shown, H, I.kept hk, ⟨_, rfl⟩, q⟩) (PySem.PyData.shown_fits_of_layable0 (B := 13) (by decide) (by decide) o1 o3)
theorem b_show {K : PySem.W.Frag} : B1 K (rShow K) fRepr := by
  intro G δ σ F H x d z Q hK k hx ez q
  subst hK
  unfold fRepr at ez
  cases eo : (isSq d && okShow d) with
  | false => rw [eo] at ez; cases ez
  | true =>
    rw [eo] at ez
    cases ez
    rw [Bool.and_eq_true] at eo
    obtain ⟨e1, e2⟩ := eo
    have c0 : d.canLay0 = true := by
      have e3 := e2
      unfold okShow at e3
      rw [Bool.and_eq_true, Bool.and_eq_true, Bool.and_eq_true] at e3
      exact (lay_parts e3.1.1.1).1
    have hd := hx.dp k.fh
    have : ∃ p, x = .ref p := by
      cases d with
      | list ds => obtain ⟨p, vs, rfl, _⟩ := hx.list k.fh; exact ⟨p, rfl⟩
      | tuple ds => obtain ⟨p, vs, rfl, _⟩ := hx.tup; exact ⟨p, rfl⟩
      | _ => cases e1
    obtain ⟨p, rfl⟩ := this
    exact ⟨p, d, rfl, dp_lib d _ c0 hd, e2, q.fz k (.str _)⟩
theorem pd_repr {p : Pos} (hm : X.mg "repr" = none) (hg : X.A.guards = some []) (hr : Room k X.A) (ha : PE X e (up C ta)) (hK : C.K = X.K := by rfl) (hcall : ∀ (r : List V → Hp → VK → Prop) (te : TE), X.mg "repr" = none → CallR X (.builtin "repr") r → PE X e te → PE X (.Call (.Name "repr" p) [e] [] pos) (tCB r (tCons te tNil)) := by exact fun _ _ hm0 h1 h2 => pe_callB h1 (by rfl) hm0 (by decide +kernel) (pa_cons h2 pa_nil)) :
    PE X (.Call (.Name "repr" p) [e] [] pos) (up C (dUn fRepr ta)) := pe_weak (hcall _ _ hm (call_show hg (by have := hr.un; omega)) ha) (by rw [← hK]; exact rf_b1 b_show)
/-! ### texts that are alike or not -/
def fNeS : D → D → Option Vl
  | .str x, .str y => some (.fz (.bool (!decide (x = y))))
  | _, _ => none
theorem o_neS {K : PySem.W.Frag} : Op2 K rNe fNeS := by
  intro G δ σ F H x y d e z Q hK k hx hy ez q
  cases d with
  | str i =>
    cases e with
    | str j =>
      have e1 := hx.str
      have e2 := hy.str
      subst e1 e2
      cases ez
      refine ⟨rfl, ?_⟩
      have := q.fz k (.bl _)
      rw [show (decide (V.str i = V.str j)) = decide (i = j) from by simp]
      exact this
    | _ => cases ez
  | _ => cases ez
theorem pd_neS (ha : PE X a (up C ta)) (hb : PE X b (up C tb)) : PE X (.Compare a [.NotEq] [b] pos) (up C (dBin fNeS ta tb)) := pd_cmp op_ne o_neS ha hb (nomark _)
theorem ptd_neS (ha : PE X a (up C ta)) (hb : PE X b (up C tb)) : PT X (.Compare a [.NotEq] [b] pos) (upT C (dTest (dBin fNeS ta tb))) := pdt_cmp op_ne o_neS ha hb (nomark _)
end
section
variable {P : Program} {w : World} {K : PySem.W.Frag} {mg : Str → Option Value} {base : Heap} {k j : Nat} {x : Str} {st : Stmt} {ps : List Str} {den : List Sl → R Vl}
theorem Cal.mono (c : Cal P w K mg base j x ps den) (h : j ≤ k) : Cal P w K mg base k x ps den := by
  obtain ⟨f, fd, F, a, b, d⟩ := c.ex
  exact ⟨f, fd, F.mono h, a, b, d⟩
theorem dsp_bad {vs : List V} {H : Hp} {Q : VK} {E : XK} (h : dsp K (fun _ => .bad) vs H Q E) : False := by
  obtain ⟨F, as, fh, wa, h⟩ := h
  exact h
theorem cal_none (D : Dfn K mg x st ps) : Cal P w K mg base k x ps (fun _ => .bad) := cal_of D fun f fd _ => ⟨fun vs H Q E h => (dsp_bad h).elim, fun A outer s H args us vs Q E _ _ _ _ h => (dsp_bad h).elim⟩
end
end DL

set_option Elab.async false
set_option linter.all false
set_option maxRecDepth 100000
set_option autoImplicit false
namespace DL
open PySem PySem.Spec PyProof.Rows L2
/-! ### a def that is called where nothing is being shown -/
section
variable {P : Program} {w : World} {K : PySem.W.Frag} {mg : Str → Option Value} {base : Heap}
/-- a def's promise at calls around which nothing is being shown -/
structure FnQ (P : Program) (w : World) (K : PySem.W.Frag) (mg : Str → Option Value) (base : Heap) (k : Nat) (f : Addr) (fd : FuncData) (ps : List Str) (sp : Sp) : Prop where
  arity : ∀ vs H Q E, sp vs H Q E → vs.length = ps.length
  go : ∀ (B : Around) (above : List Env) (t : Shared) (H : Hp) (given : Args) (us : List Value) (vs : List V) (Q : VK) (E : XK), B.guards = some [] → Room k B → Env0 P w K mg base B above t H → BindsTo t fd given (ps.zip us) →
    Vals vs us → sp vs H Q E → codeAny (model P w) B (.call (.ref f) given) (CR CX0 above P w H t Q E) t
theorem fnq_of {x qual : Str} {st : Stmt} {f : Addr} {fd : FuncData} {N ps : List Str} {k : Nat} {sp : Sp} (Fu : Fun K x qual st f fd) (S : FnScope N ps (defScope st)) (ar : ∀ vs H Q E, sp vs H Q E → vs.length = ps.length)
    (hb : ∀ (cdv : Value) (B : Around) (above : List Env) (t : Shared) (H : Hp) (vs : List V) (Q : VK) (E : XK), B.guards = some [] → Room k (B.deeper (envOfC qual (defScope st) t.heap.objs.size f cdv)) → sp vs H Q E →
      ∃ r, PSs (cxOf CX0 P w K mg base N qual (defScope st) f cdv B above t H E).nox (defBody st) r ∧ r { nx := fun _ H' => Q .non H', rt := Q } (start N vs) H) : FnQ P w K mg base (k + 1) f fd ps sp := by
  obtain ⟨oc, od, kV, doc, pm, an, cdv, ct, osl, rfl, lk, hcd⟩ := Fu.ex
  refine ⟨ar, fun B above t H given us vs Q E hg hr e0 bt rv hs => ?_⟩
  have hn := ar _ _ _ _ hs
  have KX : K.In t.heap := e0.mod.kin.keeps fun b o z => (e0.bs b o z).1
  have nl : t.heap.NoLimit := e0.mod.nolimit.keeps fun b o z => (e0.bs b o z).1
  refine codeAny_call_function hr.depth (KX _ _ lk) rfl S.co S.gen rfl (PySem.W.codeRec_of KX hcd) (bt _ _ _ _ ?_)
  refine wpAny_newFunctionEnv_cells S.kind (fun ⟨n, v⟩ hy => ?_) fun env he t1 y => ?_
  · rcases S.par n (List.of_mem_zip hy).1 with z | z
    · exact .inl z
    · exact .inr ⟨z, PySem.W.cellsFrom_some _ _ _ (.inl z)⟩
  · subst he
    refine ⟨nl.keeps y.toInCall.keep, codeAny_func ?_⟩
    obtain ⟨r, hr1, hr2⟩ := hb cdv B above t H vs Q E hg (hr.deeper _) hs
    have I0 := inv_start (CX := CX0) (E := E) S hr.hd e0 hn rv y
    refine wpAny_mono (hr1.nox.run [] t1 (start N vs) H _ I0 hr2) (fun fl t2 hq => ?_) fun c t2 hq => hq
    cases fl with
    | brk => obtain ⟨_, _, _, z⟩ := hq; exact z.elim
    | cont => obtain ⟨_, _, _, z⟩ := hq; exact z.elim
    | ret u =>
      obtain ⟨v, σ1, H1, J, z, q⟩ := hq
      exact ⟨v, H1, J.os, J.bare, J.base, J.hok, z, q⟩
    | next =>
      obtain ⟨σ1, H1, J, q⟩ := hq
      exact ⟨V.non, H1, J.os, J.bare, J.base, J.hok, rfl, q⟩
/-- .. that raises nothing, by its body over data -/
theorem fnq_n {x qual : Str} {st : Stmt} {f : Addr} {fd : FuncData} {N ps : List Str} {k : Nat} {sd : Ds} (Fu : Fun K x qual st f fd) (S : FnScope N ps (defScope st))
    (hb : ∀ (cdv : Value) (B : Around) (above : List Env) (t : Shared) (H : Hp) (E : XK), B.guards = some [] → Room k (B.deeper (envOfC qual (defScope st) t.heap.objs.size f cdv)) → PSs (cxOf CX0 P w K mg base N qual (defScope st) f cdv B above t H E).nox (defBody st) (ups (noxC K) sd)) :
    FnQ P w K mg base (k + 1) f fd ps (dsp K fun as => noEx as (runDef ps.length N.length sd as)) := by
  have conv : ∀ vs H Q E, dsp K (fun as => noEx as (runDef ps.length N.length sd as)) vs H Q E → dsp K (runDef ps.length N.length sd) vs H Q E0 := fun vs H Q E h => by
    obtain ⟨F, as, fh, wa, h⟩ := dsp_trim h
    have h : dspM K F as vs H Q E (noX (runDef ps.length N.length sd as)) := h
    have nb : noX (runDef ps.length N.length sd as) ≠ .bad := fun z => by rw [z] at h; exact h
    obtain ⟨e, ne⟩ := noX_ok nb
    refine ⟨F, as, fh, wa, ?_⟩
    rw [e]
    cases ed : noX (runDef ps.length N.length sd as) with
    | ok r δ => rw [ed] at h; exact h
    | ex c δ => exact absurd ed (ne c δ)
    | bad => exact absurd ed nb
  refine fnq_of Fu S (fun vs H Q E h => dsp_len (conv vs H Q E h)) fun cdv B above t H vs Q E hg hr h => ⟨_, hb cdv B above t H E hg hr, ?_⟩
  exact ends_of (C := noxC K) (fun _ _ _ z => z) rfl (conv vs H Q E h)
end
end DL

set_option Elab.async false
set_option linter.all false
set_option maxRecDepth 100000
set_option autoImplicit false
namespace DL
open PySem PySem.Spec PyProof.Rows L2
section
variable {P : Program} {w : World} {K : PySem.W.Frag} {mg mb : Str → Option Value} {k : Nat} {fa a : Addr} {fd : FuncData} {x : Str} {sp : Sp} {t : Shared} {vs : List Value} {ns : List Int}
/-- what the outermost call of a law comes to -/
abbrev Tells (t : Shared) : Result → Shared → Prop := fun r t' => r = .ok (.ret (.bool true)) ∧ OldK t.heap t'.heap ∧ t'.os = t.os ∧ AllBare t'.gens
theorem top_core (KX : K.In t.heap) (g1 : t.heap.Ns mainGlobals mg) (g2 : t.heap.Ns builtinsNs mb) (g3 : ∀ y : Str, y ≠ "__name__" → mb y = bootBuiltins y) (g4 : t.heap.NoLimit) (g5 : t.gens = #[])
    (la : t.heap.get? a = some { cls := .type "list", data := .seq vs.toArray }) (hr : Room k callerA) (F : ∀ base : Heap, K.In base → base.Ns mainGlobals mg → FnQ P w K mg base k fa fd [x] sp)
    (bd : ∀ (s : Shared) (u : Value), BindsTo s fd ⟨[u], []⟩ [(x, u)]) {H : Hp} (only : Only H) (one : ∀ b, H b ≠ none → b = a) (ok : HOk P w H t.heap) (out : H a ≠ none → K.lookup a = none)
    (hs : sp [.ref a] H (fun v _ => v = .bl true) fun _ _ _ => False) : codeAny (model P w) callerA (.call (.ref fa) ⟨[.ref a], []⟩) (Tells t) t := by
  have stay : ∀ {b : Addr} {o : Obj}, t.heap.get? b = some o → H b = none → (hidT t.heap H).get? b = some o := fun z n => hidT_get z n
  have none_of : ∀ {b : Addr} {o : Obj} {es : Array DictEntry} {ep : Nat}, t.heap.get? b = some o → o.data = .dict es ep → H b = none := fun {b o es ep} z d => by
    rcases hc : H b with _ | u
    · rfl
    · obtain rfl := one b (by rw [hc]; exact fun z => nomatch z)
      rw [la] at z
      cases z
      exact nomatch (show Data.seq vs.toArray _ = Data.dict es ep from d)
  have names : ∀ {b : Addr} {m : Str → Option Value}, t.heap.Ns b m → (hidT t.heap H).Ns b m := fun {b m} ⟨o, es, ep, z, d, r⟩ => ⟨o, es, ep, stay z (none_of z d), d, r⟩
  have kin : K.In (hidT t.heap H) := fun b o z => by
    refine stay (KX b o z) ?_
    rcases hc : H b with _ | u
    · rfl
    · obtain rfl := one b (by rw [hc]; exact fun z => nomatch z)
      rw [out (by rw [hc]; exact fun z => nomatch z)] at z
      cases z
  have md : Mod K mg (hidT t.heap H) := by
    obtain ⟨mc, h1, h2⟩ := g4
    exact ⟨kin, names g1, ⟨mb, names g2, g3⟩, ⟨mc, names h1, h2⟩⟩
  have e0 : Env0 P w K mg (hidT t.heap H) callerA [] t H := by
    refine ⟨rfl, md, fun b o z => of_hidT z, Nat.le_of_eq (hidT_size _ _), trivial, fun b hb => ?_, ok, .of_eq g5⟩
    exact nomatch (show b ∈ ([] : List Addr) from hb)
  have run := (F _ kin (names g1)).go callerA [] t H ⟨[.ref a], []⟩ [.ref a] [.ref a] _ _ rfl hr e0 (bd t (.ref a)) (.cons rfl .nil) hs
  refine codeAny_mono run fun r t' hq => ?_
  rcases r with e | fl
  · exact False.elim hq
  · rcases fl with _ | _ | _ | u
    · exact False.elim hq
    · exact False.elim hq
    · exact False.elim hq
    · obtain ⟨v, H', q1, q2, un, ok', rv, q3⟩ := hq
      have q3 : v = .bl true := q3
      subst q3
      have rv : u = Value.bool true := rv
      subst rv
      refine ⟨rfl, OldK.of_keep fun b o z => ?_, q1, q2⟩
      rcases hc : H b with _ | y
      · exact un.keep b o z hc (fun n => nomatch (show b ∈ ([] : List Addr) from n)) (by simp)
      · rcases only b with n | ⟨ob, xs, n⟩
        · rw [hc] at n
          cases n
        · obtain ⟨z1, _⟩ := ok b _ n
          obtain ⟨z2, _⟩ := ok' b _ (un.frzs b ob _ n)
          rw [z] at z1
          cases z1
          exact z2
theorem top_call (KX : K.In t.heap) (g1 : t.heap.Ns mainGlobals mg) (g2 : t.heap.Ns builtinsNs mb) (g3 : ∀ y : Str, y ≠ "__name__" → mb y = bootBuiltins y) (g4 : t.heap.NoLimit) (g5 : t.gens = #[])
    (la : t.heap.get? a = some { cls := .type "list", data := .seq vs.toArray }) (iv : IntsAre vs ns) (hl : ns.length ≤ sizeLine) (hr : Room k callerA) (F : ∀ base : Heap, K.In base → base.Ns mainGlobals mg → FnQ P w K mg base k fa fd [x] sp)
    (bd : ∀ (s : Shared) (u : Value), BindsTo s fd ⟨[u], []⟩ [(x, u)]) (hs : ∀ H : Hp, Only H → SqL K H a (ns.map V.int) → sp [.ref a] H (fun v _ => v = .bl true) fun _ _ _ => False) :
    codeAny (model P w) callerA (.call (.ref fa) ⟨[.ref a], []⟩) (Tells t) t := by
  have rv := vals_ints iv
  have lv := iv.length
  rcases hk : K.lookup a with _ | o
  · let H : Hp := fun b => if b = a then some (.frz { cls := .type "list", data := .seq vs.toArray } (.lst (ns.map V.int))) else none
    have at_a : H a = some (.frz { cls := .type "list", data := .seq vs.toArray } (.lst (ns.map V.int))) := if_pos rfl
    have not_a : ∀ b, b ≠ a → H b = none := fun b hb => if_neg hb
    have only : Only H := fun b => by
      by_cases hb : b = a
      · exact .inr ⟨_, _, by rw [hb]; exact at_a⟩
      · exact .inl (not_a b hb)
    refine top_core KX g1 g2 g3 g4 g5 la hr F bd only (fun b n => ?_) (fun b u z => ?_) (fun _ => hk) (hs H only (.inl (.inr ⟨_, at_a⟩)))
    · by_cases hb : b = a
      · exact hb
      · exact absurd (not_a b hb) n
    · by_cases hb : b = a
      · subst hb
        rw [at_a] at z
        cases z
        exact ⟨la, by rw [List.length_map]; exact hl, vs, _, rv, la⟩
      · rw [not_a b hb] at z
        cases z
  · have z := KX a o hk
    rw [la] at z
    cases z
    have only : Only fun _ => none := fun _ => .inl rfl
    refine top_core KX g1 g2 g3 g4 g5 la hr F bd only (fun b n => absurd rfl n) (fun b u z => nomatch (show (none : Option HO) = some u from z)) (fun n => absurd rfl n) (hs _ only ?_)
    exact .inr ⟨_, vs.toArray, _, hk, rfl, rfl, rfl, by rw [List.size_toArray, lv]; exact hl, by simpa using rv⟩
end
/-- a law's end, where its own rows show something -/
theorem walk_q {l : PySem.W.OpenLaw} {n k : Nat} {q : Program} {loose : List Str} {XP : (Str → Option Value) → Heap → Prop} {YP : World → Heap → Prop} {d : DefRec} {K : Params → PySem.W.Frag} {sp : World → Sp} {x : Str}
    (hn : l.most = some n) (h2 : n ≤ sizeLine) (hd : d.params.defaults = []) (hr : Room k callerA) (hY : ∀ (w : World) (h : Heap), YP w h → (K w.params).In h)
    (F : ∀ (w : World) (mg : Str → Option Value) (fa : Addr) (h : Heap), (K w.params).In h → h.Ns mainGlobals mg → mg d.name = some (.ref fa) →
      ∃ fd : FuncData, (∀ (s : Shared) (u : Value), BindsTo s fd ⟨[u], []⟩ [(x, u)]) ∧ ∀ base : Heap, (K w.params).In base → base.Ns mainGlobals mg → FnQ l.prog w (K w.params) mg base k fa fd [x] (sp w))
    (hs : ∀ (w : World) (H : Hp) (a : Addr) (ns : List Int), ns.length ≤ n → Only H → SqL (K w.params) H a (ns.map V.int) → sp w [.ref a] H (fun v _ => v = .bl true) fun _ _ _ => False) :
    PySem.W.WalkO q loose XP YP l.row.toRowW d [] (fun f vs => PySem.call f vs) := by
  refine Att.attach_call hn hd fun w s0 t mg mb fa o pm cd doc a vs ns G Y ho hf hc hm la iv len hg => ?_
  obtain ⟨fd, bd, Fn⟩ := F w mg fa _ (hY w _ Y) G.T.g hm
  exact top_call (hY w _ Y) G.T.g G.T.b G.T.builtins G.T.nolimit hg la iv (Nat.le_trans len h2) hr Fn bd fun H only z => hs w H a ns len only z
end DL

set_option Elab.async false
set_option linter.all false
set_option maxRecDepth 100000
set_option autoImplicit false
/-! a def that empties all lists within what it is given: its promise over plain things that lie in a part of the heap -/
namespace DL
open PySem PySem.Spec PyProof.Rows L2
mutual
/-- all that lies within a thing, itself too -/
def subs : D → List D
  | .list ds => .list ds :: subsL ds
  | .tuple ds => .tuple ds :: subsL ds
  | d => [d]
def subsL : List D → List D
  | [] => []
  | d :: ds => subs d ++ subsL ds
end
mutual
/-- how deep lists and tuples lie within one another -/
def dep : D → Nat
  | .list ds => depL ds + 1
  | .tuple ds => depL ds + 1
  | _ => 0
def depL : List D → Nat
  | [] => 0
  | d :: ds => max (dep d) (depL ds)
end
theorem dep_mem : ∀ {ds : List D} {d : D}, d ∈ ds → dep d ≤ depL ds
  | [], _, h => by cases h
  | e :: ds, d, h => by
    unfold depL
    rcases List.mem_cons.mp h with z | z
    · subst z; exact Nat.le_max_left _ _
    · exact Nat.le_trans (dep_mem z) (Nat.le_max_right _ _)
theorem lay_mem : ∀ {ds : List D} {d : D}, PyData.canLayAll0 ds = true → d ∈ ds → d.canLay0 = true
  | [], _, _, h => by cases h
  | e :: ds, d, c, h => by
    have c : (e.canLay0 && PyData.canLayAll0 ds) = true := c
    rw [Bool.and_eq_true] at c
    rcases List.mem_cons.mp h with z | z
    · subst z; exact c.1
    · exact lay_mem c.2 z
/-- H holds what F holds, some of F's lists emptied -/
def Near (F H : Hp) : Prop := ∀ b o, F b = some o → H b = some o ∨ ((∃ xs, o = .lst xs) ∧ H b = some (.lst []))
/-- what stood at H stands at H', but for F's lists -/
def Past (F H H' : Hp) : Prop := ∀ b o, H b = some o → (∀ xs, F b ≠ some (.lst xs)) → H' b = some o
theorem Past.refl (F H : Hp) : Past F H H := fun _ _ h _ => h
theorem Past.trans {F H H1 H2 : Hp} (a : Past F H H1) (b : Past F H1 H2) : Past F H H2 := fun p o h n => b p o (a p o h n) n
theorem Near.new {F H : Hp} {p : Addr} {o : HO} (n : Near F H) (h : H p = none) : Near F (upd H p o) := fun b u e => by
  have hb : b ≠ p := fun z => by
    subst z
    rcases n b u e with q | ⟨_, q⟩ <;> rw [h] at q <;> cases q
  rw [upd_ne hb]
  exact n b u e
theorem Past.new {F H : Hp} {p : Addr} {o : HO} (h : H p = none) : Past F H (upd H p o) := fun b u e _ => by
  rw [upd_ne (ne_of_none e h)]
  exact e
theorem Near.clear {F H : Hp} {p : Addr} {xs : List V} (n : Near F H) (h : F p = some (.lst xs)) : Near F (upd H p (.lst [])) := fun b u e => by
  by_cases hb : b = p
  · subst hb
    rw [h] at e
    cases e
    exact .inr ⟨⟨_, rfl⟩, upd_same⟩
  · rw [upd_ne hb]
    exact n b u e
theorem Past.clear {F H : Hp} {p : Addr} {xs : List V} (h : F p = some (.lst xs)) : Past F H (upd H p (.lst [])) := fun b u e z => by
  rw [upd_ne (fun q => by subst q; exact z _ h)]
  exact e
theorem ty_near {K : PySem.W.Frag} {F H : Hp} {v : V} {d : D} (h : Dp K F v d) (c : d.canLay0 = true) (n : Near F H) : TyX K H v (.type (tyD d)) := by
  cases h with
  | non => exact .base .non
  | bl b => exact .base (.bl b)
  | int i => exact .base (.int i)
  | str x => exact .base (.str x)
  | lst a b =>
    rcases n _ _ a with q | ⟨_, q⟩
    · exact .base (.lst q)
    · exact .base (.lst q)
  | tup a b =>
    rcases n _ _ a with q | ⟨⟨_, q⟩, _⟩
    · exact .base (.tup q)
    · cases q
  | dct a b => cases c
  | scr a => cases c
/-- the promise of a def that empties: n is how deep at most -/
def spoilSp (K : PySem.W.Frag) (n : Nat) : Sp := fun vs H Q E => ∃ (F : Hp) (v : V) (d : D), vs = [v] ∧ Dp K F v d ∧ d.canLay0 = true ∧ dep d < n ∧ Near F H ∧ ∀ H', Near F H' → Past F H H' → Q .non H'
/-- a def that stands at its name and keeps such a promise -/
structure CalS (P : Program) (w : World) (K : PySem.W.Frag) (mg : Str → Option Value) (base : Heap) (k : Nat) (x : Str) (ps : List Str) (sp : Sp) : Prop where
  ex : ∃ (f : Addr) (fd : FuncData), FnOk P w K mg base CX0 k f fd ps sp ∧ mg x = some (.ref f) ∧ PySem.W.keepIn K (.ref f) = true ∧ Binds K fd ps []
/-- a call of such a def -/
theorem ps_callS {X : Cx} {k : Nat} {ps : List Str} {x : Str} {sp : Sp} {t : TA} {e : Expr} {es : List Expr} {pos p : Pos} (F : CalS X.prog X.w X.K X.mg X.base k x ps sp) (hr : Room k X.A) (ha : PA X (e :: es) t) (hg : Gl X x := by rfl) (hdb : (x == ("__debug__" : Str)) = false := by decide)
    (he : starEach (e :: es) X.env = (false, eval e X.env) :: starEach es X.env := by rfl) (hpl : (backTo pos (starEach es X.env)).any (·.1) = false := by rfl) :
    PE X (.Call (.Name x p) (e :: es) [] pos) (tCall sp [] E0 t) := by
  obtain ⟨f, fd, Fn, hm, hk, hb⟩ := F.ex
  exact pe_call Fn hr hg hm hk hb .nil pass0 ha hdb he hpl
theorem spoil_bad {K : PySem.W.Frag} {vs : List V} {H : Hp} {Q : VK} {E : XK} (h : spoilSp K 0 vs H Q E) : False := by
  obtain ⟨F, v, d, _, _, _, h, _⟩ := h
  exact absurd h (Nat.not_lt_zero _)
theorem spoil_len {K : PySem.W.Frag} {n : Nat} {vs : List V} {H : Hp} {Q : VK} {E : XK} (h : spoilSp K n vs H Q E) : vs.length = 1 := by
  obtain ⟨F, v, d, rfl, _⟩ := h
  rfl
end DL

set_option Elab.async false
set_option linter.all false
set_option maxRecDepth 100000
set_option autoImplicit false
/-! what stands while lists elsewhere are emptied: slots whose things share no list with them -/
namespace DL
open PySem PySem.Spec PyProof.Rows L2
/-- a list with something in it -/
def full : D → Prop
  | .list (_ :: _) => True
  | _ => False
/-- no list with something in it lies within both -/
def Apart (d e : D) : Prop := ∀ x, full x → x ∈ subs d → x ∈ subs e → False
def slApart (d : D) : Sl → Prop
  | .fz e => e.canLay0 = true ∧ Apart d e
  | .own (.lst ds) => PyData.canLayAll0 ds = true ∧ ∀ e ∈ ds, Apart d e
  | _ => False
/-- of the slots only those stay -/
def keepAt (ks : List Nat) (δ : DS) : DS := (List.range δ.length).map fun j => if j ∈ ks then δ.getD j .no else .no
theorem keepAt_get {ks : List Nat} {δ : DS} {j : Nat} {s : Sl} (h : (keepAt ks δ)[j]? = some s) : s = .no ∨ (j ∈ ks ∧ δ[j]? = some s) := by
  unfold keepAt at h
  rw [List.getElem?_map] at h
  cases e : (List.range δ.length)[j]? with
  | none => rw [e] at h; cases h
  | some i =>
    rw [e] at h
    have hi := List.getElem?_eq_some_iff.mp e
    obtain ⟨l, q⟩ := hi
    rw [List.getElem_range] at q
    subst q
    rw [List.length_range] at l
    by_cases m : j ∈ ks
    · right
      refine ⟨m, ?_⟩
      have h : (if j ∈ ks then δ.getD j .no else .no) = s := Option.some.inj h
      rw [if_pos m, List.getD_eq_getElem?_getD] at h
      rw [List.getElem?_eq_getElem l] at h ⊢
      exact congrArg some h
    · left
      have h : (if j ∈ ks then δ.getD j .no else .no) = s := Option.some.inj h
      rw [if_neg m] at h
      exact h.symm
theorem keepAt_len {ks : List Nat} {δ : DS} : (keepAt ks δ).length = δ.length := by
  unfold keepAt
  simp
def Good (n : Nat) (ks : List Nat) (d : D) (δ : DS) : Prop := d.canLay0 = true ∧ dep d < n ∧ ∀ j ∈ ks, ∃ s, δ[j]? = some s ∧ slApart d s
open Classical in
/-- the call of a def that empties slot i's lists -/
noncomputable def dSpoil (n i : Nat) (ks : List Nat) : Ds := fun δ => match δ[i]? with
  | some (.fz d) => okIf (decide (Good n ks d δ)) (.ok .nx (keepAt ks δ))
  | _ => .bad
/-! ### a law's own body: nothing is wanted of what stood at its beginning -/
def Bare0 (G : Ct) : Prop := (∀ b xs, G.F0 b ≠ some (.lst xs)) ∧ (∀ b xs, G.H0 b ≠ some (.lst xs)) ∧ ∀ i, G.M i = none
def hp0 : Hp := fun _ => none
theorem same0 {F : Hp} : Same hp0 F := fun b o e => by cases e
def upz (C : Cf) (sd : Ds) : TS := fun D σ H => ∃ G δ F, G.C = C ∧ Bare0 G ∧ St1 G δ σ F H ∧ finS G (sd δ) hp0 D
section
variable {X : Cx} {C : Cf} {e a b c : Expr} {ta tb tc : De} {pos : Pos} {st : Stmt} {rest : List Stmt} {s1 s2 : Ds}
theorem upz_ups {D : Ends} {σ : L2.St} {H : Hp} {sd : Ds} (h : upz C sd D σ H) : ups C sd D σ H := by
  obtain ⟨G, δ, F, hC, b, k, h⟩ := h
  exact ⟨G, δ, F, hC, k, finS_mono h same0⟩
theorem psz (h : PS X st (ups C s1)) : PS X st (upz C s1) := ps_weak h fun D σ H q => upz_ups q
theorem pszs {sts : List Stmt} (h : PSs X sts (ups C s1)) : PSs X sts (upz C s1) := pss_weak h fun D σ H q => upz_ups q
/-- a statement that keeps all, ahead of others -/
theorem pz_cons (h1 : PS X st (ups C s1)) (h2 : PSs X rest (upz C s2)) : PSs X (st :: rest) (upz C (dSeq s1 s2)) := pss_weak (pss_cons h1 h2) fun D σ H ⟨G, δ, F, hC, b, k, h⟩ => ⟨G, δ, F, hC, k, by
  unfold dSeq at h
  cases e : s1 δ with
  | ok o δ1 =>
    rw [e] at h
    cases o with
    | nx => exact fun σ' F' H' k' g => ⟨G, δ1, F', hC, b, k', h⟩
    | bk => exact finS_mono h same0
    | ct => exact finS_mono h same0
    | rt v => exact finS_mono h same0
  | ex c δ1 => rw [e] at h; exact finS_mono h same0
  | bad => rw [e] at h; exact h⟩
/-- any one, ahead of others -/
theorem pz_conz (h1 : PS X st (upz C s1)) (h2 : PSs X rest (upz C s2)) : PSs X (st :: rest) (upz C (dSeq s1 s2)) := pss_weak (pss_cons h1 h2) fun D σ H ⟨G, δ, F, hC, b, k, h⟩ => ⟨G, δ, F, hC, b, k, by
  unfold dSeq at h
  cases e : s1 δ with
  | ok o δ1 =>
    rw [e] at h
    cases o with
    | nx => exact fun σ' F' H' k' g => ⟨G, δ1, F', hC, b, k', h⟩
    | bk => exact h
    | ct => exact h
    | rt v => exact h
  | ex c δ1 => rw [e] at h; exact h
  | bad => rw [e] at h; exact h⟩
theorem pz_one (h1 : PS X st (upz C s1)) : PSs X [st] (upz C s1) := pss_one h1
/-! ### a loop over numbers in such a body -/
def WI0 (G : Ct) : DS → Hp → Hp → It → List D → Prop := fun _ _ _ J ds => ItOk G.K J hp0 ds
def upI0 (C : Cf) (ti : Di) : TI := fun σ H Q => ∃ G δ F, G.C = C ∧ St1 G δ σ F H ∧ finA G (WI0 G) (ti δ) σ F Q
theorem pdi_range0 {tg : Expr} {tl : Dl} {p : Pos} (hm : X.mg "range" = none) (ha : PA X [a] (upL C tl)) (hg : Gl X "range" := by rfl) (hs : starEach [a] X.env = [(false, eval a X.env)] := by rfl) : PI X tg (.Call (.Name "range" p) [a] [] pos) (upI0 C (dRange1 tl)) :=
  pi_weak (pi_range1 hg hm ha hs) fun σ H R ⟨G, δ, F, hC, k, h⟩ => by
    subst hC
    refine ⟨G, δ, F, rfl, k, finA_bind h fun ds δ1 vs F1 H1 k1 g1 w1 h1 => ?_⟩
    have w1 : DpAll G.K F1 vs ds := w1
    cases w1 with
    | nil => exact h1.elim
    | cons w ws =>
      cases ws with
      | cons _ _ => cases w <;> exact h1.elim
      | nil =>
        cases w with
        | int n =>
          obtain ⟨z, h2⟩ := okIf_fin h1
          rw [Bool.and_eq_true] at z
          have z1 := of_decide_eq_true z.1
          have z2 := of_decide_eq_true z.2
          refine ⟨n, rfl, by omega, by omega, h2 _ F1 H1 k1 (Same.refl F1) ?_⟩
          have q := it_range (K := G.K) (F := hp0) (lo := 0) (n := n.toNat)
          have q : ItOk G.K (Itr 0 n.toNat) hp0 ((List.range n.toNat).map fun (i : Nat) => PyData.int i) := by simpa using q
          exact q
        | _ => exact h1.elim
theorem finS_bind0 {α β : Type} {G : Ct} {W : DS → Hp → Hp → β → α → Prop} {r : R α} {k : α → DS → R Out} {σ : L2.St} {F : Hp} {D : Ends} {Q : β → Hp → Prop} (h : finS G (r.bind k) hp0 D)
    (hk : ∀ a δ1 v F1 H1, St1 G δ1 σ F1 H1 → Same F F1 → W δ1 F1 H1 v a → finS G (k a δ1) hp0 D → Q v H1) : finA G W r σ F Q := by
  cases r with
  | ok a δ => exact fun v F1 H1 s g w => hk a δ v F1 H1 s g w h
  | ex c δ => exact fun F' H' s g => h σ F' H' s same0
  | bad => exact h
theorem pz_for {tg : Expr} {ti : Di} {g : Dg} {ts : List Nat} {body : List Stmt} {sb : Ds} (hp : PassesOwn (model X.prog X.w) X.A X.env X.xe) (hi : PI X tg e (upI0 C ti)) (hg : PG X tg (upG C ts g)) (hb : PSs X body (upz C sb)) (hc : X.calm = true := by rfl)
    (hs : ∀ x, foldedSetIterable e X.env x = pure x := by intro _; rfl) : PS X (.For tg e body [] pos) (upz C (dFor ti g sb)) := ps_weak (ps_for hp hc hi hg hb hs) fun D σ H ⟨G, δ, F, hC, bare, k, h⟩ => by
  subst hC
  refine ⟨G, δ, F, rfl, k, finS_bind0 h fun ds δ1 J F1 H1 k1 g1 w1 h1 => ?_⟩
  have w1 : ItOk G.K J hp0 ds := w1
  refine ⟨fun i m σ H => m = ds.length - i ∧ i ≤ ds.length ∧ ∃ δ F, St1 G δ σ F H ∧ finS G (forL (stepB g sb) (ds.drop i) δ) hp0 D, ⟨ds.length, by simp, Nat.zero_le _, δ1, F1, k1, h1⟩, ?_⟩
  rintro i m σ2 H2 ⟨rfl, hi, δ2, F2, k2, h2⟩
  obtain ⟨wgo, wst⟩ := w1 F2 H2 same0 k2.fh i
  by_cases hlt : i < ds.length
  · right
    obtain ⟨go, yl⟩ := wgo ds[i] (List.getElem?_eq_getElem hlt)
    rw [List.drop_eq_getElem_cons hlt] at h2
    refine ⟨go, fun σ' H' => ∃ δ F, St1 G δ σ' F H' ∧ finS G (forL (stepB g sb) (ds.drop (i + 1)) δ) hp0 D, fun σ' H' ⟨δ', F', a, c⟩ => ⟨ds.length - (i + 1), by omega, rfl, hlt, δ', F', a, c⟩, fun x H3 y => ?_⟩
    obtain ⟨F3, f1, f2, f3, f4, w3⟩ := yl x H3 y
    have k3 := grow_it k2 f1 f2 f3 f4
    refine ⟨G, δ2, F3, ds[i], rfl, k3, w3, ?_⟩
    unfold forL stepB at h2
    cases e1 : g ds[i] δ2 with
    | ok o δ3 =>
      rw [e1] at h2
      cases o with
      | nx =>
        intro σ' F' H' k' f' _
        refine ⟨G, δ3, F', rfl, bare, k', ?_⟩
        simp only at h2
        cases e2 : sb δ3 with
        | ok o δ4 =>
          rw [e2] at h2
          cases o with
          | nx => exact fun σ4 F4 H4 k4 f4 => ⟨δ4, F4, k4, h2⟩
          | ct => exact fun σ4 F4 H4 k4 f4 => ⟨δ4, F4, k4, h2⟩
          | bk => exact h2
          | rt v => exact h2
        | ex c δ4 => rw [e2] at h2; exact h2
        | bad => rw [e2] at h2; exact h2
      | bk => exact h2.elim
      | ct => exact h2.elim
      | rt v => exact h2.elim
    | ex c δ3 => rw [e1] at h2; exact h2.elim
    | bad => rw [e1] at h2; exact h2.elim
  · left
    have e : i = ds.length := by omega
    subst e
    refine ⟨wst rfl, ?_⟩
    rw [List.drop_length] at h2
    exact h2 σ2 F2 H2 k2 same0
end
/-! ### the step: lists within d are emptied -/
mutual
theorem dp_fun {K : PySem.W.Frag} {F : Hp} : ∀ (d e : D) (v : V), d.canLay0 = true → e.canLay0 = true → Dp K F v d → Dp K F v e → d = e
  | .none, e, _, _, ce, h, h' => by cases h; cases h'; rfl
  | .bool b, e, _, _, ce, h, h' => by cases h; cases h'; rfl
  | .int i, e, _, _, ce, h, h' => by cases h; cases h'; rfl
  | .str x, e, _, _, ce, h, h' => by cases h; cases h'; rfl
  | .list ds, e, _, c, ce, h, h' => by
    cases h with
    | lst a w =>
      cases h' with
      | lst a' w' =>
        rw [a] at a'
        cases a'
        rw [dpa_fun ds _ _ c ce w w']
      | tup a' w' => rw [a] at a'; cases a'
      | dct a' w' => cases ce
      | scr a' => cases ce
  | .tuple ds, e, _, c, ce, h, h' => by
    cases h with
    | tup a w =>
      cases h' with
      | tup a' w' =>
        rw [a] at a'
        cases a'
        rw [dpa_fun ds _ _ c ce w w']
      | lst a' w' => rw [a] at a'; cases a'
      | dct a' w' => cases ce
      | scr a' => cases ce
  | .dict kvs, e, _, c, _, _, _ => by cases c
theorem dpa_fun {K : PySem.W.Frag} {F : Hp} : ∀ (ds es : List D) (vs : List V), PyData.canLayAll0 ds = true → PyData.canLayAll0 es = true → DpAll K F vs ds → DpAll K F vs es → ds = es
  | [], es, _, _, _, h, h' => by cases h; cases h'; rfl
  | d :: ds, es, _, c, ce, h, h' => by
    cases h with
    | cons h t =>
      cases h' with
      | @cons _ _ e es h' t' =>
        have c : (d.canLay0 && PyData.canLayAll0 ds) = true := c
        have ce : (e.canLay0 && PyData.canLayAll0 es) = true := ce
        rw [Bool.and_eq_true] at c ce
        rw [dp_fun d e _ c.1 ce.1 h h', dpa_fun ds es _ c.2 ce.2 t t']
end
theorem self_subs : ∀ d : D, d ∈ subs d
  | .list ds => by unfold subs; exact List.mem_cons_self
  | .tuple ds => by unfold subs; exact List.mem_cons_self
  | .none => by unfold subs; exact List.mem_cons_self
  | .bool _ => by unfold subs; exact List.mem_cons_self
  | .int _ => by unfold subs; exact List.mem_cons_self
  | .str _ => by unfold subs; exact List.mem_cons_self
  | .dict _ => by unfold subs; exact List.mem_cons_self
open Classical in
/-- d's own part of F -/
noncomputable def part (K : PySem.W.Frag) (F : Hp) (d : D) : Hp := fun b => if ∃ x, x ∈ subs d ∧ x.canLay0 = true ∧ Dp K F (.ref b) x then F b else none
theorem part_some {K : PySem.W.Frag} {F : Hp} {d : D} {b : Addr} {o : HO} (h : part K F d b = some o) : F b = some o ∧ ∃ x, x ∈ subs d ∧ x.canLay0 = true ∧ Dp K F (.ref b) x := by
  unfold part at h
  split at h
  · rename_i z; exact ⟨h, z⟩
  · cases h
theorem part_of {K : PySem.W.Frag} {F : Hp} {d x : D} {b : Addr} (h : x ∈ subs d) (c : x.canLay0 = true) (w : Dp K F (.ref b) x) : part K F d b = F b := by
  unfold part
  rw [if_pos ⟨x, h, c, w⟩]
mutual
theorem dp_part {K : PySem.W.Frag} {F : Hp} {d0 : D} : ∀ (d : D) (v : V), d.canLay0 = true → (∀ x ∈ subs d, x ∈ subs d0) → Dp K F v d → Dp K (part K F d0) v d
  | .none, _, _, _, h => by cases h; exact .non
  | .bool b, _, _, _, h => by cases h; exact .bl b
  | .int i, _, _, _, h => by cases h; exact .int i
  | .str x, _, _, _, h => by cases h; exact .str x
  | .list ds, _, c, m, h => by
    have h0 := h
    cases h with
    | lst a w => exact .lst (by rw [part_of (m _ (self_subs _)) c h0]; exact a) (dpa_part ds _ c (fun x hx => m x (by unfold subs; exact List.mem_cons_of_mem _ hx)) w)
  | .tuple ds, _, c, m, h => by
    have h0 := h
    cases h with
    | tup a w => exact .tup (by rw [part_of (m _ (self_subs _)) c h0]; exact a) (dpa_part ds _ c (fun x hx => m x (by unfold subs; exact List.mem_cons_of_mem _ hx)) w)
  | .dict kvs, _, c, _, _ => by cases c
theorem dpa_part {K : PySem.W.Frag} {F : Hp} {d0 : D} : ∀ (ds : List D) (vs : List V), PyData.canLayAll0 ds = true → (∀ x ∈ subsL ds, x ∈ subs d0) → DpAll K F vs ds → DpAll K (part K F d0) vs ds
  | [], _, _, _, h => by cases h; exact .nil
  | d :: ds, _, c, m, h => by
    have c : (d.canLay0 && PyData.canLayAll0 ds) = true := c
    rw [Bool.and_eq_true] at c
    cases h with
    | cons h t => exact .cons (dp_part d _ c.1 (fun x hx => m x (by unfold subsL; exact List.mem_append_left _ hx)) h) (dpa_part ds _ c.2 (fun x hx => m x (by unfold subsL; exact List.mem_append_right _ hx)) t)
end
open Classical in
/-- what is left of F at H' -/
noncomputable def left (F H' : Hp) : Hp := fun b => if H' b = F b then F b else none
theorem left_some {F H' : Hp} {b : Addr} {o : HO} (h : left F H' b = some o) : F b = some o ∧ H' b = some o := by
  unfold left at h
  split at h
  · rename_i z; exact ⟨h, z.trans h⟩
  · cases h
theorem left_of {F H' : Hp} {b : Addr} {o : HO} (h : F b = some o) (h' : H' b = some o) : left F H' b = some o := by
  unfold left
  rw [if_pos (h'.trans h.symm)]
  exact h
mutual
theorem dp_left {K : PySem.W.Frag} {F H H' : Hp} {d0 : D} (fh : Same F H) (n : Near (part K F d0) H') (p : Past (part K F d0) H H') : ∀ (d : D) (v : V), d.canLay0 = true → Apart d0 d → Dp K F v d → Dp K (left F H') v d
  | .none, _, _, _, h => by cases h; exact .non
  | .bool b, _, _, _, h => by cases h; exact .bl b
  | .int i, _, _, _, h => by cases h; exact .int i
  | .str x, _, _, _, h => by cases h; exact .str x
  | .list ds, _, c, m, h => by
    have h0 := h
    cases h with
    | @lst a xs _ e w =>
      refine .lst (left_of e ?_) (dpa_left fh n p ds _ c (fun x f h1 h2 => m x f h1 (by unfold subs; exact List.mem_cons_of_mem _ h2)) w)
      cases q : part K F d0 a with
      | none => exact p a _ (fh _ _ e) fun ys z => by rw [q] at z; cases z
      | some o =>
        obtain ⟨q1, x, q2, q3, q4⟩ := part_some q
        rw [e] at q1
        cases q1
        have ex := dp_fun _ _ _ c q3 h0 q4
        subst ex
        rcases n a _ q with z | ⟨_, z⟩
        · exact z
        · cases ds with
          | nil => cases w; exact z
          | cons y ys => exact (m (.list (y :: ys)) trivial q2 (self_subs _)).elim
  | .tuple ds, _, c, m, h => by
    cases h with
    | @tup a xs _ e w =>
      refine .tup (left_of e ?_) (dpa_left fh n p ds _ c (fun x f h1 h2 => m x f h1 (by unfold subs; exact List.mem_cons_of_mem _ h2)) w)
      refine p a _ (fh _ _ e) fun ys z => ?_
      have := (part_some z).1
      rw [e] at this
      cases this
  | .dict kvs, _, c, _, _ => by cases c
theorem dpa_left {K : PySem.W.Frag} {F H H' : Hp} {d0 : D} (fh : Same F H) (n : Near (part K F d0) H') (p : Past (part K F d0) H H') : ∀ (ds : List D) (vs : List V), PyData.canLayAll0 ds = true → (∀ x, full x → x ∈ subs d0 → x ∈ subsL ds → False) → DpAll K F vs ds → DpAll K (left F H') vs ds
  | [], _, _, _, h => by cases h; exact .nil
  | d :: ds, _, c, m, h => by
    have c : (d.canLay0 && PyData.canLayAll0 ds) = true := c
    rw [Bool.and_eq_true] at c
    cases h with
    | cons h t => exact .cons (dp_left fh n p d _ c.1 (fun x f h1 h2 => m x f h1 (by unfold subsL; exact List.mem_append_left _ h2)) h) (dpa_left fh n p ds _ c.2 (fun x f h1 h2 => m x f h1 (by unfold subsL; exact List.mem_append_right _ h2)) t)
end
theorem apart_all {d : D} : ∀ {ds : List D}, (∀ e ∈ ds, Apart d e) → ∀ x, full x → x ∈ subs d → x ∈ subsL ds → False
  | [], _, x, _, _, h => by unfold subsL at h; cases h
  | e :: ds, a, x, f, h1, h2 => by
    unfold subsL at h2
    rcases List.mem_append.mp h2 with z | z
    · exact a e List.mem_cons_self x f h1 z
    · exact apart_all (fun e' m => a e' (List.mem_cons_of_mem _ m)) x f h1 z
theorem St1.spoil {G : Ct} {δ : DS} {σ : L2.St} {F H H' : Hp} {d0 : D} {m : Nat} {ks : List Nat} (k : St1 G δ σ F H) (bare : Bare0 G) (g : Good m ks d0 δ) (n : Near (part G.K F d0) H') (p : Past (part G.K F d0) H H') : St1 G (keepAt ks δ) σ (left F H') H' where
  len := by rw [keepAt_len]; exact k.len
  fh := fun b o e => (left_some e).2
  f0 := fun b o e => by
    have e1 := k.f0 b o e
    refine left_of e1 (p b o (k.fh _ _ e1) fun xs z => ?_)
    have z := (part_some z).1
    rw [e1] at z
    cases z
    exact bare.1 b _ e
  h0 := fun b o hm e => by
    refine p b o (k.h0 b o hm e) fun xs z => ?_
    have z := k.fh _ _ (part_some z).1
    rw [k.h0 b o hm e] at z
    cases z
    exact bare.2.1 b _ e
  fn := fun b e => k.fn b fun z => e (by
    unfold left
    rw [z]
    split <;> rfl)
  sl := fun i s e => by
    rcases keepAt_get e with rfl | ⟨hi, e⟩
    · trivial
    · obtain ⟨s', e', a⟩ := g.2.2 i hi
      rw [e] at e'
      cases e'
      have z := k.sl i s e
      cases s with
      | no => trivial
      | arg c => exact a.elim
      | fz d =>
        obtain ⟨v, z1, z2⟩ := z
        exact ⟨v, z1, dp_left k.fh n p d v a.1 a.2 z2⟩
      | own c =>
        cases c with
        | dct _ => exact a.elim
        | lst ds =>
          obtain ⟨q, o, z1, z2, z3, ⟨vs, rfl, z4⟩, z5, z6⟩ := z
          refine ⟨q, _, z1, p q _ z2 fun xs y => ?_, ?_, ⟨vs, rfl, dpa_left k.fh n p ds vs a.1 (apart_all a.2) z4⟩, z5, z6⟩
          · have y := (part_some y).1
            rw [z3] at y
            cases y
          · unfold left
            rw [z3]
            split <;> rfl
  di := fun i j s t q hij e1 e2 h1 h2 r1 r2 => by
    rcases keepAt_get e1 with rfl | ⟨_, e1⟩
    · cases h1
    · rcases keepAt_get e2 with rfl | ⟨_, e2⟩
      · cases h2
      · exact k.di i j s t q hij e1 e2 h1 h2 r1 r2
  ma := fun i q e => by
    rw [bare.2.2 i] at e
    cases e
section
variable {X : Cx} {C : Cf} {pos p : Pos} {k n : Nat} {ps : List Str} {x y : Str}
theorem pz_spoil (n i : Nat) (ks : List Nat) {p1 : Pos} (F : CalS X.prog X.w X.K X.mg X.base k x ps (spoilSp X.K n)) (hr : Room k X.A) (hN : X.N[i]? = some y := by rfl) (hv : Vis X.env.scope y := by first | exact Or.inl rfl | exact Or.inr (Or.inl rfl) | exact Or.inr (Or.inr rfl)) (hd : (y == ("__debug__" : Str)) = false := by decide)
    (hcd : (y == ("__classdict__" : Str)) = false := by decide) (hK : C.K = X.K := by rfl) (hg : Gl X x := by rfl) (hdb : (x == ("__debug__" : Str)) = false := by decide)
    (hs : swapsWith (.Call (.Name x p) [.Name y p1] [] pos) none pos.line X.env = pure false := by rfl)
    (hp : ∀ (t : TE), PE X (.Name y p1) t → PA X [.Name y p1] (tCons t tNil) := by exact fun _ h => pa_cons h pa_nil)
    (he : starEach [.Name y p1] X.env = (false, eval (.Name y p1) X.env) :: starEach [] X.env := by rfl) (hpl : (backTo pos (starEach [] X.env)).any (·.1) = false := by rfl) :
    PS X (.Expr (.Call (.Name x p) [.Name y p1] [] pos) pos) (upz C (dSpoil n i ks)) := ps_weak (ps_expr (ps_callS F hr (hp _ (pe_var hN hv hd hcd)) hg hdb he hpl) hs) fun D σ H ⟨G, δ, F, hC, bare, k, h⟩ => by
  subst hC
  unfold dSpoil at h
  cases es : δ[i]? with
  | none => rw [es] at h; exact h.elim
  | some s =>
    rw [es] at h
    cases s with
    | fz d =>
      obtain ⟨z, h⟩ := okIf_finS h
      have z := @of_decide_eq_true _ (Classical.propDecidable _) z
      obtain ⟨v, e1, e2⟩ := k.sl i _ es
      have fh := k.fh
      refine ⟨v, e1, part G.K F d, v, d, rfl, ?_, z.1, z.2.1, fun b o e => .inl (fh _ _ (part_some e).1), fun H' n1 p1 => ?_⟩
      · rw [← hK]
        exact dp_part d v z.1 (fun x hx => hx) e2
      · exact h σ _ H' (k.spoil bare z n1 p1) same0
    | _ => exact h.elim
end
/-- the promise of a law, of which only what it tells is wanted -/
def spTop (K : PySem.W.Frag) (den : List Sl → R Vl) : Sp := fun vs H Q E => ∃ (a : Addr) (ns : List Int), vs = [.ref a] ∧ Only H ∧ SqL K H a (ns.map V.int) ∧ (∃ δ, den [.fz (.dict [(.none, .list (ns.map PyData.int))])] = .ok (.fz (.bool true)) δ) ∧ ∀ H', Q (.bl true) H'
section
variable {P : Program} {w : World} {K : PySem.W.Frag} {mg : Str → Option Value} {base : Heap}
theorem top_fin {G : Ct} {r : R Out} {as : List Sl} {δ : DS} {Q : VK} (e : noEx as (endOf r) = .ok (.fz (.bool true)) δ) (q : ∀ H', Q (.bl true) H') : finS G r hp0 { nx := fun _ H' => Q .non H', rt := Q } := by
  cases r with
  | bad => cases e
  | ex c s => cases e
  | ok o δ' =>
    cases o with
    | nx => cases e
    | bk => cases e
    | ct => cases e
    | rt r =>
      intro v σ' F' H' k _ wv
      cases r with
      | fz d =>
        cases e
        cases wv
        exact q H'
      | own c => cases e
      | loc i =>
        have wv : σ'[i]? = some (some v) := wv
        have e : noEx as (retV (.loc i) δ') = .ok (.fz (.bool true)) δ := e
        unfold retV at e
        simp only at e
        cases ei : δ'[i]? with
        | none => rw [ei] at e; cases e
        | some s =>
          rw [ei] at e
          have z := k.sl i s ei
          cases s with
          | no => cases e
          | arg c => cases e
          | own c => cases e
          | fz d =>
            cases e
            obtain ⟨u, q1, q2⟩ := z
            rw [wv] at q1
            cases q1
            cases q2
            exact q H'
theorem fnq_z {x qual : Str} {st : Stmt} {f : Addr} {fd : FuncData} {N : List Str} {k : Nat} {sd : Ds} (Fu : Fun K x qual st f fd) (S : FnScope N ["script"] (defScope st))
    (hb : ∀ (cdv : Value) (B : Around) (above : List Env) (t : Shared) (H : Hp) (E : XK), B.guards = some [] → Room k (B.deeper (envOfC qual (defScope st) t.heap.objs.size f cdv)) → PSs (cxOf CX0 P w K mg base N qual (defScope st) f cdv B above t H E).nox (defBody st) (upz (noxC K) sd)) :
    FnQ P w K mg base (k + 1) f fd ["script"] (spTop K fun as => noEx as (runDef 1 N.length sd as)) := by
  refine fnq_of Fu S (fun vs H Q E h => by obtain ⟨a, ns, rfl, _⟩ := h; rfl) fun cdv B above t H vs Q E hg hr h => ⟨_, hb cdv B above t H E hg hr, ?_⟩
  obtain ⟨a, ns, rfl, only, hS, ⟨δ, e⟩, q⟩ := h
  have wa : ArgsOk K H H [V.ref a] [Sl.fz (.dict [(.none, .list (ns.map PyData.int))])] := by
    refine ⟨rfl, fun i s ei => ?_, fun i j c d p hij e1 e2 _ _ => ?_⟩
    · cases i with
      | zero => cases ei; exact ⟨_, rfl, .scr hS⟩
      | succ i => simp at ei
    · cases i with
      | zero => cases e1
      | succ i => simp at e1
  refine ⟨⟨noxC K, H, H, argM [Sl.fz (.dict [(.none, .list (ns.map PyData.int))])] [V.ref a]⟩, _, H, rfl, ⟨fun b xs z => ?_, fun b xs z => ?_, fun i => ?_⟩, ?_, top_fin e q⟩
  · have z : H b = some (.lst xs) := z
    rcases only b with n | ⟨o, ys, n⟩ <;> rw [n] at z <;> cases z
  · have z : H b = some (.lst xs) := z
    rcases only b with n | ⟨o, ys, n⟩ <;> rw [n] at z <;> cases z
  · cases h : argM [Sl.fz (.dict [(.none, .list (ns.map PyData.int))])] [V.ref a] i with
    | none => exact h
    | some p =>
      obtain ⟨c, h1, _⟩ := argM_some h
      cases i with
      | zero => cases h1
      | succ i => simp at h1
  · unfold L2.start
    exact begin_ok (C := noxC K) (Same.refl H) wa
end
end DL

set_option Elab.async false
set_option linter.all false
set_option maxRecDepth 100000
set_option autoImplicit false
namespace DL
open PySem PySem.Spec L2
/-! ### the data readings, step by step -/
def pick {α : Type} (b : Bool) (x y : α) : α := match b with
  | true => x
  | false => y
section
variable {δ δ1 δ2 δ3 δ4 δ' : DS} {a b c : De} {t u : Dt} {l : Dl} {s s' : Ds} {g : Dg} {gs : Dgs} {x y z : Vl} {d e : D} {ds es : List D} {i j : Nat} {k m : Bool} {o : Out} {co : Co}
theorem p_t {α : Type} {b : Bool} {x y r : α} (h : b = true) (q : x = r) : pick b x y = r := by subst h; exact q
theorem p_f {α : Type} {b : Bool} {x y r : α} (h : b = false) (q : y = r) : pick b x y = r := by subst h; exact q
theorem v_fz (h : δ[i]? = some (.fz d)) : dVar i δ = .ok (.fz d) δ := by unfold dVar; rw [h]
theorem v_own (h : δ[i]? = some (.own co)) : dVar i δ = .ok (.loc i) δ := by unfold dVar; rw [h]
theorem v_arg (h : δ[i]? = some (.arg co)) : dVar i δ = .ok (.loc i) δ := by unfold dVar; rw [h]
theorem r_c : dC d δ = .ok (.fz d) δ := rfl
theorem r_bin {f : D → D → Option Vl} (ha : a δ = .ok x δ1) (hb : b δ1 = .ok y δ2) (hx : vw δ2 (fzT x) = some d) (hy : vw δ2 (fzT y) = some e) (hf : f d e = some z) : dBin f a b δ = .ok z δ2 := by
  unfold dBin
  simp only [ha, hb, R.bind, hx, hy, lift2, hf, ret]
theorem r_un {f : D → Option Vl} (ha : a δ = .ok x δ1) (hx : vw δ1 (fzT x) = some d) (hf : f d = some z) : dUn f a δ = .ok z δ1 := by
  unfold dUn
  simp only [ha, R.bind, hx, lift1, hf, ret]
theorem r_test (ha : a δ = .ok (.fz (.bool k)) δ1) : dTest a δ = .ok k δ1 := by
  unfold dTest
  rw [ha]
  rfl
theorem r_andV {r : R Vl} (ha : a δ = .ok (.fz (.bool k)) δ1) (h : pick k (b δ1) (.ok (.fz (.bool false)) δ1) = r) : dAndV a b δ = r := by
  unfold dAndV
  rw [ha]
  exact h
theorem r_orV {r : R Vl} (ha : a δ = .ok (.fz (.bool k)) δ1) (h : pick k (.ok (.fz (.bool true)) δ1) (b δ1) = r) : dOrV a b δ = r := by
  unfold dOrV
  rw [ha]
  exact h
theorem r_andB (ha : a δ = .ok (.fz (.bool k)) δ1) (hb : b δ1 = .ok (.fz (.bool m)) δ1) : dAndV a b δ = .ok (.fz (.bool (k && m))) δ1 := r_andV ha (by cases k <;> first | exact hb | rfl)
theorem r_notV (ha : a δ = .ok (.fz (.bool k)) δ1) : dNotV a δ = .ok (.fz (.bool (!k))) δ1 := by
  unfold dNotV
  rw [ha]
  rfl
theorem r_and {r : R Bool} (ha : t δ = .ok k δ1) (h : pick k (u δ1) (.ok false δ1) = r) : dAnd t u δ = r := by
  unfold dAnd
  rw [ha]
  exact h
theorem r_or {r : R Bool} (ha : t δ = .ok k δ1) (h : pick k (.ok true δ1) (u δ1) = r) : dOr t u δ = r := by
  unfold dOr
  rw [ha]
  exact h
theorem r_not (ha : t δ = .ok k δ1) : dNot t δ = .ok (!k) δ1 := by
  unfold dNot
  rw [ha]
  rfl
theorem r_if {r : R Vl} (ha : t δ = .ok k δ1) (h : pick k (a δ1) (b δ1) = r) : dIf t a b δ = r := by
  unfold dIf
  rw [ha]
  exact h
theorem r_chain {f f' : D → D → Option Vl} {v : D} {w : Vl} {r : R Vl} (ha : a δ = .ok x δ1) (hb : b δ1 = .ok y δ2) (hx : vw δ2 (fzT x) = some d) (hy : vw δ2 (fzT y) = some e) (hf : f d e = some (.fz (.bool k)))
    (h : pick k ((c δ2).bind fun u δ5 => lift2 f' (vw δ5 (fzT y)) (vw δ5 (fzT u)) δ5) (.ok (.fz (.bool false)) δ2) = r) : dChain f f' a b c δ = r := by
  unfold dChain
  simp only [ha, hb, R.bind, hx, hy, lift2, hf, ret, asB]
  exact h
theorem r_chainB {f f' : D → D → Option Vl} {v : D} {w : D} (ha : a δ = .ok x δ1) (hb : b δ1 = .ok y δ2) (hx : vw δ2 (fzT x) = some d) (hy : vw δ2 (fzT y) = some e) (hf : f d e = some (.fz (.bool k))) (hc : c δ2 = .ok z δ3) (hy2 : vw δ3 (fzT y) = some v) (hz : vw δ3 (fzT z) = some w) (hf2 : f' v w = some (.fz (.bool m))) (hs : δ3 = δ2) : dChain f f' a b c δ = .ok (.fz (.bool (k && m))) δ3 := by
  subst hs
  unfold dChain
  simp only [ha, hb, R.bind, hx, hy, lift2, hf, ret, asB]
  cases k
  · rfl
  · simp only [hc, R.bind, hy2, hz, hf2]
    rfl
theorem r_ch2 {f' : D → D → Option Vl} (hc : c δ = .ok x δ1) (hx : vw δ1 (fzT y) = some d) (hy : vw δ1 (fzT x) = some e) (hf : f' d e = some z) : ((c δ).bind fun u δ5 => lift2 f' (vw δ5 (fzT y)) (vw δ5 (fzT u)) δ5) = .ok z δ1 := by
  simp only [hc, R.bind, hx, hy, lift2, hf, ret]
theorem l_nil : dNil δ = .ok [] δ := rfl
theorem l_cons (ha : a δ = .ok x δ1) (hk : kp x δ1 = .ok d δ2) (hl : l δ2 = .ok ds δ3) : dCons a l δ = .ok (d :: ds) δ3 := by
  unfold dCons
  simp only [ha, R.bind, hk, hl]
theorem r_tup (hl : l δ = .ok ds δ1) (hs : small ds.length = true) : dTup l δ = .ok (.fz (.tuple ds)) δ1 := by
  unfold dTup
  simp only [hl, R.bind, hs, okIf]
theorem r_lst (hl : l δ = .ok ds δ1) (hs : small ds.length = true) : dLst l δ = .ok (.own (.lst ds)) δ1 := by
  unfold dLst
  simp only [hl, R.bind, hs, okIf]
theorem o_some {v : Int} (ha : a δ = .ok (.fz (.int v)) δ1) : oSome a δ = .ok (some v) δ1 := by
  unfold oSome
  rw [ha]
  rfl
theorem o_none : oNone δ = .ok none δ := rfl
theorem r_sl {p q : Dopt} {v w : Option Int} (ha : a δ = .ok x δ1) (hp : p δ1 = .ok v δ2) (hq : q δ2 = .ok w δ3) (hx : vw δ3 (fzT x) = some d) (hf : fSl d v w = some z) : dSl a p q δ = .ok z δ3 := by
  unfold dSl
  simp only [ha, hp, hq, R.bind, hx, liftS, hf, ret]
variable {al : Da} {ams : List Am} {den : List Sl → R Vl}
theorem a_nil : aNil δ = .ok [] δ := rfl
theorem a_val (ha : a δ = .ok x δ1) (hk : kp x δ1 = .ok d δ2) (hl : al δ2 = .ok ams δ3) : aVal a al δ = .ok (.fz d :: ams) δ3 := by
  unfold aVal
  simp only [ha, R.bind, hk, hl]
theorem a_ref (hk : known i δ = true) (hl : al δ = .ok ams δ3) : aRef i al δ = .ok (.ref i :: ams) δ3 := by
  unfold aRef
  simp only [hk, okIf, hl, R.bind]
theorem r_call (ha : al δ = .ok ams δ1) (h1 : refPos δ1 ams = none) (h2 : (refOne δ1 ams && ams.all (amKnown δ1)) = true) (hd : den (ams.map (amSl δ1)) = .ok z δ') : dCall den al δ = .ok z δ1 := by
  unfold dCall
  simp only [ha, R.bind, h2, okIf, callM, hd, putBack, h1]
variable {r : R Out}
theorem s_skip : dSkip δ = .ok .nx δ := rfl
theorem s_seq (h : s δ = .ok .nx δ1) (q : s' δ1 = r) : dSeq s s' δ = r := by
  unfold dSeq
  rw [h]
  exact q
theorem s_seqR {v : Vl} (h : s δ = .ok (.rt v) δ1) : dSeq s s' δ = .ok (.rt v) δ1 := by
  unfold dSeq
  rw [h]
theorem s_ret (ha : a δ = .ok x δ1) : dRet a δ = .ok (.rt x) δ1 := by
  unfold dRet
  rw [ha]
  rfl
theorem s_if (ht : t δ = .ok k δ1) (h : pick k (s δ1) (s' δ1) = r) : dIfS t s s' δ = r := by
  unfold dIfS
  rw [ht]
  exact h
theorem s_drop (ha : a δ = .ok x δ1) : dDrop a δ = .ok .nx δ1 := by
  unfold dDrop
  rw [ha]
  rfl
theorem s_asg (ha : a δ = .ok x δ1) (h : setS i x δ1 = r) : dAsg i a δ = r := by
  unfold dAsg
  rw [ha]
  exact h
theorem set_fz (h : okSet δ i = true) (hs : δ.set i (.fz d) = δ') : setS i (.fz d) δ = .ok .nx δ' := by
  subst hs
  unfold setS
  rw [h]
  rfl
theorem set_own (h : okSet δ i = true) (hs : δ.set i (.own co) = δ') : setS i (.own co) δ = .ok .nx δ' := by
  subst hs
  unfold setS
  rw [h]
  rfl
theorem s_asgG (ha : a δ = .ok x δ1) (hk : kp x δ1 = .ok d δ2) (h : g d δ2 = .ok .nx δ3) : dAsgG g a δ = .ok .nx δ3 := by
  unfold dAsgG
  simp only [ha, R.bind, hk, h, onlyNx]
theorem g_n (h : setS i (.fz d) δ = r) : gN i d δ = r := h
theorem g_nil : gsNil [] δ = .ok .nx δ := rfl
theorem g_cons (h : g d δ = .ok .nx δ1) (q : gs ds δ1 = r) : gsCons g gs (d :: ds) δ = r := by
  unfold gsCons
  simp only [h]
  exact q
theorem g_tup {n : Nat} (hn : (ds.length == n) = true) (h : gs ds δ = r) : gTupD n gs (.tuple ds) δ = r := by
  unfold gTupD
  simp only [hn]
  exact h
theorem g_lst {n : Nat} (hn : (ds.length == n) = true) (h : gs ds δ = r) : gTupD n gs (.list ds) δ = r := by
  unfold gTupD
  simp only [hn]
  exact h
theorem s_par (hl : l δ = .ok [d, e] δ1) (h : (okSet δ1 i && okSet δ1 j) = true) (hs : (δ1.set i (.fz d)).set j (.fz e) = δ') : dPar i j l δ = .ok .nx δ' := by
  subst hs
  unfold dPar
  simp only [hl, R.bind, h, okIf]
theorem run_rt {np n : Nat} {as : List Sl} {v : Vl} (h0 : (as.length == np && as.all isIn) = true) {δ0 : DS} (hz : as ++ List.replicate (n - np) .no = δ0) (h : s δ0 = .ok (.rt v) δ) (hv : retV v δ = .ok x δ1) (ht : trim as δ1 = δ2) : noEx as (runDef np n s as) = .ok x δ2 := by
  subst ht hz
  unfold runDef
  simp only [h0, h, endOf, hv, noEx]
theorem run_nx {np n : Nat} {as : List Sl} (h0 : (as.length == np && as.all isIn) = true) {δ0 : DS} (hz : as ++ List.replicate (n - np) .no = δ0) (h : s δ0 = .ok .nx δ) (ht : trim as δ = δ2) : noEx as (runDef np n s as) = .ok (.fz .none) δ2 := by
  subst ht hz
  unfold runDef
  simp only [h0, h, endOf, noEx]
end
theorem run_b {np n : Nat} {as : List Sl} {s : Ds} {δ δ2 : DS} {b k : Bool} (h0 : (as.length == np && as.all isIn) = true) {δ0 : DS} (hz : as ++ List.replicate (n - np) .no = δ0) (h : s δ0 = .ok (.rt (.fz (.bool b))) δ) (hv : b = k) (ht : trim as δ = δ2) : noEx as (runDef np n s as) = .ok (.fz (.bool k)) δ2 := by
  subst hv
  exact run_rt h0 hz h rfl ht
theorem run_v {np n : Nat} {as : List Sl} {s : Ds} {δ δ2 : DS} {d e : D} (h0 : (as.length == np && as.all isIn) = true) {δ0 : DS} (hz : as ++ List.replicate (n - np) .no = δ0) (h : s δ0 = .ok (.rt (.fz d)) δ) (hv : d = e) (ht : trim as δ = δ2) : noEx as (runDef np n s as) = .ok (.fz e) δ2 := by
  subst hv
  exact run_rt h0 hz h rfl ht
theorem run_o {np n : Nat} {as : List Sl} {s : Ds} {δ δ2 : DS} {d e : Co} (h0 : (as.length == np && as.all isIn) = true) {δ0 : DS} (hz : as ++ List.replicate (n - np) .no = δ0) (h : s δ0 = .ok (.rt (.own d)) δ) (hv : d = e) (ht : trim as δ = δ2) : noEx as (runDef np n s as) = .ok (.own e) δ2 := by
  subst hv
  exact run_rt h0 hz h rfl ht
/-! ### loops -/
def lastSl (s : Sl) : List D → Sl
  | [] => s
  | d :: ds => lastSl (.fz d) ds
theorem lastSl_free : ∀ (ds : List D) (s : Sl), s.held = false → (lastSl s ds).held = false
  | [], _, h => h
  | d :: ds, s, _ => lastSl_free ds (.fz d) rfl
theorem set_same {δ : DS} {i : Nat} {s : Sl} (h : δ[i]? = some s) : δ.set i s = δ := by
  obtain ⟨h1, h2⟩ := List.getElem?_eq_some_iff.mp h
  subst h2
  exact List.set_getElem_self h1
theorem okSet_fz {δ : DS} {i : Nat} {d : D} (h : okSet δ i = true) (e : D) : okSet (δ.set i (.fz d)) i = true := okSet_set h
theorem for_keep {i : Nat} {body : Ds} : ∀ (ds : List D) (δ : DS) (s : Sl), δ[i]? = some s → okSet δ i = true → (∀ d ∈ ds, body (δ.set i (.fz d)) = .ok .nx (δ.set i (.fz d))) → forL (stepB (gN i) body) ds δ = .ok .nx (δ.set i (lastSl s ds))
  | [], δ, s, h, _, _ => by
    show R.ok Out.nx δ = _
    rw [show lastSl s [] = s from rfl, set_same h]
  | d :: ds, δ, s, h, ho, hb => by
    have e1 : stepB (gN i) body d δ = .ok .nx (δ.set i (.fz d)) := by
      unfold stepB
      rw [show gN i d δ = .ok .nx (δ.set i (.fz d)) from set_fz ho rfl]
      exact hb d List.mem_cons_self
    have hi := (List.getElem?_eq_some_iff.mp h).1
    have e2 := for_keep (i := i) (body := body) ds (δ.set i (.fz d)) (.fz d) (List.getElem?_set_self hi) (okSet_set ho) fun e he => by
      rw [List.set_set]
      exact hb e (List.mem_cons_of_mem _ he)
    show (match stepB (gN i) body d δ with
      | .ok .nx δ1 => forL (stepB (gN i) body) ds δ1
      | .ok .ct δ1 => forL (stepB (gN i) body) ds δ1
      | .ok .bk δ1 => .ok .nx δ1
      | r => r) = _
    rw [e1]
    simp only
    rw [e2, List.set_set]
    rfl
theorem s_for {ti : Di} {g : Dg} {body : Ds} {δ δ1 : DS} {ds : List D} {r : R Out} (hi : ti δ = .ok ds δ1) (hf : forL (stepB g body) ds δ1 = r) : dFor ti g body δ = r := by
  unfold dFor
  rw [hi]
  exact hf
theorem i_it {a : De} {δ δ1 δ2 δ3 : DS} {x : Vl} {d : D} {ds : List D} (ha : a δ = .ok x δ1) (hk : kp x δ1 = .ok d δ2) (h : itemsOf d δ2 = .ok ds δ3) : dIter a δ = .ok ds δ3 := by
  unfold dIter
  simp only [ha, R.bind, hk, h]
theorem i_r1 {l : Dl} {δ δ1 : DS} {n : Int} (hl : l δ = .ok [.int n] δ1) (h1 : -1000000 ≤ n) (h2 : n ≤ 1000000) : dRange1 l δ = .ok ((List.range n.toNat).map fun (i : Nat) => PyData.int i) δ1 := by
  unfold dRange1
  simp only [hl, R.bind, h1, h2, decide_true, Bool.and_self, okIf]
/-- a comprehension of one clause that changes no list -/
theorem comp_map {α : Type} {f : D → DS → R (Option D)} {δ : DS} {enc : α → D} {φ : α → Option D} : ∀ xs : List α, (∀ x ∈ xs, f (enc x) δ = .ok (φ x) δ) → compL f (xs.map enc) δ = .ok (xs.filterMap φ) δ
  | [], _ => rfl
  | x :: xs, h => by
    have e1 := h x List.mem_cons_self
    have e2 := comp_map (φ := φ) xs fun y hy => h y (List.mem_cons_of_mem _ hy)
    rw [List.map_cons]
    unfold compL
    rw [e1]
    simp only
    rw [e2]
    simp only [List.filterMap_cons]
    cases φ x <;> rfl
theorem comp_map1 {α : Type} {f : D → DS → R (Option D)} {δ : DS} {enc ψ : α → D} {xs : List α} (h : ∀ x ∈ xs, f (enc x) δ = .ok (some (ψ x)) δ) : compL f (xs.map enc) δ = .ok (xs.map ψ) δ := by
  rw [comp_map (φ := fun x => some (ψ x)) xs h]
  congr 1
  induction xs with
  | nil => rfl
  | cons x xs ih => simp [ih fun y hy => h y (List.mem_cons_of_mem _ hy)]
theorem turn_1 {vs : List Nat} {g : Dg} {tt : Dt} {te : De} {d : D} {δ δ2 δ4 δ3 : DS} {k : Bool} {o : Option D} {δ0 : DS} (hw : wipeD (δ.map toArg) vs = δ0) (hg : g d δ0 = .ok .nx δ2) (ht : tt δ2 = .ok k δ3) (he : pick k ((te δ3).bind fun x δ4 => (kp x δ4).bind fun d δ5 => .ok (some d) δ5) (.ok none δ3) = .ok o δ4) (hb : back δ δ4 = δ) : turnL vs g tt te d δ = .ok o δ := by
  subst hw
  unfold turnL onTurn
  simp only [hg, ht]
  cases k with
  | false =>
    have he : (R.ok none δ3 : R (Option D)) = .ok o δ4 := he
    cases he
    simp only [R.bind, backR, hb]
  | true =>
    have he : ((te δ3).bind fun x δ4 => (kp x δ4).bind fun d δ5 => R.ok (some d) δ5) = .ok o δ4 := he
    show backR δ ((te δ3).bind fun x δ4 => (kp x δ4).bind fun d δ5 => R.ok (some d) δ5) = _
    rw [he]
    simp only [backR, hb]
theorem turn_e {te : De} {δ δ1 δ2 : DS} {x : Vl} {d : D} (he : te δ = .ok x δ1) (hk : kp x δ1 = .ok d δ2) : ((te δ).bind fun x δ4 => (kp x δ4).bind fun d δ5 => R.ok (some d) δ5) = .ok (some d) δ2 := by
  simp only [he, R.bind, hk]
theorem r_lc {vs : List Nat} {ti : Di} {g : Dg} {tt : Dt} {te : De} {δ δ1 δ2 : DS} {ds l : List D} (hi : ti δ = .ok ds δ1) (h0 : (small ds.length && freeAt vs δ1) = true) (h : compL (turnL vs g tt te) ds δ1 = .ok l δ2) : dLc vs ti g tt te δ = .ok (.own (.lst l)) δ2 := by
  unfold dLc
  simp only [hi, R.bind, h0, okIf, h]
theorem t_yes {δ : DS} : dYes δ = .ok true δ := rfl
/-- a comprehension of two clauses that changes no list -/
theorem comp_flat {α : Type} {f : D → DS → R (List D)} {δ : DS} {enc : α → D} {φ : α → List D} : ∀ xs : List α, (∀ x ∈ xs, f (enc x) δ = .ok (φ x) δ) → compLL f (xs.map enc) δ = .ok (xs.flatMap φ) δ
  | [], _ => rfl
  | x :: xs, h => by
    have e1 := h x List.mem_cons_self
    have e2 := comp_flat (φ := φ) xs fun y hy => h y (List.mem_cons_of_mem _ hy)
    rw [List.map_cons]
    unfold compLL
    rw [e1]
    simp only
    rw [e2]
    rfl
theorem turn_2 {vs vs1 : List Nat} {g g1 : Dg} {tt tt1 : Dt} {ti1 : Di} {te : De} {d : D} {δ δ2 δ3 δ4 δ7 : DS} {ds1 l : List D} {δ0 : DS} (hw : wipeD (δ.map toArg) vs = δ0) (hg : g d δ0 = .ok .nx δ2) (ht : tt δ2 = .ok true δ3) (hi : ti1 δ3 = .ok ds1 δ4) {δ5 : DS} (hy : back2 δ δ4 = δ5) (hf : freeAt vs1 δ5 = true)
    (hc : compL (turnL vs1 g1 tt1 te) ds1 δ5 = .ok l δ7) (hr : restD δ δ7 = δ) : oneTurn2 vs vs1 g tt ti1 g1 tt1 te d δ = .ok l δ := by
  subst hw hy
  unfold oneTurn2
  simp only [hg, ht, hi, hf, hc, hr]
theorem r_lc2 {vs vs1 : List Nat} {ti ti1 : Di} {g g1 : Dg} {tt tt1 : Dt} {te : De} {δ δ1 δ2 : DS} {ds l : List D} (hi : ti δ = .ok ds δ1) (h0 : freeAt vs δ1 = true) (h : compLL (oneTurn2 vs vs1 g tt ti1 g1 tt1 te) ds δ1 = .ok l δ2) (hs : small l.length = true) : dLc2 vs vs1 ti g tt ti1 g1 tt1 te δ = .ok (.own (.lst l)) δ2 := by
  unfold dLc2
  simp only [hi, R.bind, h0, okIf, h, hs]
theorem i_enumT {l : Dl} {δ δ1 : DS} {ds : List D} (hl : l δ = .ok [.tuple ds] δ1) : dEnum l δ = .ok (enumD ds) δ1 := by
  unfold dEnum
  rw [hl]
  rfl
theorem enumD_map {α : Type} (enc : α → D) (xs : List α) : enumD (xs.map enc) = ((List.range xs.length).zip xs).map fun q => PyData.tuple [.int (q.1 : Nat), enc q.2] := by
  unfold enumD
  rw [List.length_map, List.zipWith_map_right, List.zip, List.map_zipWith]
theorem comp2 {f : D → DS → R (Option D)} {d1 d2 : D} {o1 o2 : Option D} {δ : DS} (h1 : f d1 δ = .ok o1 δ) (h2 : f d2 δ = .ok o2 δ) {l : List D} (hl : o1.toList ++ (o2.toList ++ []) = l) : compL f [d1, d2] δ = .ok l δ := by
  subst hl
  unfold compL
  rw [h1]
  simp only
  unfold compL
  rw [h2]
  rfl
/-- a turn with a test -/
theorem turn_c {vs : List Nat} {g : Dg} {tt : Dt} {te : De} {d y : D} {δ δ2 δ3 δ4 δ5 : DS} {k : Bool} {x : Vl} {δ0 : DS} (hw : wipeD (δ.map toArg) vs = δ0) (hg : g d δ0 = .ok .nx δ2) (ht : tt δ2 = .ok k δ3) (he : te δ3 = .ok x δ4) (hk : kp x δ4 = .ok y δ5) (hb : back δ δ5 = δ) (hb3 : back δ δ3 = δ) : turnL vs g tt te d δ = .ok (if k = true then some y else none) δ := by
  cases k with
  | false => exact turn_1 hw hg ht rfl hb3
  | true => exact turn_1 hw hg ht (turn_e he hk) hb
theorem f_addT {xs ys : List D} (h : small (xs.length + ys.length) = true) : fAdd (.tuple xs) (.tuple ys) = some (.fz (.tuple (xs ++ ys))) := by
  unfold fAdd
  simp only [h, okO]
theorem f_addL {xs ys : List D} (h : small (xs.length + ys.length) = true) : fAdd (.list xs) (.list ys) = some (.own (.lst (xs ++ ys))) := by
  unfold fAdd
  simp only [h, okO]
theorem atI_nat {α : Type} {xs : List α} {n : Nat} {x : α} (h : xs[n]? = some x) : atI xs (n : Int) = some x := by
  have hn := (List.getElem?_eq_some_iff.mp h).1
  unfold atI ixN
  rw [if_pos (by omega), if_pos (by omega)]
  simpa using h
theorem f_ixT {xs : List D} {n : Nat} {d : D} (h : xs[n]? = some d) : fIx (.tuple xs) (.int (n : Nat)) = some (.fz d) := by
  show (atI xs (n : Int)).map Vl.fz = _
  rw [atI_nat h]
  rfl
theorem f_ixL {xs : List D} {n : Nat} {d : D} (h : xs[n]? = some d) : fIx (.list xs) (.int (n : Nat)) = some (.fz d) := by
  show (atI xs (n : Int)).map Vl.fz = _
  rw [atI_nat h]
  rfl
theorem f_eq {d e : D} (h1 : SeqAt.shaped d = true) (h2 : SeqAt.shaped e = true) : fEq d e = some (.fz (.bool (PyData.eqv d e))) := by
  unfold fEq
  rw [h1, h2]
  rfl
theorem f_ne {d e : D} (h1 : SeqAt.shaped d = true) (h2 : SeqAt.shaped e = true) : fNe d e = some (.fz (.bool (!PyData.eqv d e))) := by
  unfold fNe
  rw [h1, h2]
  rfl
theorem shaped_ch {c : Nat} (h : c ≤ 127) : SeqAt.shaped (.str ⟨#[c]⟩) = true := by
  have e : PyData.canLay0 (.str ⟨#[c]⟩) = true := by
    simp [PyData.canLay0, PyData.strOk]
    omega
  unfold SeqAt.shaped
  rw [e]
  rfl
theorem r_callR {den : List Sl → R Vl} {al : Da} {ams : List Am} {δ δ1 δ2 rest : DS} {i : Nat} {sl : Sl} {z : Vl} {co : Co} (hl : al δ = .ok ams δ1) (hk : known i δ = true) (h2 : (refOne δ1 (.ref i :: ams) && (Am.ref i :: ams).all (amKnown δ1)) = true) (h1 : refPos δ1 (.ref i :: ams) = some (0, i)) (hs : δ1[i]? = some sl)
    (hd : den ((Am.ref i :: ams).map (amSl δ1)) = .ok z (.arg co :: rest)) (hδ : δ1.set i (sl.with co) = δ2) : dCall den (aRef i al) δ = .ok z δ2 := by
  subst hδ
  unfold dCall
  rw [a_ref hk hl]
  simp only [R.bind, h2, okIf, callM, hd, putBack, h1, hs]
  rfl
theorem s_setI {i : Nat} {a b : De} {δ δ1 δ2 δ3 : DS} {x : Vl} {d : D} {j : Int} {r : R Out} (ha : a δ = .ok x δ1) (hk : kp x δ1 = .ok d δ2) (h1 : isLst i δ2 = true) (hb : b δ2 = .ok (.fz (.int j)) δ3) (hm : mutL i (fSet j d) δ3 = r) : dSetI i b a δ = r := by
  unfold dSetI
  simp only [ha, R.bind, hk, h1, okIf, hb, asInt]
  exact hm
theorem s_app {i : Nat} {a : De} {δ δ1 δ2 : DS} {x : Vl} {d : D} {r : R Out} (h1 : isLst i δ = true) (ha : a δ = .ok x δ1) (hk : kp x δ1 = .ok d δ2) (hm : mutL i (fApp d) δ2 = r) : dApp i a δ = r := by
  unfold dApp
  simp only [ha, R.bind, hk, h1, okIf]
  exact hm
theorem s_ext {i : Nat} {a : De} {δ δ1 δ2 : DS} {x : Vl} {es : List D} {r : R Out} (h1 : isLst i δ = true) (ha : a δ = .ok x δ1) (hk : kp x δ1 = .ok (.list es) δ2) (hm : mutL i (fExt es) δ2 = r) : dExt i a δ = r := by
  unfold dExt
  simp only [ha, R.bind, hk, h1, okIf, extD]
  exact hm
theorem m_arg {i : Nat} {f : List D → Option (List D)} {δ δ' : DS} {ds l : List D} (h1 : δ[i]? = some (.arg (.lst ds))) (h2 : f ds = some l) (hs : δ.set i (.arg (.lst l)) = δ') : mutL i f δ = .ok .nx δ' := by
  subst hs
  unfold mutL lstAt
  simp only [h1, h2]
  rfl
theorem m_own {i : Nat} {f : List D → Option (List D)} {δ δ' : DS} {ds l : List D} (h1 : δ[i]? = some (.own (.lst ds))) (h2 : f ds = some l) (hs : δ.set i (.own (.lst l)) = δ') : mutL i f δ = .ok .nx δ' := by
  subst hs
  unfold mutL lstAt
  simp only [h1, h2]
  rfl
theorem f_set {j : Int} {d : D} {ds l : List D} {m : Nat} (h : ixN ds.length j = some m) (hs : ds.set m d = l) : fSet j d ds = some l := by
  unfold fSet
  rw [h, ← hs]
  rfl
theorem f_app {d : D} {ds : List D} (h : small ds.length = true) : fApp d ds = some (ds ++ [d]) := by
  unfold fApp
  rw [h]
  rfl
theorem f_ext {es ds : List D} (h : small (ds.length + es.length) = true) : fExt es ds = some (ds ++ es) := by
  unfold fExt
  rw [h]
  rfl
theorem f_mod {i j : Int} (h : 0 < j) : fMod (.int i) (.int j) = some (.fz (.int (i % j))) := by
  unfold fMod
  simp only [decide_eq_true h, okO]
theorem f_div {i j : Int} (h : 0 < j) (h2 : wide j = true) : fDiv (.int i) (.int j) = some (.fz (.int (i / j))) := by
  unfold fDiv
  simp only [decide_eq_true h, h2, okO, Bool.and_self]
theorem f_mulI {i j : Int} (h : wide i = true) (h2 : wide j = true) : fMul (.int i) (.int j) = some (.fz (.int (i * j))) := by
  unfold fMul
  simp only [h, h2, okO, Bool.and_self]
theorem wide_lt {i : Int} (h : i.natAbs < 2 ^ 200) : wide i = true := by
  unfold wide bits
  exact decide_eq_true (Nat.lt_trans h (Nat.pow_lt_pow_right (by decide) (by decide)))
theorem shaped_ints (ns : List Int) : SeqAt.shaped (.list (ns.map PyData.int)) = true := by
  have e : PyData.canLayAll0 (ns.map PyData.int) = true := by
    induction ns with
    | nil => rfl
    | cons n ns ih => rw [List.map_cons, PyData.canLayAll0, ih]; rfl
  have e2 : (PyData.list (ns.map PyData.int)).depth ≤ 64 := by
    rw [PyData.depth, PySem.W.depth_ints]
    decide
  unfold SeqAt.shaped
  rw [show (PyData.list (ns.map PyData.int)).canLay0 = PyData.canLayAll0 (ns.map PyData.int) from rfl, e, decide_eq_true e2]
  rfl
def seqK (o : Out) (δ : DS) (t : Ds) : R Out := match o with
  | .nx => t δ
  | o => .ok o δ
theorem k_nx {δ : DS} {t : Ds} {r : R Out} (h : t δ = r) : seqK .nx δ t = r := h
theorem k_rt {δ : DS} {t : Ds} {v : Vl} : seqK (.rt v) δ t = .ok (.rt v) δ := rfl
theorem k_ct {δ : DS} {t : Ds} : seqK .ct δ t = .ok .ct δ := rfl
theorem k_bk {δ : DS} {t : Ds} : seqK .bk δ t = .ok .bk δ := rfl
theorem s_seqG {s t : Ds} {δ δ1 : DS} {o : Out} {r : R Out} (h : s δ = .ok o δ1) (q : seqK o δ1 t = r) : dSeq s t δ = r := by
  unfold dSeq
  rw [h]
  cases o <;> exact q
theorem for_inv {f : D → DS → R Out} {P : DS → Prop} : ∀ (ds : List D), (∀ d ∈ ds, ∀ δ, P δ → ∃ δ', f d δ = .ok .nx δ' ∧ P δ') → ∀ δ, P δ → ∃ δ', forL f ds δ = .ok .nx δ' ∧ P δ'
  | [], _, δ, h => ⟨δ, rfl, h⟩
  | d :: ds, hf, δ, h => by
    obtain ⟨δ1, e1, h1⟩ := hf d List.mem_cons_self δ h
    obtain ⟨δ2, e2, h2⟩ := for_inv ds (fun d hd => hf d (List.mem_cons_of_mem _ hd)) δ1 h1
    refine ⟨δ2, ?_, h2⟩
    unfold forL
    rw [e1]
    exact e2
theorem step_b {g : Dg} {body : Ds} {d : D} {δ δ1 : DS} {r : R Out} (hg : g d δ = .ok .nx δ1) (hb : body δ1 = r) : stepB g body d δ = r := by
  unfold stepB
  rw [hg]
  exact hb
theorem small_of0 {n : Nat} (h : n ≤ 100000) : small n = true := decide_eq_true h
theorem for_idx {f : D → DS → R Out} {P : Nat → DS → Prop} : ∀ (ds : List D) (j : Nat), (∀ (i : Nat) (d : D), ds[i]? = some d → ∀ δ, P (j + i) δ → ∃ δ', f d δ = .ok .nx δ' ∧ P (j + i + 1) δ') → ∀ δ, P j δ → ∃ δ', forL f ds δ = .ok .nx δ' ∧ P (j + ds.length) δ'
  | [], _, _, δ, h => ⟨δ, rfl, h⟩
  | d :: ds, j, hf, δ, h => by
    obtain ⟨δ1, e1, h1⟩ := hf 0 d rfl δ h
    obtain ⟨δ2, e2, h2⟩ := for_idx (P := P) ds (j + 1) (fun i d hd δ hP => by
      have z := hf (i + 1) d (by simpa using hd) δ
      rw [show j + (i + 1) = j + 1 + i by omega] at z
      exact z hP) δ1 h1
    refine ⟨δ2, ?_, by rw [List.length_cons, show j + (ds.length + 1) = j + 1 + ds.length by omega]; exact h2⟩
    unfold forL
    rw [e1]
    exact e2
theorem ix_inD {xs : List D} {j : Int} (h0 : 0 ≤ j) (h1 : j < xs.length) : ∃ x, x ∈ xs ∧ fIx (.list xs) (.int j) = some (.fz x) := by
  obtain ⟨n, rfl⟩ := Int.eq_ofNat_of_zero_le h0
  have hn : n < xs.length := by omega
  exact ⟨xs[n], List.getElem_mem hn, f_ixL (List.getElem?_eq_getElem hn)⟩
theorem ix_str {z : Str} {j : Int} (hz : z.cps.size ≤ 1000) (h0 : 0 ≤ j) (h1 : j < z.cps.size) : ∃ c, c ∈ z.cps.toList ∧ fIx (.str z) (.int j) = some (.fz (.str ⟨#[c]⟩)) := by
  obtain ⟨n, rfl⟩ := Int.eq_ofNat_of_zero_le h0
  have hn : n < z.cps.toList.length := by simp; omega
  refine ⟨z.cps.toList[n], List.getElem_mem hn, ?_⟩
  show (match small z.length with
    | true => (atI z.cps.toList (n : Int)).map fun c => Vl.fz (.str ⟨#[c]⟩)
    | false => none) = _
  rw [show small z.length = true from small_of0 (show z.cps.size ≤ 100000 by omega)]
  simp only
  rw [atI_nat (List.getElem?_eq_getElem hn)]
  rfl
theorem len_str {z : Str} (hz : z.cps.size ≤ 1000) : fLen (.str z) = some (.fz (.int z.cps.size)) := by
  show okO (small z.length) _ = _
  rw [show small z.length = true from small_of0 (show z.cps.size ≤ 100000 by omega)]
  rfl
theorem sf_goal {n : Nat} {vs : List Nat} {δ : DS} (h1 : small n = true) (h2 : freeAt vs δ = true) : (small n && freeAt vs δ) = true := by
  rw [h1, h2]
  rfl
theorem set_goal {δ δ' : DS} {i : Nat} {t : Sl} (h : δ.set i t = δ') : δ.set i t = δ' := h
theorem with_arg {c c' : Co} : (Sl.arg c).with c' = .arg c' := rfl
theorem with_own {c c' : Co} : (Sl.own c).with c' = .own c' := rfl
theorem small_of {n : Nat} (h : n ≤ 100000) : small n = true := decide_eq_true h
end DL

set_option Elab.async false
set_option linter.all false
set_option maxRecDepth 100000
namespace Lk01
open PySem PySem.Spec PyProof.Rows L2 DL
def topS (i : Nat) : Stmt := PySem.Challenge.pw_changeride_k01_webs_told.main.body.getD i (.Pass ⟨0, 0, 0, 0⟩)
structure Txt (K : PySem.W.Frag) (mg : Str → Option Value) : Prop where
  b_bool : mg "bool" = none
  b_enumerate : mg "enumerate" = none
  b_int : mg "int" = none
  b_isinstance : mg "isinstance" = none
  b_len : mg "len" = none
  b_list : mg "list" = none
  b_max : mg "max" = none
  b_min : mg "min" = none
  b_range : mg "range" = none
  b_repr : mg "repr" = none
  b_str : mg "str" = none
  b_tuple : mg "tuple" = none
abbrev s_is_whole : Stmt := topS 5
abbrev N_is_whole : List Str := ["thing"]
abbrev P_is_whole : List Str := ["thing"]
theorem sc_is_whole : FnScope N_is_whole P_is_whole (defScope s_is_whole) := ⟨rfl, rfl, rfl, by decide +kernel, rfl, by decide +kernel, by decide +kernel⟩
def sd_is_whole : Ds :=
  (dRet (dAndV (dUn (fIsi "int") (dVar 0)) (dNotV (dUn (fIsi "bool") (dVar 0)))))
@[irreducible] def d_is_whole (as : List Sl) : R Vl := noEx as (runDef 1 1 sd_is_whole as)
theorem ok_is_whole {P : Program} {w : World} {K : PySem.W.Frag} {mg : Str → Option Value} {base : Heap} (T : Txt K mg) (D : Dfn K mg "is_whole" s_is_whole P_is_whole)  : Cal P w K mg base 1 "is_whole" P_is_whole d_is_whole := by
  rw [show d_is_whole = (fun as => noEx as (runDef 1 1 sd_is_whole as)) from by funext as; rw [d_is_whole]]
  exact cal_of D fun f fd F => fn_n F sc_is_whole fun cdv A outer s H E hr =>
    (pds_one (pds_ret (pd_and (pd_isi T.b_isinstance T.b_int (pd_var 0)) (pd_one (pd_not (pd_isi T.b_isinstance T.b_bool (pd_var 0)))))))
abbrev s_is_below : Stmt := topS 6
abbrev N_is_below : List Str := ["thing", "limit"]
abbrev P_is_below : List Str := ["thing", "limit"]
theorem sc_is_below : FnScope N_is_below P_is_below (defScope s_is_below) := ⟨rfl, rfl, rfl, by decide +kernel, rfl, by decide +kernel, by decide +kernel⟩
def sd_is_below : Ds :=
  (dRet (dAndV (dCall d_is_whole (aVal (dVar 0) aNil)) (dChain fLe fLtI (dC (.int 0)) (dVar 0) (dVar 1))))
@[irreducible] def d_is_below (as : List Sl) : R Vl := noEx as (runDef 2 2 sd_is_below as)
theorem ok_is_below {P : Program} {w : World} {K : PySem.W.Frag} {mg : Str → Option Value} {base : Heap} (T : Txt K mg) (D : Dfn K mg "is_below" s_is_below P_is_below) (c_is_whole : Cal P w K mg base 1 "is_whole" P_is_whole d_is_whole) : Cal P w K mg base 2 "is_below" P_is_below d_is_below := by
  rw [show d_is_below = (fun as => noEx as (runDef 2 2 sd_is_below as)) from by funext as; rw [d_is_below]]
  exact cal_of D fun f fd F => fn_n F sc_is_below fun cdv A outer s H E hr =>
    (pds_one (pds_ret (pd_and (pd_cal c_is_whole (hr.mono (by decide)) (paa_val (pd_var 0) paa_nil)) (pd_one (pd_chain op_leD o_le op_lt o_cmpI pd_int (pd_var 0) (pd_var 1) (fun _ _ _ h1 h2 h3 => pe_chain op_leD op_lt h1 h2 h3))))))
abbrev s_is_row : Stmt := topS 7
abbrev N_is_row : List Str := ["thing"]
abbrev P_is_row : List Str := ["thing"]
theorem sc_is_row : FnScope N_is_row P_is_row (defScope s_is_row) := ⟨rfl, rfl, rfl, by decide +kernel, rfl, by decide +kernel, by decide +kernel⟩
def sd_is_row : Ds :=
  (dRet (dUn (fIsiT ["list", "tuple"]) (dVar 0)))
@[irreducible] def d_is_row (as : List Sl) : R Vl := noEx as (runDef 1 1 sd_is_row as)
theorem ok_is_row {P : Program} {w : World} {K : PySem.W.Frag} {mg : Str → Option Value} {base : Heap} (T : Txt K mg) (D : Dfn K mg "is_row" s_is_row P_is_row)  : Cal P w K mg base 1 "is_row" P_is_row d_is_row := by
  rw [show d_is_row = (fun as => noEx as (runDef 1 1 sd_is_row as)) from by funext as; rw [d_is_row]]
  exact cal_of D fun f fd F => fn_n F sc_is_row fun cdv A outer s H E hr =>
    (pds_one (pds_ret (pd_isiT T.b_isinstance (pd_var 0) (pe_tys2 T.b_list T.b_tuple))))
abbrev s_is_row_of : Stmt := topS 8
abbrev N_is_row_of : List Str := ["thing", "length"]
abbrev P_is_row_of : List Str := ["thing", "length"]
theorem sc_is_row_of : FnScope N_is_row_of P_is_row_of (defScope s_is_row_of) := ⟨rfl, rfl, rfl, by decide +kernel, rfl, by decide +kernel, by decide +kernel⟩
def sd_is_row_of : Ds :=
  (dRet (dAndV (dCall d_is_row (aVal (dVar 0) aNil)) (dBin fEq (dUn fLen (dVar 0)) (dVar 1))))
@[irreducible] def d_is_row_of (as : List Sl) : R Vl := noEx as (runDef 2 2 sd_is_row_of as)
theorem ok_is_row_of {P : Program} {w : World} {K : PySem.W.Frag} {mg : Str → Option Value} {base : Heap} (T : Txt K mg) (D : Dfn K mg "is_row_of" s_is_row_of P_is_row_of) (c_is_row : Cal P w K mg base 1 "is_row" P_is_row d_is_row) : Cal P w K mg base 2 "is_row_of" P_is_row_of d_is_row_of := by
  rw [show d_is_row_of = (fun as => noEx as (runDef 2 2 sd_is_row_of as)) from by funext as; rw [d_is_row_of]]
  exact cal_of D fun f fd F => fn_n F sc_is_row_of fun cdv A outer s H E hr =>
    (pds_one (pds_ret (pd_and (pd_cal c_is_row (hr.mono (by decide)) (paa_val (pd_var 0) paa_nil)) (pd_one (pd_eq hr.units (pd_len T.b_len (pd_var 0)) (pd_var 1))))))
abbrev s_is_company : Stmt := topS 9
abbrev N_is_company : List Str := ["thing"]
abbrev P_is_company : List Str := ["thing"]
theorem sc_is_company : FnScope N_is_company P_is_company (defScope s_is_company) := ⟨rfl, rfl, rfl, by decide +kernel, rfl, by decide +kernel, by decide +kernel⟩
def sd_is_company : Ds :=
  (dRet (dAndV (dUn (fIsi "str") (dVar 0)) (dAndV (dBin fEq (dUn fLen (dVar 0)) (dC (.int 1))) (dChain fLe fLe (dC (.str ("a" : PySem.Str))) (dVar 0) (dC (.str ("z" : PySem.Str)))))))
@[irreducible] def d_is_company (as : List Sl) : R Vl := noEx as (runDef 1 1 sd_is_company as)
theorem ok_is_company {P : Program} {w : World} {K : PySem.W.Frag} {mg : Str → Option Value} {base : Heap} (T : Txt K mg) (D : Dfn K mg "is_company" s_is_company P_is_company)  : Cal P w K mg base 1 "is_company" P_is_company d_is_company := by
  rw [show d_is_company = (fun as => noEx as (runDef 1 1 sd_is_company as)) from by funext as; rw [d_is_company]]
  exact cal_of D fun f fd F => fn_n F sc_is_company fun cdv A outer s H E hr =>
    (pds_one (pds_ret (pd_and (pd_isi T.b_isinstance T.b_str (pd_var 0)) (pd_and (pd_eq hr.units (pd_len T.b_len (pd_var 0)) pd_int) (pd_one (pd_chain op_leD o_le op_leD o_le pd_str (pd_var 0) pd_str (fun _ _ _ h1 h2 h3 => pe_chain op_leD op_leD h1 h2 h3)))))))
abbrev s_is_line : Stmt := topS 12
abbrev N_is_line : List Str := ["places", "thing"]
abbrev P_is_line : List Str := ["places", "thing"]
theorem sc_is_line : FnScope N_is_line P_is_line (defScope s_is_line) := ⟨rfl, rfl, rfl, by decide +kernel, rfl, by decide +kernel, by decide +kernel⟩
def sd_is_line : Ds :=
  (dSeq (dIfS (dNot (dTest (dCall d_is_row_of (aVal (dVar 1) (aVal (dC (.int 3)) aNil))))) (dRet (dC (.bool false))) dSkip) (dRet (dAndV (dCall d_is_below (aVal (dBin fIx (dVar 1) (dC (.int 0))) (aVal (dVar 0) aNil))) (dAndV (dCall d_is_below (aVal (dBin fIx (dVar 1) (dC (.int 1))) (aVal (dVar 0) aNil))) (dCall d_is_company (aVal (dBin fIx (dVar 1) (dC (.int 2))) aNil))))))
@[irreducible] def d_is_line (as : List Sl) : R Vl := noEx as (runDef 2 2 sd_is_line as)
theorem ok_is_line {P : Program} {w : World} {K : PySem.W.Frag} {mg : Str → Option Value} {base : Heap} (T : Txt K mg) (D : Dfn K mg "is_line" s_is_line P_is_line) (c_is_below : Cal P w K mg base 2 "is_below" P_is_below d_is_below) (c_is_row_of : Cal P w K mg base 2 "is_row_of" P_is_row_of d_is_row_of) (c_is_company : Cal P w K mg base 1 "is_company" P_is_company d_is_company) : Cal P w K mg base 3 "is_line" P_is_line d_is_line := by
  rw [show d_is_line = (fun as => noEx as (runDef 2 2 sd_is_line as)) from by funext as; rw [d_is_line]]
  exact cal_of D fun f fd F => fn_n F sc_is_line fun cdv A outer s H E hr =>
    (pds_cons (pds_if (ptd_not (pdt_val (pd_cal c_is_row_of (hr.mono (by decide)) (paa_val (pd_var 1) (paa_val pd_int paa_nil))))) (pds_one (pds_ret pd_bl)) pds_nil) (pds_one (pds_ret (pd_and (pd_cal c_is_below (hr.mono (by decide)) (paa_val (pd_ix (pd_var 1) pd_int) (paa_val (pd_var 0) paa_nil))) (pd_and (pd_cal c_is_below (hr.mono (by decide)) (paa_val (pd_ix (pd_var 1) pd_int) (paa_val (pd_var 0) paa_nil))) (pd_one (pd_cal c_is_company (hr.mono (by decide)) (paa_val (pd_ix (pd_var 1) pd_int) paa_nil))))))))
abbrev s_web_of : Stmt := topS 11
abbrev N_web_of : List Str := ["places", "lines", "line"]
abbrev P_web_of : List Str := ["places", "lines"]
theorem sc_web_of : FnScope N_web_of P_web_of (defScope s_web_of) := ⟨rfl, rfl, rfl, by decide +kernel, rfl, by decide +kernel, by decide +kernel⟩
def sd_web_of : Ds :=
  (dSeq (dIfS (dOr (dNot (dTest (dCall d_is_whole (aVal (dVar 0) aNil)))) (dTest (dBin fLtI (dVar 0) (dC (.int 0))))) dNever dSkip) (dSeq (dIfS (dNot (dTest (dCall d_is_row (aVal (dVar 1) aNil)))) dNever dSkip) (dSeq (dFor (dIter (dVar 1)) (gN 2) (dIfS (dNot (dTest (dCall d_is_line (aVal (dVar 0) (aVal (dVar 2) aNil))))) dNever dSkip)) (dRet (dTup (dCons (dVar 0) (dCons (dUn fTuple (dLc [2] (dIter (dVar 1)) (gN 2) dYes (dUn fTuple (dVar 2)))) dNil)))))))
@[irreducible] def d_web_of (as : List Sl) : R Vl := noEx as (runDef 2 3 sd_web_of as)
theorem ok_web_of {P : Program} {w : World} {K : PySem.W.Frag} {mg : Str → Option Value} {base : Heap} (T : Txt K mg) (D : Dfn K mg "web_of" s_web_of P_web_of) (c_is_whole : Cal P w K mg base 1 "is_whole" P_is_whole d_is_whole) (c_is_row : Cal P w K mg base 1 "is_row" P_is_row d_is_row) (c_is_line : Cal P w K mg base 3 "is_line" P_is_line d_is_line) : Cal P w K mg base 4 "web_of" P_web_of d_web_of := by
  rw [show d_web_of = (fun as => noEx as (runDef 2 3 sd_web_of as)) from by funext as; rw [d_web_of]]
  exact cal_of D fun f fd F => fn_n F sc_web_of fun cdv A outer s H E hr =>
    (pds_cons (pds_if (PW.pt (ptd_or (ptd_not (pdt_val (pd_cal c_is_whole (hr.mono (by decide)) (paa_val (pd_var 0) paa_nil)))) (pw_or1 (ptd_lt (pd_var 0) pd_int)))) (pds_one pds_never) pds_nil) (pds_cons (pds_if (ptd_not (pdt_val (pd_cal c_is_row (hr.mono (by decide)) (paa_val (pd_var 1) paa_nil)))) (pds_one pds_never) pds_nil) (pds_cons (pds_for PassesOwn.never (pdi_seq (pd_var 1)) (pdg_name 2 sc_web_of.nd) (pds_one (pds_if (ptd_not (pdt_val (pd_cal c_is_line (hr.mono (by decide)) (paa_val (pd_var 0) (paa_val (pd_var 2) paa_nil))))) (pds_one pds_never) pds_nil))) (pds_one (pds_ret (pd_tup (pad_cons (pd_var 0) (pad_cons (pd_tuple T.b_tuple (pd_lc (own := [("line", 2)]) (pdi_seq (pd_var 1)) sc_web_of.nd (blkOk_by (N := N_web_of) (sc := defScope s_web_of) (by decide +kernel)) (fun _ _ _ _ _ => (pdg_name 2 sc_web_of.nd)) (fun _ _ _ _ _ => ptsd_nil) (fun _ _ _ _ _ => (pd_tuple T.b_tuple (pd_var 2))))) pad_nil))))))))
abbrev s_checked_web : Stmt := topS 13
abbrev N_checked_web : List Str := ["web"]
abbrev P_checked_web : List Str := ["web"]
theorem sc_checked_web : FnScope N_checked_web P_checked_web (defScope s_checked_web) := ⟨rfl, rfl, rfl, by decide +kernel, rfl, by decide +kernel, by decide +kernel⟩
def sd_checked_web : Ds :=
  (dSeq (dIfS (dNot (dTest (dCall d_is_row_of (aVal (dVar 0) (aVal (dC (.int 2)) aNil))))) dNever dSkip) (dRet (dCall d_web_of (aVal (dBin fIx (dVar 0) (dC (.int 0))) (aVal (dBin fIx (dVar 0) (dC (.int 1))) aNil)))))
@[irreducible] def d_checked_web (as : List Sl) : R Vl := noEx as (runDef 1 1 sd_checked_web as)
theorem ok_checked_web {P : Program} {w : World} {K : PySem.W.Frag} {mg : Str → Option Value} {base : Heap} (T : Txt K mg) (D : Dfn K mg "checked_web" s_checked_web P_checked_web) (c_is_row_of : Cal P w K mg base 2 "is_row_of" P_is_row_of d_is_row_of) (c_web_of : Cal P w K mg base 4 "web_of" P_web_of d_web_of) : Cal P w K mg base 5 "checked_web" P_checked_web d_checked_web := by
  rw [show d_checked_web = (fun as => noEx as (runDef 1 1 sd_checked_web as)) from by funext as; rw [d_checked_web]]
  exact cal_of D fun f fd F => fn_n F sc_checked_web fun cdv A outer s H E hr =>
    (pds_cons (pds_if (ptd_not (pdt_val (pd_cal c_is_row_of (hr.mono (by decide)) (paa_val (pd_var 0) (paa_val pd_int paa_nil))))) (pds_one pds_never) pds_nil) (pds_one (pds_ret (pd_cal c_web_of (hr.mono (by decide)) (paa_val (pd_ix (pd_var 0) pd_int) (paa_val (pd_ix (pd_var 0) pd_int) paa_nil))))))
abbrev s_check_place : Stmt := topS 14
abbrev N_check_place : List Str := ["places", "place"]
abbrev P_check_place : List Str := ["places", "place"]
theorem sc_check_place : FnScope N_check_place P_check_place (defScope s_check_place) := ⟨rfl, rfl, rfl, by decide +kernel, rfl, by decide +kernel, by decide +kernel⟩
def sd_check_place : Ds :=
  (dIfS (dNot (dTest (dCall d_is_below (aVal (dVar 1) (aVal (dVar 0) aNil))))) dNever dSkip)
@[irreducible] def d_check_place (as : List Sl) : R Vl := noEx as (runDef 2 2 sd_check_place as)
theorem ok_check_place {P : Program} {w : World} {K : PySem.W.Frag} {mg : Str → Option Value} {base : Heap} (T : Txt K mg) (D : Dfn K mg "check_place" s_check_place P_check_place) (c_is_below : Cal P w K mg base 2 "is_below" P_is_below d_is_below) : Cal P w K mg base 3 "check_place" P_check_place d_check_place := by
  rw [show d_check_place = (fun as => noEx as (runDef 2 2 sd_check_place as)) from by funext as; rw [d_check_place]]
  exact cal_of D fun f fd F => fn_n F sc_check_place fun cdv A outer s H E hr =>
    (pds_one (pds_if (ptd_not (pdt_val (pd_cal c_is_below (hr.mono (by decide)) (paa_val (pd_var 1) (paa_val (pd_var 0) paa_nil))))) (pds_one pds_never) pds_nil))
abbrev s_ends_of : Stmt := topS 15
abbrev N_ends_of : List Str := ["lines", "place", "number", "line", "side"]
abbrev P_ends_of : List Str := ["lines", "place"]
theorem sc_ends_of : FnScope N_ends_of P_ends_of (defScope s_ends_of) := ⟨rfl, rfl, rfl, by decide +kernel, rfl, by decide +kernel, by decide +kernel⟩
def sd_ends_of : Ds :=
  (dRet (dLc2 [2, 3, 4] [4] (dEnum (dCons (dVar 0) dNil)) (gTupD 2 (gsCons (gN 2) (gsCons (gN 3) gsNil))) dYes (dIter (dTup (dCons (dC (.int 0)) (dCons (dC (.int 1)) dNil)))) (gN 4) (dTest (dBin fEq (dBin fIx (dVar 3) (dVar 4)) (dVar 1))) (dTup (dCons (dVar 2) (dCons (dVar 4) dNil)))))
@[irreducible] def d_ends_of (as : List Sl) : R Vl := noEx as (runDef 2 5 sd_ends_of as)
theorem ok_ends_of {P : Program} {w : World} {K : PySem.W.Frag} {mg : Str → Option Value} {base : Heap} (T : Txt K mg) (D : Dfn K mg "ends_of" s_ends_of P_ends_of)  : Cal P w K mg base 1 "ends_of" P_ends_of d_ends_of := by
  rw [show d_ends_of = (fun as => noEx as (runDef 2 5 sd_ends_of as)) from by funext as; rw [d_ends_of]]
  exact cal_of D fun f fd F => fn_n F sc_ends_of fun cdv A outer s H E hr =>
    (pds_one (pds_ret (pd_lc2 (own := [("number", 2), ("line", 3), ("side", 4)]) (vs1 := [4]) (pdi_enum T.b_enumerate (pad_cons (pd_var 0) pad_nil)) sc_ends_of.nd (blkOk_by (N := N_ends_of) (sc := defScope s_ends_of) (by decide +kernel)) (fun _ _ _ _ _ => (pdg_tup (pdgs_cons (pdg_name 2 sc_ends_of.nd) (pdgs_cons (pdg_name 3 sc_ends_of.nd) pdgs_nil)))) (fun _ _ _ _ _ => ptsd_nil) (fun _ _ _ _ _ => (pdi_seq (pd_tup (pad_cons pd_int (pad_cons pd_int pad_nil))))) (fun _ _ _ _ _ => (pdg_name 4 sc_ends_of.nd)) (fun _ _ _ _ _ => (ptsd_one (ptd_eq hr.units (pd_ix (pd_var 3) (pd_var 4)) (pd_var 1)))) (fun _ _ _ _ _ => (pd_tup (pad_cons (pd_var 2) (pad_cons (pd_var 4) pad_nil)))))))
abbrev s_ends_at : Stmt := topS 16
abbrev N_ends_at : List Str := ["web", "place", "places", "lines"]
abbrev P_ends_at : List Str := ["web", "place"]
theorem sc_ends_at : FnScope N_ends_at P_ends_at (defScope s_ends_at) := ⟨rfl, rfl, rfl, by decide +kernel, rfl, by decide +kernel, by decide +kernel⟩
def sd_ends_at : Ds :=
  (dSeq (dAsgG (gTupD 2 (gsCons (gN 2) (gsCons (gN 3) gsNil))) (dCall d_checked_web (aVal (dVar 0) aNil))) (dSeq (dDrop (dCall d_check_place (aVal (dVar 2) (aVal (dVar 1) aNil)))) (dRet (dCall d_ends_of (aVal (dVar 3) (aVal (dVar 1) aNil))))))
@[irreducible] def d_ends_at (as : List Sl) : R Vl := noEx as (runDef 2 4 sd_ends_at as)
theorem ok_ends_at {P : Program} {w : World} {K : PySem.W.Frag} {mg : Str → Option Value} {base : Heap} (T : Txt K mg) (D : Dfn K mg "ends_at" s_ends_at P_ends_at) (c_checked_web : Cal P w K mg base 5 "checked_web" P_checked_web d_checked_web) (c_check_place : Cal P w K mg base 3 "check_place" P_check_place d_check_place) (c_ends_of : Cal P w K mg base 1 "ends_of" P_ends_of d_ends_of) : Cal P w K mg base 6 "ends_at" P_ends_at d_ends_at := by
  rw [show d_ends_at = (fun as => noEx as (runDef 2 4 sd_ends_at as)) from by funext as; rw [d_ends_at]]
  exact cal_of D fun f fd F => fn_n F sc_ends_at fun cdv A outer s H E hr =>
    (pds_cons (pds_asg (pd_cal c_checked_web (hr.mono (by decide)) (paa_val (pd_var 0) paa_nil)) (pdg_tup (pdgs_cons (pdg_name 2 sc_ends_at.nd) (pdgs_cons (pdg_name 3 sc_ends_at.nd) pdgs_nil)))) (pds_cons (pds_expr (pd_cal c_check_place (hr.mono (by decide)) (paa_val (pd_var 2) (paa_val (pd_var 1) paa_nil)))) (pds_one (pds_ret (pd_cal c_ends_of (hr.mono (by decide)) (paa_val (pd_var 3) (paa_val (pd_var 1) paa_nil)))))))
abbrev s__law_reel : Stmt := topS 18
abbrev N__law_reel : List Str := ["script", "stir", "cell", "great"]
abbrev P__law_reel : List Str := ["script"]
theorem sc__law_reel : FnScope N__law_reel P__law_reel (defScope s__law_reel) := ⟨rfl, rfl, rfl, by decide +kernel, rfl, by decide +kernel, by decide +kernel⟩
def sd__law_reel : Ds :=
  (dSeq (dAsg 1 (dBin fPow (dC (.int 3)) (dC (.int 60)))) (dSeq (dFor (dIter (dSl (dVar 0) oNone (oSome (dC (.int 63))))) (gN 2) (dAsg 1 (dBin fMod (dBin fAdd (dBin fAdd (dBin fMul (dVar 1) (dVar 1)) (dBin fMod (dVar 2) (dC (.int 1000000000000000003)))) (dC (.int 11))) (dBin fSub (dBin fMul (dBin fPow (dC (.int 2)) (dC (.int 64))) (dBin fPow (dC (.int 2)) (dC (.int 63)))) (dC (.int 1)))))) (dSeq (dAsg 3 (dLc [2] (dIter (dSl (dVar 0) oNone (oSome (dC (.int 63))))) (gN 2) (dTest (dBin fGe (dVar 2) (dBin fPow (dC (.int 10)) (dC (.int 18))))) (dBin fSub (dVar 2) (dBin fPow (dC (.int 10)) (dC (.int 18)))))) (dRet (dLst (dCons (dVar 3) (dCons (dBin fAdd (dLc [2] (dIter (dSl (dVar 0) oNone (oSome (dC (.int 63))))) (gN 2) dYes (dBin fMod (dVar 2) (dC (.int 1000003)))) (dLst (dCons (dC (.int 41)) dNil))) (dCons (dC (.int 0)) (dCons (dVar 1) dNil)))))))))
@[irreducible] def d__law_reel (as : List Sl) : R Vl := noEx as (runDef 1 4 sd__law_reel as)
theorem ok__law_reel {P : Program} {w : World} {K : PySem.W.Frag} {mg : Str → Option Value} {base : Heap} (T : Txt K mg) (D : Dfn K mg "_law_reel" s__law_reel P__law_reel)  : Cal P w K mg base 1 "_law_reel" P__law_reel d__law_reel := by
  rw [show d__law_reel = (fun as => noEx as (runDef 1 4 sd__law_reel as)) from by funext as; rw [d__law_reel]]
  exact cal_of D fun f fd F => fn_n F sc__law_reel fun cdv A outer s H E hr =>
    (pds_cons (pds_set 1 (pd_pow pd_int pd_int) sc__law_reel.nd) (pds_cons (pds_for PassesOwn.never (pdi_seq (pd_sl (pd_var 0) pod_none (pod_some pd_int))) (pdg_name 2 sc__law_reel.nd) (pds_one (pds_set 1 (pd_mod (pd_add (pd_add (pd_mul (pd_var 1) (pd_var 1)) (pd_mod (pd_var 2) pd_int)) pd_int) (pd_sub (pd_mul (pd_pow pd_int pd_int) (pd_pow pd_int pd_int)) pd_int)) sc__law_reel.nd))) (pds_cons (pds_setLc 3  (own := [("cell", 2)]) (pdi_seq (pd_sl (pd_var 0) pod_none (pod_some pd_int))) sc__law_reel.nd (blkOk_by (N := N__law_reel) (sc := defScope s__law_reel) (by decide +kernel)) (fun _ _ _ _ _ => (pdg_name 2 sc__law_reel.nd)) (fun _ _ _ _ _ => (ptsd_one (ptd_ge (pd_var 2) (pd_pow pd_int pd_int)))) (fun _ _ _ _ _ => (pd_sub (pd_var 2) (pd_pow pd_int pd_int))) (sw_true rfl rfl rfl (by decide +kernel))) (pds_one (pds_ret (pd_lst (pad_cons (pd_var 3) (pad_cons (pd_add (pd_lc (own := [("cell", 2)]) (pdi_seq (pd_sl (pd_var 0) pod_none (pod_some pd_int))) sc__law_reel.nd (blkOk_by (N := N__law_reel) (sc := defScope s__law_reel) (by decide +kernel)) (fun _ _ _ _ _ => (pdg_name 2 sc__law_reel.nd)) (fun _ _ _ _ _ => ptsd_nil) (fun _ _ _ _ _ => (pd_mod (pd_var 2) pd_int))) (pd_lst (pad_cons pd_int pad_nil))) (pad_cons pd_int (pad_cons (pd_var 1) pad_nil))))))))))
abbrev s__law_draw : Stmt := topS 19
abbrev N__law_draw : List Str := ["reel", "many", "rest", "told", "stir"]
abbrev P__law_draw : List Str := ["reel", "many"]
theorem sc__law_draw : FnScope N__law_draw P__law_draw (defScope s__law_draw) := ⟨rfl, rfl, rfl, by decide +kernel, rfl, by decide +kernel, by decide +kernel⟩
def sd__law_draw : Ds :=
  (dSeq (dIfS (dTest (dBin fNe (dBin fIx (dVar 0) (dC (.int 0))) (dLst dNil))) (dSeq (dAsg 2 (dBin fIx (dBin fIx (dVar 0) (dC (.int 0))) (dC (.int 0)))) (dSeq (dSetI 0 (dC (.int 0)) (dBin fAdd (dBin fMul (dLst (dCons (dBin fDiv (dVar 2) (dVar 1)) dNil)) (dUn fInt (dBin fGe (dVar 2) (dVar 1)))) (dSl (dBin fIx (dVar 0) (dC (.int 0))) (oSome (dC (.int 1))) oNone))) (dRet (dBin fMod (dVar 2) (dVar 1))))) dSkip) (dSeq (dSetI 0 (dC (.int 2)) (dBin fAdd (dBin fIx (dVar 0) (dC (.int 2))) (dC (.int 1)))) (dSeq (dAsg 3 (dBin fIx (dBin fIx (dVar 0) (dC (.int 1))) (dBin fMod (dBin fIx (dVar 0) (dC (.int 2))) (dUn fLen (dBin fIx (dVar 0) (dC (.int 1))))))) (dSeq (dAsg 4 (dBin fAdd (dBin fAdd (dBin fMul (dBin fIx (dVar 0) (dC (.int 3))) (dBin fIx (dVar 0) (dC (.int 3)))) (dBin fMul (dBin fAdd (dVar 3) (dC (.int 7))) (dC (.int 69621)))) (dBin fMul (dBin fIx (dVar 0) (dC (.int 2))) (dC (.int 1000003))))) (dSeq (dSetI 0 (dC (.int 3)) (dBin fMod (dVar 4) (dBin fSub (dBin fMul (dBin fPow (dC (.int 2)) (dC (.int 64))) (dBin fPow (dC (.int 2)) (dC (.int 63)))) (dC (.int 1))))) (dRet (dBin fMod (dBin fDiv (dBin fIx (dVar 0) (dC (.int 3))) (dBin fPow (dC (.int 2)) (dC (.int 40)))) (dVar 1))))))))
@[irreducible] def d__law_draw (as : List Sl) : R Vl := noEx as (runDef 2 5 sd__law_draw as)
theorem ok__law_draw {P : Program} {w : World} {K : PySem.W.Frag} {mg : Str → Option Value} {base : Heap} (T : Txt K mg) (D : Dfn K mg "_law_draw" s__law_draw P__law_draw)  : Cal P w K mg base 1 "_law_draw" P__law_draw d__law_draw := by
  rw [show d__law_draw = (fun as => noEx as (runDef 2 5 sd__law_draw as)) from by funext as; rw [d__law_draw]]
  exact cal_of D fun f fd F => fn_n F sc__law_draw fun cdv A outer s H E hr =>
    (pds_cons (pds_if (ptd_ne hr.units (pd_ix (pd_var 0) pd_int) (pd_lst pad_nil)) (pds_cons (pds_set 2 (pd_ix (pd_ix (pd_var 0) pd_int) pd_int) sc__law_draw.nd) (pds_cons (pds_setI 0 (pd_add (pd_mul (pd_lst (pad_cons (pd_div (pd_var 2) (pd_var 1)) pad_nil)) (pd_int1 T.b_int (pd_ge (pd_var 2) (pd_var 1)))) (pd_sl (pd_ix (pd_var 0) pd_int) (pod_some pd_int) pod_none)) pd_int) (pds_one (pds_ret (pd_mod (pd_var 2) (pd_var 1)))))) pds_nil) (pds_cons (pds_setI 0 (pd_add (pd_ix (pd_var 0) pd_int) pd_int) pd_int) (pds_cons (pds_set 3 (pd_ix (pd_ix (pd_var 0) pd_int) (pd_mod (pd_ix (pd_var 0) pd_int) (pd_len T.b_len (pd_ix (pd_var 0) pd_int)))) sc__law_draw.nd) (pds_cons (pds_set 4 (pd_add (pd_add (pd_mul (pd_ix (pd_var 0) pd_int) (pd_ix (pd_var 0) pd_int)) (pd_mul (pd_add (pd_var 3) pd_int) pd_int)) (pd_mul (pd_ix (pd_var 0) pd_int) pd_int)) sc__law_draw.nd) (pds_cons (pds_setI 0 (pd_mod (pd_var 4) (pd_sub (pd_mul (pd_pow pd_int pd_int) (pd_pow pd_int pd_int)) pd_int)) pd_int) (pds_one (pds_ret (pd_mod (pd_div (pd_ix (pd_var 0) pd_int) (pd_pow pd_int pd_int)) (pd_var 1)))))))))
abbrev s__law_net : Stmt := topS 20
abbrev N__law_net : List Str := ["reel", "most", "some", "places", "many", "letters", "wide", "found", "k"]
abbrev P__law_net : List Str := ["reel", "most"]
theorem sc__law_net : FnScope N__law_net P__law_net (defScope s__law_net) := ⟨rfl, rfl, rfl, by decide +kernel, rfl, by decide +kernel, by decide +kernel⟩
def sd__law_net : Ds :=
  (dSeq (dAsg 2 (dLst (dCons (dCall d__law_draw (aRef 0 (aVal (dC (.int 4)) aNil))) (dCons (dBin fAdd (dC (.int 1)) (dCall d__law_draw (aRef 0 (aVal (dC (.int 4)) aNil)))) (dCons (dBin fAdd (dC (.int 2)) (dCall d__law_draw (aRef 0 (aVal (dC (.int 7)) aNil)))) (dCons (dCall d__law_draw (aRef 0 (aVal (dC (.int 25)) aNil))) dNil)))))) (dSeq (dAsg 3 (dBin fIx (dVar 2) (dCall d__law_draw (aRef 0 (aVal (dC (.int 4)) aNil))))) (dSeq (dAsg 4 (dBin fIx (dLst (dCons (dCall d__law_draw (aRef 0 (aVal (dC (.int 9)) aNil))) (dCons (dCall d__law_draw (aRef 0 (aVal (dC (.int 16)) aNil))) (dCons (dCall d__law_draw (aRef 0 (aVal (dBin fAdd (dVar 1) (dC (.int 1))) aNil))) dNil)))) (dCall d__law_draw (aRef 0 (aVal (dC (.int 3)) aNil))))) (dSeq (dAsg 5 (dBin fIx (dLst (dCons (dC (.str ("a" : PySem.Str))) (dCons (dC (.str ("ab" : PySem.Str))) (dCons (dC (.str ("aab" : PySem.Str))) (dCons (dC (.str ("abc" : PySem.Str))) (dCons (dC (.str ("abcdxyz" : PySem.Str))) (dCons (dC (.str ("abcdefghijklmnopqrstuvwxyz" : PySem.Str))) dNil))))))) (dCall d__law_draw (aRef 0 (aVal (dC (.int 6)) aNil))))) (dSeq (dAsg 6 (dBin fAdd (dC (.int 1)) (dCall d__law_draw (aRef 0 (aVal (dBin fMax2 (dC (.int 1)) (dVar 3)) aNil))))) (dSeq (dAsg 7 (dLst dNil)) (dSeq (dFor (dRange1 (dCons (dBin fMul (dBin fMin2 (dVar 4) (dVar 1)) (dUn fInt (dBin fGt (dVar 3) (dC (.int 0))))) dNil)) (gN 8) (dApp 7 (dTup (dCons (dCall d__law_draw (aRef 0 (aVal (dVar 6) aNil))) (dCons (dCall d__law_draw (aRef 0 (aVal (dVar 6) aNil))) (dCons (dBin fIx (dVar 5) (dCall d__law_draw (aRef 0 (aVal (dUn fLen (dVar 5)) aNil)))) dNil)))))) (dRet (dTup (dCons (dVar 3) (dCons (dUn fTuple (dVar 7)) dNil)))))))))))
@[irreducible] def d__law_net (as : List Sl) : R Vl := noEx as (runDef 2 9 sd__law_net as)
theorem ok__law_net {P : Program} {w : World} {K : PySem.W.Frag} {mg : Str → Option Value} {base : Heap} (T : Txt K mg) (D : Dfn K mg "_law_net" s__law_net P__law_net) (c__law_draw : Cal P w K mg base 1 "_law_draw" P__law_draw d__law_draw) : Cal P w K mg base 2 "_law_net" P__law_net d__law_net := by
  rw [show d__law_net = (fun as => noEx as (runDef 2 9 sd__law_net as)) from by funext as; rw [d__law_net]]
  exact cal_of D fun f fd F => fn_n F sc__law_net fun cdv A outer s H E hr =>
    (pds_cons (pds_set 2 (pd_lst (pad_cons (pd_cal c__law_draw (hr.mono (by decide)) (paa_ref 0 (paa_val pd_int paa_nil))) (pad_cons (pd_add pd_int (pd_cal c__law_draw (hr.mono (by decide)) (paa_ref 0 (paa_val pd_int paa_nil)))) (pad_cons (pd_add pd_int (pd_cal c__law_draw (hr.mono (by decide)) (paa_ref 0 (paa_val pd_int paa_nil)))) (pad_cons (pd_cal c__law_draw (hr.mono (by decide)) (paa_ref 0 (paa_val pd_int paa_nil))) pad_nil))))) sc__law_net.nd) (pds_cons (pds_set 3 (pd_ix (pd_var 2) (pd_cal c__law_draw (hr.mono (by decide)) (paa_ref 0 (paa_val pd_int paa_nil)))) sc__law_net.nd) (pds_cons (pds_set 4 (pd_ix (pd_lst (pad_cons (pd_cal c__law_draw (hr.mono (by decide)) (paa_ref 0 (paa_val pd_int paa_nil))) (pad_cons (pd_cal c__law_draw (hr.mono (by decide)) (paa_ref 0 (paa_val pd_int paa_nil))) (pad_cons (pd_cal c__law_draw (hr.mono (by decide)) (paa_ref 0 (paa_val (pd_add (pd_var 1) pd_int) paa_nil))) pad_nil)))) (pd_cal c__law_draw (hr.mono (by decide)) (paa_ref 0 (paa_val pd_int paa_nil)))) sc__law_net.nd) (pds_cons (pds_set 5 (pd_ix (pd_lst (pad_cons pd_str (pad_cons pd_str (pad_cons pd_str (pad_cons pd_str (pad_cons pd_str (pad_cons pd_str pad_nil))))))) (pd_cal c__law_draw (hr.mono (by decide)) (paa_ref 0 (paa_val pd_int paa_nil)))) sc__law_net.nd) (pds_cons (pds_set 6 (pd_add pd_int (pd_cal c__law_draw (hr.mono (by decide)) (paa_ref 0 (paa_val (pd_max2 T.b_max pd_int (pd_var 3)) paa_nil)))) sc__law_net.nd) (pds_cons (pds_set 7 (pd_lst pad_nil) sc__law_net.nd) (pds_cons (pds_for PassesOwn.never (pdi_range1 T.b_range (pad_cons (pd_mul (pd_min2 T.b_min (pd_var 4) (pd_var 1)) (pd_int1 T.b_int (pd_gt (pd_var 3) pd_int))) pad_nil)) (pdg_name 8 sc__law_net.nd) (pds_one (pds_app 7 (pd_tup (pad_cons (pd_cal c__law_draw (hr.mono (by decide)) (paa_ref 0 (paa_val (pd_var 6) paa_nil))) (pad_cons (pd_cal c__law_draw (hr.mono (by decide)) (paa_ref 0 (paa_val (pd_var 6) paa_nil))) (pad_cons (pd_ix (pd_var 5) (pd_cal c__law_draw (hr.mono (by decide)) (paa_ref 0 (paa_val (pd_len T.b_len (pd_var 5)) paa_nil)))) pad_nil))))))) (pds_one (pds_ret (pd_tup (pad_cons (pd_var 3) (pad_cons (pd_tuple T.b_tuple (pd_var 7)) pad_nil))))))))))))
abbrev s__law_dressed : Stmt := topS 21
abbrev N__law_dressed : List Str := ["reel", "thing", "found", "one"]
abbrev P__law_dressed : List Str := ["reel", "thing"]
theorem sc__law_dressed : FnScope N__law_dressed P__law_dressed (defScope s__law_dressed) := ⟨rfl, rfl, rfl, by decide +kernel, rfl, by decide +kernel, by decide +kernel⟩
def sd__law_dressed (me : List Sl → R Vl) : Ds :=
  (dSeq (dIfS (dTest (dUn (fIsi "tuple") (dVar 1))) (dSeq (dAsg 2 (dLc [3] (dIter (dVar 1)) (gN 3) dYes (dCall me (aRef 0 (aVal (dVar 3) aNil))))) (dRet (dIf (dTest (dBin fEq (dCall d__law_draw (aRef 0 (aVal (dC (.int 2)) aNil))) (dC (.int 0)))) (dVar 2) (dUn fTuple (dVar 2))))) dSkip) (dRet (dVar 1)))
@[irreducible] def d__law_dressed (m : Nat) : List Sl → R Vl := itN (fun me as => noEx as (runDef 2 4 (sd__law_dressed me) as)) m
theorem ok__law_dressed {P : Program} {w : World} {K : PySem.W.Frag} {mg : Str → Option Value} {base : Heap} (T : Txt K mg) (D : Dfn K mg "_law_dressed" s__law_dressed P__law_dressed) (c__law_draw : Cal P w K mg base 1 "_law_draw" P__law_draw d__law_draw) : ∀ m : Nat, Cal P w K mg base (m + 1) "_law_dressed" P__law_dressed (d__law_dressed m)
  | 0 => by
    rw [show d__law_dressed 0 = (fun _ => .bad) from by simp only [d__law_dressed, itN]]
    exact cal_none D
  | m + 1 => by
    rw [show d__law_dressed (m + 1) = (fun as => noEx as (runDef 2 4 (sd__law_dressed (d__law_dressed m)) as)) from by simp only [d__law_dressed, itN]]
    have IH := ok__law_dressed (P := P) (w := w) (base := base) T D c__law_draw m
    exact cal_of D fun f fd F => fn_n F sc__law_dressed fun cdv A outer s H E hr =>
      (pds_cons (pds_if (pdt_val (pd_isi T.b_isinstance T.b_tuple (pd_var 1))) (pds_cons (pds_setLc 2  (own := [("one", 3)]) (pdi_seq (pd_var 1)) sc__law_dressed.nd (blkOk_by (N := N__law_dressed) (sc := defScope s__law_dressed) (by decide +kernel)) (fun _ _ _ _ _ => (pdg_name 3 sc__law_dressed.nd)) (fun _ _ _ _ _ => ptsd_nil) (fun _ _ _ _ _ => (pd_cal IH (hr.mono (by omega)) (paa_ref 0 (paa_val (pd_var 3) paa_nil)))) (sw_true rfl rfl rfl (by decide +kernel))) (pds_one (pds_ret (pd_if (ptd_eq hr.units (pd_cal c__law_draw (hr.mono (by omega)) (paa_ref 0 (paa_val pd_int paa_nil))) pd_int) (pd_var 2) (pd_tuple T.b_tuple (pd_var 2)))))) pds_nil) (pds_one (pds_ret (pd_var 1))))
theorem okR__law_dressed {P : Program} {w : World} {K : PySem.W.Frag} {mg : Str → Option Value} {base : Heap} (T : Txt K mg) (D : Dfn K mg "_law_dressed" s__law_dressed P__law_dressed) (c__law_draw : Cal P w K mg base 1 "_law_draw" P__law_draw d__law_draw) : Cal P w K mg base 22 "_law_dressed" P__law_dressed (d__law_dressed fuelR) := (ok__law_dressed T D c__law_draw fuelR).mono (by decide)
abbrev s__law_spoilt : Stmt := topS 22
abbrev N__law_spoilt : List Str := ["thing", "one"]
abbrev P__law_spoilt : List Str := ["thing"]
theorem sc__law_spoilt : FnScope N__law_spoilt P__law_spoilt (defScope s__law_spoilt) := ⟨rfl, rfl, rfl, by decide +kernel, rfl, by decide +kernel, by decide +kernel⟩
theorem ok__law_spoilt {P : Program} {w : World} {K : PySem.W.Frag} {mg : Str → Option Value} {base : Heap} (T : Txt K mg) (D : Dfn K mg "_law_spoilt" s__law_spoilt P__law_spoilt) : ∀ n : Nat, CalS P w K mg base n "_law_spoilt" P__law_spoilt (spoilSp K n)
  | 0 => by
    obtain ⟨f, fd, Fu, a, b, c⟩ := D.ex
    exact ⟨f, fd, ⟨fun vs H Q E h => (spoil_bad h).elim, fun A outer s H args us vs Q E _ _ _ _ h => (spoil_bad h).elim⟩, a, b, c⟩
  | n + 1 => by
    have IH := ok__law_spoilt (P := P) (w := w) (base := base) T D n
    obtain ⟨f, fd, Fu, a, b, c⟩ := D.ex
    refine ⟨f, fd, Fu.ok sc__law_spoilt (fun vs H Q E h => spoil_len h) fun cdv A outer s H vs Q E hr h => ?_, a, b, c⟩
    refine ⟨_, pss_cons (ps_if (pt_val (pe_callB call_isiT (by rfl) T.b_isinstance (by decide +kernel) (pa_cons (pe_var (i := 0) (by rfl) (Or.inl rfl)) (pa_cons (pe_tys2 (U1 := "list") (U2 := "tuple") T.b_list T.b_tuple) pa_nil))))
      (pss_one (ps_for PassesOwn.never rfl (pi_or (pi_list (pe_var (i := 0) (by rfl) (Or.inl rfl))) (pi_tup (pe_var (i := 0) (by rfl) (Or.inl rfl)))) (pg_name (i := 1) sc__law_spoilt.nd (by rfl) (Or.inl rfl))
        (pss_one (ps_expr (ps_callS IH (hr.mono (by omega)) (pa_cons (pe_var (i := 1) (by rfl) (Or.inl rfl)) pa_nil))))))
      pss_nil) (pss_one (ps_if (pt_val (pe_callB call_isi (by rfl) T.b_isinstance (by decide +kernel) (pa_cons (pe_var (i := 0) (by rfl) (Or.inl rfl)) (pa_cons (pe_bltn (v := .ty "list") (u := .type "list") (by rfl) T.b_list (by decide +kernel) rfl) pa_nil))))
        (pss_one (ps_expr (pe_bm0 PySem.F.plainAttrs_list PySem.F.slot_list_clear PySem.F.type_list_clear mt_clear (pe_var (i := 0) (by rfl) (Or.inl rfl))))) pss_nil)), ?_⟩
    obtain ⟨F, v, d, rfl, hd, hc, hn, nr, hq⟩ := h
    have sec : ∀ (o : Option V) (H1 : Hp), Near F H1 → Past F H H1 →
        tIfS (tB (tCB (rIsi K) (tCons (tVar 0) (tCons (tC (.ty "list")) tNil)))) (tDrop (tBM0 K "list" rClear (tVar 0))) tNext { nx := fun _ H' => Q .non H', rt := Q } [some v, o] H1 := by
      intro o H1 n1 p1
      refine ⟨v, rfl, v, .ty "list", _, _, _, rfl, .ty "list", ty_near hd hc n1, kit_d d (T := "list") rfl, _, rfl, ?_⟩
      cases d with
      | list ds =>
        refine iteT ?_
        cases hd with
        | @lst a xs _ ha wa =>
          have em : ∃ ys, H1 a = some (.lst ys) := by
            rcases n1 a _ ha with q | ⟨_, q⟩
            · exact ⟨_, q⟩
            · exact ⟨_, q⟩
          obtain ⟨ys, em⟩ := em
          exact ⟨.ref a, rfl, .inl ⟨rfl, _, SqL.of em⟩, a, ys, rfl, rfl, em, hq _ (n1.clear ha) (p1.trans (Past.clear ha))⟩
      | tuple ds => exact iteF (hq _ n1 p1)
      | none => exact iteF (hq _ n1 p1)
      | bool _ => exact iteF (hq _ n1 p1)
      | int _ => exact iteF (hq _ n1 p1)
      | str _ => exact iteF (hq _ n1 p1)
      | dict _ => cases hc
    refine ⟨v, rfl, fun p hp => ⟨v, p, _, _, _, _, rfl, upd_same, cls_all ["list", "tuple"], ty_near hd hc (nr.new hp), kit_any d (Ts := ["list", "tuple"]) rfl, _, rfl, ?_⟩⟩
    have nr1 := nr.new (o := .tup (["list", "tuple"].map V.ty)) hp
    have ps1 : Past F H (upd H p (.tup (["list", "tuple"].map V.ty))) := Past.new hp
    cases d with
    | list ds =>
      refine iteT (.inl ⟨v, rfl, ?_⟩)
      cases hd with
      | @lst a xs _ ha wa =>
        obtain ⟨ys, em⟩ : ∃ ys, SqL K (upd H p (.tup (["list", "tuple"].map V.ty))) a ys := by
          rcases nr1 a _ ha with q | ⟨_, q⟩
          · exact ⟨_, SqL.of q⟩
          · exact ⟨_, SqL.of q⟩
        refine ⟨a, rfl, ⟨ys, em⟩, fun i m σ2 H2 => m = xs.length - i ∧ i ≤ xs.length ∧ (∃ o, σ2 = [some (.ref a), o]) ∧ Near F H2 ∧ Past F H H2, ⟨xs.length, by simp, Nat.zero_le _, ⟨_, rfl⟩, nr1, ps1⟩, ?_⟩
        rintro i m σ2 H2 ⟨rfl, hi, ⟨o, rfl⟩, n2, p2⟩
        rcases n2 a _ ha with q | ⟨_, q⟩
        · by_cases hlt : i < xs.length
          · right
            refine ⟨⟨xs, xs[i], SqL.of q, List.getElem?_eq_getElem hlt⟩, fun σ' H' => (∃ o, σ' = [some (.ref a), o]) ∧ Near F H' ∧ Past F H H', fun σ' H' z => ⟨xs.length - (i + 1), by omega, rfl, hlt, z⟩, fun x H3 y => ?_⟩
            obtain ⟨rfl, y⟩ := y
            obtain ⟨e, e1, e2⟩ := dpa_get' wa (y xs (SqL.of q))
            have em := List.mem_of_getElem? e1
            have hcL : PyData.canLayAll0 ds = true := hc
            have hd2 : dep e < n := by
              have := dep_mem em
              unfold dep at hn
              omega
            exact ⟨x, rfl, F, x, e, rfl, e2, lay_mem hcL em, hd2, n2, fun H' n' p' => ⟨⟨_, rfl⟩, n', p2.trans p'⟩⟩
          · left
            exact ⟨⟨xs, SqL.of q, by omega⟩, sec _ _ n2 p2⟩
        · left
          exact ⟨⟨[], SqL.of q, Nat.zero_le _⟩, sec _ _ n2 p2⟩
    | tuple ds =>
      refine iteT (.inr ⟨v, rfl, ?_⟩)
      cases hd with
      | @tup a xs _ ha wa =>
        obtain ⟨ys, em⟩ : ∃ ys, SqT K (upd H p (.tup (["list", "tuple"].map V.ty))) a ys := by
          rcases nr1 a _ ha with q | ⟨⟨_, q⟩, _⟩
          · exact ⟨_, SqT.of q⟩
          · cases q
        refine ⟨a, rfl, ⟨ys, em⟩, fun i m σ2 H2 => m = xs.length - i ∧ i ≤ xs.length ∧ (∃ o, σ2 = [some (.ref a), o]) ∧ Near F H2 ∧ Past F H H2, ⟨xs.length, by simp, Nat.zero_le _, ⟨_, rfl⟩, nr1, ps1⟩, ?_⟩
        rintro i m σ2 H2 ⟨rfl, hi, ⟨o, rfl⟩, n2, p2⟩
        rcases n2 a _ ha with q | ⟨⟨_, q⟩, _⟩
        · by_cases hlt : i < xs.length
          · right
            refine ⟨⟨xs, xs[i], SqT.of q, List.getElem?_eq_getElem hlt⟩, fun σ' H' => (∃ o, σ' = [some (.ref a), o]) ∧ Near F H' ∧ Past F H H', fun σ' H' z => ⟨xs.length - (i + 1), by omega, rfl, hlt, z⟩, fun x H3 y => ?_⟩
            obtain ⟨rfl, y⟩ := y
            obtain ⟨e, e1, e2⟩ := dpa_get' wa (y xs (SqT.of q))
            have em := List.mem_of_getElem? e1
            have hcL : PyData.canLayAll0 ds = true := hc
            have hd2 : dep e < n := by
              have := dep_mem em
              unfold dep at hn
              omega
            exact ⟨x, rfl, F, x, e, rfl, e2, lay_mem hcL em, hd2, n2, fun H' n' p' => ⟨⟨_, rfl⟩, n', p2.trans p'⟩⟩
          · left
            exact ⟨⟨xs, SqT.of q, by omega⟩, sec _ _ n2 p2⟩
        · cases q
    | none => exact iteF (sec _ _ nr1 ps1)
    | bool _ => exact iteF (sec _ _ nr1 ps1)
    | int _ => exact iteF (sec _ _ nr1 ps1)
    | str _ => exact iteF (sec _ _ nr1 ps1)
    | dict _ => cases hc
abbrev s__law_alike : Stmt := topS 23
abbrev N__law_alike : List Str := ["found", "due", "k"]
abbrev P__law_alike : List Str := ["found", "due"]
theorem sc__law_alike : FnScope N__law_alike P__law_alike (defScope s__law_alike) := ⟨rfl, rfl, rfl, by decide +kernel, rfl, by decide +kernel, by decide +kernel⟩
def sd__law_alike (me : List Sl → R Vl) : Ds :=
  (dSeq (dIfS (dTest (dUn (fIsiT ["list", "tuple"]) (dVar 1))) (dSeq (dIfS (dOr (dTest (dBin fNe (dUn (fIsi "list") (dVar 0)) (dUn (fIsi "list") (dVar 1)))) (dTest (dBin fNe (dUn (fIsi "tuple") (dVar 0)) (dUn (fIsi "tuple") (dVar 1))))) (dRet (dC (.bool false))) dSkip) (dSeq (dIfS (dTest (dBin fNe (dUn fLen (dVar 0)) (dUn fLen (dVar 1)))) (dRet (dC (.bool false))) dSkip) (dRet (dBin fEq (dLc [2] (dRange1 (dCons (dUn fLen (dVar 1)) dNil)) (gN 2) (dNot (dTest (dCall me (aVal (dBin fIx (dVar 0) (dVar 2)) (aVal (dBin fIx (dVar 1) (dVar 2)) aNil))))) (dVar 2)) (dLst dNil))))) dSkip) (dSeq (dIfS (dOr (dTest (dBin fNe (dUn (fIsi "bool") (dVar 0)) (dUn (fIsi "bool") (dVar 1)))) (dTest (dBin fNe (dUn (fIsi "str") (dVar 0)) (dUn (fIsi "str") (dVar 1))))) (dRet (dC (.bool false))) dSkip) (dRet (dBin fEq (dVar 0) (dVar 1)))))
@[irreducible] def d__law_alike (m : Nat) : List Sl → R Vl := itN (fun me as => noEx as (runDef 2 3 (sd__law_alike me) as)) m
theorem ok__law_alike {P : Program} {w : World} {K : PySem.W.Frag} {mg : Str → Option Value} {base : Heap} (T : Txt K mg) (D : Dfn K mg "_law_alike" s__law_alike P__law_alike)  : ∀ m : Nat, Cal P w K mg base (m + 0) "_law_alike" P__law_alike (d__law_alike m)
  | 0 => by
    rw [show d__law_alike 0 = (fun _ => .bad) from by simp only [d__law_alike, itN]]
    exact cal_none D
  | m + 1 => by
    rw [show d__law_alike (m + 1) = (fun as => noEx as (runDef 2 3 (sd__law_alike (d__law_alike m)) as)) from by simp only [d__law_alike, itN]]
    have IH := ok__law_alike (P := P) (w := w) (base := base) T D  m
    exact cal_of D fun f fd F => fn_n F sc__law_alike fun cdv A outer s H E hr =>
      (pds_cons (pds_if (pdt_val (pd_isiT T.b_isinstance (pd_var 1) (pe_tys2 T.b_list T.b_tuple))) (pds_cons (pds_if (PW.pt (ptd_or (ptd_ne hr.units (pd_isi T.b_isinstance T.b_list (pd_var 0)) (pd_isi T.b_isinstance T.b_list (pd_var 1))) (pw_or1 (ptd_ne hr.units (pd_isi T.b_isinstance T.b_tuple (pd_var 0)) (pd_isi T.b_isinstance T.b_tuple (pd_var 1)))))) (pds_one (pds_ret pd_bl)) pds_nil) (pds_cons (pds_if (ptd_ne hr.units (pd_len T.b_len (pd_var 0)) (pd_len T.b_len (pd_var 1))) (pds_one (pds_ret pd_bl)) pds_nil) (pds_one (pds_ret (pd_eq hr.units (pd_lc (own := [("k", 2)]) (pdi_range1 T.b_range (pad_cons (pd_len T.b_len (pd_var 1)) pad_nil)) sc__law_alike.nd (blkOk_by (N := N__law_alike) (sc := defScope s__law_alike) (by decide +kernel)) (fun _ _ _ _ _ => (pdg_name 2 sc__law_alike.nd)) (fun _ _ _ _ _ => (ptsd_one (ptd_not (pdt_val (pd_cal IH (hr.mono (by omega)) (paa_val (pd_ix (pd_var 0) (pd_var 2)) (paa_val (pd_ix (pd_var 1) (pd_var 2)) paa_nil))))))) (fun _ _ _ _ _ => (pd_var 2))) (pd_lst pad_nil)))))) pds_nil) (pds_cons (pds_if (PW.pt (ptd_or (ptd_ne hr.units (pd_isi T.b_isinstance T.b_bool (pd_var 0)) (pd_isi T.b_isinstance T.b_bool (pd_var 1))) (pw_or1 (ptd_ne hr.units (pd_isi T.b_isinstance T.b_str (pd_var 0)) (pd_isi T.b_isinstance T.b_str (pd_var 1)))))) (pds_one (pds_ret pd_bl)) pds_nil) (pds_one (pds_ret (pd_eq hr.units (pd_var 0) (pd_var 1))))))
theorem okR__law_alike {P : Program} {w : World} {K : PySem.W.Frag} {mg : Str → Option Value} {base : Heap} (T : Txt K mg) (D : Dfn K mg "_law_alike" s__law_alike P__law_alike)  : Cal P w K mg base 21 "_law_alike" P__law_alike (d__law_alike fuelR) := (ok__law_alike T D  fuelR).mono (by decide)
abbrev s__law_ends : Stmt := topS 24
abbrev N__law_ends : List Str := ["net", "place", "found", "number", "side"]
abbrev P__law_ends : List Str := ["net", "place"]
theorem sc__law_ends : FnScope N__law_ends P__law_ends (defScope s__law_ends) := ⟨rfl, rfl, rfl, by decide +kernel, rfl, by decide +kernel, by decide +kernel⟩
def sd__law_ends : Ds :=
  (dSeq (dAsg 2 (dLst dNil)) (dSeq (dFor (dRange1 (dCons (dUn fLen (dBin fIx (dVar 0) (dC (.int 1)))) dNil)) (gN 3) (dExt 2 (dLc [4] (dRange1 (dCons (dC (.int 2)) dNil)) (gN 4) (dTest (dBin fEq (dBin fIx (dBin fIx (dBin fIx (dVar 0) (dC (.int 1))) (dVar 3)) (dVar 4)) (dVar 1))) (dTup (dCons (dVar 3) (dCons (dVar 4) dNil)))))) (dRet (dVar 2))))
@[irreducible] def d__law_ends (as : List Sl) : R Vl := noEx as (runDef 2 5 sd__law_ends as)
theorem ok__law_ends {P : Program} {w : World} {K : PySem.W.Frag} {mg : Str → Option Value} {base : Heap} (T : Txt K mg) (D : Dfn K mg "_law_ends" s__law_ends P__law_ends)  : Cal P w K mg base 1 "_law_ends" P__law_ends d__law_ends := by
  rw [show d__law_ends = (fun as => noEx as (runDef 2 5 sd__law_ends as)) from by funext as; rw [d__law_ends]]
  exact cal_of D fun f fd F => fn_n F sc__law_ends fun cdv A outer s H E hr =>
    (pds_cons (pds_set 2 (pd_lst pad_nil) sc__law_ends.nd) (pds_cons (pds_for PassesOwn.never (pdi_range1 T.b_range (pad_cons (pd_len T.b_len (pd_ix (pd_var 0) pd_int)) pad_nil)) (pdg_name 3 sc__law_ends.nd) (pds_one (pds_ext 2 (pd_lc (own := [("side", 4)]) (pdi_range1 T.b_range (pad_cons pd_int pad_nil)) sc__law_ends.nd (blkOk_by (N := N__law_ends) (sc := defScope s__law_ends) (by decide +kernel)) (fun _ _ _ _ _ => (pdg_name 4 sc__law_ends.nd)) (fun _ _ _ _ _ => (ptsd_one (ptd_eq hr.units (pd_ix (pd_ix (pd_ix (pd_var 0) pd_int) (pd_var 3)) (pd_var 4)) (pd_var 1)))) (fun _ _ _ _ _ => (pd_tup (pad_cons (pd_var 3) (pad_cons (pd_var 4) pad_nil)))))))) (pds_one (pds_ret (pd_var 2)))))
abbrev s_law : Stmt := topS 25
abbrev N_law : List Str := ["script", "reel", "k", "net", "handed", "stays", "found", "other", "place", "due", "there"]
abbrev P_law : List Str := ["script"]
theorem sc_law : FnScope N_law P_law (defScope s_law) := ⟨rfl, rfl, rfl, by decide +kernel, rfl, by decide +kernel, by decide +kernel⟩
noncomputable def sd_law : Ds :=
  (dSeq (dAsg 1 (dCall d__law_reel (aVal (dVar 0) aNil))) (dSeq (dFor (dRange1 (dCons (dBin fAdd (dC (.int 1)) (dBin fMin2 (dUn fLen (dVar 0)) (dC (.int 15)))) dNil)) (gN 2) (dSeq (dAsg 3 (dCall d__law_net (aRef 1 (aVal (dC (.int 60)) aNil)))) (dSeq (dAsg 4 (dCall (d__law_dressed fuelR) (aRef 1 (aVal (dBin fIx (dVar 3) (dC (.int 1))) aNil)))) (dSeq (dAsg 5 (dUn fRepr (dVar 4))) (dSeq (dAsg 6 (dCall d_web_of (aVal (dBin fIx (dVar 3) (dC (.int 0))) (aVal (dVar 4) aNil)))) (dSeq (dIfS (dOr (dNot (dTest (dCall (d__law_alike fuelR) (aVal (dVar 6) (aVal (dVar 3) aNil))))) (dTest (dBin fNeS (dUn fRepr (dVar 4)) (dVar 5)))) (dRet (dC (.bool false))) dSkip) (dSeq (dAsg 7 (dLst (dCons (dBin fIx (dVar 3) (dC (.int 0))) (dCons (dCall (d__law_dressed fuelR) (aRef 1 (aVal (dBin fIx (dVar 3) (dC (.int 1))) aNil))) dNil)))) (dSeq (dFor (dRange1 (dCons (dBin fIx (dVar 3) (dC (.int 0))) dNil)) (gN 8) (dSeq (dAsg 9 (dCall d__law_ends (aVal (dVar 3) (aVal (dVar 8) aNil)))) (dSeq (dAsg 10 (dCall d_ends_at (aVal (dVar 7) (aVal (dVar 8) aNil)))) (dSeq (dIfS (dOr (dNot (dTest (dCall (d__law_alike fuelR) (aRef 10 (aVal (dVar 9) aNil))))) (dNot (dTest (dCall (d__law_alike fuelR) (aVal (dCall d_ends_at (aVal (dVar 3) (aVal (dVar 8) aNil))) (aVal (dVar 9) aNil)))))) (dRet (dC (.bool false))) dSkip) (dSeq (dApp 10 (dTup (dCons (dC (.int 99)) (dCons (dC (.int 0)) dNil)))) (dIfS (dNot (dTest (dCall (d__law_alike fuelR) (aVal (dCall d_ends_at (aVal (dVar 7) (aVal (dVar 8) aNil))) (aVal (dVar 9) aNil))))) (dRet (dC (.bool false))) dSkip)))))) (dSeq (dSpoil 20 4 [1, 3, 6]) (dIfS (dOr (dNot (dTest (dCall (d__law_alike fuelR) (aVal (dVar 6) (aVal (dVar 3) aNil))))) (dNot (dTest (dCall (d__law_alike fuelR) (aVal (dCall d_web_of (aVal (dBin fIx (dVar 3) (dC (.int 0))) (aVal (dBin fIx (dVar 3) (dC (.int 1))) aNil))) (aVal (dVar 3) aNil)))))) (dRet (dC (.bool false))) dSkip)))))))))) (dRet (dC (.bool true)))))
noncomputable def d_law (as : List Sl) : R Vl := noEx as (runDef 1 11 sd_law as)

end Lk01
namespace Lk01
open PySem PySem.Spec DL L2
abbrev Ln := Int × Int × Nat
abbrev encL (l : Ln) : D := .tuple [.int l.1, .int l.2.1, .str ⟨#[l.2.2]⟩]
abbrev encW (p : Int) (ls : List Ln) : D := .tuple [.int p, .tuple (ls.map encL)]
def okC (c : Nat) : Prop := 97 ≤ c ∧ c ≤ 122
def okL (p : Int) (l : Ln) : Prop := 0 ≤ l.1 ∧ l.1 < p ∧ 0 ≤ l.2.1 ∧ l.2.1 < p ∧ okC l.2.2
structure OkW (p : Int) (ls : List Ln) : Prop where
  p0 : 0 ≤ p
  ln : ls.length ≤ 1000
  ok : ∀ l ∈ ls, okL p l
theorem e_is_whole (i : Int) : d_is_whole [.fz (.int i)] = .ok (.fz (.bool true)) [.no] := by
  unfold d_is_whole sd_is_whole
  rfl
theorem e_is_below (i n : Int) : d_is_below [.fz (.int i), .fz (.int n)] = .ok (.fz (.bool (true && (decide (0 ≤ i) && decide (i < n))))) [.no, .no] := by
  unfold d_is_below
  apply run_rt rfl
  · focus ((try simp only [List.cons_append, List.nil_append, List.replicate_succ, List.replicate_zero, Nat.reduceSub, List.set_cons_zero, List.set_cons_succ, DL.with_arg, DL.with_own, DL.wipeD, List.map_cons, List.map_nil, DL.toArg, DL.back2, DL.back2a, DL.back, DL.back1]); rfl)
  · unfold sd_is_below
    (repeat' (first | with_reducible apply DL.s_setI | with_reducible apply DL.s_app | with_reducible apply DL.s_ext | (with_reducible apply DL.m_arg; rfl) | (with_reducible apply DL.m_own; rfl) | (with_reducible apply DL.f_set; rfl; focus ((try simp only [List.cons_append, List.nil_append, List.replicate_succ, List.replicate_zero, Nat.reduceSub, List.set_cons_zero, List.set_cons_succ, DL.with_arg, DL.with_own, DL.wipeD, List.map_cons, List.map_nil, DL.toArg, DL.back2, DL.back2a, DL.back, DL.back1]); rfl)) | with_reducible apply DL.f_app | with_reducible apply DL.f_ext | (with_reducible apply DL.set_goal; focus ((try simp only [List.cons_append, List.nil_append, List.replicate_succ, List.replicate_zero, Nat.reduceSub, List.set_cons_zero, List.set_cons_succ, DL.with_arg, DL.with_own, DL.wipeD, List.map_cons, List.map_nil, DL.toArg, DL.back2, DL.back2a, DL.back, DL.back1]); rfl)) | with_reducible apply DL.s_seqG | with_reducible apply DL.step_b | with_reducible apply DL.k_nx | with_reducible exact DL.k_rt | with_reducible exact DL.k_ct | with_reducible exact DL.k_bk | with_reducible apply DL.s_asgG | with_reducible apply DL.s_asg | with_reducible apply DL.s_drop | with_reducible apply DL.s_ret | with_reducible apply DL.s_if | with_reducible exact DL.s_skip | (with_reducible apply DL.f_eq; (first | rfl | assumption); (first | rfl | assumption)) | (with_reducible apply DL.f_ne; (first | rfl | assumption); (first | rfl | assumption)) | with_reducible apply DL.f_addT | (with_reducible apply DL.f_ixT; assumption) | (with_reducible apply DL.f_ixL; assumption) | with_reducible apply DL.f_addL | with_reducible apply DL.s_par | with_reducible apply DL.s_for | with_reducible apply DL.i_it | with_reducible apply DL.i_r1 | with_reducible apply DL.r_lc | with_reducible apply DL.r_lc2 | with_reducible apply DL.i_enumT | with_reducible exact DL.t_yes | with_reducible apply DL.turn_e | with_reducible apply DL.g_tup | with_reducible apply DL.g_lst | with_reducible apply DL.g_cons | with_reducible exact DL.g_nil | with_reducible apply DL.g_n | (with_reducible apply DL.set_fz; rfl; focus ((try simp only [List.cons_append, List.nil_append, List.replicate_succ, List.replicate_zero, Nat.reduceSub, List.set_cons_zero, List.set_cons_succ, DL.with_arg, DL.with_own, DL.wipeD, List.map_cons, List.map_nil, DL.toArg, DL.back2, DL.back2a, DL.back, DL.back1]); rfl)) | (with_reducible apply DL.set_own; rfl; focus ((try simp only [List.cons_append, List.nil_append, List.replicate_succ, List.replicate_zero, Nat.reduceSub, List.set_cons_zero, List.set_cons_succ, DL.with_arg, DL.with_own, DL.wipeD, List.map_cons, List.map_nil, DL.toArg, DL.back2, DL.back2a, DL.back, DL.back1]); rfl)) | (with_reducible apply DL.p_t; (first | rfl | focus (simp [*]; done) | assumption)) | (with_reducible apply DL.p_f; (first | rfl | focus (simp [*]; done) | assumption)) | (with_reducible apply DL.v_fz; rfl) | (with_reducible apply DL.v_own; rfl) | (with_reducible apply DL.v_arg; rfl) | with_reducible exact DL.r_c | with_reducible apply DL.r_andB | with_reducible apply DL.r_bin | with_reducible apply DL.r_un | with_reducible apply DL.r_test | with_reducible apply DL.r_notV | with_reducible apply DL.r_and | with_reducible apply DL.r_or | with_reducible apply DL.r_not | with_reducible apply DL.r_if | with_reducible apply DL.r_chainB | with_reducible exact DL.l_nil | with_reducible apply DL.l_cons | with_reducible apply DL.r_tup | with_reducible apply DL.r_lst | with_reducible apply DL.o_some | with_reducible exact DL.o_none | with_reducible apply DL.r_sl | with_reducible exact DL.a_nil | with_reducible apply DL.a_val | with_reducible apply DL.a_ref | (with_reducible apply DL.small_of; focus (first | omega | (simp <;> omega))) | with_reducible apply DL.r_callR | with_reducible apply DL.r_call | (first | exact e_is_whole _ | assumption) | (with_reducible apply DL.f_mod; (first | assumption | omega | focus (simp; omega))) | (with_reducible apply DL.f_div; (first | assumption | omega | focus (simp; omega))) | with_reducible apply DL.f_mulI | (with_reducible apply DL.wide_lt; (first | assumption | omega | focus (simp; omega))) | rfl | (focus ((try simp only [List.cons_append, List.nil_append, List.replicate_succ, List.replicate_zero, Nat.reduceSub, List.set_cons_zero, List.set_cons_succ, DL.with_arg, DL.with_own, DL.wipeD, List.map_cons, List.map_nil, DL.toArg, DL.back2, DL.back2a, DL.back, DL.back1]); rfl); done)))
  all_goals rfl
theorem e_is_row (ds : List D) : d_is_row [.fz (.tuple ds)] = .ok (.fz (.bool true)) [.no] := by
  unfold d_is_row sd_is_row
  rfl
/-- a list or a tuple -/
abbrev sq (b : Bool) (ds : List D) : D := match b with
  | true => .list ds
  | false => .tuple ds
abbrev encM (m : Bool × Ln) : D := sq m.1 [.int m.2.1, .int m.2.2.1, .str ⟨#[m.2.2.2]⟩]
abbrev lns (ms : List (Bool × Ln)) : List Ln := ms.map fun m => m.2
abbrev encD (b c : Bool) (p : Int) (ms : List (Bool × Ln)) : D := sq b [.int p, sq c (ms.map encM)]
theorem e_is_rowL (ds : List D) : d_is_row [.fz (.list ds)] = .ok (.fz (.bool true)) [.no] := by
  unfold d_is_row sd_is_row
  rfl
theorem e_is_row_of (ds : List D) (n : Int) : d_is_row_of [.fz (.tuple ds), .fz (.int n)] = .ok (.fz (.bool ((ds.length : Int) == n))) [.no, .no] := by
  unfold d_is_row_of
  apply run_rt rfl
  · focus ((try simp only [List.cons_append, List.nil_append, List.replicate_succ, List.replicate_zero, Nat.reduceSub, List.set_cons_zero, List.set_cons_succ, DL.with_arg, DL.with_own, DL.wipeD, List.map_cons, List.map_nil, DL.toArg, DL.back2, DL.back2a, DL.back, DL.back1]); rfl)
  · unfold sd_is_row_of
    (repeat' (first | with_reducible apply DL.s_setI | with_reducible apply DL.s_app | with_reducible apply DL.s_ext | (with_reducible apply DL.m_arg; rfl) | (with_reducible apply DL.m_own; rfl) | (with_reducible apply DL.f_set; rfl; focus ((try simp only [List.cons_append, List.nil_append, List.replicate_succ, List.replicate_zero, Nat.reduceSub, List.set_cons_zero, List.set_cons_succ, DL.with_arg, DL.with_own, DL.wipeD, List.map_cons, List.map_nil, DL.toArg, DL.back2, DL.back2a, DL.back, DL.back1]); rfl)) | with_reducible apply DL.f_app | with_reducible apply DL.f_ext | (with_reducible apply DL.set_goal; focus ((try simp only [List.cons_append, List.nil_append, List.replicate_succ, List.replicate_zero, Nat.reduceSub, List.set_cons_zero, List.set_cons_succ, DL.with_arg, DL.with_own, DL.wipeD, List.map_cons, List.map_nil, DL.toArg, DL.back2, DL.back2a, DL.back, DL.back1]); rfl)) | with_reducible apply DL.s_seqG | with_reducible apply DL.step_b | with_reducible apply DL.k_nx | with_reducible exact DL.k_rt | with_reducible exact DL.k_ct | with_reducible exact DL.k_bk | with_reducible apply DL.s_asgG | with_reducible apply DL.s_asg | with_reducible apply DL.s_drop | with_reducible apply DL.s_ret | with_reducible apply DL.s_if | with_reducible exact DL.s_skip | (with_reducible apply DL.f_eq; (first | rfl | assumption); (first | rfl | assumption)) | (with_reducible apply DL.f_ne; (first | rfl | assumption); (first | rfl | assumption)) | with_reducible apply DL.f_addT | (with_reducible apply DL.f_ixT; assumption) | (with_reducible apply DL.f_ixL; assumption) | with_reducible apply DL.f_addL | with_reducible apply DL.s_par | with_reducible apply DL.s_for | with_reducible apply DL.i_it | with_reducible apply DL.i_r1 | with_reducible apply DL.r_lc | with_reducible apply DL.r_lc2 | with_reducible apply DL.i_enumT | with_reducible exact DL.t_yes | with_reducible apply DL.turn_e | with_reducible apply DL.g_tup | with_reducible apply DL.g_lst | with_reducible apply DL.g_cons | with_reducible exact DL.g_nil | with_reducible apply DL.g_n | (with_reducible apply DL.set_fz; rfl; focus ((try simp only [List.cons_append, List.nil_append, List.replicate_succ, List.replicate_zero, Nat.reduceSub, List.set_cons_zero, List.set_cons_succ, DL.with_arg, DL.with_own, DL.wipeD, List.map_cons, List.map_nil, DL.toArg, DL.back2, DL.back2a, DL.back, DL.back1]); rfl)) | (with_reducible apply DL.set_own; rfl; focus ((try simp only [List.cons_append, List.nil_append, List.replicate_succ, List.replicate_zero, Nat.reduceSub, List.set_cons_zero, List.set_cons_succ, DL.with_arg, DL.with_own, DL.wipeD, List.map_cons, List.map_nil, DL.toArg, DL.back2, DL.back2a, DL.back, DL.back1]); rfl)) | (with_reducible apply DL.p_t; (first | rfl | focus (simp [*]; done) | assumption)) | (with_reducible apply DL.p_f; (first | rfl | focus (simp [*]; done) | assumption)) | (with_reducible apply DL.v_fz; rfl) | (with_reducible apply DL.v_own; rfl) | (with_reducible apply DL.v_arg; rfl) | with_reducible exact DL.r_c | with_reducible apply DL.r_andB | with_reducible apply DL.r_bin | with_reducible apply DL.r_un | with_reducible apply DL.r_test | with_reducible apply DL.r_notV | with_reducible apply DL.r_and | with_reducible apply DL.r_or | with_reducible apply DL.r_not | with_reducible apply DL.r_if | with_reducible apply DL.r_chainB | with_reducible exact DL.l_nil | with_reducible apply DL.l_cons | with_reducible apply DL.r_tup | with_reducible apply DL.r_lst | with_reducible apply DL.o_some | with_reducible exact DL.o_none | with_reducible apply DL.r_sl | with_reducible exact DL.a_nil | with_reducible apply DL.a_val | with_reducible apply DL.a_ref | (with_reducible apply DL.small_of; focus (first | omega | (simp <;> omega))) | with_reducible apply DL.r_callR | with_reducible apply DL.r_call | (first | exact e_is_rowL _ | exact e_is_row _ | exact e_is_below _ _ | exact e_is_whole _ | assumption) | (with_reducible apply DL.f_mod; (first | assumption | omega | focus (simp; omega))) | (with_reducible apply DL.f_div; (first | assumption | omega | focus (simp; omega))) | with_reducible apply DL.f_mulI | (with_reducible apply DL.wide_lt; (first | assumption | omega | focus (simp; omega))) | rfl | (focus ((try simp only [List.cons_append, List.nil_append, List.replicate_succ, List.replicate_zero, Nat.reduceSub, List.set_cons_zero, List.set_cons_succ, DL.with_arg, DL.with_own, DL.wipeD, List.map_cons, List.map_nil, DL.toArg, DL.back2, DL.back2a, DL.back, DL.back1]); rfl); done)))
  all_goals rfl
theorem e_is_row_ofL (ds : List D) (n : Int) : d_is_row_of [.fz (.list ds), .fz (.int n)] = .ok (.fz (.bool ((ds.length : Int) == n))) [.no, .no] := by
  unfold d_is_row_of
  apply run_rt rfl
  · focus ((try simp only [List.cons_append, List.nil_append, List.replicate_succ, List.replicate_zero, Nat.reduceSub, List.set_cons_zero, List.set_cons_succ, DL.with_arg, DL.with_own, DL.wipeD, List.map_cons, List.map_nil, DL.toArg, DL.back2, DL.back2a, DL.back, DL.back1]); rfl)
  · unfold sd_is_row_of
    (repeat' (first | with_reducible apply DL.s_setI | with_reducible apply DL.s_app | with_reducible apply DL.s_ext | (with_reducible apply DL.m_arg; rfl) | (with_reducible apply DL.m_own; rfl) | (with_reducible apply DL.f_set; rfl; focus ((try simp only [List.cons_append, List.nil_append, List.replicate_succ, List.replicate_zero, Nat.reduceSub, List.set_cons_zero, List.set_cons_succ, DL.with_arg, DL.with_own, DL.wipeD, List.map_cons, List.map_nil, DL.toArg, DL.back2, DL.back2a, DL.back, DL.back1]); rfl)) | with_reducible apply DL.f_app | with_reducible apply DL.f_ext | (with_reducible apply DL.set_goal; focus ((try simp only [List.cons_append, List.nil_append, List.replicate_succ, List.replicate_zero, Nat.reduceSub, List.set_cons_zero, List.set_cons_succ, DL.with_arg, DL.with_own, DL.wipeD, List.map_cons, List.map_nil, DL.toArg, DL.back2, DL.back2a, DL.back, DL.back1]); rfl)) | with_reducible apply DL.s_seqG | with_reducible apply DL.step_b | with_reducible apply DL.k_nx | with_reducible exact DL.k_rt | with_reducible exact DL.k_ct | with_reducible exact DL.k_bk | with_reducible apply DL.s_asgG | with_reducible apply DL.s_asg | with_reducible apply DL.s_drop | with_reducible apply DL.s_ret | with_reducible apply DL.s_if | with_reducible exact DL.s_skip | (with_reducible apply DL.f_eq; (first | rfl | assumption); (first | rfl | assumption)) | (with_reducible apply DL.f_ne; (first | rfl | assumption); (first | rfl | assumption)) | with_reducible apply DL.f_addT | (with_reducible apply DL.f_ixT; assumption) | (with_reducible apply DL.f_ixL; assumption) | with_reducible apply DL.f_addL | with_reducible apply DL.s_par | with_reducible apply DL.s_for | with_reducible apply DL.i_it | with_reducible apply DL.i_r1 | with_reducible apply DL.r_lc | with_reducible apply DL.r_lc2 | with_reducible apply DL.i_enumT | with_reducible exact DL.t_yes | with_reducible apply DL.turn_e | with_reducible apply DL.g_tup | with_reducible apply DL.g_lst | with_reducible apply DL.g_cons | with_reducible exact DL.g_nil | with_reducible apply DL.g_n | (with_reducible apply DL.set_fz; rfl; focus ((try simp only [List.cons_append, List.nil_append, List.replicate_succ, List.replicate_zero, Nat.reduceSub, List.set_cons_zero, List.set_cons_succ, DL.with_arg, DL.with_own, DL.wipeD, List.map_cons, List.map_nil, DL.toArg, DL.back2, DL.back2a, DL.back, DL.back1]); rfl)) | (with_reducible apply DL.set_own; rfl; focus ((try simp only [List.cons_append, List.nil_append, List.replicate_succ, List.replicate_zero, Nat.reduceSub, List.set_cons_zero, List.set_cons_succ, DL.with_arg, DL.with_own, DL.wipeD, List.map_cons, List.map_nil, DL.toArg, DL.back2, DL.back2a, DL.back, DL.back1]); rfl)) | (with_reducible apply DL.p_t; (first | rfl | focus (simp [*]; done) | assumption)) | (with_reducible apply DL.p_f; (first | rfl | focus (simp [*]; done) | assumption)) | (with_reducible apply DL.v_fz; rfl) | (with_reducible apply DL.v_own; rfl) | (with_reducible apply DL.v_arg; rfl) | with_reducible exact DL.r_c | with_reducible apply DL.r_andB | with_reducible apply DL.r_bin | with_reducible apply DL.r_un | with_reducible apply DL.r_test | with_reducible apply DL.r_notV | with_reducible apply DL.r_and | with_reducible apply DL.r_or | with_reducible apply DL.r_not | with_reducible apply DL.r_if | with_reducible apply DL.r_chainB | with_reducible exact DL.l_nil | with_reducible apply DL.l_cons | with_reducible apply DL.r_tup | with_reducible apply DL.r_lst | with_reducible apply DL.o_some | with_reducible exact DL.o_none | with_reducible apply DL.r_sl | with_reducible exact DL.a_nil | with_reducible apply DL.a_val | with_reducible apply DL.a_ref | (with_reducible apply DL.small_of; focus (first | omega | (simp <;> omega))) | with_reducible apply DL.r_callR | with_reducible apply DL.r_call | (first | exact e_is_rowL _ | exact e_is_row _ | exact e_is_below _ _ | exact e_is_whole _ | assumption) | (with_reducible apply DL.f_mod; (first | assumption | omega | focus (simp; omega))) | (with_reducible apply DL.f_div; (first | assumption | omega | focus (simp; omega))) | with_reducible apply DL.f_mulI | (with_reducible apply DL.wide_lt; (first | assumption | omega | focus (simp; omega))) | rfl | (focus ((try simp only [List.cons_append, List.nil_append, List.replicate_succ, List.replicate_zero, Nat.reduceSub, List.set_cons_zero, List.set_cons_succ, DL.with_arg, DL.with_own, DL.wipeD, List.map_cons, List.map_nil, DL.toArg, DL.back2, DL.back2a, DL.back, DL.back1]); rfl); done)))
  all_goals rfl
theorem e_is_company (c : Nat) (h : okC c) : d_is_company [.fz (.str ⟨#[c]⟩)] = .ok (.fz (.bool true)) [.no] := by
  have z : d_is_company [.fz (.str ⟨#[c]⟩)] = .ok (.fz (.bool (true && (true && (!decide ([c] < [97]) && !decide ([122] < [c])))))) [.no] := by
    unfold d_is_company
    apply run_rt rfl
    · focus ((try simp only [List.cons_append, List.nil_append, List.replicate_succ, List.replicate_zero, Nat.reduceSub, List.set_cons_zero, List.set_cons_succ, DL.with_arg, DL.with_own, DL.wipeD, List.map_cons, List.map_nil, DL.toArg, DL.back2, DL.back2a, DL.back, DL.back1]); rfl)
    · unfold sd_is_company
      (repeat' (first | with_reducible apply DL.s_setI | with_reducible apply DL.s_app | with_reducible apply DL.s_ext | (with_reducible apply DL.m_arg; rfl) | (with_reducible apply DL.m_own; rfl) | (with_reducible apply DL.f_set; rfl; focus ((try simp only [List.cons_append, List.nil_append, List.replicate_succ, List.replicate_zero, Nat.reduceSub, List.set_cons_zero, List.set_cons_succ, DL.with_arg, DL.with_own, DL.wipeD, List.map_cons, List.map_nil, DL.toArg, DL.back2, DL.back2a, DL.back, DL.back1]); rfl)) | with_reducible apply DL.f_app | with_reducible apply DL.f_ext | (with_reducible apply DL.set_goal; focus ((try simp only [List.cons_append, List.nil_append, List.replicate_succ, List.replicate_zero, Nat.reduceSub, List.set_cons_zero, List.set_cons_succ, DL.with_arg, DL.with_own, DL.wipeD, List.map_cons, List.map_nil, DL.toArg, DL.back2, DL.back2a, DL.back, DL.back1]); rfl)) | with_reducible apply DL.s_seqG | with_reducible apply DL.step_b | with_reducible apply DL.k_nx | with_reducible exact DL.k_rt | with_reducible exact DL.k_ct | with_reducible exact DL.k_bk | with_reducible apply DL.s_asgG | with_reducible apply DL.s_asg | with_reducible apply DL.s_drop | with_reducible apply DL.s_ret | with_reducible apply DL.s_if | with_reducible exact DL.s_skip | (with_reducible apply DL.f_eq; (first | rfl | assumption); (first | rfl | assumption)) | (with_reducible apply DL.f_ne; (first | rfl | assumption); (first | rfl | assumption)) | with_reducible apply DL.f_addT | (with_reducible apply DL.f_ixT; assumption) | (with_reducible apply DL.f_ixL; assumption) | with_reducible apply DL.f_addL | with_reducible apply DL.s_par | with_reducible apply DL.s_for | with_reducible apply DL.i_it | with_reducible apply DL.i_r1 | with_reducible apply DL.r_lc | with_reducible apply DL.r_lc2 | with_reducible apply DL.i_enumT | with_reducible exact DL.t_yes | with_reducible apply DL.turn_e | with_reducible apply DL.g_tup | with_reducible apply DL.g_lst | with_reducible apply DL.g_cons | with_reducible exact DL.g_nil | with_reducible apply DL.g_n | (with_reducible apply DL.set_fz; rfl; focus ((try simp only [List.cons_append, List.nil_append, List.replicate_succ, List.replicate_zero, Nat.reduceSub, List.set_cons_zero, List.set_cons_succ, DL.with_arg, DL.with_own, DL.wipeD, List.map_cons, List.map_nil, DL.toArg, DL.back2, DL.back2a, DL.back, DL.back1]); rfl)) | (with_reducible apply DL.set_own; rfl; focus ((try simp only [List.cons_append, List.nil_append, List.replicate_succ, List.replicate_zero, Nat.reduceSub, List.set_cons_zero, List.set_cons_succ, DL.with_arg, DL.with_own, DL.wipeD, List.map_cons, List.map_nil, DL.toArg, DL.back2, DL.back2a, DL.back, DL.back1]); rfl)) | (with_reducible apply DL.p_t; (first | rfl | focus (simp [*]; done) | assumption)) | (with_reducible apply DL.p_f; (first | rfl | focus (simp [*]; done) | assumption)) | (with_reducible apply DL.v_fz; rfl) | (with_reducible apply DL.v_own; rfl) | (with_reducible apply DL.v_arg; rfl) | with_reducible exact DL.r_c | with_reducible apply DL.r_andB | with_reducible apply DL.r_bin | with_reducible apply DL.r_un | with_reducible apply DL.r_test | with_reducible apply DL.r_notV | with_reducible apply DL.r_and | with_reducible apply DL.r_or | with_reducible apply DL.r_not | with_reducible apply DL.r_if | with_reducible apply DL.r_chainB | with_reducible exact DL.l_nil | with_reducible apply DL.l_cons | with_reducible apply DL.r_tup | with_reducible apply DL.r_lst | with_reducible apply DL.o_some | with_reducible exact DL.o_none | with_reducible apply DL.r_sl | with_reducible exact DL.a_nil | with_reducible apply DL.a_val | with_reducible apply DL.a_ref | (with_reducible apply DL.small_of; focus (first | omega | (simp <;> omega))) | with_reducible apply DL.r_callR | with_reducible apply DL.r_call | (first | exact e_is_row_ofL _ _ | exact e_is_row_of _ _ | exact e_is_rowL _ | exact e_is_row _ | exact e_is_below _ _ | exact e_is_whole _ | assumption) | (with_reducible apply DL.f_mod; (first | assumption | omega | focus (simp; omega))) | (with_reducible apply DL.f_div; (first | assumption | omega | focus (simp; omega))) | with_reducible apply DL.f_mulI | (with_reducible apply DL.wide_lt; (first | assumption | omega | focus (simp; omega))) | rfl | (focus ((try simp only [List.cons_append, List.nil_append, List.replicate_succ, List.replicate_zero, Nat.reduceSub, List.set_cons_zero, List.set_cons_succ, DL.with_arg, DL.with_own, DL.wipeD, List.map_cons, List.map_nil, DL.toArg, DL.back2, DL.back2a, DL.back, DL.back1]); rfl); done)))
    all_goals rfl
  rw [z]
  have h1 : decide ([c] < [97]) = false := by simp [List.cons_lt_cons_iff]; exact h.1
  have h2 : decide ([122] < [c]) = false := by simp [List.cons_lt_cons_iff]; exact h.2
  rw [h1, h2]
  rfl
/-- a line that is one -/
theorem e_is_line (p : Int) (m : Bool × Ln) (h : okL p m.2) : d_is_line [.fz (.int p), .fz (encM m)] = .ok (.fz (.bool true)) [.no, .no] := by
  obtain ⟨b, l⟩ := m
  obtain ⟨h1, h2, h3, h4, h5⟩ := h
  have c := e_is_company l.2.2 h5
  cases b
  all_goals
    unfold d_is_line
    apply run_b rfl
    · focus ((try simp only [List.cons_append, List.nil_append, List.replicate_succ, List.replicate_zero, Nat.reduceSub, List.set_cons_zero, List.set_cons_succ, DL.with_arg, DL.with_own, DL.wipeD, List.map_cons, List.map_nil, DL.toArg, DL.back2, DL.back2a, DL.back, DL.back1]); rfl)
    · unfold sd_is_line encM sq
      (repeat' (first | with_reducible apply DL.s_setI | with_reducible apply DL.s_app | with_reducible apply DL.s_ext | (with_reducible apply DL.m_arg; rfl) | (with_reducible apply DL.m_own; rfl) | (with_reducible apply DL.f_set; rfl; focus ((try simp only [List.cons_append, List.nil_append, List.replicate_succ, List.replicate_zero, Nat.reduceSub, List.set_cons_zero, List.set_cons_succ, DL.with_arg, DL.with_own, DL.wipeD, List.map_cons, List.map_nil, DL.toArg, DL.back2, DL.back2a, DL.back, DL.back1]); rfl)) | with_reducible apply DL.f_app | with_reducible apply DL.f_ext | (with_reducible apply DL.set_goal; focus ((try simp only [List.cons_append, List.nil_append, List.replicate_succ, List.replicate_zero, Nat.reduceSub, List.set_cons_zero, List.set_cons_succ, DL.with_arg, DL.with_own, DL.wipeD, List.map_cons, List.map_nil, DL.toArg, DL.back2, DL.back2a, DL.back, DL.back1]); rfl)) | with_reducible apply DL.s_seqG | with_reducible apply DL.step_b | with_reducible apply DL.k_nx | with_reducible exact DL.k_rt | with_reducible exact DL.k_ct | with_reducible exact DL.k_bk | with_reducible apply DL.s_asgG | with_reducible apply DL.s_asg | with_reducible apply DL.s_drop | with_reducible apply DL.s_ret | with_reducible apply DL.s_if | with_reducible exact DL.s_skip | (with_reducible apply DL.f_eq; (first | rfl | assumption); (first | rfl | assumption)) | (with_reducible apply DL.f_ne; (first | rfl | assumption); (first | rfl | assumption)) | with_reducible apply DL.f_addT | (with_reducible apply DL.f_ixT; assumption) | (with_reducible apply DL.f_ixL; assumption) | with_reducible apply DL.f_addL | with_reducible apply DL.s_par | with_reducible apply DL.s_for | with_reducible apply DL.i_it | with_reducible apply DL.i_r1 | with_reducible apply DL.r_lc | with_reducible apply DL.r_lc2 | with_reducible apply DL.i_enumT | with_reducible exact DL.t_yes | with_reducible apply DL.turn_e | with_reducible apply DL.g_tup | with_reducible apply DL.g_lst | with_reducible apply DL.g_cons | with_reducible exact DL.g_nil | with_reducible apply DL.g_n | (with_reducible apply DL.set_fz; rfl; focus ((try simp only [List.cons_append, List.nil_append, List.replicate_succ, List.replicate_zero, Nat.reduceSub, List.set_cons_zero, List.set_cons_succ, DL.with_arg, DL.with_own, DL.wipeD, List.map_cons, List.map_nil, DL.toArg, DL.back2, DL.back2a, DL.back, DL.back1]); rfl)) | (with_reducible apply DL.set_own; rfl; focus ((try simp only [List.cons_append, List.nil_append, List.replicate_succ, List.replicate_zero, Nat.reduceSub, List.set_cons_zero, List.set_cons_succ, DL.with_arg, DL.with_own, DL.wipeD, List.map_cons, List.map_nil, DL.toArg, DL.back2, DL.back2a, DL.back, DL.back1]); rfl)) | (with_reducible apply DL.p_t; (first | rfl | focus (simp [*]; done) | assumption)) | (with_reducible apply DL.p_f; (first | rfl | focus (simp [*]; done) | assumption)) | (with_reducible apply DL.v_fz; rfl) | (with_reducible apply DL.v_own; rfl) | (with_reducible apply DL.v_arg; rfl) | with_reducible exact DL.r_c | with_reducible apply DL.r_andB | with_reducible apply DL.r_bin | with_reducible apply DL.r_un | with_reducible apply DL.r_test | with_reducible apply DL.r_notV | with_reducible apply DL.r_and | with_reducible apply DL.r_or | with_reducible apply DL.r_not | with_reducible apply DL.r_if | with_reducible apply DL.r_chainB | with_reducible exact DL.l_nil | with_reducible apply DL.l_cons | with_reducible apply DL.r_tup | with_reducible apply DL.r_lst | with_reducible apply DL.o_some | with_reducible exact DL.o_none | with_reducible apply DL.r_sl | with_reducible exact DL.a_nil | with_reducible apply DL.a_val | with_reducible apply DL.a_ref | (with_reducible apply DL.small_of; focus (first | omega | (simp <;> omega))) | with_reducible apply DL.r_callR | with_reducible apply DL.r_call | (first | exact e_is_row_ofL _ _ | exact e_is_row_of _ _ | exact e_is_rowL _ | exact e_is_row _ | exact e_is_below _ _ | exact e_is_whole _ | assumption) | (with_reducible apply DL.f_mod; (first | assumption | omega | focus (simp; omega))) | (with_reducible apply DL.f_div; (first | assumption | omega | focus (simp; omega))) | with_reducible apply DL.f_mulI | (with_reducible apply DL.wide_lt; (first | assumption | omega | focus (simp; omega))) | rfl | (focus ((try simp only [List.cons_append, List.nil_append, List.replicate_succ, List.replicate_zero, Nat.reduceSub, List.set_cons_zero, List.set_cons_succ, DL.with_arg, DL.with_own, DL.wipeD, List.map_cons, List.map_nil, DL.toArg, DL.back2, DL.back2a, DL.back, DL.back1]); rfl); done)))
    · simp only [h1, h2, h3, h4, decide_true]
      rfl
    · rfl
theorem e_web_of (p : Int) (c : Bool) (ms : List (Bool × Ln)) (h : OkW p (lns ms)) : d_web_of [.fz (.int p), .fz (sq c (ms.map encM))] = .ok (.fz (encW p (lns ms))) [.no, .no] := by
  have h0 : decide (p < 0) = false := decide_eq_false (by have := h.p0; omega)
  have hs : small (ms.map encM).length = true := small_of (by have := h.ln; rw [List.length_map] at this ⊢; omega)
  have hfr : (small (ms.map encM).length && freeAt [3] [.fz (.int p), .fz (sq c (ms.map encM)), lastSl Sl.no (ms.map encM), .no]) = true := by
    refine (Bool.and_eq_true _ _).mpr ⟨hs, ?_⟩
    show (!Sl.no.held && true) = true
    rfl
  cases c
  all_goals
    unfold d_web_of
    apply run_v rfl
    · focus ((try simp only [List.cons_append, List.nil_append, List.replicate_succ, List.replicate_zero, Nat.reduceSub, List.set_cons_zero, List.set_cons_succ, DL.with_arg, DL.with_own, DL.wipeD, List.map_cons, List.map_nil, DL.toArg, DL.back2, DL.back2a, DL.back, DL.back1]); rfl)
    · unfold sd_web_of sq
      (repeat' (first | with_reducible apply DL.s_setI | with_reducible apply DL.s_app | with_reducible apply DL.s_ext | (with_reducible apply DL.m_arg; rfl) | (with_reducible apply DL.m_own; rfl) | (with_reducible apply DL.f_set; rfl; focus ((try simp only [List.cons_append, List.nil_append, List.replicate_succ, List.replicate_zero, Nat.reduceSub, List.set_cons_zero, List.set_cons_succ, DL.with_arg, DL.with_own, DL.wipeD, List.map_cons, List.map_nil, DL.toArg, DL.back2, DL.back2a, DL.back, DL.back1]); rfl)) | with_reducible apply DL.f_app | with_reducible apply DL.f_ext | (with_reducible apply DL.set_goal; focus ((try simp only [List.cons_append, List.nil_append, List.replicate_succ, List.replicate_zero, Nat.reduceSub, List.set_cons_zero, List.set_cons_succ, DL.with_arg, DL.with_own, DL.wipeD, List.map_cons, List.map_nil, DL.toArg, DL.back2, DL.back2a, DL.back, DL.back1]); rfl)) | with_reducible apply DL.s_seqG | with_reducible apply DL.step_b | with_reducible apply DL.k_nx | with_reducible exact DL.k_rt | with_reducible exact DL.k_ct | with_reducible exact DL.k_bk | with_reducible apply DL.s_asgG | with_reducible apply DL.s_asg | with_reducible apply DL.s_drop | with_reducible apply DL.s_ret | with_reducible apply DL.s_if | with_reducible exact DL.s_skip | (with_reducible apply DL.f_eq; (first | rfl | assumption); (first | rfl | assumption)) | (with_reducible apply DL.f_ne; (first | rfl | assumption); (first | rfl | assumption)) | with_reducible apply DL.f_addT | (with_reducible apply DL.f_ixT; assumption) | (with_reducible apply DL.f_ixL; assumption) | with_reducible apply DL.f_addL | with_reducible apply DL.s_par | with_reducible apply DL.s_for | with_reducible apply DL.i_it | with_reducible apply DL.i_r1 | with_reducible apply DL.r_lc | with_reducible apply DL.r_lc2 | with_reducible apply DL.i_enumT | with_reducible exact DL.t_yes | with_reducible apply DL.turn_e | with_reducible apply DL.g_tup | with_reducible apply DL.g_lst | with_reducible apply DL.g_cons | with_reducible exact DL.g_nil | with_reducible apply DL.g_n | (with_reducible apply DL.set_fz; rfl; focus ((try simp only [List.cons_append, List.nil_append, List.replicate_succ, List.replicate_zero, Nat.reduceSub, List.set_cons_zero, List.set_cons_succ, DL.with_arg, DL.with_own, DL.wipeD, List.map_cons, List.map_nil, DL.toArg, DL.back2, DL.back2a, DL.back, DL.back1]); rfl)) | (with_reducible apply DL.set_own; rfl; focus ((try simp only [List.cons_append, List.nil_append, List.replicate_succ, List.replicate_zero, Nat.reduceSub, List.set_cons_zero, List.set_cons_succ, DL.with_arg, DL.with_own, DL.wipeD, List.map_cons, List.map_nil, DL.toArg, DL.back2, DL.back2a, DL.back, DL.back1]); rfl)) | (with_reducible apply DL.p_t; (first | rfl | focus (simp [*]; done) | assumption)) | (with_reducible apply DL.p_f; (first | rfl | focus (simp [*]; done) | assumption)) | (with_reducible apply DL.v_fz; rfl) | (with_reducible apply DL.v_own; rfl) | (with_reducible apply DL.v_arg; rfl) | with_reducible exact DL.r_c | with_reducible apply DL.r_andB | with_reducible apply DL.r_bin | with_reducible apply DL.r_un | with_reducible apply DL.r_test | with_reducible apply DL.r_notV | with_reducible apply DL.r_and | with_reducible apply DL.r_or | with_reducible apply DL.r_not | with_reducible apply DL.r_if | with_reducible apply DL.r_chainB | with_reducible exact DL.l_nil | with_reducible apply DL.l_cons | with_reducible apply DL.r_tup | with_reducible apply DL.r_lst | with_reducible apply DL.o_some | with_reducible exact DL.o_none | with_reducible apply DL.r_sl | with_reducible exact DL.a_nil | with_reducible apply DL.a_val | with_reducible apply DL.a_ref | (with_reducible apply DL.small_of; focus (first | omega | (simp <;> omega))) | with_reducible apply DL.r_callR | with_reducible apply DL.r_call | (first | exact e_is_row_ofL _ _ | exact e_is_row_of _ _ | exact e_is_rowL _ | exact e_is_row _ | exact e_is_below _ _ | exact e_is_whole _ | assumption) | (with_reducible apply DL.f_mod; (first | assumption | omega | focus (simp; omega))) | (with_reducible apply DL.f_div; (first | assumption | omega | focus (simp; omega))) | with_reducible apply DL.f_mulI | (with_reducible apply DL.wide_lt; (first | assumption | omega | focus (simp; omega))) | rfl | (focus ((try simp only [List.cons_append, List.nil_append, List.replicate_succ, List.replicate_zero, Nat.reduceSub, List.set_cons_zero, List.set_cons_succ, DL.with_arg, DL.with_own, DL.wipeD, List.map_cons, List.map_nil, DL.toArg, DL.back2, DL.back2a, DL.back, DL.back1]); rfl); done)))
      · refine for_keep _ _ .no rfl rfl fun d hd => ?_
        obtain ⟨m, hm, rfl⟩ := List.mem_map.mp hd
        have c := e_is_line p m (h.ok m.2 (List.mem_map.mpr ⟨m, hm, rfl⟩))
        (repeat' (first | with_reducible apply DL.s_setI | with_reducible apply DL.s_app | with_reducible apply DL.s_ext | (with_reducible apply DL.m_arg; rfl) | (with_reducible apply DL.m_own; rfl) | (with_reducible apply DL.f_set; rfl; focus ((try simp only [List.cons_append, List.nil_append, List.replicate_succ, List.replicate_zero, Nat.reduceSub, List.set_cons_zero, List.set_cons_succ, DL.with_arg, DL.with_own, DL.wipeD, List.map_cons, List.map_nil, DL.toArg, DL.back2, DL.back2a, DL.back, DL.back1]); rfl)) | with_reducible apply DL.f_app | with_reducible apply DL.f_ext | (with_reducible apply DL.set_goal; focus ((try simp only [List.cons_append, List.nil_append, List.replicate_succ, List.replicate_zero, Nat.reduceSub, List.set_cons_zero, List.set_cons_succ, DL.with_arg, DL.with_own, DL.wipeD, List.map_cons, List.map_nil, DL.toArg, DL.back2, DL.back2a, DL.back, DL.back1]); rfl)) | with_reducible apply DL.s_seqG | with_reducible apply DL.step_b | with_reducible apply DL.k_nx | with_reducible exact DL.k_rt | with_reducible exact DL.k_ct | with_reducible exact DL.k_bk | with_reducible apply DL.s_asgG | with_reducible apply DL.s_asg | with_reducible apply DL.s_drop | with_reducible apply DL.s_ret | with_reducible apply DL.s_if | with_reducible exact DL.s_skip | (with_reducible apply DL.f_eq; (first | rfl | assumption); (first | rfl | assumption)) | (with_reducible apply DL.f_ne; (first | rfl | assumption); (first | rfl | assumption)) | with_reducible apply DL.f_addT | (with_reducible apply DL.f_ixT; assumption) | (with_reducible apply DL.f_ixL; assumption) | with_reducible apply DL.f_addL | with_reducible apply DL.s_par | with_reducible apply DL.s_for | with_reducible apply DL.i_it | with_reducible apply DL.i_r1 | with_reducible apply DL.r_lc | with_reducible apply DL.r_lc2 | with_reducible apply DL.i_enumT | with_reducible exact DL.t_yes | with_reducible apply DL.turn_e | with_reducible apply DL.g_tup | with_reducible apply DL.g_lst | with_reducible apply DL.g_cons | with_reducible exact DL.g_nil | with_reducible apply DL.g_n | (with_reducible apply DL.set_fz; rfl; focus ((try simp only [List.cons_append, List.nil_append, List.replicate_succ, List.replicate_zero, Nat.reduceSub, List.set_cons_zero, List.set_cons_succ, DL.with_arg, DL.with_own, DL.wipeD, List.map_cons, List.map_nil, DL.toArg, DL.back2, DL.back2a, DL.back, DL.back1]); rfl)) | (with_reducible apply DL.set_own; rfl; focus ((try simp only [List.cons_append, List.nil_append, List.replicate_succ, List.replicate_zero, Nat.reduceSub, List.set_cons_zero, List.set_cons_succ, DL.with_arg, DL.with_own, DL.wipeD, List.map_cons, List.map_nil, DL.toArg, DL.back2, DL.back2a, DL.back, DL.back1]); rfl)) | (with_reducible apply DL.p_t; (first | rfl | focus (simp [*]; done) | assumption)) | (with_reducible apply DL.p_f; (first | rfl | focus (simp [*]; done) | assumption)) | (with_reducible apply DL.v_fz; rfl) | (with_reducible apply DL.v_own; rfl) | (with_reducible apply DL.v_arg; rfl) | with_reducible exact DL.r_c | with_reducible apply DL.r_andB | with_reducible apply DL.r_bin | with_reducible apply DL.r_un | with_reducible apply DL.r_test | with_reducible apply DL.r_notV | with_reducible apply DL.r_and | with_reducible apply DL.r_or | with_reducible apply DL.r_not | with_reducible apply DL.r_if | with_reducible apply DL.r_chainB | with_reducible exact DL.l_nil | with_reducible apply DL.l_cons | with_reducible apply DL.r_tup | with_reducible apply DL.r_lst | with_reducible apply DL.o_some | with_reducible exact DL.o_none | with_reducible apply DL.r_sl | with_reducible exact DL.a_nil | with_reducible apply DL.a_val | with_reducible apply DL.a_ref | (with_reducible apply DL.small_of; focus (first | omega | (simp <;> omega))) | with_reducible apply DL.r_callR | with_reducible apply DL.r_call | (first | exact e_is_row_ofL _ _ | exact e_is_row_of _ _ | exact e_is_rowL _ | exact e_is_row _ | exact e_is_below _ _ | exact e_is_whole _ | assumption) | (with_reducible apply DL.f_mod; (first | assumption | omega | focus (simp; omega))) | (with_reducible apply DL.f_div; (first | assumption | omega | focus (simp; omega))) | with_reducible apply DL.f_mulI | (with_reducible apply DL.wide_lt; (first | assumption | omega | focus (simp; omega))) | rfl | (focus ((try simp only [List.cons_append, List.nil_append, List.replicate_succ, List.replicate_zero, Nat.reduceSub, List.set_cons_zero, List.set_cons_succ, DL.with_arg, DL.with_own, DL.wipeD, List.map_cons, List.map_nil, DL.toArg, DL.back2, DL.back2a, DL.back, DL.back1]); rfl); done)))
      (repeat' (first | with_reducible apply DL.s_setI | with_reducible apply DL.s_app | with_reducible apply DL.s_ext | (with_reducible apply DL.m_arg; rfl) | (with_reducible apply DL.m_own; rfl) | (with_reducible apply DL.f_set; rfl; focus ((try simp only [List.cons_append, List.nil_append, List.replicate_succ, List.replicate_zero, Nat.reduceSub, List.set_cons_zero, List.set_cons_succ, DL.with_arg, DL.with_own, DL.wipeD, List.map_cons, List.map_nil, DL.toArg, DL.back2, DL.back2a, DL.back, DL.back1]); rfl)) | with_reducible apply DL.f_app | with_reducible apply DL.f_ext | (with_reducible apply DL.set_goal; focus ((try simp only [List.cons_append, List.nil_append, List.replicate_succ, List.replicate_zero, Nat.reduceSub, List.set_cons_zero, List.set_cons_succ, DL.with_arg, DL.with_own, DL.wipeD, List.map_cons, List.map_nil, DL.toArg, DL.back2, DL.back2a, DL.back, DL.back1]); rfl)) | with_reducible apply DL.s_seqG | with_reducible apply DL.step_b | with_reducible apply DL.k_nx | with_reducible exact DL.k_rt | with_reducible exact DL.k_ct | with_reducible exact DL.k_bk | with_reducible apply DL.s_asgG | with_reducible apply DL.s_asg | with_reducible apply DL.s_drop | with_reducible apply DL.s_ret | with_reducible apply DL.s_if | with_reducible exact DL.s_skip | (with_reducible apply DL.f_eq; (first | rfl | assumption); (first | rfl | assumption)) | (with_reducible apply DL.f_ne; (first | rfl | assumption); (first | rfl | assumption)) | with_reducible apply DL.f_addT | (with_reducible apply DL.f_ixT; assumption) | (with_reducible apply DL.f_ixL; assumption) | with_reducible apply DL.f_addL | with_reducible apply DL.s_par | with_reducible apply DL.s_for | with_reducible apply DL.i_it | with_reducible apply DL.i_r1 | with_reducible apply DL.r_lc | with_reducible apply DL.r_lc2 | with_reducible apply DL.i_enumT | with_reducible exact DL.t_yes | with_reducible apply DL.turn_e | with_reducible apply DL.g_tup | with_reducible apply DL.g_lst | with_reducible apply DL.g_cons | with_reducible exact DL.g_nil | with_reducible apply DL.g_n | (with_reducible apply DL.set_fz; rfl; focus ((try simp only [List.cons_append, List.nil_append, List.replicate_succ, List.replicate_zero, Nat.reduceSub, List.set_cons_zero, List.set_cons_succ, DL.with_arg, DL.with_own, DL.wipeD, List.map_cons, List.map_nil, DL.toArg, DL.back2, DL.back2a, DL.back, DL.back1]); rfl)) | (with_reducible apply DL.set_own; rfl; focus ((try simp only [List.cons_append, List.nil_append, List.replicate_succ, List.replicate_zero, Nat.reduceSub, List.set_cons_zero, List.set_cons_succ, DL.with_arg, DL.with_own, DL.wipeD, List.map_cons, List.map_nil, DL.toArg, DL.back2, DL.back2a, DL.back, DL.back1]); rfl)) | (with_reducible apply DL.p_t; (first | rfl | focus (simp [*]; done) | assumption)) | (with_reducible apply DL.p_f; (first | rfl | focus (simp [*]; done) | assumption)) | (with_reducible apply DL.v_fz; rfl) | (with_reducible apply DL.v_own; rfl) | (with_reducible apply DL.v_arg; rfl) | with_reducible exact DL.r_c | with_reducible apply DL.r_andB | with_reducible apply DL.r_bin | with_reducible apply DL.r_un | with_reducible apply DL.r_test | with_reducible apply DL.r_notV | with_reducible apply DL.r_and | with_reducible apply DL.r_or | with_reducible apply DL.r_not | with_reducible apply DL.r_if | with_reducible apply DL.r_chainB | with_reducible exact DL.l_nil | with_reducible apply DL.l_cons | with_reducible apply DL.r_tup | with_reducible apply DL.r_lst | with_reducible apply DL.o_some | with_reducible exact DL.o_none | with_reducible apply DL.r_sl | with_reducible exact DL.a_nil | with_reducible apply DL.a_val | with_reducible apply DL.a_ref | (with_reducible apply DL.small_of; focus (first | omega | (simp <;> omega))) | with_reducible apply DL.r_callR | with_reducible apply DL.r_call | (first | exact e_is_row_ofL _ _ | exact e_is_row_of _ _ | exact e_is_rowL _ | exact e_is_row _ | exact e_is_below _ _ | exact e_is_whole _ | assumption) | (with_reducible apply DL.f_mod; (first | assumption | omega | focus (simp; omega))) | (with_reducible apply DL.f_div; (first | assumption | omega | focus (simp; omega))) | with_reducible apply DL.f_mulI | (with_reducible apply DL.wide_lt; (first | assumption | omega | focus (simp; omega))) | rfl | (focus ((try simp only [List.cons_append, List.nil_append, List.replicate_succ, List.replicate_zero, Nat.reduceSub, List.set_cons_zero, List.set_cons_succ, DL.with_arg, DL.with_own, DL.wipeD, List.map_cons, List.map_nil, DL.toArg, DL.back2, DL.back2a, DL.back, DL.back1]); rfl); done)))
      · refine (Bool.and_eq_true _ _).mpr ⟨hs, ?_⟩
        show (!(lastSl Sl.no (ms.map encM)).held && true) = true
        rw [lastSl_free _ _ rfl]
        rfl
      · refine comp_map1 (ψ := fun m : Bool × Ln => encL m.2) fun m hm => ?_
        have ht : fTuple (encM m) = some (.fz (encL m.2)) := by
          obtain ⟨b, l⟩ := m
          cases b <;> rfl
        apply turn_1
        focus ((try simp only [List.cons_append, List.nil_append, List.replicate_succ, List.replicate_zero, Nat.reduceSub, List.set_cons_zero, List.set_cons_succ, DL.with_arg, DL.with_own, DL.wipeD, List.map_cons, List.map_nil, DL.toArg, DL.back2, DL.back2a, DL.back, DL.back1]); rfl)
        (repeat' (first | with_reducible apply DL.s_setI | with_reducible apply DL.s_app | with_reducible apply DL.s_ext | (with_reducible apply DL.m_arg; rfl) | (with_reducible apply DL.m_own; rfl) | (with_reducible apply DL.f_set; rfl; focus ((try simp only [List.cons_append, List.nil_append, List.replicate_succ, List.replicate_zero, Nat.reduceSub, List.set_cons_zero, List.set_cons_succ, DL.with_arg, DL.with_own, DL.wipeD, List.map_cons, List.map_nil, DL.toArg, DL.back2, DL.back2a, DL.back, DL.back1]); rfl)) | with_reducible apply DL.f_app | with_reducible apply DL.f_ext | (with_reducible apply DL.set_goal; focus ((try simp only [List.cons_append, List.nil_append, List.replicate_succ, List.replicate_zero, Nat.reduceSub, List.set_cons_zero, List.set_cons_succ, DL.with_arg, DL.with_own, DL.wipeD, List.map_cons, List.map_nil, DL.toArg, DL.back2, DL.back2a, DL.back, DL.back1]); rfl)) | with_reducible apply DL.s_seqG | with_reducible apply DL.step_b | with_reducible apply DL.k_nx | with_reducible exact DL.k_rt | with_reducible exact DL.k_ct | with_reducible exact DL.k_bk | with_reducible apply DL.s_asgG | with_reducible apply DL.s_asg | with_reducible apply DL.s_drop | with_reducible apply DL.s_ret | with_reducible apply DL.s_if | with_reducible exact DL.s_skip | (with_reducible apply DL.f_eq; (first | rfl | assumption); (first | rfl | assumption)) | (with_reducible apply DL.f_ne; (first | rfl | assumption); (first | rfl | assumption)) | with_reducible apply DL.f_addT | (with_reducible apply DL.f_ixT; assumption) | (with_reducible apply DL.f_ixL; assumption) | with_reducible apply DL.f_addL | with_reducible apply DL.s_par | with_reducible apply DL.s_for | with_reducible apply DL.i_it | with_reducible apply DL.i_r1 | with_reducible apply DL.r_lc | with_reducible apply DL.r_lc2 | with_reducible apply DL.i_enumT | with_reducible exact DL.t_yes | with_reducible apply DL.turn_e | with_reducible apply DL.g_tup | with_reducible apply DL.g_lst | with_reducible apply DL.g_cons | with_reducible exact DL.g_nil | with_reducible apply DL.g_n | (with_reducible apply DL.set_fz; rfl; focus ((try simp only [List.cons_append, List.nil_append, List.replicate_succ, List.replicate_zero, Nat.reduceSub, List.set_cons_zero, List.set_cons_succ, DL.with_arg, DL.with_own, DL.wipeD, List.map_cons, List.map_nil, DL.toArg, DL.back2, DL.back2a, DL.back, DL.back1]); rfl)) | (with_reducible apply DL.set_own; rfl; focus ((try simp only [List.cons_append, List.nil_append, List.replicate_succ, List.replicate_zero, Nat.reduceSub, List.set_cons_zero, List.set_cons_succ, DL.with_arg, DL.with_own, DL.wipeD, List.map_cons, List.map_nil, DL.toArg, DL.back2, DL.back2a, DL.back, DL.back1]); rfl)) | (with_reducible apply DL.p_t; (first | rfl | focus (simp [*]; done) | assumption)) | (with_reducible apply DL.p_f; (first | rfl | focus (simp [*]; done) | assumption)) | (with_reducible apply DL.v_fz; rfl) | (with_reducible apply DL.v_own; rfl) | (with_reducible apply DL.v_arg; rfl) | with_reducible exact DL.r_c | with_reducible apply DL.r_andB | with_reducible apply DL.r_bin | with_reducible apply DL.r_un | with_reducible apply DL.r_test | with_reducible apply DL.r_notV | with_reducible apply DL.r_and | with_reducible apply DL.r_or | with_reducible apply DL.r_not | with_reducible apply DL.r_if | with_reducible apply DL.r_chainB | with_reducible exact DL.l_nil | with_reducible apply DL.l_cons | with_reducible apply DL.r_tup | with_reducible apply DL.r_lst | with_reducible apply DL.o_some | with_reducible exact DL.o_none | with_reducible apply DL.r_sl | with_reducible exact DL.a_nil | with_reducible apply DL.a_val | with_reducible apply DL.a_ref | (with_reducible apply DL.small_of; focus (first | omega | (simp <;> omega))) | with_reducible apply DL.r_callR | with_reducible apply DL.r_call | (first | exact e_is_row_ofL _ _ | exact e_is_row_of _ _ | exact e_is_rowL _ | exact e_is_row _ | exact e_is_below _ _ | exact e_is_whole _ | assumption) | (with_reducible apply DL.f_mod; (first | assumption | omega | focus (simp; omega))) | (with_reducible apply DL.f_div; (first | assumption | omega | focus (simp; omega))) | with_reducible apply DL.f_mulI | (with_reducible apply DL.wide_lt; (first | assumption | omega | focus (simp; omega))) | rfl | (focus ((try simp only [List.cons_append, List.nil_append, List.replicate_succ, List.replicate_zero, Nat.reduceSub, List.set_cons_zero, List.set_cons_succ, DL.with_arg, DL.with_own, DL.wipeD, List.map_cons, List.map_nil, DL.toArg, DL.back2, DL.back2a, DL.back, DL.back1]); rfl); done)))
        have hf := lastSl_free (ms.map encM) .no rfl
        generalize lastSl .no (ms.map encM) = s at hf ⊢
        cases s <;> first | rfl | cases hf
      (repeat' (first | with_reducible apply DL.s_setI | with_reducible apply DL.s_app | with_reducible apply DL.s_ext | (with_reducible apply DL.m_arg; rfl) | (with_reducible apply DL.m_own; rfl) | (with_reducible apply DL.f_set; rfl; focus ((try simp only [List.cons_append, List.nil_append, List.replicate_succ, List.replicate_zero, Nat.reduceSub, List.set_cons_zero, List.set_cons_succ, DL.with_arg, DL.with_own, DL.wipeD, List.map_cons, List.map_nil, DL.toArg, DL.back2, DL.back2a, DL.back, DL.back1]); rfl)) | with_reducible apply DL.f_app | with_reducible apply DL.f_ext | (with_reducible apply DL.set_goal; focus ((try simp only [List.cons_append, List.nil_append, List.replicate_succ, List.replicate_zero, Nat.reduceSub, List.set_cons_zero, List.set_cons_succ, DL.with_arg, DL.with_own, DL.wipeD, List.map_cons, List.map_nil, DL.toArg, DL.back2, DL.back2a, DL.back, DL.back1]); rfl)) | with_reducible apply DL.s_seqG | with_reducible apply DL.step_b | with_reducible apply DL.k_nx | with_reducible exact DL.k_rt | with_reducible exact DL.k_ct | with_reducible exact DL.k_bk | with_reducible apply DL.s_asgG | with_reducible apply DL.s_asg | with_reducible apply DL.s_drop | with_reducible apply DL.s_ret | with_reducible apply DL.s_if | with_reducible exact DL.s_skip | (with_reducible apply DL.f_eq; (first | rfl | assumption); (first | rfl | assumption)) | (with_reducible apply DL.f_ne; (first | rfl | assumption); (first | rfl | assumption)) | with_reducible apply DL.f_addT | (with_reducible apply DL.f_ixT; assumption) | (with_reducible apply DL.f_ixL; assumption) | with_reducible apply DL.f_addL | with_reducible apply DL.s_par | with_reducible apply DL.s_for | with_reducible apply DL.i_it | with_reducible apply DL.i_r1 | with_reducible apply DL.r_lc | with_reducible apply DL.r_lc2 | with_reducible apply DL.i_enumT | with_reducible exact DL.t_yes | with_reducible apply DL.turn_e | with_reducible apply DL.g_tup | with_reducible apply DL.g_lst | with_reducible apply DL.g_cons | with_reducible exact DL.g_nil | with_reducible apply DL.g_n | (with_reducible apply DL.set_fz; rfl; focus ((try simp only [List.cons_append, List.nil_append, List.replicate_succ, List.replicate_zero, Nat.reduceSub, List.set_cons_zero, List.set_cons_succ, DL.with_arg, DL.with_own, DL.wipeD, List.map_cons, List.map_nil, DL.toArg, DL.back2, DL.back2a, DL.back, DL.back1]); rfl)) | (with_reducible apply DL.set_own; rfl; focus ((try simp only [List.cons_append, List.nil_append, List.replicate_succ, List.replicate_zero, Nat.reduceSub, List.set_cons_zero, List.set_cons_succ, DL.with_arg, DL.with_own, DL.wipeD, List.map_cons, List.map_nil, DL.toArg, DL.back2, DL.back2a, DL.back, DL.back1]); rfl)) | (with_reducible apply DL.p_t; (first | rfl | focus (simp [*]; done) | assumption)) | (with_reducible apply DL.p_f; (first | rfl | focus (simp [*]; done) | assumption)) | (with_reducible apply DL.v_fz; rfl) | (with_reducible apply DL.v_own; rfl) | (with_reducible apply DL.v_arg; rfl) | with_reducible exact DL.r_c | with_reducible apply DL.r_andB | with_reducible apply DL.r_bin | with_reducible apply DL.r_un | with_reducible apply DL.r_test | with_reducible apply DL.r_notV | with_reducible apply DL.r_and | with_reducible apply DL.r_or | with_reducible apply DL.r_not | with_reducible apply DL.r_if | with_reducible apply DL.r_chainB | with_reducible exact DL.l_nil | with_reducible apply DL.l_cons | with_reducible apply DL.r_tup | with_reducible apply DL.r_lst | with_reducible apply DL.o_some | with_reducible exact DL.o_none | with_reducible apply DL.r_sl | with_reducible exact DL.a_nil | with_reducible apply DL.a_val | with_reducible apply DL.a_ref | (with_reducible apply DL.small_of; focus (first | omega | (simp <;> omega))) | with_reducible apply DL.r_callR | with_reducible apply DL.r_call | (first | exact e_is_row_ofL _ _ | exact e_is_row_of _ _ | exact e_is_rowL _ | exact e_is_row _ | exact e_is_below _ _ | exact e_is_whole _ | assumption) | (with_reducible apply DL.f_mod; (first | assumption | omega | focus (simp; omega))) | (with_reducible apply DL.f_div; (first | assumption | omega | focus (simp; omega))) | with_reducible apply DL.f_mulI | (with_reducible apply DL.wide_lt; (first | assumption | omega | focus (simp; omega))) | rfl | (focus ((try simp only [List.cons_append, List.nil_append, List.replicate_succ, List.replicate_zero, Nat.reduceSub, List.set_cons_zero, List.set_cons_succ, DL.with_arg, DL.with_own, DL.wipeD, List.map_cons, List.map_nil, DL.toArg, DL.back2, DL.back2a, DL.back, DL.back1]); rfl); done)))
    · unfold encW lns
      rw [List.map_map]
      rfl
    · rfl
theorem e_checked_web (b c : Bool) (p : Int) (ms : List (Bool × Ln)) (h : OkW p (lns ms)) : d_checked_web [.fz (encD b c p ms)] = .ok (.fz (encW p (lns ms))) [.no] := by
  have e := e_web_of p c ms h
  have hx : fIx (encD b c p ms) (.int 0) = some (.fz (.int p)) := by cases b <;> rfl
  have hy : fIx (encD b c p ms) (.int 1) = some (.fz (sq c (ms.map encM))) := by cases b <;> rfl
  have hr : d_is_row_of [.fz (encD b c p ms), .fz (.int 2)] = .ok (.fz (.bool true)) [.no, .no] := by
    cases b
    · exact e_is_row_of _ _
    · exact e_is_row_ofL _ _
  unfold d_checked_web
  apply run_v rfl
  · focus ((try simp only [List.cons_append, List.nil_append, List.replicate_succ, List.replicate_zero, Nat.reduceSub, List.set_cons_zero, List.set_cons_succ, DL.with_arg, DL.with_own, DL.wipeD, List.map_cons, List.map_nil, DL.toArg, DL.back2, DL.back2a, DL.back, DL.back1]); rfl)
  · unfold sd_checked_web
    (repeat' (first | with_reducible apply DL.s_setI | with_reducible apply DL.s_app | with_reducible apply DL.s_ext | (with_reducible apply DL.m_arg; rfl) | (with_reducible apply DL.m_own; rfl) | (with_reducible apply DL.f_set; rfl; focus ((try simp only [List.cons_append, List.nil_append, List.replicate_succ, List.replicate_zero, Nat.reduceSub, List.set_cons_zero, List.set_cons_succ, DL.with_arg, DL.with_own, DL.wipeD, List.map_cons, List.map_nil, DL.toArg, DL.back2, DL.back2a, DL.back, DL.back1]); rfl)) | with_reducible apply DL.f_app | with_reducible apply DL.f_ext | (with_reducible apply DL.set_goal; focus ((try simp only [List.cons_append, List.nil_append, List.replicate_succ, List.replicate_zero, Nat.reduceSub, List.set_cons_zero, List.set_cons_succ, DL.with_arg, DL.with_own, DL.wipeD, List.map_cons, List.map_nil, DL.toArg, DL.back2, DL.back2a, DL.back, DL.back1]); rfl)) | with_reducible apply DL.s_seqG | with_reducible apply DL.step_b | with_reducible apply DL.k_nx | with_reducible exact DL.k_rt | with_reducible exact DL.k_ct | with_reducible exact DL.k_bk | with_reducible apply DL.s_asgG | with_reducible apply DL.s_asg | with_reducible apply DL.s_drop | with_reducible apply DL.s_ret | with_reducible apply DL.s_if | with_reducible exact DL.s_skip | (with_reducible apply DL.f_eq; (first | rfl | assumption); (first | rfl | assumption)) | (with_reducible apply DL.f_ne; (first | rfl | assumption); (first | rfl | assumption)) | with_reducible apply DL.f_addT | (with_reducible apply DL.f_ixT; assumption) | (with_reducible apply DL.f_ixL; assumption) | with_reducible apply DL.f_addL | with_reducible apply DL.s_par | with_reducible apply DL.s_for | with_reducible apply DL.i_it | with_reducible apply DL.i_r1 | with_reducible apply DL.r_lc | with_reducible apply DL.r_lc2 | with_reducible apply DL.i_enumT | with_reducible exact DL.t_yes | with_reducible apply DL.turn_e | with_reducible apply DL.g_tup | with_reducible apply DL.g_lst | with_reducible apply DL.g_cons | with_reducible exact DL.g_nil | with_reducible apply DL.g_n | (with_reducible apply DL.set_fz; rfl; focus ((try simp only [List.cons_append, List.nil_append, List.replicate_succ, List.replicate_zero, Nat.reduceSub, List.set_cons_zero, List.set_cons_succ, DL.with_arg, DL.with_own, DL.wipeD, List.map_cons, List.map_nil, DL.toArg, DL.back2, DL.back2a, DL.back, DL.back1]); rfl)) | (with_reducible apply DL.set_own; rfl; focus ((try simp only [List.cons_append, List.nil_append, List.replicate_succ, List.replicate_zero, Nat.reduceSub, List.set_cons_zero, List.set_cons_succ, DL.with_arg, DL.with_own, DL.wipeD, List.map_cons, List.map_nil, DL.toArg, DL.back2, DL.back2a, DL.back, DL.back1]); rfl)) | (with_reducible apply DL.p_t; (first | rfl | focus (simp [*]; done) | assumption)) | (with_reducible apply DL.p_f; (first | rfl | focus (simp [*]; done) | assumption)) | (with_reducible apply DL.v_fz; rfl) | (with_reducible apply DL.v_own; rfl) | (with_reducible apply DL.v_arg; rfl) | with_reducible exact DL.r_c | with_reducible apply DL.r_andB | with_reducible apply DL.r_bin | with_reducible apply DL.r_un | with_reducible apply DL.r_test | with_reducible apply DL.r_notV | with_reducible apply DL.r_and | with_reducible apply DL.r_or | with_reducible apply DL.r_not | with_reducible apply DL.r_if | with_reducible apply DL.r_chainB | with_reducible exact DL.l_nil | with_reducible apply DL.l_cons | with_reducible apply DL.r_tup | with_reducible apply DL.r_lst | with_reducible apply DL.o_some | with_reducible exact DL.o_none | with_reducible apply DL.r_sl | with_reducible exact DL.a_nil | with_reducible apply DL.a_val | with_reducible apply DL.a_ref | (with_reducible apply DL.small_of; focus (first | omega | (simp <;> omega))) | with_reducible apply DL.r_callR | with_reducible apply DL.r_call | (first | exact e_is_row_ofL _ _ | exact e_is_row_of _ _ | exact e_is_rowL _ | exact e_is_row _ | exact e_is_below _ _ | exact e_is_whole _ | assumption) | (with_reducible apply DL.f_mod; (first | assumption | omega | focus (simp; omega))) | (with_reducible apply DL.f_div; (first | assumption | omega | focus (simp; omega))) | with_reducible apply DL.f_mulI | (with_reducible apply DL.wide_lt; (first | assumption | omega | focus (simp; omega))) | rfl | (focus ((try simp only [List.cons_append, List.nil_append, List.replicate_succ, List.replicate_zero, Nat.reduceSub, List.set_cons_zero, List.set_cons_succ, DL.with_arg, DL.with_own, DL.wipeD, List.map_cons, List.map_nil, DL.toArg, DL.back2, DL.back2a, DL.back, DL.back1]); rfl); done)))
  all_goals rfl

theorem e_check_place (p i : Int) (h0 : 0 ≤ i) (h1 : i < p) : d_check_place [.fz (.int p), .fz (.int i)] = .ok (.fz .none) [.no, .no] := by
  unfold d_check_place
  apply run_nx rfl
  · focus ((try simp only [List.cons_append, List.nil_append, List.replicate_succ, List.replicate_zero, Nat.reduceSub, List.set_cons_zero, List.set_cons_succ, DL.with_arg, DL.with_own, DL.wipeD, List.map_cons, List.map_nil, DL.toArg, DL.back2, DL.back2a, DL.back, DL.back1]); rfl)
  · unfold sd_check_place
    (repeat' (first | with_reducible apply DL.s_setI | with_reducible apply DL.s_app | with_reducible apply DL.s_ext | (with_reducible apply DL.m_arg; rfl) | (with_reducible apply DL.m_own; rfl) | (with_reducible apply DL.f_set; rfl; focus ((try simp only [List.cons_append, List.nil_append, List.replicate_succ, List.replicate_zero, Nat.reduceSub, List.set_cons_zero, List.set_cons_succ, DL.with_arg, DL.with_own, DL.wipeD, List.map_cons, List.map_nil, DL.toArg, DL.back2, DL.back2a, DL.back, DL.back1]); rfl)) | with_reducible apply DL.f_app | with_reducible apply DL.f_ext | (with_reducible apply DL.set_goal; focus ((try simp only [List.cons_append, List.nil_append, List.replicate_succ, List.replicate_zero, Nat.reduceSub, List.set_cons_zero, List.set_cons_succ, DL.with_arg, DL.with_own, DL.wipeD, List.map_cons, List.map_nil, DL.toArg, DL.back2, DL.back2a, DL.back, DL.back1]); rfl)) | with_reducible apply DL.s_seqG | with_reducible apply DL.step_b | with_reducible apply DL.k_nx | with_reducible exact DL.k_rt | with_reducible exact DL.k_ct | with_reducible exact DL.k_bk | with_reducible apply DL.s_asgG | with_reducible apply DL.s_asg | with_reducible apply DL.s_drop | with_reducible apply DL.s_ret | with_reducible apply DL.s_if | with_reducible exact DL.s_skip | (with_reducible apply DL.f_eq; (first | rfl | assumption); (first | rfl | assumption)) | (with_reducible apply DL.f_ne; (first | rfl | assumption); (first | rfl | assumption)) | with_reducible apply DL.f_addT | (with_reducible apply DL.f_ixT; assumption) | (with_reducible apply DL.f_ixL; assumption) | with_reducible apply DL.f_addL | with_reducible apply DL.s_par | with_reducible apply DL.s_for | with_reducible apply DL.i_it | with_reducible apply DL.i_r1 | with_reducible apply DL.r_lc | with_reducible apply DL.r_lc2 | with_reducible apply DL.i_enumT | with_reducible exact DL.t_yes | with_reducible apply DL.turn_e | with_reducible apply DL.g_tup | with_reducible apply DL.g_lst | with_reducible apply DL.g_cons | with_reducible exact DL.g_nil | with_reducible apply DL.g_n | (with_reducible apply DL.set_fz; rfl; focus ((try simp only [List.cons_append, List.nil_append, List.replicate_succ, List.replicate_zero, Nat.reduceSub, List.set_cons_zero, List.set_cons_succ, DL.with_arg, DL.with_own, DL.wipeD, List.map_cons, List.map_nil, DL.toArg, DL.back2, DL.back2a, DL.back, DL.back1]); rfl)) | (with_reducible apply DL.set_own; rfl; focus ((try simp only [List.cons_append, List.nil_append, List.replicate_succ, List.replicate_zero, Nat.reduceSub, List.set_cons_zero, List.set_cons_succ, DL.with_arg, DL.with_own, DL.wipeD, List.map_cons, List.map_nil, DL.toArg, DL.back2, DL.back2a, DL.back, DL.back1]); rfl)) | (with_reducible apply DL.p_t; (first | rfl | focus (simp [*]; done) | assumption)) | (with_reducible apply DL.p_f; (first | rfl | focus (simp [*]; done) | assumption)) | (with_reducible apply DL.v_fz; rfl) | (with_reducible apply DL.v_own; rfl) | (with_reducible apply DL.v_arg; rfl) | with_reducible exact DL.r_c | with_reducible apply DL.r_andB | with_reducible apply DL.r_bin | with_reducible apply DL.r_un | with_reducible apply DL.r_test | with_reducible apply DL.r_notV | with_reducible apply DL.r_and | with_reducible apply DL.r_or | with_reducible apply DL.r_not | with_reducible apply DL.r_if | with_reducible apply DL.r_chainB | with_reducible exact DL.l_nil | with_reducible apply DL.l_cons | with_reducible apply DL.r_tup | with_reducible apply DL.r_lst | with_reducible apply DL.o_some | with_reducible exact DL.o_none | with_reducible apply DL.r_sl | with_reducible exact DL.a_nil | with_reducible apply DL.a_val | with_reducible apply DL.a_ref | (with_reducible apply DL.small_of; focus (first | omega | (simp <;> omega))) | with_reducible apply DL.r_callR | with_reducible apply DL.r_call | (first | exact e_is_row_ofL _ _ | exact e_is_row_of _ _ | exact e_is_rowL _ | exact e_is_row _ | exact e_is_below _ _ | exact e_is_whole _ | assumption) | (with_reducible apply DL.f_mod; (first | assumption | omega | focus (simp; omega))) | (with_reducible apply DL.f_div; (first | assumption | omega | focus (simp; omega))) | with_reducible apply DL.f_mulI | (with_reducible apply DL.wide_lt; (first | assumption | omega | focus (simp; omega))) | rfl | (focus ((try simp only [List.cons_append, List.nil_append, List.replicate_succ, List.replicate_zero, Nat.reduceSub, List.set_cons_zero, List.set_cons_succ, DL.with_arg, DL.with_own, DL.wipeD, List.map_cons, List.map_nil, DL.toArg, DL.back2, DL.back2a, DL.back, DL.back1]); rfl); done)))
  all_goals rfl
abbrev encE (q : Nat × Nat) : D := .tuple [.int q.1, .int q.2]
def endAt (pl : Int) (n : Nat) (l : Ln) : List (Nat × Nat) := (if l.1 = pl then [(n, 0)] else []) ++ (if l.2.1 = pl then [(n, 1)] else [])
def endsOf (ls : List Ln) (pl : Int) : List (Nat × Nat) := ((List.range ls.length).zip ls).flatMap fun q => endAt pl q.1 q.2
theorem endAt_len (pl : Int) (n : Nat) (l : Ln) : (endAt pl n l).length ≤ 2 := by
  unfold endAt
  split <;> split <;> simp
theorem flat_len {α β : Type} (f : α → List β) (k : Nat) (h : ∀ x, (f x).length ≤ k) : ∀ xs : List α, (xs.flatMap f).length ≤ k * xs.length
  | [] => by simp
  | x :: xs => by
    have := flat_len f k h xs
    have := h x
    simp only [List.flatMap_cons, List.length_append, List.length_cons, Nat.mul_add]
    omega
theorem endsOf_len (ls : List Ln) (pl : Int) : (endsOf ls pl).length ≤ 2 * ls.length := by
  have := flat_len (fun q : Nat × Ln => endAt pl q.1 q.2) 2 (fun q => endAt_len pl q.1 q.2) ((List.range ls.length).zip ls)
  simp only [List.length_zip, List.length_range, Nat.min_self] at this
  exact this
theorem zip_len {α : Type} (xs : List α) : ((List.range xs.length).zip xs).length = xs.length := by simp
theorem e_ends_of (ls : List Ln) (pl : Int) (hl : ls.length ≤ 1000) : d_ends_of [.fz (.tuple (ls.map encL)), .fz (.int pl)] = .ok (.own (.lst ((endsOf ls pl).map encE))) [.no, .no] := by
  have main : ∀ (n : Nat) (l : Ln), oneTurn2 [2, 3, 4] [4] (gTupD 2 (gsCons (gN 2) (gsCons (gN 3) gsNil))) dYes
        (dIter (dTup (dCons (dC (PyData.int 0)) (dCons (dC (PyData.int 1)) dNil)))) (gN 4)
        (dTest (dBin fEq (dBin fIx (dVar 3) (dVar 4)) (dVar 1))) (dTup (dCons (dVar 2) (dCons (dVar 4) dNil)))
        (.tuple [.int (n : Nat), encL l]) [Sl.fz (PyData.tuple (List.map encL ls)), Sl.fz (PyData.int pl), Sl.no, Sl.no, Sl.no] = .ok ((endAt pl n l).map encE) [Sl.fz (PyData.tuple (List.map encL ls)), Sl.fz (PyData.int pl), Sl.no, Sl.no, Sl.no] := fun n l => by
    apply turn_2
    · focus ((try simp only [List.cons_append, List.nil_append, List.replicate_succ, List.replicate_zero, Nat.reduceSub, List.set_cons_zero, List.set_cons_succ, DL.with_arg, DL.with_own, DL.wipeD, List.map_cons, List.map_nil, DL.toArg, DL.back2, DL.back2a, DL.back, DL.back1]); rfl)
    · (repeat' (first | with_reducible apply DL.s_setI | with_reducible apply DL.s_app | with_reducible apply DL.s_ext | (with_reducible apply DL.m_arg; rfl) | (with_reducible apply DL.m_own; rfl) | (with_reducible apply DL.f_set; rfl; focus ((try simp only [List.cons_append, List.nil_append, List.replicate_succ, List.replicate_zero, Nat.reduceSub, List.set_cons_zero, List.set_cons_succ, DL.with_arg, DL.with_own, DL.wipeD, List.map_cons, List.map_nil, DL.toArg, DL.back2, DL.back2a, DL.back, DL.back1]); rfl)) | with_reducible apply DL.f_app | with_reducible apply DL.f_ext | (with_reducible apply DL.set_goal; focus ((try simp only [List.cons_append, List.nil_append, List.replicate_succ, List.replicate_zero, Nat.reduceSub, List.set_cons_zero, List.set_cons_succ, DL.with_arg, DL.with_own, DL.wipeD, List.map_cons, List.map_nil, DL.toArg, DL.back2, DL.back2a, DL.back, DL.back1]); rfl)) | with_reducible apply DL.s_seqG | with_reducible apply DL.step_b | with_reducible apply DL.k_nx | with_reducible exact DL.k_rt | with_reducible exact DL.k_ct | with_reducible exact DL.k_bk | with_reducible apply DL.s_asgG | with_reducible apply DL.s_asg | with_reducible apply DL.s_drop | with_reducible apply DL.s_ret | with_reducible apply DL.s_if | with_reducible exact DL.s_skip | (with_reducible apply DL.f_eq; (first | rfl | assumption); (first | rfl | assumption)) | (with_reducible apply DL.f_ne; (first | rfl | assumption); (first | rfl | assumption)) | with_reducible apply DL.f_addT | (with_reducible apply DL.f_ixT; assumption) | (with_reducible apply DL.f_ixL; assumption) | with_reducible apply DL.f_addL | with_reducible apply DL.s_par | with_reducible apply DL.s_for | with_reducible apply DL.i_it | with_reducible apply DL.i_r1 | with_reducible apply DL.r_lc | with_reducible apply DL.r_lc2 | with_reducible apply DL.i_enumT | with_reducible exact DL.t_yes | with_reducible apply DL.turn_e | with_reducible apply DL.g_tup | with_reducible apply DL.g_lst | with_reducible apply DL.g_cons | with_reducible exact DL.g_nil | with_reducible apply DL.g_n | (with_reducible apply DL.set_fz; rfl; focus ((try simp only [List.cons_append, List.nil_append, List.replicate_succ, List.replicate_zero, Nat.reduceSub, List.set_cons_zero, List.set_cons_succ, DL.with_arg, DL.with_own, DL.wipeD, List.map_cons, List.map_nil, DL.toArg, DL.back2, DL.back2a, DL.back, DL.back1]); rfl)) | (with_reducible apply DL.set_own; rfl; focus ((try simp only [List.cons_append, List.nil_append, List.replicate_succ, List.replicate_zero, Nat.reduceSub, List.set_cons_zero, List.set_cons_succ, DL.with_arg, DL.with_own, DL.wipeD, List.map_cons, List.map_nil, DL.toArg, DL.back2, DL.back2a, DL.back, DL.back1]); rfl)) | (with_reducible apply DL.p_t; (first | rfl | focus (simp [*]; done) | assumption)) | (with_reducible apply DL.p_f; (first | rfl | focus (simp [*]; done) | assumption)) | (with_reducible apply DL.v_fz; rfl) | (with_reducible apply DL.v_own; rfl) | (with_reducible apply DL.v_arg; rfl) | with_reducible exact DL.r_c | with_reducible apply DL.r_andB | with_reducible apply DL.r_bin | with_reducible apply DL.r_un | with_reducible apply DL.r_test | with_reducible apply DL.r_notV | with_reducible apply DL.r_and | with_reducible apply DL.r_or | with_reducible apply DL.r_not | with_reducible apply DL.r_if | with_reducible apply DL.r_chainB | with_reducible exact DL.l_nil | with_reducible apply DL.l_cons | with_reducible apply DL.r_tup | with_reducible apply DL.r_lst | with_reducible apply DL.o_some | with_reducible exact DL.o_none | with_reducible apply DL.r_sl | with_reducible exact DL.a_nil | with_reducible apply DL.a_val | with_reducible apply DL.a_ref | (with_reducible apply DL.small_of; focus (first | omega | (simp <;> omega))) | with_reducible apply DL.r_callR | with_reducible apply DL.r_call | (first | exact e_is_row_ofL _ _ | exact e_is_row_of _ _ | exact e_is_rowL _ | exact e_is_row _ | exact e_is_below _ _ | exact e_is_whole _ | assumption) | (with_reducible apply DL.f_mod; (first | assumption | omega | focus (simp; omega))) | (with_reducible apply DL.f_div; (first | assumption | omega | focus (simp; omega))) | with_reducible apply DL.f_mulI | (with_reducible apply DL.wide_lt; (first | assumption | omega | focus (simp; omega))) | rfl | (focus ((try simp only [List.cons_append, List.nil_append, List.replicate_succ, List.replicate_zero, Nat.reduceSub, List.set_cons_zero, List.set_cons_succ, DL.with_arg, DL.with_own, DL.wipeD, List.map_cons, List.map_nil, DL.toArg, DL.back2, DL.back2a, DL.back, DL.back1]); rfl); done)))
    · (repeat' (first | with_reducible apply DL.s_setI | with_reducible apply DL.s_app | with_reducible apply DL.s_ext | (with_reducible apply DL.m_arg; rfl) | (with_reducible apply DL.m_own; rfl) | (with_reducible apply DL.f_set; rfl; focus ((try simp only [List.cons_append, List.nil_append, List.replicate_succ, List.replicate_zero, Nat.reduceSub, List.set_cons_zero, List.set_cons_succ, DL.with_arg, DL.with_own, DL.wipeD, List.map_cons, List.map_nil, DL.toArg, DL.back2, DL.back2a, DL.back, DL.back1]); rfl)) | with_reducible apply DL.f_app | with_reducible apply DL.f_ext | (with_reducible apply DL.set_goal; focus ((try simp only [List.cons_append, List.nil_append, List.replicate_succ, List.replicate_zero, Nat.reduceSub, List.set_cons_zero, List.set_cons_succ, DL.with_arg, DL.with_own, DL.wipeD, List.map_cons, List.map_nil, DL.toArg, DL.back2, DL.back2a, DL.back, DL.back1]); rfl)) | with_reducible apply DL.s_seqG | with_reducible apply DL.step_b | with_reducible apply DL.k_nx | with_reducible exact DL.k_rt | with_reducible exact DL.k_ct | with_reducible exact DL.k_bk | with_reducible apply DL.s_asgG | with_reducible apply DL.s_asg | with_reducible apply DL.s_drop | with_reducible apply DL.s_ret | with_reducible apply DL.s_if | with_reducible exact DL.s_skip | (with_reducible apply DL.f_eq; (first | rfl | assumption); (first | rfl | assumption)) | (with_reducible apply DL.f_ne; (first | rfl | assumption); (first | rfl | assumption)) | with_reducible apply DL.f_addT | (with_reducible apply DL.f_ixT; assumption) | (with_reducible apply DL.f_ixL; assumption) | with_reducible apply DL.f_addL | with_reducible apply DL.s_par | with_reducible apply DL.s_for | with_reducible apply DL.i_it | with_reducible apply DL.i_r1 | with_reducible apply DL.r_lc | with_reducible apply DL.r_lc2 | with_reducible apply DL.i_enumT | with_reducible exact DL.t_yes | with_reducible apply DL.turn_e | with_reducible apply DL.g_tup | with_reducible apply DL.g_lst | with_reducible apply DL.g_cons | with_reducible exact DL.g_nil | with_reducible apply DL.g_n | (with_reducible apply DL.set_fz; rfl; focus ((try simp only [List.cons_append, List.nil_append, List.replicate_succ, List.replicate_zero, Nat.reduceSub, List.set_cons_zero, List.set_cons_succ, DL.with_arg, DL.with_own, DL.wipeD, List.map_cons, List.map_nil, DL.toArg, DL.back2, DL.back2a, DL.back, DL.back1]); rfl)) | (with_reducible apply DL.set_own; rfl; focus ((try simp only [List.cons_append, List.nil_append, List.replicate_succ, List.replicate_zero, Nat.reduceSub, List.set_cons_zero, List.set_cons_succ, DL.with_arg, DL.with_own, DL.wipeD, List.map_cons, List.map_nil, DL.toArg, DL.back2, DL.back2a, DL.back, DL.back1]); rfl)) | (with_reducible apply DL.p_t; (first | rfl | focus (simp [*]; done) | assumption)) | (with_reducible apply DL.p_f; (first | rfl | focus (simp [*]; done) | assumption)) | (with_reducible apply DL.v_fz; rfl) | (with_reducible apply DL.v_own; rfl) | (with_reducible apply DL.v_arg; rfl) | with_reducible exact DL.r_c | with_reducible apply DL.r_andB | with_reducible apply DL.r_bin | with_reducible apply DL.r_un | with_reducible apply DL.r_test | with_reducible apply DL.r_notV | with_reducible apply DL.r_and | with_reducible apply DL.r_or | with_reducible apply DL.r_not | with_reducible apply DL.r_if | with_reducible apply DL.r_chainB | with_reducible exact DL.l_nil | with_reducible apply DL.l_cons | with_reducible apply DL.r_tup | with_reducible apply DL.r_lst | with_reducible apply DL.o_some | with_reducible exact DL.o_none | with_reducible apply DL.r_sl | with_reducible exact DL.a_nil | with_reducible apply DL.a_val | with_reducible apply DL.a_ref | (with_reducible apply DL.small_of; focus (first | omega | (simp <;> omega))) | with_reducible apply DL.r_callR | with_reducible apply DL.r_call | (first | exact e_is_row_ofL _ _ | exact e_is_row_of _ _ | exact e_is_rowL _ | exact e_is_row _ | exact e_is_below _ _ | exact e_is_whole _ | assumption) | (with_reducible apply DL.f_mod; (first | assumption | omega | focus (simp; omega))) | (with_reducible apply DL.f_div; (first | assumption | omega | focus (simp; omega))) | with_reducible apply DL.f_mulI | (with_reducible apply DL.wide_lt; (first | assumption | omega | focus (simp; omega))) | rfl | (focus ((try simp only [List.cons_append, List.nil_append, List.replicate_succ, List.replicate_zero, Nat.reduceSub, List.set_cons_zero, List.set_cons_succ, DL.with_arg, DL.with_own, DL.wipeD, List.map_cons, List.map_nil, DL.toArg, DL.back2, DL.back2a, DL.back, DL.back1]); rfl); done)))
    · (repeat' (first | with_reducible apply DL.s_setI | with_reducible apply DL.s_app | with_reducible apply DL.s_ext | (with_reducible apply DL.m_arg; rfl) | (with_reducible apply DL.m_own; rfl) | (with_reducible apply DL.f_set; rfl; focus ((try simp only [List.cons_append, List.nil_append, List.replicate_succ, List.replicate_zero, Nat.reduceSub, List.set_cons_zero, List.set_cons_succ, DL.with_arg, DL.with_own, DL.wipeD, List.map_cons, List.map_nil, DL.toArg, DL.back2, DL.back2a, DL.back, DL.back1]); rfl)) | with_reducible apply DL.f_app | with_reducible apply DL.f_ext | (with_reducible apply DL.set_goal; focus ((try simp only [List.cons_append, List.nil_append, List.replicate_succ, List.replicate_zero, Nat.reduceSub, List.set_cons_zero, List.set_cons_succ, DL.with_arg, DL.with_own, DL.wipeD, List.map_cons, List.map_nil, DL.toArg, DL.back2, DL.back2a, DL.back, DL.back1]); rfl)) | with_reducible apply DL.s_seqG | with_reducible apply DL.step_b | with_reducible apply DL.k_nx | with_reducible exact DL.k_rt | with_reducible exact DL.k_ct | with_reducible exact DL.k_bk | with_reducible apply DL.s_asgG | with_reducible apply DL.s_asg | with_reducible apply DL.s_drop | with_reducible apply DL.s_ret | with_reducible apply DL.s_if | with_reducible exact DL.s_skip | (with_reducible apply DL.f_eq; (first | rfl | assumption); (first | rfl | assumption)) | (with_reducible apply DL.f_ne; (first | rfl | assumption); (first | rfl | assumption)) | with_reducible apply DL.f_addT | (with_reducible apply DL.f_ixT; assumption) | (with_reducible apply DL.f_ixL; assumption) | with_reducible apply DL.f_addL | with_reducible apply DL.s_par | with_reducible apply DL.s_for | with_reducible apply DL.i_it | with_reducible apply DL.i_r1 | with_reducible apply DL.r_lc | with_reducible apply DL.r_lc2 | with_reducible apply DL.i_enumT | with_reducible exact DL.t_yes | with_reducible apply DL.turn_e | with_reducible apply DL.g_tup | with_reducible apply DL.g_lst | with_reducible apply DL.g_cons | with_reducible exact DL.g_nil | with_reducible apply DL.g_n | (with_reducible apply DL.set_fz; rfl; focus ((try simp only [List.cons_append, List.nil_append, List.replicate_succ, List.replicate_zero, Nat.reduceSub, List.set_cons_zero, List.set_cons_succ, DL.with_arg, DL.with_own, DL.wipeD, List.map_cons, List.map_nil, DL.toArg, DL.back2, DL.back2a, DL.back, DL.back1]); rfl)) | (with_reducible apply DL.set_own; rfl; focus ((try simp only [List.cons_append, List.nil_append, List.replicate_succ, List.replicate_zero, Nat.reduceSub, List.set_cons_zero, List.set_cons_succ, DL.with_arg, DL.with_own, DL.wipeD, List.map_cons, List.map_nil, DL.toArg, DL.back2, DL.back2a, DL.back, DL.back1]); rfl)) | (with_reducible apply DL.p_t; (first | rfl | focus (simp [*]; done) | assumption)) | (with_reducible apply DL.p_f; (first | rfl | focus (simp [*]; done) | assumption)) | (with_reducible apply DL.v_fz; rfl) | (with_reducible apply DL.v_own; rfl) | (with_reducible apply DL.v_arg; rfl) | with_reducible exact DL.r_c | with_reducible apply DL.r_andB | with_reducible apply DL.r_bin | with_reducible apply DL.r_un | with_reducible apply DL.r_test | with_reducible apply DL.r_notV | with_reducible apply DL.r_and | with_reducible apply DL.r_or | with_reducible apply DL.r_not | with_reducible apply DL.r_if | with_reducible apply DL.r_chainB | with_reducible exact DL.l_nil | with_reducible apply DL.l_cons | with_reducible apply DL.r_tup | with_reducible apply DL.r_lst | with_reducible apply DL.o_some | with_reducible exact DL.o_none | with_reducible apply DL.r_sl | with_reducible exact DL.a_nil | with_reducible apply DL.a_val | with_reducible apply DL.a_ref | (with_reducible apply DL.small_of; focus (first | omega | (simp <;> omega))) | with_reducible apply DL.r_callR | with_reducible apply DL.r_call | (first | exact e_is_row_ofL _ _ | exact e_is_row_of _ _ | exact e_is_rowL _ | exact e_is_row _ | exact e_is_below _ _ | exact e_is_whole _ | assumption) | (with_reducible apply DL.f_mod; (first | assumption | omega | focus (simp; omega))) | (with_reducible apply DL.f_div; (first | assumption | omega | focus (simp; omega))) | with_reducible apply DL.f_mulI | (with_reducible apply DL.wide_lt; (first | assumption | omega | focus (simp; omega))) | rfl | (focus ((try simp only [List.cons_append, List.nil_append, List.replicate_succ, List.replicate_zero, Nat.reduceSub, List.set_cons_zero, List.set_cons_succ, DL.with_arg, DL.with_own, DL.wipeD, List.map_cons, List.map_nil, DL.toArg, DL.back2, DL.back2a, DL.back, DL.back1]); rfl); done)))
    · focus ((try simp only [List.cons_append, List.nil_append, List.replicate_succ, List.replicate_zero, Nat.reduceSub, List.set_cons_zero, List.set_cons_succ, DL.with_arg, DL.with_own, DL.wipeD, List.map_cons, List.map_nil, DL.toArg, DL.back2, DL.back2a, DL.back, DL.back1]); rfl)
    · rfl
    · apply comp2
      · apply turn_c
        · focus ((try simp only [List.cons_append, List.nil_append, List.replicate_succ, List.replicate_zero, Nat.reduceSub, List.set_cons_zero, List.set_cons_succ, DL.with_arg, DL.with_own, DL.wipeD, List.map_cons, List.map_nil, DL.toArg, DL.back2, DL.back2a, DL.back, DL.back1]); rfl)
        · (repeat' (first | with_reducible apply DL.s_setI | with_reducible apply DL.s_app | with_reducible apply DL.s_ext | (with_reducible apply DL.m_arg; rfl) | (with_reducible apply DL.m_own; rfl) | (with_reducible apply DL.f_set; rfl; focus ((try simp only [List.cons_append, List.nil_append, List.replicate_succ, List.replicate_zero, Nat.reduceSub, List.set_cons_zero, List.set_cons_succ, DL.with_arg, DL.with_own, DL.wipeD, List.map_cons, List.map_nil, DL.toArg, DL.back2, DL.back2a, DL.back, DL.back1]); rfl)) | with_reducible apply DL.f_app | with_reducible apply DL.f_ext | (with_reducible apply DL.set_goal; focus ((try simp only [List.cons_append, List.nil_append, List.replicate_succ, List.replicate_zero, Nat.reduceSub, List.set_cons_zero, List.set_cons_succ, DL.with_arg, DL.with_own, DL.wipeD, List.map_cons, List.map_nil, DL.toArg, DL.back2, DL.back2a, DL.back, DL.back1]); rfl)) | with_reducible apply DL.s_seqG | with_reducible apply DL.step_b | with_reducible apply DL.k_nx | with_reducible exact DL.k_rt | with_reducible exact DL.k_ct | with_reducible exact DL.k_bk | with_reducible apply DL.s_asgG | with_reducible apply DL.s_asg | with_reducible apply DL.s_drop | with_reducible apply DL.s_ret | with_reducible apply DL.s_if | with_reducible exact DL.s_skip | (with_reducible apply DL.f_eq; (first | rfl | assumption); (first | rfl | assumption)) | (with_reducible apply DL.f_ne; (first | rfl | assumption); (first | rfl | assumption)) | with_reducible apply DL.f_addT | (with_reducible apply DL.f_ixT; assumption) | (with_reducible apply DL.f_ixL; assumption) | with_reducible apply DL.f_addL | with_reducible apply DL.s_par | with_reducible apply DL.s_for | with_reducible apply DL.i_it | with_reducible apply DL.i_r1 | with_reducible apply DL.r_lc | with_reducible apply DL.r_lc2 | with_reducible apply DL.i_enumT | with_reducible exact DL.t_yes | with_reducible apply DL.turn_e | with_reducible apply DL.g_tup | with_reducible apply DL.g_lst | with_reducible apply DL.g_cons | with_reducible exact DL.g_nil | with_reducible apply DL.g_n | (with_reducible apply DL.set_fz; rfl; focus ((try simp only [List.cons_append, List.nil_append, List.replicate_succ, List.replicate_zero, Nat.reduceSub, List.set_cons_zero, List.set_cons_succ, DL.with_arg, DL.with_own, DL.wipeD, List.map_cons, List.map_nil, DL.toArg, DL.back2, DL.back2a, DL.back, DL.back1]); rfl)) | (with_reducible apply DL.set_own; rfl; focus ((try simp only [List.cons_append, List.nil_append, List.replicate_succ, List.replicate_zero, Nat.reduceSub, List.set_cons_zero, List.set_cons_succ, DL.with_arg, DL.with_own, DL.wipeD, List.map_cons, List.map_nil, DL.toArg, DL.back2, DL.back2a, DL.back, DL.back1]); rfl)) | (with_reducible apply DL.p_t; (first | rfl | focus (simp [*]; done) | assumption)) | (with_reducible apply DL.p_f; (first | rfl | focus (simp [*]; done) | assumption)) | (with_reducible apply DL.v_fz; rfl) | (with_reducible apply DL.v_own; rfl) | (with_reducible apply DL.v_arg; rfl) | with_reducible exact DL.r_c | with_reducible apply DL.r_andB | with_reducible apply DL.r_bin | with_reducible apply DL.r_un | with_reducible apply DL.r_test | with_reducible apply DL.r_notV | with_reducible apply DL.r_and | with_reducible apply DL.r_or | with_reducible apply DL.r_not | with_reducible apply DL.r_if | with_reducible apply DL.r_chainB | with_reducible exact DL.l_nil | with_reducible apply DL.l_cons | with_reducible apply DL.r_tup | with_reducible apply DL.r_lst | with_reducible apply DL.o_some | with_reducible exact DL.o_none | with_reducible apply DL.r_sl | with_reducible exact DL.a_nil | with_reducible apply DL.a_val | with_reducible apply DL.a_ref | (with_reducible apply DL.small_of; focus (first | omega | (simp <;> omega))) | with_reducible apply DL.r_callR | with_reducible apply DL.r_call | (first | exact e_is_row_ofL _ _ | exact e_is_row_of _ _ | exact e_is_rowL _ | exact e_is_row _ | exact e_is_below _ _ | exact e_is_whole _ | assumption) | (with_reducible apply DL.f_mod; (first | assumption | omega | focus (simp; omega))) | (with_reducible apply DL.f_div; (first | assumption | omega | focus (simp; omega))) | with_reducible apply DL.f_mulI | (with_reducible apply DL.wide_lt; (first | assumption | omega | focus (simp; omega))) | rfl | (focus ((try simp only [List.cons_append, List.nil_append, List.replicate_succ, List.replicate_zero, Nat.reduceSub, List.set_cons_zero, List.set_cons_succ, DL.with_arg, DL.with_own, DL.wipeD, List.map_cons, List.map_nil, DL.toArg, DL.back2, DL.back2a, DL.back, DL.back1]); rfl); done)))
        · apply r_test
          unfold encL
          (repeat' (first | with_reducible apply DL.s_setI | with_reducible apply DL.s_app | with_reducible apply DL.s_ext | (with_reducible apply DL.m_arg; rfl) | (with_reducible apply DL.m_own; rfl) | (with_reducible apply DL.f_set; rfl; focus ((try simp only [List.cons_append, List.nil_append, List.replicate_succ, List.replicate_zero, Nat.reduceSub, List.set_cons_zero, List.set_cons_succ, DL.with_arg, DL.with_own, DL.wipeD, List.map_cons, List.map_nil, DL.toArg, DL.back2, DL.back2a, DL.back, DL.back1]); rfl)) | with_reducible apply DL.f_app | with_reducible apply DL.f_ext | (with_reducible apply DL.set_goal; focus ((try simp only [List.cons_append, List.nil_append, List.replicate_succ, List.replicate_zero, Nat.reduceSub, List.set_cons_zero, List.set_cons_succ, DL.with_arg, DL.with_own, DL.wipeD, List.map_cons, List.map_nil, DL.toArg, DL.back2, DL.back2a, DL.back, DL.back1]); rfl)) | with_reducible apply DL.s_seqG | with_reducible apply DL.step_b | with_reducible apply DL.k_nx | with_reducible exact DL.k_rt | with_reducible exact DL.k_ct | with_reducible exact DL.k_bk | with_reducible apply DL.s_asgG | with_reducible apply DL.s_asg | with_reducible apply DL.s_drop | with_reducible apply DL.s_ret | with_reducible apply DL.s_if | with_reducible exact DL.s_skip | (with_reducible apply DL.f_eq; (first | rfl | assumption); (first | rfl | assumption)) | (with_reducible apply DL.f_ne; (first | rfl | assumption); (first | rfl | assumption)) | with_reducible apply DL.f_addT | (with_reducible apply DL.f_ixT; assumption) | (with_reducible apply DL.f_ixL; assumption) | with_reducible apply DL.f_addL | with_reducible apply DL.s_par | with_reducible apply DL.s_for | with_reducible apply DL.i_it | with_reducible apply DL.i_r1 | with_reducible apply DL.r_lc | with_reducible apply DL.r_lc2 | with_reducible apply DL.i_enumT | with_reducible exact DL.t_yes | with_reducible apply DL.turn_e | with_reducible apply DL.g_tup | with_reducible apply DL.g_lst | with_reducible apply DL.g_cons | with_reducible exact DL.g_nil | with_reducible apply DL.g_n | (with_reducible apply DL.set_fz; rfl; focus ((try simp only [List.cons_append, List.nil_append, List.replicate_succ, List.replicate_zero, Nat.reduceSub, List.set_cons_zero, List.set_cons_succ, DL.with_arg, DL.with_own, DL.wipeD, List.map_cons, List.map_nil, DL.toArg, DL.back2, DL.back2a, DL.back, DL.back1]); rfl)) | (with_reducible apply DL.set_own; rfl; focus ((try simp only [List.cons_append, List.nil_append, List.replicate_succ, List.replicate_zero, Nat.reduceSub, List.set_cons_zero, List.set_cons_succ, DL.with_arg, DL.with_own, DL.wipeD, List.map_cons, List.map_nil, DL.toArg, DL.back2, DL.back2a, DL.back, DL.back1]); rfl)) | (with_reducible apply DL.p_t; (first | rfl | focus (simp [*]; done) | assumption)) | (with_reducible apply DL.p_f; (first | rfl | focus (simp [*]; done) | assumption)) | (with_reducible apply DL.v_fz; rfl) | (with_reducible apply DL.v_own; rfl) | (with_reducible apply DL.v_arg; rfl) | with_reducible exact DL.r_c | with_reducible apply DL.r_andB | with_reducible apply DL.r_bin | with_reducible apply DL.r_un | with_reducible apply DL.r_test | with_reducible apply DL.r_notV | with_reducible apply DL.r_and | with_reducible apply DL.r_or | with_reducible apply DL.r_not | with_reducible apply DL.r_if | with_reducible apply DL.r_chainB | with_reducible exact DL.l_nil | with_reducible apply DL.l_cons | with_reducible apply DL.r_tup | with_reducible apply DL.r_lst | with_reducible apply DL.o_some | with_reducible exact DL.o_none | with_reducible apply DL.r_sl | with_reducible exact DL.a_nil | with_reducible apply DL.a_val | with_reducible apply DL.a_ref | (with_reducible apply DL.small_of; focus (first | omega | (simp <;> omega))) | with_reducible apply DL.r_callR | with_reducible apply DL.r_call | (first | exact e_is_row_ofL _ _ | exact e_is_row_of _ _ | exact e_is_rowL _ | exact e_is_row _ | exact e_is_below _ _ | exact e_is_whole _ | assumption) | (with_reducible apply DL.f_mod; (first | assumption | omega | focus (simp; omega))) | (with_reducible apply DL.f_div; (first | assumption | omega | focus (simp; omega))) | with_reducible apply DL.f_mulI | (with_reducible apply DL.wide_lt; (first | assumption | omega | focus (simp; omega))) | rfl | (focus ((try simp only [List.cons_append, List.nil_append, List.replicate_succ, List.replicate_zero, Nat.reduceSub, List.set_cons_zero, List.set_cons_succ, DL.with_arg, DL.with_own, DL.wipeD, List.map_cons, List.map_nil, DL.toArg, DL.back2, DL.back2a, DL.back, DL.back1]); rfl); done)))
        · (repeat' (first | with_reducible apply DL.s_setI | with_reducible apply DL.s_app | with_reducible apply DL.s_ext | (with_reducible apply DL.m_arg; rfl) | (with_reducible apply DL.m_own; rfl) | (with_reducible apply DL.f_set; rfl; focus ((try simp only [List.cons_append, List.nil_append, List.replicate_succ, List.replicate_zero, Nat.reduceSub, List.set_cons_zero, List.set_cons_succ, DL.with_arg, DL.with_own, DL.wipeD, List.map_cons, List.map_nil, DL.toArg, DL.back2, DL.back2a, DL.back, DL.back1]); rfl)) | with_reducible apply DL.f_app | with_reducible apply DL.f_ext | (with_reducible apply DL.set_goal; focus ((try simp only [List.cons_append, List.nil_append, List.replicate_succ, List.replicate_zero, Nat.reduceSub, List.set_cons_zero, List.set_cons_succ, DL.with_arg, DL.with_own, DL.wipeD, List.map_cons, List.map_nil, DL.toArg, DL.back2, DL.back2a, DL.back, DL.back1]); rfl)) | with_reducible apply DL.s_seqG | with_reducible apply DL.step_b | with_reducible apply DL.k_nx | with_reducible exact DL.k_rt | with_reducible exact DL.k_ct | with_reducible exact DL.k_bk | with_reducible apply DL.s_asgG | with_reducible apply DL.s_asg | with_reducible apply DL.s_drop | with_reducible apply DL.s_ret | with_reducible apply DL.s_if | with_reducible exact DL.s_skip | (with_reducible apply DL.f_eq; (first | rfl | assumption); (first | rfl | assumption)) | (with_reducible apply DL.f_ne; (first | rfl | assumption); (first | rfl | assumption)) | with_reducible apply DL.f_addT | (with_reducible apply DL.f_ixT; assumption) | (with_reducible apply DL.f_ixL; assumption) | with_reducible apply DL.f_addL | with_reducible apply DL.s_par | with_reducible apply DL.s_for | with_reducible apply DL.i_it | with_reducible apply DL.i_r1 | with_reducible apply DL.r_lc | with_reducible apply DL.r_lc2 | with_reducible apply DL.i_enumT | with_reducible exact DL.t_yes | with_reducible apply DL.turn_e | with_reducible apply DL.g_tup | with_reducible apply DL.g_lst | with_reducible apply DL.g_cons | with_reducible exact DL.g_nil | with_reducible apply DL.g_n | (with_reducible apply DL.set_fz; rfl; focus ((try simp only [List.cons_append, List.nil_append, List.replicate_succ, List.replicate_zero, Nat.reduceSub, List.set_cons_zero, List.set_cons_succ, DL.with_arg, DL.with_own, DL.wipeD, List.map_cons, List.map_nil, DL.toArg, DL.back2, DL.back2a, DL.back, DL.back1]); rfl)) | (with_reducible apply DL.set_own; rfl; focus ((try simp only [List.cons_append, List.nil_append, List.replicate_succ, List.replicate_zero, Nat.reduceSub, List.set_cons_zero, List.set_cons_succ, DL.with_arg, DL.with_own, DL.wipeD, List.map_cons, List.map_nil, DL.toArg, DL.back2, DL.back2a, DL.back, DL.back1]); rfl)) | (with_reducible apply DL.p_t; (first | rfl | focus (simp [*]; done) | assumption)) | (with_reducible apply DL.p_f; (first | rfl | focus (simp [*]; done) | assumption)) | (with_reducible apply DL.v_fz; rfl) | (with_reducible apply DL.v_own; rfl) | (with_reducible apply DL.v_arg; rfl) | with_reducible exact DL.r_c | with_reducible apply DL.r_andB | with_reducible apply DL.r_bin | with_reducible apply DL.r_un | with_reducible apply DL.r_test | with_reducible apply DL.r_notV | with_reducible apply DL.r_and | with_reducible apply DL.r_or | with_reducible apply DL.r_not | with_reducible apply DL.r_if | with_reducible apply DL.r_chainB | with_reducible exact DL.l_nil | with_reducible apply DL.l_cons | with_reducible apply DL.r_tup | with_reducible apply DL.r_lst | with_reducible apply DL.o_some | with_reducible exact DL.o_none | with_reducible apply DL.r_sl | with_reducible exact DL.a_nil | with_reducible apply DL.a_val | with_reducible apply DL.a_ref | (with_reducible apply DL.small_of; focus (first | omega | (simp <;> omega))) | with_reducible apply DL.r_callR | with_reducible apply DL.r_call | (first | exact e_is_row_ofL _ _ | exact e_is_row_of _ _ | exact e_is_rowL _ | exact e_is_row _ | exact e_is_below _ _ | exact e_is_whole _ | assumption) | (with_reducible apply DL.f_mod; (first | assumption | omega | focus (simp; omega))) | (with_reducible apply DL.f_div; (first | assumption | omega | focus (simp; omega))) | with_reducible apply DL.f_mulI | (with_reducible apply DL.wide_lt; (first | assumption | omega | focus (simp; omega))) | rfl | (focus ((try simp only [List.cons_append, List.nil_append, List.replicate_succ, List.replicate_zero, Nat.reduceSub, List.set_cons_zero, List.set_cons_succ, DL.with_arg, DL.with_own, DL.wipeD, List.map_cons, List.map_nil, DL.toArg, DL.back2, DL.back2a, DL.back, DL.back1]); rfl); done)))
        · (repeat' (first | with_reducible apply DL.s_setI | with_reducible apply DL.s_app | with_reducible apply DL.s_ext | (with_reducible apply DL.m_arg; rfl) | (with_reducible apply DL.m_own; rfl) | (with_reducible apply DL.f_set; rfl; focus ((try simp only [List.cons_append, List.nil_append, List.replicate_succ, List.replicate_zero, Nat.reduceSub, List.set_cons_zero, List.set_cons_succ, DL.with_arg, DL.with_own, DL.wipeD, List.map_cons, List.map_nil, DL.toArg, DL.back2, DL.back2a, DL.back, DL.back1]); rfl)) | with_reducible apply DL.f_app | with_reducible apply DL.f_ext | (with_reducible apply DL.set_goal; focus ((try simp only [List.cons_append, List.nil_append, List.replicate_succ, List.replicate_zero, Nat.reduceSub, List.set_cons_zero, List.set_cons_succ, DL.with_arg, DL.with_own, DL.wipeD, List.map_cons, List.map_nil, DL.toArg, DL.back2, DL.back2a, DL.back, DL.back1]); rfl)) | with_reducible apply DL.s_seqG | with_reducible apply DL.step_b | with_reducible apply DL.k_nx | with_reducible exact DL.k_rt | with_reducible exact DL.k_ct | with_reducible exact DL.k_bk | with_reducible apply DL.s_asgG | with_reducible apply DL.s_asg | with_reducible apply DL.s_drop | with_reducible apply DL.s_ret | with_reducible apply DL.s_if | with_reducible exact DL.s_skip | (with_reducible apply DL.f_eq; (first | rfl | assumption); (first | rfl | assumption)) | (with_reducible apply DL.f_ne; (first | rfl | assumption); (first | rfl | assumption)) | with_reducible apply DL.f_addT | (with_reducible apply DL.f_ixT; assumption) | (with_reducible apply DL.f_ixL; assumption) | with_reducible apply DL.f_addL | with_reducible apply DL.s_par | with_reducible apply DL.s_for | with_reducible apply DL.i_it | with_reducible apply DL.i_r1 | with_reducible apply DL.r_lc | with_reducible apply DL.r_lc2 | with_reducible apply DL.i_enumT | with_reducible exact DL.t_yes | with_reducible apply DL.turn_e | with_reducible apply DL.g_tup | with_reducible apply DL.g_lst | with_reducible apply DL.g_cons | with_reducible exact DL.g_nil | with_reducible apply DL.g_n | (with_reducible apply DL.set_fz; rfl; focus ((try simp only [List.cons_append, List.nil_append, List.replicate_succ, List.replicate_zero, Nat.reduceSub, List.set_cons_zero, List.set_cons_succ, DL.with_arg, DL.with_own, DL.wipeD, List.map_cons, List.map_nil, DL.toArg, DL.back2, DL.back2a, DL.back, DL.back1]); rfl)) | (with_reducible apply DL.set_own; rfl; focus ((try simp only [List.cons_append, List.nil_append, List.replicate_succ, List.replicate_zero, Nat.reduceSub, List.set_cons_zero, List.set_cons_succ, DL.with_arg, DL.with_own, DL.wipeD, List.map_cons, List.map_nil, DL.toArg, DL.back2, DL.back2a, DL.back, DL.back1]); rfl)) | (with_reducible apply DL.p_t; (first | rfl | focus (simp [*]; done) | assumption)) | (with_reducible apply DL.p_f; (first | rfl | focus (simp [*]; done) | assumption)) | (with_reducible apply DL.v_fz; rfl) | (with_reducible apply DL.v_own; rfl) | (with_reducible apply DL.v_arg; rfl) | with_reducible exact DL.r_c | with_reducible apply DL.r_andB | with_reducible apply DL.r_bin | with_reducible apply DL.r_un | with_reducible apply DL.r_test | with_reducible apply DL.r_notV | with_reducible apply DL.r_and | with_reducible apply DL.r_or | with_reducible apply DL.r_not | with_reducible apply DL.r_if | with_reducible apply DL.r_chainB | with_reducible exact DL.l_nil | with_reducible apply DL.l_cons | with_reducible apply DL.r_tup | with_reducible apply DL.r_lst | with_reducible apply DL.o_some | with_reducible exact DL.o_none | with_reducible apply DL.r_sl | with_reducible exact DL.a_nil | with_reducible apply DL.a_val | with_reducible apply DL.a_ref | (with_reducible apply DL.small_of; focus (first | omega | (simp <;> omega))) | with_reducible apply DL.r_callR | with_reducible apply DL.r_call | (first | exact e_is_row_ofL _ _ | exact e_is_row_of _ _ | exact e_is_rowL _ | exact e_is_row _ | exact e_is_below _ _ | exact e_is_whole _ | assumption) | (with_reducible apply DL.f_mod; (first | assumption | omega | focus (simp; omega))) | (with_reducible apply DL.f_div; (first | assumption | omega | focus (simp; omega))) | with_reducible apply DL.f_mulI | (with_reducible apply DL.wide_lt; (first | assumption | omega | focus (simp; omega))) | rfl | (focus ((try simp only [List.cons_append, List.nil_append, List.replicate_succ, List.replicate_zero, Nat.reduceSub, List.set_cons_zero, List.set_cons_succ, DL.with_arg, DL.with_own, DL.wipeD, List.map_cons, List.map_nil, DL.toArg, DL.back2, DL.back2a, DL.back, DL.back1]); rfl); done)))
        · rfl
        · rfl
      · apply turn_c
        · focus ((try simp only [List.cons_append, List.nil_append, List.replicate_succ, List.replicate_zero, Nat.reduceSub, List.set_cons_zero, List.set_cons_succ, DL.with_arg, DL.with_own, DL.wipeD, List.map_cons, List.map_nil, DL.toArg, DL.back2, DL.back2a, DL.back, DL.back1]); rfl)
        · (repeat' (first | with_reducible apply DL.s_setI | with_reducible apply DL.s_app | with_reducible apply DL.s_ext | (with_reducible apply DL.m_arg; rfl) | (with_reducible apply DL.m_own; rfl) | (with_reducible apply DL.f_set; rfl; focus ((try simp only [List.cons_append, List.nil_append, List.replicate_succ, List.replicate_zero, Nat.reduceSub, List.set_cons_zero, List.set_cons_succ, DL.with_arg, DL.with_own, DL.wipeD, List.map_cons, List.map_nil, DL.toArg, DL.back2, DL.back2a, DL.back, DL.back1]); rfl)) | with_reducible apply DL.f_app | with_reducible apply DL.f_ext | (with_reducible apply DL.set_goal; focus ((try simp only [List.cons_append, List.nil_append, List.replicate_succ, List.replicate_zero, Nat.reduceSub, List.set_cons_zero, List.set_cons_succ, DL.with_arg, DL.with_own, DL.wipeD, List.map_cons, List.map_nil, DL.toArg, DL.back2, DL.back2a, DL.back, DL.back1]); rfl)) | with_reducible apply DL.s_seqG | with_reducible apply DL.step_b | with_reducible apply DL.k_nx | with_reducible exact DL.k_rt | with_reducible exact DL.k_ct | with_reducible exact DL.k_bk | with_reducible apply DL.s_asgG | with_reducible apply DL.s_asg | with_reducible apply DL.s_drop | with_reducible apply DL.s_ret | with_reducible apply DL.s_if | with_reducible exact DL.s_skip | (with_reducible apply DL.f_eq; (first | rfl | assumption); (first | rfl | assumption)) | (with_reducible apply DL.f_ne; (first | rfl | assumption); (first | rfl | assumption)) | with_reducible apply DL.f_addT | (with_reducible apply DL.f_ixT; assumption) | (with_reducible apply DL.f_ixL; assumption) | with_reducible apply DL.f_addL | with_reducible apply DL.s_par | with_reducible apply DL.s_for | with_reducible apply DL.i_it | with_reducible apply DL.i_r1 | with_reducible apply DL.r_lc | with_reducible apply DL.r_lc2 | with_reducible apply DL.i_enumT | with_reducible exact DL.t_yes | with_reducible apply DL.turn_e | with_reducible apply DL.g_tup | with_reducible apply DL.g_lst | with_reducible apply DL.g_cons | with_reducible exact DL.g_nil | with_reducible apply DL.g_n | (with_reducible apply DL.set_fz; rfl; focus ((try simp only [List.cons_append, List.nil_append, List.replicate_succ, List.replicate_zero, Nat.reduceSub, List.set_cons_zero, List.set_cons_succ, DL.with_arg, DL.with_own, DL.wipeD, List.map_cons, List.map_nil, DL.toArg, DL.back2, DL.back2a, DL.back, DL.back1]); rfl)) | (with_reducible apply DL.set_own; rfl; focus ((try simp only [List.cons_append, List.nil_append, List.replicate_succ, List.replicate_zero, Nat.reduceSub, List.set_cons_zero, List.set_cons_succ, DL.with_arg, DL.with_own, DL.wipeD, List.map_cons, List.map_nil, DL.toArg, DL.back2, DL.back2a, DL.back, DL.back1]); rfl)) | (with_reducible apply DL.p_t; (first | rfl | focus (simp [*]; done) | assumption)) | (with_reducible apply DL.p_f; (first | rfl | focus (simp [*]; done) | assumption)) | (with_reducible apply DL.v_fz; rfl) | (with_reducible apply DL.v_own; rfl) | (with_reducible apply DL.v_arg; rfl) | with_reducible exact DL.r_c | with_reducible apply DL.r_andB | with_reducible apply DL.r_bin | with_reducible apply DL.r_un | with_reducible apply DL.r_test | with_reducible apply DL.r_notV | with_reducible apply DL.r_and | with_reducible apply DL.r_or | with_reducible apply DL.r_not | with_reducible apply DL.r_if | with_reducible apply DL.r_chainB | with_reducible exact DL.l_nil | with_reducible apply DL.l_cons | with_reducible apply DL.r_tup | with_reducible apply DL.r_lst | with_reducible apply DL.o_some | with_reducible exact DL.o_none | with_reducible apply DL.r_sl | with_reducible exact DL.a_nil | with_reducible apply DL.a_val | with_reducible apply DL.a_ref | (with_reducible apply DL.small_of; focus (first | omega | (simp <;> omega))) | with_reducible apply DL.r_callR | with_reducible apply DL.r_call | (first | exact e_is_row_ofL _ _ | exact e_is_row_of _ _ | exact e_is_rowL _ | exact e_is_row _ | exact e_is_below _ _ | exact e_is_whole _ | assumption) | (with_reducible apply DL.f_mod; (first | assumption | omega | focus (simp; omega))) | (with_reducible apply DL.f_div; (first | assumption | omega | focus (simp; omega))) | with_reducible apply DL.f_mulI | (with_reducible apply DL.wide_lt; (first | assumption | omega | focus (simp; omega))) | rfl | (focus ((try simp only [List.cons_append, List.nil_append, List.replicate_succ, List.replicate_zero, Nat.reduceSub, List.set_cons_zero, List.set_cons_succ, DL.with_arg, DL.with_own, DL.wipeD, List.map_cons, List.map_nil, DL.toArg, DL.back2, DL.back2a, DL.back, DL.back1]); rfl); done)))
        · apply r_test
          unfold encL
          (repeat' (first | with_reducible apply DL.s_setI | with_reducible apply DL.s_app | with_reducible apply DL.s_ext | (with_reducible apply DL.m_arg; rfl) | (with_reducible apply DL.m_own; rfl) | (with_reducible apply DL.f_set; rfl; focus ((try simp only [List.cons_append, List.nil_append, List.replicate_succ, List.replicate_zero, Nat.reduceSub, List.set_cons_zero, List.set_cons_succ, DL.with_arg, DL.with_own, DL.wipeD, List.map_cons, List.map_nil, DL.toArg, DL.back2, DL.back2a, DL.back, DL.back1]); rfl)) | with_reducible apply DL.f_app | with_reducible apply DL.f_ext | (with_reducible apply DL.set_goal; focus ((try simp only [List.cons_append, List.nil_append, List.replicate_succ, List.replicate_zero, Nat.reduceSub, List.set_cons_zero, List.set_cons_succ, DL.with_arg, DL.with_own, DL.wipeD, List.map_cons, List.map_nil, DL.toArg, DL.back2, DL.back2a, DL.back, DL.back1]); rfl)) | with_reducible apply DL.s_seqG | with_reducible apply DL.step_b | with_reducible apply DL.k_nx | with_reducible exact DL.k_rt | with_reducible exact DL.k_ct | with_reducible exact DL.k_bk | with_reducible apply DL.s_asgG | with_reducible apply DL.s_asg | with_reducible apply DL.s_drop | with_reducible apply DL.s_ret | with_reducible apply DL.s_if | with_reducible exact DL.s_skip | (with_reducible apply DL.f_eq; (first | rfl | assumption); (first | rfl | assumption)) | (with_reducible apply DL.f_ne; (first | rfl | assumption); (first | rfl | assumption)) | with_reducible apply DL.f_addT | (with_reducible apply DL.f_ixT; assumption) | (with_reducible apply DL.f_ixL; assumption) | with_reducible apply DL.f_addL | with_reducible apply DL.s_par | with_reducible apply DL.s_for | with_reducible apply DL.i_it | with_reducible apply DL.i_r1 | with_reducible apply DL.r_lc | with_reducible apply DL.r_lc2 | with_reducible apply DL.i_enumT | with_reducible exact DL.t_yes | with_reducible apply DL.turn_e | with_reducible apply DL.g_tup | with_reducible apply DL.g_lst | with_reducible apply DL.g_cons | with_reducible exact DL.g_nil | with_reducible apply DL.g_n | (with_reducible apply DL.set_fz; rfl; focus ((try simp only [List.cons_append, List.nil_append, List.replicate_succ, List.replicate_zero, Nat.reduceSub, List.set_cons_zero, List.set_cons_succ, DL.with_arg, DL.with_own, DL.wipeD, List.map_cons, List.map_nil, DL.toArg, DL.back2, DL.back2a, DL.back, DL.back1]); rfl)) | (with_reducible apply DL.set_own; rfl; focus ((try simp only [List.cons_append, List.nil_append, List.replicate_succ, List.replicate_zero, Nat.reduceSub, List.set_cons_zero, List.set_cons_succ, DL.with_arg, DL.with_own, DL.wipeD, List.map_cons, List.map_nil, DL.toArg, DL.back2, DL.back2a, DL.back, DL.back1]); rfl)) | (with_reducible apply DL.p_t; (first | rfl | focus (simp [*]; done) | assumption)) | (with_reducible apply DL.p_f; (first | rfl | focus (simp [*]; done) | assumption)) | (with_reducible apply DL.v_fz; rfl) | (with_reducible apply DL.v_own; rfl) | (with_reducible apply DL.v_arg; rfl) | with_reducible exact DL.r_c | with_reducible apply DL.r_andB | with_reducible apply DL.r_bin | with_reducible apply DL.r_un | with_reducible apply DL.r_test | with_reducible apply DL.r_notV | with_reducible apply DL.r_and | with_reducible apply DL.r_or | with_reducible apply DL.r_not | with_reducible apply DL.r_if | with_reducible apply DL.r_chainB | with_reducible exact DL.l_nil | with_reducible apply DL.l_cons | with_reducible apply DL.r_tup | with_reducible apply DL.r_lst | with_reducible apply DL.o_some | with_reducible exact DL.o_none | with_reducible apply DL.r_sl | with_reducible exact DL.a_nil | with_reducible apply DL.a_val | with_reducible apply DL.a_ref | (with_reducible apply DL.small_of; focus (first | omega | (simp <;> omega))) | with_reducible apply DL.r_callR | with_reducible apply DL.r_call | (first | exact e_is_row_ofL _ _ | exact e_is_row_of _ _ | exact e_is_rowL _ | exact e_is_row _ | exact e_is_below _ _ | exact e_is_whole _ | assumption) | (with_reducible apply DL.f_mod; (first | assumption | omega | focus (simp; omega))) | (with_reducible apply DL.f_div; (first | assumption | omega | focus (simp; omega))) | with_reducible apply DL.f_mulI | (with_reducible apply DL.wide_lt; (first | assumption | omega | focus (simp; omega))) | rfl | (focus ((try simp only [List.cons_append, List.nil_append, List.replicate_succ, List.replicate_zero, Nat.reduceSub, List.set_cons_zero, List.set_cons_succ, DL.with_arg, DL.with_own, DL.wipeD, List.map_cons, List.map_nil, DL.toArg, DL.back2, DL.back2a, DL.back, DL.back1]); rfl); done)))
        · (repeat' (first | with_reducible apply DL.s_setI | with_reducible apply DL.s_app | with_reducible apply DL.s_ext | (with_reducible apply DL.m_arg; rfl) | (with_reducible apply DL.m_own; rfl) | (with_reducible apply DL.f_set; rfl; focus ((try simp only [List.cons_append, List.nil_append, List.replicate_succ, List.replicate_zero, Nat.reduceSub, List.set_cons_zero, List.set_cons_succ, DL.with_arg, DL.with_own, DL.wipeD, List.map_cons, List.map_nil, DL.toArg, DL.back2, DL.back2a, DL.back, DL.back1]); rfl)) | with_reducible apply DL.f_app | with_reducible apply DL.f_ext | (with_reducible apply DL.set_goal; focus ((try simp only [List.cons_append, List.nil_append, List.replicate_succ, List.replicate_zero, Nat.reduceSub, List.set_cons_zero, List.set_cons_succ, DL.with_arg, DL.with_own, DL.wipeD, List.map_cons, List.map_nil, DL.toArg, DL.back2, DL.back2a, DL.back, DL.back1]); rfl)) | with_reducible apply DL.s_seqG | with_reducible apply DL.step_b | with_reducible apply DL.k_nx | with_reducible exact DL.k_rt | with_reducible exact DL.k_ct | with_reducible exact DL.k_bk | with_reducible apply DL.s_asgG | with_reducible apply DL.s_asg | with_reducible apply DL.s_drop | with_reducible apply DL.s_ret | with_reducible apply DL.s_if | with_reducible exact DL.s_skip | (with_reducible apply DL.f_eq; (first | rfl | assumption); (first | rfl | assumption)) | (with_reducible apply DL.f_ne; (first | rfl | assumption); (first | rfl | assumption)) | with_reducible apply DL.f_addT | (with_reducible apply DL.f_ixT; assumption) | (with_reducible apply DL.f_ixL; assumption) | with_reducible apply DL.f_addL | with_reducible apply DL.s_par | with_reducible apply DL.s_for | with_reducible apply DL.i_it | with_reducible apply DL.i_r1 | with_reducible apply DL.r_lc | with_reducible apply DL.r_lc2 | with_reducible apply DL.i_enumT | with_reducible exact DL.t_yes | with_reducible apply DL.turn_e | with_reducible apply DL.g_tup | with_reducible apply DL.g_lst | with_reducible apply DL.g_cons | with_reducible exact DL.g_nil | with_reducible apply DL.g_n | (with_reducible apply DL.set_fz; rfl; focus ((try simp only [List.cons_append, List.nil_append, List.replicate_succ, List.replicate_zero, Nat.reduceSub, List.set_cons_zero, List.set_cons_succ, DL.with_arg, DL.with_own, DL.wipeD, List.map_cons, List.map_nil, DL.toArg, DL.back2, DL.back2a, DL.back, DL.back1]); rfl)) | (with_reducible apply DL.set_own; rfl; focus ((try simp only [List.cons_append, List.nil_append, List.replicate_succ, List.replicate_zero, Nat.reduceSub, List.set_cons_zero, List.set_cons_succ, DL.with_arg, DL.with_own, DL.wipeD, List.map_cons, List.map_nil, DL.toArg, DL.back2, DL.back2a, DL.back, DL.back1]); rfl)) | (with_reducible apply DL.p_t; (first | rfl | focus (simp [*]; done) | assumption)) | (with_reducible apply DL.p_f; (first | rfl | focus (simp [*]; done) | assumption)) | (with_reducible apply DL.v_fz; rfl) | (with_reducible apply DL.v_own; rfl) | (with_reducible apply DL.v_arg; rfl) | with_reducible exact DL.r_c | with_reducible apply DL.r_andB | with_reducible apply DL.r_bin | with_reducible apply DL.r_un | with_reducible apply DL.r_test | with_reducible apply DL.r_notV | with_reducible apply DL.r_and | with_reducible apply DL.r_or | with_reducible apply DL.r_not | with_reducible apply DL.r_if | with_reducible apply DL.r_chainB | with_reducible exact DL.l_nil | with_reducible apply DL.l_cons | with_reducible apply DL.r_tup | with_reducible apply DL.r_lst | with_reducible apply DL.o_some | with_reducible exact DL.o_none | with_reducible apply DL.r_sl | with_reducible exact DL.a_nil | with_reducible apply DL.a_val | with_reducible apply DL.a_ref | (with_reducible apply DL.small_of; focus (first | omega | (simp <;> omega))) | with_reducible apply DL.r_callR | with_reducible apply DL.r_call | (first | exact e_is_row_ofL _ _ | exact e_is_row_of _ _ | exact e_is_rowL _ | exact e_is_row _ | exact e_is_below _ _ | exact e_is_whole _ | assumption) | (with_reducible apply DL.f_mod; (first | assumption | omega | focus (simp; omega))) | (with_reducible apply DL.f_div; (first | assumption | omega | focus (simp; omega))) | with_reducible apply DL.f_mulI | (with_reducible apply DL.wide_lt; (first | assumption | omega | focus (simp; omega))) | rfl | (focus ((try simp only [List.cons_append, List.nil_append, List.replicate_succ, List.replicate_zero, Nat.reduceSub, List.set_cons_zero, List.set_cons_succ, DL.with_arg, DL.with_own, DL.wipeD, List.map_cons, List.map_nil, DL.toArg, DL.back2, DL.back2a, DL.back, DL.back1]); rfl); done)))
        · (repeat' (first | with_reducible apply DL.s_setI | with_reducible apply DL.s_app | with_reducible apply DL.s_ext | (with_reducible apply DL.m_arg; rfl) | (with_reducible apply DL.m_own; rfl) | (with_reducible apply DL.f_set; rfl; focus ((try simp only [List.cons_append, List.nil_append, List.replicate_succ, List.replicate_zero, Nat.reduceSub, List.set_cons_zero, List.set_cons_succ, DL.with_arg, DL.with_own, DL.wipeD, List.map_cons, List.map_nil, DL.toArg, DL.back2, DL.back2a, DL.back, DL.back1]); rfl)) | with_reducible apply DL.f_app | with_reducible apply DL.f_ext | (with_reducible apply DL.set_goal; focus ((try simp only [List.cons_append, List.nil_append, List.replicate_succ, List.replicate_zero, Nat.reduceSub, List.set_cons_zero, List.set_cons_succ, DL.with_arg, DL.with_own, DL.wipeD, List.map_cons, List.map_nil, DL.toArg, DL.back2, DL.back2a, DL.back, DL.back1]); rfl)) | with_reducible apply DL.s_seqG | with_reducible apply DL.step_b | with_reducible apply DL.k_nx | with_reducible exact DL.k_rt | with_reducible exact DL.k_ct | with_reducible exact DL.k_bk | with_reducible apply DL.s_asgG | with_reducible apply DL.s_asg | with_reducible apply DL.s_drop | with_reducible apply DL.s_ret | with_reducible apply DL.s_if | with_reducible exact DL.s_skip | (with_reducible apply DL.f_eq; (first | rfl | assumption); (first | rfl | assumption)) | (with_reducible apply DL.f_ne; (first | rfl | assumption); (first | rfl | assumption)) | with_reducible apply DL.f_addT | (with_reducible apply DL.f_ixT; assumption) | (with_reducible apply DL.f_ixL; assumption) | with_reducible apply DL.f_addL | with_reducible apply DL.s_par | with_reducible apply DL.s_for | with_reducible apply DL.i_it | with_reducible apply DL.i_r1 | with_reducible apply DL.r_lc | with_reducible apply DL.r_lc2 | with_reducible apply DL.i_enumT | with_reducible exact DL.t_yes | with_reducible apply DL.turn_e | with_reducible apply DL.g_tup | with_reducible apply DL.g_lst | with_reducible apply DL.g_cons | with_reducible exact DL.g_nil | with_reducible apply DL.g_n | (with_reducible apply DL.set_fz; rfl; focus ((try simp only [List.cons_append, List.nil_append, List.replicate_succ, List.replicate_zero, Nat.reduceSub, List.set_cons_zero, List.set_cons_succ, DL.with_arg, DL.with_own, DL.wipeD, List.map_cons, List.map_nil, DL.toArg, DL.back2, DL.back2a, DL.back, DL.back1]); rfl)) | (with_reducible apply DL.set_own; rfl; focus ((try simp only [List.cons_append, List.nil_append, List.replicate_succ, List.replicate_zero, Nat.reduceSub, List.set_cons_zero, List.set_cons_succ, DL.with_arg, DL.with_own, DL.wipeD, List.map_cons, List.map_nil, DL.toArg, DL.back2, DL.back2a, DL.back, DL.back1]); rfl)) | (with_reducible apply DL.p_t; (first | rfl | focus (simp [*]; done) | assumption)) | (with_reducible apply DL.p_f; (first | rfl | focus (simp [*]; done) | assumption)) | (with_reducible apply DL.v_fz; rfl) | (with_reducible apply DL.v_own; rfl) | (with_reducible apply DL.v_arg; rfl) | with_reducible exact DL.r_c | with_reducible apply DL.r_andB | with_reducible apply DL.r_bin | with_reducible apply DL.r_un | with_reducible apply DL.r_test | with_reducible apply DL.r_notV | with_reducible apply DL.r_and | with_reducible apply DL.r_or | with_reducible apply DL.r_not | with_reducible apply DL.r_if | with_reducible apply DL.r_chainB | with_reducible exact DL.l_nil | with_reducible apply DL.l_cons | with_reducible apply DL.r_tup | with_reducible apply DL.r_lst | with_reducible apply DL.o_some | with_reducible exact DL.o_none | with_reducible apply DL.r_sl | with_reducible exact DL.a_nil | with_reducible apply DL.a_val | with_reducible apply DL.a_ref | (with_reducible apply DL.small_of; focus (first | omega | (simp <;> omega))) | with_reducible apply DL.r_callR | with_reducible apply DL.r_call | (first | exact e_is_row_ofL _ _ | exact e_is_row_of _ _ | exact e_is_rowL _ | exact e_is_row _ | exact e_is_below _ _ | exact e_is_whole _ | assumption) | (with_reducible apply DL.f_mod; (first | assumption | omega | focus (simp; omega))) | (with_reducible apply DL.f_div; (first | assumption | omega | focus (simp; omega))) | with_reducible apply DL.f_mulI | (with_reducible apply DL.wide_lt; (first | assumption | omega | focus (simp; omega))) | rfl | (focus ((try simp only [List.cons_append, List.nil_append, List.replicate_succ, List.replicate_zero, Nat.reduceSub, List.set_cons_zero, List.set_cons_succ, DL.with_arg, DL.with_own, DL.wipeD, List.map_cons, List.map_nil, DL.toArg, DL.back2, DL.back2a, DL.back, DL.back1]); rfl); done)))
        · rfl
        · rfl
      · have e1 : (PyData.int l.1).eqv (PyData.int pl) = decide (l.1 = pl) := rfl
        have e2 : (PyData.int l.2.1).eqv (PyData.int pl) = decide (l.2.1 = pl) := rfl
        rw [e1, e2]
        unfold endAt encE
        by_cases h1 : l.1 = pl <;> by_cases h2 : l.2.1 = pl <;> simp [h1, h2]
    · rfl
  have hs : small ((endsOf ls pl).map encE).length = true := small_of (by have := endsOf_len ls pl; rw [List.length_map]; omega)
  have fl : ((List.range ls.length).zip ls).flatMap (fun q => (endAt pl q.1 q.2).map encE) = (endsOf ls pl).map encE := by
    unfold endsOf
    rw [List.map_flatMap]
  unfold d_ends_of
  apply run_o rfl
  · focus ((try simp only [List.cons_append, List.nil_append, List.replicate_succ, List.replicate_zero, Nat.reduceSub, List.set_cons_zero, List.set_cons_succ, DL.with_arg, DL.with_own, DL.wipeD, List.map_cons, List.map_nil, DL.toArg, DL.back2, DL.back2a, DL.back, DL.back1]); rfl)
  · unfold sd_ends_of
    apply s_ret
    apply r_lc2
    · (repeat' (first | with_reducible apply DL.s_setI | with_reducible apply DL.s_app | with_reducible apply DL.s_ext | (with_reducible apply DL.m_arg; rfl) | (with_reducible apply DL.m_own; rfl) | (with_reducible apply DL.f_set; rfl; focus ((try simp only [List.cons_append, List.nil_append, List.replicate_succ, List.replicate_zero, Nat.reduceSub, List.set_cons_zero, List.set_cons_succ, DL.with_arg, DL.with_own, DL.wipeD, List.map_cons, List.map_nil, DL.toArg, DL.back2, DL.back2a, DL.back, DL.back1]); rfl)) | with_reducible apply DL.f_app | with_reducible apply DL.f_ext | (with_reducible apply DL.set_goal; focus ((try simp only [List.cons_append, List.nil_append, List.replicate_succ, List.replicate_zero, Nat.reduceSub, List.set_cons_zero, List.set_cons_succ, DL.with_arg, DL.with_own, DL.wipeD, List.map_cons, List.map_nil, DL.toArg, DL.back2, DL.back2a, DL.back, DL.back1]); rfl)) | with_reducible apply DL.s_seqG | with_reducible apply DL.step_b | with_reducible apply DL.k_nx | with_reducible exact DL.k_rt | with_reducible exact DL.k_ct | with_reducible exact DL.k_bk | with_reducible apply DL.s_asgG | with_reducible apply DL.s_asg | with_reducible apply DL.s_drop | with_reducible apply DL.s_ret | with_reducible apply DL.s_if | with_reducible exact DL.s_skip | (with_reducible apply DL.f_eq; (first | rfl | assumption); (first | rfl | assumption)) | (with_reducible apply DL.f_ne; (first | rfl | assumption); (first | rfl | assumption)) | with_reducible apply DL.f_addT | (with_reducible apply DL.f_ixT; assumption) | (with_reducible apply DL.f_ixL; assumption) | with_reducible apply DL.f_addL | with_reducible apply DL.s_par | with_reducible apply DL.s_for | with_reducible apply DL.i_it | with_reducible apply DL.i_r1 | with_reducible apply DL.r_lc | with_reducible apply DL.r_lc2 | with_reducible apply DL.i_enumT | with_reducible exact DL.t_yes | with_reducible apply DL.turn_e | with_reducible apply DL.g_tup | with_reducible apply DL.g_lst | with_reducible apply DL.g_cons | with_reducible exact DL.g_nil | with_reducible apply DL.g_n | (with_reducible apply DL.set_fz; rfl; focus ((try simp only [List.cons_append, List.nil_append, List.replicate_succ, List.replicate_zero, Nat.reduceSub, List.set_cons_zero, List.set_cons_succ, DL.with_arg, DL.with_own, DL.wipeD, List.map_cons, List.map_nil, DL.toArg, DL.back2, DL.back2a, DL.back, DL.back1]); rfl)) | (with_reducible apply DL.set_own; rfl; focus ((try simp only [List.cons_append, List.nil_append, List.replicate_succ, List.replicate_zero, Nat.reduceSub, List.set_cons_zero, List.set_cons_succ, DL.with_arg, DL.with_own, DL.wipeD, List.map_cons, List.map_nil, DL.toArg, DL.back2, DL.back2a, DL.back, DL.back1]); rfl)) | (with_reducible apply DL.p_t; (first | rfl | focus (simp [*]; done) | assumption)) | (with_reducible apply DL.p_f; (first | rfl | focus (simp [*]; done) | assumption)) | (with_reducible apply DL.v_fz; rfl) | (with_reducible apply DL.v_own; rfl) | (with_reducible apply DL.v_arg; rfl) | with_reducible exact DL.r_c | with_reducible apply DL.r_andB | with_reducible apply DL.r_bin | with_reducible apply DL.r_un | with_reducible apply DL.r_test | with_reducible apply DL.r_notV | with_reducible apply DL.r_and | with_reducible apply DL.r_or | with_reducible apply DL.r_not | with_reducible apply DL.r_if | with_reducible apply DL.r_chainB | with_reducible exact DL.l_nil | with_reducible apply DL.l_cons | with_reducible apply DL.r_tup | with_reducible apply DL.r_lst | with_reducible apply DL.o_some | with_reducible exact DL.o_none | with_reducible apply DL.r_sl | with_reducible exact DL.a_nil | with_reducible apply DL.a_val | with_reducible apply DL.a_ref | (with_reducible apply DL.small_of; focus (first | omega | (simp <;> omega))) | with_reducible apply DL.r_callR | with_reducible apply DL.r_call | (first | exact e_is_row_ofL _ _ | exact e_is_row_of _ _ | exact e_is_rowL _ | exact e_is_row _ | exact e_is_below _ _ | exact e_is_whole _ | assumption) | (with_reducible apply DL.f_mod; (first | assumption | omega | focus (simp; omega))) | (with_reducible apply DL.f_div; (first | assumption | omega | focus (simp; omega))) | with_reducible apply DL.f_mulI | (with_reducible apply DL.wide_lt; (first | assumption | omega | focus (simp; omega))) | rfl | (focus ((try simp only [List.cons_append, List.nil_append, List.replicate_succ, List.replicate_zero, Nat.reduceSub, List.set_cons_zero, List.set_cons_succ, DL.with_arg, DL.with_own, DL.wipeD, List.map_cons, List.map_nil, DL.toArg, DL.back2, DL.back2a, DL.back, DL.back1]); rfl); done)))
    · rfl
    · rw [enumD_map]
      exact comp_flat (φ := fun q : Nat × Ln => (endAt pl q.1 q.2).map encE) _ fun q _ => main q.1 q.2
    · rw [fl]
      exact hs
  · rw [fl]
  · rfl
theorem cut_lo {α : Type} (xs : List α) (n : Nat) : cutL xs none (some (n : Int)) = xs.take n := by
  unfold cutL
  rw [HT.sIx_none, HT.sIx_nat, List.drop_zero, Nat.sub_zero, Nat.min_def]
  split
  · rfl
  · rw [List.take_of_length_le (Nat.le_refl _), List.take_of_length_le (by omega)]
theorem cut_hi {α : Type} (xs : List α) (n : Nat) : cutL xs (some (n : Int)) none = xs.drop n := by
  unfold cutL
  rw [HT.sIx_none, HT.sIx_nat, Nat.min_def]
  split
  · rw [List.take_of_length_le (by simp)]
  · rw [List.drop_of_length_le (Nat.le_refl _), List.drop_of_length_le (by omega)]
    simp
theorem at_enc {ls : List Ln} {n : Nat} {l : Ln} (h : ls[n]? = some l) : (ls.map encL)[n]? = some (encL l) := by
  rw [List.getElem?_map, h]
  rfl
theorem eqv_ch (a b : Nat) : (PyData.str ⟨#[a]⟩).eqv (.str ⟨#[b]⟩) = decide (a = b) := by
  show ((⟨#[a]⟩ : Str) == ⟨#[b]⟩) = _
  by_cases h : a = b
  · subst h; simp
  · simp [h]

structure Rl where
  g : List Int
  t : List Int
  i : Nat
  s : Int
abbrev encR (r : Rl) : List D := [.list (r.g.map .int), .list (r.t.map .int), .int r.i, .int r.s]
structure RlOk (b : Nat) (r : Rl) : Prop where
  gp : ∀ x ∈ r.g, 0 ≤ x
  gl : r.g.length ≤ 1000
  t0 : 0 < r.t.length
  tl : r.t.length ≤ 1000
  tp : ∀ x ∈ r.t, 0 ≤ x ∧ x < 1000003
  ib : r.i ≤ b
  s0 : 0 ≤ r.s
  s1 : r.s < 2 ^ 127
theorem p64 : fPow (.int 2) (.int 64) = some (.fz (.int (2 ^ 64))) := rfl
theorem p63 : fPow (.int 2) (.int 63) = some (.fz (.int (2 ^ 63))) := rfl
theorem p40 : fPow (.int 2) (.int 40) = some (.fz (.int (2 ^ 40))) := rfl
theorem ix_in {xs : List Int} {j : Int} (h0 : 0 ≤ j) (h1 : j < xs.length) : ∃ x, x ∈ xs ∧ fIx (.list (xs.map PyData.int)) (.int j) = some (.fz (.int x)) := by
  obtain ⟨n, rfl⟩ := Int.eq_ofNat_of_zero_le h0
  have hn : n < xs.length := by omega
  refine ⟨xs[n], List.getElem_mem hn, ?_⟩
  exact f_ixL (by rw [List.getElem?_map, List.getElem?_eq_getElem hn]; rfl)
theorem mul_1 (q : Int) : fMul (.list [.int q]) (.int 1) = some (.own (.lst [.int q])) := by
  show okO (small (1 * Int.toNat 1) && decide (-1000000 ≤ (1 : Int)) && decide ((1 : Int) ≤ 1000000)) (some (Vl.own (.lst [.int q]))) = _
  rw [show (small (1 * Int.toNat 1) && decide (-1000000 ≤ (1 : Int)) && decide ((1 : Int) ≤ 1000000)) = true from by decide]
  rfl
theorem mul_0 (q : Int) : fMul (.list [.int q]) (.int 0) = some (.own (.lst [])) := by
  show okO (small (1 * Int.toNat 0) && decide (-1000000 ≤ (0 : Int)) && decide ((0 : Int) ≤ 1000000)) (some (Vl.own (.lst []))) = _
  rw [show (small (1 * Int.toNat 0) && decide (-1000000 ≤ (0 : Int)) && decide ((0 : Int) ≤ 1000000)) = true from by decide]
  rfl
theorem e_draw {b : Nat} {r : Rl} (h : RlOk b r) (hb : b ≤ 1000000) (m : Int) (h0 : 0 < m) (h1 : m ≤ 1000000) :
    ∃ v r', d__law_draw [.arg (.lst (encR r)), .fz (.int m)] = .ok (.fz (.int v)) [.arg (.lst (encR r')), .no] ∧ 0 ≤ v ∧ v < m ∧ RlOk (b + 1) r' := by
  have wm : wide m = true := wide_lt (by omega)
  obtain ⟨g, t, i, s⟩ := r
  obtain ⟨gp, gl, t0, tl, tp, ib, s0, s1⟩ := h
  simp only at gp gl t0 tl tp ib s0 s1
  have e64 := p64
  have e63 := p63
  have e40 := p40
  cases g with
  | nil =>
    have hj0 : 0 ≤ ((i : Int) + 1) % (t.map PyData.int).length := Int.emod_nonneg _ (by rw [List.length_map]; omega)
    have hj1 : ((i : Int) + 1) % (t.map PyData.int).length < t.length := by
      have := Int.emod_lt_of_pos ((i : Int) + 1) (b := ((t.map PyData.int).length : Int)) (by rw [List.length_map]; omega)
      rw [List.length_map] at this ⊢
      exact this
    obtain ⟨x, hx, ex⟩ := ix_in hj0 hj1
    have hx := tp x hx
    have hlen : 0 < ((t.map PyData.int).length : Int) := by rw [List.length_map]; omega
    have wss : wide s = true := wide_lt (by omega)
    have w40 : wide (2 ^ 40) = true := wide_lt (by decide)
    have hS0 : 0 ≤ (s * s + (x + 7) * 69621 + ((i : Int) + 1) * 1000003) % (2 ^ 64 * 2 ^ 63 - 1) := Int.emod_nonneg _ (by decide)
    have hS1 : (s * s + (x + 7) * 69621 + ((i : Int) + 1) * 1000003) % (2 ^ 64 * 2 ^ 63 - 1) < (2 ^ 64 * 2 ^ 63 - 1) := Int.emod_lt_of_pos _ (by decide)
    refine ⟨((s * s + (x + 7) * 69621 + ((i : Int) + 1) * 1000003) % (2 ^ 64 * 2 ^ 63 - 1)) / 2 ^ 40 % m, ⟨[], t, i + 1, (s * s + (x + 7) * 69621 + ((i : Int) + 1) * 1000003) % (2 ^ 64 * 2 ^ 63 - 1)⟩, ?_, Int.emod_nonneg _ (by omega), Int.emod_lt_of_pos _ h0, ⟨by simp, by simp, t0, tl, tp, by show i + 1 ≤ b + 1; omega, hS0, Int.lt_trans hS1 (by decide)⟩⟩
    unfold d__law_draw
    apply run_v rfl
    · focus ((try simp only [List.cons_append, List.nil_append, List.replicate_succ, List.replicate_zero, Nat.reduceSub, List.set_cons_zero, List.set_cons_succ, DL.with_arg, DL.with_own, DL.wipeD, List.map_cons, List.map_nil, DL.toArg, DL.back2, DL.back2a, DL.back, DL.back1]); rfl)
    · unfold sd__law_draw
      (repeat' (first | with_reducible apply DL.s_setI | with_reducible apply DL.s_app | with_reducible apply DL.s_ext | (with_reducible apply DL.m_arg; rfl) | (with_reducible apply DL.m_own; rfl) | (with_reducible apply DL.f_set; rfl; focus ((try simp only [List.cons_append, List.nil_append, List.replicate_succ, List.replicate_zero, Nat.reduceSub, List.set_cons_zero, List.set_cons_succ, DL.with_arg, DL.with_own, DL.wipeD, List.map_cons, List.map_nil, DL.toArg, DL.back2, DL.back2a, DL.back, DL.back1]); rfl)) | with_reducible apply DL.f_app | with_reducible apply DL.f_ext | (with_reducible apply DL.set_goal; focus ((try simp only [List.cons_append, List.nil_append, List.replicate_succ, List.replicate_zero, Nat.reduceSub, List.set_cons_zero, List.set_cons_succ, DL.with_arg, DL.with_own, DL.wipeD, List.map_cons, List.map_nil, DL.toArg, DL.back2, DL.back2a, DL.back, DL.back1]); rfl)) | with_reducible apply DL.s_seqG | with_reducible apply DL.step_b | with_reducible apply DL.k_nx | with_reducible exact DL.k_rt | with_reducible exact DL.k_ct | with_reducible exact DL.k_bk | with_reducible apply DL.s_asgG | with_reducible apply DL.s_asg | with_reducible apply DL.s_drop | with_reducible apply DL.s_ret | with_reducible apply DL.s_if | with_reducible exact DL.s_skip | (with_reducible apply DL.f_eq; (first | rfl | assumption); (first | rfl | assumption)) | (with_reducible apply DL.f_ne; (first | rfl | assumption); (first | rfl | assumption)) | with_reducible apply DL.f_addT | (with_reducible apply DL.f_ixT; assumption) | (with_reducible apply DL.f_ixL; assumption) | with_reducible apply DL.f_addL | with_reducible apply DL.s_par | with_reducible apply DL.s_for | with_reducible apply DL.i_it | with_reducible apply DL.i_r1 | with_reducible apply DL.r_lc | with_reducible apply DL.r_lc2 | with_reducible apply DL.i_enumT | with_reducible exact DL.t_yes | with_reducible apply DL.turn_e | with_reducible apply DL.g_tup | with_reducible apply DL.g_lst | with_reducible apply DL.g_cons | with_reducible exact DL.g_nil | with_reducible apply DL.g_n | (with_reducible apply DL.set_fz; rfl; focus ((try simp only [List.cons_append, List.nil_append, List.replicate_succ, List.replicate_zero, Nat.reduceSub, List.set_cons_zero, List.set_cons_succ, DL.with_arg, DL.with_own, DL.wipeD, List.map_cons, List.map_nil, DL.toArg, DL.back2, DL.back2a, DL.back, DL.back1]); rfl)) | (with_reducible apply DL.set_own; rfl; focus ((try simp only [List.cons_append, List.nil_append, List.replicate_succ, List.replicate_zero, Nat.reduceSub, List.set_cons_zero, List.set_cons_succ, DL.with_arg, DL.with_own, DL.wipeD, List.map_cons, List.map_nil, DL.toArg, DL.back2, DL.back2a, DL.back, DL.back1]); rfl)) | (with_reducible apply DL.p_t; (first | rfl | focus (simp [*]; done) | assumption)) | (with_reducible apply DL.p_f; (first | rfl | focus (simp [*]; done) | assumption)) | (with_reducible apply DL.v_fz; rfl) | (with_reducible apply DL.v_own; rfl) | (with_reducible apply DL.v_arg; rfl) | with_reducible exact DL.r_c | with_reducible apply DL.r_andB | with_reducible apply DL.r_bin | with_reducible apply DL.r_un | with_reducible apply DL.r_test | with_reducible apply DL.r_notV | with_reducible apply DL.r_and | with_reducible apply DL.r_or | with_reducible apply DL.r_not | with_reducible apply DL.r_if | with_reducible apply DL.r_chainB | with_reducible exact DL.l_nil | with_reducible apply DL.l_cons | with_reducible apply DL.r_tup | with_reducible apply DL.r_lst | with_reducible apply DL.o_some | with_reducible exact DL.o_none | with_reducible apply DL.r_sl | with_reducible exact DL.a_nil | with_reducible apply DL.a_val | with_reducible apply DL.a_ref | (with_reducible apply DL.small_of; focus (first | omega | (simp <;> omega))) | with_reducible apply DL.r_callR | with_reducible apply DL.r_call | (first | exact e_is_row_ofL _ _ | exact e_is_row_of _ _ | exact e_is_rowL _ | exact e_is_row _ | exact e_is_below _ _ | exact e_is_whole _ | assumption) | (with_reducible apply DL.f_mod; (first | assumption | omega | focus (simp; omega))) | (with_reducible apply DL.f_div; (first | assumption | omega | focus (simp; omega))) | with_reducible apply DL.f_mulI | (with_reducible apply DL.wide_lt; (first | assumption | omega | focus (simp; omega))) | rfl | (focus ((try simp only [List.cons_append, List.nil_append, List.replicate_succ, List.replicate_zero, Nat.reduceSub, List.set_cons_zero, List.set_cons_succ, DL.with_arg, DL.with_own, DL.wipeD, List.map_cons, List.map_nil, DL.toArg, DL.back2, DL.back2a, DL.back, DL.back1]); rfl); done)))
    all_goals rfl
  | cons x gs =>
    show ∃ v r', d__law_draw [.arg (.lst [.list (PyData.int x :: gs.map PyData.int), .list (t.map .int), .int i, .int s]), .fz (.int m)] = .ok (.fz (.int v)) [.arg (.lst (encR r')), .no] ∧ 0 ≤ v ∧ v < m ∧ RlOk (b + 1) r'
    have hx0 : 0 ≤ x := gp x List.mem_cons_self
    have hsh : SeqAt.shaped (.list (PyData.int x :: gs.map PyData.int)) = true := shaped_ints (x :: gs)
    have hsm : (cutL (PyData.int x :: gs.map PyData.int) (some 1) none).length ≤ 1000 := (by
      rw [show (1 : Int) = ((1 : Nat) : Int) from rfl, cut_hi, List.length_drop, List.length_cons, List.length_map]
      have : gs.length + 1 ≤ 1000 := gl
      omega)
    have hcut : cutL (PyData.int x :: gs.map PyData.int) (some 1) none = gs.map PyData.int := by
      rw [show (1 : Int) = ((1 : Nat) : Int) from rfl, cut_hi]
      rfl
    have i1 : fInt (.bool true) = some (.fz (.int 1)) := rfl
    have i0 : fInt (.bool false) = some (.fz (.int 0)) := rfl
    have m1 := mul_1 (x / m)
    have m0 := mul_0 (x / m)
    have hn : fNe (.list (PyData.int x :: gs.map PyData.int)) (.list []) = some (.fz (.bool true)) := f_ne hsh rfl
    have hx00 : fIx (.list (PyData.int x :: gs.map PyData.int)) (.int 0) = some (.fz (.int x)) := f_ixL (n := 0) rfl
    by_cases hge : m ≤ x
    · have hq : fGe (.int x) (.int m) = some (.fz (.bool true)) := by
        show some (Vl.fz (.bool (decide (m ≤ x)))) = _
        rw [decide_eq_true hge]
      refine ⟨x % m, ⟨x / m :: gs, t, i, s⟩, ?_, Int.emod_nonneg _ (by omega), Int.emod_lt_of_pos _ h0, ⟨fun y hy => ?_, by have : (x :: gs).length ≤ 1000 := gl; simpa using this, t0, tl, tp, by show i ≤ b + 1; omega, s0, s1⟩⟩
      · unfold d__law_draw
        apply run_v rfl
        · focus ((try simp only [List.cons_append, List.nil_append, List.replicate_succ, List.replicate_zero, Nat.reduceSub, List.set_cons_zero, List.set_cons_succ, DL.with_arg, DL.with_own, DL.wipeD, List.map_cons, List.map_nil, DL.toArg, DL.back2, DL.back2a, DL.back, DL.back1]); rfl)
        · unfold sd__law_draw
          (repeat' (first | with_reducible apply DL.s_setI | with_reducible apply DL.s_app | with_reducible apply DL.s_ext | (with_reducible apply DL.m_arg; rfl) | (with_reducible apply DL.m_own; rfl) | (with_reducible apply DL.f_set; rfl; focus ((try simp only [List.cons_append, List.nil_append, List.replicate_succ, List.replicate_zero, Nat.reduceSub, List.set_cons_zero, List.set_cons_succ, DL.with_arg, DL.with_own, DL.wipeD, List.map_cons, List.map_nil, DL.toArg, DL.back2, DL.back2a, DL.back, DL.back1]); rfl)) | with_reducible apply DL.f_app | with_reducible apply DL.f_ext | (with_reducible apply DL.set_goal; focus ((try simp only [List.cons_append, List.nil_append, List.replicate_succ, List.replicate_zero, Nat.reduceSub, List.set_cons_zero, List.set_cons_succ, DL.with_arg, DL.with_own, DL.wipeD, List.map_cons, List.map_nil, DL.toArg, DL.back2, DL.back2a, DL.back, DL.back1]); rfl)) | with_reducible apply DL.s_seqG | with_reducible apply DL.step_b | with_reducible apply DL.k_nx | with_reducible exact DL.k_rt | with_reducible exact DL.k_ct | with_reducible exact DL.k_bk | with_reducible apply DL.s_asgG | with_reducible apply DL.s_asg | with_reducible apply DL.s_drop | with_reducible apply DL.s_ret | with_reducible apply DL.s_if | with_reducible exact DL.s_skip | (with_reducible apply DL.f_eq; (first | rfl | assumption); (first | rfl | assumption)) | (with_reducible apply DL.f_ne; (first | rfl | assumption); (first | rfl | assumption)) | with_reducible apply DL.f_addT | (with_reducible apply DL.f_ixT; assumption) | (with_reducible apply DL.f_ixL; assumption) | with_reducible apply DL.f_addL | with_reducible apply DL.s_par | with_reducible apply DL.s_for | with_reducible apply DL.i_it | with_reducible apply DL.i_r1 | with_reducible apply DL.r_lc | with_reducible apply DL.r_lc2 | with_reducible apply DL.i_enumT | with_reducible exact DL.t_yes | with_reducible apply DL.turn_e | with_reducible apply DL.g_tup | with_reducible apply DL.g_lst | with_reducible apply DL.g_cons | with_reducible exact DL.g_nil | with_reducible apply DL.g_n | (with_reducible apply DL.set_fz; rfl; focus ((try simp only [List.cons_append, List.nil_append, List.replicate_succ, List.replicate_zero, Nat.reduceSub, List.set_cons_zero, List.set_cons_succ, DL.with_arg, DL.with_own, DL.wipeD, List.map_cons, List.map_nil, DL.toArg, DL.back2, DL.back2a, DL.back, DL.back1]); rfl)) | (with_reducible apply DL.set_own; rfl; focus ((try simp only [List.cons_append, List.nil_append, List.replicate_succ, List.replicate_zero, Nat.reduceSub, List.set_cons_zero, List.set_cons_succ, DL.with_arg, DL.with_own, DL.wipeD, List.map_cons, List.map_nil, DL.toArg, DL.back2, DL.back2a, DL.back, DL.back1]); rfl)) | (with_reducible apply DL.p_t; (first | rfl | focus (simp [*]; done) | assumption)) | (with_reducible apply DL.p_f; (first | rfl | focus (simp [*]; done) | assumption)) | (with_reducible apply DL.v_fz; rfl) | (with_reducible apply DL.v_own; rfl) | (with_reducible apply DL.v_arg; rfl) | with_reducible exact DL.r_c | with_reducible apply DL.r_andB | with_reducible apply DL.r_bin | with_reducible apply DL.r_un | with_reducible apply DL.r_test | with_reducible apply DL.r_notV | with_reducible apply DL.r_and | with_reducible apply DL.r_or | with_reducible apply DL.r_not | with_reducible apply DL.r_if | with_reducible apply DL.r_chainB | with_reducible exact DL.l_nil | with_reducible apply DL.l_cons | with_reducible apply DL.r_tup | with_reducible apply DL.r_lst | with_reducible apply DL.o_some | with_reducible exact DL.o_none | with_reducible apply DL.r_sl | with_reducible exact DL.a_nil | with_reducible apply DL.a_val | with_reducible apply DL.a_ref | (with_reducible apply DL.small_of; focus (first | omega | (simp <;> omega))) | with_reducible apply DL.r_callR | with_reducible apply DL.r_call | (first | exact e_is_row_ofL _ _ | exact e_is_row_of _ _ | exact e_is_rowL _ | exact e_is_row _ | exact e_is_below _ _ | exact e_is_whole _ | assumption) | (with_reducible apply DL.f_mod; (first | assumption | omega | focus (simp; omega))) | (with_reducible apply DL.f_div; (first | assumption | omega | focus (simp; omega))) | with_reducible apply DL.f_mulI | (with_reducible apply DL.wide_lt; (first | assumption | omega | focus (simp; omega))) | rfl | (focus ((try simp only [List.cons_append, List.nil_append, List.replicate_succ, List.replicate_zero, Nat.reduceSub, List.set_cons_zero, List.set_cons_succ, DL.with_arg, DL.with_own, DL.wipeD, List.map_cons, List.map_nil, DL.toArg, DL.back2, DL.back2a, DL.back, DL.back1]); rfl); done)))
        all_goals first | rfl | (rw [hcut]; rfl)
      · rcases List.mem_cons.mp hy with rfl | hy
        · exact Int.ediv_nonneg hx0 (by omega)
        · exact gp y (List.mem_cons_of_mem _ hy)
    · have hq : fGe (.int x) (.int m) = some (.fz (.bool false)) := by
        show some (Vl.fz (.bool (decide (m ≤ x)))) = _
        rw [decide_eq_false hge]
      refine ⟨x % m, ⟨gs, t, i, s⟩, ?_, Int.emod_nonneg _ (by omega), Int.emod_lt_of_pos _ h0, ⟨fun y hy => gp y (List.mem_cons_of_mem _ hy), by have : (x :: gs).length ≤ 1000 := gl; have : gs.length + 1 ≤ 1000 := this; show gs.length ≤ 1000; omega, t0, tl, tp, by show i ≤ b + 1; omega, s0, s1⟩⟩
      · unfold d__law_draw
        apply run_v rfl
        · focus ((try simp only [List.cons_append, List.nil_append, List.replicate_succ, List.replicate_zero, Nat.reduceSub, List.set_cons_zero, List.set_cons_succ, DL.with_arg, DL.with_own, DL.wipeD, List.map_cons, List.map_nil, DL.toArg, DL.back2, DL.back2a, DL.back, DL.back1]); rfl)
        · unfold sd__law_draw
          (repeat' (first | with_reducible apply DL.s_setI | with_reducible apply DL.s_app | with_reducible apply DL.s_ext | (with_reducible apply DL.m_arg; rfl) | (with_reducible apply DL.m_own; rfl) | (with_reducible apply DL.f_set; rfl; focus ((try simp only [List.cons_append, List.nil_append, List.replicate_succ, List.replicate_zero, Nat.reduceSub, List.set_cons_zero, List.set_cons_succ, DL.with_arg, DL.with_own, DL.wipeD, List.map_cons, List.map_nil, DL.toArg, DL.back2, DL.back2a, DL.back, DL.back1]); rfl)) | with_reducible apply DL.f_app | with_reducible apply DL.f_ext | (with_reducible apply DL.set_goal; focus ((try simp only [List.cons_append, List.nil_append, List.replicate_succ, List.replicate_zero, Nat.reduceSub, List.set_cons_zero, List.set_cons_succ, DL.with_arg, DL.with_own, DL.wipeD, List.map_cons, List.map_nil, DL.toArg, DL.back2, DL.back2a, DL.back, DL.back1]); rfl)) | with_reducible apply DL.s_seqG | with_reducible apply DL.step_b | with_reducible apply DL.k_nx | with_reducible exact DL.k_rt | with_reducible exact DL.k_ct | with_reducible exact DL.k_bk | with_reducible apply DL.s_asgG | with_reducible apply DL.s_asg | with_reducible apply DL.s_drop | with_reducible apply DL.s_ret | with_reducible apply DL.s_if | with_reducible exact DL.s_skip | (with_reducible apply DL.f_eq; (first | rfl | assumption); (first | rfl | assumption)) | (with_reducible apply DL.f_ne; (first | rfl | assumption); (first | rfl | assumption)) | with_reducible apply DL.f_addT | (with_reducible apply DL.f_ixT; assumption) | (with_reducible apply DL.f_ixL; assumption) | with_reducible apply DL.f_addL | with_reducible apply DL.s_par | with_reducible apply DL.s_for | with_reducible apply DL.i_it | with_reducible apply DL.i_r1 | with_reducible apply DL.r_lc | with_reducible apply DL.r_lc2 | with_reducible apply DL.i_enumT | with_reducible exact DL.t_yes | with_reducible apply DL.turn_e | with_reducible apply DL.g_tup | with_reducible apply DL.g_lst | with_reducible apply DL.g_cons | with_reducible exact DL.g_nil | with_reducible apply DL.g_n | (with_reducible apply DL.set_fz; rfl; focus ((try simp only [List.cons_append, List.nil_append, List.replicate_succ, List.replicate_zero, Nat.reduceSub, List.set_cons_zero, List.set_cons_succ, DL.with_arg, DL.with_own, DL.wipeD, List.map_cons, List.map_nil, DL.toArg, DL.back2, DL.back2a, DL.back, DL.back1]); rfl)) | (with_reducible apply DL.set_own; rfl; focus ((try simp only [List.cons_append, List.nil_append, List.replicate_succ, List.replicate_zero, Nat.reduceSub, List.set_cons_zero, List.set_cons_succ, DL.with_arg, DL.with_own, DL.wipeD, List.map_cons, List.map_nil, DL.toArg, DL.back2, DL.back2a, DL.back, DL.back1]); rfl)) | (with_reducible apply DL.p_t; (first | rfl | focus (simp [*]; done) | assumption)) | (with_reducible apply DL.p_f; (first | rfl | focus (simp [*]; done) | assumption)) | (with_reducible apply DL.v_fz; rfl) | (with_reducible apply DL.v_own; rfl) | (with_reducible apply DL.v_arg; rfl) | with_reducible exact DL.r_c | with_reducible apply DL.r_andB | with_reducible apply DL.r_bin | with_reducible apply DL.r_un | with_reducible apply DL.r_test | with_reducible apply DL.r_notV | with_reducible apply DL.r_and | with_reducible apply DL.r_or | with_reducible apply DL.r_not | with_reducible apply DL.r_if | with_reducible apply DL.r_chainB | with_reducible exact DL.l_nil | with_reducible apply DL.l_cons | with_reducible apply DL.r_tup | with_reducible apply DL.r_lst | with_reducible apply DL.o_some | with_reducible exact DL.o_none | with_reducible apply DL.r_sl | with_reducible exact DL.a_nil | with_reducible apply DL.a_val | with_reducible apply DL.a_ref | (with_reducible apply DL.small_of; focus (first | omega | (simp <;> omega))) | with_reducible apply DL.r_callR | with_reducible apply DL.r_call | (first | exact e_is_row_ofL _ _ | exact e_is_row_of _ _ | exact e_is_rowL _ | exact e_is_row _ | exact e_is_below _ _ | exact e_is_whole _ | assumption) | (with_reducible apply DL.f_mod; (first | assumption | omega | focus (simp; omega))) | (with_reducible apply DL.f_div; (first | assumption | omega | focus (simp; omega))) | with_reducible apply DL.f_mulI | (with_reducible apply DL.wide_lt; (first | assumption | omega | focus (simp; omega))) | rfl | (focus ((try simp only [List.cons_append, List.nil_append, List.replicate_succ, List.replicate_zero, Nat.reduceSub, List.set_cons_zero, List.set_cons_succ, DL.with_arg, DL.with_own, DL.wipeD, List.map_cons, List.map_nil, DL.toArg, DL.back2, DL.back2a, DL.back, DL.back1]); rfl); done)))
        all_goals first | rfl | (rw [hcut]; rfl)

theorem p360 : fPow (.int 3) (.int 60) = some (.fz (.int (3 ^ 60))) := rfl
theorem p1018 : fPow (.int 10) (.int 18) = some (.fz (.int (10 ^ 18))) := rfl
theorem e_reel (ns : List Int) (h : ns.length ≤ 63) : ∃ r, d__law_reel [.fz (.dict [(.none, .list (ns.map PyData.int))])] = .ok (.own (.lst (encR r))) [.no] ∧ RlOk 0 r := by
  have e360 := p360
  have e1018 := p1018
  have e64 := p64
  have e63 := p63
  have hcut : cutL (ns.map PyData.int) none (some 63) = ns.map PyData.int := by
    rw [show (63 : Int) = ((63 : Nat) : Int) from rfl, cut_lo, List.take_of_length_le (by rw [List.length_map]; exact h)]
  have hsl : fSl (.dict [(.none, .list (ns.map PyData.int))]) none (some 63) = some (.own (.lst (ns.map PyData.int))) := by
    show some (Vl.own (.lst (cutL (ns.map PyData.int) none (some 63)))) = _
    rw [hcut]
  obtain ⟨δ', e1, s, sl, rfl, hs0, hs1, hsl1⟩ := for_inv (f := stepB (gN 2) (dAsg 1 (dBin fMod (dBin fAdd (dBin fAdd (dBin fMul (dVar 1) (dVar 1)) (dBin fMod (dVar 2) (dC (.int 1000000000000000003)))) (dC (.int 11))) (dBin fSub (dBin fMul (dBin fPow (dC (.int 2)) (dC (.int 64))) (dBin fPow (dC (.int 2)) (dC (.int 63)))) (dC (.int 1)))))) (P := fun δ => ∃ (s : Int) (sl : Sl), δ = [.fz (.dict [(.none, .list (ns.map PyData.int))]), .fz (.int s), sl, .no] ∧ 0 ≤ s ∧ s < 2 ^ 127 ∧ sl.held = false) (ns.map PyData.int) (fun d hd δ hP => by
    obtain ⟨n, hn, rfl⟩ := List.mem_map.mp hd
    obtain ⟨s, sl, rfl, h0, h1, h2⟩ := hP
    have ws : wide s = true := wide_lt (by omega)
    have hS0 : 0 ≤ (s * s + n % 1000000000000000003 + 11) % (2 ^ 64 * 2 ^ 63 - 1) := Int.emod_nonneg _ (by decide)
    have hS1 : (s * s + n % 1000000000000000003 + 11) % (2 ^ 64 * 2 ^ 63 - 1) < (2 ^ 64 * 2 ^ 63 - 1) := Int.emod_lt_of_pos _ (by decide)
    refine ⟨[.fz (.dict [(.none, .list (ns.map PyData.int))]), .fz (.int ((s * s + n % 1000000000000000003 + 11) % (2 ^ 64 * 2 ^ 63 - 1))), .fz (.int n), .no], ?_, _, _, rfl, hS0, Int.lt_trans hS1 (by decide), rfl⟩
    apply step_b
    · cases sl with
      | no => (repeat' (first | with_reducible apply DL.s_setI | with_reducible apply DL.s_app | with_reducible apply DL.s_ext | (with_reducible apply DL.m_arg; rfl) | (with_reducible apply DL.m_own; rfl) | (with_reducible apply DL.f_set; rfl; focus ((try simp only [List.cons_append, List.nil_append, List.replicate_succ, List.replicate_zero, Nat.reduceSub, List.set_cons_zero, List.set_cons_succ, DL.with_arg, DL.with_own, DL.wipeD, List.map_cons, List.map_nil, DL.toArg, DL.back2, DL.back2a, DL.back, DL.back1]); rfl)) | with_reducible apply DL.f_app | with_reducible apply DL.f_ext | (with_reducible apply DL.set_goal; focus ((try simp only [List.cons_append, List.nil_append, List.replicate_succ, List.replicate_zero, Nat.reduceSub, List.set_cons_zero, List.set_cons_succ, DL.with_arg, DL.with_own, DL.wipeD, List.map_cons, List.map_nil, DL.toArg, DL.back2, DL.back2a, DL.back, DL.back1]); rfl)) | with_reducible apply DL.s_seqG | with_reducible apply DL.step_b | with_reducible apply DL.k_nx | with_reducible exact DL.k_rt | with_reducible exact DL.k_ct | with_reducible exact DL.k_bk | with_reducible apply DL.s_asgG | with_reducible apply DL.s_asg | with_reducible apply DL.s_drop | with_reducible apply DL.s_ret | with_reducible apply DL.s_if | with_reducible exact DL.s_skip | (with_reducible apply DL.f_eq; (first | rfl | assumption); (first | rfl | assumption)) | (with_reducible apply DL.f_ne; (first | rfl | assumption); (first | rfl | assumption)) | with_reducible apply DL.f_addT | (with_reducible apply DL.f_ixT; assumption) | (with_reducible apply DL.f_ixL; assumption) | with_reducible apply DL.f_addL | with_reducible apply DL.s_par | with_reducible apply DL.s_for | with_reducible apply DL.i_it | with_reducible apply DL.i_r1 | with_reducible apply DL.r_lc | with_reducible apply DL.r_lc2 | with_reducible apply DL.i_enumT | with_reducible exact DL.t_yes | with_reducible apply DL.turn_e | with_reducible apply DL.g_tup | with_reducible apply DL.g_lst | with_reducible apply DL.g_cons | with_reducible exact DL.g_nil | with_reducible apply DL.g_n | (with_reducible apply DL.set_fz; rfl; focus ((try simp only [List.cons_append, List.nil_append, List.replicate_succ, List.replicate_zero, Nat.reduceSub, List.set_cons_zero, List.set_cons_succ, DL.with_arg, DL.with_own, DL.wipeD, List.map_cons, List.map_nil, DL.toArg, DL.back2, DL.back2a, DL.back, DL.back1]); rfl)) | (with_reducible apply DL.set_own; rfl; focus ((try simp only [List.cons_append, List.nil_append, List.replicate_succ, List.replicate_zero, Nat.reduceSub, List.set_cons_zero, List.set_cons_succ, DL.with_arg, DL.with_own, DL.wipeD, List.map_cons, List.map_nil, DL.toArg, DL.back2, DL.back2a, DL.back, DL.back1]); rfl)) | (with_reducible apply DL.p_t; (first | rfl | focus (simp [*]; done) | assumption)) | (with_reducible apply DL.p_f; (first | rfl | focus (simp [*]; done) | assumption)) | (with_reducible apply DL.v_fz; rfl) | (with_reducible apply DL.v_own; rfl) | (with_reducible apply DL.v_arg; rfl) | with_reducible exact DL.r_c | with_reducible apply DL.r_andB | with_reducible apply DL.r_bin | with_reducible apply DL.r_un | with_reducible apply DL.r_test | with_reducible apply DL.r_notV | with_reducible apply DL.r_and | with_reducible apply DL.r_or | with_reducible apply DL.r_not | with_reducible apply DL.r_if | with_reducible apply DL.r_chainB | with_reducible exact DL.l_nil | with_reducible apply DL.l_cons | with_reducible apply DL.r_tup | with_reducible apply DL.r_lst | with_reducible apply DL.o_some | with_reducible exact DL.o_none | with_reducible apply DL.r_sl | with_reducible exact DL.a_nil | with_reducible apply DL.a_val | with_reducible apply DL.a_ref | (with_reducible apply DL.small_of; focus (first | omega | (simp <;> omega))) | with_reducible apply DL.r_callR | with_reducible apply DL.r_call | (first | exact e_is_row_ofL _ _ | exact e_is_row_of _ _ | exact e_is_rowL _ | exact e_is_row _ | exact e_is_below _ _ | exact e_is_whole _ | assumption) | (with_reducible apply DL.f_mod; (first | assumption | omega | focus (simp; omega))) | (with_reducible apply DL.f_div; (first | assumption | omega | focus (simp; omega))) | with_reducible apply DL.f_mulI | (with_reducible apply DL.wide_lt; (first | assumption | omega | focus (simp; omega))) | rfl | (focus ((try simp only [List.cons_append, List.nil_append, List.replicate_succ, List.replicate_zero, Nat.reduceSub, List.set_cons_zero, List.set_cons_succ, DL.with_arg, DL.with_own, DL.wipeD, List.map_cons, List.map_nil, DL.toArg, DL.back2, DL.back2a, DL.back, DL.back1]); rfl); done)))
      | fz d => (repeat' (first | with_reducible apply DL.s_setI | with_reducible apply DL.s_app | with_reducible apply DL.s_ext | (with_reducible apply DL.m_arg; rfl) | (with_reducible apply DL.m_own; rfl) | (with_reducible apply DL.f_set; rfl; focus ((try simp only [List.cons_append, List.nil_append, List.replicate_succ, List.replicate_zero, Nat.reduceSub, List.set_cons_zero, List.set_cons_succ, DL.with_arg, DL.with_own, DL.wipeD, List.map_cons, List.map_nil, DL.toArg, DL.back2, DL.back2a, DL.back, DL.back1]); rfl)) | with_reducible apply DL.f_app | with_reducible apply DL.f_ext | (with_reducible apply DL.set_goal; focus ((try simp only [List.cons_append, List.nil_append, List.replicate_succ, List.replicate_zero, Nat.reduceSub, List.set_cons_zero, List.set_cons_succ, DL.with_arg, DL.with_own, DL.wipeD, List.map_cons, List.map_nil, DL.toArg, DL.back2, DL.back2a, DL.back, DL.back1]); rfl)) | with_reducible apply DL.s_seqG | with_reducible apply DL.step_b | with_reducible apply DL.k_nx | with_reducible exact DL.k_rt | with_reducible exact DL.k_ct | with_reducible exact DL.k_bk | with_reducible apply DL.s_asgG | with_reducible apply DL.s_asg | with_reducible apply DL.s_drop | with_reducible apply DL.s_ret | with_reducible apply DL.s_if | with_reducible exact DL.s_skip | (with_reducible apply DL.f_eq; (first | rfl | assumption); (first | rfl | assumption)) | (with_reducible apply DL.f_ne; (first | rfl | assumption); (first | rfl | assumption)) | with_reducible apply DL.f_addT | (with_reducible apply DL.f_ixT; assumption) | (with_reducible apply DL.f_ixL; assumption) | with_reducible apply DL.f_addL | with_reducible apply DL.s_par | with_reducible apply DL.s_for | with_reducible apply DL.i_it | with_reducible apply DL.i_r1 | with_reducible apply DL.r_lc | with_reducible apply DL.r_lc2 | with_reducible apply DL.i_enumT | with_reducible exact DL.t_yes | with_reducible apply DL.turn_e | with_reducible apply DL.g_tup | with_reducible apply DL.g_lst | with_reducible apply DL.g_cons | with_reducible exact DL.g_nil | with_reducible apply DL.g_n | (with_reducible apply DL.set_fz; rfl; focus ((try simp only [List.cons_append, List.nil_append, List.replicate_succ, List.replicate_zero, Nat.reduceSub, List.set_cons_zero, List.set_cons_succ, DL.with_arg, DL.with_own, DL.wipeD, List.map_cons, List.map_nil, DL.toArg, DL.back2, DL.back2a, DL.back, DL.back1]); rfl)) | (with_reducible apply DL.set_own; rfl; focus ((try simp only [List.cons_append, List.nil_append, List.replicate_succ, List.replicate_zero, Nat.reduceSub, List.set_cons_zero, List.set_cons_succ, DL.with_arg, DL.with_own, DL.wipeD, List.map_cons, List.map_nil, DL.toArg, DL.back2, DL.back2a, DL.back, DL.back1]); rfl)) | (with_reducible apply DL.p_t; (first | rfl | focus (simp [*]; done) | assumption)) | (with_reducible apply DL.p_f; (first | rfl | focus (simp [*]; done) | assumption)) | (with_reducible apply DL.v_fz; rfl) | (with_reducible apply DL.v_own; rfl) | (with_reducible apply DL.v_arg; rfl) | with_reducible exact DL.r_c | with_reducible apply DL.r_andB | with_reducible apply DL.r_bin | with_reducible apply DL.r_un | with_reducible apply DL.r_test | with_reducible apply DL.r_notV | with_reducible apply DL.r_and | with_reducible apply DL.r_or | with_reducible apply DL.r_not | with_reducible apply DL.r_if | with_reducible apply DL.r_chainB | with_reducible exact DL.l_nil | with_reducible apply DL.l_cons | with_reducible apply DL.r_tup | with_reducible apply DL.r_lst | with_reducible apply DL.o_some | with_reducible exact DL.o_none | with_reducible apply DL.r_sl | with_reducible exact DL.a_nil | with_reducible apply DL.a_val | with_reducible apply DL.a_ref | (with_reducible apply DL.small_of; focus (first | omega | (simp <;> omega))) | with_reducible apply DL.r_callR | with_reducible apply DL.r_call | (first | exact e_is_row_ofL _ _ | exact e_is_row_of _ _ | exact e_is_rowL _ | exact e_is_row _ | exact e_is_below _ _ | exact e_is_whole _ | assumption) | (with_reducible apply DL.f_mod; (first | assumption | omega | focus (simp; omega))) | (with_reducible apply DL.f_div; (first | assumption | omega | focus (simp; omega))) | with_reducible apply DL.f_mulI | (with_reducible apply DL.wide_lt; (first | assumption | omega | focus (simp; omega))) | rfl | (focus ((try simp only [List.cons_append, List.nil_append, List.replicate_succ, List.replicate_zero, Nat.reduceSub, List.set_cons_zero, List.set_cons_succ, DL.with_arg, DL.with_own, DL.wipeD, List.map_cons, List.map_nil, DL.toArg, DL.back2, DL.back2a, DL.back, DL.back1]); rfl); done)))
      | own c => cases h2
      | arg c => cases h2
    · (repeat' (first | with_reducible apply DL.s_setI | with_reducible apply DL.s_app | with_reducible apply DL.s_ext | (with_reducible apply DL.m_arg; rfl) | (with_reducible apply DL.m_own; rfl) | (with_reducible apply DL.f_set; rfl; focus ((try simp only [List.cons_append, List.nil_append, List.replicate_succ, List.replicate_zero, Nat.reduceSub, List.set_cons_zero, List.set_cons_succ, DL.with_arg, DL.with_own, DL.wipeD, List.map_cons, List.map_nil, DL.toArg, DL.back2, DL.back2a, DL.back, DL.back1]); rfl)) | with_reducible apply DL.f_app | with_reducible apply DL.f_ext | (with_reducible apply DL.set_goal; focus ((try simp only [List.cons_append, List.nil_append, List.replicate_succ, List.replicate_zero, Nat.reduceSub, List.set_cons_zero, List.set_cons_succ, DL.with_arg, DL.with_own, DL.wipeD, List.map_cons, List.map_nil, DL.toArg, DL.back2, DL.back2a, DL.back, DL.back1]); rfl)) | with_reducible apply DL.s_seqG | with_reducible apply DL.step_b | with_reducible apply DL.k_nx | with_reducible exact DL.k_rt | with_reducible exact DL.k_ct | with_reducible exact DL.k_bk | with_reducible apply DL.s_asgG | with_reducible apply DL.s_asg | with_reducible apply DL.s_drop | with_reducible apply DL.s_ret | with_reducible apply DL.s_if | with_reducible exact DL.s_skip | (with_reducible apply DL.f_eq; (first | rfl | assumption); (first | rfl | assumption)) | (with_reducible apply DL.f_ne; (first | rfl | assumption); (first | rfl | assumption)) | with_reducible apply DL.f_addT | (with_reducible apply DL.f_ixT; assumption) | (with_reducible apply DL.f_ixL; assumption) | with_reducible apply DL.f_addL | with_reducible apply DL.s_par | with_reducible apply DL.s_for | with_reducible apply DL.i_it | with_reducible apply DL.i_r1 | with_reducible apply DL.r_lc | with_reducible apply DL.r_lc2 | with_reducible apply DL.i_enumT | with_reducible exact DL.t_yes | with_reducible apply DL.turn_e | with_reducible apply DL.g_tup | with_reducible apply DL.g_lst | with_reducible apply DL.g_cons | with_reducible exact DL.g_nil | with_reducible apply DL.g_n | (with_reducible apply DL.set_fz; rfl; focus ((try simp only [List.cons_append, List.nil_append, List.replicate_succ, List.replicate_zero, Nat.reduceSub, List.set_cons_zero, List.set_cons_succ, DL.with_arg, DL.with_own, DL.wipeD, List.map_cons, List.map_nil, DL.toArg, DL.back2, DL.back2a, DL.back, DL.back1]); rfl)) | (with_reducible apply DL.set_own; rfl; focus ((try simp only [List.cons_append, List.nil_append, List.replicate_succ, List.replicate_zero, Nat.reduceSub, List.set_cons_zero, List.set_cons_succ, DL.with_arg, DL.with_own, DL.wipeD, List.map_cons, List.map_nil, DL.toArg, DL.back2, DL.back2a, DL.back, DL.back1]); rfl)) | (with_reducible apply DL.p_t; (first | rfl | focus (simp [*]; done) | assumption)) | (with_reducible apply DL.p_f; (first | rfl | focus (simp [*]; done) | assumption)) | (with_reducible apply DL.v_fz; rfl) | (with_reducible apply DL.v_own; rfl) | (with_reducible apply DL.v_arg; rfl) | with_reducible exact DL.r_c | with_reducible apply DL.r_andB | with_reducible apply DL.r_bin | with_reducible apply DL.r_un | with_reducible apply DL.r_test | with_reducible apply DL.r_notV | with_reducible apply DL.r_and | with_reducible apply DL.r_or | with_reducible apply DL.r_not | with_reducible apply DL.r_if | with_reducible apply DL.r_chainB | with_reducible exact DL.l_nil | with_reducible apply DL.l_cons | with_reducible apply DL.r_tup | with_reducible apply DL.r_lst | with_reducible apply DL.o_some | with_reducible exact DL.o_none | with_reducible apply DL.r_sl | with_reducible exact DL.a_nil | with_reducible apply DL.a_val | with_reducible apply DL.a_ref | (with_reducible apply DL.small_of; focus (first | omega | (simp <;> omega))) | with_reducible apply DL.r_callR | with_reducible apply DL.r_call | (first | exact e_is_row_ofL _ _ | exact e_is_row_of _ _ | exact e_is_rowL _ | exact e_is_row _ | exact e_is_below _ _ | exact e_is_whole _ | assumption) | (with_reducible apply DL.f_mod; (first | assumption | omega | focus (simp; omega))) | (with_reducible apply DL.f_div; (first | assumption | omega | focus (simp; omega))) | with_reducible apply DL.f_mulI | (with_reducible apply DL.wide_lt; (first | assumption | omega | focus (simp; omega))) | rfl | (focus ((try simp only [List.cons_append, List.nil_append, List.replicate_succ, List.replicate_zero, Nat.reduceSub, List.set_cons_zero, List.set_cons_succ, DL.with_arg, DL.with_own, DL.wipeD, List.map_cons, List.map_nil, DL.toArg, DL.back2, DL.back2a, DL.back, DL.back1]); rfl); done)))) [.fz (.dict [(.none, .list (ns.map PyData.int))]), .fz (.int (3 ^ 60)), .no, .no] ⟨_, _, rfl, by decide, by decide, rfl⟩
  have hsm : small (ns.map PyData.int).length = true := small_of (by rw [List.length_map]; omega)
  have hfr : ∀ x : Sl, freeAt [2] [.fz (.dict [(.none, .list (ns.map PyData.int))]), .fz (.int s), sl, x] = true := fun x => by
    show (!sl.held && true) = true
    rw [hsl1]
    rfl
  have hbk : ∀ x y : Sl, x.held = false → back [.fz (.dict [(.none, .list (ns.map PyData.int))]), .fz (.int s), sl, x] [.fz (.dict [(.none, .list (ns.map PyData.int))]), .fz (.int s), y, x] = [.fz (.dict [(.none, .list (ns.map PyData.int))]), .fz (.int s), sl, x] := fun x y hx => by
    have hb : ∀ u v : Sl, u.held = false → back1 u v = u := fun u v hu => by cases u <;> first | rfl | cases hu
    show [back1 (.fz (.dict [(.none, .list (ns.map PyData.int))])) (.fz (.dict [(.none, .list (ns.map PyData.int))])), back1 (.fz (.int s)) (.fz (.int s)), back1 sl y, back1 x x] = _
    rw [hb sl y hsl1, hb x x hx]
    rfl
  have hf1 : (ns.filterMap fun n => if decide (10 ^ 18 ≤ n) = true then some (PyData.int (n - 10 ^ 18)) else none) = (ns.filterMap fun n => if decide (10 ^ 18 ≤ n) = true then some (n - 10 ^ 18) else none).map PyData.int := by
    rw [List.map_filterMap]
    congr 1
    funext n
    split <;> rfl
  refine ⟨⟨ns.filterMap fun n => if decide (10 ^ 18 ≤ n) = true then some (n - 10 ^ 18) else none, (ns.map fun n => n % 1000003) ++ [41], 0, s⟩, ?_, ?_⟩
  · unfold d__law_reel
    apply run_o rfl
    · focus ((try simp only [List.cons_append, List.nil_append, List.replicate_succ, List.replicate_zero, Nat.reduceSub, List.set_cons_zero, List.set_cons_succ, DL.with_arg, DL.with_own, DL.wipeD, List.map_cons, List.map_nil, DL.toArg, DL.back2, DL.back2a, DL.back, DL.back1]); rfl)
    · unfold sd__law_reel
      (repeat' (first | with_reducible apply DL.s_setI | with_reducible apply DL.s_app | with_reducible apply DL.s_ext | (with_reducible apply DL.m_arg; rfl) | (with_reducible apply DL.m_own; rfl) | (with_reducible apply DL.f_set; rfl; focus ((try simp only [List.cons_append, List.nil_append, List.replicate_succ, List.replicate_zero, Nat.reduceSub, List.set_cons_zero, List.set_cons_succ, DL.with_arg, DL.with_own, DL.wipeD, List.map_cons, List.map_nil, DL.toArg, DL.back2, DL.back2a, DL.back, DL.back1]); rfl)) | with_reducible apply DL.f_app | with_reducible apply DL.f_ext | (with_reducible apply DL.set_goal; focus ((try simp only [List.cons_append, List.nil_append, List.replicate_succ, List.replicate_zero, Nat.reduceSub, List.set_cons_zero, List.set_cons_succ, DL.with_arg, DL.with_own, DL.wipeD, List.map_cons, List.map_nil, DL.toArg, DL.back2, DL.back2a, DL.back, DL.back1]); rfl)) | with_reducible apply DL.s_seqG | with_reducible apply DL.step_b | with_reducible apply DL.k_nx | with_reducible exact DL.k_rt | with_reducible exact DL.k_ct | with_reducible exact DL.k_bk | with_reducible apply DL.s_asgG | with_reducible apply DL.s_asg | with_reducible apply DL.s_drop | with_reducible apply DL.s_ret | with_reducible apply DL.s_if | with_reducible exact DL.s_skip | (with_reducible apply DL.f_eq; (first | rfl | assumption); (first | rfl | assumption)) | (with_reducible apply DL.f_ne; (first | rfl | assumption); (first | rfl | assumption)) | with_reducible apply DL.f_addT | (with_reducible apply DL.f_ixT; assumption) | (with_reducible apply DL.f_ixL; assumption) | with_reducible apply DL.f_addL | with_reducible apply DL.s_par | with_reducible apply DL.s_for | with_reducible apply DL.i_it | with_reducible apply DL.i_r1 | with_reducible apply DL.r_lc | with_reducible apply DL.r_lc2 | with_reducible apply DL.i_enumT | with_reducible exact DL.t_yes | with_reducible apply DL.turn_e | with_reducible apply DL.g_tup | with_reducible apply DL.g_lst | with_reducible apply DL.g_cons | with_reducible exact DL.g_nil | with_reducible apply DL.g_n | (with_reducible apply DL.set_fz; rfl; focus ((try simp only [List.cons_append, List.nil_append, List.replicate_succ, List.replicate_zero, Nat.reduceSub, List.set_cons_zero, List.set_cons_succ, DL.with_arg, DL.with_own, DL.wipeD, List.map_cons, List.map_nil, DL.toArg, DL.back2, DL.back2a, DL.back, DL.back1]); rfl)) | (with_reducible apply DL.set_own; rfl; focus ((try simp only [List.cons_append, List.nil_append, List.replicate_succ, List.replicate_zero, Nat.reduceSub, List.set_cons_zero, List.set_cons_succ, DL.with_arg, DL.with_own, DL.wipeD, List.map_cons, List.map_nil, DL.toArg, DL.back2, DL.back2a, DL.back, DL.back1]); rfl)) | (with_reducible apply DL.p_t; (first | rfl | focus (simp [*]; done) | assumption)) | (with_reducible apply DL.p_f; (first | rfl | focus (simp [*]; done) | assumption)) | (with_reducible apply DL.v_fz; rfl) | (with_reducible apply DL.v_own; rfl) | (with_reducible apply DL.v_arg; rfl) | with_reducible exact DL.r_c | with_reducible apply DL.r_andB | with_reducible apply DL.r_bin | with_reducible apply DL.r_un | with_reducible apply DL.r_test | with_reducible apply DL.r_notV | with_reducible apply DL.r_and | with_reducible apply DL.r_or | with_reducible apply DL.r_not | with_reducible apply DL.r_if | with_reducible apply DL.r_chainB | with_reducible exact DL.l_nil | with_reducible apply DL.l_cons | with_reducible apply DL.r_tup | with_reducible apply DL.r_lst | with_reducible apply DL.o_some | with_reducible exact DL.o_none | with_reducible apply DL.r_sl | with_reducible exact DL.a_nil | with_reducible apply DL.a_val | with_reducible apply DL.a_ref | (with_reducible apply DL.small_of; focus (first | omega | (simp <;> omega))) | with_reducible apply DL.r_callR | with_reducible apply DL.r_call | (first | exact e_is_row_ofL _ _ | exact e_is_row_of _ _ | exact e_is_rowL _ | exact e_is_row _ | exact e_is_below _ _ | exact e_is_whole _ | assumption) | (with_reducible apply DL.f_mod; (first | assumption | omega | focus (simp; omega))) | (with_reducible apply DL.f_div; (first | assumption | omega | focus (simp; omega))) | with_reducible apply DL.f_mulI | (with_reducible apply DL.wide_lt; (first | assumption | omega | focus (simp; omega))) | rfl | (focus ((try simp only [List.cons_append, List.nil_append, List.replicate_succ, List.replicate_zero, Nat.reduceSub, List.set_cons_zero, List.set_cons_succ, DL.with_arg, DL.with_own, DL.wipeD, List.map_cons, List.map_nil, DL.toArg, DL.back2, DL.back2a, DL.back, DL.back1]); rfl); done)))
      · exact (Bool.and_eq_true _ _).mpr ⟨hsm, hfr _⟩
      · refine DL.comp_map (φ := fun n => if decide (10 ^ 18 ≤ n) = true then some (PyData.int (n - 10 ^ 18)) else none) ns fun n hn => ?_
        apply turn_c
        · focus ((try simp only [List.cons_append, List.nil_append, List.replicate_succ, List.replicate_zero, Nat.reduceSub, List.set_cons_zero, List.set_cons_succ, DL.with_arg, DL.with_own, DL.wipeD, List.map_cons, List.map_nil, DL.toArg, DL.back2, DL.back2a, DL.back, DL.back1]); rfl)
        · (repeat' (first | with_reducible apply DL.s_setI | with_reducible apply DL.s_app | with_reducible apply DL.s_ext | (with_reducible apply DL.m_arg; rfl) | (with_reducible apply DL.m_own; rfl) | (with_reducible apply DL.f_set; rfl; focus ((try simp only [List.cons_append, List.nil_append, List.replicate_succ, List.replicate_zero, Nat.reduceSub, List.set_cons_zero, List.set_cons_succ, DL.with_arg, DL.with_own, DL.wipeD, List.map_cons, List.map_nil, DL.toArg, DL.back2, DL.back2a, DL.back, DL.back1]); rfl)) | with_reducible apply DL.f_app | with_reducible apply DL.f_ext | (with_reducible apply DL.set_goal; focus ((try simp only [List.cons_append, List.nil_append, List.replicate_succ, List.replicate_zero, Nat.reduceSub, List.set_cons_zero, List.set_cons_succ, DL.with_arg, DL.with_own, DL.wipeD, List.map_cons, List.map_nil, DL.toArg, DL.back2, DL.back2a, DL.back, DL.back1]); rfl)) | with_reducible apply DL.s_seqG | with_reducible apply DL.step_b | with_reducible apply DL.k_nx | with_reducible exact DL.k_rt | with_reducible exact DL.k_ct | with_reducible exact DL.k_bk | with_reducible apply DL.s_asgG | with_reducible apply DL.s_asg | with_reducible apply DL.s_drop | with_reducible apply DL.s_ret | with_reducible apply DL.s_if | with_reducible exact DL.s_skip | (with_reducible apply DL.f_eq; (first | rfl | assumption); (first | rfl | assumption)) | (with_reducible apply DL.f_ne; (first | rfl | assumption); (first | rfl | assumption)) | with_reducible apply DL.f_addT | (with_reducible apply DL.f_ixT; assumption) | (with_reducible apply DL.f_ixL; assumption) | with_reducible apply DL.f_addL | with_reducible apply DL.s_par | with_reducible apply DL.s_for | with_reducible apply DL.i_it | with_reducible apply DL.i_r1 | with_reducible apply DL.r_lc | with_reducible apply DL.r_lc2 | with_reducible apply DL.i_enumT | with_reducible exact DL.t_yes | with_reducible apply DL.turn_e | with_reducible apply DL.g_tup | with_reducible apply DL.g_lst | with_reducible apply DL.g_cons | with_reducible exact DL.g_nil | with_reducible apply DL.g_n | (with_reducible apply DL.set_fz; rfl; focus ((try simp only [List.cons_append, List.nil_append, List.replicate_succ, List.replicate_zero, Nat.reduceSub, List.set_cons_zero, List.set_cons_succ, DL.with_arg, DL.with_own, DL.wipeD, List.map_cons, List.map_nil, DL.toArg, DL.back2, DL.back2a, DL.back, DL.back1]); rfl)) | (with_reducible apply DL.set_own; rfl; focus ((try simp only [List.cons_append, List.nil_append, List.replicate_succ, List.replicate_zero, Nat.reduceSub, List.set_cons_zero, List.set_cons_succ, DL.with_arg, DL.with_own, DL.wipeD, List.map_cons, List.map_nil, DL.toArg, DL.back2, DL.back2a, DL.back, DL.back1]); rfl)) | (with_reducible apply DL.p_t; (first | rfl | focus (simp [*]; done) | assumption)) | (with_reducible apply DL.p_f; (first | rfl | focus (simp [*]; done) | assumption)) | (with_reducible apply DL.v_fz; rfl) | (with_reducible apply DL.v_own; rfl) | (with_reducible apply DL.v_arg; rfl) | with_reducible exact DL.r_c | with_reducible apply DL.r_andB | with_reducible apply DL.r_bin | with_reducible apply DL.r_un | with_reducible apply DL.r_test | with_reducible apply DL.r_notV | with_reducible apply DL.r_and | with_reducible apply DL.r_or | with_reducible apply DL.r_not | with_reducible apply DL.r_if | with_reducible apply DL.r_chainB | with_reducible exact DL.l_nil | with_reducible apply DL.l_cons | with_reducible apply DL.r_tup | with_reducible apply DL.r_lst | with_reducible apply DL.o_some | with_reducible exact DL.o_none | with_reducible apply DL.r_sl | with_reducible exact DL.a_nil | with_reducible apply DL.a_val | with_reducible apply DL.a_ref | (with_reducible apply DL.small_of; focus (first | omega | (simp <;> omega))) | with_reducible apply DL.r_callR | with_reducible apply DL.r_call | (first | exact e_is_row_ofL _ _ | exact e_is_row_of _ _ | exact e_is_rowL _ | exact e_is_row _ | exact e_is_below _ _ | exact e_is_whole _ | assumption) | (with_reducible apply DL.f_mod; (first | assumption | omega | focus (simp; omega))) | (with_reducible apply DL.f_div; (first | assumption | omega | focus (simp; omega))) | with_reducible apply DL.f_mulI | (with_reducible apply DL.wide_lt; (first | assumption | omega | focus (simp; omega))) | rfl | (focus ((try simp only [List.cons_append, List.nil_append, List.replicate_succ, List.replicate_zero, Nat.reduceSub, List.set_cons_zero, List.set_cons_succ, DL.with_arg, DL.with_own, DL.wipeD, List.map_cons, List.map_nil, DL.toArg, DL.back2, DL.back2a, DL.back, DL.back1]); rfl); done)))
        · (repeat' (first | with_reducible apply DL.s_setI | with_reducible apply DL.s_app | with_reducible apply DL.s_ext | (with_reducible apply DL.m_arg; rfl) | (with_reducible apply DL.m_own; rfl) | (with_reducible apply DL.f_set; rfl; focus ((try simp only [List.cons_append, List.nil_append, List.replicate_succ, List.replicate_zero, Nat.reduceSub, List.set_cons_zero, List.set_cons_succ, DL.with_arg, DL.with_own, DL.wipeD, List.map_cons, List.map_nil, DL.toArg, DL.back2, DL.back2a, DL.back, DL.back1]); rfl)) | with_reducible apply DL.f_app | with_reducible apply DL.f_ext | (with_reducible apply DL.set_goal; focus ((try simp only [List.cons_append, List.nil_append, List.replicate_succ, List.replicate_zero, Nat.reduceSub, List.set_cons_zero, List.set_cons_succ, DL.with_arg, DL.with_own, DL.wipeD, List.map_cons, List.map_nil, DL.toArg, DL.back2, DL.back2a, DL.back, DL.back1]); rfl)) | with_reducible apply DL.s_seqG | with_reducible apply DL.step_b | with_reducible apply DL.k_nx | with_reducible exact DL.k_rt | with_reducible exact DL.k_ct | with_reducible exact DL.k_bk | with_reducible apply DL.s_asgG | with_reducible apply DL.s_asg | with_reducible apply DL.s_drop | with_reducible apply DL.s_ret | with_reducible apply DL.s_if | with_reducible exact DL.s_skip | (with_reducible apply DL.f_eq; (first | rfl | assumption); (first | rfl | assumption)) | (with_reducible apply DL.f_ne; (first | rfl | assumption); (first | rfl | assumption)) | with_reducible apply DL.f_addT | (with_reducible apply DL.f_ixT; assumption) | (with_reducible apply DL.f_ixL; assumption) | with_reducible apply DL.f_addL | with_reducible apply DL.s_par | with_reducible apply DL.s_for | with_reducible apply DL.i_it | with_reducible apply DL.i_r1 | with_reducible apply DL.r_lc | with_reducible apply DL.r_lc2 | with_reducible apply DL.i_enumT | with_reducible exact DL.t_yes | with_reducible apply DL.turn_e | with_reducible apply DL.g_tup | with_reducible apply DL.g_lst | with_reducible apply DL.g_cons | with_reducible exact DL.g_nil | with_reducible apply DL.g_n | (with_reducible apply DL.set_fz; rfl; focus ((try simp only [List.cons_append, List.nil_append, List.replicate_succ, List.replicate_zero, Nat.reduceSub, List.set_cons_zero, List.set_cons_succ, DL.with_arg, DL.with_own, DL.wipeD, List.map_cons, List.map_nil, DL.toArg, DL.back2, DL.back2a, DL.back, DL.back1]); rfl)) | (with_reducible apply DL.set_own; rfl; focus ((try simp only [List.cons_append, List.nil_append, List.replicate_succ, List.replicate_zero, Nat.reduceSub, List.set_cons_zero, List.set_cons_succ, DL.with_arg, DL.with_own, DL.wipeD, List.map_cons, List.map_nil, DL.toArg, DL.back2, DL.back2a, DL.back, DL.back1]); rfl)) | (with_reducible apply DL.p_t; (first | rfl | focus (simp [*]; done) | assumption)) | (with_reducible apply DL.p_f; (first | rfl | focus (simp [*]; done) | assumption)) | (with_reducible apply DL.v_fz; rfl) | (with_reducible apply DL.v_own; rfl) | (with_reducible apply DL.v_arg; rfl) | with_reducible exact DL.r_c | with_reducible apply DL.r_andB | with_reducible apply DL.r_bin | with_reducible apply DL.r_un | with_reducible apply DL.r_test | with_reducible apply DL.r_notV | with_reducible apply DL.r_and | with_reducible apply DL.r_or | with_reducible apply DL.r_not | with_reducible apply DL.r_if | with_reducible apply DL.r_chainB | with_reducible exact DL.l_nil | with_reducible apply DL.l_cons | with_reducible apply DL.r_tup | with_reducible apply DL.r_lst | with_reducible apply DL.o_some | with_reducible exact DL.o_none | with_reducible apply DL.r_sl | with_reducible exact DL.a_nil | with_reducible apply DL.a_val | with_reducible apply DL.a_ref | (with_reducible apply DL.small_of; focus (first | omega | (simp <;> omega))) | with_reducible apply DL.r_callR | with_reducible apply DL.r_call | (first | exact e_is_row_ofL _ _ | exact e_is_row_of _ _ | exact e_is_rowL _ | exact e_is_row _ | exact e_is_below _ _ | exact e_is_whole _ | assumption) | (with_reducible apply DL.f_mod; (first | assumption | omega | focus (simp; omega))) | (with_reducible apply DL.f_div; (first | assumption | omega | focus (simp; omega))) | with_reducible apply DL.f_mulI | (with_reducible apply DL.wide_lt; (first | assumption | omega | focus (simp; omega))) | rfl | (focus ((try simp only [List.cons_append, List.nil_append, List.replicate_succ, List.replicate_zero, Nat.reduceSub, List.set_cons_zero, List.set_cons_succ, DL.with_arg, DL.with_own, DL.wipeD, List.map_cons, List.map_nil, DL.toArg, DL.back2, DL.back2a, DL.back, DL.back1]); rfl); done)))
        · (repeat' (first | with_reducible apply DL.s_setI | with_reducible apply DL.s_app | with_reducible apply DL.s_ext | (with_reducible apply DL.m_arg; rfl) | (with_reducible apply DL.m_own; rfl) | (with_reducible apply DL.f_set; rfl; focus ((try simp only [List.cons_append, List.nil_append, List.replicate_succ, List.replicate_zero, Nat.reduceSub, List.set_cons_zero, List.set_cons_succ, DL.with_arg, DL.with_own, DL.wipeD, List.map_cons, List.map_nil, DL.toArg, DL.back2, DL.back2a, DL.back, DL.back1]); rfl)) | with_reducible apply DL.f_app | with_reducible apply DL.f_ext | (with_reducible apply DL.set_goal; focus ((try simp only [List.cons_append, List.nil_append, List.replicate_succ, List.replicate_zero, Nat.reduceSub, List.set_cons_zero, List.set_cons_succ, DL.with_arg, DL.with_own, DL.wipeD, List.map_cons, List.map_nil, DL.toArg, DL.back2, DL.back2a, DL.back, DL.back1]); rfl)) | with_reducible apply DL.s_seqG | with_reducible apply DL.step_b | with_reducible apply DL.k_nx | with_reducible exact DL.k_rt | with_reducible exact DL.k_ct | with_reducible exact DL.k_bk | with_reducible apply DL.s_asgG | with_reducible apply DL.s_asg | with_reducible apply DL.s_drop | with_reducible apply DL.s_ret | with_reducible apply DL.s_if | with_reducible exact DL.s_skip | (with_reducible apply DL.f_eq; (first | rfl | assumption); (first | rfl | assumption)) | (with_reducible apply DL.f_ne; (first | rfl | assumption); (first | rfl | assumption)) | with_reducible apply DL.f_addT | (with_reducible apply DL.f_ixT; assumption) | (with_reducible apply DL.f_ixL; assumption) | with_reducible apply DL.f_addL | with_reducible apply DL.s_par | with_reducible apply DL.s_for | with_reducible apply DL.i_it | with_reducible apply DL.i_r1 | with_reducible apply DL.r_lc | with_reducible apply DL.r_lc2 | with_reducible apply DL.i_enumT | with_reducible exact DL.t_yes | with_reducible apply DL.turn_e | with_reducible apply DL.g_tup | with_reducible apply DL.g_lst | with_reducible apply DL.g_cons | with_reducible exact DL.g_nil | with_reducible apply DL.g_n | (with_reducible apply DL.set_fz; rfl; focus ((try simp only [List.cons_append, List.nil_append, List.replicate_succ, List.replicate_zero, Nat.reduceSub, List.set_cons_zero, List.set_cons_succ, DL.with_arg, DL.with_own, DL.wipeD, List.map_cons, List.map_nil, DL.toArg, DL.back2, DL.back2a, DL.back, DL.back1]); rfl)) | (with_reducible apply DL.set_own; rfl; focus ((try simp only [List.cons_append, List.nil_append, List.replicate_succ, List.replicate_zero, Nat.reduceSub, List.set_cons_zero, List.set_cons_succ, DL.with_arg, DL.with_own, DL.wipeD, List.map_cons, List.map_nil, DL.toArg, DL.back2, DL.back2a, DL.back, DL.back1]); rfl)) | (with_reducible apply DL.p_t; (first | rfl | focus (simp [*]; done) | assumption)) | (with_reducible apply DL.p_f; (first | rfl | focus (simp [*]; done) | assumption)) | (with_reducible apply DL.v_fz; rfl) | (with_reducible apply DL.v_own; rfl) | (with_reducible apply DL.v_arg; rfl) | with_reducible exact DL.r_c | with_reducible apply DL.r_andB | with_reducible apply DL.r_bin | with_reducible apply DL.r_un | with_reducible apply DL.r_test | with_reducible apply DL.r_notV | with_reducible apply DL.r_and | with_reducible apply DL.r_or | with_reducible apply DL.r_not | with_reducible apply DL.r_if | with_reducible apply DL.r_chainB | with_reducible exact DL.l_nil | with_reducible apply DL.l_cons | with_reducible apply DL.r_tup | with_reducible apply DL.r_lst | with_reducible apply DL.o_some | with_reducible exact DL.o_none | with_reducible apply DL.r_sl | with_reducible exact DL.a_nil | with_reducible apply DL.a_val | with_reducible apply DL.a_ref | (with_reducible apply DL.small_of; focus (first | omega | (simp <;> omega))) | with_reducible apply DL.r_callR | with_reducible apply DL.r_call | (first | exact e_is_row_ofL _ _ | exact e_is_row_of _ _ | exact e_is_rowL _ | exact e_is_row _ | exact e_is_below _ _ | exact e_is_whole _ | assumption) | (with_reducible apply DL.f_mod; (first | assumption | omega | focus (simp; omega))) | (with_reducible apply DL.f_div; (first | assumption | omega | focus (simp; omega))) | with_reducible apply DL.f_mulI | (with_reducible apply DL.wide_lt; (first | assumption | omega | focus (simp; omega))) | rfl | (focus ((try simp only [List.cons_append, List.nil_append, List.replicate_succ, List.replicate_zero, Nat.reduceSub, List.set_cons_zero, List.set_cons_succ, DL.with_arg, DL.with_own, DL.wipeD, List.map_cons, List.map_nil, DL.toArg, DL.back2, DL.back2a, DL.back, DL.back1]); rfl); done)))
        · (repeat' (first | with_reducible apply DL.s_setI | with_reducible apply DL.s_app | with_reducible apply DL.s_ext | (with_reducible apply DL.m_arg; rfl) | (with_reducible apply DL.m_own; rfl) | (with_reducible apply DL.f_set; rfl; focus ((try simp only [List.cons_append, List.nil_append, List.replicate_succ, List.replicate_zero, Nat.reduceSub, List.set_cons_zero, List.set_cons_succ, DL.with_arg, DL.with_own, DL.wipeD, List.map_cons, List.map_nil, DL.toArg, DL.back2, DL.back2a, DL.back, DL.back1]); rfl)) | with_reducible apply DL.f_app | with_reducible apply DL.f_ext | (with_reducible apply DL.set_goal; focus ((try simp only [List.cons_append, List.nil_append, List.replicate_succ, List.replicate_zero, Nat.reduceSub, List.set_cons_zero, List.set_cons_succ, DL.with_arg, DL.with_own, DL.wipeD, List.map_cons, List.map_nil, DL.toArg, DL.back2, DL.back2a, DL.back, DL.back1]); rfl)) | with_reducible apply DL.s_seqG | with_reducible apply DL.step_b | with_reducible apply DL.k_nx | with_reducible exact DL.k_rt | with_reducible exact DL.k_ct | with_reducible exact DL.k_bk | with_reducible apply DL.s_asgG | with_reducible apply DL.s_asg | with_reducible apply DL.s_drop | with_reducible apply DL.s_ret | with_reducible apply DL.s_if | with_reducible exact DL.s_skip | (with_reducible apply DL.f_eq; (first | rfl | assumption); (first | rfl | assumption)) | (with_reducible apply DL.f_ne; (first | rfl | assumption); (first | rfl | assumption)) | with_reducible apply DL.f_addT | (with_reducible apply DL.f_ixT; assumption) | (with_reducible apply DL.f_ixL; assumption) | with_reducible apply DL.f_addL | with_reducible apply DL.s_par | with_reducible apply DL.s_for | with_reducible apply DL.i_it | with_reducible apply DL.i_r1 | with_reducible apply DL.r_lc | with_reducible apply DL.r_lc2 | with_reducible apply DL.i_enumT | with_reducible exact DL.t_yes | with_reducible apply DL.turn_e | with_reducible apply DL.g_tup | with_reducible apply DL.g_lst | with_reducible apply DL.g_cons | with_reducible exact DL.g_nil | with_reducible apply DL.g_n | (with_reducible apply DL.set_fz; rfl; focus ((try simp only [List.cons_append, List.nil_append, List.replicate_succ, List.replicate_zero, Nat.reduceSub, List.set_cons_zero, List.set_cons_succ, DL.with_arg, DL.with_own, DL.wipeD, List.map_cons, List.map_nil, DL.toArg, DL.back2, DL.back2a, DL.back, DL.back1]); rfl)) | (with_reducible apply DL.set_own; rfl; focus ((try simp only [List.cons_append, List.nil_append, List.replicate_succ, List.replicate_zero, Nat.reduceSub, List.set_cons_zero, List.set_cons_succ, DL.with_arg, DL.with_own, DL.wipeD, List.map_cons, List.map_nil, DL.toArg, DL.back2, DL.back2a, DL.back, DL.back1]); rfl)) | (with_reducible apply DL.p_t; (first | rfl | focus (simp [*]; done) | assumption)) | (with_reducible apply DL.p_f; (first | rfl | focus (simp [*]; done) | assumption)) | (with_reducible apply DL.v_fz; rfl) | (with_reducible apply DL.v_own; rfl) | (with_reducible apply DL.v_arg; rfl) | with_reducible exact DL.r_c | with_reducible apply DL.r_andB | with_reducible apply DL.r_bin | with_reducible apply DL.r_un | with_reducible apply DL.r_test | with_reducible apply DL.r_notV | with_reducible apply DL.r_and | with_reducible apply DL.r_or | with_reducible apply DL.r_not | with_reducible apply DL.r_if | with_reducible apply DL.r_chainB | with_reducible exact DL.l_nil | with_reducible apply DL.l_cons | with_reducible apply DL.r_tup | with_reducible apply DL.r_lst | with_reducible apply DL.o_some | with_reducible exact DL.o_none | with_reducible apply DL.r_sl | with_reducible exact DL.a_nil | with_reducible apply DL.a_val | with_reducible apply DL.a_ref | (with_reducible apply DL.small_of; focus (first | omega | (simp <;> omega))) | with_reducible apply DL.r_callR | with_reducible apply DL.r_call | (first | exact e_is_row_ofL _ _ | exact e_is_row_of _ _ | exact e_is_rowL _ | exact e_is_row _ | exact e_is_below _ _ | exact e_is_whole _ | assumption) | (with_reducible apply DL.f_mod; (first | assumption | omega | focus (simp; omega))) | (with_reducible apply DL.f_div; (first | assumption | omega | focus (simp; omega))) | with_reducible apply DL.f_mulI | (with_reducible apply DL.wide_lt; (first | assumption | omega | focus (simp; omega))) | rfl | (focus ((try simp only [List.cons_append, List.nil_append, List.replicate_succ, List.replicate_zero, Nat.reduceSub, List.set_cons_zero, List.set_cons_succ, DL.with_arg, DL.with_own, DL.wipeD, List.map_cons, List.map_nil, DL.toArg, DL.back2, DL.back2a, DL.back, DL.back1]); rfl); done)))
        · exact hbk _ _ rfl
        · exact hbk _ _ rfl
      (repeat' (first | with_reducible apply DL.s_setI | with_reducible apply DL.s_app | with_reducible apply DL.s_ext | (with_reducible apply DL.m_arg; rfl) | (with_reducible apply DL.m_own; rfl) | (with_reducible apply DL.f_set; rfl; focus ((try simp only [List.cons_append, List.nil_append, List.replicate_succ, List.replicate_zero, Nat.reduceSub, List.set_cons_zero, List.set_cons_succ, DL.with_arg, DL.with_own, DL.wipeD, List.map_cons, List.map_nil, DL.toArg, DL.back2, DL.back2a, DL.back, DL.back1]); rfl)) | with_reducible apply DL.f_app | with_reducible apply DL.f_ext | (with_reducible apply DL.set_goal; focus ((try simp only [List.cons_append, List.nil_append, List.replicate_succ, List.replicate_zero, Nat.reduceSub, List.set_cons_zero, List.set_cons_succ, DL.with_arg, DL.with_own, DL.wipeD, List.map_cons, List.map_nil, DL.toArg, DL.back2, DL.back2a, DL.back, DL.back1]); rfl)) | with_reducible apply DL.s_seqG | with_reducible apply DL.step_b | with_reducible apply DL.k_nx | with_reducible exact DL.k_rt | with_reducible exact DL.k_ct | with_reducible exact DL.k_bk | with_reducible apply DL.s_asgG | with_reducible apply DL.s_asg | with_reducible apply DL.s_drop | with_reducible apply DL.s_ret | with_reducible apply DL.s_if | with_reducible exact DL.s_skip | (with_reducible apply DL.f_eq; (first | rfl | assumption); (first | rfl | assumption)) | (with_reducible apply DL.f_ne; (first | rfl | assumption); (first | rfl | assumption)) | with_reducible apply DL.f_addT | (with_reducible apply DL.f_ixT; assumption) | (with_reducible apply DL.f_ixL; assumption) | with_reducible apply DL.f_addL | with_reducible apply DL.s_par | with_reducible apply DL.s_for | with_reducible apply DL.i_it | with_reducible apply DL.i_r1 | with_reducible apply DL.r_lc | with_reducible apply DL.r_lc2 | with_reducible apply DL.i_enumT | with_reducible exact DL.t_yes | with_reducible apply DL.turn_e | with_reducible apply DL.g_tup | with_reducible apply DL.g_lst | with_reducible apply DL.g_cons | with_reducible exact DL.g_nil | with_reducible apply DL.g_n | (with_reducible apply DL.set_fz; rfl; focus ((try simp only [List.cons_append, List.nil_append, List.replicate_succ, List.replicate_zero, Nat.reduceSub, List.set_cons_zero, List.set_cons_succ, DL.with_arg, DL.with_own, DL.wipeD, List.map_cons, List.map_nil, DL.toArg, DL.back2, DL.back2a, DL.back, DL.back1]); rfl)) | (with_reducible apply DL.set_own; rfl; focus ((try simp only [List.cons_append, List.nil_append, List.replicate_succ, List.replicate_zero, Nat.reduceSub, List.set_cons_zero, List.set_cons_succ, DL.with_arg, DL.with_own, DL.wipeD, List.map_cons, List.map_nil, DL.toArg, DL.back2, DL.back2a, DL.back, DL.back1]); rfl)) | (with_reducible apply DL.p_t; (first | rfl | focus (simp [*]; done) | assumption)) | (with_reducible apply DL.p_f; (first | rfl | focus (simp [*]; done) | assumption)) | (with_reducible apply DL.v_fz; rfl) | (with_reducible apply DL.v_own; rfl) | (with_reducible apply DL.v_arg; rfl) | with_reducible exact DL.r_c | with_reducible apply DL.r_andB | with_reducible apply DL.r_bin | with_reducible apply DL.r_un | with_reducible apply DL.r_test | with_reducible apply DL.r_notV | with_reducible apply DL.r_and | with_reducible apply DL.r_or | with_reducible apply DL.r_not | with_reducible apply DL.r_if | with_reducible apply DL.r_chainB | with_reducible exact DL.l_nil | with_reducible apply DL.l_cons | with_reducible apply DL.r_tup | with_reducible apply DL.r_lst | with_reducible apply DL.o_some | with_reducible exact DL.o_none | with_reducible apply DL.r_sl | with_reducible exact DL.a_nil | with_reducible apply DL.a_val | with_reducible apply DL.a_ref | (with_reducible apply DL.small_of; focus (first | omega | (simp <;> omega))) | with_reducible apply DL.r_callR | with_reducible apply DL.r_call | (first | exact e_is_row_ofL _ _ | exact e_is_row_of _ _ | exact e_is_rowL _ | exact e_is_row _ | exact e_is_below _ _ | exact e_is_whole _ | assumption) | (with_reducible apply DL.f_mod; (first | assumption | omega | focus (simp; omega))) | (with_reducible apply DL.f_div; (first | assumption | omega | focus (simp; omega))) | with_reducible apply DL.f_mulI | (with_reducible apply DL.wide_lt; (first | assumption | omega | focus (simp; omega))) | rfl | (focus ((try simp only [List.cons_append, List.nil_append, List.replicate_succ, List.replicate_zero, Nat.reduceSub, List.set_cons_zero, List.set_cons_succ, DL.with_arg, DL.with_own, DL.wipeD, List.map_cons, List.map_nil, DL.toArg, DL.back2, DL.back2a, DL.back, DL.back1]); rfl); done)))
      · exact (Bool.and_eq_true _ _).mpr ⟨hsm, hfr _⟩
      · refine comp_map1 (ψ := fun n => PyData.int (n % 1000003)) fun n hn => ?_
        apply turn_1
        · focus ((try simp only [List.cons_append, List.nil_append, List.replicate_succ, List.replicate_zero, Nat.reduceSub, List.set_cons_zero, List.set_cons_succ, DL.with_arg, DL.with_own, DL.wipeD, List.map_cons, List.map_nil, DL.toArg, DL.back2, DL.back2a, DL.back, DL.back1]); rfl)
        · (repeat' (first | with_reducible apply DL.s_setI | with_reducible apply DL.s_app | with_reducible apply DL.s_ext | (with_reducible apply DL.m_arg; rfl) | (with_reducible apply DL.m_own; rfl) | (with_reducible apply DL.f_set; rfl; focus ((try simp only [List.cons_append, List.nil_append, List.replicate_succ, List.replicate_zero, Nat.reduceSub, List.set_cons_zero, List.set_cons_succ, DL.with_arg, DL.with_own, DL.wipeD, List.map_cons, List.map_nil, DL.toArg, DL.back2, DL.back2a, DL.back, DL.back1]); rfl)) | with_reducible apply DL.f_app | with_reducible apply DL.f_ext | (with_reducible apply DL.set_goal; focus ((try simp only [List.cons_append, List.nil_append, List.replicate_succ, List.replicate_zero, Nat.reduceSub, List.set_cons_zero, List.set_cons_succ, DL.with_arg, DL.with_own, DL.wipeD, List.map_cons, List.map_nil, DL.toArg, DL.back2, DL.back2a, DL.back, DL.back1]); rfl)) | with_reducible apply DL.s_seqG | with_reducible apply DL.step_b | with_reducible apply DL.k_nx | with_reducible exact DL.k_rt | with_reducible exact DL.k_ct | with_reducible exact DL.k_bk | with_reducible apply DL.s_asgG | with_reducible apply DL.s_asg | with_reducible apply DL.s_drop | with_reducible apply DL.s_ret | with_reducible apply DL.s_if | with_reducible exact DL.s_skip | (with_reducible apply DL.f_eq; (first | rfl | assumption); (first | rfl | assumption)) | (with_reducible apply DL.f_ne; (first | rfl | assumption); (first | rfl | assumption)) | with_reducible apply DL.f_addT | (with_reducible apply DL.f_ixT; assumption) | (with_reducible apply DL.f_ixL; assumption) | with_reducible apply DL.f_addL | with_reducible apply DL.s_par | with_reducible apply DL.s_for | with_reducible apply DL.i_it | with_reducible apply DL.i_r1 | with_reducible apply DL.r_lc | with_reducible apply DL.r_lc2 | with_reducible apply DL.i_enumT | with_reducible exact DL.t_yes | with_reducible apply DL.turn_e | with_reducible apply DL.g_tup | with_reducible apply DL.g_lst | with_reducible apply DL.g_cons | with_reducible exact DL.g_nil | with_reducible apply DL.g_n | (with_reducible apply DL.set_fz; rfl; focus ((try simp only [List.cons_append, List.nil_append, List.replicate_succ, List.replicate_zero, Nat.reduceSub, List.set_cons_zero, List.set_cons_succ, DL.with_arg, DL.with_own, DL.wipeD, List.map_cons, List.map_nil, DL.toArg, DL.back2, DL.back2a, DL.back, DL.back1]); rfl)) | (with_reducible apply DL.set_own; rfl; focus ((try simp only [List.cons_append, List.nil_append, List.replicate_succ, List.replicate_zero, Nat.reduceSub, List.set_cons_zero, List.set_cons_succ, DL.with_arg, DL.with_own, DL.wipeD, List.map_cons, List.map_nil, DL.toArg, DL.back2, DL.back2a, DL.back, DL.back1]); rfl)) | (with_reducible apply DL.p_t; (first | rfl | focus (simp [*]; done) | assumption)) | (with_reducible apply DL.p_f; (first | rfl | focus (simp [*]; done) | assumption)) | (with_reducible apply DL.v_fz; rfl) | (with_reducible apply DL.v_own; rfl) | (with_reducible apply DL.v_arg; rfl) | with_reducible exact DL.r_c | with_reducible apply DL.r_andB | with_reducible apply DL.r_bin | with_reducible apply DL.r_un | with_reducible apply DL.r_test | with_reducible apply DL.r_notV | with_reducible apply DL.r_and | with_reducible apply DL.r_or | with_reducible apply DL.r_not | with_reducible apply DL.r_if | with_reducible apply DL.r_chainB | with_reducible exact DL.l_nil | with_reducible apply DL.l_cons | with_reducible apply DL.r_tup | with_reducible apply DL.r_lst | with_reducible apply DL.o_some | with_reducible exact DL.o_none | with_reducible apply DL.r_sl | with_reducible exact DL.a_nil | with_reducible apply DL.a_val | with_reducible apply DL.a_ref | (with_reducible apply DL.small_of; focus (first | omega | (simp <;> omega))) | with_reducible apply DL.r_callR | with_reducible apply DL.r_call | (first | exact e_is_row_ofL _ _ | exact e_is_row_of _ _ | exact e_is_rowL _ | exact e_is_row _ | exact e_is_below _ _ | exact e_is_whole _ | assumption) | (with_reducible apply DL.f_mod; (first | assumption | omega | focus (simp; omega))) | (with_reducible apply DL.f_div; (first | assumption | omega | focus (simp; omega))) | with_reducible apply DL.f_mulI | (with_reducible apply DL.wide_lt; (first | assumption | omega | focus (simp; omega))) | rfl | (focus ((try simp only [List.cons_append, List.nil_append, List.replicate_succ, List.replicate_zero, Nat.reduceSub, List.set_cons_zero, List.set_cons_succ, DL.with_arg, DL.with_own, DL.wipeD, List.map_cons, List.map_nil, DL.toArg, DL.back2, DL.back2a, DL.back, DL.back1]); rfl); done)))
        · (repeat' (first | with_reducible apply DL.s_setI | with_reducible apply DL.s_app | with_reducible apply DL.s_ext | (with_reducible apply DL.m_arg; rfl) | (with_reducible apply DL.m_own; rfl) | (with_reducible apply DL.f_set; rfl; focus ((try simp only [List.cons_append, List.nil_append, List.replicate_succ, List.replicate_zero, Nat.reduceSub, List.set_cons_zero, List.set_cons_succ, DL.with_arg, DL.with_own, DL.wipeD, List.map_cons, List.map_nil, DL.toArg, DL.back2, DL.back2a, DL.back, DL.back1]); rfl)) | with_reducible apply DL.f_app | with_reducible apply DL.f_ext | (with_reducible apply DL.set_goal; focus ((try simp only [List.cons_append, List.nil_append, List.replicate_succ, List.replicate_zero, Nat.reduceSub, List.set_cons_zero, List.set_cons_succ, DL.with_arg, DL.with_own, DL.wipeD, List.map_cons, List.map_nil, DL.toArg, DL.back2, DL.back2a, DL.back, DL.back1]); rfl)) | with_reducible apply DL.s_seqG | with_reducible apply DL.step_b | with_reducible apply DL.k_nx | with_reducible exact DL.k_rt | with_reducible exact DL.k_ct | with_reducible exact DL.k_bk | with_reducible apply DL.s_asgG | with_reducible apply DL.s_asg | with_reducible apply DL.s_drop | with_reducible apply DL.s_ret | with_reducible apply DL.s_if | with_reducible exact DL.s_skip | (with_reducible apply DL.f_eq; (first | rfl | assumption); (first | rfl | assumption)) | (with_reducible apply DL.f_ne; (first | rfl | assumption); (first | rfl | assumption)) | with_reducible apply DL.f_addT | (with_reducible apply DL.f_ixT; assumption) | (with_reducible apply DL.f_ixL; assumption) | with_reducible apply DL.f_addL | with_reducible apply DL.s_par | with_reducible apply DL.s_for | with_reducible apply DL.i_it | with_reducible apply DL.i_r1 | with_reducible apply DL.r_lc | with_reducible apply DL.r_lc2 | with_reducible apply DL.i_enumT | with_reducible exact DL.t_yes | with_reducible apply DL.turn_e | with_reducible apply DL.g_tup | with_reducible apply DL.g_lst | with_reducible apply DL.g_cons | with_reducible exact DL.g_nil | with_reducible apply DL.g_n | (with_reducible apply DL.set_fz; rfl; focus ((try simp only [List.cons_append, List.nil_append, List.replicate_succ, List.replicate_zero, Nat.reduceSub, List.set_cons_zero, List.set_cons_succ, DL.with_arg, DL.with_own, DL.wipeD, List.map_cons, List.map_nil, DL.toArg, DL.back2, DL.back2a, DL.back, DL.back1]); rfl)) | (with_reducible apply DL.set_own; rfl; focus ((try simp only [List.cons_append, List.nil_append, List.replicate_succ, List.replicate_zero, Nat.reduceSub, List.set_cons_zero, List.set_cons_succ, DL.with_arg, DL.with_own, DL.wipeD, List.map_cons, List.map_nil, DL.toArg, DL.back2, DL.back2a, DL.back, DL.back1]); rfl)) | (with_reducible apply DL.p_t; (first | rfl | focus (simp [*]; done) | assumption)) | (with_reducible apply DL.p_f; (first | rfl | focus (simp [*]; done) | assumption)) | (with_reducible apply DL.v_fz; rfl) | (with_reducible apply DL.v_own; rfl) | (with_reducible apply DL.v_arg; rfl) | with_reducible exact DL.r_c | with_reducible apply DL.r_andB | with_reducible apply DL.r_bin | with_reducible apply DL.r_un | with_reducible apply DL.r_test | with_reducible apply DL.r_notV | with_reducible apply DL.r_and | with_reducible apply DL.r_or | with_reducible apply DL.r_not | with_reducible apply DL.r_if | with_reducible apply DL.r_chainB | with_reducible exact DL.l_nil | with_reducible apply DL.l_cons | with_reducible apply DL.r_tup | with_reducible apply DL.r_lst | with_reducible apply DL.o_some | with_reducible exact DL.o_none | with_reducible apply DL.r_sl | with_reducible exact DL.a_nil | with_reducible apply DL.a_val | with_reducible apply DL.a_ref | (with_reducible apply DL.small_of; focus (first | omega | (simp <;> omega))) | with_reducible apply DL.r_callR | with_reducible apply DL.r_call | (first | exact e_is_row_ofL _ _ | exact e_is_row_of _ _ | exact e_is_rowL _ | exact e_is_row _ | exact e_is_below _ _ | exact e_is_whole _ | assumption) | (with_reducible apply DL.f_mod; (first | assumption | omega | focus (simp; omega))) | (with_reducible apply DL.f_div; (first | assumption | omega | focus (simp; omega))) | with_reducible apply DL.f_mulI | (with_reducible apply DL.wide_lt; (first | assumption | omega | focus (simp; omega))) | rfl | (focus ((try simp only [List.cons_append, List.nil_append, List.replicate_succ, List.replicate_zero, Nat.reduceSub, List.set_cons_zero, List.set_cons_succ, DL.with_arg, DL.with_own, DL.wipeD, List.map_cons, List.map_nil, DL.toArg, DL.back2, DL.back2a, DL.back, DL.back1]); rfl); done)))
        · (repeat' (first | with_reducible apply DL.s_setI | with_reducible apply DL.s_app | with_reducible apply DL.s_ext | (with_reducible apply DL.m_arg; rfl) | (with_reducible apply DL.m_own; rfl) | (with_reducible apply DL.f_set; rfl; focus ((try simp only [List.cons_append, List.nil_append, List.replicate_succ, List.replicate_zero, Nat.reduceSub, List.set_cons_zero, List.set_cons_succ, DL.with_arg, DL.with_own, DL.wipeD, List.map_cons, List.map_nil, DL.toArg, DL.back2, DL.back2a, DL.back, DL.back1]); rfl)) | with_reducible apply DL.f_app | with_reducible apply DL.f_ext | (with_reducible apply DL.set_goal; focus ((try simp only [List.cons_append, List.nil_append, List.replicate_succ, List.replicate_zero, Nat.reduceSub, List.set_cons_zero, List.set_cons_succ, DL.with_arg, DL.with_own, DL.wipeD, List.map_cons, List.map_nil, DL.toArg, DL.back2, DL.back2a, DL.back, DL.back1]); rfl)) | with_reducible apply DL.s_seqG | with_reducible apply DL.step_b | with_reducible apply DL.k_nx | with_reducible exact DL.k_rt | with_reducible exact DL.k_ct | with_reducible exact DL.k_bk | with_reducible apply DL.s_asgG | with_reducible apply DL.s_asg | with_reducible apply DL.s_drop | with_reducible apply DL.s_ret | with_reducible apply DL.s_if | with_reducible exact DL.s_skip | (with_reducible apply DL.f_eq; (first | rfl | assumption); (first | rfl | assumption)) | (with_reducible apply DL.f_ne; (first | rfl | assumption); (first | rfl | assumption)) | with_reducible apply DL.f_addT | (with_reducible apply DL.f_ixT; assumption) | (with_reducible apply DL.f_ixL; assumption) | with_reducible apply DL.f_addL | with_reducible apply DL.s_par | with_reducible apply DL.s_for | with_reducible apply DL.i_it | with_reducible apply DL.i_r1 | with_reducible apply DL.r_lc | with_reducible apply DL.r_lc2 | with_reducible apply DL.i_enumT | with_reducible exact DL.t_yes | with_reducible apply DL.turn_e | with_reducible apply DL.g_tup | with_reducible apply DL.g_lst | with_reducible apply DL.g_cons | with_reducible exact DL.g_nil | with_reducible apply DL.g_n | (with_reducible apply DL.set_fz; rfl; focus ((try simp only [List.cons_append, List.nil_append, List.replicate_succ, List.replicate_zero, Nat.reduceSub, List.set_cons_zero, List.set_cons_succ, DL.with_arg, DL.with_own, DL.wipeD, List.map_cons, List.map_nil, DL.toArg, DL.back2, DL.back2a, DL.back, DL.back1]); rfl)) | (with_reducible apply DL.set_own; rfl; focus ((try simp only [List.cons_append, List.nil_append, List.replicate_succ, List.replicate_zero, Nat.reduceSub, List.set_cons_zero, List.set_cons_succ, DL.with_arg, DL.with_own, DL.wipeD, List.map_cons, List.map_nil, DL.toArg, DL.back2, DL.back2a, DL.back, DL.back1]); rfl)) | (with_reducible apply DL.p_t; (first | rfl | focus (simp [*]; done) | assumption)) | (with_reducible apply DL.p_f; (first | rfl | focus (simp [*]; done) | assumption)) | (with_reducible apply DL.v_fz; rfl) | (with_reducible apply DL.v_own; rfl) | (with_reducible apply DL.v_arg; rfl) | with_reducible exact DL.r_c | with_reducible apply DL.r_andB | with_reducible apply DL.r_bin | with_reducible apply DL.r_un | with_reducible apply DL.r_test | with_reducible apply DL.r_notV | with_reducible apply DL.r_and | with_reducible apply DL.r_or | with_reducible apply DL.r_not | with_reducible apply DL.r_if | with_reducible apply DL.r_chainB | with_reducible exact DL.l_nil | with_reducible apply DL.l_cons | with_reducible apply DL.r_tup | with_reducible apply DL.r_lst | with_reducible apply DL.o_some | with_reducible exact DL.o_none | with_reducible apply DL.r_sl | with_reducible exact DL.a_nil | with_reducible apply DL.a_val | with_reducible apply DL.a_ref | (with_reducible apply DL.small_of; focus (first | omega | (simp <;> omega))) | with_reducible apply DL.r_callR | with_reducible apply DL.r_call | (first | exact e_is_row_ofL _ _ | exact e_is_row_of _ _ | exact e_is_rowL _ | exact e_is_row _ | exact e_is_below _ _ | exact e_is_whole _ | assumption) | (with_reducible apply DL.f_mod; (first | assumption | omega | focus (simp; omega))) | (with_reducible apply DL.f_div; (first | assumption | omega | focus (simp; omega))) | with_reducible apply DL.f_mulI | (with_reducible apply DL.wide_lt; (first | assumption | omega | focus (simp; omega))) | rfl | (focus ((try simp only [List.cons_append, List.nil_append, List.replicate_succ, List.replicate_zero, Nat.reduceSub, List.set_cons_zero, List.set_cons_succ, DL.with_arg, DL.with_own, DL.wipeD, List.map_cons, List.map_nil, DL.toArg, DL.back2, DL.back2a, DL.back, DL.back1]); rfl); done)))
        · exact hbk _ _ rfl
      (repeat' (first | with_reducible apply DL.s_setI | with_reducible apply DL.s_app | with_reducible apply DL.s_ext | (with_reducible apply DL.m_arg; rfl) | (with_reducible apply DL.m_own; rfl) | (with_reducible apply DL.f_set; rfl; focus ((try simp only [List.cons_append, List.nil_append, List.replicate_succ, List.replicate_zero, Nat.reduceSub, List.set_cons_zero, List.set_cons_succ, DL.with_arg, DL.with_own, DL.wipeD, List.map_cons, List.map_nil, DL.toArg, DL.back2, DL.back2a, DL.back, DL.back1]); rfl)) | with_reducible apply DL.f_app | with_reducible apply DL.f_ext | (with_reducible apply DL.set_goal; focus ((try simp only [List.cons_append, List.nil_append, List.replicate_succ, List.replicate_zero, Nat.reduceSub, List.set_cons_zero, List.set_cons_succ, DL.with_arg, DL.with_own, DL.wipeD, List.map_cons, List.map_nil, DL.toArg, DL.back2, DL.back2a, DL.back, DL.back1]); rfl)) | with_reducible apply DL.s_seqG | with_reducible apply DL.step_b | with_reducible apply DL.k_nx | with_reducible exact DL.k_rt | with_reducible exact DL.k_ct | with_reducible exact DL.k_bk | with_reducible apply DL.s_asgG | with_reducible apply DL.s_asg | with_reducible apply DL.s_drop | with_reducible apply DL.s_ret | with_reducible apply DL.s_if | with_reducible exact DL.s_skip | (with_reducible apply DL.f_eq; (first | rfl | assumption); (first | rfl | assumption)) | (with_reducible apply DL.f_ne; (first | rfl | assumption); (first | rfl | assumption)) | with_reducible apply DL.f_addT | (with_reducible apply DL.f_ixT; assumption) | (with_reducible apply DL.f_ixL; assumption) | with_reducible apply DL.f_addL | with_reducible apply DL.s_par | with_reducible apply DL.s_for | with_reducible apply DL.i_it | with_reducible apply DL.i_r1 | with_reducible apply DL.r_lc | with_reducible apply DL.r_lc2 | with_reducible apply DL.i_enumT | with_reducible exact DL.t_yes | with_reducible apply DL.turn_e | with_reducible apply DL.g_tup | with_reducible apply DL.g_lst | with_reducible apply DL.g_cons | with_reducible exact DL.g_nil | with_reducible apply DL.g_n | (with_reducible apply DL.set_fz; rfl; focus ((try simp only [List.cons_append, List.nil_append, List.replicate_succ, List.replicate_zero, Nat.reduceSub, List.set_cons_zero, List.set_cons_succ, DL.with_arg, DL.with_own, DL.wipeD, List.map_cons, List.map_nil, DL.toArg, DL.back2, DL.back2a, DL.back, DL.back1]); rfl)) | (with_reducible apply DL.set_own; rfl; focus ((try simp only [List.cons_append, List.nil_append, List.replicate_succ, List.replicate_zero, Nat.reduceSub, List.set_cons_zero, List.set_cons_succ, DL.with_arg, DL.with_own, DL.wipeD, List.map_cons, List.map_nil, DL.toArg, DL.back2, DL.back2a, DL.back, DL.back1]); rfl)) | (with_reducible apply DL.p_t; (first | rfl | focus (simp [*]; done) | assumption)) | (with_reducible apply DL.p_f; (first | rfl | focus (simp [*]; done) | assumption)) | (with_reducible apply DL.v_fz; rfl) | (with_reducible apply DL.v_own; rfl) | (with_reducible apply DL.v_arg; rfl) | with_reducible exact DL.r_c | with_reducible apply DL.r_andB | with_reducible apply DL.r_bin | with_reducible apply DL.r_un | with_reducible apply DL.r_test | with_reducible apply DL.r_notV | with_reducible apply DL.r_and | with_reducible apply DL.r_or | with_reducible apply DL.r_not | with_reducible apply DL.r_if | with_reducible apply DL.r_chainB | with_reducible exact DL.l_nil | with_reducible apply DL.l_cons | with_reducible apply DL.r_tup | with_reducible apply DL.r_lst | with_reducible apply DL.o_some | with_reducible exact DL.o_none | with_reducible apply DL.r_sl | with_reducible exact DL.a_nil | with_reducible apply DL.a_val | with_reducible apply DL.a_ref | (with_reducible apply DL.small_of; focus (first | omega | (simp <;> omega))) | with_reducible apply DL.r_callR | with_reducible apply DL.r_call | (first | exact e_is_row_ofL _ _ | exact e_is_row_of _ _ | exact e_is_rowL _ | exact e_is_row _ | exact e_is_below _ _ | exact e_is_whole _ | assumption) | (with_reducible apply DL.f_mod; (first | assumption | omega | focus (simp; omega))) | (with_reducible apply DL.f_div; (first | assumption | omega | focus (simp; omega))) | with_reducible apply DL.f_mulI | (with_reducible apply DL.wide_lt; (first | assumption | omega | focus (simp; omega))) | rfl | (focus ((try simp only [List.cons_append, List.nil_append, List.replicate_succ, List.replicate_zero, Nat.reduceSub, List.set_cons_zero, List.set_cons_succ, DL.with_arg, DL.with_own, DL.wipeD, List.map_cons, List.map_nil, DL.toArg, DL.back2, DL.back2a, DL.back, DL.back1]); rfl); done)))
    · show Co.lst [.list _, .list _, .int 0, .int s] = Co.lst [.list _, .list _, .int 0, .int s]
      rw [hf1, List.map_append, List.map_map]
      rfl
    · rfl
  · refine ⟨fun x hx => ?_, ?_, by simp, by simp; omega, fun x hx => ?_, Nat.le_refl 0, hs0, hs1⟩
    · obtain ⟨n, _, hq⟩ := List.mem_filterMap.mp hx
      split at hq
      · rename_i hc
        have := of_decide_eq_true hc
        cases hq
        omega
      · cases hq
    · exact Nat.le_trans (List.length_filterMap_le _ _) (by omega)
    · rcases List.mem_append.mp hx with hx | hx
      · obtain ⟨n, _, rfl⟩ := List.mem_map.mp hx
        exact ⟨Int.emod_nonneg _ (by decide), Int.emod_lt_of_pos _ (by decide)⟩
      · have : x = 41 := by simpa using hx
        subst this
        exact ⟨by decide, by decide⟩

theorem RlOk.mono {b c : Nat} {r : Rl} (h : RlOk b r) (hc : b ≤ c) : RlOk c r := ⟨h.gp, h.gl, h.t0, h.tl, h.tp, Nat.le_trans h.ib hc, h.s0, h.s1⟩
def okS (w : Str) : Prop := 0 < w.cps.size ∧ w.cps.size ≤ 26 ∧ ∀ c ∈ w.cps.toList, okC c
theorem okS_all : ∀ w ∈ [("a" : PySem.Str), ("ab" : PySem.Str), ("aab" : PySem.Str), ("abc" : PySem.Str), ("abcdxyz" : PySem.Str), ("abcdefghijklmnopqrstuvwxyz" : PySem.Str)], okS w := by
  unfold okS okC
  decide +kernel
def netP (pl many wd : Int) (w : Str) (b : Nat) (xs : List D) (j : Nat) (δ : DS) : Prop := ∃ (r : Rl) (ls : List Ln) (sl : Sl), δ = [.arg (.lst (encR r)), .fz (.int 60), .own (.lst xs), .fz (.int pl), .fz (.int many), .fz (.str w), .fz (.int wd), .own (.lst (ls.map encL)), sl] ∧ sl.held = false ∧ RlOk (b + 3 * j) r ∧ ls.length = j ∧ ∀ l ∈ ls, okL pl l
theorem net_loop {pl many wd : Int} {w : Str} {b : Nat} {xs : List D} (hw : okS w) (hp : 0 < pl) (hd : 0 < wd) (hdp : wd ≤ pl) (hpl : pl ≤ 1000) (hb : b ≤ 100000) (n : Nat) (hn : n ≤ 60) (δ : DS) (h : netP pl many wd w b xs 0 δ) :
    ∃ δ', forL (stepB (gN 8) (dApp 7 (dTup (dCons (dCall d__law_draw (aRef 0 (aVal (dVar 6) aNil))) (dCons (dCall d__law_draw (aRef 0 (aVal (dVar 6) aNil))) (dCons (dBin fIx (dVar 5) (dCall d__law_draw (aRef 0 (aVal (dUn fLen (dVar 5)) aNil)))) dNil)))))) ((List.range n).map fun (i : Nat) => PyData.int i) δ = .ok .nx δ' ∧ netP pl many wd w b xs n δ' := by
  have key := for_idx (P := netP pl many wd w b xs) (f := stepB (gN 8) (dApp 7 (dTup (dCons (dCall d__law_draw (aRef 0 (aVal (dVar 6) aNil))) (dCons (dCall d__law_draw (aRef 0 (aVal (dVar 6) aNil))) (dCons (dBin fIx (dVar 5) (dCall d__law_draw (aRef 0 (aVal (dUn fLen (dVar 5)) aNil)))) dNil)))))) ((List.range n).map fun (i : Nat) => PyData.int i) 0 (fun j d hj δ hP => by
    have hjn : j < n := by
      have := (List.getElem?_eq_some_iff.mp hj).1
      simpa using this
    rw [Nat.zero_add] at hP ⊢
    obtain ⟨r, ls, sl, rfl, hs, hr, hl, hok⟩ := hP
    obtain ⟨v1, r1, e1, a1, a2, h1⟩ := e_draw hr (by omega) wd hd (by omega)
    obtain ⟨v2, r2, e2, b1, b2, h2⟩ := e_draw h1 (by omega) wd hd (by omega)
    obtain ⟨v3, r3, e3, c1, c2, h3⟩ := e_draw h2 (by omega) w.cps.size (by have := hw.1; omega) (by have := hw.2.1; omega)
    obtain ⟨c, hc, e4⟩ := ix_str (z := w) (by have := hw.2.1; omega) c1 c2
    have e5 := len_str (z := w) (by have := hw.2.1; omega)
    have hsm : (ls.map encL).length ≤ 60 := by rw [List.length_map]; omega
    refine ⟨[.arg (.lst (encR r3)), .fz (.int 60), .own (.lst xs), .fz (.int pl), .fz (.int many), .fz (.str w), .fz (.int wd), .own (.lst (ls.map encL ++ [encL (v1, v2, c)])), .fz d], ?_, r3, ls ++ [(v1, v2, c)], .fz d, ?_, rfl, h3.mono (by omega), by simp [hl], fun l hlm => ?_⟩
    · apply step_b
      · cases sl with
        | no => (repeat' (first | with_reducible apply DL.s_setI | with_reducible apply DL.s_app | with_reducible apply DL.s_ext | (with_reducible apply DL.m_arg; rfl) | (with_reducible apply DL.m_own; rfl) | (with_reducible apply DL.f_set; rfl; focus ((try simp only [List.cons_append, List.nil_append, List.replicate_succ, List.replicate_zero, Nat.reduceSub, List.set_cons_zero, List.set_cons_succ, DL.with_arg, DL.with_own, DL.wipeD, List.map_cons, List.map_nil, DL.toArg, DL.back2, DL.back2a, DL.back, DL.back1]); rfl)) | with_reducible apply DL.f_app | with_reducible apply DL.f_ext | (with_reducible apply DL.set_goal; focus ((try simp only [List.cons_append, List.nil_append, List.replicate_succ, List.replicate_zero, Nat.reduceSub, List.set_cons_zero, List.set_cons_succ, DL.with_arg, DL.with_own, DL.wipeD, List.map_cons, List.map_nil, DL.toArg, DL.back2, DL.back2a, DL.back, DL.back1]); rfl)) | with_reducible apply DL.s_seqG | with_reducible apply DL.step_b | with_reducible apply DL.k_nx | with_reducible exact DL.k_rt | with_reducible exact DL.k_ct | with_reducible exact DL.k_bk | with_reducible apply DL.s_asgG | with_reducible apply DL.s_asg | with_reducible apply DL.s_drop | with_reducible apply DL.s_ret | with_reducible apply DL.s_if | with_reducible exact DL.s_skip | (with_reducible apply DL.f_eq; (first | rfl | assumption); (first | rfl | assumption)) | (with_reducible apply DL.f_ne; (first | rfl | assumption); (first | rfl | assumption)) | with_reducible apply DL.f_addT | (with_reducible apply DL.f_ixT; assumption) | (with_reducible apply DL.f_ixL; assumption) | with_reducible apply DL.f_addL | with_reducible apply DL.s_par | with_reducible apply DL.s_for | with_reducible apply DL.i_it | with_reducible apply DL.i_r1 | with_reducible apply DL.r_lc | with_reducible apply DL.r_lc2 | with_reducible apply DL.i_enumT | with_reducible exact DL.t_yes | with_reducible apply DL.turn_e | with_reducible apply DL.g_tup | with_reducible apply DL.g_lst | with_reducible apply DL.g_cons | with_reducible exact DL.g_nil | with_reducible apply DL.g_n | (with_reducible apply DL.set_fz; rfl; focus ((try simp only [List.cons_append, List.nil_append, List.replicate_succ, List.replicate_zero, Nat.reduceSub, List.set_cons_zero, List.set_cons_succ, DL.with_arg, DL.with_own, DL.wipeD, List.map_cons, List.map_nil, DL.toArg, DL.back2, DL.back2a, DL.back, DL.back1]); rfl)) | (with_reducible apply DL.set_own; rfl; focus ((try simp only [List.cons_append, List.nil_append, List.replicate_succ, List.replicate_zero, Nat.reduceSub, List.set_cons_zero, List.set_cons_succ, DL.with_arg, DL.with_own, DL.wipeD, List.map_cons, List.map_nil, DL.toArg, DL.back2, DL.back2a, DL.back, DL.back1]); rfl)) | (with_reducible apply DL.p_t; (first | rfl | focus (simp [*]; done) | assumption)) | (with_reducible apply DL.p_f; (first | rfl | focus (simp [*]; done) | assumption)) | (with_reducible apply DL.v_fz; rfl) | (with_reducible apply DL.v_own; rfl) | (with_reducible apply DL.v_arg; rfl) | with_reducible exact DL.r_c | with_reducible apply DL.r_andB | with_reducible apply DL.r_bin | with_reducible apply DL.r_un | with_reducible apply DL.r_test | with_reducible apply DL.r_notV | with_reducible apply DL.r_and | with_reducible apply DL.r_or | with_reducible apply DL.r_not | with_reducible apply DL.r_if | with_reducible apply DL.r_chainB | with_reducible exact DL.l_nil | with_reducible apply DL.l_cons | with_reducible apply DL.r_tup | with_reducible apply DL.r_lst | with_reducible apply DL.o_some | with_reducible exact DL.o_none | with_reducible apply DL.r_sl | with_reducible exact DL.a_nil | with_reducible apply DL.a_val | with_reducible apply DL.a_ref | (with_reducible apply DL.small_of; focus (first | omega | (simp <;> omega))) | with_reducible apply DL.r_callR | with_reducible apply DL.r_call | (first | exact e_is_row_ofL _ _ | exact e_is_row_of _ _ | exact e_is_rowL _ | exact e_is_row _ | exact e_is_below _ _ | exact e_is_whole _ | assumption) | (with_reducible apply DL.f_mod; (first | assumption | omega | focus (simp; omega))) | (with_reducible apply DL.f_div; (first | assumption | omega | focus (simp; omega))) | with_reducible apply DL.f_mulI | (with_reducible apply DL.wide_lt; (first | assumption | omega | focus (simp; omega))) | rfl | (focus ((try simp only [List.cons_append, List.nil_append, List.replicate_succ, List.replicate_zero, Nat.reduceSub, List.set_cons_zero, List.set_cons_succ, DL.with_arg, DL.with_own, DL.wipeD, List.map_cons, List.map_nil, DL.toArg, DL.back2, DL.back2a, DL.back, DL.back1]); rfl); done)))
        | fz d => (repeat' (first | with_reducible apply DL.s_setI | with_reducible apply DL.s_app | with_reducible apply DL.s_ext | (with_reducible apply DL.m_arg; rfl) | (with_reducible apply DL.m_own; rfl) | (with_reducible apply DL.f_set; rfl; focus ((try simp only [List.cons_append, List.nil_append, List.replicate_succ, List.replicate_zero, Nat.reduceSub, List.set_cons_zero, List.set_cons_succ, DL.with_arg, DL.with_own, DL.wipeD, List.map_cons, List.map_nil, DL.toArg, DL.back2, DL.back2a, DL.back, DL.back1]); rfl)) | with_reducible apply DL.f_app | with_reducible apply DL.f_ext | (with_reducible apply DL.set_goal; focus ((try simp only [List.cons_append, List.nil_append, List.replicate_succ, List.replicate_zero, Nat.reduceSub, List.set_cons_zero, List.set_cons_succ, DL.with_arg, DL.with_own, DL.wipeD, List.map_cons, List.map_nil, DL.toArg, DL.back2, DL.back2a, DL.back, DL.back1]); rfl)) | with_reducible apply DL.s_seqG | with_reducible apply DL.step_b | with_reducible apply DL.k_nx | with_reducible exact DL.k_rt | with_reducible exact DL.k_ct | with_reducible exact DL.k_bk | with_reducible apply DL.s_asgG | with_reducible apply DL.s_asg | with_reducible apply DL.s_drop | with_reducible apply DL.s_ret | with_reducible apply DL.s_if | with_reducible exact DL.s_skip | (with_reducible apply DL.f_eq; (first | rfl | assumption); (first | rfl | assumption)) | (with_reducible apply DL.f_ne; (first | rfl | assumption); (first | rfl | assumption)) | with_reducible apply DL.f_addT | (with_reducible apply DL.f_ixT; assumption) | (with_reducible apply DL.f_ixL; assumption) | with_reducible apply DL.f_addL | with_reducible apply DL.s_par | with_reducible apply DL.s_for | with_reducible apply DL.i_it | with_reducible apply DL.i_r1 | with_reducible apply DL.r_lc | with_reducible apply DL.r_lc2 | with_reducible apply DL.i_enumT | with_reducible exact DL.t_yes | with_reducible apply DL.turn_e | with_reducible apply DL.g_tup | with_reducible apply DL.g_lst | with_reducible apply DL.g_cons | with_reducible exact DL.g_nil | with_reducible apply DL.g_n | (with_reducible apply DL.set_fz; rfl; focus ((try simp only [List.cons_append, List.nil_append, List.replicate_succ, List.replicate_zero, Nat.reduceSub, List.set_cons_zero, List.set_cons_succ, DL.with_arg, DL.with_own, DL.wipeD, List.map_cons, List.map_nil, DL.toArg, DL.back2, DL.back2a, DL.back, DL.back1]); rfl)) | (with_reducible apply DL.set_own; rfl; focus ((try simp only [List.cons_append, List.nil_append, List.replicate_succ, List.replicate_zero, Nat.reduceSub, List.set_cons_zero, List.set_cons_succ, DL.with_arg, DL.with_own, DL.wipeD, List.map_cons, List.map_nil, DL.toArg, DL.back2, DL.back2a, DL.back, DL.back1]); rfl)) | (with_reducible apply DL.p_t; (first | rfl | focus (simp [*]; done) | assumption)) | (with_reducible apply DL.p_f; (first | rfl | focus (simp [*]; done) | assumption)) | (with_reducible apply DL.v_fz; rfl) | (with_reducible apply DL.v_own; rfl) | (with_reducible apply DL.v_arg; rfl) | with_reducible exact DL.r_c | with_reducible apply DL.r_andB | with_reducible apply DL.r_bin | with_reducible apply DL.r_un | with_reducible apply DL.r_test | with_reducible apply DL.r_notV | with_reducible apply DL.r_and | with_reducible apply DL.r_or | with_reducible apply DL.r_not | with_reducible apply DL.r_if | with_reducible apply DL.r_chainB | with_reducible exact DL.l_nil | with_reducible apply DL.l_cons | with_reducible apply DL.r_tup | with_reducible apply DL.r_lst | with_reducible apply DL.o_some | with_reducible exact DL.o_none | with_reducible apply DL.r_sl | with_reducible exact DL.a_nil | with_reducible apply DL.a_val | with_reducible apply DL.a_ref | (with_reducible apply DL.small_of; focus (first | omega | (simp <;> omega))) | with_reducible apply DL.r_callR | with_reducible apply DL.r_call | (first | exact e_is_row_ofL _ _ | exact e_is_row_of _ _ | exact e_is_rowL _ | exact e_is_row _ | exact e_is_below _ _ | exact e_is_whole _ | assumption) | (with_reducible apply DL.f_mod; (first | assumption | omega | focus (simp; omega))) | (with_reducible apply DL.f_div; (first | assumption | omega | focus (simp; omega))) | with_reducible apply DL.f_mulI | (with_reducible apply DL.wide_lt; (first | assumption | omega | focus (simp; omega))) | rfl | (focus ((try simp only [List.cons_append, List.nil_append, List.replicate_succ, List.replicate_zero, Nat.reduceSub, List.set_cons_zero, List.set_cons_succ, DL.with_arg, DL.with_own, DL.wipeD, List.map_cons, List.map_nil, DL.toArg, DL.back2, DL.back2a, DL.back, DL.back1]); rfl); done)))
        | own c => cases hs
        | arg c => cases hs
      · (repeat' (first | with_reducible apply DL.s_setI | with_reducible apply DL.s_app | with_reducible apply DL.s_ext | (with_reducible apply DL.m_arg; rfl) | (with_reducible apply DL.m_own; rfl) | (with_reducible apply DL.f_set; rfl; focus ((try simp only [List.cons_append, List.nil_append, List.replicate_succ, List.replicate_zero, Nat.reduceSub, List.set_cons_zero, List.set_cons_succ, DL.with_arg, DL.with_own, DL.wipeD, List.map_cons, List.map_nil, DL.toArg, DL.back2, DL.back2a, DL.back, DL.back1]); rfl)) | with_reducible apply DL.f_app | with_reducible apply DL.f_ext | (with_reducible apply DL.set_goal; focus ((try simp only [List.cons_append, List.nil_append, List.replicate_succ, List.replicate_zero, Nat.reduceSub, List.set_cons_zero, List.set_cons_succ, DL.with_arg, DL.with_own, DL.wipeD, List.map_cons, List.map_nil, DL.toArg, DL.back2, DL.back2a, DL.back, DL.back1]); rfl)) | with_reducible apply DL.s_seqG | with_reducible apply DL.step_b | with_reducible apply DL.k_nx | with_reducible exact DL.k_rt | with_reducible exact DL.k_ct | with_reducible exact DL.k_bk | with_reducible apply DL.s_asgG | with_reducible apply DL.s_asg | with_reducible apply DL.s_drop | with_reducible apply DL.s_ret | with_reducible apply DL.s_if | with_reducible exact DL.s_skip | (with_reducible apply DL.f_eq; (first | rfl | assumption); (first | rfl | assumption)) | (with_reducible apply DL.f_ne; (first | rfl | assumption); (first | rfl | assumption)) | with_reducible apply DL.f_addT | (with_reducible apply DL.f_ixT; assumption) | (with_reducible apply DL.f_ixL; assumption) | with_reducible apply DL.f_addL | with_reducible apply DL.s_par | with_reducible apply DL.s_for | with_reducible apply DL.i_it | with_reducible apply DL.i_r1 | with_reducible apply DL.r_lc | with_reducible apply DL.r_lc2 | with_reducible apply DL.i_enumT | with_reducible exact DL.t_yes | with_reducible apply DL.turn_e | with_reducible apply DL.g_tup | with_reducible apply DL.g_lst | with_reducible apply DL.g_cons | with_reducible exact DL.g_nil | with_reducible apply DL.g_n | (with_reducible apply DL.set_fz; rfl; focus ((try simp only [List.cons_append, List.nil_append, List.replicate_succ, List.replicate_zero, Nat.reduceSub, List.set_cons_zero, List.set_cons_succ, DL.with_arg, DL.with_own, DL.wipeD, List.map_cons, List.map_nil, DL.toArg, DL.back2, DL.back2a, DL.back, DL.back1]); rfl)) | (with_reducible apply DL.set_own; rfl; focus ((try simp only [List.cons_append, List.nil_append, List.replicate_succ, List.replicate_zero, Nat.reduceSub, List.set_cons_zero, List.set_cons_succ, DL.with_arg, DL.with_own, DL.wipeD, List.map_cons, List.map_nil, DL.toArg, DL.back2, DL.back2a, DL.back, DL.back1]); rfl)) | (with_reducible apply DL.p_t; (first | rfl | focus (simp [*]; done) | assumption)) | (with_reducible apply DL.p_f; (first | rfl | focus (simp [*]; done) | assumption)) | (with_reducible apply DL.v_fz; rfl) | (with_reducible apply DL.v_own; rfl) | (with_reducible apply DL.v_arg; rfl) | with_reducible exact DL.r_c | with_reducible apply DL.r_andB | with_reducible apply DL.r_bin | with_reducible apply DL.r_un | with_reducible apply DL.r_test | with_reducible apply DL.r_notV | with_reducible apply DL.r_and | with_reducible apply DL.r_or | with_reducible apply DL.r_not | with_reducible apply DL.r_if | with_reducible apply DL.r_chainB | with_reducible exact DL.l_nil | with_reducible apply DL.l_cons | with_reducible apply DL.r_tup | with_reducible apply DL.r_lst | with_reducible apply DL.o_some | with_reducible exact DL.o_none | with_reducible apply DL.r_sl | with_reducible exact DL.a_nil | with_reducible apply DL.a_val | with_reducible apply DL.a_ref | (with_reducible apply DL.small_of; focus (first | omega | (simp <;> omega))) | with_reducible apply DL.r_callR | with_reducible apply DL.r_call | (first | exact e_is_row_ofL _ _ | exact e_is_row_of _ _ | exact e_is_rowL _ | exact e_is_row _ | exact e_is_below _ _ | exact e_is_whole _ | assumption) | (with_reducible apply DL.f_mod; (first | assumption | omega | focus (simp; omega))) | (with_reducible apply DL.f_div; (first | assumption | omega | focus (simp; omega))) | with_reducible apply DL.f_mulI | (with_reducible apply DL.wide_lt; (first | assumption | omega | focus (simp; omega))) | rfl | (focus ((try simp only [List.cons_append, List.nil_append, List.replicate_succ, List.replicate_zero, Nat.reduceSub, List.set_cons_zero, List.set_cons_succ, DL.with_arg, DL.with_own, DL.wipeD, List.map_cons, List.map_nil, DL.toArg, DL.back2, DL.back2a, DL.back, DL.back1]); rfl); done)))
        exact m_own rfl (f_app (small_of (by omega))) rfl
    · rw [List.map_append]
      rfl
    · rcases List.mem_append.mp hlm with q | q
      · exact hok l q
      · have : l = (v1, v2, c) := by simpa using q
        subst this
        exact ⟨a1, by show v1 < pl; omega, b1, by show v2 < pl; omega, hw.2.2 c hc⟩) δ h
  rw [List.length_map, List.length_range, Nat.zero_add] at key
  exact key

theorem e_net {b : Nat} {r : Rl} (h : RlOk b r) (hb : b ≤ 90000) : ∃ pl ls r', d__law_net [.arg (.lst (encR r)), .fz (.int 60)] = .ok (.fz (encW pl ls)) [.arg (.lst (encR r')), .no] ∧ RlOk (b + 200) r' ∧ OkW pl ls ∧ pl ≤ 28 ∧ ls.length ≤ 60 := by
  obtain ⟨v1, r1, e1, a1, b1, h1⟩ := e_draw h (by omega) 4 (by decide) (by decide)
  obtain ⟨v2, r2, e2, a2, b2, h2⟩ := e_draw h1 (by omega) 4 (by decide) (by decide)
  obtain ⟨v3, r3, e3, a3, b3, h3⟩ := e_draw h2 (by omega) 7 (by decide) (by decide)
  obtain ⟨v4, r4, e4, a4, b4, h4⟩ := e_draw h3 (by omega) 25 (by decide) (by decide)
  obtain ⟨v5, r5, e5, a5, b5, h5⟩ := e_draw h4 (by omega) 4 (by decide) (by decide)
  obtain ⟨v6, r6, e6, a6, b6, h6⟩ := e_draw h5 (by omega) 9 (by decide) (by decide)
  obtain ⟨v7, r7, e7, a7, b7, h7⟩ := e_draw h6 (by omega) 16 (by decide) (by decide)
  obtain ⟨v8, r8, e8, a8, b8, h8⟩ := e_draw h7 (by omega) (60 + 1) (by decide) (by decide)
  obtain ⟨v9, r9, e9, a9, b9, h9⟩ := e_draw h8 (by omega) 3 (by decide) (by decide)
  obtain ⟨v10, r10, e10, a10, b10, h10⟩ := e_draw h9 (by omega) 6 (by decide) (by decide)
  obtain ⟨pl, hpl, x1⟩ := ix_in (xs := [v1, 1 + v2, 2 + v3, v4]) (j := v5) a5 (by show v5 < 4; exact b5)
  simp only [List.map_cons, List.map_nil] at x1
  obtain ⟨many, hmany, x2⟩ := ix_in (xs := [v6, v7, v8]) (j := v9) a9 (by show v9 < 3; exact b9)
  simp only [List.map_cons, List.map_nil] at x2
  have pl0 : 0 ≤ pl ∧ pl ≤ 28 := by
    simp only [List.mem_cons, List.not_mem_nil, or_false] at hpl
    omega
  have mn0 : 0 ≤ many ∧ many ≤ 60 := by
    simp only [List.mem_cons, List.not_mem_nil, or_false] at hmany
    omega
  obtain ⟨w0, hw0, x3⟩ := ix_inD (xs := [.str ("a" : PySem.Str), .str ("ab" : PySem.Str), .str ("aab" : PySem.Str), .str ("abc" : PySem.Str), .str ("abcdxyz" : PySem.Str), .str ("abcdefghijklmnopqrstuvwxyz" : PySem.Str)]) (j := v10) a10 (by show v10 < 6; exact b10)
  obtain ⟨w, rfl, hw⟩ : ∃ w, w0 = .str w ∧ okS w := by
    have q := okS_all
    simp only [List.mem_cons, List.not_mem_nil, or_false] at hw0
    rcases hw0 with rfl | rfl | rfl | rfl | rfl | rfl <;> exact ⟨_, rfl, q _ (by simp)⟩
  have hm1 : 0 < (if pl > 1 then pl else 1) ∧ (if pl > 1 then pl else 1) ≤ 28 := by split <;> omega
  obtain ⟨v11, r11, e11, a11, b11, h11⟩ := e_draw h10 (by omega) (if pl > 1 then pl else 1) hm1.1 (by omega)
  have x4 : fMax2 (.int 1) (.int pl) = some (.fz (.int (if pl > 1 then pl else 1))) := rfl
  have x5 : fMin2 (.int many) (.int 60) = some (.fz (.int (if 60 < many then 60 else many))) := rfl
  have hmi : 0 ≤ (if 60 < many then 60 else many) ∧ (if 60 < many then 60 else many) ≤ 60 := by split <;> omega
  generalize (if 60 < many then 60 else many) = mn at x5 hmi
  have w1 : wide mn = true := wide_lt (by omega)
  obtain ⟨t, k, hq, hi, hk, r12, ls, sl, eL, hr12, hls, hok⟩ : ∃ (t : Bool) (k : Int), fGt (.int pl) (.int 0) = some (.fz (.bool t)) ∧ fInt (.bool t) = some (.fz (.int k)) ∧ (0 ≤ k ∧ k ≤ 1) ∧ ∃ (r12 : Rl) (ls : List Ln) (sl : Sl),
      forL (stepB (gN 8) (dApp 7 (dTup (dCons (dCall d__law_draw (aRef 0 (aVal (dVar 6) aNil))) (dCons (dCall d__law_draw (aRef 0 (aVal (dVar 6) aNil))) (dCons (dBin fIx (dVar 5) (dCall d__law_draw (aRef 0 (aVal (dUn fLen (dVar 5)) aNil)))) dNil)))))) ((List.range (mn * k).toNat).map fun (i : Nat) => PyData.int i) [.arg (.lst (encR r11)), .fz (.int 60), .own (.lst [.int v1, .int (1 + v2), .int (2 + v3), .int v4]), .fz (.int pl), .fz (.int many), .fz (.str w), .fz (.int (1 + v11)), .own (.lst []), .no]
        = .ok .nx [.arg (.lst (encR r12)), .fz (.int 60), .own (.lst [.int v1, .int (1 + v2), .int (2 + v3), .int v4]), .fz (.int pl), .fz (.int many), .fz (.str w), .fz (.int (1 + v11)), .own (.lst (ls.map encL)), sl] ∧ RlOk (b + 200) r12 ∧ ls.length ≤ 60 ∧ ∀ l ∈ ls, okL pl l := by
    by_cases hp : 0 < pl
    · refine ⟨true, 1, by show some (Vl.fz (.bool (decide (0 < pl)))) = _; rw [decide_eq_true hp], rfl, by decide, ?_⟩
      have hwd : 1 + v11 ≤ pl := by
        by_cases q : pl > 1
        · rw [if_pos q] at b11; omega
        · rw [if_neg q] at b11; omega
      obtain ⟨δ', eL, r12, ls, sl, rfl, hs, hr, hl, hok⟩ := net_loop (xs := [.int v1, .int (1 + v2), .int (2 + v3), .int v4]) (many := many) (b := b + 11) hw hp (wd := 1 + v11) (by omega) hwd (by omega) (by omega) (mn * 1).toNat (by omega) _ ⟨r11, [], .no, rfl, rfl, h11, rfl, by simp⟩
      exact ⟨r12, ls, sl, eL, hr.mono (by omega), by omega, hok⟩
    · refine ⟨false, 0, by show some (Vl.fz (.bool (decide (0 < pl)))) = _; rw [decide_eq_false hp], rfl, by decide, r11, [], .no, ?_, h11.mono (by omega), by simp, by simp⟩
      rw [Int.mul_zero]
      rfl
  have hb3 : (-1000000 : Int) ≤ mn * k := by
    have : k = 0 ∨ k = 1 := by omega
    rcases this with rfl | rfl <;> omega
  have hb4 : mn * k ≤ (1000000 : Int) := by
    have : k = 0 ∨ k = 1 := by omega
    rcases this with rfl | rfl <;> omega
  have wk : wide k = true := wide_lt (by omega)
  refine ⟨pl, ls, r12, ?_, hr12, ⟨pl0.1, by omega, hok⟩, pl0.2, hls⟩
  unfold d__law_net
  apply run_v rfl
  · focus ((try simp only [List.cons_append, List.nil_append, List.replicate_succ, List.replicate_zero, Nat.reduceSub, List.set_cons_zero, List.set_cons_succ, DL.with_arg, DL.with_own, DL.wipeD, List.map_cons, List.map_nil, DL.toArg, DL.back2, DL.back2a, DL.back, DL.back1]); rfl)
  · unfold sd__law_net
    (repeat' (first | with_reducible apply DL.s_setI | with_reducible apply DL.s_app | with_reducible apply DL.s_ext | (with_reducible apply DL.m_arg; rfl) | (with_reducible apply DL.m_own; rfl) | (with_reducible apply DL.f_set; rfl; focus ((try simp only [List.cons_append, List.nil_append, List.replicate_succ, List.replicate_zero, Nat.reduceSub, List.set_cons_zero, List.set_cons_succ, DL.with_arg, DL.with_own, DL.wipeD, List.map_cons, List.map_nil, DL.toArg, DL.back2, DL.back2a, DL.back, DL.back1]); rfl)) | with_reducible apply DL.f_app | with_reducible apply DL.f_ext | (with_reducible apply DL.set_goal; focus ((try simp only [List.cons_append, List.nil_append, List.replicate_succ, List.replicate_zero, Nat.reduceSub, List.set_cons_zero, List.set_cons_succ, DL.with_arg, DL.with_own, DL.wipeD, List.map_cons, List.map_nil, DL.toArg, DL.back2, DL.back2a, DL.back, DL.back1]); rfl)) | with_reducible apply DL.s_seqG | with_reducible apply DL.step_b | with_reducible apply DL.k_nx | with_reducible exact DL.k_rt | with_reducible exact DL.k_ct | with_reducible exact DL.k_bk | with_reducible apply DL.s_asgG | with_reducible apply DL.s_asg | with_reducible apply DL.s_drop | with_reducible apply DL.s_ret | with_reducible apply DL.s_if | with_reducible exact DL.s_skip | (with_reducible apply DL.f_eq; (first | rfl | assumption); (first | rfl | assumption)) | (with_reducible apply DL.f_ne; (first | rfl | assumption); (first | rfl | assumption)) | with_reducible apply DL.f_addT | (with_reducible apply DL.f_ixT; assumption) | (with_reducible apply DL.f_ixL; assumption) | with_reducible apply DL.f_addL | with_reducible apply DL.s_par | with_reducible apply DL.s_for | with_reducible apply DL.i_it | with_reducible apply DL.i_r1 | with_reducible apply DL.r_lc | with_reducible apply DL.r_lc2 | with_reducible apply DL.i_enumT | with_reducible exact DL.t_yes | with_reducible apply DL.turn_e | with_reducible apply DL.g_tup | with_reducible apply DL.g_lst | with_reducible apply DL.g_cons | with_reducible exact DL.g_nil | with_reducible apply DL.g_n | (with_reducible apply DL.set_fz; rfl; focus ((try simp only [List.cons_append, List.nil_append, List.replicate_succ, List.replicate_zero, Nat.reduceSub, List.set_cons_zero, List.set_cons_succ, DL.with_arg, DL.with_own, DL.wipeD, List.map_cons, List.map_nil, DL.toArg, DL.back2, DL.back2a, DL.back, DL.back1]); rfl)) | (with_reducible apply DL.set_own; rfl; focus ((try simp only [List.cons_append, List.nil_append, List.replicate_succ, List.replicate_zero, Nat.reduceSub, List.set_cons_zero, List.set_cons_succ, DL.with_arg, DL.with_own, DL.wipeD, List.map_cons, List.map_nil, DL.toArg, DL.back2, DL.back2a, DL.back, DL.back1]); rfl)) | (with_reducible apply DL.p_t; (first | rfl | focus (simp [*]; done) | assumption)) | (with_reducible apply DL.p_f; (first | rfl | focus (simp [*]; done) | assumption)) | (with_reducible apply DL.v_fz; rfl) | (with_reducible apply DL.v_own; rfl) | (with_reducible apply DL.v_arg; rfl) | with_reducible exact DL.r_c | with_reducible apply DL.r_andB | with_reducible apply DL.r_bin | with_reducible apply DL.r_un | with_reducible apply DL.r_test | with_reducible apply DL.r_notV | with_reducible apply DL.r_and | with_reducible apply DL.r_or | with_reducible apply DL.r_not | with_reducible apply DL.r_if | with_reducible apply DL.r_chainB | with_reducible exact DL.l_nil | with_reducible apply DL.l_cons | with_reducible apply DL.r_tup | with_reducible apply DL.r_lst | with_reducible apply DL.o_some | with_reducible exact DL.o_none | with_reducible apply DL.r_sl | with_reducible exact DL.a_nil | with_reducible apply DL.a_val | with_reducible apply DL.a_ref | (with_reducible apply DL.small_of; focus (first | omega | (simp <;> omega))) | with_reducible apply DL.r_callR | with_reducible apply DL.r_call | (first | exact e_is_row_ofL _ _ | exact e_is_row_of _ _ | exact e_is_rowL _ | exact e_is_row _ | exact e_is_below _ _ | exact e_is_whole _ | assumption) | (with_reducible apply DL.f_mod; (first | assumption | omega | focus (simp; omega))) | (with_reducible apply DL.f_div; (first | assumption | omega | focus (simp; omega))) | with_reducible apply DL.f_mulI | (with_reducible apply DL.wide_lt; (first | assumption | omega | focus (simp; omega))) | rfl | (focus ((try simp only [List.cons_append, List.nil_append, List.replicate_succ, List.replicate_zero, Nat.reduceSub, List.set_cons_zero, List.set_cons_succ, DL.with_arg, DL.with_own, DL.wipeD, List.map_cons, List.map_nil, DL.toArg, DL.back2, DL.back2a, DL.back, DL.back1]); rfl); done)))
  all_goals rfl

theorem shaped_of {d : D} (h1 : d.canLay0 = true) (h2 : d.depth ≤ 64) : SeqAt.shaped d = true := by
  unfold SeqAt.shaped
  rw [h1, decide_eq_true h2]
  rfl
theorem lay_L {p : Int} {ls : List Ln} (h : ∀ l ∈ ls, okL p l) : PyData.canLayAll0 (ls.map encL) = true := by
  induction ls with
  | nil => rfl
  | cons l ls ih =>
    have z := SeqAt.canLay_of_shaped (shaped_ch (c := l.2.2) (by have := (h l List.mem_cons_self).2.2.2.2.2; omega))
    rw [List.map_cons, PyData.canLayAll0, ih fun l hl => h l (List.mem_cons_of_mem _ hl)]
    have : (encL l).canLay0 = true := by
      simp only [PyData.canLay0] at z
      simp only [encL, PyData.canLay0, PyData.canLayAll0, z, Bool.and_self, Bool.and_true]
    rw [this]
    rfl
theorem dep_L (ls : List Ln) : PyData.depthAll (ls.map encL) ≤ 1 := by
  induction ls with
  | nil => simp [PyData.depthAll]
  | cons l ls ih =>
    rw [List.map_cons, PyData.depthAll]
    have : (encL l).depth = 1 := by simp [PyData.depth, PyData.depthAll]
    omega
theorem shaped_T {p : Int} {ls : List Ln} (h : ∀ l ∈ ls, okL p l) : SeqAt.shaped (.tuple (ls.map encL)) = true := by
  refine shaped_of (lay_L h) ?_
  have := dep_L ls
  rw [PyData.depth]
  omega
theorem str_a : ("a" : PySem.Str) = ⟨#[97]⟩ := by decide +kernel
/-! ### dressed -/
abbrev vsq (b : Bool) (ds : List D) : Vl := match b with
  | true => .own (.lst ds)
  | false => .fz (.tuple ds)
theorem turn_s {vs : List Nat} {te : De} {g : Dg} {d y : D} {δ δ2 δ4 δ5 δ6 : DS} {x : Vl} {δ0 : DS} (hw : wipeD (δ.map toArg) vs = δ0) (hg : g d δ0 = .ok .nx δ2) (he : te δ2 = .ok x δ4) (hk : kp x δ4 = .ok y δ5) (hb : back δ δ5 = δ6) : turnL vs g dYes te d δ = .ok (some y) δ6 := by
  subst hw hb
  unfold turnL onTurn
  simp only [hg, t_yes]
  show backR δ ((te δ2).bind fun x δ4 => (kp x δ4).bind fun d δ5 => R.ok (some d) δ5) = _
  rw [he]
  simp only [R.bind, hk, backR]
theorem comp_two {f : D → DS → R (Option D)} {d1 d2 y1 y2 : D} {δ δ1 δ2 : DS} (h1 : f d1 δ = .ok (some y1) δ1) (h2 : f d2 δ1 = .ok (some y2) δ2) : compL f [d1, d2] δ = .ok [y1, y2] δ2 := by
  unfold compL
  rw [h1]
  simp only
  unfold compL
  rw [h2]
  rfl
theorem comp_th {α β : Type} {f : D → DS → R (Option D)} {st : Rl → DS} {enc : α → D} {p : β → α} {g : β → D} {c B : Nat} : ∀ (xs : List α) (b : Nat) (r : Rl), RlOk b r → b + c * xs.length ≤ B →
    (∀ x ∈ xs, ∀ (b' : Nat) (r' : Rl), RlOk b' r' → b' ≤ B → ∃ (z : β) (r'' : Rl), p z = x ∧ f (enc x) (st r') = .ok (some (g z)) (st r'') ∧ RlOk (b' + c) r'') →
    ∃ (zs : List β) (r' : Rl), zs.map p = xs ∧ compL f (xs.map enc) (st r) = .ok (zs.map g) (st r') ∧ RlOk (b + c * xs.length) r'
  | [], b, r, h, _, _ => ⟨[], r, rfl, rfl, h⟩
  | x :: xs, b, r, h, hB, hf => by
    rw [List.length_cons, Nat.mul_add, Nat.mul_one] at hB ⊢
    obtain ⟨z, r1, ez, e1, h1⟩ := hf x List.mem_cons_self b r h (by omega)
    obtain ⟨zs, r2, ezs, e2, h2⟩ := comp_th (f := f) (st := st) (enc := enc) (p := p) (g := g) xs (b + c) r1 h1 (by omega) fun y hy => hf y (List.mem_cons_of_mem _ hy)
    refine ⟨z :: zs, r2, by rw [List.map_cons, ez, ezs], ?_, h2.mono (by omega)⟩
    rw [List.map_cons]
    unfold compL
    rw [e1]
    simp only
    rw [e2]
    rfl
theorem dr_succ (n : Nat) (as : List Sl) : d__law_dressed (n + 1) as = noEx as (runDef 2 4 (sd__law_dressed (d__law_dressed n)) as) := by
  simp only [d__law_dressed, itN]
theorem dr_int (n : Nat) (r : Rl) (i : Int) : d__law_dressed (n + 1) [.arg (.lst (encR r)), .fz (.int i)] = .ok (.fz (.int i)) [.arg (.lst (encR r)), .no] := by
  rw [dr_succ]
  apply run_v rfl
  · focus ((try simp only [List.cons_append, List.nil_append, List.replicate_succ, List.replicate_zero, Nat.reduceSub, List.set_cons_zero, List.set_cons_succ, DL.with_arg, DL.with_own, DL.wipeD, List.map_cons, List.map_nil, DL.toArg, DL.back2, DL.back2a, DL.back, DL.back1]); rfl)
  · unfold sd__law_dressed
    (repeat' (first | with_reducible apply DL.s_setI | with_reducible apply DL.s_app | with_reducible apply DL.s_ext | (with_reducible apply DL.m_arg; rfl) | (with_reducible apply DL.m_own; rfl) | (with_reducible apply DL.f_set; rfl; focus ((try simp only [List.cons_append, List.nil_append, List.replicate_succ, List.replicate_zero, Nat.reduceSub, List.set_cons_zero, List.set_cons_succ, DL.with_arg, DL.with_own, DL.wipeD, List.map_cons, List.map_nil, DL.toArg, DL.back2, DL.back2a, DL.back, DL.back1]); rfl)) | with_reducible apply DL.f_app | with_reducible apply DL.f_ext | (with_reducible apply DL.set_goal; focus ((try simp only [List.cons_append, List.nil_append, List.replicate_succ, List.replicate_zero, Nat.reduceSub, List.set_cons_zero, List.set_cons_succ, DL.with_arg, DL.with_own, DL.wipeD, List.map_cons, List.map_nil, DL.toArg, DL.back2, DL.back2a, DL.back, DL.back1]); rfl)) | with_reducible apply DL.s_seqG | with_reducible apply DL.step_b | with_reducible apply DL.k_nx | with_reducible exact DL.k_rt | with_reducible exact DL.k_ct | with_reducible exact DL.k_bk | with_reducible apply DL.s_asgG | with_reducible apply DL.s_asg | with_reducible apply DL.s_drop | with_reducible apply DL.s_ret | with_reducible apply DL.s_if | with_reducible exact DL.s_skip | (with_reducible apply DL.f_eq; (first | rfl | assumption); (first | rfl | assumption)) | (with_reducible apply DL.f_ne; (first | rfl | assumption); (first | rfl | assumption)) | with_reducible apply DL.f_addT | (with_reducible apply DL.f_ixT; assumption) | (with_reducible apply DL.f_ixL; assumption) | with_reducible apply DL.f_addL | with_reducible apply DL.s_par | with_reducible apply DL.s_for | with_reducible apply DL.i_it | with_reducible apply DL.i_r1 | with_reducible apply DL.r_lc | with_reducible apply DL.r_lc2 | with_reducible apply DL.i_enumT | with_reducible exact DL.t_yes | with_reducible apply DL.turn_e | with_reducible apply DL.g_tup | with_reducible apply DL.g_lst | with_reducible apply DL.g_cons | with_reducible exact DL.g_nil | with_reducible apply DL.g_n | (with_reducible apply DL.set_fz; rfl; focus ((try simp only [List.cons_append, List.nil_append, List.replicate_succ, List.replicate_zero, Nat.reduceSub, List.set_cons_zero, List.set_cons_succ, DL.with_arg, DL.with_own, DL.wipeD, List.map_cons, List.map_nil, DL.toArg, DL.back2, DL.back2a, DL.back, DL.back1]); rfl)) | (with_reducible apply DL.set_own; rfl; focus ((try simp only [List.cons_append, List.nil_append, List.replicate_succ, List.replicate_zero, Nat.reduceSub, List.set_cons_zero, List.set_cons_succ, DL.with_arg, DL.with_own, DL.wipeD, List.map_cons, List.map_nil, DL.toArg, DL.back2, DL.back2a, DL.back, DL.back1]); rfl)) | (with_reducible apply DL.p_t; (first | rfl | focus (simp [*]; done) | assumption)) | (with_reducible apply DL.p_f; (first | rfl | focus (simp [*]; done) | assumption)) | (with_reducible apply DL.v_fz; rfl) | (with_reducible apply DL.v_own; rfl) | (with_reducible apply DL.v_arg; rfl) | with_reducible exact DL.r_c | with_reducible apply DL.r_andB | with_reducible apply DL.r_bin | with_reducible apply DL.r_un | with_reducible apply DL.r_test | with_reducible apply DL.r_notV | with_reducible apply DL.r_and | with_reducible apply DL.r_or | with_reducible apply DL.r_not | with_reducible apply DL.r_if | with_reducible apply DL.r_chainB | with_reducible exact DL.l_nil | with_reducible apply DL.l_cons | with_reducible apply DL.r_tup | with_reducible apply DL.r_lst | with_reducible apply DL.o_some | with_reducible exact DL.o_none | with_reducible apply DL.r_sl | with_reducible exact DL.a_nil | with_reducible apply DL.a_val | with_reducible apply DL.a_ref | (with_reducible apply DL.small_of; focus (first | omega | (simp <;> omega))) | with_reducible apply DL.r_callR | with_reducible apply DL.r_call | (first | exact e_is_row_ofL _ _ | exact e_is_row_of _ _ | exact e_is_rowL _ | exact e_is_row _ | exact e_is_below _ _ | exact e_is_whole _ | assumption) | (with_reducible apply DL.f_mod; (first | assumption | omega | focus (simp; omega))) | (with_reducible apply DL.f_div; (first | assumption | omega | focus (simp; omega))) | with_reducible apply DL.f_mulI | (with_reducible apply DL.wide_lt; (first | assumption | omega | focus (simp; omega))) | rfl | (focus ((try simp only [List.cons_append, List.nil_append, List.replicate_succ, List.replicate_zero, Nat.reduceSub, List.set_cons_zero, List.set_cons_succ, DL.with_arg, DL.with_own, DL.wipeD, List.map_cons, List.map_nil, DL.toArg, DL.back2, DL.back2a, DL.back, DL.back1]); rfl); done)))
  all_goals rfl
theorem dr_str (n : Nat) (r : Rl) (x : Str) : d__law_dressed (n + 1) [.arg (.lst (encR r)), .fz (.str x)] = .ok (.fz (.str x)) [.arg (.lst (encR r)), .no] := by
  rw [dr_succ]
  apply run_v rfl
  · focus ((try simp only [List.cons_append, List.nil_append, List.replicate_succ, List.replicate_zero, Nat.reduceSub, List.set_cons_zero, List.set_cons_succ, DL.with_arg, DL.with_own, DL.wipeD, List.map_cons, List.map_nil, DL.toArg, DL.back2, DL.back2a, DL.back, DL.back1]); rfl)
  · unfold sd__law_dressed
    (repeat' (first | with_reducible apply DL.s_setI | with_reducible apply DL.s_app | with_reducible apply DL.s_ext | (with_reducible apply DL.m_arg; rfl) | (with_reducible apply DL.m_own; rfl) | (with_reducible apply DL.f_set; rfl; focus ((try simp only [List.cons_append, List.nil_append, List.replicate_succ, List.replicate_zero, Nat.reduceSub, List.set_cons_zero, List.set_cons_succ, DL.with_arg, DL.with_own, DL.wipeD, List.map_cons, List.map_nil, DL.toArg, DL.back2, DL.back2a, DL.back, DL.back1]); rfl)) | with_reducible apply DL.f_app | with_reducible apply DL.f_ext | (with_reducible apply DL.set_goal; focus ((try simp only [List.cons_append, List.nil_append, List.replicate_succ, List.replicate_zero, Nat.reduceSub, List.set_cons_zero, List.set_cons_succ, DL.with_arg, DL.with_own, DL.wipeD, List.map_cons, List.map_nil, DL.toArg, DL.back2, DL.back2a, DL.back, DL.back1]); rfl)) | with_reducible apply DL.s_seqG | with_reducible apply DL.step_b | with_reducible apply DL.k_nx | with_reducible exact DL.k_rt | with_reducible exact DL.k_ct | with_reducible exact DL.k_bk | with_reducible apply DL.s_asgG | with_reducible apply DL.s_asg | with_reducible apply DL.s_drop | with_reducible apply DL.s_ret | with_reducible apply DL.s_if | with_reducible exact DL.s_skip | (with_reducible apply DL.f_eq; (first | rfl | assumption); (first | rfl | assumption)) | (with_reducible apply DL.f_ne; (first | rfl | assumption); (first | rfl | assumption)) | with_reducible apply DL.f_addT | (with_reducible apply DL.f_ixT; assumption) | (with_reducible apply DL.f_ixL; assumption) | with_reducible apply DL.f_addL | with_reducible apply DL.s_par | with_reducible apply DL.s_for | with_reducible apply DL.i_it | with_reducible apply DL.i_r1 | with_reducible apply DL.r_lc | with_reducible apply DL.r_lc2 | with_reducible apply DL.i_enumT | with_reducible exact DL.t_yes | with_reducible apply DL.turn_e | with_reducible apply DL.g_tup | with_reducible apply DL.g_lst | with_reducible apply DL.g_cons | with_reducible exact DL.g_nil | with_reducible apply DL.g_n | (with_reducible apply DL.set_fz; rfl; focus ((try simp only [List.cons_append, List.nil_append, List.replicate_succ, List.replicate_zero, Nat.reduceSub, List.set_cons_zero, List.set_cons_succ, DL.with_arg, DL.with_own, DL.wipeD, List.map_cons, List.map_nil, DL.toArg, DL.back2, DL.back2a, DL.back, DL.back1]); rfl)) | (with_reducible apply DL.set_own; rfl; focus ((try simp only [List.cons_append, List.nil_append, List.replicate_succ, List.replicate_zero, Nat.reduceSub, List.set_cons_zero, List.set_cons_succ, DL.with_arg, DL.with_own, DL.wipeD, List.map_cons, List.map_nil, DL.toArg, DL.back2, DL.back2a, DL.back, DL.back1]); rfl)) | (with_reducible apply DL.p_t; (first | rfl | focus (simp [*]; done) | assumption)) | (with_reducible apply DL.p_f; (first | rfl | focus (simp [*]; done) | assumption)) | (with_reducible apply DL.v_fz; rfl) | (with_reducible apply DL.v_own; rfl) | (with_reducible apply DL.v_arg; rfl) | with_reducible exact DL.r_c | with_reducible apply DL.r_andB | with_reducible apply DL.r_bin | with_reducible apply DL.r_un | with_reducible apply DL.r_test | with_reducible apply DL.r_notV | with_reducible apply DL.r_and | with_reducible apply DL.r_or | with_reducible apply DL.r_not | with_reducible apply DL.r_if | with_reducible apply DL.r_chainB | with_reducible exact DL.l_nil | with_reducible apply DL.l_cons | with_reducible apply DL.r_tup | with_reducible apply DL.r_lst | with_reducible apply DL.o_some | with_reducible exact DL.o_none | with_reducible apply DL.r_sl | with_reducible exact DL.a_nil | with_reducible apply DL.a_val | with_reducible apply DL.a_ref | (with_reducible apply DL.small_of; focus (first | omega | (simp <;> omega))) | with_reducible apply DL.r_callR | with_reducible apply DL.r_call | (first | exact e_is_row_ofL _ _ | exact e_is_row_of _ _ | exact e_is_rowL _ | exact e_is_row _ | exact e_is_below _ _ | exact e_is_whole _ | assumption) | (with_reducible apply DL.f_mod; (first | assumption | omega | focus (simp; omega))) | (with_reducible apply DL.f_div; (first | assumption | omega | focus (simp; omega))) | with_reducible apply DL.f_mulI | (with_reducible apply DL.wide_lt; (first | assumption | omega | focus (simp; omega))) | rfl | (focus ((try simp only [List.cons_append, List.nil_append, List.replicate_succ, List.replicate_zero, Nat.reduceSub, List.set_cons_zero, List.set_cons_succ, DL.with_arg, DL.with_own, DL.wipeD, List.map_cons, List.map_nil, DL.toArg, DL.back2, DL.back2a, DL.back, DL.back1]); rfl); done)))
  all_goals rfl
/-- a row, once its things are dressed -/
theorem dr_row (n : Nat) {b : Nat} {r r1 : Rl} {ds es : List D} (hd : small ds.length = true) (h1 : RlOk b r1) (hb : b ≤ 100000)
    (hc : compL (turnL [3] (gN 3) dYes (dCall (d__law_dressed n) (aRef 0 (aVal (dVar 3) aNil)))) ds [.arg (.lst (encR r)), .fz (.tuple ds), .no, .no] = .ok es [.arg (.lst (encR r1)), .fz (.tuple ds), .no, .no]) :
    ∃ (c : Bool) (r' : Rl), d__law_dressed (n + 1) [.arg (.lst (encR r)), .fz (.tuple ds)] = .ok (vsq c es) [.arg (.lst (encR r')), .no] ∧ RlOk (b + 1) r' := by
  obtain ⟨v, r2, e2, a2, b2, h2⟩ := e_draw h1 (by omega) 2 (by decide) (by decide)
  have hs : (small ds.length && freeAt [3] [.arg (.lst (encR r)), .fz (.tuple ds), .no, .no]) = true := by
    rw [hd]
    rfl
  have ht : isT (.tuple ds) "tuple" = true := rfl
  by_cases hv : v = 0
  · have hq : fEq (.int v) (.int 0) = some (.fz (.bool true)) := by
      rw [hv]
      rfl
    refine ⟨true, r2, ?_, h2⟩
    rw [dr_succ]
    apply run_rt rfl
    · focus ((try simp only [List.cons_append, List.nil_append, List.replicate_succ, List.replicate_zero, Nat.reduceSub, List.set_cons_zero, List.set_cons_succ, DL.with_arg, DL.with_own, DL.wipeD, List.map_cons, List.map_nil, DL.toArg, DL.back2, DL.back2a, DL.back, DL.back1]); rfl)
    · unfold sd__law_dressed
      (repeat' (first | with_reducible apply DL.s_setI | with_reducible apply DL.s_app | with_reducible apply DL.s_ext | (with_reducible apply DL.m_arg; rfl) | (with_reducible apply DL.m_own; rfl) | (with_reducible apply DL.f_set; rfl; focus ((try simp only [List.cons_append, List.nil_append, List.replicate_succ, List.replicate_zero, Nat.reduceSub, List.set_cons_zero, List.set_cons_succ, DL.with_arg, DL.with_own, DL.wipeD, List.map_cons, List.map_nil, DL.toArg, DL.back2, DL.back2a, DL.back, DL.back1]); rfl)) | with_reducible apply DL.f_app | with_reducible apply DL.f_ext | (with_reducible apply DL.set_goal; focus ((try simp only [List.cons_append, List.nil_append, List.replicate_succ, List.replicate_zero, Nat.reduceSub, List.set_cons_zero, List.set_cons_succ, DL.with_arg, DL.with_own, DL.wipeD, List.map_cons, List.map_nil, DL.toArg, DL.back2, DL.back2a, DL.back, DL.back1]); rfl)) | with_reducible apply DL.s_seqG | with_reducible apply DL.step_b | with_reducible apply DL.k_nx | with_reducible exact DL.k_rt | with_reducible exact DL.k_ct | with_reducible exact DL.k_bk | with_reducible apply DL.s_asgG | with_reducible apply DL.s_asg | with_reducible apply DL.s_drop | with_reducible apply DL.s_ret | with_reducible apply DL.s_if | with_reducible exact DL.s_skip | (with_reducible apply DL.f_eq; (first | rfl | assumption); (first | rfl | assumption)) | (with_reducible apply DL.f_ne; (first | rfl | assumption); (first | rfl | assumption)) | with_reducible apply DL.f_addT | (with_reducible apply DL.f_ixT; assumption) | (with_reducible apply DL.f_ixL; assumption) | with_reducible apply DL.f_addL | with_reducible apply DL.s_par | with_reducible apply DL.s_for | with_reducible apply DL.i_it | with_reducible apply DL.i_r1 | with_reducible apply DL.r_lc | with_reducible apply DL.r_lc2 | with_reducible apply DL.i_enumT | with_reducible exact DL.t_yes | with_reducible apply DL.turn_e | with_reducible apply DL.g_tup | with_reducible apply DL.g_lst | with_reducible apply DL.g_cons | with_reducible exact DL.g_nil | with_reducible apply DL.g_n | (with_reducible apply DL.set_fz; rfl; focus ((try simp only [List.cons_append, List.nil_append, List.replicate_succ, List.replicate_zero, Nat.reduceSub, List.set_cons_zero, List.set_cons_succ, DL.with_arg, DL.with_own, DL.wipeD, List.map_cons, List.map_nil, DL.toArg, DL.back2, DL.back2a, DL.back, DL.back1]); rfl)) | (with_reducible apply DL.set_own; rfl; focus ((try simp only [List.cons_append, List.nil_append, List.replicate_succ, List.replicate_zero, Nat.reduceSub, List.set_cons_zero, List.set_cons_succ, DL.with_arg, DL.with_own, DL.wipeD, List.map_cons, List.map_nil, DL.toArg, DL.back2, DL.back2a, DL.back, DL.back1]); rfl)) | (with_reducible apply DL.p_t; (first | rfl | focus (simp [*]; done) | assumption)) | (with_reducible apply DL.p_f; (first | rfl | focus (simp [*]; done) | assumption)) | (with_reducible apply DL.v_fz; rfl) | (with_reducible apply DL.v_own; rfl) | (with_reducible apply DL.v_arg; rfl) | with_reducible exact DL.r_c | with_reducible apply DL.r_andB | with_reducible apply DL.r_bin | with_reducible apply DL.r_un | with_reducible apply DL.r_test | with_reducible apply DL.r_notV | with_reducible apply DL.r_and | with_reducible apply DL.r_or | with_reducible apply DL.r_not | with_reducible apply DL.r_if | with_reducible apply DL.r_chainB | with_reducible exact DL.l_nil | with_reducible apply DL.l_cons | with_reducible apply DL.r_tup | with_reducible apply DL.r_lst | with_reducible apply DL.o_some | with_reducible exact DL.o_none | with_reducible apply DL.r_sl | with_reducible exact DL.a_nil | with_reducible apply DL.a_val | with_reducible apply DL.a_ref | (with_reducible apply DL.small_of; focus (first | omega | (simp <;> omega))) | with_reducible apply DL.r_callR | with_reducible apply DL.r_call | (first | exact e_is_row_ofL _ _ | exact e_is_row_of _ _ | exact e_is_rowL _ | exact e_is_row _ | exact e_is_below _ _ | exact e_is_whole _ | assumption) | (with_reducible apply DL.f_mod; (first | assumption | omega | focus (simp; omega))) | (with_reducible apply DL.f_div; (first | assumption | omega | focus (simp; omega))) | with_reducible apply DL.f_mulI | (with_reducible apply DL.wide_lt; (first | assumption | omega | focus (simp; omega))) | rfl | (focus ((try simp only [List.cons_append, List.nil_append, List.replicate_succ, List.replicate_zero, Nat.reduceSub, List.set_cons_zero, List.set_cons_succ, DL.with_arg, DL.with_own, DL.wipeD, List.map_cons, List.map_nil, DL.toArg, DL.back2, DL.back2a, DL.back, DL.back1]); rfl); done)))
    all_goals rfl
  · have hq : fEq (.int v) (.int 0) = some (.fz (.bool false)) := by
      rw [f_eq rfl rfl]
      show some (Vl.fz (.bool (decide (v = 0)))) = _
      rw [decide_eq_false hv]
    refine ⟨false, r2, ?_, h2⟩
    rw [dr_succ]
    apply run_rt rfl
    · focus ((try simp only [List.cons_append, List.nil_append, List.replicate_succ, List.replicate_zero, Nat.reduceSub, List.set_cons_zero, List.set_cons_succ, DL.with_arg, DL.with_own, DL.wipeD, List.map_cons, List.map_nil, DL.toArg, DL.back2, DL.back2a, DL.back, DL.back1]); rfl)
    · unfold sd__law_dressed
      (repeat' (first | with_reducible apply DL.s_setI | with_reducible apply DL.s_app | with_reducible apply DL.s_ext | (with_reducible apply DL.m_arg; rfl) | (with_reducible apply DL.m_own; rfl) | (with_reducible apply DL.f_set; rfl; focus ((try simp only [List.cons_append, List.nil_append, List.replicate_succ, List.replicate_zero, Nat.reduceSub, List.set_cons_zero, List.set_cons_succ, DL.with_arg, DL.with_own, DL.wipeD, List.map_cons, List.map_nil, DL.toArg, DL.back2, DL.back2a, DL.back, DL.back1]); rfl)) | with_reducible apply DL.f_app | with_reducible apply DL.f_ext | (with_reducible apply DL.set_goal; focus ((try simp only [List.cons_append, List.nil_append, List.replicate_succ, List.replicate_zero, Nat.reduceSub, List.set_cons_zero, List.set_cons_succ, DL.with_arg, DL.with_own, DL.wipeD, List.map_cons, List.map_nil, DL.toArg, DL.back2, DL.back2a, DL.back, DL.back1]); rfl)) | with_reducible apply DL.s_seqG | with_reducible apply DL.step_b | with_reducible apply DL.k_nx | with_reducible exact DL.k_rt | with_reducible exact DL.k_ct | with_reducible exact DL.k_bk | with_reducible apply DL.s_asgG | with_reducible apply DL.s_asg | with_reducible apply DL.s_drop | with_reducible apply DL.s_ret | with_reducible apply DL.s_if | with_reducible exact DL.s_skip | (with_reducible apply DL.f_eq; (first | rfl | assumption); (first | rfl | assumption)) | (with_reducible apply DL.f_ne; (first | rfl | assumption); (first | rfl | assumption)) | with_reducible apply DL.f_addT | (with_reducible apply DL.f_ixT; assumption) | (with_reducible apply DL.f_ixL; assumption) | with_reducible apply DL.f_addL | with_reducible apply DL.s_par | with_reducible apply DL.s_for | with_reducible apply DL.i_it | with_reducible apply DL.i_r1 | with_reducible apply DL.r_lc | with_reducible apply DL.r_lc2 | with_reducible apply DL.i_enumT | with_reducible exact DL.t_yes | with_reducible apply DL.turn_e | with_reducible apply DL.g_tup | with_reducible apply DL.g_lst | with_reducible apply DL.g_cons | with_reducible exact DL.g_nil | with_reducible apply DL.g_n | (with_reducible apply DL.set_fz; rfl; focus ((try simp only [List.cons_append, List.nil_append, List.replicate_succ, List.replicate_zero, Nat.reduceSub, List.set_cons_zero, List.set_cons_succ, DL.with_arg, DL.with_own, DL.wipeD, List.map_cons, List.map_nil, DL.toArg, DL.back2, DL.back2a, DL.back, DL.back1]); rfl)) | (with_reducible apply DL.set_own; rfl; focus ((try simp only [List.cons_append, List.nil_append, List.replicate_succ, List.replicate_zero, Nat.reduceSub, List.set_cons_zero, List.set_cons_succ, DL.with_arg, DL.with_own, DL.wipeD, List.map_cons, List.map_nil, DL.toArg, DL.back2, DL.back2a, DL.back, DL.back1]); rfl)) | (with_reducible apply DL.p_t; (first | rfl | focus (simp [*]; done) | assumption)) | (with_reducible apply DL.p_f; (first | rfl | focus (simp [*]; done) | assumption)) | (with_reducible apply DL.v_fz; rfl) | (with_reducible apply DL.v_own; rfl) | (with_reducible apply DL.v_arg; rfl) | with_reducible exact DL.r_c | with_reducible apply DL.r_andB | with_reducible apply DL.r_bin | with_reducible apply DL.r_un | with_reducible apply DL.r_test | with_reducible apply DL.r_notV | with_reducible apply DL.r_and | with_reducible apply DL.r_or | with_reducible apply DL.r_not | with_reducible apply DL.r_if | with_reducible apply DL.r_chainB | with_reducible exact DL.l_nil | with_reducible apply DL.l_cons | with_reducible apply DL.r_tup | with_reducible apply DL.r_lst | with_reducible apply DL.o_some | with_reducible exact DL.o_none | with_reducible apply DL.r_sl | with_reducible exact DL.a_nil | with_reducible apply DL.a_val | with_reducible apply DL.a_ref | (with_reducible apply DL.small_of; focus (first | omega | (simp <;> omega))) | with_reducible apply DL.r_callR | with_reducible apply DL.r_call | (first | exact e_is_row_ofL _ _ | exact e_is_row_of _ _ | exact e_is_rowL _ | exact e_is_row _ | exact e_is_below _ _ | exact e_is_whole _ | assumption) | (with_reducible apply DL.f_mod; (first | assumption | omega | focus (simp; omega))) | (with_reducible apply DL.f_div; (first | assumption | omega | focus (simp; omega))) | with_reducible apply DL.f_mulI | (with_reducible apply DL.wide_lt; (first | assumption | omega | focus (simp; omega))) | rfl | (focus ((try simp only [List.cons_append, List.nil_append, List.replicate_succ, List.replicate_zero, Nat.reduceSub, List.set_cons_zero, List.set_cons_succ, DL.with_arg, DL.with_own, DL.wipeD, List.map_cons, List.map_nil, DL.toArg, DL.back2, DL.back2a, DL.back, DL.back1]); rfl); done)))
    all_goals rfl
theorem dr_turn {n : Nat} {r r1 : Rl} {ds : List D} {d y : D} {z : Vl} (e : d__law_dressed n [.arg (.lst (encR r)), .fz d] = .ok z [.arg (.lst (encR r1)), .no]) (hk : ∀ δ, kp z δ = .ok y δ) :
    turnL [3] (gN 3) dYes (dCall (d__law_dressed n) (aRef 0 (aVal (dVar 3) aNil))) d [.arg (.lst (encR r)), .fz (.tuple ds), .no, .no] = .ok (some y) [.arg (.lst (encR r1)), .fz (.tuple ds), .no, .no] := by
  apply turn_s
  · focus ((try simp only [List.cons_append, List.nil_append, List.replicate_succ, List.replicate_zero, Nat.reduceSub, List.set_cons_zero, List.set_cons_succ, DL.with_arg, DL.with_own, DL.wipeD, List.map_cons, List.map_nil, DL.toArg, DL.back2, DL.back2a, DL.back, DL.back1]); rfl)
  · (repeat' (first | with_reducible apply DL.s_setI | with_reducible apply DL.s_app | with_reducible apply DL.s_ext | (with_reducible apply DL.m_arg; rfl) | (with_reducible apply DL.m_own; rfl) | (with_reducible apply DL.f_set; rfl; focus ((try simp only [List.cons_append, List.nil_append, List.replicate_succ, List.replicate_zero, Nat.reduceSub, List.set_cons_zero, List.set_cons_succ, DL.with_arg, DL.with_own, DL.wipeD, List.map_cons, List.map_nil, DL.toArg, DL.back2, DL.back2a, DL.back, DL.back1]); rfl)) | with_reducible apply DL.f_app | with_reducible apply DL.f_ext | (with_reducible apply DL.set_goal; focus ((try simp only [List.cons_append, List.nil_append, List.replicate_succ, List.replicate_zero, Nat.reduceSub, List.set_cons_zero, List.set_cons_succ, DL.with_arg, DL.with_own, DL.wipeD, List.map_cons, List.map_nil, DL.toArg, DL.back2, DL.back2a, DL.back, DL.back1]); rfl)) | with_reducible apply DL.s_seqG | with_reducible apply DL.step_b | with_reducible apply DL.k_nx | with_reducible exact DL.k_rt | with_reducible exact DL.k_ct | with_reducible exact DL.k_bk | with_reducible apply DL.s_asgG | with_reducible apply DL.s_asg | with_reducible apply DL.s_drop | with_reducible apply DL.s_ret | with_reducible apply DL.s_if | with_reducible exact DL.s_skip | (with_reducible apply DL.f_eq; (first | rfl | assumption); (first | rfl | assumption)) | (with_reducible apply DL.f_ne; (first | rfl | assumption); (first | rfl | assumption)) | with_reducible apply DL.f_addT | (with_reducible apply DL.f_ixT; assumption) | (with_reducible apply DL.f_ixL; assumption) | with_reducible apply DL.f_addL | with_reducible apply DL.s_par | with_reducible apply DL.s_for | with_reducible apply DL.i_it | with_reducible apply DL.i_r1 | with_reducible apply DL.r_lc | with_reducible apply DL.r_lc2 | with_reducible apply DL.i_enumT | with_reducible exact DL.t_yes | with_reducible apply DL.turn_e | with_reducible apply DL.g_tup | with_reducible apply DL.g_lst | with_reducible apply DL.g_cons | with_reducible exact DL.g_nil | with_reducible apply DL.g_n | (with_reducible apply DL.set_fz; rfl; focus ((try simp only [List.cons_append, List.nil_append, List.replicate_succ, List.replicate_zero, Nat.reduceSub, List.set_cons_zero, List.set_cons_succ, DL.with_arg, DL.with_own, DL.wipeD, List.map_cons, List.map_nil, DL.toArg, DL.back2, DL.back2a, DL.back, DL.back1]); rfl)) | (with_reducible apply DL.set_own; rfl; focus ((try simp only [List.cons_append, List.nil_append, List.replicate_succ, List.replicate_zero, Nat.reduceSub, List.set_cons_zero, List.set_cons_succ, DL.with_arg, DL.with_own, DL.wipeD, List.map_cons, List.map_nil, DL.toArg, DL.back2, DL.back2a, DL.back, DL.back1]); rfl)) | (with_reducible apply DL.p_t; (first | rfl | focus (simp [*]; done) | assumption)) | (with_reducible apply DL.p_f; (first | rfl | focus (simp [*]; done) | assumption)) | (with_reducible apply DL.v_fz; rfl) | (with_reducible apply DL.v_own; rfl) | (with_reducible apply DL.v_arg; rfl) | with_reducible exact DL.r_c | with_reducible apply DL.r_andB | with_reducible apply DL.r_bin | with_reducible apply DL.r_un | with_reducible apply DL.r_test | with_reducible apply DL.r_notV | with_reducible apply DL.r_and | with_reducible apply DL.r_or | with_reducible apply DL.r_not | with_reducible apply DL.r_if | with_reducible apply DL.r_chainB | with_reducible exact DL.l_nil | with_reducible apply DL.l_cons | with_reducible apply DL.r_tup | with_reducible apply DL.r_lst | with_reducible apply DL.o_some | with_reducible exact DL.o_none | with_reducible apply DL.r_sl | with_reducible exact DL.a_nil | with_reducible apply DL.a_val | with_reducible apply DL.a_ref | (with_reducible apply DL.small_of; focus (first | omega | (simp <;> omega))) | with_reducible apply DL.r_callR | with_reducible apply DL.r_call | (first | exact e_is_row_ofL _ _ | exact e_is_row_of _ _ | exact e_is_rowL _ | exact e_is_row _ | exact e_is_below _ _ | exact e_is_whole _ | assumption) | (with_reducible apply DL.f_mod; (first | assumption | omega | focus (simp; omega))) | (with_reducible apply DL.f_div; (first | assumption | omega | focus (simp; omega))) | with_reducible apply DL.f_mulI | (with_reducible apply DL.wide_lt; (first | assumption | omega | focus (simp; omega))) | rfl | (focus ((try simp only [List.cons_append, List.nil_append, List.replicate_succ, List.replicate_zero, Nat.reduceSub, List.set_cons_zero, List.set_cons_succ, DL.with_arg, DL.with_own, DL.wipeD, List.map_cons, List.map_nil, DL.toArg, DL.back2, DL.back2a, DL.back, DL.back1]); rfl); done)))
  · (repeat' (first | with_reducible apply DL.s_setI | with_reducible apply DL.s_app | with_reducible apply DL.s_ext | (with_reducible apply DL.m_arg; rfl) | (with_reducible apply DL.m_own; rfl) | (with_reducible apply DL.f_set; rfl; focus ((try simp only [List.cons_append, List.nil_append, List.replicate_succ, List.replicate_zero, Nat.reduceSub, List.set_cons_zero, List.set_cons_succ, DL.with_arg, DL.with_own, DL.wipeD, List.map_cons, List.map_nil, DL.toArg, DL.back2, DL.back2a, DL.back, DL.back1]); rfl)) | with_reducible apply DL.f_app | with_reducible apply DL.f_ext | (with_reducible apply DL.set_goal; focus ((try simp only [List.cons_append, List.nil_append, List.replicate_succ, List.replicate_zero, Nat.reduceSub, List.set_cons_zero, List.set_cons_succ, DL.with_arg, DL.with_own, DL.wipeD, List.map_cons, List.map_nil, DL.toArg, DL.back2, DL.back2a, DL.back, DL.back1]); rfl)) | with_reducible apply DL.s_seqG | with_reducible apply DL.step_b | with_reducible apply DL.k_nx | with_reducible exact DL.k_rt | with_reducible exact DL.k_ct | with_reducible exact DL.k_bk | with_reducible apply DL.s_asgG | with_reducible apply DL.s_asg | with_reducible apply DL.s_drop | with_reducible apply DL.s_ret | with_reducible apply DL.s_if | with_reducible exact DL.s_skip | (with_reducible apply DL.f_eq; (first | rfl | assumption); (first | rfl | assumption)) | (with_reducible apply DL.f_ne; (first | rfl | assumption); (first | rfl | assumption)) | with_reducible apply DL.f_addT | (with_reducible apply DL.f_ixT; assumption) | (with_reducible apply DL.f_ixL; assumption) | with_reducible apply DL.f_addL | with_reducible apply DL.s_par | with_reducible apply DL.s_for | with_reducible apply DL.i_it | with_reducible apply DL.i_r1 | with_reducible apply DL.r_lc | with_reducible apply DL.r_lc2 | with_reducible apply DL.i_enumT | with_reducible exact DL.t_yes | with_reducible apply DL.turn_e | with_reducible apply DL.g_tup | with_reducible apply DL.g_lst | with_reducible apply DL.g_cons | with_reducible exact DL.g_nil | with_reducible apply DL.g_n | (with_reducible apply DL.set_fz; rfl; focus ((try simp only [List.cons_append, List.nil_append, List.replicate_succ, List.replicate_zero, Nat.reduceSub, List.set_cons_zero, List.set_cons_succ, DL.with_arg, DL.with_own, DL.wipeD, List.map_cons, List.map_nil, DL.toArg, DL.back2, DL.back2a, DL.back, DL.back1]); rfl)) | (with_reducible apply DL.set_own; rfl; focus ((try simp only [List.cons_append, List.nil_append, List.replicate_succ, List.replicate_zero, Nat.reduceSub, List.set_cons_zero, List.set_cons_succ, DL.with_arg, DL.with_own, DL.wipeD, List.map_cons, List.map_nil, DL.toArg, DL.back2, DL.back2a, DL.back, DL.back1]); rfl)) | (with_reducible apply DL.p_t; (first | rfl | focus (simp [*]; done) | assumption)) | (with_reducible apply DL.p_f; (first | rfl | focus (simp [*]; done) | assumption)) | (with_reducible apply DL.v_fz; rfl) | (with_reducible apply DL.v_own; rfl) | (with_reducible apply DL.v_arg; rfl) | with_reducible exact DL.r_c | with_reducible apply DL.r_andB | with_reducible apply DL.r_bin | with_reducible apply DL.r_un | with_reducible apply DL.r_test | with_reducible apply DL.r_notV | with_reducible apply DL.r_and | with_reducible apply DL.r_or | with_reducible apply DL.r_not | with_reducible apply DL.r_if | with_reducible apply DL.r_chainB | with_reducible exact DL.l_nil | with_reducible apply DL.l_cons | with_reducible apply DL.r_tup | with_reducible apply DL.r_lst | with_reducible apply DL.o_some | with_reducible exact DL.o_none | with_reducible apply DL.r_sl | with_reducible exact DL.a_nil | with_reducible apply DL.a_val | with_reducible apply DL.a_ref | (with_reducible apply DL.small_of; focus (first | omega | (simp <;> omega))) | with_reducible apply DL.r_callR | with_reducible apply DL.r_call | (first | exact e_is_row_ofL _ _ | exact e_is_row_of _ _ | exact e_is_rowL _ | exact e_is_row _ | exact e_is_below _ _ | exact e_is_whole _ | assumption) | (with_reducible apply DL.f_mod; (first | assumption | omega | focus (simp; omega))) | (with_reducible apply DL.f_div; (first | assumption | omega | focus (simp; omega))) | with_reducible apply DL.f_mulI | (with_reducible apply DL.wide_lt; (first | assumption | omega | focus (simp; omega))) | rfl | (focus ((try simp only [List.cons_append, List.nil_append, List.replicate_succ, List.replicate_zero, Nat.reduceSub, List.set_cons_zero, List.set_cons_succ, DL.with_arg, DL.with_own, DL.wipeD, List.map_cons, List.map_nil, DL.toArg, DL.back2, DL.back2a, DL.back, DL.back1]); rfl); done)))
  · exact hk _
  · rfl
theorem kp_fz (d : D) (δ : DS) : kp (.fz d) δ = .ok d δ := rfl
theorem kp_sq (c : Bool) (ds : List D) (δ : DS) : kp (vsq c ds) δ = .ok (sq c ds) δ := by cases c <;> rfl
theorem dr_line (n : Nat) {b : Nat} {r : Rl} (h : RlOk b r) (hb : b ≤ 100000) (l : Ln) : ∃ (c : Bool) (r' : Rl), d__law_dressed (n + 2) [.arg (.lst (encR r)), .fz (encL l)] = .ok (vsq c [.int l.1, .int l.2.1, .str ⟨#[l.2.2]⟩]) [.arg (.lst (encR r')), .no] ∧ RlOk (b + 1) r' := by
  refine dr_row (n + 1) (ds := [.int l.1, .int l.2.1, .str ⟨#[l.2.2]⟩]) rfl h hb ?_
  have c1 := dr_turn (ds := [.int l.1, .int l.2.1, .str ⟨#[l.2.2]⟩]) (dr_int n r l.1) (kp_fz _)
  have c2 := dr_turn (ds := [.int l.1, .int l.2.1, .str ⟨#[l.2.2]⟩]) (dr_int n r l.2.1) (kp_fz _)
  have c3 := dr_turn (ds := [.int l.1, .int l.2.1, .str ⟨#[l.2.2]⟩]) (dr_str n r ⟨#[l.2.2]⟩) (kp_fz _)
  unfold compL
  rw [c1]
  simp only
  rw [comp_two c2 c3]
  rfl
theorem dr_lines (n : Nat) {b : Nat} {r : Rl} (h : RlOk b r) (ls : List Ln) (hl : ls.length ≤ 100) (hb : b ≤ 90000) : ∃ (c : Bool) (ms : List (Bool × Ln)) (r' : Rl), lns ms = ls ∧ d__law_dressed (n + 3) [.arg (.lst (encR r)), .fz (.tuple (ls.map encL))] = .ok (vsq c (ms.map encM)) [.arg (.lst (encR r')), .no] ∧ RlOk (b + 101) r' := by
  obtain ⟨ms, r1, e1, e2, h1⟩ := comp_th (f := turnL [3] (gN 3) dYes (dCall (d__law_dressed (n + 2)) (aRef 0 (aVal (dVar 3) aNil)))) (st := fun r => [.arg (.lst (encR r)), .fz (.tuple (ls.map encL)), .no, .no]) (enc := encL) (p := fun m : Bool × Ln => m.2) (g := encM) (c := 1) (B := 95000) ls b r h (by omega) fun x hx b' r' hr' hb' => by
    obtain ⟨c, r2, e, h2⟩ := dr_line n hr' (by omega) x
    exact ⟨(c, x), r2, rfl, dr_turn e (kp_sq c _), h2⟩
  obtain ⟨c, r', e, hr⟩ := dr_row (n + 2) (small_of (by rw [List.length_map]; omega)) (h1.mono (show b + 1 * ls.length ≤ b + 100 by omega)) (by omega) e2
  exact ⟨c, ms, r', e1, e, hr⟩
theorem dr_web (n : Nat) {b : Nat} {r : Rl} (h : RlOk b r) (p : Int) (ls : List Ln) (hl : ls.length ≤ 100) (hb : b ≤ 80000) : ∃ (b0 c : Bool) (ms : List (Bool × Ln)) (r' : Rl), lns ms = ls ∧ d__law_dressed (n + 4) [.arg (.lst (encR r)), .fz (encW p ls)] = .ok (vsq b0 [.int p, sq c (ms.map encM)]) [.arg (.lst (encR r')), .no] ∧ RlOk (b + 102) r' := by
  obtain ⟨c, ms, r1, e1, e2, h1⟩ := dr_lines n h ls hl (by omega)
  have c1 := dr_turn (ds := [.int p, .tuple (ls.map encL)]) (dr_int (n + 2) r p) (kp_fz _)
  have c2 := dr_turn (ds := [.int p, .tuple (ls.map encL)]) e2 (kp_sq c _)
  obtain ⟨b0, r', e, hr⟩ := dr_row (n + 3) (ds := [.int p, .tuple (ls.map encL)]) (es := [.int p, sq c (ms.map encM)]) (r := r) (r1 := r1) rfl h1 (by omega) (comp_two c1 c2)
  exact ⟨b0, c, ms, r', e1, e, hr⟩

/-! ### what can be shown -/
structure Shw (w k : Nat) (d : D) : Prop where
  a : d.canLay0 = true
  b : d.showable = true
  c : d.intsShort 13 = true
  nd : d.hasDict = false
  e : d.depth ≤ k
  f : d.weight ≤ w
theorem shw_int {i : Int} (h0 : 0 ≤ i) (h1 : i < 1000) : Shw 10 0 (.int i) := by
  have hn : i.natAbs < 1000 := by omega
  have hl : i.natAbs.log2 ≤ 9 := by
    by_cases z : i.natAbs = 0
    · rw [z]; decide
    · have := (Nat.log2_lt z (k := 10)).mpr (by omega)
      omega
  refine ⟨rfl, ?_, ?_, rfl, Nat.le_refl _, ?_⟩
  · show decide (i.natAbs.log2 < 1920) = true
    exact decide_eq_true (by omega)
  · show decide ((PyData.shown (.int i)).length ≤ 13) = true
    exact decide_eq_true (PySem.PyData.shown_int_le (by omega))
  · show (if i == 0 then 0 else i.natAbs.log2 + 1) ≤ 10
    split <;> omega
theorem shw_ch {c : Nat} (h : okC c) : Shw 10 0 (.str ⟨#[c]⟩) := by
  refine ⟨SeqAt.canLay_of_shaped (shaped_ch (by have := h.2; omega)), rfl, rfl, rfl, Nat.le_refl _, ?_⟩
  show (#[c] : Array Nat).size ≤ 10
  simp
theorem shw_all {w k : Nat} : ∀ {ds : List D}, (∀ d ∈ ds, Shw w k d) → PyData.canLayAll0 ds = true ∧ PyData.showableAll ds = true ∧ PyData.intsShortAll 13 ds = true ∧ PyData.hasDictAll ds = false ∧ PyData.depthAll ds ≤ k ∧ PyData.weightAll ds ≤ (w + 1) * ds.length
  | [], _ => ⟨rfl, rfl, rfl, rfl, Nat.zero_le _, Nat.zero_le _⟩
  | d :: ds, h => by
    obtain ⟨a, b, c, e, f, g⟩ := h d List.mem_cons_self
    obtain ⟨a', b', c', e', f', g'⟩ := shw_all fun x hx => h x (List.mem_cons_of_mem _ hx)
    refine ⟨?_, ?_, ?_, ?_, ?_, ?_⟩
    · rw [PyData.canLayAll0, a, a']; rfl
    · rw [PyData.showableAll, b, b']; rfl
    · rw [PyData.intsShortAll, c, c']; rfl
    · rw [PyData.hasDictAll, e, e']; rfl
    · rw [PyData.depthAll]; omega
    · rw [PyData.weightAll, List.length_cons, Nat.mul_add, Nat.mul_one]; omega
theorem shw_sq {w k : Nat} {ds : List D} (h : ∀ d ∈ ds, Shw w k d) (b : Bool) : Shw ((w + 1) * ds.length) (k + 1) (sq b ds) := by
  obtain ⟨a, b', c, e, f, g⟩ := shw_all h
  cases b
  · exact ⟨a, b', c, e, by show PyData.depthAll ds + 1 ≤ k + 1; omega, g⟩
  · exact ⟨a, b', c, e, by show PyData.depthAll ds + 1 ≤ k + 1; omega, g⟩
theorem Shw.more {w w' k k' : Nat} {d : D} (h : Shw w k d) (hw : w ≤ w') (hk : k ≤ k') : Shw w' k' d := ⟨h.a, h.b, h.c, h.nd, Nat.le_trans h.e hk, Nat.le_trans h.f hw⟩
theorem rep_of {w k : Nat} {d : D} (h : Shw w k d) (hs : isSq d = true) (hk : k ≤ 64) (hw : w ≤ 1000000) : fRepr d = some (.fz (.str d.shown)) := by
  have : okShow d = true := by
    unfold okShow PyData.layable0
    rw [h.a, h.b, h.c, h.nd, decide_eq_true (show d.depth ≤ 64 from Nat.le_trans h.e hk), decide_eq_true (show d.weight ≤ 2 ^ 20 from Nat.le_trans h.f (by omega))]
    rfl
  unfold fRepr
  rw [hs, this]
  rfl
theorem rep_D (b c : Bool) {p : Int} {ms : List (Bool × Ln)} (hp0 : 0 ≤ p) (hp : p < 1000) (hl : ms.length ≤ 100) (h : ∀ m ∈ ms, okL p m.2) : fRepr (encD b c p ms) = some (.fz (.str (encD b c p ms).shown)) := by
  have hm : ∀ d ∈ ms.map encM, Shw 33 1 d := fun d hd => by
    obtain ⟨m, hm, rfl⟩ := List.mem_map.mp hd
    obtain ⟨a1, a2, a3, a4, a5⟩ := h m hm
    refine (shw_sq (w := 10) (k := 0) (ds := [.int m.2.1, .int m.2.2.1, .str ⟨#[m.2.2.2]⟩]) (fun d hd => ?_) m.1).more (by simp) (by decide)
    simp only [List.mem_cons, List.not_mem_nil, or_false] at hd
    rcases hd with rfl | rfl | rfl
    · exact shw_int a1 (by omega)
    · exact shw_int a3 (by omega)
    · exact shw_ch a5
  have h2 := (shw_sq hm c).more (w' := 34 * 100) (by rw [List.length_map]; exact Nat.mul_le_mul_left _ hl) (Nat.le_refl _)
  have h3 := shw_sq (w := 3400) (k := 2) (ds := [.int p, sq c (ms.map encM)]) (fun d hd => by
    simp only [List.mem_cons, List.not_mem_nil, or_false] at hd
    rcases hd with rfl | rfl
    · exact (shw_int hp0 hp).more (by decide) (by decide)
    · exact h2) b
  exact rep_of h3 (by cases b <;> rfl) (by decide) (by simp)
/-! ### alike -/
theorem comp_none {α : Type} {f : D → DS → R (Option D)} {δ : DS} {enc : α → D} {xs : List α} (h : ∀ x ∈ xs, f (enc x) δ = .ok none δ) : compL f (xs.map enc) δ = .ok [] δ := by
  rw [DL.comp_map (φ := fun _ => none) xs h]
  congr 1
  simp
theorem al_succ (n : Nat) (as : List Sl) : d__law_alike (n + 1) as = noEx as (runDef 2 3 (sd__law_alike (d__law_alike n)) as) := by
  simp only [d__law_alike, itN]
theorem ne_same (b : Bool) : fNe (.bool b) (.bool b) = some (.fz (.bool false)) := by cases b <;> rfl
theorem al_leaf (n : Nat) (d : D) (h1 : ["list", "tuple"].any (isT d) = false) (h2 : fEq d d = some (.fz (.bool true))) : d__law_alike (n + 1) [.fz d, .fz d] = .ok (.fz (.bool true)) [.no, .no] := by
  have n1 := ne_same (isT d "bool")
  have n2 := ne_same (isT d "str")
  rw [al_succ]
  apply run_b rfl
  · focus ((try simp only [List.cons_append, List.nil_append, List.replicate_succ, List.replicate_zero, Nat.reduceSub, List.set_cons_zero, List.set_cons_succ, DL.with_arg, DL.with_own, DL.wipeD, List.map_cons, List.map_nil, DL.toArg, DL.back2, DL.back2a, DL.back, DL.back1]); rfl)
  · unfold sd__law_alike
    (repeat' (first | with_reducible apply DL.s_setI | with_reducible apply DL.s_app | with_reducible apply DL.s_ext | (with_reducible apply DL.m_arg; rfl) | (with_reducible apply DL.m_own; rfl) | (with_reducible apply DL.f_set; rfl; focus ((try simp only [List.cons_append, List.nil_append, List.replicate_succ, List.replicate_zero, Nat.reduceSub, List.set_cons_zero, List.set_cons_succ, DL.with_arg, DL.with_own, DL.wipeD, List.map_cons, List.map_nil, DL.toArg, DL.back2, DL.back2a, DL.back, DL.back1]); rfl)) | with_reducible apply DL.f_app | with_reducible apply DL.f_ext | (with_reducible apply DL.set_goal; focus ((try simp only [List.cons_append, List.nil_append, List.replicate_succ, List.replicate_zero, Nat.reduceSub, List.set_cons_zero, List.set_cons_succ, DL.with_arg, DL.with_own, DL.wipeD, List.map_cons, List.map_nil, DL.toArg, DL.back2, DL.back2a, DL.back, DL.back1]); rfl)) | with_reducible apply DL.s_seqG | with_reducible apply DL.step_b | with_reducible apply DL.k_nx | with_reducible exact DL.k_rt | with_reducible exact DL.k_ct | with_reducible exact DL.k_bk | with_reducible apply DL.s_asgG | with_reducible apply DL.s_asg | with_reducible apply DL.s_drop | with_reducible apply DL.s_ret | with_reducible apply DL.s_if | with_reducible exact DL.s_skip | (with_reducible apply DL.f_eq; (first | rfl | assumption); (first | rfl | assumption)) | (with_reducible apply DL.f_ne; (first | rfl | assumption); (first | rfl | assumption)) | with_reducible apply DL.f_addT | (with_reducible apply DL.f_ixT; assumption) | (with_reducible apply DL.f_ixL; assumption) | with_reducible apply DL.f_addL | with_reducible apply DL.s_par | with_reducible apply DL.s_for | with_reducible apply DL.i_it | with_reducible apply DL.i_r1 | with_reducible apply DL.r_lc | with_reducible apply DL.r_lc2 | with_reducible apply DL.i_enumT | with_reducible exact DL.t_yes | with_reducible apply DL.turn_e | with_reducible apply DL.g_tup | with_reducible apply DL.g_lst | with_reducible apply DL.g_cons | with_reducible exact DL.g_nil | with_reducible apply DL.g_n | (with_reducible apply DL.set_fz; rfl; focus ((try simp only [List.cons_append, List.nil_append, List.replicate_succ, List.replicate_zero, Nat.reduceSub, List.set_cons_zero, List.set_cons_succ, DL.with_arg, DL.with_own, DL.wipeD, List.map_cons, List.map_nil, DL.toArg, DL.back2, DL.back2a, DL.back, DL.back1]); rfl)) | (with_reducible apply DL.set_own; rfl; focus ((try simp only [List.cons_append, List.nil_append, List.replicate_succ, List.replicate_zero, Nat.reduceSub, List.set_cons_zero, List.set_cons_succ, DL.with_arg, DL.with_own, DL.wipeD, List.map_cons, List.map_nil, DL.toArg, DL.back2, DL.back2a, DL.back, DL.back1]); rfl)) | (with_reducible apply DL.p_t; (first | rfl | focus (simp [*]; done) | assumption)) | (with_reducible apply DL.p_f; (first | rfl | focus (simp [*]; done) | assumption)) | (with_reducible apply DL.v_fz; rfl) | (with_reducible apply DL.v_own; rfl) | (with_reducible apply DL.v_arg; rfl) | with_reducible exact DL.r_c | with_reducible apply DL.r_andB | with_reducible apply DL.r_bin | with_reducible apply DL.r_un | with_reducible apply DL.r_test | with_reducible apply DL.r_notV | with_reducible apply DL.r_and | with_reducible apply DL.r_or | with_reducible apply DL.r_not | with_reducible apply DL.r_if | with_reducible apply DL.r_chainB | with_reducible exact DL.l_nil | with_reducible apply DL.l_cons | with_reducible apply DL.r_tup | with_reducible apply DL.r_lst | with_reducible apply DL.o_some | with_reducible exact DL.o_none | with_reducible apply DL.r_sl | with_reducible exact DL.a_nil | with_reducible apply DL.a_val | with_reducible apply DL.a_ref | (with_reducible apply DL.small_of; focus (first | omega | (simp <;> omega))) | with_reducible apply DL.r_callR | with_reducible apply DL.r_call | (first | exact e_is_row_ofL _ _ | exact e_is_row_of _ _ | exact e_is_rowL _ | exact e_is_row _ | exact e_is_below _ _ | exact e_is_whole _ | assumption) | (with_reducible apply DL.f_mod; (first | assumption | omega | focus (simp; omega))) | (with_reducible apply DL.f_div; (first | assumption | omega | focus (simp; omega))) | with_reducible apply DL.f_mulI | (with_reducible apply DL.wide_lt; (first | assumption | omega | focus (simp; omega))) | rfl | (focus ((try simp only [List.cons_append, List.nil_append, List.replicate_succ, List.replicate_zero, Nat.reduceSub, List.set_cons_zero, List.set_cons_succ, DL.with_arg, DL.with_own, DL.wipeD, List.map_cons, List.map_nil, DL.toArg, DL.back2, DL.back2a, DL.back, DL.back1]); rfl); done)))
  all_goals rfl
theorem al_int (n : Nat) (i : Int) : d__law_alike (n + 1) [.fz (.int i), .fz (.int i)] = .ok (.fz (.bool true)) [.no, .no] := al_leaf n _ rfl (by
  rw [f_eq rfl rfl]
  show some (Vl.fz (.bool (decide (i = i)))) = _
  rw [decide_eq_true rfl])
theorem al_ch (n : Nat) {c : Nat} (h : okC c) : d__law_alike (n + 1) [.fz (.str ⟨#[c]⟩), .fz (.str ⟨#[c]⟩)] = .ok (.fz (.bool true)) [.no, .no] := al_leaf n _ rfl (by
  have s := shaped_ch (c := c) (by have := h.2; omega)
  rw [f_eq s s, eqv_ch, decide_eq_true rfl])
theorem al_tuple (n : Nat) (ds : List D) (hl : ds.length ≤ 1000) (h : ∀ d ∈ ds, d__law_alike n [.fz d, .fz d] = .ok (.fz (.bool true)) [.no, .no]) : d__law_alike (n + 1) [.fz (.tuple ds), .fz (.tuple ds)] = .ok (.fz (.bool true)) [.no, .no] := by
  have h1 : ["list", "tuple"].any (isT (.tuple ds)) = true := rfl
  have n1 := ne_same (isT (.tuple ds) "list")
  have n2 := ne_same (isT (.tuple ds) "tuple")
  have y1 : fLen (.tuple ds) = some (.fz (.int (ds.length : Nat))) := rfl
  have n3 : fNe (.int (ds.length : Nat)) (.int (ds.length : Nat)) = some (.fz (.bool false)) := by
    rw [f_ne rfl rfl]
    show some (Vl.fz (.bool (!decide (((ds.length : Nat) : Int) = (ds.length : Nat))))) = _
    rw [decide_eq_true rfl]
    rfl
  have hb1 : (-1000000 : Int) ≤ (ds.length : Nat) := by omega
  have hb2 : ((ds.length : Nat) : Int) ≤ 1000000 := by omega
  have n4 : fEq (.list []) (.list []) = some (.fz (.bool true)) := rfl
  have hc : compL (turnL [2] (gN 2) (dNot (dTest (dCall (d__law_alike n) (aVal (dBin fIx (dVar 0) (dVar 2)) (aVal (dBin fIx (dVar 1) (dVar 2)) aNil))))) (dVar 2)) ((List.range ((ds.length : Nat) : Int).toNat).map fun (i : Nat) => PyData.int i) [.fz (.tuple ds), .fz (.tuple ds), .no]
      = .ok [] [.fz (.tuple ds), .fz (.tuple ds), .no] := by
    refine comp_none fun k hk => ?_
    have hk : k < ds.length := by
      have := List.mem_range.mp hk
      omega
    have hx : ds[k]? = some ds[k] := List.getElem?_eq_getElem hk
    have hd := h ds[k] (List.getElem_mem hk)
    clear h1 n1 n2 n3 n4 y1
    generalize ds[k] = x at hx hd
    apply turn_1
    · focus ((try simp only [List.cons_append, List.nil_append, List.replicate_succ, List.replicate_zero, Nat.reduceSub, List.set_cons_zero, List.set_cons_succ, DL.with_arg, DL.with_own, DL.wipeD, List.map_cons, List.map_nil, DL.toArg, DL.back2, DL.back2a, DL.back, DL.back1]); rfl)
    · (repeat' (first | with_reducible apply DL.s_setI | with_reducible apply DL.s_app | with_reducible apply DL.s_ext | (with_reducible apply DL.m_arg; rfl) | (with_reducible apply DL.m_own; rfl) | (with_reducible apply DL.f_set; rfl; focus ((try simp only [List.cons_append, List.nil_append, List.replicate_succ, List.replicate_zero, Nat.reduceSub, List.set_cons_zero, List.set_cons_succ, DL.with_arg, DL.with_own, DL.wipeD, List.map_cons, List.map_nil, DL.toArg, DL.back2, DL.back2a, DL.back, DL.back1]); rfl)) | with_reducible apply DL.f_app | with_reducible apply DL.f_ext | (with_reducible apply DL.set_goal; focus ((try simp only [List.cons_append, List.nil_append, List.replicate_succ, List.replicate_zero, Nat.reduceSub, List.set_cons_zero, List.set_cons_succ, DL.with_arg, DL.with_own, DL.wipeD, List.map_cons, List.map_nil, DL.toArg, DL.back2, DL.back2a, DL.back, DL.back1]); rfl)) | with_reducible apply DL.s_seqG | with_reducible apply DL.step_b | with_reducible apply DL.k_nx | with_reducible exact DL.k_rt | with_reducible exact DL.k_ct | with_reducible exact DL.k_bk | with_reducible apply DL.s_asgG | with_reducible apply DL.s_asg | with_reducible apply DL.s_drop | with_reducible apply DL.s_ret | with_reducible apply DL.s_if | with_reducible exact DL.s_skip | (with_reducible apply DL.f_eq; (first | rfl | assumption); (first | rfl | assumption)) | (with_reducible apply DL.f_ne; (first | rfl | assumption); (first | rfl | assumption)) | with_reducible apply DL.f_addT | (with_reducible apply DL.f_ixT; assumption) | (with_reducible apply DL.f_ixL; assumption) | with_reducible apply DL.f_addL | with_reducible apply DL.s_par | with_reducible apply DL.s_for | with_reducible apply DL.i_it | with_reducible apply DL.i_r1 | with_reducible apply DL.r_lc | with_reducible apply DL.r_lc2 | with_reducible apply DL.i_enumT | with_reducible exact DL.t_yes | with_reducible apply DL.turn_e | with_reducible apply DL.g_tup | with_reducible apply DL.g_lst | with_reducible apply DL.g_cons | with_reducible exact DL.g_nil | with_reducible apply DL.g_n | (with_reducible apply DL.set_fz; rfl; focus ((try simp only [List.cons_append, List.nil_append, List.replicate_succ, List.replicate_zero, Nat.reduceSub, List.set_cons_zero, List.set_cons_succ, DL.with_arg, DL.with_own, DL.wipeD, List.map_cons, List.map_nil, DL.toArg, DL.back2, DL.back2a, DL.back, DL.back1]); rfl)) | (with_reducible apply DL.set_own; rfl; focus ((try simp only [List.cons_append, List.nil_append, List.replicate_succ, List.replicate_zero, Nat.reduceSub, List.set_cons_zero, List.set_cons_succ, DL.with_arg, DL.with_own, DL.wipeD, List.map_cons, List.map_nil, DL.toArg, DL.back2, DL.back2a, DL.back, DL.back1]); rfl)) | (with_reducible apply DL.p_t; (first | rfl | focus (simp [*]; done) | assumption)) | (with_reducible apply DL.p_f; (first | rfl | focus (simp [*]; done) | assumption)) | (with_reducible apply DL.v_fz; rfl) | (with_reducible apply DL.v_own; rfl) | (with_reducible apply DL.v_arg; rfl) | with_reducible exact DL.r_c | with_reducible apply DL.r_andB | with_reducible apply DL.r_bin | with_reducible apply DL.r_un | with_reducible apply DL.r_test | with_reducible apply DL.r_notV | with_reducible apply DL.r_and | with_reducible apply DL.r_or | with_reducible apply DL.r_not | with_reducible apply DL.r_if | with_reducible apply DL.r_chainB | with_reducible exact DL.l_nil | with_reducible apply DL.l_cons | with_reducible apply DL.r_tup | with_reducible apply DL.r_lst | with_reducible apply DL.o_some | with_reducible exact DL.o_none | with_reducible apply DL.r_sl | with_reducible exact DL.a_nil | with_reducible apply DL.a_val | with_reducible apply DL.a_ref | (with_reducible apply DL.small_of; focus (first | omega | (simp <;> omega))) | with_reducible apply DL.r_callR | with_reducible apply DL.r_call | (first | exact e_is_row_ofL _ _ | exact e_is_row_of _ _ | exact e_is_rowL _ | exact e_is_row _ | exact e_is_below _ _ | exact e_is_whole _ | assumption) | (with_reducible apply DL.f_mod; (first | assumption | omega | focus (simp; omega))) | (with_reducible apply DL.f_div; (first | assumption | omega | focus (simp; omega))) | with_reducible apply DL.f_mulI | (with_reducible apply DL.wide_lt; (first | assumption | omega | focus (simp; omega))) | rfl | (focus ((try simp only [List.cons_append, List.nil_append, List.replicate_succ, List.replicate_zero, Nat.reduceSub, List.set_cons_zero, List.set_cons_succ, DL.with_arg, DL.with_own, DL.wipeD, List.map_cons, List.map_nil, DL.toArg, DL.back2, DL.back2a, DL.back, DL.back1]); rfl); done)))
    · (repeat' (first | with_reducible apply DL.s_setI | with_reducible apply DL.s_app | with_reducible apply DL.s_ext | (with_reducible apply DL.m_arg; rfl) | (with_reducible apply DL.m_own; rfl) | (with_reducible apply DL.f_set; rfl; focus ((try simp only [List.cons_append, List.nil_append, List.replicate_succ, List.replicate_zero, Nat.reduceSub, List.set_cons_zero, List.set_cons_succ, DL.with_arg, DL.with_own, DL.wipeD, List.map_cons, List.map_nil, DL.toArg, DL.back2, DL.back2a, DL.back, DL.back1]); rfl)) | with_reducible apply DL.f_app | with_reducible apply DL.f_ext | (with_reducible apply DL.set_goal; focus ((try simp only [List.cons_append, List.nil_append, List.replicate_succ, List.replicate_zero, Nat.reduceSub, List.set_cons_zero, List.set_cons_succ, DL.with_arg, DL.with_own, DL.wipeD, List.map_cons, List.map_nil, DL.toArg, DL.back2, DL.back2a, DL.back, DL.back1]); rfl)) | with_reducible apply DL.s_seqG | with_reducible apply DL.step_b | with_reducible apply DL.k_nx | with_reducible exact DL.k_rt | with_reducible exact DL.k_ct | with_reducible exact DL.k_bk | with_reducible apply DL.s_asgG | with_reducible apply DL.s_asg | with_reducible apply DL.s_drop | with_reducible apply DL.s_ret | with_reducible apply DL.s_if | with_reducible exact DL.s_skip | (with_reducible apply DL.f_eq; (first | rfl | assumption); (first | rfl | assumption)) | (with_reducible apply DL.f_ne; (first | rfl | assumption); (first | rfl | assumption)) | with_reducible apply DL.f_addT | (with_reducible apply DL.f_ixT; assumption) | (with_reducible apply DL.f_ixL; assumption) | with_reducible apply DL.f_addL | with_reducible apply DL.s_par | with_reducible apply DL.s_for | with_reducible apply DL.i_it | with_reducible apply DL.i_r1 | with_reducible apply DL.r_lc | with_reducible apply DL.r_lc2 | with_reducible apply DL.i_enumT | with_reducible exact DL.t_yes | with_reducible apply DL.turn_e | with_reducible apply DL.g_tup | with_reducible apply DL.g_lst | with_reducible apply DL.g_cons | with_reducible exact DL.g_nil | with_reducible apply DL.g_n | (with_reducible apply DL.set_fz; rfl; focus ((try simp only [List.cons_append, List.nil_append, List.replicate_succ, List.replicate_zero, Nat.reduceSub, List.set_cons_zero, List.set_cons_succ, DL.with_arg, DL.with_own, DL.wipeD, List.map_cons, List.map_nil, DL.toArg, DL.back2, DL.back2a, DL.back, DL.back1]); rfl)) | (with_reducible apply DL.set_own; rfl; focus ((try simp only [List.cons_append, List.nil_append, List.replicate_succ, List.replicate_zero, Nat.reduceSub, List.set_cons_zero, List.set_cons_succ, DL.with_arg, DL.with_own, DL.wipeD, List.map_cons, List.map_nil, DL.toArg, DL.back2, DL.back2a, DL.back, DL.back1]); rfl)) | (with_reducible apply DL.p_t; (first | rfl | focus (simp [*]; done) | assumption)) | (with_reducible apply DL.p_f; (first | rfl | focus (simp [*]; done) | assumption)) | (with_reducible apply DL.v_fz; rfl) | (with_reducible apply DL.v_own; rfl) | (with_reducible apply DL.v_arg; rfl) | with_reducible exact DL.r_c | with_reducible apply DL.r_andB | with_reducible apply DL.r_bin | with_reducible apply DL.r_un | with_reducible apply DL.r_test | with_reducible apply DL.r_notV | with_reducible apply DL.r_and | with_reducible apply DL.r_or | with_reducible apply DL.r_not | with_reducible apply DL.r_if | with_reducible apply DL.r_chainB | with_reducible exact DL.l_nil | with_reducible apply DL.l_cons | with_reducible apply DL.r_tup | with_reducible apply DL.r_lst | with_reducible apply DL.o_some | with_reducible exact DL.o_none | with_reducible apply DL.r_sl | with_reducible exact DL.a_nil | with_reducible apply DL.a_val | with_reducible apply DL.a_ref | (with_reducible apply DL.small_of; focus (first | omega | (simp <;> omega))) | with_reducible apply DL.r_callR | with_reducible apply DL.r_call | (first | exact e_is_row_ofL _ _ | exact e_is_row_of _ _ | exact e_is_rowL _ | exact e_is_row _ | exact e_is_below _ _ | exact e_is_whole _ | assumption) | (with_reducible apply DL.f_mod; (first | assumption | omega | focus (simp; omega))) | (with_reducible apply DL.f_div; (first | assumption | omega | focus (simp; omega))) | with_reducible apply DL.f_mulI | (with_reducible apply DL.wide_lt; (first | assumption | omega | focus (simp; omega))) | rfl | (focus ((try simp only [List.cons_append, List.nil_append, List.replicate_succ, List.replicate_zero, Nat.reduceSub, List.set_cons_zero, List.set_cons_succ, DL.with_arg, DL.with_own, DL.wipeD, List.map_cons, List.map_nil, DL.toArg, DL.back2, DL.back2a, DL.back, DL.back1]); rfl); done)))
    · (repeat' (first | with_reducible apply DL.s_setI | with_reducible apply DL.s_app | with_reducible apply DL.s_ext | (with_reducible apply DL.m_arg; rfl) | (with_reducible apply DL.m_own; rfl) | (with_reducible apply DL.f_set; rfl; focus ((try simp only [List.cons_append, List.nil_append, List.replicate_succ, List.replicate_zero, Nat.reduceSub, List.set_cons_zero, List.set_cons_succ, DL.with_arg, DL.with_own, DL.wipeD, List.map_cons, List.map_nil, DL.toArg, DL.back2, DL.back2a, DL.back, DL.back1]); rfl)) | with_reducible apply DL.f_app | with_reducible apply DL.f_ext | (with_reducible apply DL.set_goal; focus ((try simp only [List.cons_append, List.nil_append, List.replicate_succ, List.replicate_zero, Nat.reduceSub, List.set_cons_zero, List.set_cons_succ, DL.with_arg, DL.with_own, DL.wipeD, List.map_cons, List.map_nil, DL.toArg, DL.back2, DL.back2a, DL.back, DL.back1]); rfl)) | with_reducible apply DL.s_seqG | with_reducible apply DL.step_b | with_reducible apply DL.k_nx | with_reducible exact DL.k_rt | with_reducible exact DL.k_ct | with_reducible exact DL.k_bk | with_reducible apply DL.s_asgG | with_reducible apply DL.s_asg | with_reducible apply DL.s_drop | with_reducible apply DL.s_ret | with_reducible apply DL.s_if | with_reducible exact DL.s_skip | (with_reducible apply DL.f_eq; (first | rfl | assumption); (first | rfl | assumption)) | (with_reducible apply DL.f_ne; (first | rfl | assumption); (first | rfl | assumption)) | with_reducible apply DL.f_addT | (with_reducible apply DL.f_ixT; assumption) | (with_reducible apply DL.f_ixL; assumption) | with_reducible apply DL.f_addL | with_reducible apply DL.s_par | with_reducible apply DL.s_for | with_reducible apply DL.i_it | with_reducible apply DL.i_r1 | with_reducible apply DL.r_lc | with_reducible apply DL.r_lc2 | with_reducible apply DL.i_enumT | with_reducible exact DL.t_yes | with_reducible apply DL.turn_e | with_reducible apply DL.g_tup | with_reducible apply DL.g_lst | with_reducible apply DL.g_cons | with_reducible exact DL.g_nil | with_reducible apply DL.g_n | (with_reducible apply DL.set_fz; rfl; focus ((try simp only [List.cons_append, List.nil_append, List.replicate_succ, List.replicate_zero, Nat.reduceSub, List.set_cons_zero, List.set_cons_succ, DL.with_arg, DL.with_own, DL.wipeD, List.map_cons, List.map_nil, DL.toArg, DL.back2, DL.back2a, DL.back, DL.back1]); rfl)) | (with_reducible apply DL.set_own; rfl; focus ((try simp only [List.cons_append, List.nil_append, List.replicate_succ, List.replicate_zero, Nat.reduceSub, List.set_cons_zero, List.set_cons_succ, DL.with_arg, DL.with_own, DL.wipeD, List.map_cons, List.map_nil, DL.toArg, DL.back2, DL.back2a, DL.back, DL.back1]); rfl)) | (with_reducible apply DL.p_t; (first | rfl | focus (simp [*]; done) | assumption)) | (with_reducible apply DL.p_f; (first | rfl | focus (simp [*]; done) | assumption)) | (with_reducible apply DL.v_fz; rfl) | (with_reducible apply DL.v_own; rfl) | (with_reducible apply DL.v_arg; rfl) | with_reducible exact DL.r_c | with_reducible apply DL.r_andB | with_reducible apply DL.r_bin | with_reducible apply DL.r_un | with_reducible apply DL.r_test | with_reducible apply DL.r_notV | with_reducible apply DL.r_and | with_reducible apply DL.r_or | with_reducible apply DL.r_not | with_reducible apply DL.r_if | with_reducible apply DL.r_chainB | with_reducible exact DL.l_nil | with_reducible apply DL.l_cons | with_reducible apply DL.r_tup | with_reducible apply DL.r_lst | with_reducible apply DL.o_some | with_reducible exact DL.o_none | with_reducible apply DL.r_sl | with_reducible exact DL.a_nil | with_reducible apply DL.a_val | with_reducible apply DL.a_ref | (with_reducible apply DL.small_of; focus (first | omega | (simp <;> omega))) | with_reducible apply DL.r_callR | with_reducible apply DL.r_call | (first | exact e_is_row_ofL _ _ | exact e_is_row_of _ _ | exact e_is_rowL _ | exact e_is_row _ | exact e_is_below _ _ | exact e_is_whole _ | assumption) | (with_reducible apply DL.f_mod; (first | assumption | omega | focus (simp; omega))) | (with_reducible apply DL.f_div; (first | assumption | omega | focus (simp; omega))) | with_reducible apply DL.f_mulI | (with_reducible apply DL.wide_lt; (first | assumption | omega | focus (simp; omega))) | rfl | (focus ((try simp only [List.cons_append, List.nil_append, List.replicate_succ, List.replicate_zero, Nat.reduceSub, List.set_cons_zero, List.set_cons_succ, DL.with_arg, DL.with_own, DL.wipeD, List.map_cons, List.map_nil, DL.toArg, DL.back2, DL.back2a, DL.back, DL.back1]); rfl); done)))
    · rfl
  have hs : (small ((List.range ((ds.length : Nat) : Int).toNat).map fun (i : Nat) => PyData.int i).length && freeAt [2] [.fz (.tuple ds), .fz (.tuple ds), .no]) = true := (Bool.and_eq_true _ _).mpr ⟨small_of (by rw [List.length_map, List.length_range]; omega), rfl⟩
  rw [al_succ]
  apply run_b rfl
  · focus ((try simp only [List.cons_append, List.nil_append, List.replicate_succ, List.replicate_zero, Nat.reduceSub, List.set_cons_zero, List.set_cons_succ, DL.with_arg, DL.with_own, DL.wipeD, List.map_cons, List.map_nil, DL.toArg, DL.back2, DL.back2a, DL.back, DL.back1]); rfl)
  · unfold sd__law_alike
    (repeat' (first | with_reducible apply DL.s_setI | with_reducible apply DL.s_app | with_reducible apply DL.s_ext | (with_reducible apply DL.m_arg; rfl) | (with_reducible apply DL.m_own; rfl) | (with_reducible apply DL.f_set; rfl; focus ((try simp only [List.cons_append, List.nil_append, List.replicate_succ, List.replicate_zero, Nat.reduceSub, List.set_cons_zero, List.set_cons_succ, DL.with_arg, DL.with_own, DL.wipeD, List.map_cons, List.map_nil, DL.toArg, DL.back2, DL.back2a, DL.back, DL.back1]); rfl)) | with_reducible apply DL.f_app | with_reducible apply DL.f_ext | (with_reducible apply DL.set_goal; focus ((try simp only [List.cons_append, List.nil_append, List.replicate_succ, List.replicate_zero, Nat.reduceSub, List.set_cons_zero, List.set_cons_succ, DL.with_arg, DL.with_own, DL.wipeD, List.map_cons, List.map_nil, DL.toArg, DL.back2, DL.back2a, DL.back, DL.back1]); rfl)) | with_reducible apply DL.s_seqG | with_reducible apply DL.step_b | with_reducible apply DL.k_nx | with_reducible exact DL.k_rt | with_reducible exact DL.k_ct | with_reducible exact DL.k_bk | with_reducible apply DL.s_asgG | with_reducible apply DL.s_asg | with_reducible apply DL.s_drop | with_reducible apply DL.s_ret | with_reducible apply DL.s_if | with_reducible exact DL.s_skip | (with_reducible apply DL.f_eq; (first | rfl | assumption); (first | rfl | assumption)) | (with_reducible apply DL.f_ne; (first | rfl | assumption); (first | rfl | assumption)) | with_reducible apply DL.f_addT | (with_reducible apply DL.f_ixT; assumption) | (with_reducible apply DL.f_ixL; assumption) | with_reducible apply DL.f_addL | with_reducible apply DL.s_par | with_reducible apply DL.s_for | with_reducible apply DL.i_it | with_reducible apply DL.i_r1 | with_reducible apply DL.r_lc | with_reducible apply DL.r_lc2 | with_reducible apply DL.i_enumT | with_reducible exact DL.t_yes | with_reducible apply DL.turn_e | with_reducible apply DL.g_tup | with_reducible apply DL.g_lst | with_reducible apply DL.g_cons | with_reducible exact DL.g_nil | with_reducible apply DL.g_n | (with_reducible apply DL.set_fz; rfl; focus ((try simp only [List.cons_append, List.nil_append, List.replicate_succ, List.replicate_zero, Nat.reduceSub, List.set_cons_zero, List.set_cons_succ, DL.with_arg, DL.with_own, DL.wipeD, List.map_cons, List.map_nil, DL.toArg, DL.back2, DL.back2a, DL.back, DL.back1]); rfl)) | (with_reducible apply DL.set_own; rfl; focus ((try simp only [List.cons_append, List.nil_append, List.replicate_succ, List.replicate_zero, Nat.reduceSub, List.set_cons_zero, List.set_cons_succ, DL.with_arg, DL.with_own, DL.wipeD, List.map_cons, List.map_nil, DL.toArg, DL.back2, DL.back2a, DL.back, DL.back1]); rfl)) | (with_reducible apply DL.p_t; (first | rfl | focus (simp [*]; done) | assumption)) | (with_reducible apply DL.p_f; (first | rfl | focus (simp [*]; done) | assumption)) | (with_reducible apply DL.v_fz; rfl) | (with_reducible apply DL.v_own; rfl) | (with_reducible apply DL.v_arg; rfl) | with_reducible exact DL.r_c | with_reducible apply DL.r_andB | with_reducible apply DL.r_bin | with_reducible apply DL.r_un | with_reducible apply DL.r_test | with_reducible apply DL.r_notV | with_reducible apply DL.r_and | with_reducible apply DL.r_or | with_reducible apply DL.r_not | with_reducible apply DL.r_if | with_reducible apply DL.r_chainB | with_reducible exact DL.l_nil | with_reducible apply DL.l_cons | with_reducible apply DL.r_tup | with_reducible apply DL.r_lst | with_reducible apply DL.o_some | with_reducible exact DL.o_none | with_reducible apply DL.r_sl | with_reducible exact DL.a_nil | with_reducible apply DL.a_val | with_reducible apply DL.a_ref | (with_reducible apply DL.small_of; focus (first | omega | (simp <;> omega))) | with_reducible apply DL.r_callR | with_reducible apply DL.r_call | (first | exact e_is_row_ofL _ _ | exact e_is_row_of _ _ | exact e_is_rowL _ | exact e_is_row _ | exact e_is_below _ _ | exact e_is_whole _ | assumption) | (with_reducible apply DL.f_mod; (first | assumption | omega | focus (simp; omega))) | (with_reducible apply DL.f_div; (first | assumption | omega | focus (simp; omega))) | with_reducible apply DL.f_mulI | (with_reducible apply DL.wide_lt; (first | assumption | omega | focus (simp; omega))) | rfl | (focus ((try simp only [List.cons_append, List.nil_append, List.replicate_succ, List.replicate_zero, Nat.reduceSub, List.set_cons_zero, List.set_cons_succ, DL.with_arg, DL.with_own, DL.wipeD, List.map_cons, List.map_nil, DL.toArg, DL.back2, DL.back2a, DL.back, DL.back1]); rfl); done)))
  all_goals rfl
theorem al_line (n : Nat) {p : Int} {l : Ln} (h : okL p l) : d__law_alike (n + 2) [.fz (encL l), .fz (encL l)] = .ok (.fz (.bool true)) [.no, .no] := by
  refine al_tuple (n + 1) _ (by simp) fun d hd => ?_
  simp only [List.mem_cons, List.not_mem_nil, or_false] at hd
  rcases hd with rfl | rfl | rfl
  · exact al_int n _
  · exact al_int n _
  · exact al_ch n h.2.2.2.2
theorem al_web (n : Nat) {p : Int} {ls : List Ln} (h : OkW p ls) : d__law_alike (n + 4) [.fz (encW p ls), .fz (encW p ls)] = .ok (.fz (.bool true)) [.no, .no] := by
  refine al_tuple (n + 3) _ (by simp) fun d hd => ?_
  simp only [List.mem_cons, List.not_mem_nil, or_false] at hd
  rcases hd with rfl | rfl
  · exact al_int (n + 2) _
  · refine al_tuple (n + 2) _ (by rw [List.length_map]; exact h.ln) fun d hd => ?_
    obtain ⟨l, hl, rfl⟩ := List.mem_map.mp hd
    exact al_line n (h.ok l hl)

theorem e_ends_at {wd : D} (p : Int) (ls : List Ln) (pl : Int) (cw : d_checked_web [.fz wd] = .ok (.fz (encW p ls)) [.no]) (h : OkW p ls) (h0 : 0 ≤ pl) (h1 : pl < p) : d_ends_at [.fz wd, .fz (.int pl)] = .ok (.own (.lst ((endsOf ls pl).map encE))) [.no, .no] := by
  have c1 := cw
  have c2 := e_check_place p pl h0 h1
  have c3 := e_ends_of ls pl h.ln
  unfold d_ends_at
  apply run_o rfl
  · focus ((try simp only [List.cons_append, List.nil_append, List.replicate_succ, List.replicate_zero, Nat.reduceSub, List.set_cons_zero, List.set_cons_succ, DL.with_arg, DL.with_own, DL.wipeD, List.map_cons, List.map_nil, DL.toArg, DL.back2, DL.back2a, DL.back, DL.back1]); rfl)
  · unfold sd_ends_at
    (repeat' (first | with_reducible apply DL.s_setI | with_reducible apply DL.s_app | with_reducible apply DL.s_ext | (with_reducible apply DL.m_arg; rfl) | (with_reducible apply DL.m_own; rfl) | (with_reducible apply DL.f_set; rfl; focus ((try simp only [List.cons_append, List.nil_append, List.replicate_succ, List.replicate_zero, Nat.reduceSub, List.set_cons_zero, List.set_cons_succ, DL.with_arg, DL.with_own, DL.wipeD, List.map_cons, List.map_nil, DL.toArg, DL.back2, DL.back2a, DL.back, DL.back1]); rfl)) | with_reducible apply DL.f_app | with_reducible apply DL.f_ext | (with_reducible apply DL.set_goal; focus ((try simp only [List.cons_append, List.nil_append, List.replicate_succ, List.replicate_zero, Nat.reduceSub, List.set_cons_zero, List.set_cons_succ, DL.with_arg, DL.with_own, DL.wipeD, List.map_cons, List.map_nil, DL.toArg, DL.back2, DL.back2a, DL.back, DL.back1]); rfl)) | with_reducible apply DL.s_seqG | with_reducible apply DL.step_b | with_reducible apply DL.k_nx | with_reducible exact DL.k_rt | with_reducible exact DL.k_ct | with_reducible exact DL.k_bk | with_reducible apply DL.s_asgG | with_reducible apply DL.s_asg | with_reducible apply DL.s_drop | with_reducible apply DL.s_ret | with_reducible apply DL.s_if | with_reducible exact DL.s_skip | (with_reducible apply DL.f_eq; (first | rfl | assumption); (first | rfl | assumption)) | (with_reducible apply DL.f_ne; (first | rfl | assumption); (first | rfl | assumption)) | with_reducible apply DL.f_addT | (with_reducible apply DL.f_ixT; assumption) | (with_reducible apply DL.f_ixL; assumption) | with_reducible apply DL.f_addL | with_reducible apply DL.s_par | with_reducible apply DL.s_for | with_reducible apply DL.i_it | with_reducible apply DL.i_r1 | with_reducible apply DL.r_lc | with_reducible apply DL.r_lc2 | with_reducible apply DL.i_enumT | with_reducible exact DL.t_yes | with_reducible apply DL.turn_e | with_reducible apply DL.g_tup | with_reducible apply DL.g_lst | with_reducible apply DL.g_cons | with_reducible exact DL.g_nil | with_reducible apply DL.g_n | (with_reducible apply DL.set_fz; rfl; focus ((try simp only [List.cons_append, List.nil_append, List.replicate_succ, List.replicate_zero, Nat.reduceSub, List.set_cons_zero, List.set_cons_succ, DL.with_arg, DL.with_own, DL.wipeD, List.map_cons, List.map_nil, DL.toArg, DL.back2, DL.back2a, DL.back, DL.back1]); rfl)) | (with_reducible apply DL.set_own; rfl; focus ((try simp only [List.cons_append, List.nil_append, List.replicate_succ, List.replicate_zero, Nat.reduceSub, List.set_cons_zero, List.set_cons_succ, DL.with_arg, DL.with_own, DL.wipeD, List.map_cons, List.map_nil, DL.toArg, DL.back2, DL.back2a, DL.back, DL.back1]); rfl)) | (with_reducible apply DL.p_t; (first | rfl | focus (simp [*]; done) | assumption)) | (with_reducible apply DL.p_f; (first | rfl | focus (simp [*]; done) | assumption)) | (with_reducible apply DL.v_fz; rfl) | (with_reducible apply DL.v_own; rfl) | (with_reducible apply DL.v_arg; rfl) | with_reducible exact DL.r_c | with_reducible apply DL.r_andB | with_reducible apply DL.r_bin | with_reducible apply DL.r_un | with_reducible apply DL.r_test | with_reducible apply DL.r_notV | with_reducible apply DL.r_and | with_reducible apply DL.r_or | with_reducible apply DL.r_not | with_reducible apply DL.r_if | with_reducible apply DL.r_chainB | with_reducible exact DL.l_nil | with_reducible apply DL.l_cons | with_reducible apply DL.r_tup | with_reducible apply DL.r_lst | with_reducible apply DL.o_some | with_reducible exact DL.o_none | with_reducible apply DL.r_sl | with_reducible exact DL.a_nil | with_reducible apply DL.a_val | with_reducible apply DL.a_ref | (with_reducible apply DL.small_of; focus (first | omega | (simp <;> omega))) | with_reducible apply DL.r_callR | with_reducible apply DL.r_call | (first | exact e_is_row_ofL _ _ | exact e_is_row_of _ _ | exact e_is_rowL _ | exact e_is_row _ | exact e_is_below _ _ | exact e_is_whole _ | assumption) | (with_reducible apply DL.f_mod; (first | assumption | omega | focus (simp; omega))) | (with_reducible apply DL.f_div; (first | assumption | omega | focus (simp; omega))) | with_reducible apply DL.f_mulI | (with_reducible apply DL.wide_lt; (first | assumption | omega | focus (simp; omega))) | rfl | (focus ((try simp only [List.cons_append, List.nil_append, List.replicate_succ, List.replicate_zero, Nat.reduceSub, List.set_cons_zero, List.set_cons_succ, DL.with_arg, DL.with_own, DL.wipeD, List.map_cons, List.map_nil, DL.toArg, DL.back2, DL.back2a, DL.back, DL.back1]); rfl); done)))
  all_goals rfl
theorem ends_snoc (xs : List Ln) (l : Ln) (pl : Int) : endsOf (xs ++ [l]) pl = endsOf xs pl ++ endAt pl xs.length l := by
  unfold endsOf
  rw [List.length_append, List.length_singleton, List.range_succ, List.zip_append (by simp), List.flatMap_append]
  simp
abbrev eTest : Dt := dTest (dBin fEq (dBin fIx (dBin fIx (dBin fIx (dVar 0) (dC (.int 1))) (dVar 3)) (dVar 4)) (dVar 1))
abbrev eElt : De := dTup (dCons (dVar 3) (dCons (dVar 4) dNil))
abbrev eBody : Ds := dExt 2 (dLc [4] (dRange1 (dCons (dC (.int 2)) dNil)) (gN 4) eTest eElt)
theorem end_turn (p : Int) (ls : List Ln) (pl : Int) (n : Nat) (l : Ln) (hn : ls[n]? = some l) (acc : List D) (ha : acc.length ≤ 5000) (s3 : Sl) (h : s3 = .no ∨ ∃ d, s3 = .fz d) :
    stepB (gN 3) eBody (.int (n : Nat)) [.fz (encW p ls), .fz (.int pl), .own (.lst acc), s3, .no] = .ok .nx [.fz (encW p ls), .fz (.int pl), .own (.lst (acc ++ (endAt pl n l).map encE)), .fz (.int (n : Nat)), .no] := by
  have q0 : fIx (encW p ls) (.int 1) = some (.fz (.tuple (ls.map encL))) := rfl
  have q1 : fIx (.tuple (ls.map encL)) (.int (n : Nat)) = some (.fz (encL l)) := f_ixT (at_enc hn)
  have q2 : fIx (encL l) (.int 0) = some (.fz (.int l.1)) := rfl
  have q3 : fIx (encL l) (.int 1) = some (.fz (.int l.2.1)) := rfl
  have q4 : fEq (.int l.1) (.int pl) = some (.fz (.bool (decide (l.1 = pl)))) := by
    rw [f_eq rfl rfl]; rfl
  have q5 : fEq (.int l.2.1) (.int pl) = some (.fz (.bool (decide (l.2.1 = pl)))) := by
    rw [f_eq rfl rfl]; rfl
  have hl := endAt_len pl n l
  have small1 : small (acc.length + ((endAt pl n l).map encE).length) = true := small_of (by rw [List.length_map]; omega)
  have fe := f_ext (ds := acc) (es := (endAt pl n l).map encE) small1
  have t0 : ∀ S : Sl, turnL [4] (gN 4) eTest eElt (.int 0) [.fz (encW p ls), .fz (.int pl), .own (.lst acc), .fz (.int (n : Nat)), .no] = .ok (if decide (l.1 = pl) = true then some (encE (n, 0)) else none) [.fz (encW p ls), .fz (.int pl), .own (.lst acc), .fz (.int (n : Nat)), .no] := by
    intro _
    generalize encW p ls = W at *
    generalize encL l = L at *
    apply turn_c
    · focus ((try simp only [List.cons_append, List.nil_append, List.replicate_succ, List.replicate_zero, Nat.reduceSub, List.set_cons_zero, List.set_cons_succ, DL.with_arg, DL.with_own, DL.wipeD, List.map_cons, List.map_nil, DL.toArg, DL.back2, DL.back2a, DL.back, DL.back1]); rfl)
    · (repeat' (first | with_reducible apply DL.s_setI | with_reducible apply DL.s_app | with_reducible apply DL.s_ext | (with_reducible apply DL.m_arg; rfl) | (with_reducible apply DL.m_own; rfl) | (with_reducible apply DL.f_set; rfl; focus ((try simp only [List.cons_append, List.nil_append, List.replicate_succ, List.replicate_zero, Nat.reduceSub, List.set_cons_zero, List.set_cons_succ, DL.with_arg, DL.with_own, DL.wipeD, List.map_cons, List.map_nil, DL.toArg, DL.back2, DL.back2a, DL.back, DL.back1]); rfl)) | with_reducible apply DL.f_app | with_reducible apply DL.f_ext | (with_reducible apply DL.set_goal; focus ((try simp only [List.cons_append, List.nil_append, List.replicate_succ, List.replicate_zero, Nat.reduceSub, List.set_cons_zero, List.set_cons_succ, DL.with_arg, DL.with_own, DL.wipeD, List.map_cons, List.map_nil, DL.toArg, DL.back2, DL.back2a, DL.back, DL.back1]); rfl)) | with_reducible apply DL.s_seqG | with_reducible apply DL.step_b | with_reducible apply DL.k_nx | with_reducible exact DL.k_rt | with_reducible exact DL.k_ct | with_reducible exact DL.k_bk | with_reducible apply DL.s_asgG | with_reducible apply DL.s_asg | with_reducible apply DL.s_drop | with_reducible apply DL.s_ret | with_reducible apply DL.s_if | with_reducible exact DL.s_skip | (with_reducible apply DL.f_eq; (first | rfl | assumption); (first | rfl | assumption)) | (with_reducible apply DL.f_ne; (first | rfl | assumption); (first | rfl | assumption)) | with_reducible apply DL.f_addT | (with_reducible apply DL.f_ixT; assumption) | (with_reducible apply DL.f_ixL; assumption) | with_reducible apply DL.f_addL | with_reducible apply DL.s_par | with_reducible apply DL.s_for | with_reducible apply DL.i_it | with_reducible apply DL.i_r1 | with_reducible apply DL.r_lc | with_reducible apply DL.r_lc2 | with_reducible apply DL.i_enumT | with_reducible exact DL.t_yes | with_reducible apply DL.turn_e | with_reducible apply DL.g_tup | with_reducible apply DL.g_lst | with_reducible apply DL.g_cons | with_reducible exact DL.g_nil | with_reducible apply DL.g_n | (with_reducible apply DL.set_fz; rfl; focus ((try simp only [List.cons_append, List.nil_append, List.replicate_succ, List.replicate_zero, Nat.reduceSub, List.set_cons_zero, List.set_cons_succ, DL.with_arg, DL.with_own, DL.wipeD, List.map_cons, List.map_nil, DL.toArg, DL.back2, DL.back2a, DL.back, DL.back1]); rfl)) | (with_reducible apply DL.set_own; rfl; focus ((try simp only [List.cons_append, List.nil_append, List.replicate_succ, List.replicate_zero, Nat.reduceSub, List.set_cons_zero, List.set_cons_succ, DL.with_arg, DL.with_own, DL.wipeD, List.map_cons, List.map_nil, DL.toArg, DL.back2, DL.back2a, DL.back, DL.back1]); rfl)) | (with_reducible apply DL.p_t; (first | rfl | focus (simp [*]; done) | assumption)) | (with_reducible apply DL.p_f; (first | rfl | focus (simp [*]; done) | assumption)) | (with_reducible apply DL.v_fz; rfl) | (with_reducible apply DL.v_own; rfl) | (with_reducible apply DL.v_arg; rfl) | with_reducible exact DL.r_c | with_reducible apply DL.r_andB | with_reducible apply DL.r_bin | with_reducible apply DL.r_un | with_reducible apply DL.r_test | with_reducible apply DL.r_notV | with_reducible apply DL.r_and | with_reducible apply DL.r_or | with_reducible apply DL.r_not | with_reducible apply DL.r_if | with_reducible apply DL.r_chainB | with_reducible exact DL.l_nil | with_reducible apply DL.l_cons | with_reducible apply DL.r_tup | with_reducible apply DL.r_lst | with_reducible apply DL.o_some | with_reducible exact DL.o_none | with_reducible apply DL.r_sl | with_reducible exact DL.a_nil | with_reducible apply DL.a_val | with_reducible apply DL.a_ref | (with_reducible apply DL.small_of; focus (first | omega | (simp <;> omega))) | with_reducible apply DL.r_callR | with_reducible apply DL.r_call | (first | exact e_is_row_ofL _ _ | exact e_is_row_of _ _ | exact e_is_rowL _ | exact e_is_row _ | exact e_is_below _ _ | exact e_is_whole _ | assumption) | (with_reducible apply DL.f_mod; (first | assumption | omega | focus (simp; omega))) | (with_reducible apply DL.f_div; (first | assumption | omega | focus (simp; omega))) | with_reducible apply DL.f_mulI | (with_reducible apply DL.wide_lt; (first | assumption | omega | focus (simp; omega))) | rfl | (focus ((try simp only [List.cons_append, List.nil_append, List.replicate_succ, List.replicate_zero, Nat.reduceSub, List.set_cons_zero, List.set_cons_succ, DL.with_arg, DL.with_own, DL.wipeD, List.map_cons, List.map_nil, DL.toArg, DL.back2, DL.back2a, DL.back, DL.back1]); rfl); done)))
    · (repeat' (first | with_reducible apply DL.s_setI | with_reducible apply DL.s_app | with_reducible apply DL.s_ext | (with_reducible apply DL.m_arg; rfl) | (with_reducible apply DL.m_own; rfl) | (with_reducible apply DL.f_set; rfl; focus ((try simp only [List.cons_append, List.nil_append, List.replicate_succ, List.replicate_zero, Nat.reduceSub, List.set_cons_zero, List.set_cons_succ, DL.with_arg, DL.with_own, DL.wipeD, List.map_cons, List.map_nil, DL.toArg, DL.back2, DL.back2a, DL.back, DL.back1]); rfl)) | with_reducible apply DL.f_app | with_reducible apply DL.f_ext | (with_reducible apply DL.set_goal; focus ((try simp only [List.cons_append, List.nil_append, List.replicate_succ, List.replicate_zero, Nat.reduceSub, List.set_cons_zero, List.set_cons_succ, DL.with_arg, DL.with_own, DL.wipeD, List.map_cons, List.map_nil, DL.toArg, DL.back2, DL.back2a, DL.back, DL.back1]); rfl)) | with_reducible apply DL.s_seqG | with_reducible apply DL.step_b | with_reducible apply DL.k_nx | with_reducible exact DL.k_rt | with_reducible exact DL.k_ct | with_reducible exact DL.k_bk | with_reducible apply DL.s_asgG | with_reducible apply DL.s_asg | with_reducible apply DL.s_drop | with_reducible apply DL.s_ret | with_reducible apply DL.s_if | with_reducible exact DL.s_skip | (with_reducible apply DL.f_eq; (first | rfl | assumption); (first | rfl | assumption)) | (with_reducible apply DL.f_ne; (first | rfl | assumption); (first | rfl | assumption)) | with_reducible apply DL.f_addT | (with_reducible apply DL.f_ixT; assumption) | (with_reducible apply DL.f_ixL; assumption) | with_reducible apply DL.f_addL | with_reducible apply DL.s_par | with_reducible apply DL.s_for | with_reducible apply DL.i_it | with_reducible apply DL.i_r1 | with_reducible apply DL.r_lc | with_reducible apply DL.r_lc2 | with_reducible apply DL.i_enumT | with_reducible exact DL.t_yes | with_reducible apply DL.turn_e | with_reducible apply DL.g_tup | with_reducible apply DL.g_lst | with_reducible apply DL.g_cons | with_reducible exact DL.g_nil | with_reducible apply DL.g_n | (with_reducible apply DL.set_fz; rfl; focus ((try simp only [List.cons_append, List.nil_append, List.replicate_succ, List.replicate_zero, Nat.reduceSub, List.set_cons_zero, List.set_cons_succ, DL.with_arg, DL.with_own, DL.wipeD, List.map_cons, List.map_nil, DL.toArg, DL.back2, DL.back2a, DL.back, DL.back1]); rfl)) | (with_reducible apply DL.set_own; rfl; focus ((try simp only [List.cons_append, List.nil_append, List.replicate_succ, List.replicate_zero, Nat.reduceSub, List.set_cons_zero, List.set_cons_succ, DL.with_arg, DL.with_own, DL.wipeD, List.map_cons, List.map_nil, DL.toArg, DL.back2, DL.back2a, DL.back, DL.back1]); rfl)) | (with_reducible apply DL.p_t; (first | rfl | focus (simp [*]; done) | assumption)) | (with_reducible apply DL.p_f; (first | rfl | focus (simp [*]; done) | assumption)) | (with_reducible apply DL.v_fz; rfl) | (with_reducible apply DL.v_own; rfl) | (with_reducible apply DL.v_arg; rfl) | with_reducible exact DL.r_c | with_reducible apply DL.r_andB | with_reducible apply DL.r_bin | with_reducible apply DL.r_un | with_reducible apply DL.r_test | with_reducible apply DL.r_notV | with_reducible apply DL.r_and | with_reducible apply DL.r_or | with_reducible apply DL.r_not | with_reducible apply DL.r_if | with_reducible apply DL.r_chainB | with_reducible exact DL.l_nil | with_reducible apply DL.l_cons | with_reducible apply DL.r_tup | with_reducible apply DL.r_lst | with_reducible apply DL.o_some | with_reducible exact DL.o_none | with_reducible apply DL.r_sl | with_reducible exact DL.a_nil | with_reducible apply DL.a_val | with_reducible apply DL.a_ref | (with_reducible apply DL.small_of; focus (first | omega | (simp <;> omega))) | with_reducible apply DL.r_callR | with_reducible apply DL.r_call | (first | exact e_is_row_ofL _ _ | exact e_is_row_of _ _ | exact e_is_rowL _ | exact e_is_row _ | exact e_is_below _ _ | exact e_is_whole _ | assumption) | (with_reducible apply DL.f_mod; (first | assumption | omega | focus (simp; omega))) | (with_reducible apply DL.f_div; (first | assumption | omega | focus (simp; omega))) | with_reducible apply DL.f_mulI | (with_reducible apply DL.wide_lt; (first | assumption | omega | focus (simp; omega))) | rfl | (focus ((try simp only [List.cons_append, List.nil_append, List.replicate_succ, List.replicate_zero, Nat.reduceSub, List.set_cons_zero, List.set_cons_succ, DL.with_arg, DL.with_own, DL.wipeD, List.map_cons, List.map_nil, DL.toArg, DL.back2, DL.back2a, DL.back, DL.back1]); rfl); done)))
    · (repeat' (first | with_reducible apply DL.s_setI | with_reducible apply DL.s_app | with_reducible apply DL.s_ext | (with_reducible apply DL.m_arg; rfl) | (with_reducible apply DL.m_own; rfl) | (with_reducible apply DL.f_set; rfl; focus ((try simp only [List.cons_append, List.nil_append, List.replicate_succ, List.replicate_zero, Nat.reduceSub, List.set_cons_zero, List.set_cons_succ, DL.with_arg, DL.with_own, DL.wipeD, List.map_cons, List.map_nil, DL.toArg, DL.back2, DL.back2a, DL.back, DL.back1]); rfl)) | with_reducible apply DL.f_app | with_reducible apply DL.f_ext | (with_reducible apply DL.set_goal; focus ((try simp only [List.cons_append, List.nil_append, List.replicate_succ, List.replicate_zero, Nat.reduceSub, List.set_cons_zero, List.set_cons_succ, DL.with_arg, DL.with_own, DL.wipeD, List.map_cons, List.map_nil, DL.toArg, DL.back2, DL.back2a, DL.back, DL.back1]); rfl)) | with_reducible apply DL.s_seqG | with_reducible apply DL.step_b | with_reducible apply DL.k_nx | with_reducible exact DL.k_rt | with_reducible exact DL.k_ct | with_reducible exact DL.k_bk | with_reducible apply DL.s_asgG | with_reducible apply DL.s_asg | with_reducible apply DL.s_drop | with_reducible apply DL.s_ret | with_reducible apply DL.s_if | with_reducible exact DL.s_skip | (with_reducible apply DL.f_eq; (first | rfl | assumption); (first | rfl | assumption)) | (with_reducible apply DL.f_ne; (first | rfl | assumption); (first | rfl | assumption)) | with_reducible apply DL.f_addT | (with_reducible apply DL.f_ixT; assumption) | (with_reducible apply DL.f_ixL; assumption) | with_reducible apply DL.f_addL | with_reducible apply DL.s_par | with_reducible apply DL.s_for | with_reducible apply DL.i_it | with_reducible apply DL.i_r1 | with_reducible apply DL.r_lc | with_reducible apply DL.r_lc2 | with_reducible apply DL.i_enumT | with_reducible exact DL.t_yes | with_reducible apply DL.turn_e | with_reducible apply DL.g_tup | with_reducible apply DL.g_lst | with_reducible apply DL.g_cons | with_reducible exact DL.g_nil | with_reducible apply DL.g_n | (with_reducible apply DL.set_fz; rfl; focus ((try simp only [List.cons_append, List.nil_append, List.replicate_succ, List.replicate_zero, Nat.reduceSub, List.set_cons_zero, List.set_cons_succ, DL.with_arg, DL.with_own, DL.wipeD, List.map_cons, List.map_nil, DL.toArg, DL.back2, DL.back2a, DL.back, DL.back1]); rfl)) | (with_reducible apply DL.set_own; rfl; focus ((try simp only [List.cons_append, List.nil_append, List.replicate_succ, List.replicate_zero, Nat.reduceSub, List.set_cons_zero, List.set_cons_succ, DL.with_arg, DL.with_own, DL.wipeD, List.map_cons, List.map_nil, DL.toArg, DL.back2, DL.back2a, DL.back, DL.back1]); rfl)) | (with_reducible apply DL.p_t; (first | rfl | focus (simp [*]; done) | assumption)) | (with_reducible apply DL.p_f; (first | rfl | focus (simp [*]; done) | assumption)) | (with_reducible apply DL.v_fz; rfl) | (with_reducible apply DL.v_own; rfl) | (with_reducible apply DL.v_arg; rfl) | with_reducible exact DL.r_c | with_reducible apply DL.r_andB | with_reducible apply DL.r_bin | with_reducible apply DL.r_un | with_reducible apply DL.r_test | with_reducible apply DL.r_notV | with_reducible apply DL.r_and | with_reducible apply DL.r_or | with_reducible apply DL.r_not | with_reducible apply DL.r_if | with_reducible apply DL.r_chainB | with_reducible exact DL.l_nil | with_reducible apply DL.l_cons | with_reducible apply DL.r_tup | with_reducible apply DL.r_lst | with_reducible apply DL.o_some | with_reducible exact DL.o_none | with_reducible apply DL.r_sl | with_reducible exact DL.a_nil | with_reducible apply DL.a_val | with_reducible apply DL.a_ref | (with_reducible apply DL.small_of; focus (first | omega | (simp <;> omega))) | with_reducible apply DL.r_callR | with_reducible apply DL.r_call | (first | exact e_is_row_ofL _ _ | exact e_is_row_of _ _ | exact e_is_rowL _ | exact e_is_row _ | exact e_is_below _ _ | exact e_is_whole _ | assumption) | (with_reducible apply DL.f_mod; (first | assumption | omega | focus (simp; omega))) | (with_reducible apply DL.f_div; (first | assumption | omega | focus (simp; omega))) | with_reducible apply DL.f_mulI | (with_reducible apply DL.wide_lt; (first | assumption | omega | focus (simp; omega))) | rfl | (focus ((try simp only [List.cons_append, List.nil_append, List.replicate_succ, List.replicate_zero, Nat.reduceSub, List.set_cons_zero, List.set_cons_succ, DL.with_arg, DL.with_own, DL.wipeD, List.map_cons, List.map_nil, DL.toArg, DL.back2, DL.back2a, DL.back, DL.back1]); rfl); done)))
    · (repeat' (first | with_reducible apply DL.s_setI | with_reducible apply DL.s_app | with_reducible apply DL.s_ext | (with_reducible apply DL.m_arg; rfl) | (with_reducible apply DL.m_own; rfl) | (with_reducible apply DL.f_set; rfl; focus ((try simp only [List.cons_append, List.nil_append, List.replicate_succ, List.replicate_zero, Nat.reduceSub, List.set_cons_zero, List.set_cons_succ, DL.with_arg, DL.with_own, DL.wipeD, List.map_cons, List.map_nil, DL.toArg, DL.back2, DL.back2a, DL.back, DL.back1]); rfl)) | with_reducible apply DL.f_app | with_reducible apply DL.f_ext | (with_reducible apply DL.set_goal; focus ((try simp only [List.cons_append, List.nil_append, List.replicate_succ, List.replicate_zero, Nat.reduceSub, List.set_cons_zero, List.set_cons_succ, DL.with_arg, DL.with_own, DL.wipeD, List.map_cons, List.map_nil, DL.toArg, DL.back2, DL.back2a, DL.back, DL.back1]); rfl)) | with_reducible apply DL.s_seqG | with_reducible apply DL.step_b | with_reducible apply DL.k_nx | with_reducible exact DL.k_rt | with_reducible exact DL.k_ct | with_reducible exact DL.k_bk | with_reducible apply DL.s_asgG | with_reducible apply DL.s_asg | with_reducible apply DL.s_drop | with_reducible apply DL.s_ret | with_reducible apply DL.s_if | with_reducible exact DL.s_skip | (with_reducible apply DL.f_eq; (first | rfl | assumption); (first | rfl | assumption)) | (with_reducible apply DL.f_ne; (first | rfl | assumption); (first | rfl | assumption)) | with_reducible apply DL.f_addT | (with_reducible apply DL.f_ixT; assumption) | (with_reducible apply DL.f_ixL; assumption) | with_reducible apply DL.f_addL | with_reducible apply DL.s_par | with_reducible apply DL.s_for | with_reducible apply DL.i_it | with_reducible apply DL.i_r1 | with_reducible apply DL.r_lc | with_reducible apply DL.r_lc2 | with_reducible apply DL.i_enumT | with_reducible exact DL.t_yes | with_reducible apply DL.turn_e | with_reducible apply DL.g_tup | with_reducible apply DL.g_lst | with_reducible apply DL.g_cons | with_reducible exact DL.g_nil | with_reducible apply DL.g_n | (with_reducible apply DL.set_fz; rfl; focus ((try simp only [List.cons_append, List.nil_append, List.replicate_succ, List.replicate_zero, Nat.reduceSub, List.set_cons_zero, List.set_cons_succ, DL.with_arg, DL.with_own, DL.wipeD, List.map_cons, List.map_nil, DL.toArg, DL.back2, DL.back2a, DL.back, DL.back1]); rfl)) | (with_reducible apply DL.set_own; rfl; focus ((try simp only [List.cons_append, List.nil_append, List.replicate_succ, List.replicate_zero, Nat.reduceSub, List.set_cons_zero, List.set_cons_succ, DL.with_arg, DL.with_own, DL.wipeD, List.map_cons, List.map_nil, DL.toArg, DL.back2, DL.back2a, DL.back, DL.back1]); rfl)) | (with_reducible apply DL.p_t; (first | rfl | focus (simp [*]; done) | assumption)) | (with_reducible apply DL.p_f; (first | rfl | focus (simp [*]; done) | assumption)) | (with_reducible apply DL.v_fz; rfl) | (with_reducible apply DL.v_own; rfl) | (with_reducible apply DL.v_arg; rfl) | with_reducible exact DL.r_c | with_reducible apply DL.r_andB | with_reducible apply DL.r_bin | with_reducible apply DL.r_un | with_reducible apply DL.r_test | with_reducible apply DL.r_notV | with_reducible apply DL.r_and | with_reducible apply DL.r_or | with_reducible apply DL.r_not | with_reducible apply DL.r_if | with_reducible apply DL.r_chainB | with_reducible exact DL.l_nil | with_reducible apply DL.l_cons | with_reducible apply DL.r_tup | with_reducible apply DL.r_lst | with_reducible apply DL.o_some | with_reducible exact DL.o_none | with_reducible apply DL.r_sl | with_reducible exact DL.a_nil | with_reducible apply DL.a_val | with_reducible apply DL.a_ref | (with_reducible apply DL.small_of; focus (first | omega | (simp <;> omega))) | with_reducible apply DL.r_callR | with_reducible apply DL.r_call | (first | exact e_is_row_ofL _ _ | exact e_is_row_of _ _ | exact e_is_rowL _ | exact e_is_row _ | exact e_is_below _ _ | exact e_is_whole _ | assumption) | (with_reducible apply DL.f_mod; (first | assumption | omega | focus (simp; omega))) | (with_reducible apply DL.f_div; (first | assumption | omega | focus (simp; omega))) | with_reducible apply DL.f_mulI | (with_reducible apply DL.wide_lt; (first | assumption | omega | focus (simp; omega))) | rfl | (focus ((try simp only [List.cons_append, List.nil_append, List.replicate_succ, List.replicate_zero, Nat.reduceSub, List.set_cons_zero, List.set_cons_succ, DL.with_arg, DL.with_own, DL.wipeD, List.map_cons, List.map_nil, DL.toArg, DL.back2, DL.back2a, DL.back, DL.back1]); rfl); done)))
    · rfl
    · rfl
  have t1 : ∀ S : Sl, turnL [4] (gN 4) eTest eElt (.int 1) [.fz (encW p ls), .fz (.int pl), .own (.lst acc), .fz (.int (n : Nat)), .no] = .ok (if decide (l.2.1 = pl) = true then some (encE (n, 1)) else none) [.fz (encW p ls), .fz (.int pl), .own (.lst acc), .fz (.int (n : Nat)), .no] := by
    intro _
    generalize encW p ls = W at *
    generalize encL l = L at *
    apply turn_c
    · focus ((try simp only [List.cons_append, List.nil_append, List.replicate_succ, List.replicate_zero, Nat.reduceSub, List.set_cons_zero, List.set_cons_succ, DL.with_arg, DL.with_own, DL.wipeD, List.map_cons, List.map_nil, DL.toArg, DL.back2, DL.back2a, DL.back, DL.back1]); rfl)
    · (repeat' (first | with_reducible apply DL.s_setI | with_reducible apply DL.s_app | with_reducible apply DL.s_ext | (with_reducible apply DL.m_arg; rfl) | (with_reducible apply DL.m_own; rfl) | (with_reducible apply DL.f_set; rfl; focus ((try simp only [List.cons_append, List.nil_append, List.replicate_succ, List.replicate_zero, Nat.reduceSub, List.set_cons_zero, List.set_cons_succ, DL.with_arg, DL.with_own, DL.wipeD, List.map_cons, List.map_nil, DL.toArg, DL.back2, DL.back2a, DL.back, DL.back1]); rfl)) | with_reducible apply DL.f_app | with_reducible apply DL.f_ext | (with_reducible apply DL.set_goal; focus ((try simp only [List.cons_append, List.nil_append, List.replicate_succ, List.replicate_zero, Nat.reduceSub, List.set_cons_zero, List.set_cons_succ, DL.with_arg, DL.with_own, DL.wipeD, List.map_cons, List.map_nil, DL.toArg, DL.back2, DL.back2a, DL.back, DL.back1]); rfl)) | with_reducible apply DL.s_seqG | with_reducible apply DL.step_b | with_reducible apply DL.k_nx | with_reducible exact DL.k_rt | with_reducible exact DL.k_ct | with_reducible exact DL.k_bk | with_reducible apply DL.s_asgG | with_reducible apply DL.s_asg | with_reducible apply DL.s_drop | with_reducible apply DL.s_ret | with_reducible apply DL.s_if | with_reducible exact DL.s_skip | (with_reducible apply DL.f_eq; (first | rfl | assumption); (first | rfl | assumption)) | (with_reducible apply DL.f_ne; (first | rfl | assumption); (first | rfl | assumption)) | with_reducible apply DL.f_addT | (with_reducible apply DL.f_ixT; assumption) | (with_reducible apply DL.f_ixL; assumption) | with_reducible apply DL.f_addL | with_reducible apply DL.s_par | with_reducible apply DL.s_for | with_reducible apply DL.i_it | with_reducible apply DL.i_r1 | with_reducible apply DL.r_lc | with_reducible apply DL.r_lc2 | with_reducible apply DL.i_enumT | with_reducible exact DL.t_yes | with_reducible apply DL.turn_e | with_reducible apply DL.g_tup | with_reducible apply DL.g_lst | with_reducible apply DL.g_cons | with_reducible exact DL.g_nil | with_reducible apply DL.g_n | (with_reducible apply DL.set_fz; rfl; focus ((try simp only [List.cons_append, List.nil_append, List.replicate_succ, List.replicate_zero, Nat.reduceSub, List.set_cons_zero, List.set_cons_succ, DL.with_arg, DL.with_own, DL.wipeD, List.map_cons, List.map_nil, DL.toArg, DL.back2, DL.back2a, DL.back, DL.back1]); rfl)) | (with_reducible apply DL.set_own; rfl; focus ((try simp only [List.cons_append, List.nil_append, List.replicate_succ, List.replicate_zero, Nat.reduceSub, List.set_cons_zero, List.set_cons_succ, DL.with_arg, DL.with_own, DL.wipeD, List.map_cons, List.map_nil, DL.toArg, DL.back2, DL.back2a, DL.back, DL.back1]); rfl)) | (with_reducible apply DL.p_t; (first | rfl | focus (simp [*]; done) | assumption)) | (with_reducible apply DL.p_f; (first | rfl | focus (simp [*]; done) | assumption)) | (with_reducible apply DL.v_fz; rfl) | (with_reducible apply DL.v_own; rfl) | (with_reducible apply DL.v_arg; rfl) | with_reducible exact DL.r_c | with_reducible apply DL.r_andB | with_reducible apply DL.r_bin | with_reducible apply DL.r_un | with_reducible apply DL.r_test | with_reducible apply DL.r_notV | with_reducible apply DL.r_and | with_reducible apply DL.r_or | with_reducible apply DL.r_not | with_reducible apply DL.r_if | with_reducible apply DL.r_chainB | with_reducible exact DL.l_nil | with_reducible apply DL.l_cons | with_reducible apply DL.r_tup | with_reducible apply DL.r_lst | with_reducible apply DL.o_some | with_reducible exact DL.o_none | with_reducible apply DL.r_sl | with_reducible exact DL.a_nil | with_reducible apply DL.a_val | with_reducible apply DL.a_ref | (with_reducible apply DL.small_of; focus (first | omega | (simp <;> omega))) | with_reducible apply DL.r_callR | with_reducible apply DL.r_call | (first | exact e_is_row_ofL _ _ | exact e_is_row_of _ _ | exact e_is_rowL _ | exact e_is_row _ | exact e_is_below _ _ | exact e_is_whole _ | assumption) | (with_reducible apply DL.f_mod; (first | assumption | omega | focus (simp; omega))) | (with_reducible apply DL.f_div; (first | assumption | omega | focus (simp; omega))) | with_reducible apply DL.f_mulI | (with_reducible apply DL.wide_lt; (first | assumption | omega | focus (simp; omega))) | rfl | (focus ((try simp only [List.cons_append, List.nil_append, List.replicate_succ, List.replicate_zero, Nat.reduceSub, List.set_cons_zero, List.set_cons_succ, DL.with_arg, DL.with_own, DL.wipeD, List.map_cons, List.map_nil, DL.toArg, DL.back2, DL.back2a, DL.back, DL.back1]); rfl); done)))
    · (repeat' (first | with_reducible apply DL.s_setI | with_reducible apply DL.s_app | with_reducible apply DL.s_ext | (with_reducible apply DL.m_arg; rfl) | (with_reducible apply DL.m_own; rfl) | (with_reducible apply DL.f_set; rfl; focus ((try simp only [List.cons_append, List.nil_append, List.replicate_succ, List.replicate_zero, Nat.reduceSub, List.set_cons_zero, List.set_cons_succ, DL.with_arg, DL.with_own, DL.wipeD, List.map_cons, List.map_nil, DL.toArg, DL.back2, DL.back2a, DL.back, DL.back1]); rfl)) | with_reducible apply DL.f_app | with_reducible apply DL.f_ext | (with_reducible apply DL.set_goal; focus ((try simp only [List.cons_append, List.nil_append, List.replicate_succ, List.replicate_zero, Nat.reduceSub, List.set_cons_zero, List.set_cons_succ, DL.with_arg, DL.with_own, DL.wipeD, List.map_cons, List.map_nil, DL.toArg, DL.back2, DL.back2a, DL.back, DL.back1]); rfl)) | with_reducible apply DL.s_seqG | with_reducible apply DL.step_b | with_reducible apply DL.k_nx | with_reducible exact DL.k_rt | with_reducible exact DL.k_ct | with_reducible exact DL.k_bk | with_reducible apply DL.s_asgG | with_reducible apply DL.s_asg | with_reducible apply DL.s_drop | with_reducible apply DL.s_ret | with_reducible apply DL.s_if | with_reducible exact DL.s_skip | (with_reducible apply DL.f_eq; (first | rfl | assumption); (first | rfl | assumption)) | (with_reducible apply DL.f_ne; (first | rfl | assumption); (first | rfl | assumption)) | with_reducible apply DL.f_addT | (with_reducible apply DL.f_ixT; assumption) | (with_reducible apply DL.f_ixL; assumption) | with_reducible apply DL.f_addL | with_reducible apply DL.s_par | with_reducible apply DL.s_for | with_reducible apply DL.i_it | with_reducible apply DL.i_r1 | with_reducible apply DL.r_lc | with_reducible apply DL.r_lc2 | with_reducible apply DL.i_enumT | with_reducible exact DL.t_yes | with_reducible apply DL.turn_e | with_reducible apply DL.g_tup | with_reducible apply DL.g_lst | with_reducible apply DL.g_cons | with_reducible exact DL.g_nil | with_reducible apply DL.g_n | (with_reducible apply DL.set_fz; rfl; focus ((try simp only [List.cons_append, List.nil_append, List.replicate_succ, List.replicate_zero, Nat.reduceSub, List.set_cons_zero, List.set_cons_succ, DL.with_arg, DL.with_own, DL.wipeD, List.map_cons, List.map_nil, DL.toArg, DL.back2, DL.back2a, DL.back, DL.back1]); rfl)) | (with_reducible apply DL.set_own; rfl; focus ((try simp only [List.cons_append, List.nil_append, List.replicate_succ, List.replicate_zero, Nat.reduceSub, List.set_cons_zero, List.set_cons_succ, DL.with_arg, DL.with_own, DL.wipeD, List.map_cons, List.map_nil, DL.toArg, DL.back2, DL.back2a, DL.back, DL.back1]); rfl)) | (with_reducible apply DL.p_t; (first | rfl | focus (simp [*]; done) | assumption)) | (with_reducible apply DL.p_f; (first | rfl | focus (simp [*]; done) | assumption)) | (with_reducible apply DL.v_fz; rfl) | (with_reducible apply DL.v_own; rfl) | (with_reducible apply DL.v_arg; rfl) | with_reducible exact DL.r_c | with_reducible apply DL.r_andB | with_reducible apply DL.r_bin | with_reducible apply DL.r_un | with_reducible apply DL.r_test | with_reducible apply DL.r_notV | with_reducible apply DL.r_and | with_reducible apply DL.r_or | with_reducible apply DL.r_not | with_reducible apply DL.r_if | with_reducible apply DL.r_chainB | with_reducible exact DL.l_nil | with_reducible apply DL.l_cons | with_reducible apply DL.r_tup | with_reducible apply DL.r_lst | with_reducible apply DL.o_some | with_reducible exact DL.o_none | with_reducible apply DL.r_sl | with_reducible exact DL.a_nil | with_reducible apply DL.a_val | with_reducible apply DL.a_ref | (with_reducible apply DL.small_of; focus (first | omega | (simp <;> omega))) | with_reducible apply DL.r_callR | with_reducible apply DL.r_call | (first | exact e_is_row_ofL _ _ | exact e_is_row_of _ _ | exact e_is_rowL _ | exact e_is_row _ | exact e_is_below _ _ | exact e_is_whole _ | assumption) | (with_reducible apply DL.f_mod; (first | assumption | omega | focus (simp; omega))) | (with_reducible apply DL.f_div; (first | assumption | omega | focus (simp; omega))) | with_reducible apply DL.f_mulI | (with_reducible apply DL.wide_lt; (first | assumption | omega | focus (simp; omega))) | rfl | (focus ((try simp only [List.cons_append, List.nil_append, List.replicate_succ, List.replicate_zero, Nat.reduceSub, List.set_cons_zero, List.set_cons_succ, DL.with_arg, DL.with_own, DL.wipeD, List.map_cons, List.map_nil, DL.toArg, DL.back2, DL.back2a, DL.back, DL.back1]); rfl); done)))
    · (repeat' (first | with_reducible apply DL.s_setI | with_reducible apply DL.s_app | with_reducible apply DL.s_ext | (with_reducible apply DL.m_arg; rfl) | (with_reducible apply DL.m_own; rfl) | (with_reducible apply DL.f_set; rfl; focus ((try simp only [List.cons_append, List.nil_append, List.replicate_succ, List.replicate_zero, Nat.reduceSub, List.set_cons_zero, List.set_cons_succ, DL.with_arg, DL.with_own, DL.wipeD, List.map_cons, List.map_nil, DL.toArg, DL.back2, DL.back2a, DL.back, DL.back1]); rfl)) | with_reducible apply DL.f_app | with_reducible apply DL.f_ext | (with_reducible apply DL.set_goal; focus ((try simp only [List.cons_append, List.nil_append, List.replicate_succ, List.replicate_zero, Nat.reduceSub, List.set_cons_zero, List.set_cons_succ, DL.with_arg, DL.with_own, DL.wipeD, List.map_cons, List.map_nil, DL.toArg, DL.back2, DL.back2a, DL.back, DL.back1]); rfl)) | with_reducible apply DL.s_seqG | with_reducible apply DL.step_b | with_reducible apply DL.k_nx | with_reducible exact DL.k_rt | with_reducible exact DL.k_ct | with_reducible exact DL.k_bk | with_reducible apply DL.s_asgG | with_reducible apply DL.s_asg | with_reducible apply DL.s_drop | with_reducible apply DL.s_ret | with_reducible apply DL.s_if | with_reducible exact DL.s_skip | (with_reducible apply DL.f_eq; (first | rfl | assumption); (first | rfl | assumption)) | (with_reducible apply DL.f_ne; (first | rfl | assumption); (first | rfl | assumption)) | with_reducible apply DL.f_addT | (with_reducible apply DL.f_ixT; assumption) | (with_reducible apply DL.f_ixL; assumption) | with_reducible apply DL.f_addL | with_reducible apply DL.s_par | with_reducible apply DL.s_for | with_reducible apply DL.i_it | with_reducible apply DL.i_r1 | with_reducible apply DL.r_lc | with_reducible apply DL.r_lc2 | with_reducible apply DL.i_enumT | with_reducible exact DL.t_yes | with_reducible apply DL.turn_e | with_reducible apply DL.g_tup | with_reducible apply DL.g_lst | with_reducible apply DL.g_cons | with_reducible exact DL.g_nil | with_reducible apply DL.g_n | (with_reducible apply DL.set_fz; rfl; focus ((try simp only [List.cons_append, List.nil_append, List.replicate_succ, List.replicate_zero, Nat.reduceSub, List.set_cons_zero, List.set_cons_succ, DL.with_arg, DL.with_own, DL.wipeD, List.map_cons, List.map_nil, DL.toArg, DL.back2, DL.back2a, DL.back, DL.back1]); rfl)) | (with_reducible apply DL.set_own; rfl; focus ((try simp only [List.cons_append, List.nil_append, List.replicate_succ, List.replicate_zero, Nat.reduceSub, List.set_cons_zero, List.set_cons_succ, DL.with_arg, DL.with_own, DL.wipeD, List.map_cons, List.map_nil, DL.toArg, DL.back2, DL.back2a, DL.back, DL.back1]); rfl)) | (with_reducible apply DL.p_t; (first | rfl | focus (simp [*]; done) | assumption)) | (with_reducible apply DL.p_f; (first | rfl | focus (simp [*]; done) | assumption)) | (with_reducible apply DL.v_fz; rfl) | (with_reducible apply DL.v_own; rfl) | (with_reducible apply DL.v_arg; rfl) | with_reducible exact DL.r_c | with_reducible apply DL.r_andB | with_reducible apply DL.r_bin | with_reducible apply DL.r_un | with_reducible apply DL.r_test | with_reducible apply DL.r_notV | with_reducible apply DL.r_and | with_reducible apply DL.r_or | with_reducible apply DL.r_not | with_reducible apply DL.r_if | with_reducible apply DL.r_chainB | with_reducible exact DL.l_nil | with_reducible apply DL.l_cons | with_reducible apply DL.r_tup | with_reducible apply DL.r_lst | with_reducible apply DL.o_some | with_reducible exact DL.o_none | with_reducible apply DL.r_sl | with_reducible exact DL.a_nil | with_reducible apply DL.a_val | with_reducible apply DL.a_ref | (with_reducible apply DL.small_of; focus (first | omega | (simp <;> omega))) | with_reducible apply DL.r_callR | with_reducible apply DL.r_call | (first | exact e_is_row_ofL _ _ | exact e_is_row_of _ _ | exact e_is_rowL _ | exact e_is_row _ | exact e_is_below _ _ | exact e_is_whole _ | assumption) | (with_reducible apply DL.f_mod; (first | assumption | omega | focus (simp; omega))) | (with_reducible apply DL.f_div; (first | assumption | omega | focus (simp; omega))) | with_reducible apply DL.f_mulI | (with_reducible apply DL.wide_lt; (first | assumption | omega | focus (simp; omega))) | rfl | (focus ((try simp only [List.cons_append, List.nil_append, List.replicate_succ, List.replicate_zero, Nat.reduceSub, List.set_cons_zero, List.set_cons_succ, DL.with_arg, DL.with_own, DL.wipeD, List.map_cons, List.map_nil, DL.toArg, DL.back2, DL.back2a, DL.back, DL.back1]); rfl); done)))
    · (repeat' (first | with_reducible apply DL.s_setI | with_reducible apply DL.s_app | with_reducible apply DL.s_ext | (with_reducible apply DL.m_arg; rfl) | (with_reducible apply DL.m_own; rfl) | (with_reducible apply DL.f_set; rfl; focus ((try simp only [List.cons_append, List.nil_append, List.replicate_succ, List.replicate_zero, Nat.reduceSub, List.set_cons_zero, List.set_cons_succ, DL.with_arg, DL.with_own, DL.wipeD, List.map_cons, List.map_nil, DL.toArg, DL.back2, DL.back2a, DL.back, DL.back1]); rfl)) | with_reducible apply DL.f_app | with_reducible apply DL.f_ext | (with_reducible apply DL.set_goal; focus ((try simp only [List.cons_append, List.nil_append, List.replicate_succ, List.replicate_zero, Nat.reduceSub, List.set_cons_zero, List.set_cons_succ, DL.with_arg, DL.with_own, DL.wipeD, List.map_cons, List.map_nil, DL.toArg, DL.back2, DL.back2a, DL.back, DL.back1]); rfl)) | with_reducible apply DL.s_seqG | with_reducible apply DL.step_b | with_reducible apply DL.k_nx | with_reducible exact DL.k_rt | with_reducible exact DL.k_ct | with_reducible exact DL.k_bk | with_reducible apply DL.s_asgG | with_reducible apply DL.s_asg | with_reducible apply DL.s_drop | with_reducible apply DL.s_ret | with_reducible apply DL.s_if | with_reducible exact DL.s_skip | (with_reducible apply DL.f_eq; (first | rfl | assumption); (first | rfl | assumption)) | (with_reducible apply DL.f_ne; (first | rfl | assumption); (first | rfl | assumption)) | with_reducible apply DL.f_addT | (with_reducible apply DL.f_ixT; assumption) | (with_reducible apply DL.f_ixL; assumption) | with_reducible apply DL.f_addL | with_reducible apply DL.s_par | with_reducible apply DL.s_for | with_reducible apply DL.i_it | with_reducible apply DL.i_r1 | with_reducible apply DL.r_lc | with_reducible apply DL.r_lc2 | with_reducible apply DL.i_enumT | with_reducible exact DL.t_yes | with_reducible apply DL.turn_e | with_reducible apply DL.g_tup | with_reducible apply DL.g_lst | with_reducible apply DL.g_cons | with_reducible exact DL.g_nil | with_reducible apply DL.g_n | (with_reducible apply DL.set_fz; rfl; focus ((try simp only [List.cons_append, List.nil_append, List.replicate_succ, List.replicate_zero, Nat.reduceSub, List.set_cons_zero, List.set_cons_succ, DL.with_arg, DL.with_own, DL.wipeD, List.map_cons, List.map_nil, DL.toArg, DL.back2, DL.back2a, DL.back, DL.back1]); rfl)) | (with_reducible apply DL.set_own; rfl; focus ((try simp only [List.cons_append, List.nil_append, List.replicate_succ, List.replicate_zero, Nat.reduceSub, List.set_cons_zero, List.set_cons_succ, DL.with_arg, DL.with_own, DL.wipeD, List.map_cons, List.map_nil, DL.toArg, DL.back2, DL.back2a, DL.back, DL.back1]); rfl)) | (with_reducible apply DL.p_t; (first | rfl | focus (simp [*]; done) | assumption)) | (with_reducible apply DL.p_f; (first | rfl | focus (simp [*]; done) | assumption)) | (with_reducible apply DL.v_fz; rfl) | (with_reducible apply DL.v_own; rfl) | (with_reducible apply DL.v_arg; rfl) | with_reducible exact DL.r_c | with_reducible apply DL.r_andB | with_reducible apply DL.r_bin | with_reducible apply DL.r_un | with_reducible apply DL.r_test | with_reducible apply DL.r_notV | with_reducible apply DL.r_and | with_reducible apply DL.r_or | with_reducible apply DL.r_not | with_reducible apply DL.r_if | with_reducible apply DL.r_chainB | with_reducible exact DL.l_nil | with_reducible apply DL.l_cons | with_reducible apply DL.r_tup | with_reducible apply DL.r_lst | with_reducible apply DL.o_some | with_reducible exact DL.o_none | with_reducible apply DL.r_sl | with_reducible exact DL.a_nil | with_reducible apply DL.a_val | with_reducible apply DL.a_ref | (with_reducible apply DL.small_of; focus (first | omega | (simp <;> omega))) | with_reducible apply DL.r_callR | with_reducible apply DL.r_call | (first | exact e_is_row_ofL _ _ | exact e_is_row_of _ _ | exact e_is_rowL _ | exact e_is_row _ | exact e_is_below _ _ | exact e_is_whole _ | assumption) | (with_reducible apply DL.f_mod; (first | assumption | omega | focus (simp; omega))) | (with_reducible apply DL.f_div; (first | assumption | omega | focus (simp; omega))) | with_reducible apply DL.f_mulI | (with_reducible apply DL.wide_lt; (first | assumption | omega | focus (simp; omega))) | rfl | (focus ((try simp only [List.cons_append, List.nil_append, List.replicate_succ, List.replicate_zero, Nat.reduceSub, List.set_cons_zero, List.set_cons_succ, DL.with_arg, DL.with_own, DL.wipeD, List.map_cons, List.map_nil, DL.toArg, DL.back2, DL.back2a, DL.back, DL.back1]); rfl); done)))
    · rfl
    · rfl
  have cl : compL (turnL [4] (gN 4) eTest eElt) [.int 0, .int 1] [.fz (encW p ls), .fz (.int pl), .own (.lst acc), .fz (.int (n : Nat)), .no] = .ok ((endAt pl n l).map encE) [.fz (encW p ls), .fz (.int pl), .own (.lst acc), .fz (.int (n : Nat)), .no] := by
    refine comp2 (t0 .no) (t1 .no) ?_
    unfold endAt
    by_cases h1 : l.1 = pl <;> by_cases h2 : l.2.1 = pl <;> simp [h1, h2]
  have sm : (small ([PyData.int 0, PyData.int 1] : List D).length && freeAt [4] [.fz (encW p ls), .fz (.int pl), .own (.lst acc), .fz (.int (n : Nat)), .no]) = true := rfl
  have r1 : dRange1 (dCons (dC (.int 2)) dNil) [.fz (encW p ls), .fz (.int pl), .own (.lst acc), .fz (.int (n : Nat)), .no] = .ok [.int 0, .int 1] [.fz (encW p ls), .fz (.int pl), .own (.lst acc), .fz (.int (n : Nat)), .no] := rfl
  have lc := r_lc r1 sm cl
  apply step_b
  · rcases h with rfl | ⟨d, rfl⟩ <;> rfl
  · apply s_ext
    · rfl
    · exact lc
    · rfl
    · exact m_own rfl fe rfl
theorem e_law_ends (p : Int) (ls : List Ln) (pl : Int) (hl : ls.length ≤ 1000) : d__law_ends [.fz (encW p ls), .fz (.int pl)] = .ok (.own (.lst ((endsOf ls pl).map encE))) [.no, .no] := by
  obtain ⟨δ', e, sl, rfl, hs⟩ := for_idx (P := fun j δ => ∃ sl : Sl, δ = [.fz (encW p ls), .fz (.int pl), .own (.lst ((endsOf (ls.take j) pl).map encE)), sl, .no] ∧ (sl = .no ∨ ∃ d, sl = .fz d)) (f := stepB (gN 3) eBody) ((List.range ls.length).map fun (i : Nat) => PyData.int i) 0 (fun j d hj δ hP => by
    obtain ⟨sl, rfl, hs⟩ := hP
    rw [List.getElem?_map] at hj
    cases ej : (List.range ls.length)[j]? with
    | none => rw [ej] at hj; cases hj
    | some m =>
      rw [ej] at hj
      cases hj
      obtain ⟨lt, q⟩ := List.getElem?_eq_some_iff.mp ej
      rw [List.getElem_range] at q
      subst q
      rw [List.length_range] at lt
      have el : ls[j]? = some ls[j] := List.getElem?_eq_getElem lt
      have len := endsOf_len (ls.take j) pl
      have le : (ls.take j).length = j := by rw [List.length_take]; omega
      rw [Nat.zero_add]
      have t := end_turn p ls pl j ls[j] el ((endsOf (ls.take j) pl).map encE) (by rw [List.length_map]; omega) sl hs
      refine ⟨_, t, .fz (.int (j : Nat)), ?_, .inr ⟨_, rfl⟩⟩
      rw [List.take_succ_eq_append_getElem lt, ends_snoc, le, List.map_append]) [.fz (encW p ls), .fz (.int pl), .own (.lst []), .no, .no] ⟨.no, rfl, .inl rfl⟩
  have q0 : fIx (encW p ls) (.int 1) = some (.fz (.tuple (ls.map encL))) := rfl
  have q1 : fLen (.tuple (ls.map encL)) = some (.fz (.int (ls.length : Nat))) := by
    rw [← List.length_map (f := encL)]
    rfl
  have b1 : (-1000000 : Int) ≤ (ls.length : Nat) := by omega
  have b2 : ((ls.length : Nat) : Int) ≤ 1000000 := by omega
  rw [List.length_map, List.length_range, Nat.zero_add, List.take_length] at e
  have ri : ∀ A : D, fIx A (.int 1) = some (.fz (.tuple (ls.map encL))) → dRange1 (dCons (dUn fLen (dBin fIx (dVar 0) (dC (.int 1)))) dNil) [.fz A, .fz (.int pl), .own (.lst []), .no, .no] = .ok ((List.range ls.length).map fun (i : Nat) => PyData.int i) [.fz A, .fz (.int pl), .own (.lst []), .no, .no] := by
    intro A hA
    have := i_r1 (l := dCons (dUn fLen (dBin fIx (dVar 0) (dC (.int 1)))) dNil) (δ := [.fz A, .fz (.int pl), .own (.lst []), .no, .no]) (n := ((ls.length : Nat) : Int)) (by
      apply l_cons
      · apply r_un
        · apply r_bin
          · rfl
          · rfl
          · rfl
          · rfl
          · exact hA
        · rfl
        · exact q1
      · rfl
      · rfl) b1 b2
    rw [Int.toNat_natCast] at this
    exact this
  unfold d__law_ends
  apply run_rt rfl
  · focus ((try simp only [List.cons_append, List.nil_append, List.replicate_succ, List.replicate_zero, Nat.reduceSub, List.set_cons_zero, List.set_cons_succ, DL.with_arg, DL.with_own, DL.wipeD, List.map_cons, List.map_nil, DL.toArg, DL.back2, DL.back2a, DL.back, DL.back1]); rfl)
  · unfold sd__law_ends
    apply s_seq
    · apply s_asg
      · rfl
      · rfl
    · apply s_seq
      · apply s_for
        · exact ri _ q0
        · exact e
      · apply s_ret
        rfl
  all_goals rfl

theorem al_list (n : Nat) (N : List D) (hle : N.length ≤ 1000) (hin : ∀ d ∈ N, d__law_alike n [.fz d, .fz d] = .ok (.fz (.bool true)) [.no, .no]) (s0 t0 : Sl) (hs0 : s0 = .fz (.list N) ∧ t0 = .no ∨ s0 = .arg (.lst N) ∧ t0 = .arg (.lst N)) : d__law_alike (n + 1) [s0, .fz (.list N)] = .ok (.fz (.bool true)) [t0, .no] := by
  have h1 : ["list", "tuple"].any (isT (.list N)) = true := rfl
  have n1 := ne_same (isT (.list N) "list")
  have n2 := ne_same (isT (.list N) "tuple")
  have y1 : fLen (.list N) = some (.fz (.int (N.length : Nat))) := rfl
  have n3 : fNe (.int (N.length : Nat)) (.int (N.length : Nat)) = some (.fz (.bool false)) := by
    rw [f_ne rfl rfl]
    show some (Vl.fz (.bool (!decide (((N.length : Nat) : Int) = (N.length : Nat))))) = _
    rw [decide_eq_true rfl]
    rfl
  have hb1 : (-1000000 : Int) ≤ (N.length : Nat) := by omega
  have hb2 : ((N.length : Nat) : Int) ≤ 1000000 := by omega
  have n4 : fEq (.list []) (.list []) = some (.fz (.bool true)) := rfl
  have hc : compL (turnL [2] (gN 2) (dNot (dTest (dCall (d__law_alike n) (aVal (dBin fIx (dVar 0) (dVar 2)) (aVal (dBin fIx (dVar 1) (dVar 2)) aNil))))) (dVar 2)) ((List.range ((N.length : Nat) : Int).toNat).map fun (i : Nat) => PyData.int i) [s0, .fz (.list N), .no]
      = .ok [] [s0, .fz (.list N), .no] := by
    refine comp_none fun k hk => ?_
    have hk : k < N.length := by
      have := List.mem_range.mp hk
      omega
    have hx : N[k]? = some N[k] := List.getElem?_eq_getElem hk
    have hd := hin N[k] (List.getElem_mem hk)
    clear h1 n1 n2 n3 n4 y1 hin
    generalize N[k] = x at hx hd
    rcases hs0 with ⟨rfl, _⟩ | ⟨rfl, _⟩
    · apply turn_1
      · focus ((try simp only [List.cons_append, List.nil_append, List.replicate_succ, List.replicate_zero, Nat.reduceSub, List.set_cons_zero, List.set_cons_succ, DL.with_arg, DL.with_own, DL.wipeD, List.map_cons, List.map_nil, DL.toArg, DL.back2, DL.back2a, DL.back, DL.back1]); rfl)
      · (repeat' (first | with_reducible apply DL.s_setI | with_reducible apply DL.s_app | with_reducible apply DL.s_ext | (with_reducible apply DL.m_arg; rfl) | (with_reducible apply DL.m_own; rfl) | (with_reducible apply DL.f_set; rfl; focus ((try simp only [List.cons_append, List.nil_append, List.replicate_succ, List.replicate_zero, Nat.reduceSub, List.set_cons_zero, List.set_cons_succ, DL.with_arg, DL.with_own, DL.wipeD, List.map_cons, List.map_nil, DL.toArg, DL.back2, DL.back2a, DL.back, DL.back1]); rfl)) | with_reducible apply DL.f_app | with_reducible apply DL.f_ext | (with_reducible apply DL.set_goal; focus ((try simp only [List.cons_append, List.nil_append, List.replicate_succ, List.replicate_zero, Nat.reduceSub, List.set_cons_zero, List.set_cons_succ, DL.with_arg, DL.with_own, DL.wipeD, List.map_cons, List.map_nil, DL.toArg, DL.back2, DL.back2a, DL.back, DL.back1]); rfl)) | with_reducible apply DL.s_seqG | with_reducible apply DL.step_b | with_reducible apply DL.k_nx | with_reducible exact DL.k_rt | with_reducible exact DL.k_ct | with_reducible exact DL.k_bk | with_reducible apply DL.s_asgG | with_reducible apply DL.s_asg | with_reducible apply DL.s_drop | with_reducible apply DL.s_ret | with_reducible apply DL.s_if | with_reducible exact DL.s_skip | (with_reducible apply DL.f_eq; (first | rfl | assumption); (first | rfl | assumption)) | (with_reducible apply DL.f_ne; (first | rfl | assumption); (first | rfl | assumption)) | with_reducible apply DL.f_addT | (with_reducible apply DL.f_ixT; assumption) | (with_reducible apply DL.f_ixL; assumption) | with_reducible apply DL.f_addL | with_reducible apply DL.s_par | with_reducible apply DL.s_for | with_reducible apply DL.i_it | with_reducible apply DL.i_r1 | with_reducible apply DL.r_lc | with_reducible apply DL.r_lc2 | with_reducible apply DL.i_enumT | with_reducible exact DL.t_yes | with_reducible apply DL.turn_e | with_reducible apply DL.g_tup | with_reducible apply DL.g_lst | with_reducible apply DL.g_cons | with_reducible exact DL.g_nil | with_reducible apply DL.g_n | (with_reducible apply DL.set_fz; rfl; focus ((try simp only [List.cons_append, List.nil_append, List.replicate_succ, List.replicate_zero, Nat.reduceSub, List.set_cons_zero, List.set_cons_succ, DL.with_arg, DL.with_own, DL.wipeD, List.map_cons, List.map_nil, DL.toArg, DL.back2, DL.back2a, DL.back, DL.back1]); rfl)) | (with_reducible apply DL.set_own; rfl; focus ((try simp only [List.cons_append, List.nil_append, List.replicate_succ, List.replicate_zero, Nat.reduceSub, List.set_cons_zero, List.set_cons_succ, DL.with_arg, DL.with_own, DL.wipeD, List.map_cons, List.map_nil, DL.toArg, DL.back2, DL.back2a, DL.back, DL.back1]); rfl)) | (with_reducible apply DL.p_t; (first | rfl | focus (simp [*]; done) | assumption)) | (with_reducible apply DL.p_f; (first | rfl | focus (simp [*]; done) | assumption)) | (with_reducible apply DL.v_fz; rfl) | (with_reducible apply DL.v_own; rfl) | (with_reducible apply DL.v_arg; rfl) | with_reducible exact DL.r_c | with_reducible apply DL.r_andB | with_reducible apply DL.r_bin | with_reducible apply DL.r_un | with_reducible apply DL.r_test | with_reducible apply DL.r_notV | with_reducible apply DL.r_and | with_reducible apply DL.r_or | with_reducible apply DL.r_not | with_reducible apply DL.r_if | with_reducible apply DL.r_chainB | with_reducible exact DL.l_nil | with_reducible apply DL.l_cons | with_reducible apply DL.r_tup | with_reducible apply DL.r_lst | with_reducible apply DL.o_some | with_reducible exact DL.o_none | with_reducible apply DL.r_sl | with_reducible exact DL.a_nil | with_reducible apply DL.a_val | with_reducible apply DL.a_ref | (with_reducible apply DL.small_of; focus (first | omega | (simp <;> omega))) | with_reducible apply DL.r_callR | with_reducible apply DL.r_call | (first | exact e_is_row_ofL _ _ | exact e_is_row_of _ _ | exact e_is_rowL _ | exact e_is_row _ | exact e_is_below _ _ | exact e_is_whole _ | assumption) | (with_reducible apply DL.f_mod; (first | assumption | omega | focus (simp; omega))) | (with_reducible apply DL.f_div; (first | assumption | omega | focus (simp; omega))) | with_reducible apply DL.f_mulI | (with_reducible apply DL.wide_lt; (first | assumption | omega | focus (simp; omega))) | rfl | (focus ((try simp only [List.cons_append, List.nil_append, List.replicate_succ, List.replicate_zero, Nat.reduceSub, List.set_cons_zero, List.set_cons_succ, DL.with_arg, DL.with_own, DL.wipeD, List.map_cons, List.map_nil, DL.toArg, DL.back2, DL.back2a, DL.back, DL.back1]); rfl); done)))
      · (repeat' (first | with_reducible apply DL.s_setI | with_reducible apply DL.s_app | with_reducible apply DL.s_ext | (with_reducible apply DL.m_arg; rfl) | (with_reducible apply DL.m_own; rfl) | (with_reducible apply DL.f_set; rfl; focus ((try simp only [List.cons_append, List.nil_append, List.replicate_succ, List.replicate_zero, Nat.reduceSub, List.set_cons_zero, List.set_cons_succ, DL.with_arg, DL.with_own, DL.wipeD, List.map_cons, List.map_nil, DL.toArg, DL.back2, DL.back2a, DL.back, DL.back1]); rfl)) | with_reducible apply DL.f_app | with_reducible apply DL.f_ext | (with_reducible apply DL.set_goal; focus ((try simp only [List.cons_append, List.nil_append, List.replicate_succ, List.replicate_zero, Nat.reduceSub, List.set_cons_zero, List.set_cons_succ, DL.with_arg, DL.with_own, DL.wipeD, List.map_cons, List.map_nil, DL.toArg, DL.back2, DL.back2a, DL.back, DL.back1]); rfl)) | with_reducible apply DL.s_seqG | with_reducible apply DL.step_b | with_reducible apply DL.k_nx | with_reducible exact DL.k_rt | with_reducible exact DL.k_ct | with_reducible exact DL.k_bk | with_reducible apply DL.s_asgG | with_reducible apply DL.s_asg | with_reducible apply DL.s_drop | with_reducible apply DL.s_ret | with_reducible apply DL.s_if | with_reducible exact DL.s_skip | (with_reducible apply DL.f_eq; (first | rfl | assumption); (first | rfl | assumption)) | (with_reducible apply DL.f_ne; (first | rfl | assumption); (first | rfl | assumption)) | with_reducible apply DL.f_addT | (with_reducible apply DL.f_ixT; assumption) | (with_reducible apply DL.f_ixL; assumption) | with_reducible apply DL.f_addL | with_reducible apply DL.s_par | with_reducible apply DL.s_for | with_reducible apply DL.i_it | with_reducible apply DL.i_r1 | with_reducible apply DL.r_lc | with_reducible apply DL.r_lc2 | with_reducible apply DL.i_enumT | with_reducible exact DL.t_yes | with_reducible apply DL.turn_e | with_reducible apply DL.g_tup | with_reducible apply DL.g_lst | with_reducible apply DL.g_cons | with_reducible exact DL.g_nil | with_reducible apply DL.g_n | (with_reducible apply DL.set_fz; rfl; focus ((try simp only [List.cons_append, List.nil_append, List.replicate_succ, List.replicate_zero, Nat.reduceSub, List.set_cons_zero, List.set_cons_succ, DL.with_arg, DL.with_own, DL.wipeD, List.map_cons, List.map_nil, DL.toArg, DL.back2, DL.back2a, DL.back, DL.back1]); rfl)) | (with_reducible apply DL.set_own; rfl; focus ((try simp only [List.cons_append, List.nil_append, List.replicate_succ, List.replicate_zero, Nat.reduceSub, List.set_cons_zero, List.set_cons_succ, DL.with_arg, DL.with_own, DL.wipeD, List.map_cons, List.map_nil, DL.toArg, DL.back2, DL.back2a, DL.back, DL.back1]); rfl)) | (with_reducible apply DL.p_t; (first | rfl | focus (simp [*]; done) | assumption)) | (with_reducible apply DL.p_f; (first | rfl | focus (simp [*]; done) | assumption)) | (with_reducible apply DL.v_fz; rfl) | (with_reducible apply DL.v_own; rfl) | (with_reducible apply DL.v_arg; rfl) | with_reducible exact DL.r_c | with_reducible apply DL.r_andB | with_reducible apply DL.r_bin | with_reducible apply DL.r_un | with_reducible apply DL.r_test | with_reducible apply DL.r_notV | with_reducible apply DL.r_and | with_reducible apply DL.r_or | with_reducible apply DL.r_not | with_reducible apply DL.r_if | with_reducible apply DL.r_chainB | with_reducible exact DL.l_nil | with_reducible apply DL.l_cons | with_reducible apply DL.r_tup | with_reducible apply DL.r_lst | with_reducible apply DL.o_some | with_reducible exact DL.o_none | with_reducible apply DL.r_sl | with_reducible exact DL.a_nil | with_reducible apply DL.a_val | with_reducible apply DL.a_ref | (with_reducible apply DL.small_of; focus (first | omega | (simp <;> omega))) | with_reducible apply DL.r_callR | with_reducible apply DL.r_call | (first | exact e_is_row_ofL _ _ | exact e_is_row_of _ _ | exact e_is_rowL _ | exact e_is_row _ | exact e_is_below _ _ | exact e_is_whole _ | assumption) | (with_reducible apply DL.f_mod; (first | assumption | omega | focus (simp; omega))) | (with_reducible apply DL.f_div; (first | assumption | omega | focus (simp; omega))) | with_reducible apply DL.f_mulI | (with_reducible apply DL.wide_lt; (first | assumption | omega | focus (simp; omega))) | rfl | (focus ((try simp only [List.cons_append, List.nil_append, List.replicate_succ, List.replicate_zero, Nat.reduceSub, List.set_cons_zero, List.set_cons_succ, DL.with_arg, DL.with_own, DL.wipeD, List.map_cons, List.map_nil, DL.toArg, DL.back2, DL.back2a, DL.back, DL.back1]); rfl); done)))
      · (repeat' (first | with_reducible apply DL.s_setI | with_reducible apply DL.s_app | with_reducible apply DL.s_ext | (with_reducible apply DL.m_arg; rfl) | (with_reducible apply DL.m_own; rfl) | (with_reducible apply DL.f_set; rfl; focus ((try simp only [List.cons_append, List.nil_append, List.replicate_succ, List.replicate_zero, Nat.reduceSub, List.set_cons_zero, List.set_cons_succ, DL.with_arg, DL.with_own, DL.wipeD, List.map_cons, List.map_nil, DL.toArg, DL.back2, DL.back2a, DL.back, DL.back1]); rfl)) | with_reducible apply DL.f_app | with_reducible apply DL.f_ext | (with_reducible apply DL.set_goal; focus ((try simp only [List.cons_append, List.nil_append, List.replicate_succ, List.replicate_zero, Nat.reduceSub, List.set_cons_zero, List.set_cons_succ, DL.with_arg, DL.with_own, DL.wipeD, List.map_cons, List.map_nil, DL.toArg, DL.back2, DL.back2a, DL.back, DL.back1]); rfl)) | with_reducible apply DL.s_seqG | with_reducible apply DL.step_b | with_reducible apply DL.k_nx | with_reducible exact DL.k_rt | with_reducible exact DL.k_ct | with_reducible exact DL.k_bk | with_reducible apply DL.s_asgG | with_reducible apply DL.s_asg | with_reducible apply DL.s_drop | with_reducible apply DL.s_ret | with_reducible apply DL.s_if | with_reducible exact DL.s_skip | (with_reducible apply DL.f_eq; (first | rfl | assumption); (first | rfl | assumption)) | (with_reducible apply DL.f_ne; (first | rfl | assumption); (first | rfl | assumption)) | with_reducible apply DL.f_addT | (with_reducible apply DL.f_ixT; assumption) | (with_reducible apply DL.f_ixL; assumption) | with_reducible apply DL.f_addL | with_reducible apply DL.s_par | with_reducible apply DL.s_for | with_reducible apply DL.i_it | with_reducible apply DL.i_r1 | with_reducible apply DL.r_lc | with_reducible apply DL.r_lc2 | with_reducible apply DL.i_enumT | with_reducible exact DL.t_yes | with_reducible apply DL.turn_e | with_reducible apply DL.g_tup | with_reducible apply DL.g_lst | with_reducible apply DL.g_cons | with_reducible exact DL.g_nil | with_reducible apply DL.g_n | (with_reducible apply DL.set_fz; rfl; focus ((try simp only [List.cons_append, List.nil_append, List.replicate_succ, List.replicate_zero, Nat.reduceSub, List.set_cons_zero, List.set_cons_succ, DL.with_arg, DL.with_own, DL.wipeD, List.map_cons, List.map_nil, DL.toArg, DL.back2, DL.back2a, DL.back, DL.back1]); rfl)) | (with_reducible apply DL.set_own; rfl; focus ((try simp only [List.cons_append, List.nil_append, List.replicate_succ, List.replicate_zero, Nat.reduceSub, List.set_cons_zero, List.set_cons_succ, DL.with_arg, DL.with_own, DL.wipeD, List.map_cons, List.map_nil, DL.toArg, DL.back2, DL.back2a, DL.back, DL.back1]); rfl)) | (with_reducible apply DL.p_t; (first | rfl | focus (simp [*]; done) | assumption)) | (with_reducible apply DL.p_f; (first | rfl | focus (simp [*]; done) | assumption)) | (with_reducible apply DL.v_fz; rfl) | (with_reducible apply DL.v_own; rfl) | (with_reducible apply DL.v_arg; rfl) | with_reducible exact DL.r_c | with_reducible apply DL.r_andB | with_reducible apply DL.r_bin | with_reducible apply DL.r_un | with_reducible apply DL.r_test | with_reducible apply DL.r_notV | with_reducible apply DL.r_and | with_reducible apply DL.r_or | with_reducible apply DL.r_not | with_reducible apply DL.r_if | with_reducible apply DL.r_chainB | with_reducible exact DL.l_nil | with_reducible apply DL.l_cons | with_reducible apply DL.r_tup | with_reducible apply DL.r_lst | with_reducible apply DL.o_some | with_reducible exact DL.o_none | with_reducible apply DL.r_sl | with_reducible exact DL.a_nil | with_reducible apply DL.a_val | with_reducible apply DL.a_ref | (with_reducible apply DL.small_of; focus (first | omega | (simp <;> omega))) | with_reducible apply DL.r_callR | with_reducible apply DL.r_call | (first | exact e_is_row_ofL _ _ | exact e_is_row_of _ _ | exact e_is_rowL _ | exact e_is_row _ | exact e_is_below _ _ | exact e_is_whole _ | assumption) | (with_reducible apply DL.f_mod; (first | assumption | omega | focus (simp; omega))) | (with_reducible apply DL.f_div; (first | assumption | omega | focus (simp; omega))) | with_reducible apply DL.f_mulI | (with_reducible apply DL.wide_lt; (first | assumption | omega | focus (simp; omega))) | rfl | (focus ((try simp only [List.cons_append, List.nil_append, List.replicate_succ, List.replicate_zero, Nat.reduceSub, List.set_cons_zero, List.set_cons_succ, DL.with_arg, DL.with_own, DL.wipeD, List.map_cons, List.map_nil, DL.toArg, DL.back2, DL.back2a, DL.back, DL.back1]); rfl); done)))
      · rfl
    · apply turn_1
      · focus ((try simp only [List.cons_append, List.nil_append, List.replicate_succ, List.replicate_zero, Nat.reduceSub, List.set_cons_zero, List.set_cons_succ, DL.with_arg, DL.with_own, DL.wipeD, List.map_cons, List.map_nil, DL.toArg, DL.back2, DL.back2a, DL.back, DL.back1]); rfl)
      · (repeat' (first | with_reducible apply DL.s_setI | with_reducible apply DL.s_app | with_reducible apply DL.s_ext | (with_reducible apply DL.m_arg; rfl) | (with_reducible apply DL.m_own; rfl) | (with_reducible apply DL.f_set; rfl; focus ((try simp only [List.cons_append, List.nil_append, List.replicate_succ, List.replicate_zero, Nat.reduceSub, List.set_cons_zero, List.set_cons_succ, DL.with_arg, DL.with_own, DL.wipeD, List.map_cons, List.map_nil, DL.toArg, DL.back2, DL.back2a, DL.back, DL.back1]); rfl)) | with_reducible apply DL.f_app | with_reducible apply DL.f_ext | (with_reducible apply DL.set_goal; focus ((try simp only [List.cons_append, List.nil_append, List.replicate_succ, List.replicate_zero, Nat.reduceSub, List.set_cons_zero, List.set_cons_succ, DL.with_arg, DL.with_own, DL.wipeD, List.map_cons, List.map_nil, DL.toArg, DL.back2, DL.back2a, DL.back, DL.back1]); rfl)) | with_reducible apply DL.s_seqG | with_reducible apply DL.step_b | with_reducible apply DL.k_nx | with_reducible exact DL.k_rt | with_reducible exact DL.k_ct | with_reducible exact DL.k_bk | with_reducible apply DL.s_asgG | with_reducible apply DL.s_asg | with_reducible apply DL.s_drop | with_reducible apply DL.s_ret | with_reducible apply DL.s_if | with_reducible exact DL.s_skip | (with_reducible apply DL.f_eq; (first | rfl | assumption); (first | rfl | assumption)) | (with_reducible apply DL.f_ne; (first | rfl | assumption); (first | rfl | assumption)) | with_reducible apply DL.f_addT | (with_reducible apply DL.f_ixT; assumption) | (with_reducible apply DL.f_ixL; assumption) | with_reducible apply DL.f_addL | with_reducible apply DL.s_par | with_reducible apply DL.s_for | with_reducible apply DL.i_it | with_reducible apply DL.i_r1 | with_reducible apply DL.r_lc | with_reducible apply DL.r_lc2 | with_reducible apply DL.i_enumT | with_reducible exact DL.t_yes | with_reducible apply DL.turn_e | with_reducible apply DL.g_tup | with_reducible apply DL.g_lst | with_reducible apply DL.g_cons | with_reducible exact DL.g_nil | with_reducible apply DL.g_n | (with_reducible apply DL.set_fz; rfl; focus ((try simp only [List.cons_append, List.nil_append, List.replicate_succ, List.replicate_zero, Nat.reduceSub, List.set_cons_zero, List.set_cons_succ, DL.with_arg, DL.with_own, DL.wipeD, List.map_cons, List.map_nil, DL.toArg, DL.back2, DL.back2a, DL.back, DL.back1]); rfl)) | (with_reducible apply DL.set_own; rfl; focus ((try simp only [List.cons_append, List.nil_append, List.replicate_succ, List.replicate_zero, Nat.reduceSub, List.set_cons_zero, List.set_cons_succ, DL.with_arg, DL.with_own, DL.wipeD, List.map_cons, List.map_nil, DL.toArg, DL.back2, DL.back2a, DL.back, DL.back1]); rfl)) | (with_reducible apply DL.p_t; (first | rfl | focus (simp [*]; done) | assumption)) | (with_reducible apply DL.p_f; (first | rfl | focus (simp [*]; done) | assumption)) | (with_reducible apply DL.v_fz; rfl) | (with_reducible apply DL.v_own; rfl) | (with_reducible apply DL.v_arg; rfl) | with_reducible exact DL.r_c | with_reducible apply DL.r_andB | with_reducible apply DL.r_bin | with_reducible apply DL.r_un | with_reducible apply DL.r_test | with_reducible apply DL.r_notV | with_reducible apply DL.r_and | with_reducible apply DL.r_or | with_reducible apply DL.r_not | with_reducible apply DL.r_if | with_reducible apply DL.r_chainB | with_reducible exact DL.l_nil | with_reducible apply DL.l_cons | with_reducible apply DL.r_tup | with_reducible apply DL.r_lst | with_reducible apply DL.o_some | with_reducible exact DL.o_none | with_reducible apply DL.r_sl | with_reducible exact DL.a_nil | with_reducible apply DL.a_val | with_reducible apply DL.a_ref | (with_reducible apply DL.small_of; focus (first | omega | (simp <;> omega))) | with_reducible apply DL.r_callR | with_reducible apply DL.r_call | (first | exact e_is_row_ofL _ _ | exact e_is_row_of _ _ | exact e_is_rowL _ | exact e_is_row _ | exact e_is_below _ _ | exact e_is_whole _ | assumption) | (with_reducible apply DL.f_mod; (first | assumption | omega | focus (simp; omega))) | (with_reducible apply DL.f_div; (first | assumption | omega | focus (simp; omega))) | with_reducible apply DL.f_mulI | (with_reducible apply DL.wide_lt; (first | assumption | omega | focus (simp; omega))) | rfl | (focus ((try simp only [List.cons_append, List.nil_append, List.replicate_succ, List.replicate_zero, Nat.reduceSub, List.set_cons_zero, List.set_cons_succ, DL.with_arg, DL.with_own, DL.wipeD, List.map_cons, List.map_nil, DL.toArg, DL.back2, DL.back2a, DL.back, DL.back1]); rfl); done)))
      · (repeat' (first | with_reducible apply DL.s_setI | with_reducible apply DL.s_app | with_reducible apply DL.s_ext | (with_reducible apply DL.m_arg; rfl) | (with_reducible apply DL.m_own; rfl) | (with_reducible apply DL.f_set; rfl; focus ((try simp only [List.cons_append, List.nil_append, List.replicate_succ, List.replicate_zero, Nat.reduceSub, List.set_cons_zero, List.set_cons_succ, DL.with_arg, DL.with_own, DL.wipeD, List.map_cons, List.map_nil, DL.toArg, DL.back2, DL.back2a, DL.back, DL.back1]); rfl)) | with_reducible apply DL.f_app | with_reducible apply DL.f_ext | (with_reducible apply DL.set_goal; focus ((try simp only [List.cons_append, List.nil_append, List.replicate_succ, List.replicate_zero, Nat.reduceSub, List.set_cons_zero, List.set_cons_succ, DL.with_arg, DL.with_own, DL.wipeD, List.map_cons, List.map_nil, DL.toArg, DL.back2, DL.back2a, DL.back, DL.back1]); rfl)) | with_reducible apply DL.s_seqG | with_reducible apply DL.step_b | with_reducible apply DL.k_nx | with_reducible exact DL.k_rt | with_reducible exact DL.k_ct | with_reducible exact DL.k_bk | with_reducible apply DL.s_asgG | with_reducible apply DL.s_asg | with_reducible apply DL.s_drop | with_reducible apply DL.s_ret | with_reducible apply DL.s_if | with_reducible exact DL.s_skip | (with_reducible apply DL.f_eq; (first | rfl | assumption); (first | rfl | assumption)) | (with_reducible apply DL.f_ne; (first | rfl | assumption); (first | rfl | assumption)) | with_reducible apply DL.f_addT | (with_reducible apply DL.f_ixT; assumption) | (with_reducible apply DL.f_ixL; assumption) | with_reducible apply DL.f_addL | with_reducible apply DL.s_par | with_reducible apply DL.s_for | with_reducible apply DL.i_it | with_reducible apply DL.i_r1 | with_reducible apply DL.r_lc | with_reducible apply DL.r_lc2 | with_reducible apply DL.i_enumT | with_reducible exact DL.t_yes | with_reducible apply DL.turn_e | with_reducible apply DL.g_tup | with_reducible apply DL.g_lst | with_reducible apply DL.g_cons | with_reducible exact DL.g_nil | with_reducible apply DL.g_n | (with_reducible apply DL.set_fz; rfl; focus ((try simp only [List.cons_append, List.nil_append, List.replicate_succ, List.replicate_zero, Nat.reduceSub, List.set_cons_zero, List.set_cons_succ, DL.with_arg, DL.with_own, DL.wipeD, List.map_cons, List.map_nil, DL.toArg, DL.back2, DL.back2a, DL.back, DL.back1]); rfl)) | (with_reducible apply DL.set_own; rfl; focus ((try simp only [List.cons_append, List.nil_append, List.replicate_succ, List.replicate_zero, Nat.reduceSub, List.set_cons_zero, List.set_cons_succ, DL.with_arg, DL.with_own, DL.wipeD, List.map_cons, List.map_nil, DL.toArg, DL.back2, DL.back2a, DL.back, DL.back1]); rfl)) | (with_reducible apply DL.p_t; (first | rfl | focus (simp [*]; done) | assumption)) | (with_reducible apply DL.p_f; (first | rfl | focus (simp [*]; done) | assumption)) | (with_reducible apply DL.v_fz; rfl) | (with_reducible apply DL.v_own; rfl) | (with_reducible apply DL.v_arg; rfl) | with_reducible exact DL.r_c | with_reducible apply DL.r_andB | with_reducible apply DL.r_bin | with_reducible apply DL.r_un | with_reducible apply DL.r_test | with_reducible apply DL.r_notV | with_reducible apply DL.r_and | with_reducible apply DL.r_or | with_reducible apply DL.r_not | with_reducible apply DL.r_if | with_reducible apply DL.r_chainB | with_reducible exact DL.l_nil | with_reducible apply DL.l_cons | with_reducible apply DL.r_tup | with_reducible apply DL.r_lst | with_reducible apply DL.o_some | with_reducible exact DL.o_none | with_reducible apply DL.r_sl | with_reducible exact DL.a_nil | with_reducible apply DL.a_val | with_reducible apply DL.a_ref | (with_reducible apply DL.small_of; focus (first | omega | (simp <;> omega))) | with_reducible apply DL.r_callR | with_reducible apply DL.r_call | (first | exact e_is_row_ofL _ _ | exact e_is_row_of _ _ | exact e_is_rowL _ | exact e_is_row _ | exact e_is_below _ _ | exact e_is_whole _ | assumption) | (with_reducible apply DL.f_mod; (first | assumption | omega | focus (simp; omega))) | (with_reducible apply DL.f_div; (first | assumption | omega | focus (simp; omega))) | with_reducible apply DL.f_mulI | (with_reducible apply DL.wide_lt; (first | assumption | omega | focus (simp; omega))) | rfl | (focus ((try simp only [List.cons_append, List.nil_append, List.replicate_succ, List.replicate_zero, Nat.reduceSub, List.set_cons_zero, List.set_cons_succ, DL.with_arg, DL.with_own, DL.wipeD, List.map_cons, List.map_nil, DL.toArg, DL.back2, DL.back2a, DL.back, DL.back1]); rfl); done)))
      · (repeat' (first | with_reducible apply DL.s_setI | with_reducible apply DL.s_app | with_reducible apply DL.s_ext | (with_reducible apply DL.m_arg; rfl) | (with_reducible apply DL.m_own; rfl) | (with_reducible apply DL.f_set; rfl; focus ((try simp only [List.cons_append, List.nil_append, List.replicate_succ, List.replicate_zero, Nat.reduceSub, List.set_cons_zero, List.set_cons_succ, DL.with_arg, DL.with_own, DL.wipeD, List.map_cons, List.map_nil, DL.toArg, DL.back2, DL.back2a, DL.back, DL.back1]); rfl)) | with_reducible apply DL.f_app | with_reducible apply DL.f_ext | (with_reducible apply DL.set_goal; focus ((try simp only [List.cons_append, List.nil_append, List.replicate_succ, List.replicate_zero, Nat.reduceSub, List.set_cons_zero, List.set_cons_succ, DL.with_arg, DL.with_own, DL.wipeD, List.map_cons, List.map_nil, DL.toArg, DL.back2, DL.back2a, DL.back, DL.back1]); rfl)) | with_reducible apply DL.s_seqG | with_reducible apply DL.step_b | with_reducible apply DL.k_nx | with_reducible exact DL.k_rt | with_reducible exact DL.k_ct | with_reducible exact DL.k_bk | with_reducible apply DL.s_asgG | with_reducible apply DL.s_asg | with_reducible apply DL.s_drop | with_reducible apply DL.s_ret | with_reducible apply DL.s_if | with_reducible exact DL.s_skip | (with_reducible apply DL.f_eq; (first | rfl | assumption); (first | rfl | assumption)) | (with_reducible apply DL.f_ne; (first | rfl | assumption); (first | rfl | assumption)) | with_reducible apply DL.f_addT | (with_reducible apply DL.f_ixT; assumption) | (with_reducible apply DL.f_ixL; assumption) | with_reducible apply DL.f_addL | with_reducible apply DL.s_par | with_reducible apply DL.s_for | with_reducible apply DL.i_it | with_reducible apply DL.i_r1 | with_reducible apply DL.r_lc | with_reducible apply DL.r_lc2 | with_reducible apply DL.i_enumT | with_reducible exact DL.t_yes | with_reducible apply DL.turn_e | with_reducible apply DL.g_tup | with_reducible apply DL.g_lst | with_reducible apply DL.g_cons | with_reducible exact DL.g_nil | with_reducible apply DL.g_n | (with_reducible apply DL.set_fz; rfl; focus ((try simp only [List.cons_append, List.nil_append, List.replicate_succ, List.replicate_zero, Nat.reduceSub, List.set_cons_zero, List.set_cons_succ, DL.with_arg, DL.with_own, DL.wipeD, List.map_cons, List.map_nil, DL.toArg, DL.back2, DL.back2a, DL.back, DL.back1]); rfl)) | (with_reducible apply DL.set_own; rfl; focus ((try simp only [List.cons_append, List.nil_append, List.replicate_succ, List.replicate_zero, Nat.reduceSub, List.set_cons_zero, List.set_cons_succ, DL.with_arg, DL.with_own, DL.wipeD, List.map_cons, List.map_nil, DL.toArg, DL.back2, DL.back2a, DL.back, DL.back1]); rfl)) | (with_reducible apply DL.p_t; (first | rfl | focus (simp [*]; done) | assumption)) | (with_reducible apply DL.p_f; (first | rfl | focus (simp [*]; done) | assumption)) | (with_reducible apply DL.v_fz; rfl) | (with_reducible apply DL.v_own; rfl) | (with_reducible apply DL.v_arg; rfl) | with_reducible exact DL.r_c | with_reducible apply DL.r_andB | with_reducible apply DL.r_bin | with_reducible apply DL.r_un | with_reducible apply DL.r_test | with_reducible apply DL.r_notV | with_reducible apply DL.r_and | with_reducible apply DL.r_or | with_reducible apply DL.r_not | with_reducible apply DL.r_if | with_reducible apply DL.r_chainB | with_reducible exact DL.l_nil | with_reducible apply DL.l_cons | with_reducible apply DL.r_tup | with_reducible apply DL.r_lst | with_reducible apply DL.o_some | with_reducible exact DL.o_none | with_reducible apply DL.r_sl | with_reducible exact DL.a_nil | with_reducible apply DL.a_val | with_reducible apply DL.a_ref | (with_reducible apply DL.small_of; focus (first | omega | (simp <;> omega))) | with_reducible apply DL.r_callR | with_reducible apply DL.r_call | (first | exact e_is_row_ofL _ _ | exact e_is_row_of _ _ | exact e_is_rowL _ | exact e_is_row _ | exact e_is_below _ _ | exact e_is_whole _ | assumption) | (with_reducible apply DL.f_mod; (first | assumption | omega | focus (simp; omega))) | (with_reducible apply DL.f_div; (first | assumption | omega | focus (simp; omega))) | with_reducible apply DL.f_mulI | (with_reducible apply DL.wide_lt; (first | assumption | omega | focus (simp; omega))) | rfl | (focus ((try simp only [List.cons_append, List.nil_append, List.replicate_succ, List.replicate_zero, Nat.reduceSub, List.set_cons_zero, List.set_cons_succ, DL.with_arg, DL.with_own, DL.wipeD, List.map_cons, List.map_nil, DL.toArg, DL.back2, DL.back2a, DL.back, DL.back1]); rfl); done)))
      · rfl
  have hs : (small ((List.range ((N.length : Nat) : Int).toNat).map fun (i : Nat) => PyData.int i).length && freeAt [2] [s0, .fz (.list N), .no]) = true := (Bool.and_eq_true _ _).mpr ⟨small_of (by rw [List.length_map, List.length_range]; omega), by rcases hs0 with ⟨rfl, _⟩ | ⟨rfl, _⟩ <;> rfl⟩
  clear hin
  rw [al_succ]
  rcases hs0 with ⟨rfl, rfl⟩ | ⟨rfl, rfl⟩
  · apply run_b rfl
    · focus ((try simp only [List.cons_append, List.nil_append, List.replicate_succ, List.replicate_zero, Nat.reduceSub, List.set_cons_zero, List.set_cons_succ, DL.with_arg, DL.with_own, DL.wipeD, List.map_cons, List.map_nil, DL.toArg, DL.back2, DL.back2a, DL.back, DL.back1]); rfl)
    · unfold sd__law_alike
      (repeat' (first | with_reducible apply DL.s_setI | with_reducible apply DL.s_app | with_reducible apply DL.s_ext | (with_reducible apply DL.m_arg; rfl) | (with_reducible apply DL.m_own; rfl) | (with_reducible apply DL.f_set; rfl; focus ((try simp only [List.cons_append, List.nil_append, List.replicate_succ, List.replicate_zero, Nat.reduceSub, List.set_cons_zero, List.set_cons_succ, DL.with_arg, DL.with_own, DL.wipeD, List.map_cons, List.map_nil, DL.toArg, DL.back2, DL.back2a, DL.back, DL.back1]); rfl)) | with_reducible apply DL.f_app | with_reducible apply DL.f_ext | (with_reducible apply DL.set_goal; focus ((try simp only [List.cons_append, List.nil_append, List.replicate_succ, List.replicate_zero, Nat.reduceSub, List.set_cons_zero, List.set_cons_succ, DL.with_arg, DL.with_own, DL.wipeD, List.map_cons, List.map_nil, DL.toArg, DL.back2, DL.back2a, DL.back, DL.back1]); rfl)) | with_reducible apply DL.s_seqG | with_reducible apply DL.step_b | with_reducible apply DL.k_nx | with_reducible exact DL.k_rt | with_reducible exact DL.k_ct | with_reducible exact DL.k_bk | with_reducible apply DL.s_asgG | with_reducible apply DL.s_asg | with_reducible apply DL.s_drop | with_reducible apply DL.s_ret | with_reducible apply DL.s_if | with_reducible exact DL.s_skip | (with_reducible apply DL.f_eq; (first | rfl | assumption); (first | rfl | assumption)) | (with_reducible apply DL.f_ne; (first | rfl | assumption); (first | rfl | assumption)) | with_reducible apply DL.f_addT | (with_reducible apply DL.f_ixT; assumption) | (with_reducible apply DL.f_ixL; assumption) | with_reducible apply DL.f_addL | with_reducible apply DL.s_par | with_reducible apply DL.s_for | with_reducible apply DL.i_it | with_reducible apply DL.i_r1 | with_reducible apply DL.r_lc | with_reducible apply DL.r_lc2 | with_reducible apply DL.i_enumT | with_reducible exact DL.t_yes | with_reducible apply DL.turn_e | with_reducible apply DL.g_tup | with_reducible apply DL.g_lst | with_reducible apply DL.g_cons | with_reducible exact DL.g_nil | with_reducible apply DL.g_n | (with_reducible apply DL.set_fz; rfl; focus ((try simp only [List.cons_append, List.nil_append, List.replicate_succ, List.replicate_zero, Nat.reduceSub, List.set_cons_zero, List.set_cons_succ, DL.with_arg, DL.with_own, DL.wipeD, List.map_cons, List.map_nil, DL.toArg, DL.back2, DL.back2a, DL.back, DL.back1]); rfl)) | (with_reducible apply DL.set_own; rfl; focus ((try simp only [List.cons_append, List.nil_append, List.replicate_succ, List.replicate_zero, Nat.reduceSub, List.set_cons_zero, List.set_cons_succ, DL.with_arg, DL.with_own, DL.wipeD, List.map_cons, List.map_nil, DL.toArg, DL.back2, DL.back2a, DL.back, DL.back1]); rfl)) | (with_reducible apply DL.p_t; (first | rfl | focus (simp [*]; done) | assumption)) | (with_reducible apply DL.p_f; (first | rfl | focus (simp [*]; done) | assumption)) | (with_reducible apply DL.v_fz; rfl) | (with_reducible apply DL.v_own; rfl) | (with_reducible apply DL.v_arg; rfl) | with_reducible exact DL.r_c | with_reducible apply DL.r_andB | with_reducible apply DL.r_bin | with_reducible apply DL.r_un | with_reducible apply DL.r_test | with_reducible apply DL.r_notV | with_reducible apply DL.r_and | with_reducible apply DL.r_or | with_reducible apply DL.r_not | with_reducible apply DL.r_if | with_reducible apply DL.r_chainB | with_reducible exact DL.l_nil | with_reducible apply DL.l_cons | with_reducible apply DL.r_tup | with_reducible apply DL.r_lst | with_reducible apply DL.o_some | with_reducible exact DL.o_none | with_reducible apply DL.r_sl | with_reducible exact DL.a_nil | with_reducible apply DL.a_val | with_reducible apply DL.a_ref | (with_reducible apply DL.small_of; focus (first | omega | (simp <;> omega))) | with_reducible apply DL.r_callR | with_reducible apply DL.r_call | (first | exact e_is_row_ofL _ _ | exact e_is_row_of _ _ | exact e_is_rowL _ | exact e_is_row _ | exact e_is_below _ _ | exact e_is_whole _ | assumption) | (with_reducible apply DL.f_mod; (first | assumption | omega | focus (simp; omega))) | (with_reducible apply DL.f_div; (first | assumption | omega | focus (simp; omega))) | with_reducible apply DL.f_mulI | (with_reducible apply DL.wide_lt; (first | assumption | omega | focus (simp; omega))) | rfl | (focus ((try simp only [List.cons_append, List.nil_append, List.replicate_succ, List.replicate_zero, Nat.reduceSub, List.set_cons_zero, List.set_cons_succ, DL.with_arg, DL.with_own, DL.wipeD, List.map_cons, List.map_nil, DL.toArg, DL.back2, DL.back2a, DL.back, DL.back1]); rfl); done)))
    all_goals rfl
  · apply run_b rfl
    · focus ((try simp only [List.cons_append, List.nil_append, List.replicate_succ, List.replicate_zero, Nat.reduceSub, List.set_cons_zero, List.set_cons_succ, DL.with_arg, DL.with_own, DL.wipeD, List.map_cons, List.map_nil, DL.toArg, DL.back2, DL.back2a, DL.back, DL.back1]); rfl)
    · unfold sd__law_alike
      (repeat' (first | with_reducible apply DL.s_setI | with_reducible apply DL.s_app | with_reducible apply DL.s_ext | (with_reducible apply DL.m_arg; rfl) | (with_reducible apply DL.m_own; rfl) | (with_reducible apply DL.f_set; rfl; focus ((try simp only [List.cons_append, List.nil_append, List.replicate_succ, List.replicate_zero, Nat.reduceSub, List.set_cons_zero, List.set_cons_succ, DL.with_arg, DL.with_own, DL.wipeD, List.map_cons, List.map_nil, DL.toArg, DL.back2, DL.back2a, DL.back, DL.back1]); rfl)) | with_reducible apply DL.f_app | with_reducible apply DL.f_ext | (with_reducible apply DL.set_goal; focus ((try simp only [List.cons_append, List.nil_append, List.replicate_succ, List.replicate_zero, Nat.reduceSub, List.set_cons_zero, List.set_cons_succ, DL.with_arg, DL.with_own, DL.wipeD, List.map_cons, List.map_nil, DL.toArg, DL.back2, DL.back2a, DL.back, DL.back1]); rfl)) | with_reducible apply DL.s_seqG | with_reducible apply DL.step_b | with_reducible apply DL.k_nx | with_reducible exact DL.k_rt | with_reducible exact DL.k_ct | with_reducible exact DL.k_bk | with_reducible apply DL.s_asgG | with_reducible apply DL.s_asg | with_reducible apply DL.s_drop | with_reducible apply DL.s_ret | with_reducible apply DL.s_if | with_reducible exact DL.s_skip | (with_reducible apply DL.f_eq; (first | rfl | assumption); (first | rfl | assumption)) | (with_reducible apply DL.f_ne; (first | rfl | assumption); (first | rfl | assumption)) | with_reducible apply DL.f_addT | (with_reducible apply DL.f_ixT; assumption) | (with_reducible apply DL.f_ixL; assumption) | with_reducible apply DL.f_addL | with_reducible apply DL.s_par | with_reducible apply DL.s_for | with_reducible apply DL.i_it | with_reducible apply DL.i_r1 | with_reducible apply DL.r_lc | with_reducible apply DL.r_lc2 | with_reducible apply DL.i_enumT | with_reducible exact DL.t_yes | with_reducible apply DL.turn_e | with_reducible apply DL.g_tup | with_reducible apply DL.g_lst | with_reducible apply DL.g_cons | with_reducible exact DL.g_nil | with_reducible apply DL.g_n | (with_reducible apply DL.set_fz; rfl; focus ((try simp only [List.cons_append, List.nil_append, List.replicate_succ, List.replicate_zero, Nat.reduceSub, List.set_cons_zero, List.set_cons_succ, DL.with_arg, DL.with_own, DL.wipeD, List.map_cons, List.map_nil, DL.toArg, DL.back2, DL.back2a, DL.back, DL.back1]); rfl)) | (with_reducible apply DL.set_own; rfl; focus ((try simp only [List.cons_append, List.nil_append, List.replicate_succ, List.replicate_zero, Nat.reduceSub, List.set_cons_zero, List.set_cons_succ, DL.with_arg, DL.with_own, DL.wipeD, List.map_cons, List.map_nil, DL.toArg, DL.back2, DL.back2a, DL.back, DL.back1]); rfl)) | (with_reducible apply DL.p_t; (first | rfl | focus (simp [*]; done) | assumption)) | (with_reducible apply DL.p_f; (first | rfl | focus (simp [*]; done) | assumption)) | (with_reducible apply DL.v_fz; rfl) | (with_reducible apply DL.v_own; rfl) | (with_reducible apply DL.v_arg; rfl) | with_reducible exact DL.r_c | with_reducible apply DL.r_andB | with_reducible apply DL.r_bin | with_reducible apply DL.r_un | with_reducible apply DL.r_test | with_reducible apply DL.r_notV | with_reducible apply DL.r_and | with_reducible apply DL.r_or | with_reducible apply DL.r_not | with_reducible apply DL.r_if | with_reducible apply DL.r_chainB | with_reducible exact DL.l_nil | with_reducible apply DL.l_cons | with_reducible apply DL.r_tup | with_reducible apply DL.r_lst | with_reducible apply DL.o_some | with_reducible exact DL.o_none | with_reducible apply DL.r_sl | with_reducible exact DL.a_nil | with_reducible apply DL.a_val | with_reducible apply DL.a_ref | (with_reducible apply DL.small_of; focus (first | omega | (simp <;> omega))) | with_reducible apply DL.r_callR | with_reducible apply DL.r_call | (first | exact e_is_row_ofL _ _ | exact e_is_row_of _ _ | exact e_is_rowL _ | exact e_is_row _ | exact e_is_below _ _ | exact e_is_whole _ | assumption) | (with_reducible apply DL.f_mod; (first | assumption | omega | focus (simp; omega))) | (with_reducible apply DL.f_div; (first | assumption | omega | focus (simp; omega))) | with_reducible apply DL.f_mulI | (with_reducible apply DL.wide_lt; (first | assumption | omega | focus (simp; omega))) | rfl | (focus ((try simp only [List.cons_append, List.nil_append, List.replicate_succ, List.replicate_zero, Nat.reduceSub, List.set_cons_zero, List.set_cons_succ, DL.with_arg, DL.with_own, DL.wipeD, List.map_cons, List.map_nil, DL.toArg, DL.back2, DL.back2a, DL.back, DL.back1]); rfl); done)))
    all_goals rfl
theorem al_ends (n : Nat) (es : List (Nat × Nat)) (hl : es.length ≤ 1000) (s0 t0 : Sl) (hs0 : s0 = .fz (.list (es.map encE)) ∧ t0 = .no ∨ s0 = .arg (.lst (es.map encE)) ∧ t0 = .arg (.lst (es.map encE))) : d__law_alike (n + 3) [s0, .fz (.list (es.map encE))] = .ok (.fz (.bool true)) [t0, .no] := by
  refine al_list (n + 2) _ (by rw [List.length_map]; exact hl) (fun d hd => ?_) s0 t0 hs0
  obtain ⟨q, _, rfl⟩ := List.mem_map.mp hd
  refine al_tuple (n + 1) _ (by simp) fun d hd => ?_
  simp only [List.mem_cons, List.not_mem_nil, or_false] at hd
  rcases hd with rfl | rfl
  · exact al_int n _
  · exact al_int n _
theorem plain_ms (ls : List Ln) : (ls.map fun l => ((false, l) : Bool × Ln)).map encM = ls.map encL := by
  rw [List.map_map]
  rfl
theorem plain_lns (ls : List Ln) : lns (ls.map fun l => ((false, l) : Bool × Ln)) = ls := by
  show (ls.map fun l => ((false, l) : Bool × Ln)).map (fun m => m.2) = ls
  rw [List.map_map]
  exact List.map_id ls
theorem cw_plain {p : Int} {ls : List Ln} (h : OkW p ls) : d_checked_web [.fz (encW p ls)] = .ok (.fz (encW p ls)) [.no] := by
  have e := e_checked_web false false p (ls.map fun l => (false, l)) (by rw [plain_lns]; exact h)
  rw [plain_lns] at e
  rw [← e]
  show d_checked_web [.fz (.tuple [.int p, .tuple (ls.map encL)])] = d_checked_web [.fz (.tuple [.int p, .tuple ((ls.map fun l => ((false, l) : Bool × Ln)).map encM)])]
  rw [plain_ms]
theorem wo_plain {p : Int} {ls : List Ln} (h : OkW p ls) : d_web_of [.fz (.int p), .fz (.tuple (ls.map encL))] = .ok (.fz (encW p ls)) [.no, .no] := by
  have e := e_web_of p false (ls.map fun l => (false, l)) (by rw [plain_lns]; exact h)
  rw [plain_lns] at e
  rw [← e]
  show _ = d_web_of [.fz (.int p), .fz (.tuple ((ls.map fun l => ((false, l) : Bool × Ln)).map encM))]
  rw [plain_ms]
theorem rep_L (c : Bool) {p : Int} {ms : List (Bool × Ln)} (hp : p < 1000) (hl : ms.length ≤ 100) (h : ∀ m ∈ ms, okL p m.2) : fRepr (sq c (ms.map encM)) = some (.fz (.str (sq c (ms.map encM)).shown)) := by
  have hm : ∀ d ∈ ms.map encM, Shw 33 1 d := fun d hd => by
    obtain ⟨m, hm, rfl⟩ := List.mem_map.mp hd
    obtain ⟨a1, a2, a3, a4, a5⟩ := h m hm
    refine (shw_sq (w := 10) (k := 0) (ds := [.int m.2.1, .int m.2.2.1, .str ⟨#[m.2.2.2]⟩]) (fun d hd => ?_) m.1).more (by simp) (by decide)
    simp only [List.mem_cons, List.not_mem_nil, or_false] at hd
    rcases hd with rfl | rfl | rfl
    · exact shw_int a1 (by omega)
    · exact shw_int a3 (by omega)
    · exact shw_ch a5
  have h2 := (shw_sq hm c).more (w' := 34 * 100) (by rw [List.length_map]; exact Nat.mul_le_mul_left _ hl) (Nat.le_refl _)
  exact rep_of h2 (by cases c <;> rfl) (by decide) (by decide)
/-! ### one place -/
abbrev pBody : Ds := (dSeq (dAsg 9 (dCall d__law_ends (aVal (dVar 3) (aVal (dVar 8) aNil)))) (dSeq (dAsg 10 (dCall d_ends_at (aVal (dVar 7) (aVal (dVar 8) aNil)))) (dSeq (dIfS (dOr (dNot (dTest (dCall (d__law_alike fuelR) (aRef 10 (aVal (dVar 9) aNil))))) (dNot (dTest (dCall (d__law_alike fuelR) (aVal (dCall d_ends_at (aVal (dVar 3) (aVal (dVar 8) aNil))) (aVal (dVar 9) aNil)))))) (dRet (dC (.bool false))) dSkip) (dSeq (dApp 10 (dTup (dCons (dC (.int 99)) (dCons (dC (.int 0)) dNil)))) (dIfS (dNot (dTest (dCall (d__law_alike fuelR) (aVal (dCall d_ends_at (aVal (dVar 7) (aVal (dVar 8) aNil))) (aVal (dVar 9) aNil))))) (dRet (dC (.bool false))) dSkip)))))
/-- the slots of the web told in other kinds, of the place, of what is due there and what is told -/
def rest (O : List D) (s7 s8 s9 s10 : Sl) : Prop := (s7 = .own (.lst O) ∧ s8 = .no ∧ s9 = .no ∧ s10 = .no) ∨ s7 = .fz (.list O) ∧ ∃ a b c, s8 = .fz a ∧ s9 = .fz b ∧ s10 = .own (.lst c)
set_option maxHeartbeats 0 in
theorem place_turn {O : List D} {W : D} {es : List (Nat × Nat)} (i : Nat) (hl : es.length ≤ 1000) (c1 : d__law_ends [.fz W, .fz (.int (i : Nat))] = .ok (.own (.lst (es.map encE))) [.no, .no])
    (c2 : d_ends_at [.fz (.list O), .fz (.int (i : Nat))] = .ok (.own (.lst (es.map encE))) [.no, .no]) (c3 : d_ends_at [.fz W, .fz (.int (i : Nat))] = .ok (.own (.lst (es.map encE))) [.no, .no])
    (s0 : Sl) (x1 : List D) (x2 x4 x5 x6 : D) {s7 s8 s9 s10 : Sl} (h : rest O s7 s8 s9 s10) :
    ∃ t8 t9 t10, stepB (gN 8) pBody (.int (i : Nat)) [s0, .own (.lst x1), .fz x2, .fz W, .fz x4, .fz x5, .fz x6, s7, s8, s9, s10] = .ok .nx [s0, .own (.lst x1), .fz x2, .fz W, .fz x4, .fz x5, .fz x6, .fz (.list O), t8, t9, t10] ∧ rest O (.fz (.list O)) t8 t9 t10 := by
  have c4 : d__law_alike fuelR [.arg (.lst (es.map encE)), .fz (.list (es.map encE))] = .ok (.fz (.bool true)) [.arg (.lst (es.map encE)), .no] := al_ends 17 es hl _ _ (.inr ⟨rfl, rfl⟩)
  have c5 : d__law_alike fuelR [.fz (.list (es.map encE)), .fz (.list (es.map encE))] = .ok (.fz (.bool true)) [.no, .no] := al_ends 17 es hl _ _ (.inl ⟨rfl, rfl⟩)
  have sm : small (es.map encE).length = true := small_of (by rw [List.length_map]; omega)
  have fa := f_app (d := .tuple [.int 99, .int 0]) sm
  refine ⟨.fz (.int (i : Nat)), .fz (.list (es.map encE)), .own (.lst (es.map encE ++ [.tuple [.int 99, .int 0]])), ?_, .inr ⟨rfl, _, _, _, rfl, rfl, rfl⟩⟩
  clear sm hl
  generalize es.map encE ++ [.tuple [.int 99, .int 0]] = E2 at *
  generalize es.map encE = E at *
  have m1 : mutL 10 (fApp (.tuple [.int 99, .int 0])) [s0, .own (.lst x1), .fz x2, .fz W, .fz x4, .fz x5, .fz x6, .fz (.list O), .fz (.int (i : Nat)), .fz (.list E), .own (.lst E)] = .ok .nx [s0, .own (.lst x1), .fz x2, .fz W, .fz x4, .fz x5, .fz x6, .fz (.list O), .fz (.int (i : Nat)), .fz (.list E), .own (.lst E2)] := m_own rfl fa rfl
  rcases h with ⟨rfl, rfl, rfl, rfl⟩ | ⟨rfl, a, b, c, rfl, rfl, rfl⟩
  · apply step_b
    · rfl
    · repeat' (first | exact m1 | (first | with_reducible apply DL.s_setI | with_reducible apply DL.s_app | with_reducible apply DL.s_ext | (with_reducible apply DL.m_arg; rfl) | (with_reducible apply DL.m_own; rfl) | (with_reducible apply DL.f_set; rfl; focus ((try simp only [List.cons_append, List.nil_append, List.replicate_succ, List.replicate_zero, Nat.reduceSub, List.set_cons_zero, List.set_cons_succ, DL.with_arg, DL.with_own, DL.wipeD, List.map_cons, List.map_nil, DL.toArg, DL.back2, DL.back2a, DL.back, DL.back1]); rfl)) | with_reducible apply DL.f_app | with_reducible apply DL.f_ext | (with_reducible apply DL.set_goal; focus ((try simp only [List.cons_append, List.nil_append, List.replicate_succ, List.replicate_zero, Nat.reduceSub, List.set_cons_zero, List.set_cons_succ, DL.with_arg, DL.with_own, DL.wipeD, List.map_cons, List.map_nil, DL.toArg, DL.back2, DL.back2a, DL.back, DL.back1]); rfl)) | with_reducible apply DL.s_seqG | with_reducible apply DL.step_b | with_reducible apply DL.k_nx | with_reducible exact DL.k_rt | with_reducible exact DL.k_ct | with_reducible exact DL.k_bk | with_reducible apply DL.s_asgG | with_reducible apply DL.s_asg | with_reducible apply DL.s_drop | with_reducible apply DL.s_ret | with_reducible apply DL.s_if | with_reducible exact DL.s_skip | (with_reducible apply DL.f_eq; (first | rfl | assumption); (first | rfl | assumption)) | (with_reducible apply DL.f_ne; (first | rfl | assumption); (first | rfl | assumption)) | with_reducible apply DL.f_addT | (with_reducible apply DL.f_ixT; assumption) | (with_reducible apply DL.f_ixL; assumption) | with_reducible apply DL.f_addL | with_reducible apply DL.s_par | with_reducible apply DL.s_for | with_reducible apply DL.i_it | with_reducible apply DL.i_r1 | with_reducible apply DL.r_lc | with_reducible apply DL.r_lc2 | with_reducible apply DL.i_enumT | with_reducible exact DL.t_yes | with_reducible apply DL.turn_e | with_reducible apply DL.g_tup | with_reducible apply DL.g_lst | with_reducible apply DL.g_cons | with_reducible exact DL.g_nil | with_reducible apply DL.g_n | (with_reducible apply DL.set_fz; rfl; focus ((try simp only [List.cons_append, List.nil_append, List.replicate_succ, List.replicate_zero, Nat.reduceSub, List.set_cons_zero, List.set_cons_succ, DL.with_arg, DL.with_own, DL.wipeD, List.map_cons, List.map_nil, DL.toArg, DL.back2, DL.back2a, DL.back, DL.back1]); rfl)) | (with_reducible apply DL.set_own; rfl; focus ((try simp only [List.cons_append, List.nil_append, List.replicate_succ, List.replicate_zero, Nat.reduceSub, List.set_cons_zero, List.set_cons_succ, DL.with_arg, DL.with_own, DL.wipeD, List.map_cons, List.map_nil, DL.toArg, DL.back2, DL.back2a, DL.back, DL.back1]); rfl)) | (with_reducible apply DL.p_t; (first | rfl | focus (simp [*]; done) | assumption)) | (with_reducible apply DL.p_f; (first | rfl | focus (simp [*]; done) | assumption)) | (with_reducible apply DL.v_fz; rfl) | (with_reducible apply DL.v_own; rfl) | (with_reducible apply DL.v_arg; rfl) | with_reducible exact DL.r_c | with_reducible apply DL.r_andB | with_reducible apply DL.r_bin | with_reducible apply DL.r_un | with_reducible apply DL.r_test | with_reducible apply DL.r_notV | with_reducible apply DL.r_and | with_reducible apply DL.r_or | with_reducible apply DL.r_not | with_reducible apply DL.r_if | with_reducible apply DL.r_chainB | with_reducible exact DL.l_nil | with_reducible apply DL.l_cons | with_reducible apply DL.r_tup | with_reducible apply DL.r_lst | with_reducible apply DL.o_some | with_reducible exact DL.o_none | with_reducible apply DL.r_sl | with_reducible exact DL.a_nil | with_reducible apply DL.a_val | with_reducible apply DL.a_ref | (with_reducible apply DL.small_of; focus (first | omega | (simp <;> omega))) | with_reducible apply DL.r_callR | with_reducible apply DL.r_call | (first | exact e_is_row_ofL _ _ | exact e_is_row_of _ _ | exact e_is_rowL _ | exact e_is_row _ | exact e_is_below _ _ | exact e_is_whole _ | assumption) | (with_reducible apply DL.f_mod; (first | assumption | omega | focus (simp; omega))) | (with_reducible apply DL.f_div; (first | assumption | omega | focus (simp; omega))) | with_reducible apply DL.f_mulI | (with_reducible apply DL.wide_lt; (first | assumption | omega | focus (simp; omega))) | rfl | (focus ((try simp only [List.cons_append, List.nil_append, List.replicate_succ, List.replicate_zero, Nat.reduceSub, List.set_cons_zero, List.set_cons_succ, DL.with_arg, DL.with_own, DL.wipeD, List.map_cons, List.map_nil, DL.toArg, DL.back2, DL.back2a, DL.back, DL.back1]); rfl); done)))
  · apply step_b
    · rfl
    · repeat' (first | exact m1 | (first | with_reducible apply DL.s_setI | with_reducible apply DL.s_app | with_reducible apply DL.s_ext | (with_reducible apply DL.m_arg; rfl) | (with_reducible apply DL.m_own; rfl) | (with_reducible apply DL.f_set; rfl; focus ((try simp only [List.cons_append, List.nil_append, List.replicate_succ, List.replicate_zero, Nat.reduceSub, List.set_cons_zero, List.set_cons_succ, DL.with_arg, DL.with_own, DL.wipeD, List.map_cons, List.map_nil, DL.toArg, DL.back2, DL.back2a, DL.back, DL.back1]); rfl)) | with_reducible apply DL.f_app | with_reducible apply DL.f_ext | (with_reducible apply DL.set_goal; focus ((try simp only [List.cons_append, List.nil_append, List.replicate_succ, List.replicate_zero, Nat.reduceSub, List.set_cons_zero, List.set_cons_succ, DL.with_arg, DL.with_own, DL.wipeD, List.map_cons, List.map_nil, DL.toArg, DL.back2, DL.back2a, DL.back, DL.back1]); rfl)) | with_reducible apply DL.s_seqG | with_reducible apply DL.step_b | with_reducible apply DL.k_nx | with_reducible exact DL.k_rt | with_reducible exact DL.k_ct | with_reducible exact DL.k_bk | with_reducible apply DL.s_asgG | with_reducible apply DL.s_asg | with_reducible apply DL.s_drop | with_reducible apply DL.s_ret | with_reducible apply DL.s_if | with_reducible exact DL.s_skip | (with_reducible apply DL.f_eq; (first | rfl | assumption); (first | rfl | assumption)) | (with_reducible apply DL.f_ne; (first | rfl | assumption); (first | rfl | assumption)) | with_reducible apply DL.f_addT | (with_reducible apply DL.f_ixT; assumption) | (with_reducible apply DL.f_ixL; assumption) | with_reducible apply DL.f_addL | with_reducible apply DL.s_par | with_reducible apply DL.s_for | with_reducible apply DL.i_it | with_reducible apply DL.i_r1 | with_reducible apply DL.r_lc | with_reducible apply DL.r_lc2 | with_reducible apply DL.i_enumT | with_reducible exact DL.t_yes | with_reducible apply DL.turn_e | with_reducible apply DL.g_tup | with_reducible apply DL.g_lst | with_reducible apply DL.g_cons | with_reducible exact DL.g_nil | with_reducible apply DL.g_n | (with_reducible apply DL.set_fz; rfl; focus ((try simp only [List.cons_append, List.nil_append, List.replicate_succ, List.replicate_zero, Nat.reduceSub, List.set_cons_zero, List.set_cons_succ, DL.with_arg, DL.with_own, DL.wipeD, List.map_cons, List.map_nil, DL.toArg, DL.back2, DL.back2a, DL.back, DL.back1]); rfl)) | (with_reducible apply DL.set_own; rfl; focus ((try simp only [List.cons_append, List.nil_append, List.replicate_succ, List.replicate_zero, Nat.reduceSub, List.set_cons_zero, List.set_cons_succ, DL.with_arg, DL.with_own, DL.wipeD, List.map_cons, List.map_nil, DL.toArg, DL.back2, DL.back2a, DL.back, DL.back1]); rfl)) | (with_reducible apply DL.p_t; (first | rfl | focus (simp [*]; done) | assumption)) | (with_reducible apply DL.p_f; (first | rfl | focus (simp [*]; done) | assumption)) | (with_reducible apply DL.v_fz; rfl) | (with_reducible apply DL.v_own; rfl) | (with_reducible apply DL.v_arg; rfl) | with_reducible exact DL.r_c | with_reducible apply DL.r_andB | with_reducible apply DL.r_bin | with_reducible apply DL.r_un | with_reducible apply DL.r_test | with_reducible apply DL.r_notV | with_reducible apply DL.r_and | with_reducible apply DL.r_or | with_reducible apply DL.r_not | with_reducible apply DL.r_if | with_reducible apply DL.r_chainB | with_reducible exact DL.l_nil | with_reducible apply DL.l_cons | with_reducible apply DL.r_tup | with_reducible apply DL.r_lst | with_reducible apply DL.o_some | with_reducible exact DL.o_none | with_reducible apply DL.r_sl | with_reducible exact DL.a_nil | with_reducible apply DL.a_val | with_reducible apply DL.a_ref | (with_reducible apply DL.small_of; focus (first | omega | (simp <;> omega))) | with_reducible apply DL.r_callR | with_reducible apply DL.r_call | (first | exact e_is_row_ofL _ _ | exact e_is_row_of _ _ | exact e_is_rowL _ | exact e_is_row _ | exact e_is_below _ _ | exact e_is_whole _ | assumption) | (with_reducible apply DL.f_mod; (first | assumption | omega | focus (simp; omega))) | (with_reducible apply DL.f_div; (first | assumption | omega | focus (simp; omega))) | with_reducible apply DL.f_mulI | (with_reducible apply DL.wide_lt; (first | assumption | omega | focus (simp; omega))) | rfl | (focus ((try simp only [List.cons_append, List.nil_append, List.replicate_succ, List.replicate_zero, Nat.reduceSub, List.set_cons_zero, List.set_cons_succ, DL.with_arg, DL.with_own, DL.wipeD, List.map_cons, List.map_nil, DL.toArg, DL.back2, DL.back2a, DL.back, DL.back1]); rfl); done)))

theorem place_all {O : List D} {p : Int} {ls : List Ln} (hw : OkW p ls) (hp : p ≤ 100) (hl : ls.length ≤ 100) (cw : d_checked_web [.fz (.list O)] = .ok (.fz (encW p ls)) [.no]) (s0 : Sl) (x1 : List D) (x2 x4 x5 x6 : D) :
    ∃ t7 t8 t9 t10, forL (stepB (gN 8) pBody) ((List.range p.toNat).map fun (i : Nat) => PyData.int i) [s0, .own (.lst x1), .fz x2, .fz (encW p ls), .fz x4, .fz x5, .fz x6, .own (.lst O), .no, .no, .no] = .ok .nx [s0, .own (.lst x1), .fz x2, .fz (encW p ls), .fz x4, .fz x5, .fz x6, t7, t8, t9, t10] ∧ rest O t7 t8 t9 t10 := by
  obtain ⟨δ', e, t7, t8, t9, t10, rfl, h⟩ := for_inv (P := fun δ => ∃ s7 s8 s9 s10 : Sl, δ = [s0, .own (.lst x1), .fz x2, .fz (encW p ls), .fz x4, .fz x5, .fz x6, s7, s8, s9, s10] ∧ rest O s7 s8 s9 s10) (f := stepB (gN 8) pBody) ((List.range p.toNat).map fun (i : Nat) => PyData.int i) (fun d hd δ hP => by
    obtain ⟨s7, s8, s9, s10, rfl, h⟩ := hP
    obtain ⟨i, hi, rfl⟩ := List.mem_map.mp hd
    have hi := List.mem_range.mp hi
    have len := endsOf_len ls i
    obtain ⟨t8, t9, t10, e, h'⟩ := place_turn (es := endsOf ls i) i (by omega) (e_law_ends p ls i (by omega)) (e_ends_at p ls i cw hw (by omega) (by omega)) (e_ends_at p ls i (cw_plain hw) hw (by omega) (by omega)) s0 x1 x2 x4 x5 x6 h
    exact ⟨_, e, _, _, _, _, rfl, h'⟩) [s0, .own (.lst x1), .fz x2, .fz (encW p ls), .fz x4, .fz x5, .fz x6, .own (.lst O), .no, .no, .no] ⟨_, _, _, _, rfl, .inl ⟨rfl, rfl, rfl, rfl⟩⟩
  exact ⟨t7, t8, t9, t10, e, h⟩
/-! ### what shares no list -/
theorem depL_le {k : Nat} : ∀ {ds : List D}, (∀ d ∈ ds, dep d ≤ k) → depL ds ≤ k
  | [], _ => Nat.zero_le _
  | d :: ds, h => by
    unfold depL
    exact Nat.max_le.mpr ⟨h d List.mem_cons_self, depL_le fun e he => h e (List.mem_cons_of_mem _ he)⟩
theorem subsL_mem : ∀ {ds : List D} {x : D}, x ∈ subsL ds → ∃ d ∈ ds, x ∈ subs d
  | [], x, h => by unfold subsL at h; cases h
  | d :: ds, x, h => by
    unfold subsL at h
    rcases List.mem_append.mp h with z | z
    · exact ⟨d, List.mem_cons_self, z⟩
    · obtain ⟨e, he, hx⟩ := subsL_mem z
      exact ⟨e, List.mem_cons_of_mem _ he, hx⟩
theorem subs_tup {ds : List D} {x : D} (h : x ∈ subs (.tuple ds)) : x = .tuple ds ∨ ∃ d ∈ ds, x ∈ subs d := by
  unfold subs at h
  rcases List.mem_cons.mp h with z | z
  · exact .inl z
  · exact .inr (subsL_mem z)
theorem subs_lst {ds : List D} {x : D} (h : x ∈ subs (.list ds)) : x = .list ds ∨ ∃ d ∈ ds, x ∈ subs d := by
  unfold subs at h
  rcases List.mem_cons.mp h with z | z
  · exact .inl z
  · exact .inr (subsL_mem z)
theorem subs_int {i : Int} {x : D} (h : x ∈ subs (.int i)) : x = .int i := by
  unfold subs at h
  simpa using h
theorem subs_str {i : Str} {x : D} (h : x ∈ subs (.str i)) : x = .str i := by
  unfold subs at h
  simpa using h
theorem full_L {l : Ln} {x : D} (h : x ∈ subs (encL l)) (f : full x) : False := by
  rcases subs_tup h with rfl | ⟨d, hd, hx⟩
  · exact f
  · simp only [List.mem_cons, List.not_mem_nil, or_false] at hd
    rcases hd with rfl | rfl | rfl
    · rw [subs_int hx] at f; exact f
    · rw [subs_int hx] at f; exact f
    · rw [subs_str hx] at f; exact f
theorem full_W {p : Int} {ls : List Ln} {x : D} (h : x ∈ subs (encW p ls)) (f : full x) : False := by
  rcases subs_tup h with rfl | ⟨d, hd, hx⟩
  · exact f
  · simp only [List.mem_cons, List.not_mem_nil, or_false] at hd
    rcases hd with rfl | rfl
    · rw [subs_int hx] at f; exact f
    · rcases subs_tup hx with rfl | ⟨d, hd, hx⟩
      · exact f
      · obtain ⟨l, _, rfl⟩ := List.mem_map.mp hd
        exact full_L hx f
/-- a list of ints with something in it does not lie within lines told in lists and tuples -/
theorem ints_M {m : Bool × Ln} {ns : List Int} (h : PyData.list (ns.map PyData.int) ∈ subs (encM m)) : False := by
  obtain ⟨b, l⟩ := m
  have go : ∀ {x : D}, (∃ d ∈ [PyData.int l.1, .int l.2.1, .str ⟨#[l.2.2]⟩], x ∈ subs d) → ∀ ys, x ≠ .list ys := by
    rintro x ⟨d, hd, hx⟩ ys rfl
    simp only [List.mem_cons, List.not_mem_nil, or_false] at hd
    rcases hd with rfl | rfl | rfl
    · cases subs_int hx
    · cases subs_int hx
    · cases subs_str hx
  cases b with
  | true =>
    rcases subs_lst h with e | e
    · have e : ns.map PyData.int = [.int l.1, .int l.2.1, .str ⟨#[l.2.2]⟩] := PyData.list.inj e
      have m : PyData.str ⟨#[l.2.2]⟩ ∈ ns.map PyData.int := by rw [e]; simp
      obtain ⟨i, _, z⟩ := List.mem_map.mp m
      cases z
    · exact go e _ rfl
  | false =>
    rcases subs_tup h with e | e
    · cases e
    · exact go e _ rfl
theorem ints_H {c : Bool} {ms : List (Bool × Ln)} {ns : List Int} (hn : ns ≠ []) (h : PyData.list (ns.map PyData.int) ∈ subs (sq c (ms.map encM))) : False := by
  have go : (∃ d ∈ ms.map encM, PyData.list (ns.map PyData.int) ∈ subs d) → False := by
    rintro ⟨d, hd, hx⟩
    obtain ⟨m, _, rfl⟩ := List.mem_map.mp hd
    exact ints_M hx
  cases c with
  | true =>
    rcases subs_lst h with e | e
    · have e : ns.map PyData.int = ms.map encM := PyData.list.inj e
      cases ns with
      | nil => exact hn rfl
      | cons n ns =>
        cases ms with
        | nil => cases e
        | cons m ms =>
          obtain ⟨b, l⟩ := m
          cases b <;> cases (List.cons.inj e).1
    · exact go e
  | false =>
    rcases subs_tup h with e | e
    · cases e
    · exact go e
theorem lay_ints : ∀ ns : List Int, PyData.canLayAll0 (ns.map PyData.int) = true
  | [] => rfl
  | n :: ns => by
    show ((PyData.int n).canLay0 && PyData.canLayAll0 (ns.map PyData.int)) = true
    rw [lay_ints ns]
    rfl
theorem apart_ints {c : Bool} {ms : List (Bool × Ln)} (ns : List Int) : Apart (sq c (ms.map encM)) (.list (ns.map PyData.int)) := by
  intro x f h1 h2
  rcases subs_lst h2 with rfl | ⟨d, hd, hx⟩
  · refine ints_H (fun z => ?_) h1
    subst z
    exact f
  · obtain ⟨i, _, rfl⟩ := List.mem_map.mp hd
    rw [subs_int hx] at f
    exact f
theorem apart_int {d : D} (i : Int) : Apart d (.int i) := by
  intro x f _ h2
  rw [subs_int h2] at f
  exact f
theorem shw_L (c : Bool) {p : Int} {ms : List (Bool × Ln)} (hp : p < 1000) (hl : ms.length ≤ 100) (h : ∀ m ∈ ms, okL p m.2) : (sq c (ms.map encM)).canLay0 = true := by
  have hm : ∀ d ∈ ms.map encM, Shw 33 1 d := fun d hd => by
    obtain ⟨m, hm, rfl⟩ := List.mem_map.mp hd
    obtain ⟨a1, a2, a3, a4, a5⟩ := h m hm
    refine (shw_sq (w := 10) (k := 0) (ds := [.int m.2.1, .int m.2.2.1, .str ⟨#[m.2.2.2]⟩]) (fun d hd => ?_) m.1).more (by simp) (by decide)
    simp only [List.mem_cons, List.not_mem_nil, or_false] at hd
    rcases hd with rfl | rfl | rfl
    · exact shw_int a1 (by omega)
    · exact shw_int a3 (by omega)
    · exact shw_ch a5
  exact (shw_sq hm c).a
theorem dep_H (c : Bool) (ms : List (Bool × Ln)) : dep (sq c (ms.map encM)) < 20 := by
  have h1 : ∀ m : Bool × Ln, dep (encM m) ≤ 1 := by
    rintro ⟨b, l⟩
    cases b
    · exact Nat.le_of_eq rfl
    · exact Nat.le_of_eq rfl
  have h2 : depL (ms.map encM) ≤ 1 := depL_le fun d hd => by
    obtain ⟨m, _, rfl⟩ := List.mem_map.mp hd
    exact h1 m
  cases c
  · show depL (ms.map encM) + 1 < 20
    omega
  · show depL (ms.map encM) + 1 < 20
    omega
theorem lay_W {p : Int} {ls : List Ln} (h : OkW p ls) : (encW p ls).canLay0 = true := by
  show ((PyData.int p).canLay0 && (PyData.canLayAll0 (ls.map encL) && true)) = true
  rw [lay_L h.ok]
  rfl
theorem s_spoil {n i : Nat} {ks : List Nat} {δ δ' : DS} {d : D} (h : δ[i]? = some (.fz d)) (g : Good n ks d δ) (hk : keepAt ks δ = δ') : dSpoil n i ks δ = .ok .nx δ' := by
  unfold dSpoil
  rw [h]
  simp only
  rw [@decide_eq_true _ (Classical.propDecidable _) g, hk]
  rfl
theorem spoil_step {c : Bool} {p : Int} {ls : List Ln} {ms : List (Bool × Ln)} (r : Rl) (hw : OkW p ls) (hp : p < 1000) (hl : ms.length ≤ 100) (h : ∀ m ∈ ms, okL p m.2) (s0 : Sl) (x2 x5 : D) (t7 t8 t9 t10 : Sl) :
    dSpoil 20 4 [1, 3, 6] [s0, .own (.lst (encR r)), .fz x2, .fz (encW p ls), .fz (sq c (ms.map encM)), .fz x5, .fz (encW p ls), t7, t8, t9, t10] = .ok .nx [.no, .own (.lst (encR r)), .no, .fz (encW p ls), .no, .no, .fz (encW p ls), .no, .no, .no, .no] := by
  have aw : slApart (sq c (ms.map encM)) (.fz (encW p ls)) := ⟨lay_W hw, fun x f _ h2 => full_W h2 f⟩
  have ar : slApart (sq c (ms.map encM)) (.own (.lst (encR r))) := by
    refine ⟨?_, fun e he => ?_⟩
    · unfold encR
      simp only [PyData.canLayAll0, PyData.canLay0, lay_ints, Bool.and_true, Bool.and_self]
    · unfold encR at he
      simp only [List.mem_cons, List.not_mem_nil, or_false] at he
      rcases he with rfl | rfl | rfl | rfl
      · exact apart_ints _
      · exact apart_ints _
      · exact apart_int _
      · exact apart_int _
  have g : Good 20 [1, 3, 6] (sq c (ms.map encM)) [s0, .own (.lst (encR r)), .fz x2, .fz (encW p ls), .fz (sq c (ms.map encM)), .fz x5, .fz (encW p ls), t7, t8, t9, t10] := by
    refine ⟨shw_L c hp hl h, dep_H c ms, fun j hj => ?_⟩
    simp only [List.mem_cons, List.not_mem_nil, or_false] at hj
    rcases hj with rfl | rfl | rfl
    · exact ⟨_, rfl, ar⟩
    · exact ⟨_, rfl, aw⟩
    · exact ⟨_, rfl, aw⟩
  exact s_spoil rfl g rfl

abbrev scr (ns : List Int) : D := .dict [(.none, .list (ns.map PyData.int))]
noncomputable abbrev tBody : Ds := (dSeq (dAsg 3 (dCall d__law_net (aRef 1 (aVal (dC (.int 60)) aNil)))) (dSeq (dAsg 4 (dCall (d__law_dressed fuelR) (aRef 1 (aVal (dBin fIx (dVar 3) (dC (.int 1))) aNil)))) (dSeq (dAsg 5 (dUn fRepr (dVar 4))) (dSeq (dAsg 6 (dCall d_web_of (aVal (dBin fIx (dVar 3) (dC (.int 0))) (aVal (dVar 4) aNil)))) (dSeq (dIfS (dOr (dNot (dTest (dCall (d__law_alike fuelR) (aVal (dVar 6) (aVal (dVar 3) aNil))))) (dTest (dBin fNeS (dUn fRepr (dVar 4)) (dVar 5)))) (dRet (dC (.bool false))) dSkip) (dSeq (dAsg 7 (dLst (dCons (dBin fIx (dVar 3) (dC (.int 0))) (dCons (dCall (d__law_dressed fuelR) (aRef 1 (aVal (dBin fIx (dVar 3) (dC (.int 1))) aNil))) dNil)))) (dSeq (dFor (dRange1 (dCons (dBin fIx (dVar 3) (dC (.int 0))) dNil)) (gN 8) (dSeq (dAsg 9 (dCall d__law_ends (aVal (dVar 3) (aVal (dVar 8) aNil)))) (dSeq (dAsg 10 (dCall d_ends_at (aVal (dVar 7) (aVal (dVar 8) aNil)))) (dSeq (dIfS (dOr (dNot (dTest (dCall (d__law_alike fuelR) (aRef 10 (aVal (dVar 9) aNil))))) (dNot (dTest (dCall (d__law_alike fuelR) (aVal (dCall d_ends_at (aVal (dVar 3) (aVal (dVar 8) aNil))) (aVal (dVar 9) aNil)))))) (dRet (dC (.bool false))) dSkip) (dSeq (dApp 10 (dTup (dCons (dC (.int 99)) (dCons (dC (.int 0)) dNil)))) (dIfS (dNot (dTest (dCall (d__law_alike fuelR) (aVal (dCall d_ends_at (aVal (dVar 7) (aVal (dVar 8) aNil))) (aVal (dVar 9) aNil))))) (dRet (dC (.bool false))) dSkip)))))) (dSeq (dSpoil 20 4 [1, 3, 6]) (dIfS (dOr (dNot (dTest (dCall (d__law_alike fuelR) (aVal (dVar 6) (aVal (dVar 3) aNil))))) (dNot (dTest (dCall (d__law_alike fuelR) (aVal (dCall d_web_of (aVal (dBin fIx (dVar 3) (dC (.int 0))) (aVal (dBin fIx (dVar 3) (dC (.int 1))) aNil))) (aVal (dVar 3) aNil)))))) (dRet (dC (.bool false))) dSkip)))))))))
/-- what a dressed thing is as told, and as it is kept -/
def told (v : Vl) (d : D) : Prop := (∃ M, v = .own (.lst M) ∧ d = .list M) ∨ v = .fz d
theorem told_sq (c : Bool) (M : List D) : told (vsq c M) (sq c M) := by
  cases c
  · exact .inr rfl
  · exact .inl ⟨_, rfl, rfl⟩
set_option maxHeartbeats 0 in
theorem body_run (s0 s3 s6 : Sl) (hs : (s3 = .no ∧ s6 = .no) ∨ ∃ a b, s3 = .fz a ∧ s6 = .fz b) (x : D) {R0 R1 R2 R3 : List D} {W T : D} {p : Int} {v v' : Vl} {hd hd' : D} {z : Str} {t7 t8 t9 t10 : Sl} (hp1 : (-1000000 : Int) ≤ p) (hp2 : p ≤ 1000000)
    (hv : told v hd) (hv' : told v' hd') (i0 : fIx W (.int 0) = some (.fz (.int p))) (i1 : fIx W (.int 1) = some (.fz T))
    (n1 : d__law_net [.arg (.lst R0), .fz (.int 60)] = .ok (.fz W) [.arg (.lst R1), .no])
    (n2 : d__law_dressed fuelR [.arg (.lst R1), .fz T] = .ok v [.arg (.lst R2), .no])
    (n3 : fRepr hd = some (.fz (.str z)))
    (n4 : d_web_of [.fz (.int p), .fz hd] = .ok (.fz W) [.no, .no])
    (n5 : d__law_alike fuelR [.fz W, .fz W] = .ok (.fz (.bool true)) [.no, .no])
    (n6 : fNeS (.str z) (.str z) = some (.fz (.bool false)))
    (n7 : d__law_dressed fuelR [.arg (.lst R2), .fz T] = .ok v' [.arg (.lst R3), .no])
    (n8 : forL (stepB (gN 8) pBody) ((List.range p.toNat).map fun (i : Nat) => PyData.int i) [s0, .own (.lst R3), .fz x, .fz W, .fz hd, .fz (.str z), .fz W, .own (.lst [.int p, hd']), .no, .no, .no] = .ok .nx [s0, .own (.lst R3), .fz x, .fz W, .fz hd, .fz (.str z), .fz W, t7, t8, t9, t10])
    (n9 : dSpoil 20 4 [1, 3, 6] [s0, .own (.lst R3), .fz x, .fz W, .fz hd, .fz (.str z), .fz W, t7, t8, t9, t10] = .ok .nx [.no, .own (.lst R3), .no, .fz W, .no, .no, .fz W, .no, .no, .no, .no])
    (n10 : d_web_of [.fz (.int p), .fz T] = .ok (.fz W) [.no, .no]) :
    stepB (gN 2) tBody x [s0, .own (.lst R0), .no, s3, .no, .no, s6, .no, .no, .no, .no] = .ok .nx [.no, .own (.lst R3), .no, .fz W, .no, .no, .fz W, .no, .no, .no, .no] := by
  rcases hs with ⟨rfl, rfl⟩ | ⟨a, b, rfl, rfl⟩
  · rcases hv with ⟨M, rfl, rfl⟩ | rfl
    · rcases hv' with ⟨M', rfl, rfl⟩ | rfl
      · repeat' (first | exact n8 | exact n9 | (first | with_reducible apply DL.s_setI | with_reducible apply DL.s_app | with_reducible apply DL.s_ext | (with_reducible apply DL.m_arg; rfl) | (with_reducible apply DL.m_own; rfl) | (with_reducible apply DL.f_set; rfl; focus ((try simp only [List.cons_append, List.nil_append, List.replicate_succ, List.replicate_zero, Nat.reduceSub, List.set_cons_zero, List.set_cons_succ, DL.with_arg, DL.with_own, DL.wipeD, List.map_cons, List.map_nil, DL.toArg, DL.back2, DL.back2a, DL.back, DL.back1]); rfl)) | with_reducible apply DL.f_app | with_reducible apply DL.f_ext | (with_reducible apply DL.set_goal; focus ((try simp only [List.cons_append, List.nil_append, List.replicate_succ, List.replicate_zero, Nat.reduceSub, List.set_cons_zero, List.set_cons_succ, DL.with_arg, DL.with_own, DL.wipeD, List.map_cons, List.map_nil, DL.toArg, DL.back2, DL.back2a, DL.back, DL.back1]); rfl)) | with_reducible apply DL.s_seqG | with_reducible apply DL.step_b | with_reducible apply DL.k_nx | with_reducible exact DL.k_rt | with_reducible exact DL.k_ct | with_reducible exact DL.k_bk | with_reducible apply DL.s_asgG | with_reducible apply DL.s_asg | with_reducible apply DL.s_drop | with_reducible apply DL.s_ret | with_reducible apply DL.s_if | with_reducible exact DL.s_skip | (with_reducible apply DL.f_eq; (first | rfl | assumption); (first | rfl | assumption)) | (with_reducible apply DL.f_ne; (first | rfl | assumption); (first | rfl | assumption)) | with_reducible apply DL.f_addT | (with_reducible apply DL.f_ixT; assumption) | (with_reducible apply DL.f_ixL; assumption) | with_reducible apply DL.f_addL | with_reducible apply DL.s_par | with_reducible apply DL.s_for | with_reducible apply DL.i_it | with_reducible apply DL.i_r1 | with_reducible apply DL.r_lc | with_reducible apply DL.r_lc2 | with_reducible apply DL.i_enumT | with_reducible exact DL.t_yes | with_reducible apply DL.turn_e | with_reducible apply DL.g_tup | with_reducible apply DL.g_lst | with_reducible apply DL.g_cons | with_reducible exact DL.g_nil | with_reducible apply DL.g_n | (with_reducible apply DL.set_fz; rfl; focus ((try simp only [List.cons_append, List.nil_append, List.replicate_succ, List.replicate_zero, Nat.reduceSub, List.set_cons_zero, List.set_cons_succ, DL.with_arg, DL.with_own, DL.wipeD, List.map_cons, List.map_nil, DL.toArg, DL.back2, DL.back2a, DL.back, DL.back1]); rfl)) | (with_reducible apply DL.set_own; rfl; focus ((try simp only [List.cons_append, List.nil_append, List.replicate_succ, List.replicate_zero, Nat.reduceSub, List.set_cons_zero, List.set_cons_succ, DL.with_arg, DL.with_own, DL.wipeD, List.map_cons, List.map_nil, DL.toArg, DL.back2, DL.back2a, DL.back, DL.back1]); rfl)) | (with_reducible apply DL.p_t; (first | rfl | focus (simp [*]; done) | assumption)) | (with_reducible apply DL.p_f; (first | rfl | focus (simp [*]; done) | assumption)) | (with_reducible apply DL.v_fz; rfl) | (with_reducible apply DL.v_own; rfl) | (with_reducible apply DL.v_arg; rfl) | with_reducible exact DL.r_c | with_reducible apply DL.r_andB | with_reducible apply DL.r_bin | with_reducible apply DL.r_un | with_reducible apply DL.r_test | with_reducible apply DL.r_notV | with_reducible apply DL.r_and | with_reducible apply DL.r_or | with_reducible apply DL.r_not | with_reducible apply DL.r_if | with_reducible apply DL.r_chainB | with_reducible exact DL.l_nil | with_reducible apply DL.l_cons | with_reducible apply DL.r_tup | with_reducible apply DL.r_lst | with_reducible apply DL.o_some | with_reducible exact DL.o_none | with_reducible apply DL.r_sl | with_reducible exact DL.a_nil | with_reducible apply DL.a_val | with_reducible apply DL.a_ref | (with_reducible apply DL.small_of; focus (first | omega | (simp <;> omega))) | with_reducible apply DL.r_callR | with_reducible apply DL.r_call | (first | exact e_is_row_ofL _ _ | exact e_is_row_of _ _ | exact e_is_rowL _ | exact e_is_row _ | exact e_is_below _ _ | exact e_is_whole _ | assumption) | (with_reducible apply DL.f_mod; (first | assumption | omega | focus (simp; omega))) | (with_reducible apply DL.f_div; (first | assumption | omega | focus (simp; omega))) | with_reducible apply DL.f_mulI | (with_reducible apply DL.wide_lt; (first | assumption | omega | focus (simp; omega))) | rfl | (focus ((try simp only [List.cons_append, List.nil_append, List.replicate_succ, List.replicate_zero, Nat.reduceSub, List.set_cons_zero, List.set_cons_succ, DL.with_arg, DL.with_own, DL.wipeD, List.map_cons, List.map_nil, DL.toArg, DL.back2, DL.back2a, DL.back, DL.back1]); rfl); done)))
      · repeat' (first | exact n8 | exact n9 | (first | with_reducible apply DL.s_setI | with_reducible apply DL.s_app | with_reducible apply DL.s_ext | (with_reducible apply DL.m_arg; rfl) | (with_reducible apply DL.m_own; rfl) | (with_reducible apply DL.f_set; rfl; focus ((try simp only [List.cons_append, List.nil_append, List.replicate_succ, List.replicate_zero, Nat.reduceSub, List.set_cons_zero, List.set_cons_succ, DL.with_arg, DL.with_own, DL.wipeD, List.map_cons, List.map_nil, DL.toArg, DL.back2, DL.back2a, DL.back, DL.back1]); rfl)) | with_reducible apply DL.f_app | with_reducible apply DL.f_ext | (with_reducible apply DL.set_goal; focus ((try simp only [List.cons_append, List.nil_append, List.replicate_succ, List.replicate_zero, Nat.reduceSub, List.set_cons_zero, List.set_cons_succ, DL.with_arg, DL.with_own, DL.wipeD, List.map_cons, List.map_nil, DL.toArg, DL.back2, DL.back2a, DL.back, DL.back1]); rfl)) | with_reducible apply DL.s_seqG | with_reducible apply DL.step_b | with_reducible apply DL.k_nx | with_reducible exact DL.k_rt | with_reducible exact DL.k_ct | with_reducible exact DL.k_bk | with_reducible apply DL.s_asgG | with_reducible apply DL.s_asg | with_reducible apply DL.s_drop | with_reducible apply DL.s_ret | with_reducible apply DL.s_if | with_reducible exact DL.s_skip | (with_reducible apply DL.f_eq; (first | rfl | assumption); (first | rfl | assumption)) | (with_reducible apply DL.f_ne; (first | rfl | assumption); (first | rfl | assumption)) | with_reducible apply DL.f_addT | (with_reducible apply DL.f_ixT; assumption) | (with_reducible apply DL.f_ixL; assumption) | with_reducible apply DL.f_addL | with_reducible apply DL.s_par | with_reducible apply DL.s_for | with_reducible apply DL.i_it | with_reducible apply DL.i_r1 | with_reducible apply DL.r_lc | with_reducible apply DL.r_lc2 | with_reducible apply DL.i_enumT | with_reducible exact DL.t_yes | with_reducible apply DL.turn_e | with_reducible apply DL.g_tup | with_reducible apply DL.g_lst | with_reducible apply DL.g_cons | with_reducible exact DL.g_nil | with_reducible apply DL.g_n | (with_reducible apply DL.set_fz; rfl; focus ((try simp only [List.cons_append, List.nil_append, List.replicate_succ, List.replicate_zero, Nat.reduceSub, List.set_cons_zero, List.set_cons_succ, DL.with_arg, DL.with_own, DL.wipeD, List.map_cons, List.map_nil, DL.toArg, DL.back2, DL.back2a, DL.back, DL.back1]); rfl)) | (with_reducible apply DL.set_own; rfl; focus ((try simp only [List.cons_append, List.nil_append, List.replicate_succ, List.replicate_zero, Nat.reduceSub, List.set_cons_zero, List.set_cons_succ, DL.with_arg, DL.with_own, DL.wipeD, List.map_cons, List.map_nil, DL.toArg, DL.back2, DL.back2a, DL.back, DL.back1]); rfl)) | (with_reducible apply DL.p_t; (first | rfl | focus (simp [*]; done) | assumption)) | (with_reducible apply DL.p_f; (first | rfl | focus (simp [*]; done) | assumption)) | (with_reducible apply DL.v_fz; rfl) | (with_reducible apply DL.v_own; rfl) | (with_reducible apply DL.v_arg; rfl) | with_reducible exact DL.r_c | with_reducible apply DL.r_andB | with_reducible apply DL.r_bin | with_reducible apply DL.r_un | with_reducible apply DL.r_test | with_reducible apply DL.r_notV | with_reducible apply DL.r_and | with_reducible apply DL.r_or | with_reducible apply DL.r_not | with_reducible apply DL.r_if | with_reducible apply DL.r_chainB | with_reducible exact DL.l_nil | with_reducible apply DL.l_cons | with_reducible apply DL.r_tup | with_reducible apply DL.r_lst | with_reducible apply DL.o_some | with_reducible exact DL.o_none | with_reducible apply DL.r_sl | with_reducible exact DL.a_nil | with_reducible apply DL.a_val | with_reducible apply DL.a_ref | (with_reducible apply DL.small_of; focus (first | omega | (simp <;> omega))) | with_reducible apply DL.r_callR | with_reducible apply DL.r_call | (first | exact e_is_row_ofL _ _ | exact e_is_row_of _ _ | exact e_is_rowL _ | exact e_is_row _ | exact e_is_below _ _ | exact e_is_whole _ | assumption) | (with_reducible apply DL.f_mod; (first | assumption | omega | focus (simp; omega))) | (with_reducible apply DL.f_div; (first | assumption | omega | focus (simp; omega))) | with_reducible apply DL.f_mulI | (with_reducible apply DL.wide_lt; (first | assumption | omega | focus (simp; omega))) | rfl | (focus ((try simp only [List.cons_append, List.nil_append, List.replicate_succ, List.replicate_zero, Nat.reduceSub, List.set_cons_zero, List.set_cons_succ, DL.with_arg, DL.with_own, DL.wipeD, List.map_cons, List.map_nil, DL.toArg, DL.back2, DL.back2a, DL.back, DL.back1]); rfl); done)))
    · rcases hv' with ⟨M', rfl, rfl⟩ | rfl
      · repeat' (first | exact n8 | exact n9 | (first | with_reducible apply DL.s_setI | with_reducible apply DL.s_app | with_reducible apply DL.s_ext | (with_reducible apply DL.m_arg; rfl) | (with_reducible apply DL.m_own; rfl) | (with_reducible apply DL.f_set; rfl; focus ((try simp only [List.cons_append, List.nil_append, List.replicate_succ, List.replicate_zero, Nat.reduceSub, List.set_cons_zero, List.set_cons_succ, DL.with_arg, DL.with_own, DL.wipeD, List.map_cons, List.map_nil, DL.toArg, DL.back2, DL.back2a, DL.back, DL.back1]); rfl)) | with_reducible apply DL.f_app | with_reducible apply DL.f_ext | (with_reducible apply DL.set_goal; focus ((try simp only [List.cons_append, List.nil_append, List.replicate_succ, List.replicate_zero, Nat.reduceSub, List.set_cons_zero, List.set_cons_succ, DL.with_arg, DL.with_own, DL.wipeD, List.map_cons, List.map_nil, DL.toArg, DL.back2, DL.back2a, DL.back, DL.back1]); rfl)) | with_reducible apply DL.s_seqG | with_reducible apply DL.step_b | with_reducible apply DL.k_nx | with_reducible exact DL.k_rt | with_reducible exact DL.k_ct | with_reducible exact DL.k_bk | with_reducible apply DL.s_asgG | with_reducible apply DL.s_asg | with_reducible apply DL.s_drop | with_reducible apply DL.s_ret | with_reducible apply DL.s_if | with_reducible exact DL.s_skip | (with_reducible apply DL.f_eq; (first | rfl | assumption); (first | rfl | assumption)) | (with_reducible apply DL.f_ne; (first | rfl | assumption); (first | rfl | assumption)) | with_reducible apply DL.f_addT | (with_reducible apply DL.f_ixT; assumption) | (with_reducible apply DL.f_ixL; assumption) | with_reducible apply DL.f_addL | with_reducible apply DL.s_par | with_reducible apply DL.s_for | with_reducible apply DL.i_it | with_reducible apply DL.i_r1 | with_reducible apply DL.r_lc | with_reducible apply DL.r_lc2 | with_reducible apply DL.i_enumT | with_reducible exact DL.t_yes | with_reducible apply DL.turn_e | with_reducible apply DL.g_tup | with_reducible apply DL.g_lst | with_reducible apply DL.g_cons | with_reducible exact DL.g_nil | with_reducible apply DL.g_n | (with_reducible apply DL.set_fz; rfl; focus ((try simp only [List.cons_append, List.nil_append, List.replicate_succ, List.replicate_zero, Nat.reduceSub, List.set_cons_zero, List.set_cons_succ, DL.with_arg, DL.with_own, DL.wipeD, List.map_cons, List.map_nil, DL.toArg, DL.back2, DL.back2a, DL.back, DL.back1]); rfl)) | (with_reducible apply DL.set_own; rfl; focus ((try simp only [List.cons_append, List.nil_append, List.replicate_succ, List.replicate_zero, Nat.reduceSub, List.set_cons_zero, List.set_cons_succ, DL.with_arg, DL.with_own, DL.wipeD, List.map_cons, List.map_nil, DL.toArg, DL.back2, DL.back2a, DL.back, DL.back1]); rfl)) | (with_reducible apply DL.p_t; (first | rfl | focus (simp [*]; done) | assumption)) | (with_reducible apply DL.p_f; (first | rfl | focus (simp [*]; done) | assumption)) | (with_reducible apply DL.v_fz; rfl) | (with_reducible apply DL.v_own; rfl) | (with_reducible apply DL.v_arg; rfl) | with_reducible exact DL.r_c | with_reducible apply DL.r_andB | with_reducible apply DL.r_bin | with_reducible apply DL.r_un | with_reducible apply DL.r_test | with_reducible apply DL.r_notV | with_reducible apply DL.r_and | with_reducible apply DL.r_or | with_reducible apply DL.r_not | with_reducible apply DL.r_if | with_reducible apply DL.r_chainB | with_reducible exact DL.l_nil | with_reducible apply DL.l_cons | with_reducible apply DL.r_tup | with_reducible apply DL.r_lst | with_reducible apply DL.o_some | with_reducible exact DL.o_none | with_reducible apply DL.r_sl | with_reducible exact DL.a_nil | with_reducible apply DL.a_val | with_reducible apply DL.a_ref | (with_reducible apply DL.small_of; focus (first | omega | (simp <;> omega))) | with_reducible apply DL.r_callR | with_reducible apply DL.r_call | (first | exact e_is_row_ofL _ _ | exact e_is_row_of _ _ | exact e_is_rowL _ | exact e_is_row _ | exact e_is_below _ _ | exact e_is_whole _ | assumption) | (with_reducible apply DL.f_mod; (first | assumption | omega | focus (simp; omega))) | (with_reducible apply DL.f_div; (first | assumption | omega | focus (simp; omega))) | with_reducible apply DL.f_mulI | (with_reducible apply DL.wide_lt; (first | assumption | omega | focus (simp; omega))) | rfl | (focus ((try simp only [List.cons_append, List.nil_append, List.replicate_succ, List.replicate_zero, Nat.reduceSub, List.set_cons_zero, List.set_cons_succ, DL.with_arg, DL.with_own, DL.wipeD, List.map_cons, List.map_nil, DL.toArg, DL.back2, DL.back2a, DL.back, DL.back1]); rfl); done)))
      · repeat' (first | exact n8 | exact n9 | (first | with_reducible apply DL.s_setI | with_reducible apply DL.s_app | with_reducible apply DL.s_ext | (with_reducible apply DL.m_arg; rfl) | (with_reducible apply DL.m_own; rfl) | (with_reducible apply DL.f_set; rfl; focus ((try simp only [List.cons_append, List.nil_append, List.replicate_succ, List.replicate_zero, Nat.reduceSub, List.set_cons_zero, List.set_cons_succ, DL.with_arg, DL.with_own, DL.wipeD, List.map_cons, List.map_nil, DL.toArg, DL.back2, DL.back2a, DL.back, DL.back1]); rfl)) | with_reducible apply DL.f_app | with_reducible apply DL.f_ext | (with_reducible apply DL.set_goal; focus ((try simp only [List.cons_append, List.nil_append, List.replicate_succ, List.replicate_zero, Nat.reduceSub, List.set_cons_zero, List.set_cons_succ, DL.with_arg, DL.with_own, DL.wipeD, List.map_cons, List.map_nil, DL.toArg, DL.back2, DL.back2a, DL.back, DL.back1]); rfl)) | with_reducible apply DL.s_seqG | with_reducible apply DL.step_b | with_reducible apply DL.k_nx | with_reducible exact DL.k_rt | with_reducible exact DL.k_ct | with_reducible exact DL.k_bk | with_reducible apply DL.s_asgG | with_reducible apply DL.s_asg | with_reducible apply DL.s_drop | with_reducible apply DL.s_ret | with_reducible apply DL.s_if | with_reducible exact DL.s_skip | (with_reducible apply DL.f_eq; (first | rfl | assumption); (first | rfl | assumption)) | (with_reducible apply DL.f_ne; (first | rfl | assumption); (first | rfl | assumption)) | with_reducible apply DL.f_addT | (with_reducible apply DL.f_ixT; assumption) | (with_reducible apply DL.f_ixL; assumption) | with_reducible apply DL.f_addL | with_reducible apply DL.s_par | with_reducible apply DL.s_for | with_reducible apply DL.i_it | with_reducible apply DL.i_r1 | with_reducible apply DL.r_lc | with_reducible apply DL.r_lc2 | with_reducible apply DL.i_enumT | with_reducible exact DL.t_yes | with_reducible apply DL.turn_e | with_reducible apply DL.g_tup | with_reducible apply DL.g_lst | with_reducible apply DL.g_cons | with_reducible exact DL.g_nil | with_reducible apply DL.g_n | (with_reducible apply DL.set_fz; rfl; focus ((try simp only [List.cons_append, List.nil_append, List.replicate_succ, List.replicate_zero, Nat.reduceSub, List.set_cons_zero, List.set_cons_succ, DL.with_arg, DL.with_own, DL.wipeD, List.map_cons, List.map_nil, DL.toArg, DL.back2, DL.back2a, DL.back, DL.back1]); rfl)) | (with_reducible apply DL.set_own; rfl; focus ((try simp only [List.cons_append, List.nil_append, List.replicate_succ, List.replicate_zero, Nat.reduceSub, List.set_cons_zero, List.set_cons_succ, DL.with_arg, DL.with_own, DL.wipeD, List.map_cons, List.map_nil, DL.toArg, DL.back2, DL.back2a, DL.back, DL.back1]); rfl)) | (with_reducible apply DL.p_t; (first | rfl | focus (simp [*]; done) | assumption)) | (with_reducible apply DL.p_f; (first | rfl | focus (simp [*]; done) | assumption)) | (with_reducible apply DL.v_fz; rfl) | (with_reducible apply DL.v_own; rfl) | (with_reducible apply DL.v_arg; rfl) | with_reducible exact DL.r_c | with_reducible apply DL.r_andB | with_reducible apply DL.r_bin | with_reducible apply DL.r_un | with_reducible apply DL.r_test | with_reducible apply DL.r_notV | with_reducible apply DL.r_and | with_reducible apply DL.r_or | with_reducible apply DL.r_not | with_reducible apply DL.r_if | with_reducible apply DL.r_chainB | with_reducible exact DL.l_nil | with_reducible apply DL.l_cons | with_reducible apply DL.r_tup | with_reducible apply DL.r_lst | with_reducible apply DL.o_some | with_reducible exact DL.o_none | with_reducible apply DL.r_sl | with_reducible exact DL.a_nil | with_reducible apply DL.a_val | with_reducible apply DL.a_ref | (with_reducible apply DL.small_of; focus (first | omega | (simp <;> omega))) | with_reducible apply DL.r_callR | with_reducible apply DL.r_call | (first | exact e_is_row_ofL _ _ | exact e_is_row_of _ _ | exact e_is_rowL _ | exact e_is_row _ | exact e_is_below _ _ | exact e_is_whole _ | assumption) | (with_reducible apply DL.f_mod; (first | assumption | omega | focus (simp; omega))) | (with_reducible apply DL.f_div; (first | assumption | omega | focus (simp; omega))) | with_reducible apply DL.f_mulI | (with_reducible apply DL.wide_lt; (first | assumption | omega | focus (simp; omega))) | rfl | (focus ((try simp only [List.cons_append, List.nil_append, List.replicate_succ, List.replicate_zero, Nat.reduceSub, List.set_cons_zero, List.set_cons_succ, DL.with_arg, DL.with_own, DL.wipeD, List.map_cons, List.map_nil, DL.toArg, DL.back2, DL.back2a, DL.back, DL.back1]); rfl); done)))
  · rcases hv with ⟨M, rfl, rfl⟩ | rfl
    · rcases hv' with ⟨M', rfl, rfl⟩ | rfl
      · repeat' (first | exact n8 | exact n9 | (first | with_reducible apply DL.s_setI | with_reducible apply DL.s_app | with_reducible apply DL.s_ext | (with_reducible apply DL.m_arg; rfl) | (with_reducible apply DL.m_own; rfl) | (with_reducible apply DL.f_set; rfl; focus ((try simp only [List.cons_append, List.nil_append, List.replicate_succ, List.replicate_zero, Nat.reduceSub, List.set_cons_zero, List.set_cons_succ, DL.with_arg, DL.with_own, DL.wipeD, List.map_cons, List.map_nil, DL.toArg, DL.back2, DL.back2a, DL.back, DL.back1]); rfl)) | with_reducible apply DL.f_app | with_reducible apply DL.f_ext | (with_reducible apply DL.set_goal; focus ((try simp only [List.cons_append, List.nil_append, List.replicate_succ, List.replicate_zero, Nat.reduceSub, List.set_cons_zero, List.set_cons_succ, DL.with_arg, DL.with_own, DL.wipeD, List.map_cons, List.map_nil, DL.toArg, DL.back2, DL.back2a, DL.back, DL.back1]); rfl)) | with_reducible apply DL.s_seqG | with_reducible apply DL.step_b | with_reducible apply DL.k_nx | with_reducible exact DL.k_rt | with_reducible exact DL.k_ct | with_reducible exact DL.k_bk | with_reducible apply DL.s_asgG | with_reducible apply DL.s_asg | with_reducible apply DL.s_drop | with_reducible apply DL.s_ret | with_reducible apply DL.s_if | with_reducible exact DL.s_skip | (with_reducible apply DL.f_eq; (first | rfl | assumption); (first | rfl | assumption)) | (with_reducible apply DL.f_ne; (first | rfl | assumption); (first | rfl | assumption)) | with_reducible apply DL.f_addT | (with_reducible apply DL.f_ixT; assumption) | (with_reducible apply DL.f_ixL; assumption) | with_reducible apply DL.f_addL | with_reducible apply DL.s_par | with_reducible apply DL.s_for | with_reducible apply DL.i_it | with_reducible apply DL.i_r1 | with_reducible apply DL.r_lc | with_reducible apply DL.r_lc2 | with_reducible apply DL.i_enumT | with_reducible exact DL.t_yes | with_reducible apply DL.turn_e | with_reducible apply DL.g_tup | with_reducible apply DL.g_lst | with_reducible apply DL.g_cons | with_reducible exact DL.g_nil | with_reducible apply DL.g_n | (with_reducible apply DL.set_fz; rfl; focus ((try simp only [List.cons_append, List.nil_append, List.replicate_succ, List.replicate_zero, Nat.reduceSub, List.set_cons_zero, List.set_cons_succ, DL.with_arg, DL.with_own, DL.wipeD, List.map_cons, List.map_nil, DL.toArg, DL.back2, DL.back2a, DL.back, DL.back1]); rfl)) | (with_reducible apply DL.set_own; rfl; focus ((try simp only [List.cons_append, List.nil_append, List.replicate_succ, List.replicate_zero, Nat.reduceSub, List.set_cons_zero, List.set_cons_succ, DL.with_arg, DL.with_own, DL.wipeD, List.map_cons, List.map_nil, DL.toArg, DL.back2, DL.back2a, DL.back, DL.back1]); rfl)) | (with_reducible apply DL.p_t; (first | rfl | focus (simp [*]; done) | assumption)) | (with_reducible apply DL.p_f; (first | rfl | focus (simp [*]; done) | assumption)) | (with_reducible apply DL.v_fz; rfl) | (with_reducible apply DL.v_own; rfl) | (with_reducible apply DL.v_arg; rfl) | with_reducible exact DL.r_c | with_reducible apply DL.r_andB | with_reducible apply DL.r_bin | with_reducible apply DL.r_un | with_reducible apply DL.r_test | with_reducible apply DL.r_notV | with_reducible apply DL.r_and | with_reducible apply DL.r_or | with_reducible apply DL.r_not | with_reducible apply DL.r_if | with_reducible apply DL.r_chainB | with_reducible exact DL.l_nil | with_reducible apply DL.l_cons | with_reducible apply DL.r_tup | with_reducible apply DL.r_lst | with_reducible apply DL.o_some | with_reducible exact DL.o_none | with_reducible apply DL.r_sl | with_reducible exact DL.a_nil | with_reducible apply DL.a_val | with_reducible apply DL.a_ref | (with_reducible apply DL.small_of; focus (first | omega | (simp <;> omega))) | with_reducible apply DL.r_callR | with_reducible apply DL.r_call | (first | exact e_is_row_ofL _ _ | exact e_is_row_of _ _ | exact e_is_rowL _ | exact e_is_row _ | exact e_is_below _ _ | exact e_is_whole _ | assumption) | (with_reducible apply DL.f_mod; (first | assumption | omega | focus (simp; omega))) | (with_reducible apply DL.f_div; (first | assumption | omega | focus (simp; omega))) | with_reducible apply DL.f_mulI | (with_reducible apply DL.wide_lt; (first | assumption | omega | focus (simp; omega))) | rfl | (focus ((try simp only [List.cons_append, List.nil_append, List.replicate_succ, List.replicate_zero, Nat.reduceSub, List.set_cons_zero, List.set_cons_succ, DL.with_arg, DL.with_own, DL.wipeD, List.map_cons, List.map_nil, DL.toArg, DL.back2, DL.back2a, DL.back, DL.back1]); rfl); done)))
      · repeat' (first | exact n8 | exact n9 | (first | with_reducible apply DL.s_setI | with_reducible apply DL.s_app | with_reducible apply DL.s_ext | (with_reducible apply DL.m_arg; rfl) | (with_reducible apply DL.m_own; rfl) | (with_reducible apply DL.f_set; rfl; focus ((try simp only [List.cons_append, List.nil_append, List.replicate_succ, List.replicate_zero, Nat.reduceSub, List.set_cons_zero, List.set_cons_succ, DL.with_arg, DL.with_own, DL.wipeD, List.map_cons, List.map_nil, DL.toArg, DL.back2, DL.back2a, DL.back, DL.back1]); rfl)) | with_reducible apply DL.f_app | with_reducible apply DL.f_ext | (with_reducible apply DL.set_goal; focus ((try simp only [List.cons_append, List.nil_append, List.replicate_succ, List.replicate_zero, Nat.reduceSub, List.set_cons_zero, List.set_cons_succ, DL.with_arg, DL.with_own, DL.wipeD, List.map_cons, List.map_nil, DL.toArg, DL.back2, DL.back2a, DL.back, DL.back1]); rfl)) | with_reducible apply DL.s_seqG | with_reducible apply DL.step_b | with_reducible apply DL.k_nx | with_reducible exact DL.k_rt | with_reducible exact DL.k_ct | with_reducible exact DL.k_bk | with_reducible apply DL.s_asgG | with_reducible apply DL.s_asg | with_reducible apply DL.s_drop | with_reducible apply DL.s_ret | with_reducible apply DL.s_if | with_reducible exact DL.s_skip | (with_reducible apply DL.f_eq; (first | rfl | assumption); (first | rfl | assumption)) | (with_reducible apply DL.f_ne; (first | rfl | assumption); (first | rfl | assumption)) | with_reducible apply DL.f_addT | (with_reducible apply DL.f_ixT; assumption) | (with_reducible apply DL.f_ixL; assumption) | with_reducible apply DL.f_addL | with_reducible apply DL.s_par | with_reducible apply DL.s_for | with_reducible apply DL.i_it | with_reducible apply DL.i_r1 | with_reducible apply DL.r_lc | with_reducible apply DL.r_lc2 | with_reducible apply DL.i_enumT | with_reducible exact DL.t_yes | with_reducible apply DL.turn_e | with_reducible apply DL.g_tup | with_reducible apply DL.g_lst | with_reducible apply DL.g_cons | with_reducible exact DL.g_nil | with_reducible apply DL.g_n | (with_reducible apply DL.set_fz; rfl; focus ((try simp only [List.cons_append, List.nil_append, List.replicate_succ, List.replicate_zero, Nat.reduceSub, List.set_cons_zero, List.set_cons_succ, DL.with_arg, DL.with_own, DL.wipeD, List.map_cons, List.map_nil, DL.toArg, DL.back2, DL.back2a, DL.back, DL.back1]); rfl)) | (with_reducible apply DL.set_own; rfl; focus ((try simp only [List.cons_append, List.nil_append, List.replicate_succ, List.replicate_zero, Nat.reduceSub, List.set_cons_zero, List.set_cons_succ, DL.with_arg, DL.with_own, DL.wipeD, List.map_cons, List.map_nil, DL.toArg, DL.back2, DL.back2a, DL.back, DL.back1]); rfl)) | (with_reducible apply DL.p_t; (first | rfl | focus (simp [*]; done) | assumption)) | (with_reducible apply DL.p_f; (first | rfl | focus (simp [*]; done) | assumption)) | (with_reducible apply DL.v_fz; rfl) | (with_reducible apply DL.v_own; rfl) | (with_reducible apply DL.v_arg; rfl) | with_reducible exact DL.r_c | with_reducible apply DL.r_andB | with_reducible apply DL.r_bin | with_reducible apply DL.r_un | with_reducible apply DL.r_test | with_reducible apply DL.r_notV | with_reducible apply DL.r_and | with_reducible apply DL.r_or | with_reducible apply DL.r_not | with_reducible apply DL.r_if | with_reducible apply DL.r_chainB | with_reducible exact DL.l_nil | with_reducible apply DL.l_cons | with_reducible apply DL.r_tup | with_reducible apply DL.r_lst | with_reducible apply DL.o_some | with_reducible exact DL.o_none | with_reducible apply DL.r_sl | with_reducible exact DL.a_nil | with_reducible apply DL.a_val | with_reducible apply DL.a_ref | (with_reducible apply DL.small_of; focus (first | omega | (simp <;> omega))) | with_reducible apply DL.r_callR | with_reducible apply DL.r_call | (first | exact e_is_row_ofL _ _ | exact e_is_row_of _ _ | exact e_is_rowL _ | exact e_is_row _ | exact e_is_below _ _ | exact e_is_whole _ | assumption) | (with_reducible apply DL.f_mod; (first | assumption | omega | focus (simp; omega))) | (with_reducible apply DL.f_div; (first | assumption | omega | focus (simp; omega))) | with_reducible apply DL.f_mulI | (with_reducible apply DL.wide_lt; (first | assumption | omega | focus (simp; omega))) | rfl | (focus ((try simp only [List.cons_append, List.nil_append, List.replicate_succ, List.replicate_zero, Nat.reduceSub, List.set_cons_zero, List.set_cons_succ, DL.with_arg, DL.with_own, DL.wipeD, List.map_cons, List.map_nil, DL.toArg, DL.back2, DL.back2a, DL.back, DL.back1]); rfl); done)))
    · rcases hv' with ⟨M', rfl, rfl⟩ | rfl
      · repeat' (first | exact n8 | exact n9 | (first | with_reducible apply DL.s_setI | with_reducible apply DL.s_app | with_reducible apply DL.s_ext | (with_reducible apply DL.m_arg; rfl) | (with_reducible apply DL.m_own; rfl) | (with_reducible apply DL.f_set; rfl; focus ((try simp only [List.cons_append, List.nil_append, List.replicate_succ, List.replicate_zero, Nat.reduceSub, List.set_cons_zero, List.set_cons_succ, DL.with_arg, DL.with_own, DL.wipeD, List.map_cons, List.map_nil, DL.toArg, DL.back2, DL.back2a, DL.back, DL.back1]); rfl)) | with_reducible apply DL.f_app | with_reducible apply DL.f_ext | (with_reducible apply DL.set_goal; focus ((try simp only [List.cons_append, List.nil_append, List.replicate_succ, List.replicate_zero, Nat.reduceSub, List.set_cons_zero, List.set_cons_succ, DL.with_arg, DL.with_own, DL.wipeD, List.map_cons, List.map_nil, DL.toArg, DL.back2, DL.back2a, DL.back, DL.back1]); rfl)) | with_reducible apply DL.s_seqG | with_reducible apply DL.step_b | with_reducible apply DL.k_nx | with_reducible exact DL.k_rt | with_reducible exact DL.k_ct | with_reducible exact DL.k_bk | with_reducible apply DL.s_asgG | with_reducible apply DL.s_asg | with_reducible apply DL.s_drop | with_reducible apply DL.s_ret | with_reducible apply DL.s_if | with_reducible exact DL.s_skip | (with_reducible apply DL.f_eq; (first | rfl | assumption); (first | rfl | assumption)) | (with_reducible apply DL.f_ne; (first | rfl | assumption); (first | rfl | assumption)) | with_reducible apply DL.f_addT | (with_reducible apply DL.f_ixT; assumption) | (with_reducible apply DL.f_ixL; assumption) | with_reducible apply DL.f_addL | with_reducible apply DL.s_par | with_reducible apply DL.s_for | with_reducible apply DL.i_it | with_reducible apply DL.i_r1 | with_reducible apply DL.r_lc | with_reducible apply DL.r_lc2 | with_reducible apply DL.i_enumT | with_reducible exact DL.t_yes | with_reducible apply DL.turn_e | with_reducible apply DL.g_tup | with_reducible apply DL.g_lst | with_reducible apply DL.g_cons | with_reducible exact DL.g_nil | with_reducible apply DL.g_n | (with_reducible apply DL.set_fz; rfl; focus ((try simp only [List.cons_append, List.nil_append, List.replicate_succ, List.replicate_zero, Nat.reduceSub, List.set_cons_zero, List.set_cons_succ, DL.with_arg, DL.with_own, DL.wipeD, List.map_cons, List.map_nil, DL.toArg, DL.back2, DL.back2a, DL.back, DL.back1]); rfl)) | (with_reducible apply DL.set_own; rfl; focus ((try simp only [List.cons_append, List.nil_append, List.replicate_succ, List.replicate_zero, Nat.reduceSub, List.set_cons_zero, List.set_cons_succ, DL.with_arg, DL.with_own, DL.wipeD, List.map_cons, List.map_nil, DL.toArg, DL.back2, DL.back2a, DL.back, DL.back1]); rfl)) | (with_reducible apply DL.p_t; (first | rfl | focus (simp [*]; done) | assumption)) | (with_reducible apply DL.p_f; (first | rfl | focus (simp [*]; done) | assumption)) | (with_reducible apply DL.v_fz; rfl) | (with_reducible apply DL.v_own; rfl) | (with_reducible apply DL.v_arg; rfl) | with_reducible exact DL.r_c | with_reducible apply DL.r_andB | with_reducible apply DL.r_bin | with_reducible apply DL.r_un | with_reducible apply DL.r_test | with_reducible apply DL.r_notV | with_reducible apply DL.r_and | with_reducible apply DL.r_or | with_reducible apply DL.r_not | with_reducible apply DL.r_if | with_reducible apply DL.r_chainB | with_reducible exact DL.l_nil | with_reducible apply DL.l_cons | with_reducible apply DL.r_tup | with_reducible apply DL.r_lst | with_reducible apply DL.o_some | with_reducible exact DL.o_none | with_reducible apply DL.r_sl | with_reducible exact DL.a_nil | with_reducible apply DL.a_val | with_reducible apply DL.a_ref | (with_reducible apply DL.small_of; focus (first | omega | (simp <;> omega))) | with_reducible apply DL.r_callR | with_reducible apply DL.r_call | (first | exact e_is_row_ofL _ _ | exact e_is_row_of _ _ | exact e_is_rowL _ | exact e_is_row _ | exact e_is_below _ _ | exact e_is_whole _ | assumption) | (with_reducible apply DL.f_mod; (first | assumption | omega | focus (simp; omega))) | (with_reducible apply DL.f_div; (first | assumption | omega | focus (simp; omega))) | with_reducible apply DL.f_mulI | (with_reducible apply DL.wide_lt; (first | assumption | omega | focus (simp; omega))) | rfl | (focus ((try simp only [List.cons_append, List.nil_append, List.replicate_succ, List.replicate_zero, Nat.reduceSub, List.set_cons_zero, List.set_cons_succ, DL.with_arg, DL.with_own, DL.wipeD, List.map_cons, List.map_nil, DL.toArg, DL.back2, DL.back2a, DL.back, DL.back1]); rfl); done)))
      · repeat' (first | exact n8 | exact n9 | (first | with_reducible apply DL.s_setI | with_reducible apply DL.s_app | with_reducible apply DL.s_ext | (with_reducible apply DL.m_arg; rfl) | (with_reducible apply DL.m_own; rfl) | (with_reducible apply DL.f_set; rfl; focus ((try simp only [List.cons_append, List.nil_append, List.replicate_succ, List.replicate_zero, Nat.reduceSub, List.set_cons_zero, List.set_cons_succ, DL.with_arg, DL.with_own, DL.wipeD, List.map_cons, List.map_nil, DL.toArg, DL.back2, DL.back2a, DL.back, DL.back1]); rfl)) | with_reducible apply DL.f_app | with_reducible apply DL.f_ext | (with_reducible apply DL.set_goal; focus ((try simp only [List.cons_append, List.nil_append, List.replicate_succ, List.replicate_zero, Nat.reduceSub, List.set_cons_zero, List.set_cons_succ, DL.with_arg, DL.with_own, DL.wipeD, List.map_cons, List.map_nil, DL.toArg, DL.back2, DL.back2a, DL.back, DL.back1]); rfl)) | with_reducible apply DL.s_seqG | with_reducible apply DL.step_b | with_reducible apply DL.k_nx | with_reducible exact DL.k_rt | with_reducible exact DL.k_ct | with_reducible exact DL.k_bk | with_reducible apply DL.s_asgG | with_reducible apply DL.s_asg | with_reducible apply DL.s_drop | with_reducible apply DL.s_ret | with_reducible apply DL.s_if | with_reducible exact DL.s_skip | (with_reducible apply DL.f_eq; (first | rfl | assumption); (first | rfl | assumption)) | (with_reducible apply DL.f_ne; (first | rfl | assumption); (first | rfl | assumption)) | with_reducible apply DL.f_addT | (with_reducible apply DL.f_ixT; assumption) | (with_reducible apply DL.f_ixL; assumption) | with_reducible apply DL.f_addL | with_reducible apply DL.s_par | with_reducible apply DL.s_for | with_reducible apply DL.i_it | with_reducible apply DL.i_r1 | with_reducible apply DL.r_lc | with_reducible apply DL.r_lc2 | with_reducible apply DL.i_enumT | with_reducible exact DL.t_yes | with_reducible apply DL.turn_e | with_reducible apply DL.g_tup | with_reducible apply DL.g_lst | with_reducible apply DL.g_cons | with_reducible exact DL.g_nil | with_reducible apply DL.g_n | (with_reducible apply DL.set_fz; rfl; focus ((try simp only [List.cons_append, List.nil_append, List.replicate_succ, List.replicate_zero, Nat.reduceSub, List.set_cons_zero, List.set_cons_succ, DL.with_arg, DL.with_own, DL.wipeD, List.map_cons, List.map_nil, DL.toArg, DL.back2, DL.back2a, DL.back, DL.back1]); rfl)) | (with_reducible apply DL.set_own; rfl; focus ((try simp only [List.cons_append, List.nil_append, List.replicate_succ, List.replicate_zero, Nat.reduceSub, List.set_cons_zero, List.set_cons_succ, DL.with_arg, DL.with_own, DL.wipeD, List.map_cons, List.map_nil, DL.toArg, DL.back2, DL.back2a, DL.back, DL.back1]); rfl)) | (with_reducible apply DL.p_t; (first | rfl | focus (simp [*]; done) | assumption)) | (with_reducible apply DL.p_f; (first | rfl | focus (simp [*]; done) | assumption)) | (with_reducible apply DL.v_fz; rfl) | (with_reducible apply DL.v_own; rfl) | (with_reducible apply DL.v_arg; rfl) | with_reducible exact DL.r_c | with_reducible apply DL.r_andB | with_reducible apply DL.r_bin | with_reducible apply DL.r_un | with_reducible apply DL.r_test | with_reducible apply DL.r_notV | with_reducible apply DL.r_and | with_reducible apply DL.r_or | with_reducible apply DL.r_not | with_reducible apply DL.r_if | with_reducible apply DL.r_chainB | with_reducible exact DL.l_nil | with_reducible apply DL.l_cons | with_reducible apply DL.r_tup | with_reducible apply DL.r_lst | with_reducible apply DL.o_some | with_reducible exact DL.o_none | with_reducible apply DL.r_sl | with_reducible exact DL.a_nil | with_reducible apply DL.a_val | with_reducible apply DL.a_ref | (with_reducible apply DL.small_of; focus (first | omega | (simp <;> omega))) | with_reducible apply DL.r_callR | with_reducible apply DL.r_call | (first | exact e_is_row_ofL _ _ | exact e_is_row_of _ _ | exact e_is_rowL _ | exact e_is_row _ | exact e_is_below _ _ | exact e_is_whole _ | assumption) | (with_reducible apply DL.f_mod; (first | assumption | omega | focus (simp; omega))) | (with_reducible apply DL.f_div; (first | assumption | omega | focus (simp; omega))) | with_reducible apply DL.f_mulI | (with_reducible apply DL.wide_lt; (first | assumption | omega | focus (simp; omega))) | rfl | (focus ((try simp only [List.cons_append, List.nil_append, List.replicate_succ, List.replicate_zero, Nat.reduceSub, List.set_cons_zero, List.set_cons_succ, DL.with_arg, DL.with_own, DL.wipeD, List.map_cons, List.map_nil, DL.toArg, DL.back2, DL.back2a, DL.back, DL.back1]); rfl); done)))

/-- the state ahead of a turn -/
def lawP (j : Nat) (δ : DS) : Prop := ∃ (r : Rl) (s0 s3 s6 : Sl), δ = [s0, .own (.lst (encR r)), .no, s3, .no, .no, s6, .no, .no, .no, .no] ∧ RlOk (600 * j) r ∧ ((s3 = .no ∧ s6 = .no) ∨ ∃ a b, s3 = .fz a ∧ s6 = .fz b)
theorem law_step (j : Nat) (hj : j ≤ 20) (x : D) (δ : DS) (h : lawP j δ) : ∃ δ', stepB (gN 2) tBody x δ = .ok .nx δ' ∧ lawP (j + 1) δ' := by
  obtain ⟨r, s0, s3, s6, rfl, hr, hs⟩ := h
  obtain ⟨p, ls, r1, n1, h1, hw, hp, hl⟩ := e_net hr (by omega)
  obtain ⟨c, ms, r2, em, n2, h2⟩ := dr_lines 17 h1 ls (by omega) (by omega)
  obtain ⟨c', ms', r3, em', n7, h3⟩ := dr_lines 17 h2 ls (by omega) (by omega)
  have n2 : d__law_dressed fuelR [.arg (.lst (encR r1)), .fz (.tuple (ls.map encL))] = .ok (vsq c (ms.map encM)) [.arg (.lst (encR r2)), .no] := n2
  have n7 : d__law_dressed fuelR [.arg (.lst (encR r2)), .fz (.tuple (ls.map encL))] = .ok (vsq c' (ms'.map encM)) [.arg (.lst (encR r3)), .no] := n7
  have hp0 := hw.p0
  have ml : ms.length = ls.length := by rw [← em]; exact (List.length_map ..).symm
  have mok : ∀ m ∈ ms, okL p m.2 := fun m hm => hw.ok m.2 (by rw [← em]; exact List.mem_map.mpr ⟨m, hm, rfl⟩)
  have n3 := rep_L c (p := p) (ms := ms) (by omega) (by omega) mok
  have n4 := e_web_of p c ms (by rw [em]; exact hw)
  rw [em] at n4
  have cw := e_checked_web true c' p ms' (by rw [em']; exact hw)
  rw [em'] at cw
  have n5 : d__law_alike fuelR [.fz (encW p ls), .fz (encW p ls)] = .ok (.fz (.bool true)) [.no, .no] := al_web 16 hw
  have n6 : fNeS (.str (sq c (ms.map encM)).shown) (.str (sq c (ms.map encM)).shown) = some (.fz (.bool false)) := by simp [fNeS]
  have cw : d_checked_web [.fz (.list [.int p, sq c' (ms'.map encM)])] = .ok (.fz (encW p ls)) [.no] := cw
  obtain ⟨t7, t8, t9, t10, n8, _⟩ := place_all (O := [.int p, sq c' (ms'.map encM)]) hw (by omega) (by omega) cw s0 (encR r3) x (sq c (ms.map encM)) (.str (sq c (ms.map encM)).shown) (encW p ls)
  have n9 := spoil_step (c := c) r3 hw (by omega) (by omega) mok s0 x (.str (sq c (ms.map encM)).shown) t7 t8 t9 t10
  refine ⟨_, body_run s0 s3 s6 hs x (by omega) (by omega) (told_sq c _) (told_sq c' _) rfl rfl n1 n2 n3 n4 n5 n6 n7 n8 n9 (wo_plain hw), r3, _, _, _, rfl, h3.mono (by omega), .inr ⟨_, _, rfl, rfl⟩⟩
theorem law_true (ns : List Int) (h : ns.length ≤ 63) : ∃ δ, d_law [.fz (.dict [(.none, .list (ns.map PyData.int))])] = .ok (.fz (.bool true)) δ := by
  obtain ⟨r, e1, hr⟩ := e_reel ns h
  have y1 : fLen (scr ns) = some (.fz (.int ((ns.map PyData.int).length : Nat))) := rfl
  have y2 : fMin2 (.int ((ns.map PyData.int).length : Nat)) (.int 15) = some (.fz (.int (if 15 < ((ns.map PyData.int).length : Int) then 15 else ((ns.map PyData.int).length : Int)))) := rfl
  have hq : 0 ≤ (if 15 < ((ns.map PyData.int).length : Int) then 15 else ((ns.map PyData.int).length : Int)) ∧ (if 15 < ((ns.map PyData.int).length : Int) then 15 else ((ns.map PyData.int).length : Int)) ≤ 15 := by split <;> omega
  generalize (if 15 < ((ns.map PyData.int).length : Int) then 15 else ((ns.map PyData.int).length : Int)) = q at y2 hq
  obtain ⟨δ', e2, r', s0, s3, s6, rfl, _, _⟩ := for_idx (P := lawP) (f := stepB (gN 2) tBody) ((List.range (1 + q).toNat).map fun (i : Nat) => PyData.int i) 0 (fun i d hd δ hP => law_step (0 + i) (by
    have := (List.getElem?_eq_some_iff.mp hd).1
    rw [List.length_map, List.length_range] at this
    omega) d δ hP) [.fz (scr ns), .own (.lst (encR r)), .no, .no, .no, .no, .no, .no, .no, .no, .no] ⟨r, .fz (scr ns), .no, .no, rfl, by simpa using hr, .inl ⟨rfl, rfl⟩⟩
  have h1 : (-1000000 : Int) ≤ 1 + q := by omega
  have h2 : 1 + q ≤ 1000000 := by omega
  refine ⟨[.no], ?_⟩
  unfold d_law
  apply run_b rfl
  · focus ((try simp only [List.cons_append, List.nil_append, List.replicate_succ, List.replicate_zero, Nat.reduceSub, List.set_cons_zero, List.set_cons_succ, DL.with_arg, DL.with_own, DL.wipeD, List.map_cons, List.map_nil, DL.toArg, DL.back2, DL.back2a, DL.back, DL.back1]); rfl)
  · unfold sd_law
    (repeat' (first | with_reducible apply DL.s_setI | with_reducible apply DL.s_app | with_reducible apply DL.s_ext | (with_reducible apply DL.m_arg; rfl) | (with_reducible apply DL.m_own; rfl) | (with_reducible apply DL.f_set; rfl; focus ((try simp only [List.cons_append, List.nil_append, List.replicate_succ, List.replicate_zero, Nat.reduceSub, List.set_cons_zero, List.set_cons_succ, DL.with_arg, DL.with_own, DL.wipeD, List.map_cons, List.map_nil, DL.toArg, DL.back2, DL.back2a, DL.back, DL.back1]); rfl)) | with_reducible apply DL.f_app | with_reducible apply DL.f_ext | (with_reducible apply DL.set_goal; focus ((try simp only [List.cons_append, List.nil_append, List.replicate_succ, List.replicate_zero, Nat.reduceSub, List.set_cons_zero, List.set_cons_succ, DL.with_arg, DL.with_own, DL.wipeD, List.map_cons, List.map_nil, DL.toArg, DL.back2, DL.back2a, DL.back, DL.back1]); rfl)) | with_reducible apply DL.s_seqG | with_reducible apply DL.step_b | with_reducible apply DL.k_nx | with_reducible exact DL.k_rt | with_reducible exact DL.k_ct | with_reducible exact DL.k_bk | with_reducible apply DL.s_asgG | with_reducible apply DL.s_asg | with_reducible apply DL.s_drop | with_reducible apply DL.s_ret | with_reducible apply DL.s_if | with_reducible exact DL.s_skip | (with_reducible apply DL.f_eq; (first | rfl | assumption); (first | rfl | assumption)) | (with_reducible apply DL.f_ne; (first | rfl | assumption); (first | rfl | assumption)) | with_reducible apply DL.f_addT | (with_reducible apply DL.f_ixT; assumption) | (with_reducible apply DL.f_ixL; assumption) | with_reducible apply DL.f_addL | with_reducible apply DL.s_par | with_reducible apply DL.s_for | with_reducible apply DL.i_it | with_reducible apply DL.i_r1 | with_reducible apply DL.r_lc | with_reducible apply DL.r_lc2 | with_reducible apply DL.i_enumT | with_reducible exact DL.t_yes | with_reducible apply DL.turn_e | with_reducible apply DL.g_tup | with_reducible apply DL.g_lst | with_reducible apply DL.g_cons | with_reducible exact DL.g_nil | with_reducible apply DL.g_n | (with_reducible apply DL.set_fz; rfl; focus ((try simp only [List.cons_append, List.nil_append, List.replicate_succ, List.replicate_zero, Nat.reduceSub, List.set_cons_zero, List.set_cons_succ, DL.with_arg, DL.with_own, DL.wipeD, List.map_cons, List.map_nil, DL.toArg, DL.back2, DL.back2a, DL.back, DL.back1]); rfl)) | (with_reducible apply DL.set_own; rfl; focus ((try simp only [List.cons_append, List.nil_append, List.replicate_succ, List.replicate_zero, Nat.reduceSub, List.set_cons_zero, List.set_cons_succ, DL.with_arg, DL.with_own, DL.wipeD, List.map_cons, List.map_nil, DL.toArg, DL.back2, DL.back2a, DL.back, DL.back1]); rfl)) | (with_reducible apply DL.p_t; (first | rfl | focus (simp [*]; done) | assumption)) | (with_reducible apply DL.p_f; (first | rfl | focus (simp [*]; done) | assumption)) | (with_reducible apply DL.v_fz; rfl) | (with_reducible apply DL.v_own; rfl) | (with_reducible apply DL.v_arg; rfl) | with_reducible exact DL.r_c | with_reducible apply DL.r_andB | with_reducible apply DL.r_bin | with_reducible apply DL.r_un | with_reducible apply DL.r_test | with_reducible apply DL.r_notV | with_reducible apply DL.r_and | with_reducible apply DL.r_or | with_reducible apply DL.r_not | with_reducible apply DL.r_if | with_reducible apply DL.r_chainB | with_reducible exact DL.l_nil | with_reducible apply DL.l_cons | with_reducible apply DL.r_tup | with_reducible apply DL.r_lst | with_reducible apply DL.o_some | with_reducible exact DL.o_none | with_reducible apply DL.r_sl | with_reducible exact DL.a_nil | with_reducible apply DL.a_val | with_reducible apply DL.a_ref | (with_reducible apply DL.small_of; focus (first | omega | (simp <;> omega))) | with_reducible apply DL.r_callR | with_reducible apply DL.r_call | (first | exact e_is_row_ofL _ _ | exact e_is_row_of _ _ | exact e_is_rowL _ | exact e_is_row _ | exact e_is_below _ _ | exact e_is_whole _ | assumption) | (with_reducible apply DL.f_mod; (first | assumption | omega | focus (simp; omega))) | (with_reducible apply DL.f_div; (first | assumption | omega | focus (simp; omega))) | with_reducible apply DL.f_mulI | (with_reducible apply DL.wide_lt; (first | assumption | omega | focus (simp; omega))) | rfl | (focus ((try simp only [List.cons_append, List.nil_append, List.replicate_succ, List.replicate_zero, Nat.reduceSub, List.set_cons_zero, List.set_cons_succ, DL.with_arg, DL.with_own, DL.wipeD, List.map_cons, List.map_nil, DL.toArg, DL.back2, DL.back2a, DL.back, DL.back1]); rfl); done)))
  all_goals rfl

end Lk01
namespace Lk01
open PySem PySem.Spec PyProof.Rows L2 DL
theorem ok_law_fn {P : Program} {w : World} {K : PySem.W.Frag} {mg : Str → Option Value} {base : Heap} (T : Txt K mg) {f : Addr} {fd : FuncData} (F : Fun K "law" "law" s_law f fd) (c_web_of : Cal P w K mg base 4 "web_of" P_web_of d_web_of) (c_ends_at : Cal P w K mg base 6 "ends_at" P_ends_at d_ends_at) (c__law_reel : Cal P w K mg base 1 "_law_reel" P__law_reel d__law_reel) (c__law_net : Cal P w K mg base 2 "_law_net" P__law_net d__law_net) (c__law_dressed : Cal P w K mg base 22 "_law_dressed" P__law_dressed (d__law_dressed fuelR)) (c__law_spoilt : CalS P w K mg base 20 "_law_spoilt" P__law_spoilt (spoilSp K 20)) (c__law_alike : Cal P w K mg base 21 "_law_alike" P__law_alike (d__law_alike fuelR)) (c__law_ends : Cal P w K mg base 1 "_law_ends" P__law_ends d__law_ends) : FnQ P w K mg base 23 f fd ["script"] (spTop K d_law) :=
  fnq_z F sc_law fun cdv A outer s H E hg hr =>
    (pz_cons (pds_set 1 (pd_cal c__law_reel (hr.mono (by decide)) (paa_val (pd_var 0) paa_nil)) sc_law.nd) (pz_conz (pz_for PassesOwn.never (pdi_range0 T.b_range (pad_cons (pd_add pd_int (pd_min2 T.b_min (pd_len T.b_len (pd_var 0)) pd_int)) pad_nil)) (pdg_name 2 sc_law.nd) (pz_cons (pds_set 3 (pd_cal c__law_net (hr.mono (by decide)) (paa_ref 1 (paa_val pd_int paa_nil))) sc_law.nd) (pz_cons (pds_set 4 (pd_cal c__law_dressed (hr.mono (by decide)) (paa_ref 1 (paa_val (pd_ix (pd_var 3) pd_int) paa_nil))) sc_law.nd) (pz_cons (pds_set 5 (pd_repr T.b_repr hg hr (pd_var 4)) sc_law.nd) (pz_cons (pds_set 6 (pd_cal c_web_of (hr.mono (by decide)) (paa_val (pd_ix (pd_var 3) pd_int) (paa_val (pd_var 4) paa_nil))) sc_law.nd) (pz_cons (pds_if (PW.pt (ptd_or (ptd_not (pdt_val (pd_cal c__law_alike (hr.mono (by decide)) (paa_val (pd_var 6) (paa_val (pd_var 3) paa_nil))))) (pw_or1 (ptd_neS (pd_repr T.b_repr hg hr (pd_var 4)) (pd_var 5))))) (pds_one (pds_ret pd_bl)) pds_nil) (pz_cons (pds_set 7 (pd_lst (pad_cons (pd_ix (pd_var 3) pd_int) (pad_cons (pd_cal c__law_dressed (hr.mono (by decide)) (paa_ref 1 (paa_val (pd_ix (pd_var 3) pd_int) paa_nil))) pad_nil))) sc_law.nd) (pz_cons (pds_for PassesOwn.never (pdi_range1 T.b_range (pad_cons (pd_ix (pd_var 3) pd_int) pad_nil)) (pdg_name 8 sc_law.nd) (pds_cons (pds_set 9 (pd_cal c__law_ends (hr.mono (by decide)) (paa_val (pd_var 3) (paa_val (pd_var 8) paa_nil))) sc_law.nd) (pds_cons (pds_set 10 (pd_cal c_ends_at (hr.mono (by decide)) (paa_val (pd_var 7) (paa_val (pd_var 8) paa_nil))) sc_law.nd) (pds_cons (pds_if (PW.pt (ptd_or (ptd_not (pdt_val (pd_cal c__law_alike (hr.mono (by decide)) (paa_ref 10 (paa_val (pd_var 9) paa_nil))))) (pw_or1 (ptd_not (pdt_val (pd_cal c__law_alike (hr.mono (by decide)) (paa_val (pd_cal c_ends_at (hr.mono (by decide)) (paa_val (pd_var 3) (paa_val (pd_var 8) paa_nil))) (paa_val (pd_var 9) paa_nil)))))))) (pds_one (pds_ret pd_bl)) pds_nil) (pds_cons (pds_app 10 (pd_tup (pad_cons pd_int (pad_cons pd_int pad_nil)))) (pds_one (pds_if (ptd_not (pdt_val (pd_cal c__law_alike (hr.mono (by decide)) (paa_val (pd_cal c_ends_at (hr.mono (by decide)) (paa_val (pd_var 7) (paa_val (pd_var 8) paa_nil))) (paa_val (pd_var 9) paa_nil))))) (pds_one (pds_ret pd_bl)) pds_nil))))))) (pz_conz (pz_spoil 20 4 [1, 3, 6] c__law_spoilt (hr.mono (by decide))) (pz_one (psz (pds_if (PW.pt (ptd_or (ptd_not (pdt_val (pd_cal c__law_alike (hr.mono (by decide)) (paa_val (pd_var 6) (paa_val (pd_var 3) paa_nil))))) (pw_or1 (ptd_not (pdt_val (pd_cal c__law_alike (hr.mono (by decide)) (paa_val (pd_cal c_web_of (hr.mono (by decide)) (paa_val (pd_ix (pd_var 3) pd_int) (paa_val (pd_ix (pd_var 3) pd_int) paa_nil))) (paa_val (pd_var 3) paa_nil)))))))) (pds_one (pds_ret pd_bl)) pds_nil)))))))))))) (pz_one (psz (pds_ret pd_bl)))))
theorem all_mk {l : PySem.W.OpenLaw} {w : World} {K : PySem.W.Frag} {h : Heap} {mg : Str → Option Value} {fa : Addr} (X : K.In h) (G : h.Ns mainGlobals mg) (hfa : mg "law" = some (.ref fa))
    {od0 an0 : Option Addr} {sl0 : Array (Option Value)} {oc0 kV0 dc0 pm0 cd0 ct0 : Value} {f0 : Addr} {od1 an1 : Option Addr} {sl1 : Array (Option Value)} {oc1 kV1 dc1 pm1 cd1 ct1 : Value} {f1 : Addr} {od2 an2 : Option Addr} {sl2 : Array (Option Value)} {oc2 kV2 dc2 pm2 cd2 ct2 : Value} {f2 : Addr} {od3 an3 : Option Addr} {sl3 : Array (Option Value)} {oc3 kV3 dc3 pm3 cd3 ct3 : Value} {f3 : Addr} {od4 an4 : Option Addr} {sl4 : Array (Option Value)} {oc4 kV4 dc4 pm4 cd4 ct4 : Value} {f4 : Addr} {od5 an5 : Option Addr} {sl5 : Array (Option Value)} {oc5 kV5 dc5 pm5 cd5 ct5 : Value} {f5 : Addr} {od6 an6 : Option Addr} {sl6 : Array (Option Value)} {oc6 kV6 dc6 pm6 cd6 ct6 : Value} {f6 : Addr} {od7 an7 : Option Addr} {sl7 : Array (Option Value)} {oc7 kV7 dc7 pm7 cd7 ct7 : Value} {f7 : Addr} {od8 an8 : Option Addr} {sl8 : Array (Option Value)} {oc8 kV8 dc8 pm8 cd8 ct8 : Value} {f8 : Addr} {od9 an9 : Option Addr} {sl9 : Array (Option Value)} {oc9 kV9 dc9 pm9 cd9 ct9 : Value} {f9 : Addr} {od10 an10 : Option Addr} {sl10 : Array (Option Value)} {oc10 kV10 dc10 pm10 cd10 ct10 : Value} {f10 : Addr} {od11 an11 : Option Addr} {sl11 : Array (Option Value)} {oc11 kV11 dc11 pm11 cd11 ct11 : Value} {f11 : Addr} {od12 an12 : Option Addr} {sl12 : Array (Option Value)} {oc12 kV12 dc12 pm12 cd12 ct12 : Value} {f12 : Addr} {od13 an13 : Option Addr} {sl13 : Array (Option Value)} {oc13 kV13 dc13 pm13 cd13 ct13 : Value} {f13 : Addr} {od14 an14 : Option Addr} {sl14 : Array (Option Value)} {oc14 kV14 dc14 pm14 cd14 ct14 : Value} {f14 : Addr} {od15 an15 : Option Addr} {sl15 : Array (Option Value)} {oc15 kV15 dc15 pm15 cd15 ct15 : Value} {f15 : Addr} {od16 an16 : Option Addr} {sl16 : Array (Option Value)} {oc16 kV16 dc16 pm16 cd16 ct16 : Value} {f16 : Addr} {od17 an17 : Option Addr} {sl17 : Array (Option Value)} {oc17 kV17 dc17 pm17 cd17 ct17 : Value} {f17 : Addr} {od18 an18 : Option Addr} {sl18 : Array (Option Value)} {oc18 kV18 dc18 pm18 cd18 ct18 : Value} {f18 : Addr}
        (a0 : PySem.W.nsIn K mainGlobals "is_whole" = some (some (.ref f0))) (l0 : K.lookup f0 = some ⟨oc0, od0, .func (PySem.W.fnOf "is_whole" "is_whole" (defArgs s_is_whole) (defBody s_is_whole) (defScope s_is_whole) .none kV0 dc0 pm0 an0 cd0 ct0), sl0⟩) (c0 : PySem.W.codeIn K cd0 "is_whole" = true) (k0 : PySem.W.keepIn K (.ref f0) = true)
    (a1 : PySem.W.nsIn K mainGlobals "is_below" = some (some (.ref f1))) (l1 : K.lookup f1 = some ⟨oc1, od1, .func (PySem.W.fnOf "is_below" "is_below" (defArgs s_is_below) (defBody s_is_below) (defScope s_is_below) .none kV1 dc1 pm1 an1 cd1 ct1), sl1⟩) (c1 : PySem.W.codeIn K cd1 "is_below" = true) (k1 : PySem.W.keepIn K (.ref f1) = true)
    (a2 : PySem.W.nsIn K mainGlobals "is_row" = some (some (.ref f2))) (l2 : K.lookup f2 = some ⟨oc2, od2, .func (PySem.W.fnOf "is_row" "is_row" (defArgs s_is_row) (defBody s_is_row) (defScope s_is_row) .none kV2 dc2 pm2 an2 cd2 ct2), sl2⟩) (c2 : PySem.W.codeIn K cd2 "is_row" = true) (k2 : PySem.W.keepIn K (.ref f2) = true)
    (a3 : PySem.W.nsIn K mainGlobals "is_row_of" = some (some (.ref f3))) (l3 : K.lookup f3 = some ⟨oc3, od3, .func (PySem.W.fnOf "is_row_of" "is_row_of" (defArgs s_is_row_of) (defBody s_is_row_of) (defScope s_is_row_of) .none kV3 dc3 pm3 an3 cd3 ct3), sl3⟩) (c3 : PySem.W.codeIn K cd3 "is_row_of" = true) (k3 : PySem.W.keepIn K (.ref f3) = true)
    (a4 : PySem.W.nsIn K mainGlobals "is_company" = some (some (.ref f4))) (l4 : K.lookup f4 = some ⟨oc4, od4, .func (PySem.W.fnOf "is_company" "is_company" (defArgs s_is_company) (defBody s_is_company) (defScope s_is_company) .none kV4 dc4 pm4 an4 cd4 ct4), sl4⟩) (c4 : PySem.W.codeIn K cd4 "is_company" = true) (k4 : PySem.W.keepIn K (.ref f4) = true)
    (a5 : PySem.W.nsIn K mainGlobals "is_line" = some (some (.ref f5))) (l5 : K.lookup f5 = some ⟨oc5, od5, .func (PySem.W.fnOf "is_line" "is_line" (defArgs s_is_line) (defBody s_is_line) (defScope s_is_line) .none kV5 dc5 pm5 an5 cd5 ct5), sl5⟩) (c5 : PySem.W.codeIn K cd5 "is_line" = true) (k5 : PySem.W.keepIn K (.ref f5) = true)
    (a6 : PySem.W.nsIn K mainGlobals "web_of" = some (some (.ref f6))) (l6 : K.lookup f6 = some ⟨oc6, od6, .func (PySem.W.fnOf "web_of" "web_of" (defArgs s_web_of) (defBody s_web_of) (defScope s_web_of) .none kV6 dc6 pm6 an6 cd6 ct6), sl6⟩) (c6 : PySem.W.codeIn K cd6 "web_of" = true) (k6 : PySem.W.keepIn K (.ref f6) = true)
    (a7 : PySem.W.nsIn K mainGlobals "checked_web" = some (some (.ref f7))) (l7 : K.lookup f7 = some ⟨oc7, od7, .func (PySem.W.fnOf "checked_web" "checked_web" (defArgs s_checked_web) (defBody s_checked_web) (defScope s_checked_web) .none kV7 dc7 pm7 an7 cd7 ct7), sl7⟩) (c7 : PySem.W.codeIn K cd7 "checked_web" = true) (k7 : PySem.W.keepIn K (.ref f7) = true)
    (a8 : PySem.W.nsIn K mainGlobals "check_place" = some (some (.ref f8))) (l8 : K.lookup f8 = some ⟨oc8, od8, .func (PySem.W.fnOf "check_place" "check_place" (defArgs s_check_place) (defBody s_check_place) (defScope s_check_place) .none kV8 dc8 pm8 an8 cd8 ct8), sl8⟩) (c8 : PySem.W.codeIn K cd8 "check_place" = true) (k8 : PySem.W.keepIn K (.ref f8) = true)
    (a9 : PySem.W.nsIn K mainGlobals "ends_of" = some (some (.ref f9))) (l9 : K.lookup f9 = some ⟨oc9, od9, .func (PySem.W.fnOf "ends_of" "ends_of" (defArgs s_ends_of) (defBody s_ends_of) (defScope s_ends_of) .none kV9 dc9 pm9 an9 cd9 ct9), sl9⟩) (c9 : PySem.W.codeIn K cd9 "ends_of" = true) (k9 : PySem.W.keepIn K (.ref f9) = true)
    (a10 : PySem.W.nsIn K mainGlobals "ends_at" = some (some (.ref f10))) (l10 : K.lookup f10 = some ⟨oc10, od10, .func (PySem.W.fnOf "ends_at" "ends_at" (defArgs s_ends_at) (defBody s_ends_at) (defScope s_ends_at) .none kV10 dc10 pm10 an10 cd10 ct10), sl10⟩) (c10 : PySem.W.codeIn K cd10 "ends_at" = true) (k10 : PySem.W.keepIn K (.ref f10) = true)
    (a11 : PySem.W.nsIn K mainGlobals "_law_reel" = some (some (.ref f11))) (l11 : K.lookup f11 = some ⟨oc11, od11, .func (PySem.W.fnOf "_law_reel" "_law_reel" (defArgs s__law_reel) (defBody s__law_reel) (defScope s__law_reel) .none kV11 dc11 pm11 an11 cd11 ct11), sl11⟩) (c11 : PySem.W.codeIn K cd11 "_law_reel" = true) (k11 : PySem.W.keepIn K (.ref f11) = true)
    (a12 : PySem.W.nsIn K mainGlobals "_law_draw" = some (some (.ref f12))) (l12 : K.lookup f12 = some ⟨oc12, od12, .func (PySem.W.fnOf "_law_draw" "_law_draw" (defArgs s__law_draw) (defBody s__law_draw) (defScope s__law_draw) .none kV12 dc12 pm12 an12 cd12 ct12), sl12⟩) (c12 : PySem.W.codeIn K cd12 "_law_draw" = true) (k12 : PySem.W.keepIn K (.ref f12) = true)
    (a13 : PySem.W.nsIn K mainGlobals "_law_net" = some (some (.ref f13))) (l13 : K.lookup f13 = some ⟨oc13, od13, .func (PySem.W.fnOf "_law_net" "_law_net" (defArgs s__law_net) (defBody s__law_net) (defScope s__law_net) .none kV13 dc13 pm13 an13 cd13 ct13), sl13⟩) (c13 : PySem.W.codeIn K cd13 "_law_net" = true) (k13 : PySem.W.keepIn K (.ref f13) = true)
    (a14 : PySem.W.nsIn K mainGlobals "_law_dressed" = some (some (.ref f14))) (l14 : K.lookup f14 = some ⟨oc14, od14, .func (PySem.W.fnOf "_law_dressed" "_law_dressed" (defArgs s__law_dressed) (defBody s__law_dressed) (defScope s__law_dressed) .none kV14 dc14 pm14 an14 cd14 ct14), sl14⟩) (c14 : PySem.W.codeIn K cd14 "_law_dressed" = true) (k14 : PySem.W.keepIn K (.ref f14) = true)
    (a15 : PySem.W.nsIn K mainGlobals "_law_spoilt" = some (some (.ref f15))) (l15 : K.lookup f15 = some ⟨oc15, od15, .func (PySem.W.fnOf "_law_spoilt" "_law_spoilt" (defArgs s__law_spoilt) (defBody s__law_spoilt) (defScope s__law_spoilt) .none kV15 dc15 pm15 an15 cd15 ct15), sl15⟩) (c15 : PySem.W.codeIn K cd15 "_law_spoilt" = true) (k15 : PySem.W.keepIn K (.ref f15) = true)
    (a16 : PySem.W.nsIn K mainGlobals "_law_alike" = some (some (.ref f16))) (l16 : K.lookup f16 = some ⟨oc16, od16, .func (PySem.W.fnOf "_law_alike" "_law_alike" (defArgs s__law_alike) (defBody s__law_alike) (defScope s__law_alike) .none kV16 dc16 pm16 an16 cd16 ct16), sl16⟩) (c16 : PySem.W.codeIn K cd16 "_law_alike" = true) (k16 : PySem.W.keepIn K (.ref f16) = true)
    (a17 : PySem.W.nsIn K mainGlobals "_law_ends" = some (some (.ref f17))) (l17 : K.lookup f17 = some ⟨oc17, od17, .func (PySem.W.fnOf "_law_ends" "_law_ends" (defArgs s__law_ends) (defBody s__law_ends) (defScope s__law_ends) .none kV17 dc17 pm17 an17 cd17 ct17), sl17⟩) (c17 : PySem.W.codeIn K cd17 "_law_ends" = true) (k17 : PySem.W.keepIn K (.ref f17) = true)
    (a18 : PySem.W.nsIn K mainGlobals "law" = some (some (.ref f18))) (l18 : K.lookup f18 = some ⟨oc18, od18, .func (PySem.W.fnOf "law" "law" (defArgs s_law) (defBody s_law) (defScope s_law) .none kV18 dc18 pm18 an18 cd18 ct18), sl18⟩) (c18 : PySem.W.codeIn K cd18 "law" = true) (k18 : PySem.W.keepIn K (.ref f18) = true)
    (z_bool : PySem.W.nsIn K mainGlobals "bool" = some none) (z_enumerate : PySem.W.nsIn K mainGlobals "enumerate" = some none) (z_int : PySem.W.nsIn K mainGlobals "int" = some none) (z_isinstance : PySem.W.nsIn K mainGlobals "isinstance" = some none) (z_len : PySem.W.nsIn K mainGlobals "len" = some none) (z_list : PySem.W.nsIn K mainGlobals "list" = some none) (z_max : PySem.W.nsIn K mainGlobals "max" = some none) (z_min : PySem.W.nsIn K mainGlobals "min" = some none) (z_range : PySem.W.nsIn K mainGlobals "range" = some none) (z_repr : PySem.W.nsIn K mainGlobals "repr" = some none) (z_str : PySem.W.nsIn K mainGlobals "str" = some none) (z_tuple : PySem.W.nsIn K mainGlobals "tuple" = some none) :
    ∃ fd : FuncData, (∀ (s : Shared) (v : Value), BindsTo s fd ⟨[v], []⟩ [("script", v)]) ∧ ∀ base : Heap, K.In base → base.Ns mainGlobals mg → FnQ l.prog w K mg base 23 fa fd ["script"] (spTop K d_law) := by
  have e := hfa.symm.trans (PySem.W.mg_of X G a18)
  cases e
  have D0 : Dfn K mg "is_whole" s_is_whole P_is_whole := ⟨f0, _, fun_mk (st := s_is_whole) l0 c0 k0, PySem.W.mg_of X G a0, k0, (fun_mk (st := s_is_whole) l0 c0 k0).binds (ps := P_is_whole) fun _ _ _ _ _ _ us hl => match us, hl with | [_], _ => rfl⟩
  have D1 : Dfn K mg "is_below" s_is_below P_is_below := ⟨f1, _, fun_mk (st := s_is_below) l1 c1 k1, PySem.W.mg_of X G a1, k1, (fun_mk (st := s_is_below) l1 c1 k1).binds (ps := P_is_below) fun _ _ _ _ _ _ us hl => match us, hl with | [_, _], _ => rfl⟩
  have D2 : Dfn K mg "is_row" s_is_row P_is_row := ⟨f2, _, fun_mk (st := s_is_row) l2 c2 k2, PySem.W.mg_of X G a2, k2, (fun_mk (st := s_is_row) l2 c2 k2).binds (ps := P_is_row) fun _ _ _ _ _ _ us hl => match us, hl with | [_], _ => rfl⟩
  have D3 : Dfn K mg "is_row_of" s_is_row_of P_is_row_of := ⟨f3, _, fun_mk (st := s_is_row_of) l3 c3 k3, PySem.W.mg_of X G a3, k3, (fun_mk (st := s_is_row_of) l3 c3 k3).binds (ps := P_is_row_of) fun _ _ _ _ _ _ us hl => match us, hl with | [_, _], _ => rfl⟩
  have D4 : Dfn K mg "is_company" s_is_company P_is_company := ⟨f4, _, fun_mk (st := s_is_company) l4 c4 k4, PySem.W.mg_of X G a4, k4, (fun_mk (st := s_is_company) l4 c4 k4).binds (ps := P_is_company) fun _ _ _ _ _ _ us hl => match us, hl with | [_], _ => rfl⟩
  have D5 : Dfn K mg "is_line" s_is_line P_is_line := ⟨f5, _, fun_mk (st := s_is_line) l5 c5 k5, PySem.W.mg_of X G a5, k5, (fun_mk (st := s_is_line) l5 c5 k5).binds (ps := P_is_line) fun _ _ _ _ _ _ us hl => match us, hl with | [_, _], _ => rfl⟩
  have D6 : Dfn K mg "web_of" s_web_of P_web_of := ⟨f6, _, fun_mk (st := s_web_of) l6 c6 k6, PySem.W.mg_of X G a6, k6, (fun_mk (st := s_web_of) l6 c6 k6).binds (ps := P_web_of) fun _ _ _ _ _ _ us hl => match us, hl with | [_, _], _ => rfl⟩
  have D7 : Dfn K mg "checked_web" s_checked_web P_checked_web := ⟨f7, _, fun_mk (st := s_checked_web) l7 c7 k7, PySem.W.mg_of X G a7, k7, (fun_mk (st := s_checked_web) l7 c7 k7).binds (ps := P_checked_web) fun _ _ _ _ _ _ us hl => match us, hl with | [_], _ => rfl⟩
  have D8 : Dfn K mg "check_place" s_check_place P_check_place := ⟨f8, _, fun_mk (st := s_check_place) l8 c8 k8, PySem.W.mg_of X G a8, k8, (fun_mk (st := s_check_place) l8 c8 k8).binds (ps := P_check_place) fun _ _ _ _ _ _ us hl => match us, hl with | [_, _], _ => rfl⟩
  have D9 : Dfn K mg "ends_of" s_ends_of P_ends_of := ⟨f9, _, fun_mk (st := s_ends_of) l9 c9 k9, PySem.W.mg_of X G a9, k9, (fun_mk (st := s_ends_of) l9 c9 k9).binds (ps := P_ends_of) fun _ _ _ _ _ _ us hl => match us, hl with | [_, _], _ => rfl⟩
  have D10 : Dfn K mg "ends_at" s_ends_at P_ends_at := ⟨f10, _, fun_mk (st := s_ends_at) l10 c10 k10, PySem.W.mg_of X G a10, k10, (fun_mk (st := s_ends_at) l10 c10 k10).binds (ps := P_ends_at) fun _ _ _ _ _ _ us hl => match us, hl with | [_, _], _ => rfl⟩
  have D11 : Dfn K mg "_law_reel" s__law_reel P__law_reel := ⟨f11, _, fun_mk (st := s__law_reel) l11 c11 k11, PySem.W.mg_of X G a11, k11, (fun_mk (st := s__law_reel) l11 c11 k11).binds (ps := P__law_reel) fun _ _ _ _ _ _ us hl => match us, hl with | [_], _ => rfl⟩
  have D12 : Dfn K mg "_law_draw" s__law_draw P__law_draw := ⟨f12, _, fun_mk (st := s__law_draw) l12 c12 k12, PySem.W.mg_of X G a12, k12, (fun_mk (st := s__law_draw) l12 c12 k12).binds (ps := P__law_draw) fun _ _ _ _ _ _ us hl => match us, hl with | [_, _], _ => rfl⟩
  have D13 : Dfn K mg "_law_net" s__law_net P__law_net := ⟨f13, _, fun_mk (st := s__law_net) l13 c13 k13, PySem.W.mg_of X G a13, k13, (fun_mk (st := s__law_net) l13 c13 k13).binds (ps := P__law_net) fun _ _ _ _ _ _ us hl => match us, hl with | [_, _], _ => rfl⟩
  have D14 : Dfn K mg "_law_dressed" s__law_dressed P__law_dressed := ⟨f14, _, fun_mk (st := s__law_dressed) l14 c14 k14, PySem.W.mg_of X G a14, k14, (fun_mk (st := s__law_dressed) l14 c14 k14).binds (ps := P__law_dressed) fun _ _ _ _ _ _ us hl => match us, hl with | [_, _], _ => rfl⟩
  have D15 : Dfn K mg "_law_spoilt" s__law_spoilt P__law_spoilt := ⟨f15, _, fun_mk (st := s__law_spoilt) l15 c15 k15, PySem.W.mg_of X G a15, k15, (fun_mk (st := s__law_spoilt) l15 c15 k15).binds (ps := P__law_spoilt) fun _ _ _ _ _ _ us hl => match us, hl with | [_], _ => rfl⟩
  have D16 : Dfn K mg "_law_alike" s__law_alike P__law_alike := ⟨f16, _, fun_mk (st := s__law_alike) l16 c16 k16, PySem.W.mg_of X G a16, k16, (fun_mk (st := s__law_alike) l16 c16 k16).binds (ps := P__law_alike) fun _ _ _ _ _ _ us hl => match us, hl with | [_, _], _ => rfl⟩
  have D17 : Dfn K mg "_law_ends" s__law_ends P__law_ends := ⟨f17, _, fun_mk (st := s__law_ends) l17 c17 k17, PySem.W.mg_of X G a17, k17, (fun_mk (st := s__law_ends) l17 c17 k17).binds (ps := P__law_ends) fun _ _ _ _ _ _ us hl => match us, hl with | [_, _], _ => rfl⟩
  have T : Txt K mg := ⟨PySem.W.mg_none_of X G z_bool, PySem.W.mg_none_of X G z_enumerate, PySem.W.mg_none_of X G z_int, PySem.W.mg_none_of X G z_isinstance, PySem.W.mg_none_of X G z_len, PySem.W.mg_none_of X G z_list, PySem.W.mg_none_of X G z_max, PySem.W.mg_none_of X G z_min, PySem.W.mg_none_of X G z_range, PySem.W.mg_none_of X G z_repr, PySem.W.mg_none_of X G z_str, PySem.W.mg_none_of X G z_tuple⟩
  refine ⟨PySem.W.fnOf "law" "law" (defArgs s_law) (defBody s_law) (defScope s_law) .none kV18 dc18 pm18 an18 cd18 ct18, fun s v => .of_eq rfl, fun base _ _ => ?_⟩
  have c_is_whole := ok_is_whole (P := l.prog) (w := w) (base := base) T D0 
  have c_is_below := ok_is_below (P := l.prog) (w := w) (base := base) T D1 c_is_whole
  have c_is_row := ok_is_row (P := l.prog) (w := w) (base := base) T D2 
  have c_is_row_of := ok_is_row_of (P := l.prog) (w := w) (base := base) T D3 c_is_row
  have c_is_company := ok_is_company (P := l.prog) (w := w) (base := base) T D4 
  have c_is_line := ok_is_line (P := l.prog) (w := w) (base := base) T D5 c_is_below c_is_row_of c_is_company
  have c_web_of := ok_web_of (P := l.prog) (w := w) (base := base) T D6 c_is_whole c_is_row c_is_line
  have c_checked_web := ok_checked_web (P := l.prog) (w := w) (base := base) T D7 c_is_row_of c_web_of
  have c_check_place := ok_check_place (P := l.prog) (w := w) (base := base) T D8 c_is_below
  have c_ends_of := ok_ends_of (P := l.prog) (w := w) (base := base) T D9 
  have c_ends_at := ok_ends_at (P := l.prog) (w := w) (base := base) T D10 c_checked_web c_check_place c_ends_of
  have c__law_reel := ok__law_reel (P := l.prog) (w := w) (base := base) T D11 
  have c__law_draw := ok__law_draw (P := l.prog) (w := w) (base := base) T D12 
  have c__law_net := ok__law_net (P := l.prog) (w := w) (base := base) T D13 c__law_draw
  have c__law_dressed := okR__law_dressed (P := l.prog) (w := w) (base := base) T D14 c__law_draw
  have c__law_spoilt := ok__law_spoilt (P := l.prog) (w := w) (base := base) T D15  20
  have c__law_alike := okR__law_alike (P := l.prog) (w := w) (base := base) T D16 
  have c__law_ends := ok__law_ends (P := l.prog) (w := w) (base := base) T D17 
  exact ok_law_fn T (fun_mk (st := s_law) l18 c18 k18) c_web_of c_ends_at c__law_reel c__law_net c__law_dressed c__law_spoilt c__law_alike c__law_ends
end Lk01
open PySem PySem.W PyProof.Rows in
set_option maxRecDepth 100000 in
set_option maxHeartbeats 0 in
theorem PySem.Challenge.cw_changeride_k01_webs_told_holds : PySem.Challenge.rw_changeride_k01_webs_told.Holds := by
  w_on; o_law; k_head; (case hw => w_witness2)
  k_fill
  refine DL.walk_q (l := PySem.Challenge.rw_changeride_k01_webs_told) (n := 63) (k := 23) (x := "script") (sp := fun w => DL.spTop _ Lk01.d_law) rfl (by decide) rfl ⟨rfl, by decide, by decide⟩ (fun w h Y => PySem.W.kIn_of Y) ?F (fun w H a ns hl only hS => ⟨a, ns, rfl, only, hS, Lk01.law_true ns hl, fun _ => rfl⟩)
  case F =>
    intro w mg fa h KX G hmg
    refine' Lk01.all_mk KX G hmg ?a0 ?l0 ?c0 ?k0 ?a1 ?l1 ?c1 ?k1 ?a2 ?l2 ?c2 ?k2 ?a3 ?l3 ?c3 ?k3 ?a4 ?l4 ?c4 ?k4 ?a5 ?l5 ?c5 ?k5 ?a6 ?l6 ?c6 ?k6 ?a7 ?l7 ?c7 ?k7 ?a8 ?l8 ?c8 ?k8 ?a9 ?l9 ?c9 ?k9 ?a10 ?l10 ?c10 ?k10 ?a11 ?l11 ?c11 ?k11 ?a12 ?l12 ?c12 ?k12 ?a13 ?l13 ?c13 ?k13 ?a14 ?l14 ?c14 ?k14 ?a15 ?l15 ?c15 ?k15 ?a16 ?l16 ?c16 ?k16 ?a17 ?l17 ?c17 ?k17 ?a18 ?l18 ?c18 ?k18 ?z_bool ?z_enumerate ?z_int ?z_isinstance ?z_len ?z_list ?z_max ?z_min ?z_range ?z_repr ?z_str ?z_tuple
    (case a0 => k_is)
    (case l0 => k_is)
    (case c0 => k_is)
    (case k0 => k_is)
    (case a1 => k_is)
    (case l1 => k_is)
    (case c1 => k_is)
    (case k1 => k_is)
    (case a2 => k_is)
    (case l2 => k_is)
    (case c2 => k_is)
    (case k2 => k_is)
    (case a3 => k_is)
    (case l3 => k_is)
    (case c3 => k_is)
    (case k3 => k_is)
    (case a4 => k_is)
    (case l4 => k_is)
    (case c4 => k_is)
    (case k4 => k_is)
    (case a5 => k_is)
    (case l5 => k_is)
    (case c5 => k_is)
    (case k5 => k_is)
    (case a6 => k_is)
    (case l6 => k_is)
    (case c6 => k_is)
    (case k6 => k_is)
    (case a7 => k_is)
    (case l7 => k_is)
    (case c7 => k_is)
    (case k7 => k_is)
    (case a8 => k_is)
    (case l8 => k_is)
    (case c8 => k_is)
    (case k8 => k_is)
    (case a9 => k_is)
    (case l9 => k_is)
    (case c9 => k_is)
    (case k9 => k_is)
    (case a10 => k_is)
    (case l10 => k_is)
    (case c10 => k_is)
    (case k10 => k_is)
    (case a11 => k_is)
    (case l11 => k_is)
    (case c11 => k_is)
    (case k11 => k_is)
    (case a12 => k_is)
    (case l12 => k_is)
    (case c12 => k_is)
    (case k12 => k_is)
    (case a13 => k_is)
    (case l13 => k_is)
    (case c13 => k_is)
    (case k13 => k_is)
    (case a14 => k_is)
    (case l14 => k_is)
    (case c14 => k_is)
    (case k14 => k_is)
    (case a15 => k_is)
    (case l15 => k_is)
    (case c15 => k_is)
    (case k15 => k_is)
    (case a16 => k_is)
    (case l16 => k_is)
    (case c16 => k_is)
    (case k16 => k_is)
    (case a17 => k_is)
    (case l17 => k_is)
    (case c17 => k_is)
    (case k17 => k_is)
    (case a18 => k_is)
    (case l18 => k_is)
    (case c18 => k_is)
    (case k18 => k_is)
    (case z_bool => k_is)
    (case z_enumerate => k_is)
    (case z_int => k_is)
    (case z_isinstance => k_is)
    (case z_len => k_is)
    (case z_list => k_is)
    (case z_max => k_is)
    (case z_min => k_is)
    (case z_range => k_is)
    (case z_repr => k_is)
    (case z_str => k_is)
    (case z_tuple => k_is)
